import PyProof.Rows.All
import Wide.All
import OpenK.AllK
import Wide.FinOn
import PyProof.EqAt
import PyProof.EqKinds
import PyProof.TupleCall
import KE.BitLaws
import Open.SpecLaws
import KE.OsHead
import KE.OsGo
import Sd07Spec
import PySem.Challenge.RW0_joinedobjects_s01_join
import PySem.Challenge.RW_joinedobjects_s01_join
-- CHANGE: your row's module here, as the last of these rows
set_option Elab.async false
set_option linter.all false
set_option maxRecDepth 100000
/-! THE HAND LAYER, for ints, bools, texts, own classes, lists, tuples, dicts, comprehensions, walks over dicts, enumerate, zip, reversed, texts, calls, loops. Paste it whole ahead of your own text; what your proof does not reach may be deleted. -/
namespace L2
open PySem PySem.Spec PyProof.Rows
/-- a key: an int or a str -/
abbrev Key := Sum Int Str
def keyIs : Key → Value → Bool
  | .inl k, v => Value.isInt k v
  | .inr x, v => Value.isStrOf x v
def keyH (w : World) : Key → Int
  | .inl k => hashInt k
  | .inr x => hashStr w x
theorem keyIs_shape : ∀ {k : Key} {v : Value}, keyIs k v = true → (∃ i t, k = Sum.inl i ∧ v = Value.int i t) ∨ (∃ x t, k = Sum.inr x ∧ v = Value.str x t)
  | .inl i, v, h => by
    obtain ⟨t, e⟩ := Value.isInt_shape (k := i) (v := v) h
    exact .inl ⟨i, t, rfl, e⟩
  | .inr x, v, h => by
    obtain ⟨t, e⟩ := Value.isStrOf_shape (x := x) (v := v) h
    exact .inr ⟨x, t, rfl, e⟩
theorem keyIs_int (i : Int) (t : Tok) : keyIs (.inl i) (.int i t) = true := by simp [keyIs, Value.isInt]
theorem keyIs_str (x : Str) (t : Tok) : keyIs (.inr x) (.str x t) = true := by simp [keyIs, Value.isStrOf]
theorem key_ll (a b : Int) : decide ((Sum.inl a : Key) = Sum.inl b) = (a == b) := by
  by_cases e : a = b
  · subst e; simp
  · have h : ¬ (Sum.inl a : Key) = Sum.inl b := fun q => e (Sum.inl.inj q)
    rw [decide_eq_false h]
    exact (beq_eq_false_iff_ne.mpr e).symm
theorem key_rr (a b : Str) : decide ((Sum.inr a : Key) = Sum.inr b) = decide (a = b) := by
  by_cases e : a = b
  · subst e; simp
  · have h : ¬ (Sum.inr a : Key) = Sum.inr b := fun q => e (Sum.inr.inj q)
    rw [decide_eq_false h, decide_eq_false e]
theorem key_lr (a : Int) (b : Str) : decide ((Sum.inl a : Key) = Sum.inr b) = false := decide_eq_false (fun q => nomatch q)
theorem key_rl (a : Str) (b : Int) : decide ((Sum.inr a : Key) = Sum.inl b) = false := decide_eq_false (fun q => nomatch q)
def mixKind (prog : Program) (w : World) : PySem.KeyKind prog w Key where
  is := keyIs
  hash := keyH w
  inj := fun v a b ha hb => by
    rcases keyIs_shape ha with ⟨i, t, rfl, rfl⟩ | ⟨x, t, rfl, rfl⟩
    · rcases keyIs_shape hb with ⟨j, u, rfl, e⟩ | ⟨y, u, rfl, e⟩
      · injection e with e1 _; rw [e1]
      · exact nomatch e
    · rcases keyIs_shape hb with ⟨j, u, rfl, e⟩ | ⟨y, u, rfl, e⟩
      · exact nomatch e
      · injection e with e1 _; rw [e1]
  byValue := fun k v h => by
    rcases keyIs_shape h with ⟨i, t, rfl, rfl⟩ | ⟨x, t, rfl, rfl⟩ <;> rfl
  pyHash := fun hv h => by
    rcases keyIs_shape hv with ⟨i, t, rfl, rfl⟩ | ⟨x, t, rfl, rfl⟩
    · exact wpAny_pyHash_int h
    · exact wpAny_pyHash_str h
  eqBool := fun hu hv h => by
    rcases keyIs_shape hu with ⟨i, t, rfl, rfl⟩ | ⟨x, t, rfl, rfl⟩
    · rcases keyIs_shape hv with ⟨j, u, rfl, rfl⟩ | ⟨y, u, rfl, rfl⟩
      · rw [key_ll] at h; exact wpAny_eqBool_int h
      · rw [key_lr] at h; exact SeqAt.EqAt.int_str i t y u _ _ _ _ h
    · rcases keyIs_shape hv with ⟨j, u, rfl, rfl⟩ | ⟨y, u, rfl, rfl⟩
      · rw [key_rl] at h; exact SeqAt.EqAt.str_int x t j u _ _ _ _ h
      · rw [key_rr] at h; exact wpAny_eqBool_str h
  «strs» := fun k x t v h => by
    rcases keyIs_shape h with ⟨i, u, rfl, e⟩ | ⟨y, u, rfl, e⟩
    · exact nomatch e
    · injection e with e1 _
      subst e1
      cases v <;> rfl
theorem mixKind_int (prog : Program) (w : World) (i : Int) (t : Tok) : (mixKind prog w).is (.inl i) (.int i t) = true := keyIs_int i t
theorem mixKind_str (prog : Program) (w : World) (x : Str) (t : Tok) : (mixKind prog w).is (.inr x) (.str x t) = true := keyIs_str x t
end L2
namespace L2
open PySem PySem.Spec PyProof.Rows
/-- a value, without the heap -/
inductive V where
  | non | bl (b : Bool) | int (i : Int) | str (x : Str) | byt (b : Array UInt8) | flt (b : UInt64) | ref (a : Addr) | ty (n : String)
  deriving DecidableEq
def RelV : V → Value → Prop
  | .non, u => u = Value.none
  | .bl b, u => u = Value.bool b
  | .int i, u => ∃ t, u = Value.int i t
  | .str x, u => ∃ t, u = Value.str x t
  | .byt b, u => ∃ t, u = Value.bytes b t
  | .flt b, u => ∃ t, u = Value.float b t
  | .ref a, u => u = Value.ref a
  | .ty n, u => u = Value.type n
abbrev Vals : List V → List Value → Prop := Paired RelV
theorem Vals.length {xs : List V} {us : List Value} (r : Vals xs us) : xs.length = us.length := Paired.length r
theorem Vals.get : ∀ {xs : List V} {us : List Value} {i : Nat} {x : V}, Vals xs us → xs[i]? = some x → ∃ u, us[i]? = some u ∧ RelV x u
  | _, _, _, _, .nil, e => by simp at e
  | _, _, 0, _, .cons r _, e => by simp at e; subst e; exact ⟨_, rfl, r⟩
  | _, _, i + 1, x, .cons _ t, e => by
    obtain ⟨u, h1, h2⟩ := Vals.get (i := i) (x := x) t (by simpa using e)
    exact ⟨u, by simpa using h1, h2⟩
theorem Vals.set {x : V} {u : Value} (r : RelV x u) : ∀ {xs : List V} {us : List Value} (i : Nat), Vals xs us → Vals (xs.set i x) (us.set i u)
  | _, _, _, .nil => .nil
  | _, _, 0, .cons _ t => .cons r t
  | _, _, i + 1, .cons q t => .cons q (Vals.set r i t)
theorem Vals.append : ∀ {xs ys : List V} {us ws : List Value}, Vals xs us → Vals ys ws → Vals (xs ++ ys) (us ++ ws)
  | _, _, _, _, .nil, s => s
  | _, _, _, _, .cons r t, s => .cons r (Vals.append t s)
theorem Vals.take : ∀ {xs : List V} {us : List Value} (n : Nat), Vals xs us → Vals (xs.take n) (us.take n)
  | _, _, 0, _ => .nil
  | _, _, _ + 1, .nil => .nil
  | _, _, n + 1, .cons r t => .cons r (Vals.take n t)
theorem Vals.drop : ∀ {xs : List V} {us : List Value} (n : Nat), Vals xs us → Vals (xs.drop n) (us.drop n)
  | _, _, 0, r => r
  | _, _, _ + 1, .nil => .nil
  | _, _, n + 1, .cons _ t => Vals.drop n t
def RelO : Option V → Option Value → Prop
  | some v, some u => RelV v u
  | none, none => True
  | _, _ => False
def KV {κ : Type} : List (κ × V) → List (κ × Value) → Prop := Paired fun (p : κ × V) (q : κ × Value) => p.1 = q.1 ∧ RelV p.2 q.2
/-- a key of a dict (00_mix): an int or a text -/
def kV : Key → V
  | .inl i => .int i
  | .inr x => .str x
/-- what stands at a tracked address -/
inductive HO where
  /-- a list -/
  | lst (xs : List V)
  /-- a tuple (never changes) -/
  | tup (xs : List V)
  /-- a dict whose keys are ints and texts; one whose keys are tuples of ints and texts (the empty one is both) -/
  | dK (kvs : List (Key × V)) | dT (kvs : List (List Key × V))
  /-- a set of ints: its members, its size -/
  | set (S : Int → Bool) (n : Nat)
  /-- an instance of the class at C, its dict at dx, its attributes -/
  | ins (C dx : Addr) (fs : List (Str × V))
  /-- the dict of the instance at x -/
  | own (x : Addr)
  /-- the dict of an exception -/
  | xd (fs : List (Str × V))
  /-- a bound method, f of x -/
  | met (f x : Addr)
  /-- a range object lo, lo + 1, .. below hi -/
  | rng (lo hi : Int)
  /-- a thing that is known to the object (the script; a dict while a loop walks it): read, never written while it is so -/
  | frz (o : Obj) (u : HO)
  /-- a code object's table -/
  | tbl (ps : Array Value)
  /-- any other thing, by what is true of its one object (a def of one's own: SetO a S n := HO.ext fun h => ..) -/
  | ext (φ : Heap → Prop)
abbrev Hp := Addr → Option HO
def upd (H : Hp) (a : Addr) (o : HO) : Hp := fun b => if b = a then some o else H b
theorem upd_same {H : Hp} {a : Addr} {o : HO} : upd H a o a = some o := by unfold upd; rw [if_pos rfl]
theorem upd_ne {H : Hp} {a b : Addr} {o : HO} (h : b ≠ a) : upd H a o b = H b := by unfold upd; rw [if_neg h]
/-- two objects of different content stand apart -/
theorem ne_of {H : Hp} {a b : Addr} {o u : HO} (h : H a = some o) (h' : H b = some u) (d : o ≠ u) : a ≠ b := by
  intro e; subst e; rw [h] at h'; exact d (Option.some.inj h')
theorem ne_of_none {H : Hp} {a b : Addr} {o : HO} (h : H a = some o) (h' : H b = none) : a ≠ b := by
  intro e; subst e; rw [h] at h'; cases h'
section
variable (P : Program) (w : World)
def ObjOk (H : Hp) (h : Heap) (a : Addr) : HO → Prop
  | .lst xs => xs.length ≤ sizeLine ∧ ∃ (its : List Value) (n : Nat), Vals xs its ∧ h.get? a = some { cls := .type "list", data := .seq its.toArray n }
  | .tup xs => xs.length ≤ sizeLine ∧ ∃ its : List Value, Vals xs its ∧ IsTup h a its.toArray
  | .dK kvs => kvs.length ≤ sizeLine ∧ (a == sysModules) = false ∧ ∃ vs, KV kvs vs ∧ h.DictOf (mixKind P w) a vs
  | .dT kvs => kvs.length ≤ sizeLine ∧ (a == sysModules) = false ∧ ∃ xs : List (List Key × Addr × Value),
      Paired (fun (p : List Key × V) (q : List Key × Addr × Value) => p.1 = q.1 ∧ H q.2.1 = some (.tup (p.1.map kV)) ∧ RelV p.2 q.2.2) kvs xs ∧
      ∃ o es ep, h.get? a = some o ∧ o.ExactDict ∧ o.data = .dict es ep ∧ es.toList = xs.map (entryOfKey (tupleKind (mixKind P w))) ∧ (xs.map (·.1)).Nodup
  | .set S n => h.SetOf (intKind P w) a S n
  | .ins C dx fs => H dx = some (.own a) ∧ fs.length ≤ 1000 ∧ dx ≠ a ∧ h.get? a = some (PySem.W.instObj C dx) ∧
      ∃ mA, h.Ns1 dx mA ∧ (∀ f, RelO (fs.lookup f) (mA f)) ∧ PySem.Within mA (fs.map (·.1))
  | .own _ => ∃ o, h.get? a = some o
  | .xd fs => ∃ mA, h.Ns1 a mA ∧ ∀ f, RelO (fs.lookup f) (mA f)
  | .rng lo hi => ∃ t u v, h.get? a = some { cls := .type "range", data := .fields #[.int lo t, .int hi u, .int 1 v] }
  | .frz o u => h.get? a = some o ∧ ObjOk H h a u
  | .tbl ps => h.get? a = some { cls := .none, data := .fields ps }
  | .met f x => h.get? a = some (PySem.W.methodObj (.ref f) (.ref x))
  | .ext φ => φ h ∧ (∃ o, h.get? a = some o) ∧ ∀ h1 h2 : Heap, φ h1 → (∀ o, h1.get? a = some o → h2.get? a = some o) → φ h2
/-- the abstract heap is held -/
def HOk (H : Hp) (h : Heap) : Prop := ∀ a o, H a = some o → ObjOk P w H h a o
end
section
variable {P : Program} {w : World} {H H' : Hp} {h h' : Heap} {a : Addr} {o : HO}
theorem ObjOk.lt (x : ObjOk P w H h a o) : a < h.objs.size := by
  cases o with
  | lst xs => obtain ⟨_, _, _, _, e⟩ := x; exact Heap.lt_size e
  | tup xs => obtain ⟨_, _, _, p⟩ := x; exact p.lt
  | dK kvs => obtain ⟨_, _, _, _, o, _, _, e, _⟩ := x; exact Heap.lt_size e
  | dT kvs => obtain ⟨_, _, _, _, o, _, _, e, _⟩ := x; exact Heap.lt_size e
  | set S n => obtain ⟨o, _, _, _, e, _⟩ := x; exact Heap.lt_size e
  | ins C dx fs => obtain ⟨_, _, _, e, _⟩ := x; exact Heap.lt_size e
  | own y => obtain ⟨_, e⟩ := x; exact Heap.lt_size e
  | xd fs => obtain ⟨_, ⟨_, _, _, e, _⟩, _⟩ := x; exact Heap.lt_size e
  | rng lo hi => obtain ⟨_, _, _, e⟩ := x; exact Heap.lt_size e
  | frz ob u => obtain ⟨e, _⟩ := x; exact Heap.lt_size e
  | tbl ps => exact Heap.lt_size (show h.get? a = some _ from x)
  | met f y => exact Heap.lt_size (show h.get? a = some _ from x)
  | ext φ => obtain ⟨_, ⟨_, e⟩, _⟩ := x; exact Heap.lt_size e
theorem Paired.mapP {α β : Type} {F G : α → β → Prop} : ∀ {l₁ : List α} {l₂ : List β}, Paired F l₁ l₂ → (∀ a b, F a b → G a b) → Paired G l₁ l₂
  | _, _, .nil, _ => .nil
  | _, _, .cons r t, f => .cons (f _ _ r) (Paired.mapP t f)
/-- what an object's description leans on: its own object, its own dict, the tuples -/
theorem ObjOk.stay (x : ObjOk P w H h a o) (k : ∀ b u, (b = a ∨ H b = some (.own a)) → h.get? b = some u → h'.get? b = some u)
    (ho : ∀ b, H b = some (.own a) → H' b = some (.own a)) (ht : ∀ b xs, H b = some (.tup xs) → H' b = some (.tup xs)) : ObjOk P w H' h' a o := by
  induction o with
  | lst xs => obtain ⟨z, its, n, r, e⟩ := x; exact ⟨z, its, n, r, k _ _ (.inl rfl) e⟩
  | tup xs => obtain ⟨z, its, r, ob, e, c⟩ := x; exact ⟨z, its, r, ob, k _ _ (.inl rfl) e, c⟩
  | dK kvs => obtain ⟨z, y, vs, r, ob, es, ep, e, c⟩ := x; exact ⟨z, y, vs, r, ob, es, ep, k _ _ (.inl rfl) e, c⟩
  | dT kvs =>
    obtain ⟨z, y, xs, r, ob, es, ep, e, c⟩ := x
    exact ⟨z, y, xs, Paired.mapP r fun p q z => ⟨z.1, ht _ _ z.2.1, z.2.2⟩, ob, es, ep, k _ _ (.inl rfl) e, c⟩
  | set S n => obtain ⟨ob, es, ep, t, e, c⟩ := x; exact ⟨ob, es, ep, t, k _ _ (.inl rfl) e, c⟩
  | ins C dx fs =>
    obtain ⟨d, z, ne, e, mA, ⟨od, es, ep, e2, c⟩, r⟩ := x
    exact ⟨ho _ d, z, ne, k _ _ (.inl rfl) e, mA, ⟨od, es, ep, k _ _ (.inr d) e2, c⟩, r⟩
  | own y => obtain ⟨ob, e⟩ := x; exact ⟨ob, k _ _ (.inl rfl) e⟩
  | xd fs => obtain ⟨mA, ⟨od, es, ep, e, c⟩, r⟩ := x; exact ⟨mA, ⟨od, es, ep, k _ _ (.inl rfl) e, c⟩, r⟩
  | rng lo hi => obtain ⟨t, u, v, e⟩ := x; exact ⟨t, u, v, k _ _ (.inl rfl) e⟩
  | frz ob u ih => obtain ⟨e, q⟩ := x; exact ⟨k _ _ (.inl rfl) e, ih q⟩
  | tbl ps =>
    have e : h.get? a = some { cls := .none, data := .fields ps } := x
    show h'.get? a = some { cls := .none, data := .fields ps }
    exact k a _ (.inl rfl) e
  | met f y =>
    have e : h.get? a = some (PySem.W.methodObj (.ref f) (.ref y)) := x
    show h'.get? a = some (PySem.W.methodObj (.ref f) (.ref y))
    exact k a _ (.inl rfl) e
  | ext φ => obtain ⟨p, ⟨o, e⟩, st⟩ := x; exact ⟨st _ _ p fun o q => k _ _ (.inl rfl) q, ⟨o, k _ _ (.inl rfl) e⟩, st⟩
theorem HOk.lt (x : HOk P w H h) (e : H a = some o) : a < h.objs.size := (x a o e).lt
theorem HOk.fresh (x : HOk P w H h) (e : h.objs.size ≤ a) : H a = none := by
  cases q : H a with
  | none => rfl
  | some u => exact absurd (Nat.lt_of_lt_of_le (x.lt q) e) (Nat.lt_irrefl _)
/-- every object of the heap is kept -/
theorem HOk.kept (x : HOk P w H h) (k : ∀ b u, h.get? b = some u → h'.get? b = some u) : HOk P w H h' := fun a o e =>
  (x a o e).stay (fun b u _ q => k b u q) (fun _ q => q) fun _ _ q => q
/-- a new object is laid and tracked -/
theorem HOk.laid (x : HOk P w H h) (k : ∀ b u, h.get? b = some u → h'.get? b = some u) (hp : h.objs.size ≤ a) (new : ObjOk P w (upd H a o) h' a o) : HOk P w (upd H a o) h' := fun b u e => by
  have hn := x.fresh hp
  by_cases hb : b = a
  · subst hb; rw [upd_same] at e; cases e; exact new
  · rw [upd_ne hb] at e
    exact (x b u e).stay (fun c v _ q => k c v q) (fun c q => by rw [upd_ne (ne_of_none q hn)]; exact q) fun c xs q => by rw [upd_ne (ne_of_none q hn)]; exact q
end
/-- what may be read as u: it is u, or a known u -/
def Rd (H : Hp) (a : Addr) (u : HO) : Prop := H a = some u ∨ ∃ o, H a = some (.frz o u)
theorem Rd.ok {P : Program} {w : World} {H : Hp} {h : Heap} {a : Addr} {u : HO} (r : Rd H a u) (x : HOk P w H h) : ObjOk P w H h a u := by
  rcases r with r | ⟨o, r⟩
  · exact x a u r
  · obtain ⟨_, q⟩ := x a _ r
    exact q
/-- what may be written -/
def Mut : Option HO → Prop
  | some (.lst _) => True
  | some (.dK _) => True
  | some (.dT _) => True
  | some (.set _ _) => True
  | some (.ins _ _ _) => True
  | some (.ext _) => True
  | _ => False
section
variable {P : Program} {w : World} {H : Hp} {h h' : Heap} {x e : Addr} {o' : HO}
/-- the object at e is changed: x itself, or the dict of the instance x -/
theorem HOk.write (ok : HOk P w H h) (mu : Mut (H x)) (he : e = x ∨ H e = some (.own x)) (k : ∀ b u, b ≠ e → h.get? b = some u → h'.get? b = some u) (heo : ∃ u, h'.get? e = some u)
    (new : ObjOk P w (upd H x o') h' x o') : HOk P w (upd H x o') h' := fun b u q => by
  have nown : ∀ c y, H c = some (.own y) → c ≠ x := fun c y r z => by subst z; rw [r] at mu; exact mu
  have ntup : ∀ c xs, H c = some (.tup xs) → c ≠ x := fun c xs r z => by subst z; rw [r] at mu; exact mu
  by_cases hb : b = x
  · subst hb; rw [upd_same] at q; cases q; exact new
  · rw [upd_ne hb] at q
    by_cases hbe : b = e
    · have q' : H b = some (.own x) := by
        rcases he with z | z
        · exact absurd (hbe.trans z) hb
        · rw [hbe]; exact z
      rw [q] at q'; cases q'
      obtain ⟨v, hv⟩ := heo
      exact ⟨v, by rw [hbe]; exact hv⟩
    · refine (ok b u q).stay (fun c v hc r => k c v ?_ r) (fun c r => by rw [upd_ne (nown c b r)]; exact r) fun c xs r => by rw [upd_ne (ntup c xs r)]; exact r
      rcases hc with rfl | hc
      · exact hbe
      · rintro rfl
        rcases he with z | z
        · exact nown c b hc z
        · rw [hc] at z; cases z; exact hb rfl
end
/-! ### kept unless tracked; of the frames at fs (the callers') the slots may change (an exception that passes writes there); of the records at ex (iterators) nothing is said -/
structure Un (fs ex : List Addr) (H H' : Hp) (h h' : Heap) : Prop where
  keep : ∀ b o, h.get? b = some o → H b = none → b ∉ fs → b ∉ ex → h'.get? b = some o
  slot : ∀ b o, h.get? b = some o → H b = none → b ∈ fs → b ∉ ex → ∃ sl, h'.get? b = some { o with slots := sl }
  free : ∀ b o, h.get? b = some o → H b = none → b ∉ ex → H' b = none
  there : ∀ b o, h.get? b = some o → b ∉ ex → ∃ o', h'.get? b = some o'
  tups : ∀ b xs, H b = some (.tup xs) → H' b = some (.tup xs)
  frzs : ∀ b o u, H b = some (.frz o u) → H' b = some (.frz o u)
  tbls : ∀ b ps, H b = some (.tbl ps) → ∃ more, H' b = some (.tbl (ps ++ more))
section
variable {fs fs' ex ex' : List Addr} {H H1 H2 : Hp} {h h1 h2 h' : Heap} {a x e : Addr} {o : HO}
theorem Un.any (u : Un fs ex H H1 h h1) {b : Addr} {ob : Obj} (q : h.get? b = some ob) (n : H b = none) (hx : b ∉ ex) : ∃ sl, h1.get? b = some { ob with slots := sl } := by
  by_cases hb : b ∈ fs
  · exact u.slot b ob q n hb hx
  · exact ⟨ob.slots, u.keep b ob q n hb hx⟩
theorem Un.kept (k : ∀ b u, h.get? b = some u → h'.get? b = some u) : Un fs ex H H h h' :=
  ⟨fun b ob q _ _ _ => k b ob q, fun b ob q _ _ _ => ⟨ob.slots, k b ob q⟩, fun _ _ _ n _ => n, fun b ob q _ => ⟨ob, k b ob q⟩, fun _ _ q => q, fun _ _ _ q => q, fun _ ps q => ⟨#[], by rw [q]; simp⟩⟩
theorem Un.refl : Un fs ex H H h h := Un.kept fun _ _ q => q
theorem Un.laid (k : ∀ b u, h.get? b = some u → h'.get? b = some u) (hp : h.objs.size ≤ a) (hn : H a = none) : Un fs ex H (upd H a o) h h' where
  keep := fun b u q _ _ _ => k b u q
  slot := fun b u q _ _ _ => ⟨u.slots, k b u q⟩
  free := fun b u q n _ => by rw [upd_ne (Nat.ne_of_lt (Nat.lt_of_lt_of_le (Heap.lt_size q) hp))]; exact n
  there := fun b u q _ => ⟨u, k b u q⟩
  tups := fun b xs q => by rw [upd_ne (ne_of_none q hn)]; exact q
  frzs := fun b u xs q => by rw [upd_ne (ne_of_none q hn)]; exact q
  tbls := fun b ps q => ⟨#[], by rw [upd_ne (ne_of_none q hn), q]; simp⟩
theorem Un.write (mu : Mut (H x)) (he : e = x ∨ H e = some (.own x)) (k : ∀ b u, b ≠ e → h.get? b = some u → h'.get? b = some u) (heo : ∃ u, h'.get? e = some u) : Un fs ex H (upd H x o) h h' := by
  have hx : ∀ b, H b = none → b ≠ x := fun b n z => by subst z; rw [n] at mu; exact mu
  have hb : ∀ b, H b = none → b ≠ e := fun b n z => by
    subst z
    rcases he with r | r
    · exact hx b n r
    · rw [n] at r; cases r
  have hm : ∀ b u, H b = some u → ¬ Mut (some u) → b ≠ x := fun b u q nm z => by subst z; rw [q] at mu; exact nm mu
  refine ⟨fun b u q n _ _ => k b u (hb b n) q, fun b u q n _ _ => ⟨u.slots, k b u (hb b n) q⟩, fun b u q n _ => by rw [upd_ne (hx b n)]; exact n, fun b u q _ => ?_,
    fun b xs q => by rw [upd_ne (hm b _ q fun z => z)]; exact q, fun b u xs q => by rw [upd_ne (hm b _ q fun z => z)]; exact q, fun b ps q => ⟨#[], by rw [upd_ne (hm b _ q fun z => z), q]; simp⟩⟩
  by_cases hbe : b = e
  · subst hbe; exact heo
  · exact ⟨u, k b u hbe q⟩
end
/-! ### the heap without what is tracked -/
def trk (h : Heap) (H : Hp) : List Addr := (List.range h.objs.size).filter fun a => (H a).isSome
def hidT (h : Heap) (H : Hp) : Heap := PySem.W.hideAll h (trk h H)
theorem hidT_size (h : Heap) (H : Hp) : (hidT h H).objs.size = h.objs.size := PySem.W.hideAll_size _ _
theorem hidT_get {h : Heap} {H : Hp} {b : Addr} {o : Obj} (e : h.get? b = some o) (n : H b = none) : (hidT h H).get? b = some o :=
  PySem.W.hideAll_get _ e fun hm => by
    have q : (H b).isSome = true := (List.mem_filter.mp hm).2
    rw [n] at q; simp at q
theorem of_hidT {h : Heap} {H : Hp} {b : Addr} {o : Obj} (e : (hidT h H).get? b = some o) : h.get? b = some o ∧ H b = none := by
  have e' : h.get? b = some o := PySem.W.of_hideAll (trk h H) e
  refine ⟨e', ?_⟩
  cases q : H b with
  | none => rfl
  | some x =>
    have hm : b ∈ trk h H := List.mem_filter.mpr ⟨List.mem_range.mpr (Heap.lt_size e'), by simp [q]⟩
    have z : (hidT h H).get? b = none := PySem.W.hideAll_none (trk h H) hm
    rw [z] at e; cases e
/-! ### OpenK's ledger, filled with every new object but one -/
end L2
namespace L2
open PySem PySem.Spec PyProof.Rows
/-- the module's facts, over the base: the heap at the law's entry without what is tracked there -/
structure Mod (K : PySem.W.Frag) (mg : Str → Option Value) (base : Heap) : Prop where
  kin : K.In base
  glob : base.Ns mainGlobals mg
  blt : ∃ mb, base.Ns builtinsNs mb ∧ ∀ x : Str, x ≠ "__name__" → mb x = bootBuiltins x
  nolimit : base.NoLimit
/-- the context: a def's body (or a comprehension's block) running. base: fixed through the whole law; s₀, H₀: the entry; outer: the frames whose slots others may change (a def's callers); stack: all frames that run;
   ex: iterators that were made ahead of the entry and are walked here (a comprehension's); fn: the names whose cells were made at the entry (a def: all; a comprehension's block: its own); calm: not within an except suite; pn: pins that every state bears; xe: what is wanted of an exception that leaves the code -/
structure Cx where
  prog : Program
  w : World
  K : PySem.W.Frag
  mg : Str → Option Value
  base : Heap
  A : Around
  N : List Str
  s_0 : Shared
  H_0 : Hp
  env : Env
  outer : List Env
  stack : List Env
  ex : List Addr
  fn : Str → Bool
  calm : Bool
  pn : List (Addr × Obj)
  xe : Value → Shared → Prop
/-- the callers' frames -/
def frs (l : List Env) : List Addr := l.filterMap (·.frame)
abbrev Cx.fs (X : Cx) : List Addr := frs X.outer
def Vis (sc : Scope) (x : Str) : Prop := sc.names.lookup x = some .local ∨ sc.names.lookup x = some .cell ∨ sc.names.lookup x = some .free
def Loc (sc : Scope) (x : Str) : Prop := sc.names.lookup x = some .local ∨ sc.names.lookup x = some .cell
def Look (env : Env) (h : Heap) (m : Str → Option Value) (x : Str) (u : Value) : Prop :=
  (env.kindOf x = some .local ∧ m x = some u) ∨ ((env.kindOf x = some .cell ∨ env.kindOf x = some .free) ∧ ∃ c, env.cells.lookup x = some c ∧ h.IsCell c (some u))
structure Cx.Ok (X : Cx) : Prop where
  mod : Mod X.K X.mg X.base
  kind : X.env.scope.kind = .function
  glob : X.env.globals = mainGlobals
  blt : X.env.builtins = builtinsNs
  above : X.s_0.heap.objs.size ≤ X.env.locals
  inj : ∀ x y c, X.env.cells.lookup x = some c → X.env.cells.lookup y = some c → x = y
  has : ∀ x, (X.env.kindOf x = some .cell ∨ X.env.kindOf x = some .free) → ∃ c, X.env.cells.lookup x = some c
  cab : ∀ x c, X.fn x = true → X.env.cells.lookup x = some c → X.s_0.heap.objs.size ≤ c
  hd : X.calm = true → X.A.handled = none
  frames : X.A.frames = some X.stack
  stk : X.stack = X.outer ∨ (X.stack = X.env :: X.outer ∧ X.env.frame = some X.env.locals)
  exf : ∀ b ∈ X.ex, b ≠ X.env.locals ∧ ∀ x c, X.env.cells.lookup x = some c → c ≠ b
  bs : ∀ b o, X.base.get? b = some o → X.s_0.heap.get? b = some o ∧ X.H_0 b = none
  bsz : X.base.objs.size ≤ X.s_0.heap.objs.size
  noex : ∀ b o, X.base.get? b = some o → b ∉ X.ex
  exfs : ∀ b ∈ X.ex, b ∉ X.fs
  funs : X.s_0.heap.FunFrames X.base X.outer
  frf : ∀ b ∈ X.fs, X.H_0 b = none
structure Inv (X : Cx) (pins : List (Addr × Obj)) (σ : List (Option V)) (H : Hp) (s : Shared) : Prop where
  ok : X.Ok
  os : s.os = X.s_0.os
  bare : AllBare s.gens
  base : Un X.fs X.ex X.H_0 H X.s_0.heap s.heap
  loc : ∃ m, s.heap.Ns X.env.locals m ∧ ∀ (i : Nat) (x : Str) (v : V), X.N[i]? = some x → σ[i]? = some (some v) → Vis X.env.scope x → ∃ u, RelV v u ∧ Look X.env s.heap m x u
  cell : ∀ x c, X.env.cells.lookup x = some c → ∃ v, s.heap.IsCell c v
  free : H X.env.locals = none
  freeC : ∀ x c, X.env.cells.lookup x = some c → H c = none
  pin : ∀ p ∈ X.pn ++ pins, s.heap.get? p.1 = some p.2 ∧ H p.1 = none ∧ p.1 ≠ X.env.locals ∧ p.1 ∉ X.fs ∧ ∀ v, p.2.data ≠ .cell v
  hok : HOk X.prog X.w H s.heap
  len : σ.length = X.N.length
section
variable {X : Cx} {pins : List (Addr × Obj)} {σ : List (Option V)} {H H' : Hp} {s : Shared} {h' : Heap}
theorem Cx.Ok.nofr (ok : X.Ok) {b : Addr} {o : Obj} (e : X.base.get? b = some o) : b ∉ X.fs := fun hb => by
  have := (ok.funs.mem hb).1
  rw [e] at this; cases this
theorem Inv.bs (I : Inv X pins σ H s) : ∀ b o, X.base.get? b = some o → s.heap.get? b = some o ∧ H b = none := fun b o e =>
  ⟨I.base.keep b o (I.ok.bs b o e).1 (I.ok.bs b o e).2 (I.ok.nofr e) (I.ok.noex b o e), I.base.free b o (I.ok.bs b o e).1 (I.ok.bs b o e).2 (I.ok.noex b o e)⟩
theorem Inv.bk (I : Inv X pins σ H s) : ∀ b o, X.base.get? b = some o → s.heap.get? b = some o := fun b o e => (I.bs b o e).1
theorem Inv.mod (I : Inv X pins σ H s) : Mod X.K X.mg X.base := I.ok.mod
theorem Inv.kIn (I : Inv X pins σ H s) : X.K.In s.heap := I.ok.mod.kin.keeps I.bk
theorem Inv.lt (I : Inv X pins σ H s) : X.env.locals < s.heap.objs.size := let ⟨_, hn, _⟩ := I.loc; hn.lt
theorem Inv.sz (I : Inv X pins σ H s) : X.s_0.heap.objs.size ≤ s.heap.objs.size := Nat.le_trans I.ok.above (Nat.le_of_lt I.lt)
theorem Inv.nofs (I : Inv X pins σ H s) {a : Addr} (h : s.heap.objs.size ≤ a) : a ∉ X.fs := fun hb => by
  obtain ⟨_, o, ho, _⟩ := I.ok.funs.mem hb
  exact absurd (Nat.lt_of_lt_of_le (Heap.lt_size ho) (Nat.le_trans I.sz h)) (Nat.lt_irrefl _)
theorem Inv.cne (I : Inv X pins σ H s) : ∀ x c, X.env.cells.lookup x = some c → c ≠ X.env.locals := fun x c e z => by
  obtain ⟨v, o, ho, hd⟩ := I.cell x c e
  obtain ⟨m, ⟨o', es, ep, ho', hd', _⟩, _⟩ := I.loc
  rw [z, ho'] at ho; cases ho; rw [hd'] at hd; cases hd
theorem Inv.funs (I : Inv X pins σ H s) : s.heap.FunFrames X.base X.outer := by
  have all : ∀ (l : List Env), (∀ b ∈ frs l, b ∈ X.fs) → X.s_0.heap.FunFrames X.base l → s.heap.FunFrames X.base l := by
    intro l
    induction l with
    | nil => intro _ _; trivial
    | cons env r ih =>
      intro hs hl
      obtain ⟨hk, ⟨L, o, hf, hn, ho, hd⟩, hr⟩ := hl
      have hL : L ∈ X.fs := hs L (by unfold frs; rw [List.filterMap_cons, hf]; exact List.mem_cons_self)
      obtain ⟨sl, e⟩ := I.base.slot L o ho (I.ok.frf L hL) hL fun z => I.ok.exfs L z hL
      exact ⟨hk, ⟨L, _, hf, hn, e, hd⟩, ih (fun b hb => hs b (by unfold frs; rw [List.filterMap_cons, hf]; exact List.mem_cons_of_mem _ hb)) hr⟩
  exact all X.outer (fun _ hb => hb) I.ok.funs
/-- the frames that run, for a call -/
theorem Inv.stack (I : Inv X pins σ H s) : s.heap.FunFrames X.base X.stack := by
  rcases I.ok.stk with e | ⟨e, hf⟩
  · rw [e]; exact I.funs
  · rw [e]
    obtain ⟨m, hn, _⟩ := I.loc
    refine .cons (by rw [I.ok.kind]; decide) hf hn ?_ I.funs
    exact Heap.get?_none_of_le (Nat.le_trans I.ok.bsz I.ok.above)
theorem Inv.stkSub (I : Inv X pins σ H s) : ∀ b ∈ frs X.stack, b ∈ X.env.locals :: X.fs := fun b hb => by
  rcases I.ok.stk with e | ⟨e, hf⟩
  · rw [e] at hb; exact List.mem_cons_of_mem _ hb
  · rw [e] at hb
    unfold frs at hb
    rw [List.filterMap_cons, hf] at hb
    exact hb
theorem Inv.stkFree (I : Inv X pins σ H s) : ∀ b ∈ frs X.stack, H b = none := fun b hb => by
  rcases List.mem_cons.mp (I.stkSub b hb) with e | hb
  · rw [e]; exact I.free
  · obtain ⟨_, o, ho, _⟩ := I.ok.funs.mem hb
    exact I.base.free b o ho (I.ok.frf b hb) fun z => I.ok.exfs b z hb
/-- THE STEP: the untracked objects but the frame and the records at ch are kept (the callers' frames up to slots), the frame's map is kept, the new abstract heap is held -/
theorem Inv.step {g' : Array GenState} {t' : Nat} {d' : Drawn} {ch : List Addr} (I : Inv X pins σ H s)
    (hch : ∀ b ∈ ch, (b ∈ X.ex ∨ X.s_0.heap.objs.size ≤ b) ∧ b ≠ X.env.locals ∧ (∀ x c, X.env.cells.lookup x = some c → c ≠ b) ∧ ∀ p ∈ X.pn ++ pins, p.1 ≠ b)
    (keep : ∀ b o, b ≠ X.env.locals → b ∉ X.fs → b ∉ ch → s.heap.get? b = some o → H b = none → h'.get? b = some o)
    (slot : ∀ b o, b ≠ X.env.locals → b ∈ X.fs → b ∉ ch → s.heap.get? b = some o → H b = none → ∃ sl, h'.get? b = some { o with slots := sl }) (free : ∀ b o, b ∉ ch → s.heap.get? b = some o → H b = none → H' b = none)
    (there : ∀ b o, b ∉ ch → s.heap.get? b = some o → ∃ o', h'.get? b = some o')
    (tups : ∀ b xs, H b = some (.tup xs) → H' b = some (.tup xs)) (frzs : ∀ b o u, H b = some (.frz o u) → H' b = some (.frz o u)) (tbls : ∀ b ps, H b = some (.tbl ps) → ∃ more, H' b = some (.tbl (ps ++ more)))
    (ns : ∀ m, s.heap.Ns X.env.locals m → h'.Ns X.env.locals m) (hok : HOk X.prog X.w H' h') (hg : AllBare g') :
    Inv X pins σ H' { s with heap := h', gens := g', drawn := d', toks := t' } := by
  have neL : ∀ b o, X.s_0.heap.get? b = some o → b ≠ X.env.locals := fun b o e => Nat.ne_of_lt (Nat.lt_of_lt_of_le (Heap.lt_size e) I.ok.above)
  have neC : ∀ b o, X.s_0.heap.get? b = some o → b ∉ X.ex → b ∉ ch := fun b o e hx hb => by
    rcases (hch b hb).1 with z | z
    · exact hx z
    · exact absurd (Nat.lt_of_lt_of_le (Heap.lt_size e) z) (Nat.lt_irrefl _)
  have cellK : ∀ x c, X.env.cells.lookup x = some c → ∀ v, s.heap.IsCell c v → h'.IsCell c v := fun x c e v ⟨o, ho, hd⟩ => by
    have nch : c ∉ ch := fun z => (hch c z).2.2.1 x c e rfl
    by_cases hc : c ∈ X.fs
    · obtain ⟨sl, q⟩ := slot c o (I.cne x c e) hc nch ho (I.freeC x c e)
      exact ⟨_, q, hd⟩
    · exact ⟨o, keep c o (I.cne x c e) hc nch ho (I.freeC x c e), hd⟩
  refine ⟨I.ok, I.os, hg, ⟨fun b o e n hb hx => ?_, fun b o e n hb hx => ?_, fun b o e n hx => ?_, fun b o e hx => ?_, fun b xs e => tups b xs (I.base.tups b xs e), fun b o xs e => frzs b o xs (I.base.frzs b o xs e), fun b ps e => ?_⟩, ?_, fun x c e => ?_, ?_, fun x c e => ?_, fun p hp => ?_, hok, I.len⟩
  · exact keep b o (neL b o e) hb (neC b o e hx) (I.base.keep b o e n hb hx) (I.base.free b o e n hx)
  · obtain ⟨sl, e1⟩ := I.base.slot b o e n hb hx
    obtain ⟨sl', e2⟩ := slot b _ (neL b o e) hb (neC b o e hx) e1 (I.base.free b o e n hx)
    exact ⟨sl', e2⟩
  · obtain ⟨o', e1⟩ := I.base.there b o e hx
    exact free b o' (neC b o e hx) e1 (I.base.free b o e n hx)
  · obtain ⟨o', e1⟩ := I.base.there b o e hx
    exact there b o' (neC b o e hx) e1
  · obtain ⟨m1, e1⟩ := I.base.tbls b ps e
    obtain ⟨m2, e2⟩ := tbls b _ e1
    exact ⟨m1 ++ m2, by rw [e2, Array.append_assoc]⟩
  · obtain ⟨m, hn, hl⟩ := I.loc
    refine ⟨m, ns m hn, fun i x v e1 e2 e3 => ?_⟩
    obtain ⟨u, r, l⟩ := hl i x v e1 e2 e3
    refine ⟨u, r, ?_⟩
    rcases l with l | ⟨k, c, e, z⟩
    · exact .inl l
    · exact .inr ⟨k, c, e, cellK x c e _ z⟩
  · obtain ⟨v, z⟩ := I.cell x c e
    exact ⟨v, cellK x c e v z⟩
  · obtain ⟨m, ⟨o, _, _, ho, _⟩, _⟩ := I.loc
    exact free _ o (fun z => (hch _ z).2.1 rfl) ho I.free
  · obtain ⟨v, o, ho, hd⟩ := I.cell x c e
    exact free c o (fun z => (hch c z).2.2.1 x c e rfl) ho (I.freeC x c e)
  · obtain ⟨e, n, ne, nf, d⟩ := I.pin p hp
    have nch : p.1 ∉ ch := fun z => (hch p.1 z).2.2.2 p hp rfl
    exact ⟨keep p.1 p.2 ne nf nch e n, free p.1 p.2 nch e n, ne, nf, d⟩
/-- .. where the frame's own object is kept too -/
theorem Inv.un {t' : Nat} (I : Inv X pins σ H s) (u : Un X.fs [] H H' s.heap h') (hok : HOk X.prog X.w H' h') : Inv X pins σ H' { s with heap := h', toks := t' } := by
  obtain ⟨m, ⟨o, es, ep, ho, r⟩, _⟩ := id I.loc
  obtain ⟨sl, hL⟩ := u.any ho I.free (by simp)
  exact I.step (g' := s.gens) (d' := s.drawn) (ch := []) (fun _ z => nomatch z) (fun b o _ hb _ e n => u.keep b o e n hb (by simp)) (fun b o _ hb _ e n => u.slot b o e n hb (by simp)) (fun b o _ e n => u.free b o e n (by simp)) (fun b o _ e => u.there b o e (by simp)) u.tups u.frzs u.tbls (fun m' hm => by
    obtain ⟨o', es', ep', ho', r'⟩ := hm
    rw [ho] at ho'; cases ho'
    exact ⟨_, es', ep', hL, r'⟩) hok I.bare
/-- behind a call (or a comprehension's block): the slots of this frame may have changed too, the records at ch may have turned -/
theorem Inv.call {g' : Array GenState} {t' : Nat} {d' : Drawn} {ch : List Addr} (I : Inv X pins σ H s) (u : Un (frs X.stack) ch H H' s.heap h') (hok : HOk X.prog X.w H' h') (hg : AllBare g')
    (hch : ∀ b ∈ ch, (b ∈ X.ex ∨ X.s_0.heap.objs.size ≤ b) ∧ b ≠ X.env.locals ∧ (∀ x c, X.env.cells.lookup x = some c → c ≠ b) ∧ ∀ p ∈ X.pn ++ pins, p.1 ≠ b) :
    Inv X pins σ H' { s with heap := h', gens := g', drawn := d', toks := t' } := by
  obtain ⟨m, ⟨o, es, ep, ho, r⟩, _⟩ := id I.loc
  obtain ⟨sl, hL⟩ := u.any ho I.free fun z => (hch _ z).2.1 rfl
  exact I.step (ch := ch) hch (fun b o hL hb hc e n => u.keep b o e n (fun z => (List.mem_cons.mp (I.stkSub b z)).elim hL hb) hc) (fun b o _ _ hc e n => u.any e n hc) (fun b o hc e n => u.free b o e n hc) (fun b o hc e => u.there b o e hc) u.tups u.frzs u.tbls (fun m' hm => by
    obtain ⟨o', es', ep', ho', r'⟩ := hm
    rw [ho] at ho'; cases ho'
    exact ⟨_, es', ep', hL, r'⟩) hok hg
/-- an untracked record of ours (an iterator) has turned -/
theorem Inv.turned {t' : Nat} {it : Addr} (I : Inv X pins σ H s) (k : ∀ b o, b ≠ it → s.heap.get? b = some o → h'.get? b = some o) (hn : H it = none) (hL : it ≠ X.env.locals)
    (h1 : it ∈ X.ex ∨ X.s_0.heap.objs.size ≤ it) (h2 : ∀ x c, X.env.cells.lookup x = some c → c ≠ it) (h3 : ∀ p ∈ X.pn ++ pins, p.1 ≠ it) : Inv X pins σ H { s with heap := h', toks := t' } := by
  have nit : ∀ b u, H b = some u → b ≠ it := fun b u e z => by rw [z, hn] at e; cases e
  refine I.step (g' := s.gens) (d' := s.drawn) (ch := [it]) (fun b hb => ?_) (fun b o _ _ hc e _ => k b o (fun z => hc (by simp [z])) e) (fun b o _ _ hc e _ => ⟨o.slots, k b o (fun z => hc (by simp [z])) e⟩) (fun _ _ _ _ n => n)
    (fun b o hc e => ⟨o, k b o (fun z => hc (by simp [z])) e⟩) (fun _ _ e => e) (fun _ _ _ e => e) (fun b ps e => ⟨#[], by rw [e]; simp⟩) (fun m hm => ?_) (fun b u e => ?_) I.bare
  · have e : b = it := by simpa using hb
    subst e
    exact ⟨h1, hL, h2, h3⟩
  · obtain ⟨o, es, ep, ho, r⟩ := hm
    exact ⟨o, es, ep, k _ o (Ne.symm hL) ho, r⟩
  · refine (I.hok b u e).stay (fun c v hc q => k c v ?_ q) (fun _ q => q) fun _ _ q => q
    rcases hc with z | z
    · rw [z]; exact nit b u e
    · exact nit c _ z
theorem Inv.tok (I : Inv X pins σ H s) (t : Nat) : Inv X pins σ H { s with toks := t } := I.un (h' := s.heap) (t' := t) Un.refl I.hok
/-- all objects kept -/
theorem Inv.kept {t' : Nat} (I : Inv X pins σ H s) (k : ∀ b u, s.heap.get? b = some u → h'.get? b = some u) : Inv X pins σ H { s with heap := h', toks := t' } := I.un (Un.kept k) (I.hok.kept k)
/-- a new object laid and tracked -/
theorem Inv.laid {a : Addr} {o : HO} {t' : Nat} (I : Inv X pins σ H s) (k : ∀ b u, s.heap.get? b = some u → h'.get? b = some u) (hp : s.heap.objs.size ≤ a) (new : ObjOk X.prog X.w (upd H a o) h' a o) :
    Inv X pins σ (upd H a o) { s with heap := h', toks := t' } := I.un (Un.laid k hp (I.hok.fresh hp)) (I.hok.laid k hp new)
/-- an object written -/
theorem Inv.write {x e : Addr} {o : HO} {t' : Nat} (I : Inv X pins σ H s) (mu : Mut (H x)) (he : e = x ∨ H e = some (.own x)) (k : ∀ b u, b ≠ e → s.heap.get? b = some u → h'.get? b = some u) (heo : ∃ u, h'.get? e = some u)
    (new : ObjOk X.prog X.w (upd H x o) h' x o) : Inv X pins σ (upd H x o) { s with heap := h', toks := t' } := I.un (Un.write mu he k heo) (I.hok.write mu he k heo new)
/-- forgetting slots, pins -/
theorem Inv.weak {σ' : List (Option V)} (I : Inv X pins σ H s) (hl : σ'.length = σ.length) (w : ∀ (i : Nat) v, σ'[i]? = some (some v) → σ[i]? = some (some v)) : Inv X pins σ' H s :=
  ⟨I.ok, I.os, I.bare, I.base, let ⟨m, hn, hl'⟩ := I.loc; ⟨m, hn, fun i x v e1 e2 e3 => hl' i x v e1 (w i v e2) e3⟩, I.cell, I.free, I.freeC, I.pin, I.hok, hl.trans I.len⟩
theorem Inv.pins_of {pins' : List (Addr × Obj)} (I : Inv X pins σ H s) (h : ∀ p ∈ pins', s.heap.get? p.1 = some p.2 ∧ H p.1 = none ∧ p.1 ≠ X.env.locals ∧ p.1 ∉ X.fs ∧ ∀ v, p.2.data ≠ .cell v) : Inv X pins' σ H s :=
  ⟨I.ok, I.os, I.bare, I.base, I.loc, I.cell, I.free, I.freeC, fun p hp => (List.mem_append.mp hp).elim (fun z => I.pin p (List.mem_append_left _ z)) (h p), I.hok, I.len⟩
theorem nodup_ix {N : List Str} (hN : N.Nodup) {i j : Nat} {x : Str} (a : N[i]? = some x) (b : N[j]? = some x) : i = j := by
  obtain ⟨h1, e1⟩ := List.getElem?_eq_some_iff.mp a
  obtain ⟨h2, e2⟩ := List.getElem?_eq_some_iff.mp b
  exact (List.getElem_inj hN).mp (e1.trans e2.symm)
/-- a name is stored; what changed -/
theorem store_ok2 {M : Model} {A : Around} {E : Value → Shared → Prop} {i : Nat} {x : Str} {v : V} {u : Value} {Q : Unit → Shared → Prop} (I : Inv X pins σ H s) (hN : X.N.Nodup) (hi : X.N[i]? = some x) (hx : Loc X.env.scope x) (r : RelV v u)
    (h : ∀ s', Inv X pins (σ.set i (some v)) H s' → (∃ a, Heap.SameBut a s.heap s'.heap ∧ (a = X.env.locals ∨ X.env.cells.lookup x = some a)) → Q () s') (hf : X.fn x = true ∨ X.env.scope.names.lookup x = some .local := by first | exact .inl rfl | exact .inr rfl | assumption) : wpAny M A (storeName X.env x u) Q E s := by
  obtain ⟨m, hn, hl⟩ := id I.loc
  have hcls : (X.env.scope.kind == .class || (X.env.scope.kind == .module && X.env.locals != X.env.globals)) = false := by rw [I.ok.kind]; rfl
  have hiσ : i < σ.length := by rw [I.len]; exact (List.getElem?_eq_some_iff.mp hi).1
  have cne := I.cne
  have tracked : ∀ {a : Addr} {h' : Heap}, (∃ o, s.heap.get? a = some o ∧ H a = none) → Heap.SameBut a s.heap h' → HOk X.prog X.w H h' := fun {a h'} ha hs b ob e => by
    obtain ⟨_, _, hfree⟩ := ha
    refine (I.hok b ob e).stay (fun c w' hc q => (hs.2 c ?_).trans q) (fun _ q => q) fun _ _ q => q
    rintro rfl
    rcases hc with rfl | hc
    · rw [hfree] at e; cases e
    · rw [hfree] at hc; cases hc
  rcases hx with hk | hk
  · refine wpAny_storeName_local hk hn (fun h' hn' hs => ?_) hcls
    obtain ⟨oL, _, _, hoL, _⟩ := id hn
    refine h _ ⟨I.ok, I.os, I.bare, ⟨fun b o e n hb hx => ?_, fun b o e n hb hx => ?_, I.base.free, fun b o e hx => ?_, I.base.tups, I.base.frzs, I.base.tbls⟩, ⟨_, hn', fun j y v' e1 e2 e3 => ?_⟩, fun y c e => ?_, I.free, I.freeC, fun p hp => ?_, tracked ⟨oL, hoL, I.free⟩ hs, by simpa using I.len⟩ ⟨_, hs, .inl rfl⟩
    · exact (hs.2 b (Nat.ne_of_lt (Nat.lt_of_lt_of_le (Heap.lt_size e) I.ok.above))).trans (I.base.keep b o e n hb hx)
    · obtain ⟨sl, e1⟩ := I.base.slot b o e n hb hx
      exact ⟨sl, (hs.2 b (Nat.ne_of_lt (Nat.lt_of_lt_of_le (Heap.lt_size e) I.ok.above))).trans e1⟩
    · obtain ⟨o', e1⟩ := I.base.there b o e hx
      exact ⟨o', (hs.2 b (Nat.ne_of_lt (Nat.lt_of_lt_of_le (Heap.lt_size e) I.ok.above))).trans e1⟩
    · by_cases hj : j = i
      · subst hj
        rw [hi] at e1; cases e1
        rw [List.getElem?_set_self hiσ] at e2
        cases e2
        exact ⟨u, r, .inl ⟨hk, by simp⟩⟩
      · rw [List.getElem?_set_ne (Ne.symm hj)] at e2
        obtain ⟨u', r', q⟩ := hl j y v' e1 e2 e3
        refine ⟨u', r', ?_⟩
        rcases q with ⟨k, e⟩ | ⟨k, c, e, z⟩
        · refine .inl ⟨k, ?_⟩
          have : y ≠ x := fun e => hj (nodup_ix hN e1 (e ▸ hi))
          simp [this, e]
        · exact .inr ⟨k, c, e, z.sameBut hs (cne y c e)⟩
    · obtain ⟨w', z⟩ := I.cell y c e
      exact ⟨w', z.sameBut hs (cne y c e)⟩
    · obtain ⟨e, n, ne, nf, d⟩ := I.pin p hp
      exact ⟨(hs.2 p.1 ne).trans e, n, ne, nf, d⟩
  · have hfn : X.fn x = true := by
      rcases hf with z | z
      · exact z
      · rw [z] at hk; cases hk
    obtain ⟨c, hc⟩ := I.ok.has x (.inl hk)
    obtain ⟨w', z⟩ := I.cell x c hc
    refine wpAny_storeName_cell I.ok.kind hk hc z (fun h' hc' hs => ?_)
    obtain ⟨oc, hoc, hocd⟩ := id z
    refine h { s with heap := h' } ⟨I.ok, I.os, I.bare, ⟨fun b o e n hb hx => ?_, fun b o e n hb hx => ?_, I.base.free, fun b o e hx => ?_, I.base.tups, I.base.frzs, I.base.tbls⟩, ⟨m, hn.sameBut hs (Ne.symm (cne x c hc)), fun j y v' e1 e2 e3 => ?_⟩, fun y c' e => ?_, I.free, I.freeC, fun p hp => ?_, tracked ⟨oc, hoc, I.freeC x c hc⟩ hs, by simpa using I.len⟩ ⟨c, hs, .inr hc⟩
    · exact (hs.2 b (Nat.ne_of_lt (Nat.lt_of_lt_of_le (Heap.lt_size e) (I.ok.cab x c hfn hc)))).trans (I.base.keep b o e n hb hx)
    · obtain ⟨sl, e1⟩ := I.base.slot b o e n hb hx
      exact ⟨sl, (hs.2 b (Nat.ne_of_lt (Nat.lt_of_lt_of_le (Heap.lt_size e) (I.ok.cab x c hfn hc)))).trans e1⟩
    · obtain ⟨o', e1⟩ := I.base.there b o e hx
      exact ⟨o', (hs.2 b (Nat.ne_of_lt (Nat.lt_of_lt_of_le (Heap.lt_size e) (I.ok.cab x c hfn hc)))).trans e1⟩
    · by_cases hj : j = i
      · subst hj
        rw [hi] at e1; cases e1
        rw [List.getElem?_set_self hiσ] at e2
        cases e2
        exact ⟨u, r, .inr ⟨.inl hk, c, hc, hc'⟩⟩
      · rw [List.getElem?_set_ne (Ne.symm hj)] at e2
        obtain ⟨u', r', q⟩ := hl j y v' e1 e2 e3
        refine ⟨u', r', ?_⟩
        rcases q with q | ⟨k, c', e, z'⟩
        · exact .inl q
        · refine .inr ⟨k, c', e, z'.sameBut hs ?_⟩
          rintro rfl
          exact hj (nodup_ix hN e1 (I.ok.inj _ _ _ e hc ▸ hi))
    · by_cases hcc : c' = c
      · subst hcc; exact ⟨_, hc'⟩
      · obtain ⟨w2, z2⟩ := I.cell y c' e
        exact ⟨w2, z2.sameBut hs hcc⟩
    · obtain ⟨e, n, ne, nf, d⟩ := I.pin p hp
      refine ⟨(hs.2 p.1 ?_).trans e, n, ne, nf, d⟩
      intro q
      rw [q, hoc] at e
      have q' : oc = p.2 := Option.some.inj e
      exact d w' (by rw [← q']; exact hocd)
theorem store_ok {M : Model} {A : Around} {E : Value → Shared → Prop} {i : Nat} {x : Str} {v : V} {u : Value} {Q : Unit → Shared → Prop} (I : Inv X pins σ H s) (hN : X.N.Nodup) (hi : X.N[i]? = some x) (hx : Loc X.env.scope x) (r : RelV v u)
    (h : ∀ s', Inv X pins (σ.set i (some v)) H s' → Q () s') (hf : X.fn x = true ∨ X.env.scope.names.lookup x = some .local := by first | exact .inl rfl | exact .inr rfl | assumption) : wpAny M A (storeName X.env x u) Q E s :=
  store_ok2 I hN hi hx r (fun s' I' _ => h s' I') hf
/-- behind a call or a block, the state as it is -/
theorem Inv.call' {s' : Shared} {ch : List Addr} (I : Inv X pins σ H s) (ho : s'.os = s.os) (u : Un (frs X.stack) ch H H' s.heap s'.heap) (hok : HOk X.prog X.w H' s'.heap) (hg : AllBare s'.gens)
    (hch : ∀ b ∈ ch, (b ∈ X.ex ∨ X.s_0.heap.objs.size ≤ b) ∧ b ≠ X.env.locals ∧ (∀ x c, X.env.cells.lookup x = some c → c ≠ b) ∧ ∀ p ∈ X.pn ++ pins, p.1 ≠ b) : Inv X pins σ H' s' := by
  obtain ⟨h', g', d', t', o'⟩ := s'
  have e : o' = s.os := ho
  subst e
  exact I.call (g' := g') (t' := t') (d' := d') u hok hg hch
end
/-! ### the judgements -/
/-- an exception: its class, its own dict's address (where it has one), the abstract heap behind it -/
abbrev XK := Value → Option Addr → Hp → Prop
abbrev St := List (Option V)
abbrev VK := V → Hp → Prop
/-- an expression's reading; a test's; an argument list's -/
abbrev TE := St → Hp → VK → Prop
abbrev TT := St → Hp → (Bool → Hp → Prop) → Prop
abbrev TA := St → Hp → (List V → Hp → Prop) → Prop
/-- what is wanted behind a statement -/
structure Ends where
  nx : St → Hp → Prop
  rt : VK
  bk : St → Hp → Prop := fun _ _ => False
  ct : St → Hp → Prop := fun _ _ => False
abbrev TS := Ends → St → Hp → Prop
def EP (X : Cx) (pins : List (Addr × Obj)) (σ : St) (Q : VK) (u : Value) (s' : Shared) : Prop := ∃ v H', Inv X pins σ H' s' ∧ RelV v u ∧ Q v H'
def TP (X : Cx) (pins : List (Addr × Obj)) (σ : St) (Q : Bool → Hp → Prop) (b : Bool) (s' : Shared) : Prop := ∃ H', Inv X pins σ H' s' ∧ Q b H'
def AP (X : Cx) (pins : List (Addr × Obj)) (σ : St) (Q : List V → Hp → Prop) (us : List Value) (s' : Shared) : Prop := ∃ vs H', Inv X pins σ H' s' ∧ Vals vs us ∧ Q vs H'
def SP (X : Cx) (pins : List (Addr × Obj)) (D : Ends) (f : Flow) (s' : Shared) : Prop :=
  match f with
  | .next => ∃ σ' H', Inv X pins σ' H' s' ∧ D.nx σ' H'
  | .brk => ∃ σ' H', Inv X pins σ' H' s' ∧ D.bk σ' H'
  | .cont => ∃ σ' H', Inv X pins σ' H' s' ∧ D.ct σ' H'
  | .ret u => ∃ v σ' H', Inv X pins σ' H' s' ∧ RelV v u ∧ D.rt v H'
def PE (X : Cx) (e : Expr) (t : TE) : Prop :=
  ∀ (pins : List (Addr × Obj)) (s : Shared) (σ : St) (H : Hp) (Q : VK), Inv X pins σ H s → t σ H Q → wpAny (model X.prog X.w) X.A (eval e X.env) (EP X pins σ Q) X.xe s
def PT (X : Cx) (e : Expr) (t : TT) : Prop :=
  ∀ (pins : List (Addr × Obj)) (s : Shared) (σ : St) (H : Hp) (Q : Bool → Hp → Prop), Inv X pins σ H s → t σ H Q → wpAny (model X.prog X.w) X.A (isTrue e X.env (eval e X.env)) (TP X pins σ Q) X.xe s
/-- a test whatever its 'whole' is (and, or) -/
def PW (X : Cx) (e : Expr) (t : TT) : Prop :=
  ∀ (whole : Sem Value) (pins : List (Addr × Obj)) (s : Shared) (σ : St) (H : Hp) (Q : Bool → Hp → Prop), Inv X pins σ H s → t σ H Q → wpAny (model X.prog X.w) X.A (isTrue e X.env whole) (TP X pins σ Q) X.xe s
theorem PW.pt {X : Cx} {e : Expr} {t : TT} (h : PW X e t) : PT X e t := h _
/-- an argument list (no star), from the left -/
def PA (X : Cx) (es : List Expr) (t : TA) : Prop :=
  ∀ (pos : Pos) (pins : List (Addr × Obj)) (s : Shared) (σ : St) (H : Hp) (Q : List V → Hp → Prop), Inv X pins σ H s → t σ H Q → wpAny (model X.prog X.w) X.A (spliced (backTo pos (starEach es X.env))) (AP X pins σ Q) X.xe s
def PS (X : Cx) (st : Stmt) (t : TS) : Prop :=
  ∀ (pins : List (Addr × Obj)) (s : Shared) (σ : St) (H : Hp) (D : Ends), Inv X pins σ H s → t D σ H → wpAny (model X.prog X.w) X.A (exec st X.env) (SP X pins D) X.xe s
def PSs (X : Cx) (st : List Stmt) (t : TS) : Prop :=
  ∀ (pins : List (Addr × Obj)) (s : Shared) (σ : St) (H : Hp) (D : Ends), Inv X pins σ H s → t D σ H → wpAny (model X.prog X.w) X.A (execs st X.env) (SP X pins D) X.xe s
/-- weaken the end -/
theorem thn {α : Type} {t : Sem α} {Q Q' : α → Shared → Prop} {M : Model} {A : Around} {E : Value → Shared → Prop} {s : Shared} (h : wpAny M A t Q E s) (hQ : ∀ a s, Q a s → Q' a s) : wpAny M A t Q' E s := wpAny_mono h hQ fun _ _ x => x
end L2
namespace L2
open PySem PySem.Spec PyProof.Rows
section
variable {X : Cx}
/-- two expressions in a row -/
theorem bin {a b : Expr} {ta tb : TE} (ha : PE X a ta) (hb : PE X b tb) {pins : List (Addr × Obj)} {s : Shared} {σ : St} {H : Hp} {R : V → V → Hp → Prop} (I : Inv X pins σ H s) (h : ta σ H fun x H1 => tb σ H1 fun y H2 => R x y H2)
    {α : Type} {Q : α → Shared → Prop} {f : Value → Value → Sem α}
    (hf : ∀ v u s2 x y H2, Inv X pins σ H2 s2 → RelV x v → RelV y u → R x y H2 → wpAny (model X.prog X.w) X.A (f v u) Q X.xe s2) :
    wpAny (model X.prog X.w) X.A (eval a X.env) (fun v s₁ => wpAny (model X.prog X.w) X.A (eval b X.env) (fun u s₂ => wpAny (model X.prog X.w) X.A (f v u) Q X.xe s₂) X.xe s₁) X.xe s := by
  refine thn (ha pins s σ H _ I h) fun v s1 ⟨x, H1, I1, r1, q1⟩ => ?_
  refine thn (hb pins s1 σ H1 _ I1 q1) fun u s2 ⟨y, H2, I2, r2, q2⟩ => ?_
  exact hf v u s2 x y H2 I2 r1 r2 q2
/-! ### names and constants -/
def tVar (i : Nat) : TE := fun σ H Q => ∃ v, σ[i]? = some (some v) ∧ Q v H
def tC (v : V) : TE := fun _ H Q => Q v H
theorem pe_var {i : Nat} {x : Str} {pos : Pos} (hN : X.N[i]? = some x) (hv : Vis X.env.scope x) (hd : (x == ("__debug__" : Str)) = false := by decide) (hcd : (x == ("__classdict__" : Str)) = false := by decide) : PE X (.Name x pos) (tVar i) := by
  intro pins s σ H Q I h
  obtain ⟨v, e, h⟩ := h
  obtain ⟨m, hn, hl⟩ := I.loc
  obtain ⟨u, r, l⟩ := hl i x v hN e hv
  have fin : EP X pins σ Q u s := ⟨v, H, I, r, h⟩
  rcases l with ⟨hk, hm⟩ | ⟨hk, c, hc, hcell⟩
  · exact wpAny_Name (wpAny_loadName_local I.ok.kind hk hn hm fin) hd
  · rcases hk with hk | hk
    · exact wpAny_Name (wpAny_loadName_cell I.ok.kind hk hc hcell fin) hd
    · exact wpAny_Name (wpAny_loadName_free I.ok.kind hk hc hcell fin hcd) hd
theorem pe_int {i j pos} : PE X (.Constant (.int i) j pos) (tC (.int i)) := fun _ _ _ H _ I h => wpAny_Constant_int ⟨.int i, H, I.tok _, ⟨_, rfl⟩, h⟩
theorem pe_bl {b j pos} : PE X (.Constant (.bool b) j pos) (tC (.bl b)) := fun _ _ _ H _ I h => Constant_bool ⟨.bl b, H, I, rfl, h⟩
theorem pe_non {j pos} : PE X (.Constant .none j pos) (tC .non) := fun _ _ _ H _ I h => Constant_none ⟨.non, H, I, rfl, h⟩
theorem pe_str {x j pos} : PE X (.Constant (.str x) j pos) (tC (.str x)) := fun _ _ _ H _ I h => Calls.Constant_str ⟨.str x, H, I.tok _, ⟨_, rfl⟩, h⟩
/-- a global name of the def -/
def Gl (X : Cx) (x : Str) : Prop := X.env.kindOf x = some .globalImplicit
theorem ld_glob {E : Value → Shared → Prop} {pins : List (Addr × Obj)} {s : Shared} {σ : St} {H : Hp} {x : Str} {u : Value} {pos : Pos} {Q : Value → Shared → Prop} (I : Inv X pins σ H s) (hg : Gl X x) (hm : X.mg x = some u) (h : Q u s)
    (hd : (x == ("__debug__" : Str)) = false := by decide) : wpAny (model X.prog X.w) X.A (eval (.Name x pos) X.env) Q E s :=
  Calls.Name_function_global I.ok.kind hg (Calls.loadGlobal_global (by rw [I.ok.glob]; exact I.mod.glob.keeps I.bk) hm h) hd
theorem ld_blt {E : Value → Shared → Prop} {pins : List (Addr × Obj)} {s : Shared} {σ : St} {H : Hp} {x : Str} {u : Value} {pos : Pos} {Q : Value → Shared → Prop} (I : Inv X pins σ H s) (hg : Gl X x) (hm : X.mg x = none) (hv : bootBuiltins x = some u) (h : Q u s)
    (hn : x ≠ "__name__" := by decide) (hd : (x == ("__debug__" : Str)) = false := by decide) : wpAny (model X.prog X.w) X.A (eval (.Name x pos) X.env) Q E s := by
  obtain ⟨mb, h1, h2⟩ := I.mod.blt
  exact Calls.Name_function_global I.ok.kind hg (Calls.loadGlobal_builtin (by rw [I.ok.glob]; exact I.mod.glob.keeps I.bk) hm (by rw [I.ok.blt]; exact h1.keeps I.bk) ((h2 x hn).trans hv) h) hd
/-- a module's constant, a class, a function, as a value -/
theorem pe_glob {x : Str} {v : V} {u : Value} {pos : Pos} (hg : Gl X x) (hm : X.mg x = some u) (r : RelV v u) (hd : (x == ("__debug__" : Str)) = false := by decide) : PE X (.Name x pos) (tC v) :=
  fun _ _ _ H _ I h => ld_glob I hg hm ⟨v, H, I, r, h⟩ hd
/-! ### arithmetic -/
/-- two ints -/
def t2I (ta tb : TE) (k : Int → Int → Hp → Prop) : St → Hp → Prop := fun σ H => ta σ H fun x H1 => tb σ H1 fun y H2 => ∃ i j, x = .int i ∧ y = .int j ∧ k i j H2
variable {a b : Expr} {ta tb : TE} {pos : Pos}
/-! ### comparisons -/
def PC (X : Cx) (op : CmpOp) (a b : Expr) (t : TE) : Prop :=
  ∀ (pins : List (Addr × Obj)) (s : Shared) (σ : St) (H : Hp) (Q : VK), Inv X pins σ H s → t σ H Q →
    wpAny (model X.prog X.w) X.A (eval a X.env) (fun v s₁ => wpAny (model X.prog X.w) X.A (eval b X.env) (fun u s₂ => wpAny (model X.prog X.w) X.A (compareOp op v u) (EP X pins σ Q) X.xe s₂) X.xe s₁) X.xe s
theorem nobehind (b : Expr) {op : CmpOp} (h : op ≠ .In) (h2 : op ≠ .NotIn) : behindInMarks op b = false := by
  have e1 : (op == CmpOp.In) = false := by cases op <;> first | rfl | exact absurd rfl h
  have e2 : (op == CmpOp.NotIn) = false := by cases op <;> first | rfl | exact absurd rfl h2
  cases b <;> simp [behindInMarks, e1, e2]
def tCmp (p : Int → Int → Bool) (ta tb : TE) : TE := fun σ H Q => t2I ta tb (fun i j H2 => Q (.bl (p i j)) H2) σ H
abbrev tLt : TE → TE → TE := tCmp fun i j => decide (i < j)
abbrev tLe : TE → TE → TE := tCmp fun i j => decide (i ≤ j)
abbrev tGt : TE → TE → TE := tCmp fun i j => decide (j < i)
abbrev tGe : TE → TE → TE := tCmp fun i j => decide (j ≤ i)
abbrev tEqI : TE → TE → TE := tCmp fun i j => decide (i = j)
abbrev tNeI : TE → TE → TE := tCmp fun i j => !decide (i = j)
/-- a comparison of two ints, by its rule -/
theorem pc_int {op : CmpOp} {p : Int → Int → Bool} (ha : PE X a ta) (hb : PE X b tb)
    (rule : ∀ (i j : Int) (t u : Tok) (Q : Value → Shared → Prop) (s : Shared), Q (.bool (p i j)) s → wpAny (model X.prog X.w) X.A (compareOp op (.int i t) (.int j u)) Q X.xe s) : PC X op a b (tCmp p ta tb) := by
  intro pins s σ H Q I h
  refine bin ha hb I h fun v u s2 x y H2 I2 rx ry q => ?_
  obtain ⟨i, j, rfl, rfl, q⟩ := q
  obtain ⟨t, rfl⟩ := rx
  obtain ⟨t', rfl⟩ := ry
  exact rule i j t t' _ s2 ⟨.bl _, H2, I2, rfl, q⟩
theorem pc_lt (ha : PE X a ta) (hb : PE X b tb) : PC X .Lt a b (tLt ta tb) := pc_int ha hb fun _ _ _ _ _ _ h => lt_int h
theorem pc_le (ha : PE X a ta) (hb : PE X b tb) : PC X .LtE a b (tLe ta tb) := pc_int ha hb fun _ _ _ _ _ _ h => le_int h
theorem pc_gt (ha : PE X a ta) (hb : PE X b tb) : PC X .Gt a b (tGt ta tb) := pc_int ha hb fun _ _ _ _ _ _ h => gt_int h
theorem pc_ge (ha : PE X a ta) (hb : PE X b tb) : PC X .GtE a b (tGe ta tb) := pc_int ha hb fun _ _ _ _ _ _ h => ge_int h
theorem pc_eqI (ha : PE X a ta) (hb : PE X b tb) : PC X .Eq a b (tEqI ta tb) := pc_int ha hb fun _ _ _ _ _ _ h => eq_int (by rw [Bool.beq_eq_decide_eq]; exact h)
theorem pc_neI (ha : PE X a ta) (hb : PE X b tb) : PC X .NotEq a b (tNeI ta tb) := pc_int ha hb fun _ _ _ _ _ _ h => ne_int (by rw [bne, Bool.beq_eq_decide_eq]; exact h)
/-- is None -/
def tIsN (ta : TE) : TE := fun σ H Q => ta σ H fun x H1 => Q (.bl (decide (x = .non))) H1
def tNotN (ta : TE) : TE := fun σ H Q => ta σ H fun x H1 => Q (.bl (!decide (x = .non))) H1
theorem RelV.none_iff {x : V} {v : Value} (r : RelV x v) : (v == Value.none) = decide (x = .non) := by
  cases x with
  | non => cases r; rfl
  | bl _ => cases r; rfl
  | int _ => obtain ⟨t, rfl⟩ := r; rfl
  | str _ => obtain ⟨t, rfl⟩ := r; rfl
  | byt _ => obtain ⟨t, rfl⟩ := r; rfl
  | flt _ => obtain ⟨t, rfl⟩ := r; rfl
  | ref _ => cases r; rfl
  | ty _ => cases r; rfl
theorem pc_isN {j pos'} (ha : PE X a ta) : PC X .Is a (.Constant .none j pos') (tIsN ta) := by
  intro pins s σ H Q I h
  refine thn (ha pins s σ H _ I h) fun v s1 ⟨x, H1, I1, r1, q1⟩ => ?_
  exact Constant_none (is_none_gen ⟨.bl _, H1, I1, by rw [r1.none_iff]; rfl, q1⟩)
theorem pc_notN {j pos'} (ha : PE X a ta) : PC X .IsNot a (.Constant .none j pos') (tNotN ta) := by
  intro pins s σ H Q I h
  refine thn (ha pins s σ H _ I h) fun v s1 ⟨x, H1, I1, r1, q1⟩ => ?_
  exact Constant_none (isnot_none_gen ⟨.bl _, H1, I1, by rw [r1.none_iff]; rfl, q1⟩)
/-- a comparison as a value, as a test -/
def tB (t : TE) : TT := fun σ H Q => t σ H fun x H1 => ∃ c, x = .bl c ∧ Q c H1
theorem pe_cmp {op : CmpOp} {t : TE} (h : PC X op a b t) (h1 : behindInMarks op b = false := by first | exact nobehind _ (by decide) (by decide) | rfl) : PE X (.Compare a [op] [b] pos) t := fun pins s σ H Q I hw => wpAny_Compare1 (h pins s σ H Q I hw) h1
theorem pt_cmp {op : CmpOp} {t : TE} (h : PC X op a b t) (h1 : behindInMarks op b = false := by first | exact nobehind _ (by decide) (by decide) | rfl) : PT X (.Compare a [op] [b] pos) (tB t) := by
  intro pins s σ H Q I hw
  refine wpAny_isTrue_Compare1 (thn (h pins s σ H _ I hw) fun v s1 h1 => thn h1 fun u s2 h2 => thn h2 fun c s3 ⟨x, H1, I1, r1, q1⟩ => ?_) h1
  obtain ⟨d, rfl, q⟩ := q1
  cases r1
  exact wpAny_truthy_bool ⟨H1, I1, q⟩
/-- an expression whose value is a bool, as a test -/
theorem pt_val {e : Expr} {t : TE} (h : PE X e t) (he : ∀ whole, isTrue e X.env whole = (do let v ← whole; standAt e.pos; holding [v] (truthy v)) := by intro _; rfl) : PT X e (tB t) := by
  intro pins s σ H Q I hw
  refine isTrue_plain (thn (h pins s σ H _ I hw) fun v s1 ⟨x, H1, I1, r1, q1⟩ => ?_) (he _)
  obtain ⟨d, rfl, q⟩ := q1
  cases r1
  exact wpAny_truthy_bool ⟨H1, I1, q⟩
/-! ### and, or, not -/
variable {tA tB' : TT} {rest : List Expr}
def tAnd (t u : TT) : TT := fun σ H Q => t σ H fun c H1 => if c = true then u σ H1 Q else Q false H1
def tOr (t u : TT) : TT := fun σ H Q => t σ H fun c H1 => if c = true then Q true H1 else u σ H1 Q
def tNot (t : TT) : TT := fun σ H Q => t σ H fun c H1 => Q (!c) H1
theorem pw_and1 (ha : PT X a tA) : PW X (.BoolOp .And [a] pos) tA := by
  intro wh pins s σ H Q I h
  refine isTrue_and (thn (ha pins s σ H Q I h) fun c s1 e => ?_)
  cases c with
  | true => exact isTrue_and_nil e
  | false => exact e
theorem pw_or1 (ha : PT X a tA) : PW X (.BoolOp .Or [a] pos) tA := by
  intro wh pins s σ H Q I h
  refine isTrue_or (thn (ha pins s σ H Q I h) fun c s1 e => ?_)
  cases c with
  | false => exact isTrue_or_nil e
  | true => exact e
theorem pw_and (ha : PT X a tA) (hb : PW X (.BoolOp .And (b :: rest) pos) tB') : PW X (.BoolOp .And (a :: b :: rest) pos) (tAnd tA tB') := by
  intro wh pins s σ H Q I h
  refine isTrue_and (thn (ha pins s σ H _ I h) fun c s1 ⟨H1, I1, q1⟩ => ?_)
  cases c with
  | true => exact hb wh pins s1 σ H1 Q I1 q1
  | false => exact ⟨H1, I1, q1⟩
theorem pw_or (ha : PT X a tA) (hb : PW X (.BoolOp .Or (b :: rest) pos) tB') : PW X (.BoolOp .Or (a :: b :: rest) pos) (tOr tA tB') := by
  intro wh pins s σ H Q I h
  refine isTrue_or (thn (ha pins s σ H _ I h) fun c s1 ⟨H1, I1, q1⟩ => ?_)
  cases c with
  | true => exact ⟨H1, I1, q1⟩
  | false => exact hb wh pins s1 σ H1 Q I1 q1
theorem pt_not (ha : PT X a tA) : PT X (.UnaryOp .Not a pos) (tNot tA) := by
  intro pins s σ H Q I h
  exact isTrue_not (ha pins s σ H (fun c H1 => Q (!c) H1) I h)
/-- .. as values (bools) -/
def tAndV (ta tb : TE) : TE := fun σ H Q => ta σ H fun x H1 => ∃ c, x = .bl c ∧ if c = true then tb σ H1 Q else Q (.bl false) H1
def tOrV (ta tb : TE) : TE := fun σ H Q => ta σ H fun x H1 => ∃ c, x = .bl c ∧ if c = true then Q (.bl true) H1 else tb σ H1 Q
theorem pe_one {op} {t : TE} (h : PE X a t) : PE X (.BoolOp op [a] pos) t := fun pins s σ H Q I hw => BoolOp_one (h pins s σ H Q I hw)
theorem pe_and (ha : PE X a ta) (hb : PE X (.BoolOp .And (b :: rest) pos) tb) : PE X (.BoolOp .And (a :: b :: rest) pos) (tAndV ta tb) := by
  intro pins s σ H Q I h
  refine BoolOp_and (thn (ha pins s σ H _ I h) fun v s1 ⟨x, H1, I1, r1, q1⟩ => ?_)
  obtain ⟨c, rfl, q1⟩ := q1
  cases r1
  refine wpAny_truthy_bool ?_
  cases c with
  | true => exact hb pins s1 σ H1 Q I1 q1
  | false => exact ⟨.bl false, H1, I1, rfl, q1⟩
theorem pe_or (ha : PE X a ta) (hb : PE X (.BoolOp .Or (b :: rest) pos) tb) : PE X (.BoolOp .Or (a :: b :: rest) pos) (tOrV ta tb) := by
  intro pins s σ H Q I h
  refine BoolOp_or (thn (ha pins s σ H _ I h) fun v s1 ⟨x, H1, I1, r1, q1⟩ => ?_)
  obtain ⟨c, rfl, q1⟩ := q1
  cases r1
  refine wpAny_truthy_bool ?_
  cases c with
  | false => exact hb pins s1 σ H1 Q I1 q1
  | true => exact ⟨.bl true, H1, I1, rfl, q1⟩
/-- a if t else b -/
def tIf (t : TT) (ta tb : TE) : TE := fun σ H Q => t σ H fun c H1 => if c = true then ta σ H1 Q else tb σ H1 Q
theorem pe_ifExp {c : Expr} (hc : PT X c tA) (ha : PE X a ta) (hb : PE X b tb) : PE X (.IfExp c a b pos) (tIf tA ta tb) := by
  intro pins s σ H Q I h
  refine wpAny_IfExp (thn (hc pins s σ H _ I h) fun d s1 ⟨H1, I1, q1⟩ => ?_)
  cases d with
  | true => exact ha pins s1 σ H1 Q I1 q1
  | false => exact hb pins s1 σ H1 Q I1 q1
end
end L2
namespace L2
open PySem PySem.Spec PyProof.Rows
/-! ### a list, a tuple that is read: tracked, frozen, or an object of the module -/
def SqL (K : PySem.W.Frag) (H : Hp) (a : Addr) (xs : List V) : Prop :=
  Rd H a (.lst xs) ∨
    ∃ (o : Obj) (its : Array Value) (n : Nat), K.lookup a = some o ∧ o.cls = .type "list" ∧ o.dict = none ∧ o.data = .seq its n ∧ its.size ≤ sizeLine ∧ Vals xs its.toList
def SqT (K : PySem.W.Frag) (H : Hp) (a : Addr) (xs : List V) : Prop :=
  Rd H a (.tup xs) ∨
    ∃ (o : Obj) (its : Array Value) (n : Nat), K.lookup a = some o ∧ o.cls = .type "tuple" ∧ o.data = .seq its n ∧ its.size ≤ sizeLine ∧ Vals xs its.toList
def absV : Value → Option V
  | .none => some .non
  | .bool b => some (.bl b)
  | .int i _ => some (.int i)
  | .str x _ => some (.str x)
  | .bytes b _ => some (.byt b)
  | .float b _ => some (.flt b)
  | .ref a => some (.ref a)
  | .type n => some (.ty n)
  | _ => none
theorem RelV.abs {x : V} {u : Value} (r : RelV x u) : absV u = some x := by
  cases x with
  | non => cases r; rfl
  | bl _ => cases r; rfl
  | int _ => obtain ⟨t, rfl⟩ := r; rfl
  | str _ => obtain ⟨t, rfl⟩ := r; rfl
  | byt _ => obtain ⟨t, rfl⟩ := r; rfl
  | flt _ => obtain ⟨t, rfl⟩ := r; rfl
  | ref _ => cases r; rfl
  | ty _ => cases r; rfl
theorem RelV.inj {x y : V} {u : Value} (r : RelV x u) (q : RelV y u) : x = y := Option.some.inj (r.abs.symm.trans q.abs)
theorem Vals.inj : ∀ {xs ys : List V} {us : List Value}, Vals xs us → Vals ys us → xs = ys
  | _, _, _, .nil, .nil => rfl
  | _, _, _, .cons r t, .cons r' t' => by rw [r.inj r', Vals.inj t t']
section
variable {X : Cx} {pins : List (Addr × Obj)} {σ : St} {H : Hp} {s : Shared} {a : Addr} {xs ys : List V}
theorem SqL.of {K : PySem.W.Frag} (h : H a = some (.lst xs)) : SqL K H a xs := .inl (.inl h)
theorem SqT.of {K : PySem.W.Frag} (h : H a = some (.tup xs)) : SqT K H a xs := .inl (.inl h)
theorem Inv.list (I : Inv X pins σ H s) (h : SqL X.K H a xs) : ∃ its : List Value, Vals xs its ∧ PlainL s.heap a its.toArray ∧ xs.length ≤ sizeLine := by
  rcases h with h | ⟨o, its, n, hk, hc, hd, hs, hz, r⟩
  · obtain ⟨z, its, n, r, e⟩ := h.ok I.hok
    exact ⟨its, r, ⟨_, n, e, rfl, rfl, rfl⟩, z⟩
  · refine ⟨its.toList, r, ⟨o, n, I.kIn a o hk, hc, hd, by simpa using hs⟩, ?_⟩
    have e := r.length
    simp only [Array.length_toList] at e
    omega
theorem Inv.tuple (I : Inv X pins σ H s) (h : SqT X.K H a xs) : ∃ its : List Value, Vals xs its ∧ IsTup s.heap a its.toArray ∧ xs.length ≤ sizeLine := by
  rcases h with h | ⟨o, its, n, hk, hc, hs, hz, r⟩
  · obtain ⟨z, its, r, p⟩ := h.ok I.hok
    exact ⟨its, r, p, z⟩
  · refine ⟨its.toList, r, ⟨o, I.kIn a o hk, hc, n, by simpa using hs⟩, ?_⟩
    have e := r.length
    simp only [Array.length_toList] at e
    omega
theorem Inv.list_inj (I : Inv X pins σ H s) (h : SqL X.K H a xs) (h' : SqL X.K H a ys) : xs = ys := by
  obtain ⟨its, r, ⟨o, n, e, _, _, d⟩, _⟩ := I.list h
  obtain ⟨its', r', ⟨o', n', e', _, _, d'⟩, _⟩ := I.list h'
  rw [e] at e'; cases e'
  rw [d] at d'
  injection d' with d1 _
  have : its = its' := by simpa using congrArg Array.toList d1
  subst this
  exact r.inj r'
theorem Inv.tuple_inj (I : Inv X pins σ H s) (h : SqT X.K H a xs) (h' : SqT X.K H a ys) : xs = ys := by
  obtain ⟨its, r, ⟨o, e, _, n, d⟩, _⟩ := I.tuple h
  obtain ⟨its', r', ⟨o', e', _, n', d'⟩, _⟩ := I.tuple h'
  rw [e] at e'; cases e'
  rw [d] at d'
  injection d' with d1 _
  have : its = its' := by simpa using congrArg Array.toList d1
  subst this
  exact r.inj r'
end
/-! ### another wish about exceptions -/
abbrev Cx.wish (X : Cx) (E : Value → Shared → Prop) : Cx := { X with xe := E }
/-- no exception leaves -/
abbrev Cx.nox (X : Cx) : Cx := X.wish fun _ _ => False
theorem Cx.Ok.wish {X : Cx} (ok : X.Ok) (E : Value → Shared → Prop) : (X.wish E).Ok :=
  ⟨ok.mod, ok.kind, ok.glob, ok.blt, ok.above, ok.inj, ok.has, ok.cab, ok.hd, ok.frames, ok.stk, ok.exf, ok.bs, ok.bsz, ok.noex, ok.exfs, ok.funs, ok.frf⟩
theorem Cx.Ok.unwish {X : Cx} {E : Value → Shared → Prop} (ok : (X.wish E).Ok) : X.Ok :=
  ⟨ok.mod, ok.kind, ok.glob, ok.blt, ok.above, ok.inj, ok.has, ok.cab, ok.hd, ok.frames, ok.stk, ok.exf, ok.bs, ok.bsz, ok.noex, ok.exfs, ok.funs, ok.frf⟩
section
variable {X : Cx} {pins : List (Addr × Obj)} {σ : St} {H : Hp} {s : Shared} {E : Value → Shared → Prop}
theorem Inv.wish (I : Inv X pins σ H s) (E : Value → Shared → Prop) : Inv (X.wish E) pins σ H s := ⟨I.ok.wish E, I.os, I.bare, I.base, I.loc, I.cell, I.free, I.freeC, I.pin, I.hok, I.len⟩
theorem Inv.unwish (I : Inv (X.wish E) pins σ H s) : Inv X pins σ H s := ⟨I.ok.unwish, I.os, I.bare, I.base, I.loc, I.cell, I.free, I.freeC, I.pin, I.hok, I.len⟩
theorem SP.unwish {D : Ends} {f : Flow} {s' : Shared} (h : SP (X.wish E) pins D f s') : SP X pins D f s' := by
  cases f with
  | next => obtain ⟨σ', H', I, q⟩ := h; exact ⟨σ', H', I.unwish, q⟩
  | brk => obtain ⟨σ', H', I, q⟩ := h; exact ⟨σ', H', I.unwish, q⟩
  | cont => obtain ⟨σ', H', I, q⟩ := h; exact ⟨σ', H', I.unwish, q⟩
  | ret u => obtain ⟨v, σ', H', I, r, q⟩ := h; exact ⟨v, σ', H', I.unwish, r, q⟩
theorem PSs.nox {st : List Stmt} {t : TS} (h : PSs X.nox st t) : PSs X st t := fun pins s σ H D I hw =>
  wpAny_mono (h pins s σ H D (I.wish _) hw) (fun _ _ q => q.unwish) fun _ _ z => False.elim z
end
/-! ### blocks and small statements -/
section
variable {X : Cx} {st : Stmt} {rest : List Stmt} {t u : TS} {e : Expr} {te : TE} {pos : Pos}
def tNext : TS := fun D σ H => D.nx σ H
def tSeq (t u : TS) : TS := fun D σ H => t { D with nx := u D } σ H
theorem pss_nil : PSs X [] tNext := fun _ _ σ H _ I h => wpAny_execs_nil ⟨σ, H, I, h⟩
theorem pss_cons (h1 : PS X st t) (h2 : PSs X rest u) : PSs X (st :: rest) (tSeq t u) := by
  intro pins s σ H D I h
  refine wpAny_execs_cons (thn (h1 pins s σ H { D with nx := u D } I h) fun f s1 q => ?_)
  cases f with
  | next =>
    obtain ⟨σ', H', I', q⟩ := q
    exact h2 pins s1 σ' H' D I' q
  | ret v => exact q
  | brk => exact q
  | cont => exact q
theorem pss_one (h1 : PS X st t) : PSs X [st] t := by
  intro pins s σ H D I h
  refine wpAny_execs_cons (thn (h1 pins s σ H D I h) fun f s1 q => ?_)
  cases f with
  | next => exact wpAny_execs_nil q
  | ret v => exact q
  | brk => exact q
  | cont => exact q
/-- in a def's body nothing is shown -/
theorem Inv.quiet {pins : List (Addr × Obj)} {σ : St} {H : Hp} {s : Shared} (I : Inv X pins σ H s) : interactive X.env = false := by simp [interactive, I.ok.kind]
/-- an expression whose value is dropped -/
def tDrop (te : TE) : TS := fun D σ H => te σ H fun _ H1 => D.nx σ H1
theorem ps_expr (he : PE X e te) (hs : swapsWith e none pos.line X.env = pure false := by rfl) : PS X (.Expr e pos) (tDrop te) := by
  intro pins s σ H D I h
  exact wpAny_Expr_any (thn (he pins s σ H _ I h) fun v s1 ⟨x, H1, I1, r1, q1⟩ => ⟨σ, H1, I1, q1⟩) I.quiet hs
def tRet (te : TE) : TS := fun D σ H => te σ H D.rt
theorem ps_ret (he : PE X e te) : PS X (.Return (some e) pos) (tRet te) := by
  intro pins s σ H D I h
  exact wpAny_Return_some (thn (he pins s σ H _ I h) fun v s1 ⟨x, H1, I1, r1, q1⟩ => ⟨x, σ, H1, I1, r1, q1⟩)
def tIfS (c : TT) (t u : TS) : TS := fun D σ H => c σ H fun b H1 => if b = true then t D σ H1 else u D σ H1
theorem ps_if {c : Expr} {a b : List Stmt} {tc : TT} (hc : PT X c tc) (ha : PSs X a t) (hb : PSs X b u) : PS X (.If c a b pos) (tIfS tc t u) := by
  intro pins s σ H D I h
  refine wpAny_If (thn (hc pins s σ H _ I h) fun d s1 ⟨H1, I1, q1⟩ => ?_)
  cases d with
  | true => exact ha pins s1 σ H1 D I1 q1
  | false => exact hb pins s1 σ H1 D I1 q1
end
/-! ### targets -/
abbrev TG := V → St → Hp → (St → Hp → Prop) → Prop
abbrev TGs := List V → St → Hp → (St → Hp → Prop) → Prop
def PG (X : Cx) (target : Expr) (t : TG) : Prop :=
  ∀ (pins : List (Addr × Obj)) (s : Shared) (σ : St) (H : Hp) (v : V) (u : Value) (Q : St → Hp → Prop), Inv X pins σ H s → RelV v u → t v σ H Q →
    wpAny (model X.prog X.w) X.A (assign target X.env u) (fun _ s' => ∃ σ' H', Inv X pins σ' H' s' ∧ Q σ' H') X.xe s
/-- several targets, one after another -/
def PGs (X : Cx) (ts : List Expr) (t : TGs) : Prop :=
  ∀ (pins : List (Addr × Obj)) (s : Shared) (σ : St) (H : Hp) (vs : List V) (us : List Value) (Q : St → Hp → Prop), Inv X pins σ H s → Vals vs us → t vs σ H Q →
    wpAny (model X.prog X.w) X.A (assignInOrder ((assignEach ts X.env).map (·.2)) us) (fun _ s' => ∃ σ' H', Inv X pins σ' H' s' ∧ Q σ' H') X.xe s
/-- o[i] = v, by values -/
abbrev TSet := V → V → V → Hp → (Hp → Prop) → Prop
def PSet (X : Cx) (t : TSet) : Prop :=
  ∀ (pins : List (Addr × Obj)) (s : Shared) (σ : St) (H : Hp) (o i v : V) (ov iv u : Value) (Q : Hp → Prop), Inv X pins σ H s → RelV o ov → RelV i iv → RelV v u → t o i v H Q →
    wpAny (model X.prog X.w) X.A (setItem ov iv u) (fun _ s' => ∃ H', Inv X pins σ H' s' ∧ Q H') X.xe s
section
variable {X : Cx} {pos : Pos}
def gName (i : Nat) : TG := fun v σ H Q => Q (σ.set i (some v)) H
theorem pg_name {i : Nat} {x : Str} (hN : X.N.Nodup) (hi : X.N[i]? = some x) (hx : Loc X.env.scope x) (hf : X.fn x = true ∨ X.env.scope.names.lookup x = some .local := by first | exact .inl rfl | exact .inr rfl | assumption) : PG X (.Name x pos) (gName i) := by
  intro pins s σ H v u Q I r h
  exact wpAny_assign_Name (store_ok I hN hi hx r (fun s' I' => ⟨_, H, I', h⟩) hf)
def gNil : TGs := fun vs σ H Q => vs = [] ∧ Q σ H
def gCons (t : TG) (u : TGs) : TGs := fun vs σ H Q => ∃ v r, vs = v :: r ∧ t v σ H fun σ' H' => u r σ' H' Q
theorem pgs_nil : PGs X [] gNil := by
  intro pins s σ H vs us Q I r h
  obtain ⟨e, h⟩ := h
  subst e
  cases r
  exact assignInOrder_nil ⟨σ, H, I, h⟩
theorem pgs_cons {e : Expr} {es : List Expr} {t : TG} {u : TGs} (h1 : PG X e t) (h2 : PGs X es u)
    (hs : (assignEach (e :: es) X.env).map (·.2) = assign e X.env :: (assignEach es X.env).map (·.2) := by rfl) : PGs X (e :: es) (gCons t u) := by
  intro pins s σ H vs us Q I r h
  obtain ⟨v, vr, e1, h⟩ := h
  subst e1
  cases r with
  | cons r rr =>
    rw [hs]
    refine assignInOrder_cons (thn (h1 pins s σ H _ _ _ I r h) fun _ s1 ⟨σ1, H1, I1, q1⟩ => ?_)
    exact h2 pins s1 σ1 H1 _ _ Q I1 rr q1
/-- (a, b, ..) = a tuple of that length -/
def gTup (K : PySem.W.Frag) (n : Nat) (t : TGs) : TG := fun v σ H Q => ∃ a xs, v = .ref a ∧ SqT K H a xs ∧ xs.length = n ∧ t xs σ H Q
theorem pg_tup {es : List Expr} {k : Nat} {t : TGs} {n : Nat} (hc : X.calm = true) (h : PGs X es t)
    (hn : (assignEach es X.env).length = n := by rfl) (hst : (assignEach es X.env).findIdx? (·.1) = none := by rfl) : PG X (.Tuple es k pos) (gTup X.K n t) := by
  intro pins s σ H v u Q I r hw
  obtain ⟨a, xs, e1, hq, hl, hw⟩ := hw
  subst e1
  cases r
  obtain ⟨its, rv, ht, hz⟩ := I.tuple hq
  refine assign_Tuple_tuple (I.ok.hd hc) ht (by simp [hn, ← hl, rv.length]) hst fun h' hx => ?_
  have I1 : Inv X pins σ H { s with heap := h' } := I.kept (t' := s.toks) fun b o e => hx b o (Nat.ne_of_lt (Heap.lt_size e)) e
  exact h pins _ σ H xs _ Q I1 (by simpa using rv) hw
/-- o[i] = .. -/
def gSub (to ti : TE) (t : TSet) : TG := fun v σ H Q => to σ H fun o H1 => ti σ H1 fun i H2 => t o i v H2 fun H3 => Q σ H3
theorem pg_sub {o i : Expr} {to ti : TE} {t : TSet} (ho : PE X o to) (hi : PE X i ti) (hs : PSet X t)
    (ha : ∀ v, assign (.Subscript o i pos) X.env v = (do
      let ov ← holding [v] (eval o X.env)
      let iv ← holding [v, ov] (eval i X.env)
      standAt pos
      holding [v, ov, iv] (setItem ov iv v)
      release [v, ov, iv] []) := by intro _; rfl) : PG X (.Subscript o i pos) (gSub to ti t) := by
  intro pins s σ H v u Q I r h
  rw [ha]
  refine wpAny_bind (wpAny_holding (thn (ho pins s σ H _ I h) fun ov s1 ⟨x, H1, I1, r1, q1⟩ => ?_))
  refine wpAny_bind (wpAny_holding (thn (hi pins s1 σ H1 _ I1 q1) fun iv s2 ⟨y, H2, I2, r2, q2⟩ => ?_))
  refine wpAny_bind (wpAny_standAt (wpAny_bind (wpAny_holding (thn (hs pins s2 σ H2 x y v ov iv u _ I2 r1 r2 r q2) fun _ s3 ⟨H3, I3, q3⟩ => ?_))))
  exact wpAny_release ⟨σ, H3, I3, q3⟩
/-- target = value -/
def tAsg (te : TE) (g : TG) : TS := fun D σ H => te σ H fun x H1 => g x σ H1 D.nx
theorem ps_asg {tg e : Expr} {te : TE} {g : TG} (he : PE X e te) (hg : PG X tg g) (hs : swapsWithSole [tg] e pos.line X.env = pure false := by rfl) (hw : swappedStores [tg] e X.env = pure none := by rfl)
    (h1 : (assignEach [tg] X.env).map (·.2) = [assign tg X.env] := by rfl) : PS X (.Assign [tg] e pos) (tAsg te g) := by
  intro pins s σ H D I h
  refine wpAny_Assign_stores (thn (he pins s σ H _ I h) fun v s1 ⟨x, H1, I1, r1, q1⟩ => ?_) hs hw
  rw [h1]
  exact thn (hg pins s1 σ H1 x v _ I1 r1 q1) fun _ s2 q => q
/-- name = value -/
theorem ps_set {i : Nat} {x : Str} {e : Expr} {te : TE} {pos' : Pos} (hN : X.N.Nodup) (hi : X.N[i]? = some x) (hx : Loc X.env.scope x) (he : PE X e te) (hs : swapsWith e (some (.Name x pos')) pos.line X.env = pure false := by rfl) (hf : X.fn x = true ∨ X.env.scope.names.lookup x = some .local := by first | exact .inl rfl | exact .inr rfl | assumption) :
    PS X (.Assign [.Name x pos'] e pos) (tAsg te (gName i)) := by
  intro pins s σ H D I h
  refine wpAny_Assign_Name (thn (he pins s σ H _ I h) fun v s1 ⟨y, H1, I1, r1, q1⟩ => ?_) hs
  exact store_ok I1 hN hi hx r1 (fun s2 I2 => ⟨_, H1, I2, q1⟩) hf
end
/-! ### while -/
section
variable {X : Cx} {pos : Pos}
/-- the invariant W with its measure -/
def tWhile (c : TT) (tb : TS) : TS := fun D σ H => ∃ W : Nat → St → Hp → Prop, (∃ m, W m σ H) ∧ ∀ m σ H, W m σ H →
  c σ H fun b H1 => if b = true then ∃ N : St → Hp → Prop, (∀ σ' H', N σ' H' → ∃ m', m' < m ∧ W m' σ' H') ∧ tb { D with nx := N, ct := N, bk := D.nx } σ H1 else D.nx σ H1
theorem ps_while {c : Expr} {body : List Stmt} {tc : TT} {tb : TS} (hp : PassesOwn (model X.prog X.w) X.A X.env X.xe) (hc : PT X c tc) (hb : PSs X body tb) : PS X (.While c body [] pos) (tWhile tc tb) := by
  intro pins s σ H D I h
  obtain ⟨W, ⟨m0, w0⟩, turn⟩ := h
  refine wpAny_While (codeAny_whileLoop (fun n s' => ∃ σ' H', Inv X pins σ' H' s' ∧ W n σ' H') ?_ m0 ⟨σ, H, I, w0⟩)
  rintro n s1 ⟨σ1, H1, I1, w1⟩
  refine wpAny_passesOwn hp (thn (hc pins s1 σ1 H1 _ I1 (turn n σ1 H1 w1)) fun b s2 ⟨H2, I2, q2⟩ => ?_)
  cases b with
  | true =>
    obtain ⟨N, hN, q2⟩ := q2
    rw [if_pos rfl]
    refine wpAny_passesOwn hp (thn (hb pins s2 σ1 H2 _ I2 q2) fun f s3 q3 => ?_)
    cases f with
    | next =>
      obtain ⟨σ3, H3, I3, n3⟩ := q3
      obtain ⟨m', hm, w3⟩ := hN σ3 H3 n3
      exact ⟨m', hm, σ3, H3, I3, w3⟩
    | cont =>
      obtain ⟨σ3, H3, I3, n3⟩ := q3
      obtain ⟨m', hm, w3⟩ := hN σ3 H3 n3
      exact ⟨m', hm, σ3, H3, I3, w3⟩
    | brk => exact q3
    | ret v => exact q3
  | false =>
    rw [if_neg Bool.false_ne_true]
    exact wpAny_execs_nil ⟨σ1, H2, I2, q2⟩
end
/-! ### what a loop or a comprehension walks -/
/-- at turn i: it yields x (the heap may grow), or it stops -/
structure It where
  go : Nat → Hp → Prop
  yld : Nat → Hp → V → Hp → Prop
  stop : Nat → Hp → Prop
/-- the iterator's own objects may turn: they are not the frame's, not pinned, younger than the entry (or a comprehension's own) -/
def FpOk (X : Cx) (pins : List (Addr × Obj)) (H : Hp) (b : Addr) : Prop :=
  H b = none ∧ b ≠ X.env.locals ∧ b ∉ X.fs ∧ (b ∈ X.ex ∨ X.s_0.heap.objs.size ≤ b) ∧ (∀ x c, X.env.cells.lookup x = some c → c ≠ b) ∧ ∀ p ∈ X.pn ++ pins, p.1 ≠ b
theorem Inv.fpOk {X : Cx} {pins : List (Addr × Obj)} {σ : St} {H H' : Hp} {s : Shared} {b : Addr} (I : Inv X pins σ H s) (hb : s.heap.objs.size ≤ b) (hn : H' b = none) : FpOk X pins H' b := by
  refine ⟨hn, Nat.ne_of_gt (Nat.lt_of_lt_of_le I.lt hb), I.nofs hb, .inr (Nat.le_trans I.sz hb), fun x c e z => ?_, fun p hp z => ?_⟩
  · obtain ⟨v, q⟩ := I.cell x c e
    exact absurd (Nat.lt_of_lt_of_le q.lt (by rw [z]; exact hb)) (Nat.lt_irrefl _)
  · exact absurd (Nat.lt_of_lt_of_le (Heap.lt_size (I.pin p hp).1) (by rw [z]; exact hb)) (Nat.lt_irrefl _)
structure Turn (P : Program) (w : World) (K : PySem.W.Frag) (tg : Expr) (J : It) (fp : List Addr) (it : Addr) (tn : Nat → Heap → Prop) : Prop where
  mem : it ∈ fp
  obj : ∀ i h, tn i h → ∀ b ∈ fp, ∃ o, h.get? b = some o ∧ ∀ v, o.data ≠ .cell v
  keep : ∀ i h h', tn i h → (∀ b ∈ fp, ∀ o, h.get? b = some o → h'.get? b = some o) → tn i h'
  item : ∀ (X : Cx), X.prog = P → X.w = w → X.K = K → X.calm = true → ∀ (i : Nat) (pins : List (Addr × Obj)) (s : Shared) (σ : St) (H : Hp) (E : Value → Shared → Prop), Inv X pins σ H s → (∀ b ∈ fp, FpOk X pins H b) → tn i s.heap → J.go i H →
    wpAny (model P w) X.A (pyNext (.ref it)) (fun r s1 => ∃ u, r = some u ∧
      wpAny (model P w) X.A (letOwnedTupleGo tg (.ref it) u) (fun _ s2 => ∃ x H', Inv X pins σ H' s2 ∧ RelV x u ∧ J.yld i H x H' ∧ tn (i + 1) s2.heap ∧ ∀ b ∈ fp, H' b = none) E s1) E s
  done : ∀ (X : Cx), X.prog = P → X.w = w → X.K = K → X.calm = true → ∀ (i : Nat) (pins : List (Addr × Obj)) (s : Shared) (σ : St) (H : Hp) (E : Value → Shared → Prop), Inv X pins σ H s → (∀ b ∈ fp, FpOk X pins H b) → tn i s.heap → J.stop i H →
    wpAny (model P w) X.A (pyNext (.ref it)) (fun r s1 => r = none ∧ Inv X pins σ H s1) E s
  self : ∀ (A : Around) (i : Nat) (s : Shared) (Q : Value → Shared → Prop) (E : Value → Shared → Prop), tn i s.heap → Q (.ref it) s → wpAny (model P w) A (pyIter (.ref it)) Q E s
abbrev TI := St → Hp → (It → Hp → Prop) → Prop
/-- an iterator has come -/
def PIE (X : Cx) (pins : List (Addr × Obj)) (σ : St) (tg : Expr) (R : It → Hp → Prop) (itv : Value) (s2 : Shared) : Prop :=
  ∃ (it : Addr) (fp : List Addr) (tn : Nat → Heap → Prop) (J : It) (H' : Hp), itv = .ref it ∧ Inv X pins σ H' s2 ∧ Turn X.prog X.w X.K tg J fp it tn ∧ tn 0 s2.heap ∧ (∀ b ∈ fp, FpOk X pins H' b) ∧ R J H'
def PI (X : Cx) (tg iter : Expr) (wi : TI) : Prop :=
  ∀ (pins : List (Addr × Obj)) (s : Shared) (σ : St) (H : Hp) (R : It → Hp → Prop), Inv X pins σ H s → wi σ H R →
    wpAny (model X.prog X.w) X.A (eval iter X.env) (fun v s1 => wpAny (model X.prog X.w) X.A (pyIter v) (PIE X pins σ tg R) X.xe s1) X.xe s
/-- the step ahead of the store is nothing for an iterator that keeps no tuple -/
theorem go_of {M : Model} {A : Around} {E : Value → Shared → Prop} {s : Shared} {tg : Expr} {it : Addr} {u : Value} {o : Obj} {n : String} {vs : Array Value} {Q : Unit → Shared → Prop} (ho : s.heap.get? it = some o) (hc : o.cls = .type n) (hd : o.data = .fields vs)
    (hn : ["enumerate", "zip", "dict_itemiterator", "dict_reverseitemiterator", "odict_iterator", "itertools.zip_longest", "itertools.pairwise"].contains n = false) (hQ : Q () s) : wpAny M A (letOwnedTupleGo tg (.ref it) u) Q E s := by
  unfold letOwnedTupleGo
  cases tg <;> first
    | exact wpAny_pure hQ
    | (cases u <;> first
        | exact wpAny_pure hQ
        | (refine wpAny_bind (wpAny_load ho ?_)
           rw [hc, hd]
           show wpAny M A (if (["enumerate", "zip", "dict_itemiterator", "dict_reverseitemiterator", "odict_iterator", "itertools.zip_longest", "itertools.pairwise"].contains n && vs[0]? == some (rawInt _)) = true then _ else _) Q E s
           rw [if_neg (by intro h; rw [hn, Bool.false_and] at h; cases h)]
           exact wpAny_pure hQ))
/-- the list at a, as it stands at each turn (a loop may append to it) -/
def Itl (K : PySem.W.Frag) (a : Addr) : It :=
  ⟨fun i H => ∃ xs x, SqL K H a xs ∧ xs[i]? = some x, fun i H x H' => H' = H ∧ ∀ xs, SqL K H a xs → xs[i]? = some x, fun i H => ∃ xs, SqL K H a xs ∧ xs.length ≤ i⟩
def Itt (K : PySem.W.Frag) (a : Addr) : It :=
  ⟨fun i H => ∃ xs x, SqT K H a xs ∧ xs[i]? = some x, fun i H x H' => H' = H ∧ ∀ xs, SqT K H a xs → xs[i]? = some x, fun i H => ∃ xs, SqT K H a xs ∧ xs.length ≤ i⟩
/-- lo, lo + 1, .. (n of them) -/
def Itr (lo : Int) (n : Nat) : It := ⟨fun i _ => i < n, fun i H x H' => H' = H ∧ x = .int (lo + i), fun i _ => n ≤ i⟩
theorem turn_list {P : Program} {w : World} {K : PySem.W.Frag} {tg : Expr} (a it : Addr) : Turn P w K tg (Itl K a) [it] it (fun i h => h.IsListIter it a i) where
  mem := by simp
  obj := fun i h st b hb => by
    have e : b = it := by simpa using hb
    subst e
    obtain ⟨o, e, c, d⟩ := st
    exact ⟨o, e, fun v z => by rw [d] at z; cases z⟩
  keep := fun i h h' st k => st.at fun o e => k it (by simp) o e
  item := by
    intro X hP hw hK hc i pins s σ H E I hf st hg
    subst hP hw hK
    obtain ⟨xs, x, hq, hx⟩ := hg
    obtain ⟨its, rv, p, hz⟩ := I.list hq
    obtain ⟨u, hu, ru⟩ := rv.get hx
    obtain ⟨f0, f1, f2, f3, f4, f5⟩ := hf it (by simp)
    refine wpAny_pyNext_list_item st p.isList (x := u) (by simpa using hu) fun h' st' sb => ?_
    have I1 : Inv X pins σ H { s with heap := h' } := I.turned (t' := s.toks) (fun b o hb e => (sb.2 b hb).trans e) f0 f1 f3 f4 f5
    obtain ⟨o, e, c, d⟩ := id st'
    exact ⟨u, rfl, go_of (s := { s with heap := h' }) e c d (by decide) ⟨x, H, I1, ru, ⟨rfl, fun ys hy => by rw [I.list_inj hy hq]; exact hx⟩, st', fun b hb => (hf b hb).1⟩⟩
  done := by
    intro X hP hw hK hc i pins s σ H E I hf st hg
    subst hP hw hK
    obtain ⟨xs, hq, hx⟩ := hg
    obtain ⟨its, rv, p, hz⟩ := I.list hq
    obtain ⟨f0, f1, f2, f3, f4, f5⟩ := hf it (by simp)
    have hl := rv.length
    exact wpAny_pyNext_list_end (I.ok.hd hc) st p.isList (by simp; omega) fun h' eb => ⟨rfl, I.turned (t' := s.toks) (fun b o hb e => eb b o hb e) f0 f1 f3 f4 f5⟩
  self := fun _ _ _ _ _ st h => wpAny_pyIter_listiter st h
theorem turn_tuple {P : Program} {w : World} {K : PySem.W.Frag} {tg : Expr} (a it : Addr) : Turn P w K tg (Itt K a) [it] it (fun i h => h.IsTupleIter it a i) where
  mem := by simp
  obj := fun i h st b hb => by
    have e : b = it := by simpa using hb
    subst e
    obtain ⟨o, e, c, d⟩ := st
    exact ⟨o, e, fun v z => by rw [d] at z; cases z⟩
  keep := fun i h h' st k => st.at fun o e => k it (by simp) o e
  item := by
    intro X hP hw hK hc i pins s σ H E I hf st hg
    subst hP hw hK
    obtain ⟨xs, x, hq, hx⟩ := hg
    obtain ⟨its, rv, p, hz⟩ := I.tuple hq
    obtain ⟨u, hu, ru⟩ := rv.get hx
    obtain ⟨f0, f1, f2, f3, f4, f5⟩ := hf it (by simp)
    refine wpAny_pyNext_tuple_item st (show s.heap.IsTuple a its.toArray from p) (x := u) (by simpa using hu) fun h' st' sb => ?_
    have I1 : Inv X pins σ H { s with heap := h' } := I.turned (t' := s.toks) (fun b o hb e => (sb.2 b hb).trans e) f0 f1 f3 f4 f5
    obtain ⟨o, e, c, d⟩ := id st'
    exact ⟨u, rfl, go_of (s := { s with heap := h' }) e c d (by decide) ⟨x, H, I1, ru, ⟨rfl, fun ys hy => by rw [I.tuple_inj hy hq]; exact hx⟩, st', fun b hb => (hf b hb).1⟩⟩
  done := by
    intro X hP hw hK hc i pins s σ H E I hf st hg
    subst hP hw hK
    obtain ⟨xs, hq, hx⟩ := hg
    obtain ⟨its, rv, p, hz⟩ := I.tuple hq
    obtain ⟨f0, f1, f2, f3, f4, f5⟩ := hf it (by simp)
    have hl := rv.length
    exact wpAny_pyNext_tuple_end (I.ok.hd hc) st (show s.heap.IsTuple a its.toArray from p) (by simp; omega) fun h' eb => ⟨rfl, I.turned (t' := s.toks) (fun b o hb e => eb b o hb e) f0 f1 f3 f4 f5⟩
  self := fun _ _ _ _ _ st h => wpAny_pyIter_tupleiter st h
theorem turn_range {P : Program} {w : World} {K : PySem.W.Frag} {tg : Expr} (it : Addr) (lo : Int) (n : Nat) : Turn P w K tg (Itr lo n) [it] it (fun i h => IsRangeIter h it (lo + (i : Nat) * 1) ((n : Int) - (i : Nat)) 1) where
  mem := by simp
  obj := fun i h st b hb => by
    have e : b = it := by simpa using hb
    subst e
    exact ⟨_, st, fun v z => by
      have z' : Data.fields _ = Data.cell v := z
      cases z'⟩
  keep := fun i h h' st k => k it (by simp) _ st
  item := by
    intro X hP hw hK hc i pins s σ H E I hf st hg
    subst hP hw hK
    obtain ⟨f0, f1, f2, f3, f4, f5⟩ := hf it (by simp)
    have W := Walks.range (prog := X.prog) (w := X.w) (I.ok.hd hc) it lo 1 n
    refine W.item i s _ _ hg st fun v h' tk hv st' kk => ?_
    obtain ⟨t, rfl⟩ := hv
    have I1 : Inv X pins σ H { s with heap := h', toks := tk } := I.turned (fun b o hb e => kk b o (by simpa using hb) e) f0 f1 f3 f4 f5
    refine ⟨_, rfl, go_of (s := { s with heap := h', toks := tk }) (n := "range_iterator") st' rfl rfl (by decide) ⟨.int (lo + i), H, I1, ⟨t, ?_⟩, ⟨rfl, rfl⟩, st', fun b hb => (hf b hb).1⟩⟩
    rw [Int.mul_one]
  done := by
    intro X hP hw hK hc i pins s σ H E I hf st hg
    subst hP hw hK
    obtain ⟨f0, f1, f2, f3, f4, f5⟩ := hf it (by simp)
    exact wpAny_pyNext_range_end (I.ok.hd hc) st (by have : n ≤ i := hg; omega) fun h' eb => ⟨rfl, I.turned (t' := s.toks) (fun b o hb e => eb b o hb e) f0 f1 f3 f4 f5⟩
  self := fun _ _ _ _ _ st h => wpAny_pyIter_rangeiter st h
end L2
namespace L2
open PySem PySem.Spec PyProof.Rows
section
variable {X : Cx} {tg : Expr}
def iList (K : PySem.W.Frag) (tl : TE) : TI := fun σ H R => tl σ H fun x H1 => ∃ a, x = .ref a ∧ (∃ xs, SqL K H1 a xs) ∧ R (Itl K a) H1
def iTup (K : PySem.W.Frag) (tl : TE) : TI := fun σ H R => tl σ H fun x H1 => ∃ a, x = .ref a ∧ (∃ xs, SqT K H1 a xs) ∧ R (Itt K a) H1
theorem pi_list {l : Expr} {tl : TE} (hl : PE X l tl) : PI X tg l (iList X.K tl) := by
  intro pins s σ H R I h
  refine thn (hl pins s σ H _ I h) fun v s1 ⟨x, H1, I1, r1, q1⟩ => ?_
  obtain ⟨a, e, ⟨xs, hq⟩, q⟩ := q1
  subst e
  cases r1
  obtain ⟨its, rv, p, hz⟩ := I1.list hq
  refine wpAny_pyIter_list p.isList ?_
  refine ⟨s1.heap.objs.size, [s1.heap.objs.size], _, _, H1, rfl, I1.kept (t' := s1.toks) fun b o e => Heap.get?_push_of_some _ e, turn_list a _, ⟨_, Heap.get?_push_size _ rfl, rfl, rfl⟩, fun b hb => ?_, q⟩
  have e : b = s1.heap.objs.size := by simpa using hb
  subst e
  exact I1.fpOk (Nat.le_refl _) (I1.hok.fresh (Nat.le_refl _))
theorem pi_tup {l : Expr} {tl : TE} (hl : PE X l tl) : PI X tg l (iTup X.K tl) := by
  intro pins s σ H R I h
  refine thn (hl pins s σ H _ I h) fun v s1 ⟨x, H1, I1, r1, q1⟩ => ?_
  obtain ⟨a, e, ⟨xs, hq⟩, q⟩ := q1
  subst e
  cases r1
  obtain ⟨its, rv, p, hz⟩ := I1.tuple hq
  refine wpAny_pyIter_tuple (show s1.heap.IsTuple a its.toArray from p) ?_
  refine ⟨s1.heap.objs.size, [s1.heap.objs.size], _, _, H1, rfl, I1.kept (t' := s1.toks) fun b o e => Heap.get?_push_of_some _ e, turn_tuple a _, ⟨_, Heap.get?_push_size _ rfl, rfl, rfl⟩, fun b hb => ?_, q⟩
  have e : b = s1.heap.objs.size := by simpa using hb
  subst e
  exact I1.fpOk (Nat.le_refl _) (I1.hok.fresh (Nat.le_refl _))
/-- a range object just made, walked -/
theorem range_it {pins : List (Addr × Obj)} {σ : St} {H : Hp} {s : Shared} {R : It → Hp → Prop} {E : Value → Shared → Prop} {lo hi : Int} {t u v : Tok} {tk : Nat} (I : Inv X pins σ H s) (h1 : -(2 ^ 62) ≤ lo) (h2 : lo < 2 ^ 62) (h3 : -(2 ^ 62) ≤ hi) (h4 : hi < 2 ^ 62)
    (q : R (Itr lo (hi - lo).toNat) H) : wpAny (model X.prog X.w) X.A (pyIter (.ref s.heap.objs.size)) (PIE X pins σ tg R) E { s with heap := s.heap.push { cls := .type "range", data := .fields #[.int lo t, .int hi u, .int 1 v] }, toks := tk } := by
  refine wpAny_pyIter_range (IsRange.new ..) (small_one h1 h2 h3 h4) ?_
  have I1 : Inv X pins σ H { s with heap := s.heap.push { cls := .type "range", data := .fields #[.int lo t, .int hi u, .int 1 v] }, toks := tk } := I.kept fun b o e => Heap.get?_push_of_some _ e
  refine ⟨(s.heap.push { cls := .type "range", data := .fields #[.int lo t, .int hi u, .int 1 v] }).objs.size, [(s.heap.push { cls := .type "range", data := .fields #[.int lo t, .int hi u, .int 1 v] }).objs.size], _, _, H, rfl,
    I1.kept (t' := tk) fun b o e => Heap.get?_push_of_some _ e, turn_range _ lo (hi - lo).toNat, ?_, fun b hb => ?_, q⟩
  · have e1 : lo + ((0 : Nat) : Int) * 1 = lo := by simp
    have e2 : (((hi - lo).toNat : Nat) : Int) - ((0 : Nat) : Int) = Builtin.Range.rangeSize lo hi 1 := by rw [rangeSize_one]; split <;> omega
    show IsRangeIter _ _ (lo + ((0 : Nat) : Int) * 1) ((((hi - lo).toNat : Nat) : Int) - ((0 : Nat) : Int)) 1
    rw [e1, e2]
    exact Heap.get?_push_size _ rfl
  · have e : b = (s.heap.push { cls := .type "range", data := .fields #[.int lo t, .int hi u, .int 1 v] }).objs.size := by simpa using hb
    subst e
    exact I1.fpOk (Nat.le_refl _) (I1.hok.fresh (Nat.le_refl _))
def iRng1 (ta : TA) : TI := fun σ H R => ta σ H fun vs H1 => ∃ j : Int, vs = [.int j] ∧ -(2 ^ 62) ≤ j ∧ j < 2 ^ 62 ∧ R (Itr 0 j.toNat) H1
theorem pi_range1 {a : Expr} {ta : TA} {p pos : Pos} (hg : Gl X "range") (hm : X.mg "range" = none) (ha : PA X [a] ta) (hs : starEach [a] X.env = [(false, eval a X.env)] := by rfl) : PI X tg (.Call (.Name "range" p) [a] [] pos) (iRng1 ta) := by
  intro pins s σ H R I h
  refine Call_ (ld_blt I hg hm boot_range (PyProof.Rows.callWith_type1 (thn (ha pos pins s σ H _ I h) fun us s1 ⟨vs, H1, I1, r1, q1⟩ => ?_) hs rfl))
  obtain ⟨j, e, q1, q2, q⟩ := q1
  subst e
  cases r1 with
  | cons r rr =>
    cases rr
    obtain ⟨t, rfl⟩ := r
    exact call_range_1 (range_it I1 (by omega) (by omega) q1 q2 (by simpa using q))
/-! ### for -/
/-- W: the invariant by the turn and a measure; N: what the body is to reach -/
def tFor (wi : TI) (g : TG) (tb : TS) : TS := fun D σ H => wi σ H fun J H1 => ∃ W : Nat → Nat → St → Hp → Prop, (∃ m, W 0 m σ H1) ∧ ∀ i m σ H, W i m σ H →
  (J.stop i H ∧ D.nx σ H) ∨ (J.go i H ∧ ∃ N : St → Hp → Prop, (∀ σ' H', N σ' H' → ∃ m', m' < m ∧ W (i + 1) m' σ' H') ∧ ∀ x H', J.yld i H x H' → g x σ H' fun σ2 H2 => tb { D with nx := N, ct := N, bk := D.nx } σ2 H2)
/-- the records at fp as they stand -/
def pinsAt (fp : List Addr) (h : Heap) : List (Addr × Obj) := fp.filterMap fun b => (h.get? b).map fun o => (b, o)
theorem mem_pinsAt {fp : List Addr} {h : Heap} {b : Addr} {o : Obj} (hb : b ∈ fp) (e : h.get? b = some o) : (b, o) ∈ pinsAt fp h := List.mem_filterMap.mpr ⟨b, hb, by rw [e]; rfl⟩
theorem of_pinsAt {fp : List Addr} {h : Heap} {p : Addr × Obj} (hp : p ∈ pinsAt fp h) : p.1 ∈ fp ∧ h.get? p.1 = some p.2 := by
  obtain ⟨b, hb, e⟩ := List.mem_filterMap.mp hp
  cases q : h.get? b with
  | none => rw [q] at e; cases e
  | some o =>
    rw [q] at e
    have e' : (b, o) = p := Option.some.inj e
    subst e'
    exact ⟨hb, q⟩
theorem Inv.pinned {pins : List (Addr × Obj)} {σ : St} {H : Hp} {s : Shared} {fp : List Addr} (I : Inv X pins σ H s) (hf : ∀ b ∈ fp, FpOk X pins H b) (ho : ∀ b ∈ fp, ∃ o, s.heap.get? b = some o ∧ ∀ v, o.data ≠ .cell v) : Inv X (pins ++ pinsAt fp s.heap) σ H s :=
  I.pins_of fun p hp => (List.mem_append.mp hp).elim (fun z => I.pin p (List.mem_append_right _ z)) fun z => by
    obtain ⟨hb, e⟩ := of_pinsAt z
    obtain ⟨f0, f1, f2, _⟩ := hf p.1 hb
    obtain ⟨o, e', d⟩ := ho p.1 hb
    rw [e] at e'; cases e'
    exact ⟨e, f0, f1, f2, d⟩
theorem Inv.unpinned {pins pl : List (Addr × Obj)} {σ : St} {H : Hp} {s : Shared} (I : Inv X (pins ++ pl) σ H s) : Inv X pins σ H s := I.pins_of fun p hp => I.pin p (List.mem_append_right _ (List.mem_append_left _ hp))
theorem ps_for {iter : Expr} {body : List Stmt} {wi : TI} {g : TG} {tb : TS} {pos : Pos} (hp : PassesOwn (model X.prog X.w) X.A X.env X.xe) (hc : X.calm = true) (hi : PI X tg iter wi) (hg : PG X tg g) (hb : PSs X body tb)
    (hs : ∀ x, foldedSetIterable iter X.env x = pure x := by intro _; rfl) : PS X (.For tg iter body [] pos) (tFor wi g tb) := by
  intro pins s σ H D I h
  refine wpAny_For (thn (hi pins s σ H _ I h) fun v s1 h1 => thn h1 fun itv s2 h2 => ?_) hs
  obtain ⟨it, fp, tn, J, H2, e, I2, T, st2, f2, W, ⟨m0, w0⟩, turn⟩ := h2
  subst e
  -- what stays true of the iterator's objects through the loop
  have stat : ∀ {H' : Hp}, (∀ b ∈ fp, H' b = none) → ∀ b ∈ fp, FpOk X pins H' b := fun hn b hb => ⟨hn b hb, (f2 b hb).2⟩
  refine codeAny_forLoop_any (fun n s' => ∃ i σ' H', Inv X pins σ' H' s' ∧ tn i s'.heap ∧ (∀ b ∈ fp, H' b = none) ∧ W i n σ' H') ?_ m0 ⟨0, σ, H2, I2, st2, fun b hb => (f2 b hb).1, w0⟩
  rintro n s3 ⟨i, σ3, H3, I3, st3, fr3, w3⟩
  rcases turn i n σ3 H3 w3 with ⟨stop, qn⟩ | ⟨go, N, hN, step⟩
  · refine wpAny_passesOwn hp (thn (T.done X rfl rfl rfl hc i pins s3 σ3 H3 X.xe I3 (stat fr3) st3 stop) fun r s4 ⟨hr, I4⟩ => ?_)
    subst hr
    exact wpAny_execs_nil ⟨σ3, H3, I4, qn⟩
  · refine wpAny_passesOwn hp (thn (T.item X rfl rfl rfl hc i pins s3 σ3 H3 X.xe I3 (stat fr3) st3 go) fun r s4 ⟨u, hr, h4⟩ => ?_)
    subst hr
    refine wpAny_passesOwn hp (thn h4 fun _ s5 ⟨x, H5, I5, r5, y5, st5, fr5⟩ => ?_)
    have I5' := I5.pinned (stat fr5) (T.obj _ _ st5)
    refine wpAny_passesOwn hp (thn (hg _ s5 σ3 H5 x u _ I5' r5 (step x H5 y5)) fun _ s6 ⟨σ6, H6, I6, q6⟩ => ?_)
    refine wpAny_passesOwn hp (thn (hb _ s6 σ6 H6 _ I6 q6) fun f s7 q7 => ?_)
    have again : ∀ {σ7 : St} {H7 : Hp}, Inv X (pins ++ pinsAt fp s5.heap) σ7 H7 s7 → N σ7 H7 → ∃ m, m < n ∧ ∃ i σ' H', Inv X pins σ' H' s7 ∧ tn i s7.heap ∧ (∀ b ∈ fp, H' b = none) ∧ W i m σ' H' := fun {σ7 H7} I7 n7 => by
      obtain ⟨m', hm, w7⟩ := hN σ7 H7 n7
      refine ⟨m', hm, i + 1, σ7, H7, I7.unpinned, T.keep _ _ _ st5 fun b hb o e => (I7.pin (b, o) (List.mem_append_right _ (List.mem_append_right _ (mem_pinsAt hb e)))).1, fun b hb => ?_, w7⟩
      obtain ⟨o, e, d⟩ := T.obj _ _ st5 b hb
      exact (I7.pin (b, o) (List.mem_append_right _ (List.mem_append_right _ (mem_pinsAt hb e)))).2.1
    cases f with
    | next => obtain ⟨σ7, H7, I7, n7⟩ := q7; exact again I7 n7
    | cont => obtain ⟨σ7, H7, I7, n7⟩ := q7; exact again I7 n7
    | brk => obtain ⟨σ7, H7, I7, q7⟩ := q7; exact ⟨σ7, H7, I7.unpinned, q7⟩
    | ret v => obtain ⟨x7, σ7, H7, I7, r7, q7⟩ := q7; exact ⟨x7, σ7, H7, I7.unpinned, r7, q7⟩
end
/-! ### the forms one uses -/
/-- over a list that the body leaves as it is -/
theorem for_list {K : PySem.W.Frag} {a : Addr} {xs : List V} {g : TG} {tb : TS} {D : Ends} {σ : St} {H : Hp} (Pv : Nat → St → Hp → Prop) (h0 : Pv 0 σ H) (hl : ∀ i σ H, i ≤ xs.length → Pv i σ H → SqL K H a xs)
    (hs : ∀ i x σ H, xs[i]? = some x → Pv i σ H → g x σ H fun σ2 H2 => tb { D with nx := Pv (i + 1), ct := Pv (i + 1), bk := D.nx } σ2 H2) (hd : ∀ σ H, Pv xs.length σ H → D.nx σ H) :
    ∃ W : Nat → Nat → St → Hp → Prop, (∃ m, W 0 m σ H) ∧ ∀ i m σ H, W i m σ H →
      ((Itl K a).stop i H ∧ D.nx σ H) ∨ ((Itl K a).go i H ∧ ∃ N : St → Hp → Prop, (∀ σ' H', N σ' H' → ∃ m', m' < m ∧ W (i + 1) m' σ' H') ∧ ∀ x H', (Itl K a).yld i H x H' → g x σ H' fun σ2 H2 => tb { D with nx := N, ct := N, bk := D.nx } σ2 H2) := by
  refine ⟨fun i m σ H => m = xs.length - i ∧ i ≤ xs.length ∧ Pv i σ H, ⟨xs.length, by simp, Nat.zero_le _, h0⟩, ?_⟩
  rintro i m σ H ⟨rfl, hi, p⟩
  have q := hl i σ H hi p
  by_cases hlt : i < xs.length
  · refine .inr ⟨⟨xs, xs[i], q, by simp [hlt]⟩, Pv (i + 1), fun σ' H' p' => ⟨xs.length - (i + 1), by omega, rfl, hlt, p'⟩, fun x H' y => ?_⟩
    obtain ⟨e, y⟩ := y
    subst e
    exact hs i x σ _ (y xs q) p
  · have e : i = xs.length := by omega
    subst e
    exact .inl ⟨⟨xs, q, Nat.le_refl _⟩, hd σ H p⟩
theorem for_tup {K : PySem.W.Frag} {a : Addr} {xs : List V} {g : TG} {tb : TS} {D : Ends} {σ : St} {H : Hp} (Pv : Nat → St → Hp → Prop) (h0 : Pv 0 σ H) (hl : ∀ i σ H, i ≤ xs.length → Pv i σ H → SqT K H a xs)
    (hs : ∀ i x σ H, xs[i]? = some x → Pv i σ H → g x σ H fun σ2 H2 => tb { D with nx := Pv (i + 1), ct := Pv (i + 1), bk := D.nx } σ2 H2) (hd : ∀ σ H, Pv xs.length σ H → D.nx σ H) :
    ∃ W : Nat → Nat → St → Hp → Prop, (∃ m, W 0 m σ H) ∧ ∀ i m σ H, W i m σ H →
      ((Itt K a).stop i H ∧ D.nx σ H) ∨ ((Itt K a).go i H ∧ ∃ N : St → Hp → Prop, (∀ σ' H', N σ' H' → ∃ m', m' < m ∧ W (i + 1) m' σ' H') ∧ ∀ x H', (Itt K a).yld i H x H' → g x σ H' fun σ2 H2 => tb { D with nx := N, ct := N, bk := D.nx } σ2 H2) := by
  refine ⟨fun i m σ H => m = xs.length - i ∧ i ≤ xs.length ∧ Pv i σ H, ⟨xs.length, by simp, Nat.zero_le _, h0⟩, ?_⟩
  rintro i m σ H ⟨rfl, hi, p⟩
  have q := hl i σ H hi p
  by_cases hlt : i < xs.length
  · refine .inr ⟨⟨xs, xs[i], q, by simp [hlt]⟩, Pv (i + 1), fun σ' H' p' => ⟨xs.length - (i + 1), by omega, rfl, hlt, p'⟩, fun x H' y => ?_⟩
    obtain ⟨e, y⟩ := y
    subst e
    exact hs i x σ _ (y xs q) p
  · have e : i = xs.length := by omega
    subst e
    exact .inl ⟨⟨xs, q, Nat.le_refl _⟩, hd σ H p⟩
theorem for_range {lo : Int} {n : Nat} {g : TG} {tb : TS} {D : Ends} {σ : St} {H : Hp} (Pv : Nat → St → Hp → Prop) (h0 : Pv 0 σ H)
    (hs : ∀ i σ H, i < n → Pv i σ H → g (.int (lo + i)) σ H fun σ2 H2 => tb { D with nx := Pv (i + 1), ct := Pv (i + 1), bk := D.nx } σ2 H2) (hd : ∀ σ H, Pv n σ H → D.nx σ H) :
    ∃ W : Nat → Nat → St → Hp → Prop, (∃ m, W 0 m σ H) ∧ ∀ i m σ H, W i m σ H →
      ((Itr lo n).stop i H ∧ D.nx σ H) ∨ ((Itr lo n).go i H ∧ ∃ N : St → Hp → Prop, (∀ σ' H', N σ' H' → ∃ m', m' < m ∧ W (i + 1) m' σ' H') ∧ ∀ x H', (Itr lo n).yld i H x H' → g x σ H' fun σ2 H2 => tb { D with nx := N, ct := N, bk := D.nx } σ2 H2) := by
  refine ⟨fun i m σ H => m = n - i ∧ i ≤ n ∧ Pv i σ H, ⟨n, by simp, Nat.zero_le _, h0⟩, ?_⟩
  rintro i m σ H ⟨rfl, hi, p⟩
  by_cases hlt : i < n
  · refine .inr ⟨hlt, Pv (i + 1), fun σ' H' p' => ⟨n - (i + 1), by omega, rfl, hlt, p'⟩, fun x H' y => ?_⟩
    obtain ⟨e, y⟩ := y
    subst e y
    exact hs i σ _ hlt p
  · have e : i = n := by omega
    subst e
    exact .inl ⟨Nat.le_refl _, hd σ H p⟩
end L2
namespace L2
open PySem PySem.Spec PyProof.Rows
abbrev R2 := V → V → Hp → VK → Prop
/-- a two-place operation on values: f is binaryOp op, inplaceOp op or compareOp op -/
def OpR (X : Cx) (f : Value → Value → Sem Value) (r : R2) : Prop :=
  ∀ (pins : List (Addr × Obj)) (s : Shared) (σ : St) (H : Hp) (x y : V) (v u : Value) (Q : VK), Inv X pins σ H s → RelV x v → RelV y u → r x y H Q →
    wpAny (model X.prog X.w) X.A (f v u) (EP X pins σ Q) X.xe s
/-- a one-place operation -/
def UnR (X : Cx) (f : Value → Sem Value) (r : V → Hp → VK → Prop) : Prop :=
  ∀ (pins : List (Addr × Obj)) (s : Shared) (σ : St) (H : Hp) (x : V) (v : Value) (Q : VK), Inv X pins σ H s → RelV x v → r x H Q →
    wpAny (model X.prog X.w) X.A (f v) (EP X pins σ Q) X.xe s
/-- a call of a value that is known (a builtin, a type) with values -/
def CallR (X : Cx) (f : Value) (r : List V → Hp → VK → Prop) : Prop :=
  ∀ (pins : List (Addr × Obj)) (s : Shared) (σ : St) (H : Hp) (xs : List V) (us : List Value) (Q : VK), Inv X pins σ H s → Vals xs us → r xs H Q →
    wpAny (model X.prog X.w) X.A (call f us) (EP X pins σ Q) X.xe s
def tOp (r : R2) (ta tb : TE) : TE := fun σ H Q => ta σ H fun x H1 => tb σ H1 fun y H2 => r x y H2 Q
def tUn (r : V → Hp → VK → Prop) (ta : TE) : TE := fun σ H Q => ta σ H fun x H1 => r x H1 Q
/-- ints in, under C, and a value out -/
def rI (C : Int → Int → Prop) (g : Int → Int → V) : R2 := fun x y H Q => ∃ i j, x = .int i ∧ y = .int j ∧ C i j ∧ Q (g i j) H
def rI0 (g : Int → Int → V) : R2 := fun x y H Q => ∃ i j, x = .int i ∧ y = .int j ∧ Q (g i j) H
def rU (g : Int → V) : V → Hp → VK → Prop := fun x H Q => ∃ i, x = .int i ∧ Q (g i) H
section
variable {X : Cx} {a b c : Expr} {ta tb tc : TE} {pos : Pos}
theorem binT (ha : PE X a ta) (hb : PE X b tb) {pins : List (Addr × Obj)} {s : Shared} {σ : St} {H : Hp} {R : V → V → Hp → Prop} (I : Inv X pins σ H s)
    (h : ta σ H fun x H1 => tb σ H1 fun y H2 => R x y H2) {Q : Value → Shared → Prop} {f : Value → Value → Sem Value}
    (hf : ∀ v u s2 x y H2, Inv X pins σ H2 s2 → RelV x v → RelV y u → R x y H2 → wpAny (model X.prog X.w) X.A (f v u) Q X.xe s2) :
    wpAny (model X.prog X.w) X.A (eval a X.env) (fun v s₁ => wpAny (model X.prog X.w) X.A (eval b X.env) (fun u s₂ => wpAny (model X.prog X.w) X.A (f v u) Q X.xe s₂) X.xe s₁) X.xe s := by
  refine thn (ha pins s σ H _ I h) fun v s1 ⟨x, H1, I1, r1, q1⟩ => ?_
  refine thn (hb pins s1 σ H1 _ I1 q1) fun u s2 ⟨y, H2, I2, r2, q2⟩ => ?_
  exact hf v u s2 x y H2 I2 r1 r2 q2
theorem pe_op {op : Operator} {r : R2} (ho : OpR X (binaryOp op) r) (ha : PE X a ta) (hb : PE X b tb) : PE X (.BinOp a op b pos) (tOp r ta tb) := by
  intro pins s σ H Q I h
  exact wpAny_BinOp (binT ha hb I h fun v u s2 x y H2 I2 rx ry q => ho pins s2 σ H2 x y v u Q I2 rx ry q)
theorem pe_un {op : UnaryOp} {r : V → Hp → VK → Prop} (ho : UnR X (unaryOp op) r) (ha : PE X a ta) : PE X (.UnaryOp op a pos) (tUn r ta) := by
  intro pins s σ H Q I h
  exact UnaryOp_ (thn (ha pins s σ H _ I h) fun v s1 ⟨x, H1, I1, r1, q1⟩ => ho pins s1 σ H1 x v Q I1 r1 q1)
/-! ### ints -/
theorem opI {f : Value → Value → Sem Value} {C : Int → Int → Prop} {g : Int → Int → Int}
    (rule : ∀ (i j : Int) (t u : Tok) (s : Shared) (Q : Value → Shared → Prop) (E : Value → Shared → Prop), C i j → Q (.int (g i j) s.toks) { s with toks := s.toks + 1 } → wpAny (model X.prog X.w) X.A (f (.int i t) (.int j u)) Q E s) :
    OpR X f (rI C fun i j => .int (g i j)) := by
  intro pins s σ H x y v u Q I rx ry h
  obtain ⟨i, j, rfl, rfl, hc, q⟩ := h
  obtain ⟨t, rfl⟩ := rx
  obtain ⟨t', rfl⟩ := ry
  exact rule i j t t' s _ _ hc ⟨.int (g i j), H, I.tok _, ⟨_, rfl⟩, q⟩
theorem opI0 {f : Value → Value → Sem Value} {g : Int → Int → Int}
    (rule : ∀ (i j : Int) (t u : Tok) (s : Shared) (Q : Value → Shared → Prop) (E : Value → Shared → Prop), Q (.int (g i j) s.toks) { s with toks := s.toks + 1 } → wpAny (model X.prog X.w) X.A (f (.int i t) (.int j u)) Q E s) :
    OpR X f (rI0 fun i j => .int (g i j)) := by
  intro pins s σ H x y v u Q I rx ry h
  obtain ⟨i, j, rfl, rfl, q⟩ := h
  obtain ⟨t, rfl⟩ := rx
  obtain ⟨t', rfl⟩ := ry
  exact rule i j t t' s _ _ ⟨.int (g i j), H, I.tok _, ⟨_, rfl⟩, q⟩
def CDiv (i j : Int) : Prop := 0 < j ∧ j < 1073741824
def CMul (i j : Int) : Prop := (-(2 ^ 64) < i ∧ i < 2 ^ 64) ∨ (-(2 ^ 64) < j ∧ j < 2 ^ 64)
theorem CMul.ok {i j : Int} (h : CMul i j) : IntMulOk i j := by
  rcases h with ⟨h1, h2⟩ | ⟨h1, h2⟩
  · exact .of_left (intBits_le_64 h1 h2)
  · exact .of_right (intBits_le_64 h1 h2)
theorem op_add : OpR X (binaryOp .Add) (rI0 fun i j => .int (i + j)) := opI0 fun _ _ _ _ _ _ _ q => add_int q
theorem op_sub : OpR X (binaryOp .Sub) (rI0 fun i j => .int (i - j)) := opI0 fun _ _ _ _ _ _ _ q => sub_int q
theorem op_mul : OpR X (binaryOp .Mult) (rI CMul fun i j => .int (i * j)) := opI fun _ _ _ _ _ _ _ hc q => mul_int q hc.ok
/-- // by a positive divisor -/
theorem op_fdiv : OpR X (binaryOp .FloorDiv) (rI CDiv fun i j => .int (i / j)) := opI fun i j _ _ _ _ _ hc q => by
  have h1 : (0 : Int) < j := hc.1
  have h2 : j < 1073741824 := hc.2
  exact floordiv_int (by omega) (by rw [Int.fdiv_eq_ediv_of_nonneg i (by omega)]; exact q) (.inl (PyProof.noPylong_small (by omega)))
/-- % by a positive divisor of any size -/
theorem op_mod : OpR X (binaryOp .Mod) (rI (fun _ j => 0 < j) fun i j => .int (i % j)) := opI fun i j _ _ _ _ _ hc q => by
  have h1 : (0 : Int) < j := hc
  exact mod_int' (by omega) (by rw [Int.fmod_eq_emod_of_nonneg i (by omega)]; exact q)
theorem unI {f : Value → Sem Value} {g : Int → Int}
    (rule : ∀ (i : Int) (t : Tok) (s : Shared) (Q : Value → Shared → Prop) (E : Value → Shared → Prop), Q (.int (g i) s.toks) { s with toks := s.toks + 1 } → wpAny (model X.prog X.w) X.A (f (.int i t)) Q E s) :
    UnR X f (rU fun i => .int (g i)) := by
  intro pins s σ H x v Q I rx h
  obtain ⟨i, rfl, q⟩ := h
  obtain ⟨t, rfl⟩ := rx
  exact rule i t s _ _ ⟨.int (g i), H, I.tok _, ⟨_, rfl⟩, q⟩
theorem un_neg : UnR X (unaryOp .USub) (rU fun i => .int (-i)) := unI fun _ _ _ _ _ q => neg_int q
/-! ### bools among ints: n += (a < b) -/
end
/-! ### comparisons -/
section
variable {X : Cx} {a b c : Expr} {ta tb tc : TE} {pos : Pos}
theorem nomark (b : Expr) {op : CmpOp} (h : op ≠ .In := by decide) (h2 : op ≠ .NotIn := by decide) : behindInMarks op b = false := by
  have e1 : (op == CmpOp.In) = false := by cases op <;> first | rfl | exact absurd rfl h
  have e2 : (op == CmpOp.NotIn) = false := by cases op <;> first | rfl | exact absurd rfl h2
  cases b <;> simp [behindInMarks, e1, e2]
/-- a comparison as a value; hm: nomark b, or (for in, not in) by with_unfolding_all rfl -/
theorem pe_cmpR {op : CmpOp} {r : R2} (ho : OpR X (compareOp op) r) (ha : PE X a ta) (hb : PE X b tb) (hm : behindInMarks op b = false) : PE X (.Compare a [op] [b] pos) (tOp r ta tb) := by
  intro pins s σ H Q I h
  exact wpAny_Compare1 (binT ha hb I h fun v u s2 x y H2 I2 rx ry q => ho pins s2 σ H2 x y v u Q I2 rx ry q) hm
/-- a reading of a value as a test -/
def tTest (t : TE) : TT := fun σ H Q => t σ H fun x H' => ∃ k, x = .bl k ∧ Q k H'
theorem pt_cmpR {op : CmpOp} {r : R2} (ho : OpR X (compareOp op) r) (ha : PE X a ta) (hb : PE X b tb) (hm : behindInMarks op b = false) : PT X (.Compare a [op] [b] pos) (tTest (tOp r ta tb)) := by
  intro pins s σ H Q I h
  refine wpAny_isTrue_Compare1 (thn (ha pins s σ H _ I h) fun v s1 ⟨x, H1, I1, r1, q1⟩ => thn (hb pins s1 σ H1 _ I1 q1) fun u s2 ⟨y, H2, I2, r2, q2⟩ =>
    thn (ho pins s2 σ H2 x y v u _ I2 r1 r2 q2) fun c s3 ⟨z, H3, I3, r3, k, e, q3⟩ => ?_) hm
  subst e
  cases r3
  exact wpAny_truthy_bool ⟨H3, I3, q3⟩
/-! ### truth -/
theorem line63 : (sizeLine : Nat) < 2 ^ 63 := by rw [sizeLine_eq]; decide
/-! ### strs and bytes -/
/-! ### scalar builtins, by CallR -/
theorem vals1 {x : V} {us : List Value} (r : Vals [x] us) : ∃ u, us = [u] ∧ RelV x u := by
  cases r with
  | cons r1 r2 => cases r2; exact ⟨_, rfl, r1⟩
end
end L2
namespace L2
open PySem PySem.Spec PyProof.Rows
/-! ### an instance, its attributes a map -/
structure ObjM (h : Heap) (x dx C : Addr) (mA : Str → Option Value) : Prop where
  obj : h.get? x = some (PySem.W.instObj C dx)
  ns : h.Ns1 dx mA
  ne : dx ≠ x
theorem lookIn_ns {h : Heap} {dx : Addr} {mA : Str → Option Value} (n : h.Ns1 dx mA) : ∃ od, h.get? dx = some od ∧ ∀ name, PySem.W.lookIn name od = some (mA name) := by
  obtain ⟨o, es, ep, ho, hd, hk, _, hm⟩ := n
  refine ⟨o, ho, fun name => ?_⟩
  have e := hm name
  unfold nsFind findBy at e
  rw [← Array.find?_toList] at e
  unfold PySem.W.lookIn
  rw [hd]
  dsimp only
  split
  · rename_i y q
    rw [q] at e
    exact congrArg some e
  · rename_i q
    rw [q] at e
    have a : es.toList.any (·.refKey) = false := by
      rw [List.any_eq_false]
      intro y hy
      obtain ⟨z, t, hkey⟩ := hk y (Array.mem_toList_iff.mp hy)
      simp [DictEntry.refKey, hkey]
    have a' : ¬ es.toList.any (·.refKey) = true := by rw [a]; exact Bool.false_ne_true
    rw [if_neg a']
    exact congrArg some e
theorem ObjM.look {h : Heap} {x dx C : Addr} {mA : Str → Option Value} (I : ObjM h x dx C mA) : ∃ od, PySem.W.InstAt h x (PySem.W.instObj C dx) C (some od) ∧ ∀ name, PySem.W.lookIn name od = some (mA name) :=
  let ⟨od, ho, hl⟩ := lookIn_ns I.ns
  ⟨od, ⟨I.obj, rfl, rfl, ho⟩, hl⟩
section
variable {prog : Program} {w : World} {A : Around} {E : Value → Shared → Prop} {s : Shared} {K : PySem.W.Frag} {x dx C f : Addr} {mA : Str → Option Value} {name : Str} {v : Value}
theorem get_map {expr : Bool} {Q : Value → Shared → Prop} (X : K.In s.heap) (I : ObjM s.heap x dx C mA) (hg : PySem.W.plainGet K C name = true) (hh : PySem.W.hasDictIn K C = true)
    (ha : PySem.W.findIn K (.ref C) name = some none) (hv : mA name = some v) (hv' : PySem.W.handedIn v = true) (h : Q v { s with toks := s.toks + 1 }) :
    wpAny (model prog w) A (getAttr (.ref x) name expr) Q E s := by
  obtain ⟨od, J, hl⟩ := I.look
  exact PySem.W.get_value X J (PySem.W.plainGet_of hg).1 (PySem.W.findObj_own hh ha rfl (by rw [hl, hv])) hv' h
theorem set_map {ns : List Str} {Q : Unit → Shared → Prop} (X : K.In s.heap) (I : ObjM s.heap x dx C mA)
    (hs : PySem.W.findIn K (.ref C) "__setattr__" = some (some (.builtin "object.__setattr__"))) (hp : PySem.W.plainOver K C = true) (ht : PySem.W.takerIn K C name = some none) (hh : PySem.W.hasDictIn K C = true)
    (hw : PySem.Within mA ns) (hsz : ns.length ≤ sizeLine)
    (h : ∀ h', ObjM h' x dx C (fun y => if y = name then some v else mA y) → Heap.SameBut dx s.heap h' → Q () { s with heap := h', toks := s.toks + 2 }) :
    wpAny (model prog w) A (setAttr (.ref x) name v) Q E s := by
  obtain ⟨od, J, hl⟩ := I.look
  refine PySem.W.set_plain X J hs (PySem.W.osa_open (s := { s with toks := s.toks + 1 }) (r := none) X J hp ht fun b => ?_)
  obtain ⟨cd, hc, hd'⟩ := PySem.W.any_some hh
  have hx : s.heap.get? x = some ⟨.ref C, some dx, .plain, #[]⟩ := I.obj
  refine wpAny_bind (wpAny_pure (wpAny_bind (wpAny_bind (wpAny_loadPart hx (wpAny_bind (PySem.W.Looks.here (s := { s with toks := s.toks + 1 }) (PySem.W.looks_clsIn X hc) ?_))))))
  rw [hd']
  refine wpAny_pure (a := some dx) (wpAny_bind (wpAny_pure (wpAny_bind ?_)))
  refine wpAny_nsSet1 (s := { s with toks := s.toks + 1 }) I.ns fun h' hn2 hs2 => ?_
  obtain ⟨oD, esD, epD, hoD, hdD, hcD⟩ := hn2.count (PySem.Within.cons name v hw)
  refine wpAny_bind (wpAny_lookBehind hoD (by rw [hdD]; exact pastItsLine_dict (Nat.le_trans hcD (by rw [List.length_cons]; omega))) ?_)
  exact wpAny_pure (h _ ⟨(hs2.2 _ (Ne.symm I.ne)).trans I.obj, hn2, I.ne⟩ hs2)
/-- C(..): the dict at the heap's end, the instance behind it; then its __init__ -/
theorem make_map {R : Result → Shared → Prop} {vs : List Value} {kw : List (Str × Value)} (X : K.In s.heap) (hm : PySem.W.makesIn K C = true)
    (hi : PySem.W.findIn K (.ref C) "__init__" = some (some (.ref f))) (hf : PySem.W.typeIn K (.ref f) = some (.type "function"))
    (h : codeAny (model prog w) (A.under (.builtin "type.__call__" ⟨.ref C :: vs, kw⟩)) (.call (.ref f) ⟨.ref (s.heap.objs.size + 1) :: vs, kw⟩) (PySem.W.InitBack (s.heap.objs.size + 1) R)
      { s with heap := (s.heap.push PySem.W.emptyDict).push (PySem.W.instObj C s.heap.objs.size) }) :
    codeAny (model prog w) A (.call (.ref C) ⟨vs, kw⟩) R s := by
  obtain ⟨hh, g, d, t, os⟩ := s
  exact PySem.W.make_core (PySem.W.makes_of X hm) (PySem.W.looks_findIn X hi) (fun self => PySem.W.bind_fn X self hf) (.inl rfl) h
end
/-! ### the attributes as a list of pairs -/
def putF (f : Str) (v : V) : List (Str × V) → List (Str × V)
  | [] => [(f, v)]
  | (g, x) :: r => if g = f then (g, v) :: r else (g, x) :: putF f v r
theorem lookup_putF (f g : Str) (v : V) : ∀ fs : List (Str × V), (putF f v fs).lookup g = if g = f then some v else fs.lookup g
  | [] => by
    show List.lookup g [(f, v)] = _
    by_cases h : g = f
    · have hb : (g == f) = true := beq_iff_eq.mpr h
      simp only [List.lookup, hb, if_pos h]
    · have hb : (g == f) = false := beq_eq_false_iff_ne.mpr h
      simp only [List.lookup, hb, if_neg h]
  | (k, x) :: r => by
    have ih := lookup_putF f g v r
    rw [show putF f v ((k, x) :: r) = (if k = f then (k, v) :: r else (k, x) :: putF f v r) from rfl]
    by_cases hk : k = f
    · rw [if_pos hk]
      by_cases h : g = k
      · have hb : (g == k) = true := beq_iff_eq.mpr h
        simp only [List.lookup, hb, if_pos (h.trans hk)]
      · have hb : (g == k) = false := beq_eq_false_iff_ne.mpr h
        simp only [List.lookup, hb, if_neg (fun e : g = f => h (e.trans hk.symm))]
    · rw [if_neg hk]
      by_cases h : g = k
      · have hb : (g == k) = true := beq_iff_eq.mpr h
        simp only [List.lookup, hb, if_neg (fun e : g = f => hk (h.symm.trans e))]
      · have hb : (g == k) = false := beq_eq_false_iff_ne.mpr h
        simp only [List.lookup, hb]
        exact ih
theorem keys_putF (f : Str) (v : V) : ∀ fs : List (Str × V), f ∈ (putF f v fs).map (·.1) ∧ ∀ g, g ∈ fs.map (·.1) → g ∈ (putF f v fs).map (·.1)
  | [] => ⟨by simp [putF], fun g h => by simp at h⟩
  | (k, x) :: r => by
    obtain ⟨i1, i2⟩ := keys_putF f v r
    rw [show putF f v ((k, x) :: r) = (if k = f then (k, v) :: r else (k, x) :: putF f v r) from rfl]
    by_cases hk : k = f
    · rw [if_pos hk]
      subst hk
      exact ⟨by simp, fun g h => by simpa using h⟩
    · rw [if_neg hk]
      refine ⟨?_, fun g h => ?_⟩
      · rw [List.map_cons]
        exact List.mem_cons_of_mem _ i1
      · rw [List.map_cons] at h ⊢
        rcases List.mem_cons.mp h with e | e
        · exact List.mem_cons.mpr (.inl e)
        · exact List.mem_cons_of_mem _ (i2 g e)
theorem length_putF (f : Str) (v : V) : ∀ fs : List (Str × V), (putF f v fs).length ≤ fs.length + 1
  | [] => by simp [putF]
  | (k, x) :: r => by
    have ih := length_putF f v r
    rw [show putF f v ((k, x) :: r) = (if k = f then (k, v) :: r else (k, x) :: putF f v r) from rfl]
    by_cases hk : k = f
    · rw [if_pos hk, List.length_cons, List.length_cons]; omega
    · rw [if_neg hk, List.length_cons, List.length_cons]; omega
theorem RelO.some_of {v : V} {o : Option Value} (r : RelO (some v) o) : ∃ u, o = some u ∧ RelV v u := by
  cases o with
  | none => exact (show False from r).elim
  | some u => exact ⟨u, rfl, r⟩
theorem handed_of {v : V} {u : Value} (r : RelV v u) : PySem.W.handedIn u = true := by
  cases v with
  | non => cases (show u = Value.none from r); rfl
  | bl b => cases (show u = Value.bool b from r); rfl
  | int i => obtain ⟨t, e⟩ := (show ∃ t, u = Value.int i t from r); cases e; rfl
  | str x => obtain ⟨t, e⟩ := (show ∃ t, u = Value.str x t from r); cases e; rfl
  | byt b => obtain ⟨t, e⟩ := (show ∃ t, u = Value.bytes b t from r); cases e; rfl
  | flt b => obtain ⟨t, e⟩ := (show ∃ t, u = Value.float b t from r); cases e; rfl
  | ref a => cases (show u = Value.ref a from r); rfl
  | ty n => cases (show u = Value.type n from r); rfl
section
variable {P : Program} {w : World} {H H' : Hp} {h h' : Heap} {a C dx : Addr} {fs fs' : List (Str × V)}
theorem ins_get (hok : HOk P w H h) (e : H a = some (.ins C dx fs)) : ∃ mA, ObjM h a dx C mA ∧ (∀ f, RelO (fs.lookup f) (mA f)) ∧ PySem.Within mA (fs.map (·.1)) ∧ fs.length ≤ 1000 ∧ H dx = some (.own a) := by
  obtain ⟨d, z, ne, ob, mA, n, r, q⟩ := (show ObjOk P w H h a (.ins C dx fs) from hok a _ e)
  exact ⟨mA, ⟨ob, n, ne⟩, r, q, z, d⟩
end
/-! ### what of the text a class must have -/
structure Cls (K : PySem.W.Frag) (C : Addr) : Prop where
  pg : PySem.W.plainGet K C Str.empty = true
  hd : PySem.W.hasDictIn K C = true
  po : PySem.W.plainOver K C = true
  sa : PySem.W.findIn K (.ref C) "__setattr__" = some (some (.builtin "object.__setattr__"))
theorem Cls.get {K : PySem.W.Frag} {C : Addr} (c : Cls K C) (f : Str) : PySem.W.plainGet K C f = true := c.pg
/-- no class of it has the name -/
def NoAttr (K : PySem.W.Frag) (C : Addr) (f : Str) : Prop := PySem.W.findIn K (.ref C) f = some none
theorem NoAttr.taker {K : PySem.W.Frag} {C : Addr} {f : Str} (n : NoAttr K C f) : PySem.W.takerIn K C f = some none := by
  unfold PySem.W.takerIn
  rw [show PySem.W.findIn K (.ref C) f = some none from n]
  rfl
section
variable {X : Cx} {pins : List (Addr × Obj)} {σ : St} {H : Hp} {s : Shared} {a C dx : Addr} {fs : List (Str × V)} {f : Str} {v : V} {A : Around} {E : Value → Shared → Prop}
theorem getattr_ok {b : Bool} {Q : Value → Shared → Prop} (I : Inv X pins σ H s) (e : H a = some (.ins C dx fs)) (c : Cls X.K C) (n : NoAttr X.K C f) (l : fs.lookup f = some v)
    (h : ∀ u s', Inv X pins σ H s' → RelV v u → Q u s') : wpAny (model X.prog X.w) A (getAttr (.ref a) f b) Q E s := by
  obtain ⟨mA, O, r, _, _, _⟩ := ins_get I.hok e
  obtain ⟨u, hu, ru⟩ := RelO.some_of (v := v) (o := mA f) (by rw [← l]; exact r f)
  exact get_map I.kIn O (c.get f) c.hd n hu (handed_of ru) (h u _ (I.tok _) ru)
theorem setattr_ok {y : V} {u : Value} {Q : Unit → Shared → Prop} (I : Inv X pins σ H s) (e : H a = some (.ins C dx fs)) (c : Cls X.K C) (n : NoAttr X.K C f) (hl : fs.length < 1000) (ry : RelV y u)
    (h : ∀ s', Inv X pins σ (upd H a (.ins C dx (putF f y fs))) s' → Q () s') : wpAny (model X.prog X.w) A (setAttr (.ref a) f u) Q E s := by
  obtain ⟨mA, O, r, wi, _, ho⟩ := ins_get I.hok e
  have hz : (fs.map (·.1)).length ≤ sizeLine := by rw [List.length_map, sizeLine_eq]; omega
  refine set_map I.kIn O c.sa c.po n.taker c.hd wi hz fun h' O' sb => h _ ?_
  have hd : ∃ o, h'.get? dx = some o := let ⟨o, _, _, e', _⟩ := O'.ns; ⟨o, e'⟩
  refine I.write (x := a) (e := dx) (by rw [e]; exact True.intro) (.inr ho) (fun b q hb z => (sb.2 b hb).trans z) hd ?_
  refine ⟨by rw [upd_ne O.ne]; exact ho, ?_, O.ne, O'.obj, _, O'.ns, fun g => ?_, fun g hg => ?_⟩
  · have := length_putF f y fs; omega
  · show RelO ((putF f y fs).lookup g) (if g = f then some u else mA g)
    rw [lookup_putF]
    by_cases q : g = f
    · rw [if_pos q, if_pos q]; exact ry
    · rw [if_neg q, if_neg q]; exact r g
  · by_cases q : g = f
    · rw [q]; exact (keys_putF f y fs).1
    · refine (keys_putF f y fs).2 g (wi g fun z => hg ?_)
      show (if g = f then some u else mA g) = none
      rw [if_neg q]; exact z
/-- a new instance, tracked, without attributes -/
theorem Inv.made (I : Inv X pins σ H s) : Inv X pins σ (upd (upd H s.heap.objs.size (.own (s.heap.objs.size + 1))) (s.heap.objs.size + 1) (.ins C s.heap.objs.size []))
    { s with heap := (s.heap.push PySem.W.emptyDict).push (PySem.W.instObj C s.heap.objs.size) } := by
  have e1 : (s.heap.push PySem.W.emptyDict).get? s.heap.objs.size = some PySem.W.emptyDict := Heap.get?_push_size s.heap rfl
  have e2 : ((s.heap.push PySem.W.emptyDict).push (PySem.W.instObj C s.heap.objs.size)).get? (s.heap.objs.size + 1) = some (PySem.W.instObj C s.heap.objs.size) := by
    have := Heap.get?_push_size (s.heap.push PySem.W.emptyDict) (o := PySem.W.instObj C s.heap.objs.size) rfl
    rwa [Heap.size_push] at this
  have e3 : (s.heap.push PySem.W.emptyDict).Ns s.heap.objs.size (fun _ => none) := ⟨PySem.W.emptyDict, #[], _, e1, rfl, (fun e he => absurd he (by simp)), fun _ => rfl⟩
  have I1 := I.laid (a := s.heap.objs.size) (o := .own (s.heap.objs.size + 1)) (h' := s.heap.push PySem.W.emptyDict) (t' := s.toks) (fun b u q => Heap.get?_push_of_some _ q) (Nat.le_refl _) ⟨_, e1⟩
  refine I1.laid (a := s.heap.objs.size + 1) (o := .ins C s.heap.objs.size []) (t' := s.toks) (fun b u q => Heap.get?_push_of_some _ q) (Nat.le_of_eq (Heap.size_push _ _)) ?_
  have ne : s.heap.objs.size ≠ s.heap.objs.size + 1 := Nat.ne_of_lt (Nat.lt_succ_self _)
  refine ⟨by rw [upd_ne ne, upd_same], Nat.zero_le _, ne, e2, fun _ => none, (Heap.Ns1.of_empty e3).at fun o q => Heap.get?_push_of_some _ q, fun _ => True.intro, fun y hy => absurd rfl hy⟩
/-- e.f where nothing but the object is asked: through attributeBase (super) and the last hold -/
theorem attr_of {prog : Program} {w : World} {env : Env} {e : Expr} {f : Str} {pos : Pos} {s : Shared} {Q : Value → Shared → Prop} (hb : attributeBase e f env (eval e env) = eval e env)
    (h : wpAny (model prog w) A (eval e env) (fun o s₁ => wpAny (model prog w) A (getAttr o f true) Q E s₁) E s) : wpAny (model prog w) A (eval (.Attribute e f pos) env) Q E s :=
  Attribute_any_ h (by rw [arm_eval_Attribute, hb])
end
/-! ### readings and rules -/
/-- e.f = value -/
def sFld (K : PySem.W.Frag) (ta tv : TE) (f : Str) : TS := fun D σ H => tv σ H fun y H1 => ta σ H1 fun x H2 => ∃ a C dx fs, x = .ref a ∧ H2 a = some (.ins C dx fs) ∧ Cls K C ∧ NoAttr K C f ∧ fs.length < 1000 ∧
  D.nx σ (upd H2 a (.ins C dx (putF f y fs)))
section
variable {X : Cx} {o e value : Expr} {f : Str} {pos pos' tpos : Pos} {ta tv : TE}
theorem ps_fld (ha : PE X o ta) (hv : PE X value tv) (hs : swapsWith value (some (.Attribute o f pos')) pos.line X.env = pure false) : PS X (.Assign [.Attribute o f pos'] value pos) (sFld X.K ta tv f) := by
  intro pins s σ H D I h
  refine plainObj_wpAny_Assign_Attribute (thn (hv pins s σ H _ I h) fun u s1 ⟨y, H1, I1, ry, q⟩ => thn (ha pins s1 σ H1 _ I1 q) fun ov s2 ⟨x, H2, I2, rx, a, C, dx, fs, ex, ea, c, n, l, q2⟩ => ?_) hs
  subst ex
  obtain rfl : ov = Value.ref a := rx
  exact setattr_ok I2 ea c n l ry fun s3 I3 => ⟨σ, _, I3, q2⟩
end
/-! ### isinstance -/
section
variable {X : Cx} {pins : List (Addr × Obj)} {σ : St} {H : Hp} {s : Shared} {A : Around} {E : Value → Shared → Prop} {Q : Value → Shared → Prop} {c : Value} {b : Bool}
end
end L2
namespace L2
open PySem PySem.Spec PyProof.Rows
/-! ### room -/
structure Room (k : Nat) (A : Around) : Prop where
  hd : A.handled = none
  dp : A.depth + 3 * k + 5 < recursionLimit
  un : A.units + 16 * k + 200 < cLine
theorem Room.mono {j k : Nat} {A : Around} (r : Room k A) (h : j ≤ k) : Room j A := ⟨r.hd, by have := r.dp; omega, by have := r.un; omega⟩
theorem Room.deeper {k : Nat} {A : Around} (r : Room (k + 1) A) (env : Env) : Room k (A.deeper env) :=
  ⟨r.hd, by have := r.dp; show A.depth + 1 + 3 * k + 5 < _; omega, by have := r.un; show A.units + 3 + 16 * k + 200 < _; omega⟩
theorem make_depth {A : Around} {C : Addr} {us : List Value} {kw : List (Str × Value)} : (A.under (.builtin "type.__call__" ⟨.ref C :: us, kw⟩)).depth = A.depth + 1 := by
  first | rfl | simp [Around.under, Code.weight, Code.isCreation, Code.isGuard, Code.isCaller, Code.frames, Code.isFrame, guardIds]
theorem make_units {A : Around} {C : Addr} {us : List Value} {kw : List (Str × Value)} : (A.under (.builtin "type.__call__" ⟨.ref C :: us, kw⟩)).units = A.units + 1 := by
  first | rfl | simp [Around.under, Code.cUnits, Code.frames, Code.isFrame]
theorem Room.make {k : Nat} {A : Around} (r : Room (k + 1) A) (C : Addr) (us : List Value) (kw : List (Str × Value)) : Room k (A.under (.builtin "type.__call__" ⟨.ref C :: us, kw⟩)) :=
  ⟨r.hd, by have := r.dp; rw [make_depth]; omega, by have := r.un; rw [make_units]; omega⟩
theorem Room.depth {k : Nat} {A : Around} (r : Room k A) : A.depth < recursionLimit := by have := r.dp; omega
theorem Room.units {k : Nat} {A : Around} (r : Room k A) : A.units + 64 < cLine := by have := r.un; omega
/-! ### argument lists and displays -/
def tNil : TA := fun _ H Q => Q [] H
def tCons (ta : TE) (tr : TA) : TA := fun σ H Q => ta σ H fun x H1 => tr σ H1 fun xs H2 => Q (x :: xs) H2
section
variable {X : Cx} {e : Expr} {es : List Expr} {te : TE} {t : TA} {pos : Pos}
theorem pa_nil : PA X [] tNil := fun _ _ _ _ H Q I h => Calls.spliced_nil ⟨[], H, I, .nil, h⟩
theorem pa_cons (ha : PE X e te) (hr : PA X es t) (hs : starEach (e :: es) X.env = (false, eval e X.env) :: starEach es X.env := by rfl) : PA X (e :: es) (tCons te t) := by
  intro pos pins s σ H Q I h
  rw [hs]
  show wpAny _ _ (spliced ((false, eval e X.env) :: backTo pos (starEach es X.env))) _ _ s
  refine Calls.spliced_cons (thn (ha pins s σ H _ I h) fun u s1 ⟨x, H1, I1, r1, q1⟩ => ?_)
  exact thn (hr pos pins s1 σ H1 _ I1 q1) fun us s2 ⟨xs, H2, I2, r2, q2⟩ => ⟨x :: xs, H2, I2, .cons r1 r2, q2⟩
/-- a tuple, a list of written items -/
def tTup (t : TA) : TE := fun σ H Q => t σ H fun xs H1 => xs.length ≤ sizeLine ∧ ∀ p, H1 p = none → Q (.ref p) (upd H1 p (.tup xs))
def tLst (t : TA) : TE := fun σ H Q => t σ H fun xs H1 => xs.length ≤ sizeLine ∧ ∀ p, H1 p = none → Q (.ref p) (upd H1 p (.lst xs))
theorem pe_tup {x1} (h : PA X es t) : PE X (.Tuple es x1 pos) (tTup t) := by
  intro pins s σ H Q I hq
  refine wpAny_Tuple_spliced (thn (h pos pins s σ H _ I hq) fun us s1 ⟨xs, H1, I1, r, z, q⟩ => ⟨by rw [← r.length]; exact z, ?_⟩)
  have hf : H1 s1.heap.objs.size = none := I1.hok.fresh (Nat.le_refl _)
  refine ⟨.ref s1.heap.objs.size, upd H1 s1.heap.objs.size (.tup xs), I1.laid (t' := s1.toks) (fun b u e => Heap.get?_push_of_some _ e) (Nat.le_refl _) ?_, rfl, q _ hf⟩
  exact ⟨z, us, r, ⟨_, Heap.get?_push_size _ rfl, rfl, _, rfl⟩⟩
theorem pe_lst (h : PA X es t) : PE X (.List es pos) (tLst t) := by
  intro pins s σ H Q I hq
  refine wpAny_List_spliced (thn (h pos pins s σ H _ I hq) fun us s1 ⟨xs, H1, I1, r, z, q⟩ => ⟨by rw [← r.length]; exact z, ?_⟩)
  have hf : H1 s1.heap.objs.size = none := I1.hok.fresh (Nat.le_refl _)
  refine ⟨.ref s1.heap.objs.size, upd H1 s1.heap.objs.size (.lst xs), I1.laid (t' := s1.toks) (fun b u e => Heap.get?_push_of_some _ e) (Nat.le_refl _) ?_, rfl, q _ hf⟩
  exact ⟨z, us, 0, r, Heap.get?_push_size _ rfl⟩
end
/-! ### what a def promises -/
/-- a def's promise: the bound arguments in the parameters' order, the heap, the wanted end, the wanted exception -/
abbrev Sp := List V → Hp → VK → XK → Prop
/-- how an exception lies behind a call (file 08 gives it): the callers' frames, abstract heap and state ahead of the call, the wish, the exception, the state -/
abbrev CXT := List Env → Hp → Shared → XK → Value → Shared → Prop
/-- the state at a call -/
structure Env0 (P : Program) (w : World) (K : PySem.W.Frag) (mg : Str → Option Value) (base : Heap) (A : Around) (outer : List Env) (s : Shared) (H : Hp) : Prop where
  frames : A.frames = some outer
  mod : Mod K mg base
  bs : ∀ b o, base.get? b = some o → s.heap.get? b = some o ∧ H b = none
  bsz : base.objs.size ≤ s.heap.objs.size
  funs : s.heap.FunFrames base outer
  frf : ∀ b ∈ frs outer, H b = none
  hok : HOk P w H s.heap
  bare : AllBare s.gens
/-- a call's end -/
def CE (outer : List Env) (P : Program) (w : World) (H : Hp) (s : Shared) (Q : VK) (u : Value) (s' : Shared) : Prop :=
  ∃ v H', s'.os = s.os ∧ AllBare s'.gens ∧ Un (frs outer) [] H H' s.heap s'.heap ∧ HOk P w H' s'.heap ∧ RelV v u ∧ Q v H'
def CR (CX : CXT) (outer : List Env) (P : Program) (w : World) (H : Hp) (s : Shared) (Q : VK) (E : XK) (r : Result) (s' : Shared) : Prop :=
  match r with
  | .ok (.ret u) => CE outer P w H s Q u s'
  | .ok _ => False
  | .error e => CX outer H s E e s'
structure FnOk (P : Program) (w : World) (K : PySem.W.Frag) (mg : Str → Option Value) (base : Heap) (CX : CXT) (k : Nat) (f : Addr) (fd : FuncData) (ps : List Str) (sp : Sp) : Prop where
  len : ∀ vs H Q E, sp vs H Q E → vs.length = ps.length
  run : ∀ (A : Around) (outer : List Env) (s : Shared) (H : Hp) (args : Args) (us : List Value) (vs : List V) (Q : VK) (E : XK), Room k A → Env0 P w K mg base A outer s H → BindsTo s fd args (ps.zip us) → Vals vs us → sp vs H Q E →
    codeAny (model P w) A (.call (.ref f) args) (CR CX outer P w H s Q E) s
theorem Env0.make {P : Program} {w : World} {K : PySem.W.Frag} {mg : Str → Option Value} {base : Heap} {A : Around} {outer : List Env} {s : Shared} {H : Hp} (e : Env0 P w K mg base A outer s H) (C : Addr) (us : List Value) (kw : List (Str × Value)) :
    Env0 P w K mg base (A.under (.builtin "type.__call__" ⟨.ref C :: us, kw⟩)) outer s H := ⟨by first | exact e.frames | (simpa [Around.under, Code.envs, Code.isFrame, pushEnvs] using e.frames), e.mod, e.bs, e.bsz, e.funs, e.frf, e.hok, e.bare⟩
section
variable {X : Cx} {pins : List (Addr × Obj)} {σ : St} {H : Hp} {s s' : Shared}
/-- from a body: what a callee wants -/
theorem Inv.env0 (I : Inv X pins σ H s) : Env0 X.prog X.w X.K X.mg X.base X.A X.stack s H :=
  ⟨I.ok.frames, I.ok.mod, I.bs, Nat.le_trans I.ok.bsz I.sz, I.stack, I.stkFree, I.hok, I.bare⟩
/-- behind a call -/
theorem Inv.after {Q : VK} {u : Value} (I : Inv X pins σ H s) (h : CE X.stack X.prog X.w H s Q u s') : EP X pins σ Q u s' := by
  obtain ⟨v, H', os, bare, un, hok, r, q⟩ := h
  obtain ⟨hh, g, d, t, os'⟩ := s'
  obtain rfl : os' = s.os := os
  exact ⟨v, H', I.call (h' := hh) (g' := g) (d' := d) (t' := t) (ch := []) un hok bare (fun b z => absurd z (by simp)), r, q⟩
end
/-! ### calls -/
/-- f(..): the written arguments, then the defaults dvs; E: what is wanted of an exception -/
def tCall (sp : Sp) (dvs : List V) (E : XK) (t : TA) : TE := fun σ H Q => t σ H fun vs H1 => sp (vs ++ dvs) H1 Q E
/-- C(..): a new instance and its dict, then __init__ -/
def tMake (C : Addr) (sp : Sp) (dvs : List V) (E : XK) (t : TA) : TE := fun σ H Q => t σ H fun vs H1 => ∀ x dx, H1 x = none → H1 dx = none → dx ≠ x →
  sp (.ref x :: (vs ++ dvs)) (upd (upd H1 dx (.own x)) x (.ins C dx [])) (fun v H2 => v = .non ∧ Q (.ref x) H2) E
/-- how the parameters are bound: us the positional arguments, kw the keywords' values by name, ds the defaults that fill up -/
def Binds (K : PySem.W.Frag) (fd : FuncData) (ps : List Str) (ds : List Value) : Prop :=
  ∀ (s : Shared) (us : List Value), K.In s.heap → (us ++ ds).length = ps.length → BindsTo s fd ⟨us, []⟩ (ps.zip (us ++ ds))
/-- every parameter is given -/
theorem Binds.all {K : PySem.W.Frag} {fd : FuncData} {ps : List Str} (h : ∀ us : List Value, us.length = ps.length → bindArgs fd ⟨us, []⟩ = pure (ps.zip us)) : Binds K fd ps [] := fun s us _ hl => by
  rw [List.append_nil] at hl ⊢
  exact .of_eq (h us hl)
/-- an exception of a callee reaches what this body wants of exceptions -/
def Passes (CX : CXT) (X : Cx) (E : XK) : Prop := ∀ (pins : List (Addr × Obj)) (σ : St) (H : Hp) (s : Shared) (e : Value) (s' : Shared), Inv X pins σ H s → CX X.stack H s E e s' → X.xe e s'
section
variable {X : Cx} {CX : CXT} {k : Nat} {f C : Addr} {fd : FuncData} {ps : List Str} {sp : Sp} {dvs : List V} {ds : List Value} {E : XK} {x m : Str} {p pos apos : Pos} {e o : Expr} {es : List Expr} {ta : TE} {t : TA}
/-- the callee runs -/
theorem run_fn {pins : List (Addr × Obj)} {σ : St} {H : Hp} {s : Shared} {Q : VK} {us : List Value} {vs : List V} (F : FnOk X.prog X.w X.K X.mg X.base CX k f fd ps sp) (hr : Room k X.A) (hb : Binds X.K fd ps ds) (hd : Vals dvs ds) (hx : Passes CX X E)
    (I : Inv X pins σ H s) (r : Vals vs us) (h : sp (vs ++ dvs) H Q E) : wpAny (model X.prog X.w) X.A (call (.ref f) us) (EP X pins σ Q) X.xe s := by
  have r2 : Vals (vs ++ dvs) (us ++ ds) := r.append hd
  have hl : (us ++ ds).length = ps.length := by rw [← r2.length]; exact F.len _ _ _ _ h
  refine wpAny_call (codeAny_mono (F.run X.A X.stack s H ⟨us, []⟩ (us ++ ds) (vs ++ dvs) Q E hr I.env0 (hb s us I.kIn hl) r2 h) fun r s' hq => ?_)
  cases r with
  | error e => exact hx pins σ H s e s' I hq
  | ok fl =>
    cases fl with
    | ret u => exact I.after hq
    | next => exact False.elim hq
    | brk => exact False.elim hq
    | cont => exact False.elim hq
theorem pe_call (F : FnOk X.prog X.w X.K X.mg X.base CX k f fd ps sp) (hr : Room k X.A) (hg : Gl X x) (hm : X.mg x = some (.ref f)) (hk : PySem.W.keepIn X.K (.ref f) = true) (hb : Binds X.K fd ps ds) (hd : Vals dvs ds) (hx : Passes CX X E)
    (ha : PA X (e :: es) t) (hdb : (x == ("__debug__" : Str)) = false := by decide) (he : starEach (e :: es) X.env = (false, eval e X.env) :: starEach es X.env := by rfl) (hpl : (backTo pos (starEach es X.env)).any (·.1) = false := by rfl) :
    PE X (.Call (.Name x p) (e :: es) [] pos) (tCall sp dvs E t) := by
  intro pins s σ H Q I h
  refine wpAny_Call_Name_kw (ld_glob I hg hm ?_ hdb)
  refine PySem.W.callWith_K (h₀ := X.base) I.ok.mod.kin hk (thn (ha pos pins s σ H _ I h) fun us s1 ⟨vs, H1, I1, r, q⟩ => ⟨I1.kIn, ?_⟩) he hpl
  exact run_fn F hr hb hd hx I1 r q
/-- what a class must have to be made -/
structure Mk (K : PySem.W.Frag) (C f : Addr) : Prop where
  makes : PySem.W.makesIn K C = true
  init : PySem.W.findIn K (.ref C) "__init__" = some (some (.ref f))
  fn : PySem.W.isFn K (.ref f) = true
  kp : PySem.W.keepIn K (.ref C) = true
theorem run_make {pins : List (Addr × Obj)} {σ : St} {H : Hp} {s : Shared} {Q : VK} {us : List Value} {vs : List V} (M : Mk X.K C f) (F : FnOk X.prog X.w X.K X.mg X.base CX k f fd ps sp) (hr : Room (k + 1) X.A) (hb : Binds X.K fd ps ds) (hd : Vals dvs ds)
    (hx : Passes CX X E) (I : Inv X pins σ H s) (r : Vals vs us)
    (h : ∀ x dx, H x = none → H dx = none → dx ≠ x → sp (.ref x :: (vs ++ dvs)) (upd (upd H dx (.own x)) x (.ins C dx [])) (fun v H2 => v = .non ∧ Q (.ref x) H2) E) :
    wpAny (model X.prog X.w) X.A (call (.ref C) us) (EP X pins σ Q) X.xe s := by
  have hq := h (s.heap.objs.size + 1) s.heap.objs.size (I.hok.fresh (Nat.le_succ _)) (I.hok.fresh (Nat.le_refl _)) (Nat.ne_of_lt (Nat.lt_succ_self _))
  have I2 := Inv.made (C := C) I
  have r2 : Vals (V.ref (s.heap.objs.size + 1) :: (vs ++ dvs)) (Value.ref (s.heap.objs.size + 1) :: (us ++ ds)) := .cons rfl (r.append hd)
  have hl : (Value.ref (s.heap.objs.size + 1) :: us ++ ds).length = ps.length := by
    have e := r2.length
    rw [F.len _ _ _ _ hq] at e
    exact e.symm
  refine wpAny_call (make_map (f := f) I.kIn M.makes M.init (beq_iff_eq.mp M.fn) (codeAny_mono (F.run _ X.stack _ _ ⟨Value.ref (s.heap.objs.size + 1) :: us, []⟩ (Value.ref (s.heap.objs.size + 1) :: (us ++ ds)) _ _ E (hr.make C us [])
    (I2.env0.make C us []) (hb _ (Value.ref (s.heap.objs.size + 1) :: us) I2.kIn hl) r2 hq) fun r s' hq' => ?_))
  cases r with
  | error e => exact hx pins σ _ _ e s' I2 hq'
  | ok fl =>
    cases fl with
    | ret u =>
      obtain ⟨v, H', I3, rv, ev, q3⟩ := I2.after hq'
      subst ev
      exact ⟨rv, ⟨V.ref (s.heap.objs.size + 1), H', I3, rfl, q3⟩⟩
    | next => exact False.elim hq'
    | brk => exact False.elim hq'
    | cont => exact False.elim hq'
theorem pe_make (M : Mk X.K C f) (F : FnOk X.prog X.w X.K X.mg X.base CX k f fd ps sp) (hr : Room (k + 1) X.A) (hg : Gl X x) (hm : X.mg x = some (.ref C)) (hb : Binds X.K fd ps ds) (hd : Vals dvs ds) (hx : Passes CX X E)
    (ha : PA X (e :: es) t) (hdb : (x == ("__debug__" : Str)) = false := by decide) (he : starEach (e :: es) X.env = (false, eval e X.env) :: starEach es X.env := by rfl) (hpl : (backTo pos (starEach es X.env)).any (·.1) = false := by rfl) :
    PE X (.Call (.Name x p) (e :: es) [] pos) (tMake C sp dvs E t) := by
  intro pins s σ H Q I h
  refine wpAny_Call_Name_kw (ld_glob I hg hm ?_ hdb)
  refine PySem.W.callWith_K (h₀ := X.base) I.ok.mod.kin M.kp (thn (ha pos pins s σ H _ I h) fun us s1 ⟨vs, H1, I1, r, q⟩ => ⟨I1.kIn, ?_⟩) he hpl
  exact run_make M F hr hb hd hx I1 r q
end
/-! ### keywords -/
section
variable {X : Cx} {CX : CXT} {k : Nat} {f C : Addr} {fd : FuncData} {ps ks : List Str} {sp : Sp} {E : XK} {x m : Str} {p pos apos kpos : Pos} {e o : Expr} {es : List Expr} {kws : List Keyword} {te ta : TE} {t tk : TA} {nm : Option Str}
variable {g : List Value → List Value → List Value} {gV : List V → List V → List V}
end
/-! ### a def's body keeps its promise -/
/-- names: the parameters first -/
structure FnScope (N P : List Str) (sc : Scope) : Prop where
  kind : sc.kind = .function
  co : sc.isCoroutine = false
  gen : sc.isGenerator = false
  nd : N.Nodup
  pre : N.take P.length = P
  par : ∀ x ∈ P, sc.names.lookup x = some .local ∨ sc.names.lookup x = some .cell
  nofree : ∀ y ∈ sc.names, y.2 ≠ .free
theorem bindL_out {kindOf : Str → Option NameKind} {x : Str} : ∀ {binds : List (Str × Value)} {m : Str → Option Value}, (∀ v, (x, v) ∉ binds) → bindL kindOf binds m x = m x
  | [], _, _ => rfl
  | (n, v) :: r, m, h => by
    unfold bindL
    rw [bindL_out fun w hw => h w (List.mem_cons_of_mem _ hw)]
    split
    · have : x ≠ n := by rintro rfl; exact h v List.mem_cons_self
      simp [this]
    · rfl
theorem bindC_out {kindOf : Str → Option NameKind} {x : Str} : ∀ {binds : List (Str × Value)} {m : Str → Option Value}, (∀ v, (x, v) ∉ binds) → bindC kindOf binds m x = m x
  | [], _, _ => rfl
  | (n, v) :: r, m, h => by
    unfold bindC
    rw [bindC_out fun w hw => h w (List.mem_cons_of_mem _ hw)]
    split
    · rfl
    · have : x ≠ n := by rintro rfl; exact h v List.mem_cons_self
      simp [this]
theorem bindL_get {kindOf : Str → Option NameKind} {x : Str} {v : Value} : ∀ {P : List Str} {vs : List Value} {i : Nat} {m : Str → Option Value}, P.Nodup → P[i]? = some x → vs[i]? = some v → kindOf x = some .local →
    bindL kindOf (P.zip vs) m x = some v
  | [], _, _, _, _, h, _, _ => by simp at h
  | _ :: _, [], _, _, _, _, h, _ => by simp at h
  | p :: P, w :: vs, 0, m, nd, h1, h2, hk => by
    simp at h1 h2; subst h1; subst h2
    show bindL kindOf ((p, w) :: P.zip vs) m p = _
    unfold bindL
    rw [bindL_out fun v hv => (List.nodup_cons.mp nd).1 (List.of_mem_zip hv).1, if_pos hk]
    simp
  | p :: P, w :: vs, i + 1, m, nd, h1, h2, hk => by
    show bindL kindOf ((p, w) :: P.zip vs) m x = _
    unfold bindL
    exact bindL_get (i := i) (List.nodup_cons.mp nd).2 (by simpa using h1) (by simpa using h2) hk
theorem bindC_get {kindOf : Str → Option NameKind} {x : Str} {v : Value} : ∀ {P : List Str} {vs : List Value} {i : Nat} {m : Str → Option Value}, P.Nodup → P[i]? = some x → vs[i]? = some v → kindOf x ≠ some .local →
    bindC kindOf (P.zip vs) m x = some v
  | [], _, _, _, _, h, _, _ => by simp at h
  | _ :: _, [], _, _, _, _, h, _ => by simp at h
  | p :: P, w :: vs, 0, m, nd, h1, h2, hk => by
    simp at h1 h2; subst h1; subst h2
    show bindC kindOf ((p, w) :: P.zip vs) m p = _
    unfold bindC
    rw [bindC_out fun v hv => (List.nodup_cons.mp nd).1 (List.of_mem_zip hv).1, if_neg hk]
    simp
  | p :: P, w :: vs, i + 1, m, nd, h1, h2, hk => by
    show bindC kindOf ((p, w) :: P.zip vs) m x = _
    unfold bindC
    exact bindC_get (i := i) (List.nodup_cons.mp nd).2 (by simpa using h1) (by simpa using h2) hk
/-- the names' values at the entry -/
def start (N : List Str) (vs : List V) : St := vs.map some ++ List.replicate (N.length - vs.length) none
/-- the context of a def's body, at its entry; an exception leaves the frame, then lies as CX says -/
def cxOf (CX : CXT) (P : Program) (w : World) (K : PySem.W.Frag) (mg : Str → Option Value) (base : Heap) (N : List Str) (qual : Str) (scope : Scope) (f : Addr) (cd : Value) (A : Around) (outer : List Env) (s : Shared) (H : Hp) (E : XK) : Cx where
  prog := P
  w := w
  K := K
  mg := mg
  base := base
  A := A.deeper (envOfC qual scope s.heap.objs.size f cd)
  N := N
  s_0 := s
  H_0 := H
  env := envOfC qual scope s.heap.objs.size f cd
  outer := outer
  stack := envOfC qual scope s.heap.objs.size f cd :: outer
  ex := []
  calm := true
  fn := fun _ => true
  pn := []
  xe := fun e s' => wpAny (model P w) (A.deeper (envOfC qual scope s.heap.objs.size f cd)) (leaving (envOfC qual scope s.heap.objs.size f cd) e) (fun _ s'' => CX outer H s E e s'') (fun e' s'' => CX outer H s E e' s'') s'
theorem cell_has {sc : Scope} {n : Nat} {x : Str} (h : sc.names.lookup x = some .cell) : ∃ c, (cellsFrom n sc.names []).lookup x = some c := by
  have q := PySem.W.cellsFrom_some sc.names n [] (.inl h)
  exact Option.isSome_iff_exists.mp q
theorem inv_start {CX : CXT} {P : Program} {w : World} {K : PySem.W.Frag} {mg : Str → Option Value} {base : Heap} {N ps : List Str} {qual : Str} {scope : Scope} {f : Addr} {cd : Value} {A : Around} {outer : List Env} {s s1 : Shared} {H : Hp} {E : XK} {us : List Value} {vs : List V}
    (S : FnScope N ps scope) (hd : A.handled = none) (e0 : Env0 P w K mg base A outer s H) (hl : vs.length = ps.length) (r : Vals vs us)
    (x : InCallC s s.heap.objs.size (bindL (envOfC qual scope s.heap.objs.size f cd).kindOf (ps.zip us) fun _ => none) (cellsFrom (s.heap.objs.size + 1) scope.names []) (bindC (envOfC qual scope s.heap.objs.size f cd).kindOf (ps.zip us) fun _ => none) s1) :
    Inv (cxOf CX P w K mg base N qual scope f cd A outer s H E) [] (start N vs) H s1 := by
  have hpl : ps.length ≤ N.length := by have := congrArg List.length S.pre; rw [List.length_take] at this; omega
  obtain ⟨h1, tk, rfl, hk⟩ := x.done
  have noA : ∀ b : Addr, b ∉ (cxOf CX P w K mg base N qual scope f cd A outer s H E).ex := fun b z => absurd (show b ∈ ([] : List Addr) from z) (by simp)
  refine ⟨⟨e0.mod, S.kind, rfl, rfl, Nat.le_refl _, fun y z c h1 h2 => ?_, fun y hy => ?_, fun y c _ h => ?_, fun _ => hd, Around.frames_deeper e0.frames, .inr ⟨rfl, rfl⟩, fun b z => absurd z (noA b), e0.bs, e0.bsz, fun b _ _ => noA b, fun b z => absurd z (noA b), e0.funs, e0.frf⟩,
    rfl, e0.bare, Un.kept hk, ⟨_, x.toInCall.ns, fun i y v h1 h2 h3 => ?_⟩, fun y c h => ⟨_, x.cell y c h⟩, e0.hok.fresh (Nat.le_refl _), fun y c h => ?_, fun p hp => absurd (show p ∈ ([] : List (Addr × Obj)) from hp) (by simp), e0.hok.kept hk, ?_⟩
  · exact name_of_addr x.apart (PySem.mem_of_lookup h1) (PySem.mem_of_lookup h2)
  · have hy : scope.names.lookup y = some .cell ∨ scope.names.lookup y = some .free := hy
    rcases hy with hy | hy
    · exact cell_has hy
    · exact absurd rfl (S.nofree _ (PySem.mem_of_lookup hy))
  · exact Nat.le_of_lt (x.above y c (PySem.mem_of_lookup h))
  · have hi : i < vs.length := by
      unfold start at h2
      by_cases hi : i < vs.length
      · exact hi
      · rw [List.getElem?_append_right (by simpa using hi)] at h2
        rw [List.getElem?_replicate] at h2
        split at h2 <;> cases h2
    have ha : vs[i]? = some v := by
      unfold start at h2
      rw [List.getElem?_append_left (by simpa using hi), List.getElem?_map] at h2
      cases e : vs[i]? with
      | none => rw [e] at h2; cases h2
      | some a => rw [e] at h2; cases h2; rfl
    obtain ⟨u, hu, rv⟩ := r.get ha
    have hp : ps[i]? = some y := by
      rw [← S.pre, List.getElem?_take_of_lt (by omega)]; exact h1
    have ndP : ps.Nodup := by rw [← S.pre]; exact S.nd.sublist (List.take_sublist _ _)
    refine ⟨u, rv, ?_⟩
    rcases S.par y (List.mem_of_getElem? hp) with k | k
    · exact .inl ⟨k, bindL_get ndP hp hu k⟩
    · obtain ⟨c, e⟩ := cell_has (n := s.heap.objs.size + 1) k
      refine .inr ⟨.inl k, c, e, ?_⟩
      have q := x.cell y c e
      rw [bindC_get ndP hp hu (by show scope.names.lookup y ≠ _; rw [k]; decide)] at q
      exact q
  · exact e0.hok.fresh (Nat.le_of_lt (x.above y c (PySem.mem_of_lookup h)))
  · unfold start
    show _ = N.length
    rw [List.length_append, List.length_map, List.length_replicate]
    omega
/-- THE RULE: a def (or a method) of the text, by its body. The body's reading t is chosen for each entry; it is run at the parameters' values -/
theorem fn_of {CX : CXT} {P : Program} {w : World} {K : PySem.W.Frag} {mg : Str → Option Value} {base : Heap} {k : Nat} {f : Addr} {name qual : Str} {params : Arguments} {body : List Stmt} {scope : Scope} {dV kV doc pm cdv ct oc : Value} {an od : Option Addr}
    {osl : Array (Option Value)} {N ps : List Str} {sp : Sp} (lk : K.lookup f = some ⟨oc, od, .func (PySem.W.fnOf name qual params body scope dV kV doc pm an cdv ct), osl⟩) (hcd : PySem.W.codeIn K cdv qual = true) (S : FnScope N ps scope)
    (len : ∀ vs H Q E, sp vs H Q E → vs.length = ps.length)
    (hbody : ∀ (A : Around) (outer : List Env) (s : Shared) (H : Hp) (vs : List V) (Q : VK) (E : XK), Room k (A.deeper (envOfC qual scope s.heap.objs.size f cdv)) → sp vs H Q E →
      ∃ t, PSs (cxOf CX P w K mg base N qual scope f cdv A outer s H E) body t ∧ t { nx := fun _ H' => Q .non H', rt := Q } (start N vs) H) :
    FnOk P w K mg base CX (k + 1) f (PySem.W.fnOf name qual params body scope dV kV doc pm an cdv ct) ps sp := by
  refine ⟨len, fun A outer s H args us vs Q E hr e0 hb r hsp => ?_⟩
  have hl := len _ _ _ _ hsp
  have KX : K.In s.heap := e0.mod.kin.keeps fun b o e => (e0.bs b o e).1
  have lim : s.heap.NoLimit := e0.mod.nolimit.keeps fun b o e => (e0.bs b o e).1
  have hkind : ∀ y ∈ ps.zip us, scope.names.lookup y.1 = some .local ∨ (scope.names.lookup y.1 = some .cell ∧ ((cellsFrom (s.heap.objs.size + 1) scope.names []).lookup y.1).isSome = true) := fun ⟨n, v⟩ hy => by
    rcases S.par n (List.of_mem_zip hy).1 with q | q
    · exact .inl q
    · exact .inr ⟨q, PySem.W.cellsFrom_some _ _ _ (.inl q)⟩
  refine codeAny_call_function hr.depth (KX _ _ lk) rfl S.co S.gen rfl (PySem.W.codeRec_of KX hcd) (hb _ _ _ _ ?_)
  refine wpAny_newFunctionEnv_cells S.kind hkind fun env he s1 x => ?_
  subst he
  refine ⟨lim.keeps x.toInCall.keep, codeAny_func ?_⟩
  obtain ⟨t, ht, hq⟩ := hbody A outer s H vs Q E (hr.deeper _) hsp
  have I : Inv (cxOf CX P w K mg base N qual scope f cdv A outer s H E) [] (start N vs) H s1 := inv_start S hr.hd e0 hl r x
  refine wpAny_mono (ht [] s1 (start N vs) H _ I hq) (fun fl s' hs => ?_) fun e s' hs => hs
  have fin : ∀ {σ' : St} {H' : Hp} {v : V} {u : Value}, Inv (cxOf CX P w K mg base N qual scope f cdv A outer s H E) [] σ' H' s' → RelV v u → Q v H' → CE outer P w H s Q u s' :=
    fun {σ' H' v u} J rv q => ⟨v, H', J.os, J.bare, J.base, J.hok, rv, q⟩
  cases fl with
  | ret u =>
    obtain ⟨v, σ', H', J, rv, q⟩ := hs
    exact fin J rv q
  | next =>
    obtain ⟨σ', H', J, q⟩ := hs
    exact fin (v := V.non) (u := Value.none) J rfl q
  | brk =>
    obtain ⟨_, _, _, q⟩ := hs
    exact False.elim q
  | cont =>
    obtain ⟨_, _, _, q⟩ := hs
    exact False.elim q
end L2
namespace L2
open PySem PySem.Spec PyProof.Rows
section
variable {X : Cx} {x : Str} {p pos : Pos} {e : Expr} {es : List Expr} {t : TA} {id T : String} {r : List V → Hp → VK → Prop}
def tCB (r : List V → Hp → VK → Prop) (t : TA) : TE := fun σ H Q => t σ H fun vs H1 => r vs H1 Q
/-- f(e, ..), f a built-in function -/
theorem pe_callB (hc : CallR X (.builtin id) r) (hg : Gl X x) (hm : X.mg x = none) (hv : bootBuiltins x = some (.builtin id)) (ha : PA X (e :: es) t) (hn : x ≠ "__name__" := by decide) (hdb : (x == ("__debug__" : Str)) = false := by decide)
    (he : starEach (e :: es) X.env = (false, eval e X.env) :: starEach es X.env := by rfl) (hpl : (backTo pos (starEach es X.env)).any (·.1) = false := by rfl) : PE X (.Call (.Name x p) (e :: es) [] pos) (tCB r t) := by
  intro pins s σ H Q I h
  refine wpAny_Call_Name_kw (ld_blt I hg hm hv ?_ hn hdb)
  exact PyProof.Rows.callWith_builtin1 (thn (ha pos pins s σ H _ I h) fun us s1 ⟨vs, H1, I1, r1, q1⟩ => hc pins s1 σ H1 vs us Q I1 r1 q1) he hpl
/-- T(e, ..), T a built-in type -/
theorem pe_callTy (hc : CallR X (.type T) r) (hg : Gl X x) (hm : X.mg x = none) (hv : bootBuiltins x = some (.type T)) (ha : PA X (e :: es) t) (hn : x ≠ "__name__" := by decide) (hdb : (x == ("__debug__" : Str)) = false := by decide)
    (he : starEach (e :: es) X.env = (false, eval e X.env) :: starEach es X.env := by rfl) (hpl : (backTo pos (starEach es X.env)).any (·.1) = false := by rfl) : PE X (.Call (.Name x p) (e :: es) [] pos) (tCB r t) := by
  intro pins s σ H Q I h
  refine wpAny_Call_Name_kw (ld_blt I hg hm hv ?_ hn hdb)
  exact PyProof.Rows.callWith_type1 (thn (ha pos pins s σ H _ I h) fun us s1 ⟨vs, H1, I1, r1, q1⟩ => hc pins s1 σ H1 vs us Q I1 r1 q1) he hpl
end
end L2
namespace HT
open PySem PyProof.Rows
section
open PySem.SeqAt
open PySem.AutoSeq1 (wpAny_loadPart')
open PySem.MeetsSeq PySem.MeetsSeq2 PySem.MeetsSeq3
end
section
variable {prog : Program} {w : World} {A : Around} {E : Value → Shared → Prop} {s : Shared}
/-! ### t[a:b], not the whole -/
/-- a slice's bound as a place among n (d where it is left out) -/
def sIx (n d : Nat) : Option Int → Nat
  | none => d
  | some v => if v < 0 then (v + (n : Int)).toNat else min v.toNat n
theorem sIx_none (n d : Nat) : sIx n d none = d := rfl
theorem sIx_nat (n d k : Nat) : sIx n d (some (k : Int)) = min k n := by
  show (if (k : Int) < 0 then ((k : Int) + (n : Int)).toNat else min (k : Int).toNat n) = min k n
  rw [if_neg (by omega), Int.toNat_natCast]
end
end HT
namespace L2
open PySem PySem.Spec PyProof.Rows
/-! ### the parts of a slice -/
abbrev TO := St → Hp → (Option Int → Hp → Prop) → Prop
/-- a slice's part (left out, or an int) -/
def PO (X : Cx) (e : Option Expr) (t : TO) : Prop :=
  ∀ (pins : List (Addr × Obj)) (s : Shared) (σ : St) (H : Hp) (Q : Option Int → Hp → Prop), Inv X pins σ H s → t σ H Q →
    wpAny (model X.prog X.w) X.A (evalPart e X.env) (fun u s' => ∃ o H', Inv X pins σ H' s' ∧ IsPart u o ∧ Q o H') X.xe s
def tNoPart : TO := fun _ H Q => Q none H
def tPart (t : TE) : TO := fun σ H Q => t σ H fun x H1 => ∃ i, x = .int i ∧ Q (some i) H1
section
variable {X : Cx} {e : Expr} {te : TE} {lo hi : Option Expr} {tl th : TO} {pos p2 : Pos}
theorem po_none : PO X none tNoPart := by
  intro pins s σ H Q I h
  rw [evalPart_none]
  exact wpAny_pure ⟨none, H, I, .none, h⟩
theorem po_some (h : PE X e te) : PO X (some e) (tPart te) := by
  intro pins s σ H Q I hw
  rw [evalPart_some]
  refine thn (h pins s σ H _ I hw) fun u s1 ⟨x, H1, I1, r1, q1⟩ => ?_
  obtain ⟨i, rfl, q⟩ := q1
  obtain ⟨t, rfl⟩ := r1
  exact ⟨some i, H1, I1, .int i t, q⟩
/-- what a slice of a value is, by values: the slice object stands at sl -/
def SlR (X : Cx) (r : V → Option Int → Option Int → Hp → VK → Prop) : Prop :=
  ∀ (pins : List (Addr × Obj)) (s : Shared) (σ : St) (H : Hp) (x : V) (v vl vu : Value) (lo hi : Option Int) (sl : Addr) (Q : VK), Inv X pins σ H s → RelV x v → s.heap.IsSliceOf sl vl vu .none → IsPart vl lo → IsPart vu hi → r x lo hi H Q →
    ∃ T id, typeLookup (.type T) "__getitem__" = pure (some (.builtin id)) ∧ s.TypeIs v T ∧ wpAny (model X.prog X.w) X.A (getItem v (.ref sl)) (EP X pins σ Q) X.xe s
def tSl (r : V → Option Int → Option Int → Hp → VK → Prop) (te : TE) (tl th : TO) : TE := fun σ H Q => te σ H fun x H1 => tl σ H1 fun l H2 => th σ H2 fun u H3 => r x l u H3 Q
/-- a[lo:hi], any a -/
theorem pe_slice {r : V → Option Int → Option Int → Hp → VK → Prop} (hr : SlR X r) (he : PE X e te) (hl : PO X lo tl) (hu : PO X hi th) : PE X (.Subscript e (.Slice lo hi none p2) pos) (tSl r te tl th) := by
  intro pins s σ H Q I h
  refine Subscript_ (thn (he pins s σ H _ I h) fun v s1 ⟨x, H1, I1, r1, q1⟩ => ?_)
  refine wpAny_Slice (thn (hl pins s1 σ H1 _ I1 q1) fun vl s2 ⟨l, H2, I2, pl, q2⟩ => thn (hu pins s2 σ H2 _ I2 q2) fun vu s3 ⟨u, H3, I3, pu, q3⟩ => ?_)
  rw [evalPart_none]
  refine wpAny_pure ?_
  have I4 : Inv X pins σ H3 { s3 with heap := s3.heap.push { cls := .type "slice", data := .fields #[vl, vu, .none] } } := I3.kept (t' := s3.toks) fun b ob q => Heap.get?_push_of_some _ q
  obtain ⟨T, id, hT, ht, hg⟩ := hr pins { s3 with heap := s3.heap.push { cls := .type "slice", data := .fields #[vl, vu, .none] } } σ H3 x v vl vu l u s3.heap.objs.size Q I4 r1 (Heap.IsSliceOf.new ..) pl pu q3
  show wpAny (model X.prog X.w) X.A (subscriptTail e (.Slice lo hi none p2) v (.ref s3.heap.objs.size)) (EP X pins σ Q) X.xe { s3 with heap := s3.heap.push { cls := .type "slice", data := .fields #[vl, vu, .none] } }
  exact tail_any (ops := [.ref s3.heap.objs.size, v]) ht hT hg (by with_unfolding_all rfl)
/-- the items of xs[lo:hi] -/
def cutV (xs : List V) (lo hi : Option Int) : List V := (xs.drop (HT.sIx xs.length 0 lo)).take (HT.sIx xs.length xs.length hi - HT.sIx xs.length 0 lo)
theorem cutV_length (xs : List V) (lo hi : Option Int) : (cutV xs lo hi).length ≤ xs.length := by
  unfold cutV
  rw [List.length_take, List.length_drop]
  omega
/-! ### t < u, t + u -/
end
end L2
namespace L2
open PySem PySem.Spec PyProof.Rows
/-! ### places -/
/-- the place that an index of any sign means -/
def ixN (n : Nat) (i : Int) : Option Nat := if 0 ≤ i then (if i < n then some i.toNat else none) else if -(n : Int) ≤ i then some (i + n).toNat else none
def atI {α : Type} (xs : List α) (i : Int) : Option α := (ixN xs.length i).bind fun j => xs[j]?
theorem ixN_seq {n : Nat} {i : Int} {j : Nat} (h : ixN n i = some j) : seqIndex? i n = some j ∧ j < n ∧ -(n : Int) ≤ i ∧ i < n := by
  unfold ixN at h
  by_cases h0 : 0 ≤ i
  · rw [if_pos h0] at h
    by_cases h1 : i < n
    · rw [if_pos h1] at h
      have e : i.toNat = j := Option.some.inj h
      exact ⟨by rw [seqIndex_of h0 h1, e], by omega, by omega, h1⟩
    · rw [if_neg h1] at h; cases h
  · rw [if_neg h0] at h
    by_cases h1 : -(n : Int) ≤ i
    · rw [if_pos h1] at h
      have e : (i + n).toNat = j := Option.some.inj h
      exact ⟨by rw [seqIndex_neg (by omega) h1, e], by omega, h1, by omega⟩
    · rw [if_neg h1] at h; cases h
theorem atI_get {α : Type} {xs : List α} {i : Int} {v : α} (h : atI xs i = some v) : ∃ j, seqIndex? i xs.length = some j ∧ xs[j]? = some v ∧ j < xs.length ∧ -(xs.length : Int) ≤ i ∧ i < xs.length := by
  unfold atI at h
  cases e : ixN xs.length i with
  | none => rw [e] at h; cases h
  | some j =>
    rw [e] at h
    obtain ⟨h1, h2, h3, h4⟩ := ixN_seq e
    exact ⟨j, h1, h, h2, h3, h4⟩
theorem atI_nat {α : Type} {xs : List α} {j : Nat} {v : α} (h : xs[j]? = some v) : atI xs (j : Int) = some v := by
  have hj : j < xs.length := (List.getElem?_eq_some_iff.mp h).1
  have e : ixN xs.length (j : Int) = some j := by
    unfold ixN
    rw [if_pos (by omega), if_pos (by omega)]; simp
  unfold atI; rw [e]; exact h
/-! ### what may be subscripted -/
/-- what stands as an index of a plain subscript -/
def PlainIx (b : Expr) : Prop := ∀ o i, subscripted b false o i = operate [o, i] (getItem o i)
/-- a subscript by values -/
def IxR (X : Cx) (r : R2) : Prop :=
  ∀ (value slice : Expr) (pins : List (Addr × Obj)) (s : Shared) (σ : St) (H : Hp) (x y : V) (v u : Value) (Q : VK), Inv X pins σ H s → RelV x v → RelV y u → r x y H Q →
    subscripted slice false v u = operate [v, u] (getItem v u) → wpAny (model X.prog X.w) X.A (subscriptTail value slice v u) (EP X pins σ Q) X.xe s
/-- a call of a builtin's method by values: the receiver, the arguments -/
def MtR (X : Cx) (id : String) (r : V → List V → Hp → VK → Prop) : Prop :=
  ∀ (pins : List (Addr × Obj)) (s : Shared) (σ : St) (H : Hp) (x : V) (xs : List V) (v : Value) (us : List Value) (Q : VK), Inv X pins σ H s → RelV x v → Vals xs us → r x xs H Q →
    wpAny (model X.prog X.w) X.A (call (.builtin id) (v :: us)) (EP X pins σ Q) X.xe s
section
variable {X : Cx} {a b : Expr} {ta tb : TE} {pos : Pos}
/-- a[b] -/
theorem pe_ix {r : R2} (hr : IxR X r) (ha : PE X a ta) (hb : PE X b tb) (hs : PlainIx b) : PE X (.Subscript a b pos) (tOp r ta tb) := by
  intro pins s σ H Q I h
  exact Subscript_ (binT ha hb I h fun v u s2 x y H2 I2 rx ry q => hr a b pins s2 σ H2 x y v u Q I2 rx ry q (hs _ _))
def rIxL (K : PySem.W.Frag) : R2 := fun x y H Q => ∃ p xs i v, x = .ref p ∧ y = .int i ∧ SqL K H p xs ∧ atI xs i = some v ∧ Q v H
def rIxT (K : PySem.W.Frag) : R2 := fun x y H Q => ∃ p xs i v, x = .ref p ∧ y = .int i ∧ SqT K H p xs ∧ atI xs i = some v ∧ Q v H
theorem ix_list : IxR X (rIxL X.K) := by
  intro value slice pins s σ H x y v u Q I rx ry h hs
  obtain ⟨p, xs, i, z, rfl, rfl, hq, he, q⟩ := h
  cases rx
  obtain ⟨t, rfl⟩ := ry
  obtain ⟨its, r, pl, hz⟩ := I.list hq
  obtain ⟨j, h1, h2, h3, h4, h5⟩ := atI_get he
  obtain ⟨w, ew, rw'⟩ := r.get h2
  have hl := r.length
  have hn := line63
  have fin : EP X pins σ Q w s := ⟨z, H, I, rw', q⟩
  by_cases h0 : 0 ≤ i
  · have hj : i.toNat = j := by
      rw [seqIndex_of h0 h5] at h1
      exact Option.some.inj h1
    exact item_listR pl.isList h0 (by omega) (by rw [hj]; simpa using ew) fin hs
  · have hj : (i + (its.toArray.size : Int)).toNat = j := by
      rw [seqIndex_neg (by omega) h4] at h1
      rw [List.size_toArray, ← hl]
      exact Option.some.inj h1
    exact subscriptTail_builtinR (x := w) pl.isList.typeIs slot_list_getitem.lookup
      (wpAny_getItem_list_neg (Q := fun r s' => r = w ∧ EP X pins σ Q r s') pl.isList (by omega) (by rw [List.size_toArray] <;> omega) (by omega) (by rw [hj]; simpa using ew) ⟨rfl, fin⟩) hs
theorem ix_tup : IxR X (rIxT X.K) := by
  intro value slice pins s σ H x y v u Q I rx ry h hs
  obtain ⟨p, xs, i, z, rfl, rfl, hq, he, q⟩ := h
  cases rx
  obtain ⟨t, rfl⟩ := ry
  obtain ⟨its, r, pl, hz⟩ := I.tuple hq
  obtain ⟨j, h1, h2, h3, h4, h5⟩ := atI_get he
  obtain ⟨w, ew, rw'⟩ := r.get h2
  have hl := r.length
  have hn := line63
  have fin : EP X pins σ Q w s := ⟨z, H, I, rw', q⟩
  exact subscriptTail_builtinR (x := w) pl.typeIs slot_tuple_getitem.lookup
    (getItem_tuple (j := j) (Q := fun r s' => r = w ∧ EP X pins σ Q r s') pl (by omega) (by omega) (by rw [List.size_toArray, ← hl]; exact h1) (by simpa using ew) ⟨rfl, fin⟩) hs
/-! ### xs[i] = v, any sign -/
/-- the list's object behind a store -/
theorem mapSeq_set (its : List Value) (n j : Nat) (u : Value) : Obj.mapSeq (·.setIfInBounds j u) { cls := .type "list", data := .seq its.toArray n } = { cls := .type "list", data := .seq (its.set j u).toArray n } := by
  simp [Obj.mapSeq]
theorem Inv.lst {pins : List (Addr × Obj)} {σ : St} {H : Hp} {s : Shared} {p : Addr} {xs : List V} (I : Inv X pins σ H s) (h : H p = some (.lst xs)) :
    ∃ (its : List Value) (n : Nat), Vals xs its ∧ s.heap.get? p = some { cls := .type "list", data := .seq its.toArray n } ∧ xs.length ≤ sizeLine := by
  obtain ⟨z, its, n, r, e⟩ := I.hok p _ h
  exact ⟨its, n, r, e, z⟩
/-- the list at p is written by an update of its object -/
theorem Inv.lstUpd {pins : List (Addr × Obj)} {σ : St} {H : Hp} {s : Shared} {p : Addr} {xs ys : List V} {its its' : List Value} {n n' : Nat} {f : Obj → Obj} (I : Inv X pins σ H s) (h : H p = some (.lst xs))
    (ho : s.heap.get? p = some { cls := .type "list", data := .seq its.toArray n }) (hf : f { cls := .type "list", data := .seq its.toArray n } = { cls := .type "list", data := .seq its'.toArray n' }) (r : Vals ys its') (hz : ys.length ≤ sizeLine) (t : Nat) :
    Inv X pins σ (upd H p (.lst ys)) { s with heap := s.heap.update p f, toks := t } := by
  have e : (s.heap.update p f).get? p = some { cls := .type "list", data := .seq its'.toArray n' } := by
    rw [Heap.get?_update_self f ho (by rw [hf] <;> rfl), hf]
  refine I.write (x := p) (e := p) (by rw [h]; trivial) (.inl rfl) (fun b u hb q => (Heap.get?_update_other _ _ (Ne.symm hb)).trans q) ⟨_, e⟩ ?_
  exact ⟨hz, its', n', r, e⟩
def rSetL : V → V → V → Hp → (Hp → Prop) → Prop := fun o i v H Q => ∃ p xs k j, o = .ref p ∧ i = .int k ∧ H p = some (.lst xs) ∧ ixN xs.length k = some j ∧ Q (upd H p (.lst (xs.set j v)))
theorem set_list : PSet X rSetL := by
  intro pins s σ H o i v ov iv u Q I ro ri rv h
  obtain ⟨p, xs, k, j, rfl, rfl, hp, hj, q⟩ := h
  cases ro
  obtain ⟨t, rfl⟩ := ri
  obtain ⟨its, n, r, ho, hz⟩ := I.lst hp
  obtain ⟨h1, h2, h3, h4⟩ := ixN_seq hj
  have hl := r.length
  have hn := line63
  have I' : Inv X pins σ (upd H p (.lst (xs.set j v))) { s with heap := s.heap.update p (Obj.mapSeq (·.setIfInBounds j u)) } :=
    I.lstUpd hp ho (mapSeq_set its n j u) (r.set rv j) (by rw [List.length_set]; exact hz) s.toks
  by_cases h0 : 0 ≤ k
  · have hk : k.toNat = j := by
      rw [seqIndex_of h0 h4] at h1
      exact Option.some.inj h1
    exact PySem.W.ki_setAt ho h0 (by omega) (by rw [List.size_toArray, ← hl]; exact h4) (by rw [hk]; exact ⟨_, I', q⟩)
  · have hk : (k + (its.toArray.size : Int)).toNat = j := by
      rw [seqIndex_neg (by omega) h3] at h1
      rw [List.size_toArray, ← hl]
      exact Option.some.inj h1
    exact PySem.W.ki_setBack ho (by omega) (by rw [List.size_toArray, ← hl]; exact h3) (by omega) (by rw [hk]; exact ⟨_, I', q⟩)
/-! ### slices -/
theorem slice_bounds (lo hi : Option Int) (n : Nat) : (sliceBounds lo hi none n).1 = ((HT.sIx n 0 lo : Nat) : Int) ∧ (sliceBounds lo hi none n).2.1 = ((HT.sIx n n hi : Nat) : Int) ∧ (sliceBounds lo hi none n).2.2 = 1 := by
  refine ⟨?_, ?_, rfl⟩
  · cases lo with
    | none => simp [sliceBounds, HT.sIx]
    | some i =>
      simp only [sliceBounds, HT.sIx, Option.getD_none, show (1 : Int) > 0 by decide, if_true]
      by_cases h : i < 0
      · simp only [h, if_true] <;> omega
      · simp only [h, if_false] <;> omega
  · cases hi with
    | none => simp [sliceBounds, HT.sIx]
    | some i =>
      simp only [sliceBounds, HT.sIx, Option.getD_none, show (1 : Int) > 0 by decide, if_true]
      by_cases h : i < 0
      · simp only [h, if_true] <;> omega
      · simp only [h, if_false] <;> omega
theorem slicePick_cut (its : List Value) (lo hi : Option Int) : slicePick its.toArray lo hi none = ((its.drop (HT.sIx its.length 0 lo)).take (HT.sIx its.length its.length hi - HT.sIx its.length 0 lo)).toArray := by
  obtain ⟨h1, h2, h3⟩ := slice_bounds lo hi its.toArray.size
  unfold slicePick
  rw [h1, h2, h3]
  simp only [sliceRange_one, pick_run, List.size_toArray] <;> rfl
/-- xs[lo:hi] of a list: a new list -/
def rSlL (K : PySem.W.Frag) : V → Option Int → Option Int → Hp → VK → Prop := fun x lo hi H Q => ∃ a xs, x = .ref a ∧ SqL K H a xs ∧ ∀ p, H p = none → Q (.ref p) (upd H p (.lst (cutV xs lo hi)))
theorem sl_list : SlR X (rSlL X.K) := by
  intro pins s σ H x v vl vu lo hi sl Q I rx hs pl pu h
  obtain ⟨a, xs, rfl, hx, q⟩ := h
  cases rx
  obtain ⟨its, r, ht, hz⟩ := I.list hx
  have hlen := r.length
  refine ⟨"list", _, slot_list_getitem.lookup, ht.isList.typeIs, ?_⟩
  refine wpAny_getItem_list_slice ht.isList hs pl pu .none (by simp) ?_ (by rw [List.size_toArray] <;> omega)
  rw [slicePick_cut, ← hlen]
  refine ⟨.ref s.heap.objs.size, _, I.laid (t' := s.toks) (o := .lst (cutV xs lo hi)) (fun b ob q => Heap.get?_push_of_some _ q) (Nat.le_refl _) ?_, rfl, q _ (I.hok.fresh (Nat.le_refl _))⟩
  exact ⟨Nat.le_trans (cutV_length xs lo hi) hz, _, 0, (r.drop (HT.sIx xs.length 0 lo)).take (HT.sIx xs.length xs.length hi - HT.sIx xs.length 0 lo), Heap.get?_push_size _ rfl⟩
/-! ### in, not in: flat items -/
def flatV : V → Bool
  | .non => true
  | .bl _ => true
  | .int _ => true
  | .str _ => true
  | _ => false
/-- == of flat values -/
def eqV : V → V → Bool
  | .non, .non => true
  | .bl a, .bl b => a == b
  | .bl a, .int b => (if a then 1 else 0) == b
  | .int a, .bl b => a == (if b then 1 else 0)
  | .int a, .int b => a == b
  | .str a, .str b => a == b
  | _, _ => false
theorem eqAt_V {A : Around} {s : Shared} {y x : V} {u v : Value} (ry : RelV y u) (rx : RelV x v) (fy : flatV y = true) (fx : flatV x = true) : SeqAt.EqAt A s u v (eqV y x) := by
  cases y with
  | non =>
    cases ry
    cases x with
    | non => cases rx; exact SeqAt.EqAt.same _
    | bl b => cases rx; exact SeqAt.EqAt.none_bool b
    | int b => obtain ⟨t, rfl⟩ := rx; exact SeqAt.EqAt.none_int b t
    | str b => obtain ⟨t, rfl⟩ := rx; exact SeqAt.EqAt.none_str b t
    | _ => exact absurd (show false = true from fx) Bool.false_ne_true
  | bl a =>
    cases ry
    cases x with
    | non => cases rx; exact SeqAt.EqAt.bool_none a
    | bl b => cases rx; exact SeqAt.EqAt.bool_bool a b
    | int b => obtain ⟨t, rfl⟩ := rx; exact SeqAt.EqAt.bool_int a b t
    | str b => obtain ⟨t, rfl⟩ := rx; exact SeqAt.EqAt.bool_str a b t
    | _ => exact absurd (show false = true from fx) Bool.false_ne_true
  | int a =>
    obtain ⟨t', rfl⟩ := ry
    cases x with
    | non => cases rx; exact SeqAt.EqAt.int_none a t'
    | bl b => cases rx; exact SeqAt.EqAt.int_bool a t' b
    | int b => obtain ⟨t, rfl⟩ := rx; exact SeqAt.EqAt.int_int a t' b t
    | str b => obtain ⟨t, rfl⟩ := rx; exact SeqAt.EqAt.int_str a t' b t
    | _ => exact absurd (show false = true from fx) Bool.false_ne_true
  | str a =>
    obtain ⟨t', rfl⟩ := ry
    cases x with
    | non => cases rx; exact SeqAt.EqAt.str_none a t'
    | bl b => cases rx; exact SeqAt.EqAt.str_bool a t' b
    | int b => obtain ⟨t, rfl⟩ := rx; exact SeqAt.EqAt.str_int a t' b t
    | str b => obtain ⟨t, rfl⟩ := rx; exact SeqAt.EqAt.str_str a t' b t
    | _ => exact absurd (show false = true from fx) Bool.false_ne_true
  | _ => exact absurd (show false = true from fy) Bool.false_ne_true
/-- the items' answers, read off the values (a value's own answer does not lean on its token) -/
def eqU (x : V) (u : Value) : Bool := match u with
  | .none => eqV .non x
  | .bool b => eqV (.bl b) x
  | .int i _ => eqV (.int i) x
  | .str z _ => eqV (.str z) x
  | _ => false
theorem eqU_of {x y : V} {u : Value} (r : RelV y u) (f : flatV y = true) : eqU x u = eqV y x := by
  cases y with
  | non => cases r; rfl
  | bl b => cases r; rfl
  | int i => obtain ⟨t, rfl⟩ := r; rfl
  | str z => obtain ⟨t, rfl⟩ := r; rfl
  | _ => exact absurd (show false = true from f) Bool.false_ne_true
theorem any_eqU {x : V} : ∀ {xs : List V} {us : List Value}, Vals xs us → xs.all flatV = true → us.any (eqU x) = xs.any fun y => eqV y x
  | _, _, .nil, _ => rfl
  | y :: xs, u :: us, .cons r t, f => by
    rw [List.all_cons, Bool.and_eq_true] at f
    rw [List.any_cons, List.any_cons, eqU_of r f.1, any_eqU t f.2]
theorem mem_eqAt {A : Around} {s : Shared} {x : V} {v : Value} (rx : RelV x v) (fx : flatV x = true) : ∀ {xs : List V} {us : List Value}, Vals xs us → xs.all flatV = true → ∀ u ∈ us, SeqAt.EqAt A s u v (eqU x u)
  | _, _, .nil, _ => fun u hu => by cases hu
  | y :: xs, u :: us, .cons r t, f => fun u' hu => by
    rw [List.all_cons, Bool.and_eq_true] at f
    rcases List.mem_cons.mp hu with rfl | hu
    · rw [eqU_of r f.1]; exact eqAt_V r rx f.1 fx
    · exact mem_eqAt rx fx t f.2 u' hu
def inV (x : V) (xs : List V) : Bool := xs.any fun y => eqV y x
/-- x in a list or tuple of flat items -/
def rIn (K : PySem.W.Frag) (neg : Bool) : R2 := fun x y H Q => ∃ p xs, y = .ref p ∧ (SqL K H p xs ∨ SqT K H p xs) ∧ flatV x = true ∧ xs.all flatV = true ∧ Q (.bl (if neg then !inV x xs else inV x xs)) H
theorem op_in_seq : OpR X (compareOp .In) (rIn X.K false) := by
  intro pins s σ H x y v u Q I rx ry h
  obtain ⟨p, xs, rfl, hq, fx, fs, q⟩ := h
  cases ry
  rcases hq with hq | hq
  · obtain ⟨its, r, pl, hz⟩ := I.list hq
    refine SeqAt.in_listAt (eqU x) pl.isList (fun w hw => mem_eqAt rx fx r fs w (by simpa using hw)) ⟨.bl _, H, I, rfl, ?_⟩
    rw [show its.toArray.any (eqU x) = its.any (eqU x) by simp, any_eqU r fs]
    exact q
  · obtain ⟨its, r, pl, hz⟩ := I.tuple hq
    refine SeqAt.in_tupleAt (eqU x) pl (fun w hw => mem_eqAt rx fx r fs w (by simpa using hw)) ⟨.bl _, H, I, rfl, ?_⟩
    rw [show its.toArray.any (eqU x) = its.any (eqU x) by simp, any_eqU r fs]
    exact q
/-! ### len, list(x), tuple(x) of any list or tuple that is read -/
theorem call_len_seq : CallR X (.builtin "len") (fun xs H Q => ∃ p ys, xs = [.ref p] ∧ (SqL X.K H p ys ∨ SqT X.K H p ys) ∧ Q (.int ys.length) H) := by
  intro pins s σ H xs us Q I r h
  obtain ⟨p, ys, rfl, hq, q⟩ := h
  obtain ⟨u, rfl, rx⟩ := vals1 r
  cases rx
  have hn := line63
  rcases hq with hq | hq
  · obtain ⟨its, r', pl, hz⟩ := I.list hq
    have hlen := r'.length
    exact Calls.call_len_list pl.isList (by simp only [List.size_toArray] <;> omega) ⟨.int ys.length, H, I.tok _, ⟨s.toks + 1, by rw [List.size_toArray, hlen]⟩, q⟩
  · obtain ⟨its, r', pl, hz⟩ := I.tuple hq
    have hlen := r'.length
    exact len_tuple pl (by simp only [List.size_toArray] <;> omega) ⟨.int ys.length, H, I.tok _, ⟨s.toks + 1, by rw [List.size_toArray, hlen]⟩, q⟩
theorem call_tuple_of : CallR X (.type "tuple") (fun xs H Q => ∃ p ys, xs = [.ref p] ∧ ((SqL X.K H p ys ∧ ∀ l, H l = none → Q (.ref l) (upd H l (.tup ys))) ∨ (SqT X.K H p ys ∧ Q (.ref p) H))) := by
  intro pins s σ H xs us Q I r h
  obtain ⟨p, ys, rfl, h⟩ := h
  obtain ⟨u, rfl, rx⟩ := vals1 r
  cases rx
  rcases h with ⟨hq, q⟩ | ⟨hq, q⟩
  · obtain ⟨its, r', pl, hz⟩ := I.list hq
    have hlen := r'.length
    refine call_tuple_list pl.isList (fun h' kp => ?_) (by simp only [List.size_toArray] <;> omega)
    have I1 : Inv X pins σ H { s with heap := h' } := I.kept (t' := s.toks) kp
    have I2 : Inv X pins σ (upd H h'.objs.size (.tup ys)) { s with heap := h'.push { cls := .type "tuple", data := .seq its.toArray } } :=
      I1.laid (t' := s.toks) (fun b o e => Heap.get?_push_of_some _ e) (Nat.le_refl _) (show ObjOk X.prog X.w _ _ _ (.tup ys) from ⟨hz, its, r', IsTup.new _ _⟩)
    exact ⟨.ref h'.objs.size, _, I2, rfl, q _ (I1.hok.fresh (Nat.le_refl _))⟩
  · obtain ⟨its, r', pl, hz⟩ := I.tuple hq
    exact call_tuple_same pl ⟨.ref p, H, I, rfl, q⟩
/-! ### the call of a builtin's method: o.m(..) -/
/-- the value is of that builtin type -/
def tyV (K : PySem.W.Frag) (T : String) (x : V) (H : Hp) : Prop := match x with
  | .str _ => T = "str"
  | .int _ => T = "int"
  | .ref p => (T = "list" ∧ ∃ xs, SqL K H p xs) ∨ (T = "tuple" ∧ ∃ o, K.lookup p = some o ∧ o.cls = .type "tuple" ∧ o.dict = none) ∨
      (T = "dict" ∧ ((∃ kvs, H p = some (.dK kvs)) ∨ ∃ kvs, H p = some (.dT kvs))) ∨ (T = "set" ∧ ∃ S n, H p = some (.set S n))
  | _ => False
theorem tyV_is {pins : List (Addr × Obj)} {σ : St} {H : Hp} {s : Shared} {T : String} {x : V} {v : Value} (I : Inv X pins σ H s) (r : RelV x v) (ty : tyV X.K T x H) :
    s.TypeIs v T ∧ ∀ a, v = .ref a → ∃ ob, s.heap.get? a = some ob ∧ ob.dict = none := by
  cases x with
  | str z =>
    obtain ⟨t, rfl⟩ := r
    cases (show T = "str" from ty)
    exact ⟨typeIs_str s z t, fun _ e => nomatch e⟩
  | int i =>
    obtain ⟨t, rfl⟩ := r
    cases (show T = "int" from ty)
    exact ⟨typeIs_int s i t, fun _ e => nomatch e⟩
  | ref p =>
    cases r
    rcases ty with ⟨rfl, xs, hq⟩ | ⟨rfl, o, hk, hc, hd⟩ | ⟨rfl, hk⟩ | ⟨rfl, S, n, hk⟩
    · obtain ⟨its, _, pl, _⟩ := I.list hq
      refine ⟨pl.isList.typeIs, fun a e => ?_⟩
      cases e
      obtain ⟨o, n, e, c, hd, _⟩ := pl
      exact ⟨o, e, hd⟩
    · refine ⟨⟨o, I.kIn p o hk, hc⟩, fun a e => ?_⟩
      cases e
      exact ⟨o, I.kIn _ o hk, hd⟩
    · have z : ∃ o, s.heap.get? p = some o ∧ o.ExactDict := by
        rcases hk with ⟨kvs, hk⟩ | ⟨kvs, hk⟩
        · obtain ⟨_, _, _, _, o, _, _, e, ex, _⟩ := I.hok p _ hk
          exact ⟨o, e, ex⟩
        · obtain ⟨_, _, _, _, o, _, _, e, ex, _⟩ := I.hok p _ hk
          exact ⟨o, e, ex⟩
      obtain ⟨o, e, ex⟩ := z
      refine ⟨⟨o, e, ex.1⟩, fun a e2 => ?_⟩
      cases e2
      exact ⟨o, e, ex.2.1⟩
    · obtain ⟨o, _, _, _, e, ex, _⟩ := I.hok p _ hk
      refine ⟨⟨o, e, ex.1⟩, fun a e2 => ?_⟩
      cases e2
      exact ⟨o, e, ex.2.1⟩
  | _ => exact False.elim ty
def tBM0 (K : PySem.W.Frag) (T : String) (r : V → List V → Hp → VK → Prop) (to : TE) : TE := fun σ H Q => to σ H fun x H1 => tyV K T x H1 ∧ r x [] H1 Q
def tBM (K : PySem.W.Frag) (T : String) (r : V → List V → Hp → VK → Prop) (to : TE) (t : TA) : TE := fun σ H Q => to σ H fun x H1 => tyV K T x H1 ∧ t σ H1 fun xs H2 => r x xs H2 Q
variable {o e : Expr} {es : List Expr} {to : TE} {t : TA} {name : Str} {apos cpos : Pos} {T id : String} {r : V → List V → Hp → VK → Prop}
theorem pe_bm0 (pa : PlainAttrs T) (slot : Slot T name id) (hty : typeOf (.builtin id) = pure (.type "method_descriptor")) (hm : MtR X id r) (ho : PE X o to)
    (hbase : attributeBase o name X.env (eval o X.env) = eval o X.env := by rfl) (hline : (apos.endLine == cpos.line) = true := by rfl) : PE X (.Call (.Attribute o name apos) [] [] cpos) (tBM0 X.K T r to) := by
  intro pins s σ H Q I h
  refine wpAny_Call_method0_late hbase hline (thn (ho pins s σ H _ I h) fun v s1 ⟨x, H1, I1, r1, ty, q1⟩ => ?_)
  obtain ⟨h1, h2⟩ := tyV_is I1 r1 ty
  exact ⟨T, id, pa, slot, hty, h1, h2, Calls.callWith_builtin rfl (PySem.evalArgs_none (hm pins s1 σ H1 x [] v [] Q I1 r1 .nil q1))⟩
theorem pe_bm (pa : PlainAttrs T) (slot : Slot T name id) (hty : typeOf (.builtin id) = pure (.type "method_descriptor")) (hm : MtR X id r) (ho : PE X o to) (ha : PA X (e :: es) t)
    (hbase : attributeBase o name X.env (eval o X.env) = eval o X.env := by rfl)
    (hfew : ((backTo cpos (starEach (e :: es) X.env)).all (fun x => !x.1) && (backToKw cpos (keywordEach [] X.env)).all (fun x => x.1.isSome)
      && decide ((e :: es).length + ([] : List Keyword).length + (if ([] : List Keyword).isEmpty then 0 else 1) < 30)) = true := by rfl)
    (hline : (apos.endLine == cpos.line) = true := by rfl) (hs : starEach (e :: es) X.env = (false, eval e X.env) :: starEach es X.env := by rfl) (hplain : (backTo cpos (starEach es X.env)).any (·.1) = false := by rfl) :
    PE X (.Call (.Attribute o name apos) (e :: es) [] cpos) (tBM X.K T r to t) := by
  intro pins s σ H Q I h
  refine wpAny_Call_method_late hbase hfew hline rfl (thn (ho pins s σ H _ I h) fun v s1 ⟨x, H1, I1, r1, ty, q1⟩ => ?_)
  obtain ⟨h1, h2⟩ := tyV_is I1 r1 ty
  refine ⟨T, id, pa, slot, hty, h1, h2, ?_⟩
  have hA := ha cpos pins s1 σ H1 _ I1 q1
  rw [hs] at hA ⊢
  refine Calls.callWith_builtin (by show (false || (backTo cpos (starEach es X.env)).any (·.1)) = false; rw [hplain] <;> rfl) (Calls.evalArgs_plain ?_)
  exact thn hA fun us s2 ⟨vs, H2, I2, r2, q2⟩ => hm pins s2 σ H2 x vs v us Q I2 r1 r2 q2
/- xs.append(e), list.index on a module's tuple .. are MtR facts of 06m -/
end
end L2
namespace L2
open PySem PySem.Spec PyProof.Rows
def MtM (X : Cx) (id : String) (r : V → List V → Hp → VK → Prop) : Prop :=
  ∀ (pins : List (Addr × Obj)) (s : Shared) (σ : St) (H : Hp) (x : V) (xs : List V) (v : Value) (us : List Value) (Q : VK), Inv X pins σ H s → RelV x v → Vals xs us → r x xs H Q →
    wpAny (model X.prog X.w) X.A (call (.builtin id) (v :: us)) (EP X pins σ Q) X.xe s
/-! ### lists of values -/
theorem Vals.one : ∀ {x : V} {us : List Value}, Vals [x] us → ∃ u, us = [u] ∧ RelV x u
  | _, _, .cons r .nil => ⟨_, rfl, r⟩
theorem Vals.zero : ∀ {us : List Value}, Vals [] us → us = []
  | _, .nil => rfl
theorem Vals.dropLast {xs : List V} {us : List Value} (h : Vals xs us) : Vals xs.dropLast us.dropLast := by
  induction h with
  | nil => exact .nil
  | cons r t ih =>
    cases t with
    | nil => exact .nil
    | cons q t' => exact .cons r ih
theorem Vals.rep {xs : List V} {us : List Value} (h : Vals xs us) : ∀ k : Nat, Vals (List.replicate k xs).flatten (List.replicate k us).flatten
  | 0 => .nil
  | k + 1 => by
    rw [List.replicate_succ, List.replicate_succ, List.flatten_cons, List.flatten_cons]
    exact Vals.append h (Vals.rep h k)
theorem erase_last {α : Type} (l : List α) : l.eraseIdx (l.length - 1) = l.dropLast := by
  induction l with
  | nil => rfl
  | cons a r ih =>
    cases r with
    | nil => rfl
    | cons b r =>
      have e : (a :: b :: r).length - 1 = ((b :: r).length - 1) + 1 := by
        have h1 : (a :: b :: r).length = r.length + 2 := rfl
        have h2 : (b :: r).length = r.length + 1 := rfl
        omega
      rw [e, List.eraseIdx_cons_succ, ih]
      all_goals rfl
theorem foldl_rep (its : List Value) : ∀ (k : Nat) (acc : List Value),
    List.foldl (fun x1 x2 => x1 ++ x2) acc.toArray (List.replicate k its.toArray) = (acc ++ (List.replicate k its).flatten).toArray
  | 0, acc => by simp
  | k + 1, acc => by
    have e : acc.toArray ++ its.toArray = (acc ++ its).toArray := by simp
    have e2 : (acc ++ its) ++ (List.replicate k its).flatten = acc ++ (List.replicate (k + 1) its).flatten := by
      rw [List.replicate_succ, List.flatten_cons, List.append_assoc]
    rw [← e2, ← foldl_rep its k (acc ++ its), ← e, List.replicate_succ, List.foldl_cons]
section
variable {X : Cx} {pins : List (Addr × Obj)} {σ : St} {H : Hp} {s : Shared} {l b : Addr} {xs ys zs : List V}
/-! ### the two steps: a tracked list is rewritten, a new list is laid -/
theorem Inv.lset {its its' : List Value} {n : Nat} {f : Array Value → Array Value} {t' : Nat} (I : Inv X pins σ H s) (hH : H l = some (.lst xs))
    (e : s.heap.get? l = some { cls := .type "list", data := .seq its.toArray n }) (hf : f its.toArray = its'.toArray) (hv : Vals ys its') (hz : ys.length ≤ sizeLine) :
    Inv X pins σ (upd H l (.lst ys)) { s with heap := s.heap.update l (Obj.mapSeq f), toks := t' } := by
  have q := PySem.IsL.update e f
  rw [hf] at q
  refine I.write (x := l) (e := l) (by rw [hH]; exact trivial) (.inl rfl) (fun b' u hb hu => (Heap.get?_update_other s.heap (Obj.mapSeq f) (Ne.symm hb)).trans hu) ⟨_, q⟩ ?_
  exact ⟨hz, its', _, hv, q⟩
theorem Inv.lnew {its : List Value} {t' : Nat} (I : Inv X pins σ H s) (hv : Vals ys its) (hz : ys.length ≤ sizeLine) :
    Inv X pins σ (upd H s.heap.objs.size (.lst ys)) { s with heap := s.heap.push { cls := .type "list", data := .seq its.toArray }, toks := t' } :=
  I.laid (fun _ _ q => Heap.get?_push_of_some _ q) (Nat.le_refl _) ⟨hz, its, 0, hv, Heap.get?_push_size _ rfl⟩
theorem Inv.fresh (I : Inv X pins σ H s) : H s.heap.objs.size = none := I.hok.fresh (Nat.le_refl _)
theorem Inv.lstM (I : Inv X pins σ H s) (hH : H l = some (.lst xs)) : xs.length ≤ sizeLine ∧ ∃ (its : List Value) (n : Nat), Vals xs its ∧ xs.length = its.length ∧ s.heap.get? l = some { cls := .type "list", data := .seq its.toArray n } := by
  obtain ⟨z, its, n, r, e⟩ := I.hok l _ hH
  exact ⟨z, its, n, r, r.length, e⟩
theorem notLongL {n : Nat} (h : n ≤ sizeLine) : Builtin.List.listTooLong n = false := by
  unfold Builtin.List.listTooLong
  exact decide_eq_false (by omega)
end
section
variable {X : Cx}
/-! ### methods -/
def rAppend : V → List V → Hp → VK → Prop := fun x vs H Q => ∃ l xs y, x = .ref l ∧ vs = [y] ∧ H l = some (.lst xs) ∧ xs.length < sizeLine ∧ Q .non (upd H l (.lst (xs ++ [y])))
theorem mt_append : MtM X "list.append" rAppend := by
  intro pins s σ H x vs v us Q I rx rv h
  obtain ⟨l, xs, y, rfl, rfl, hH, hz, q⟩ := h
  cases rx
  obtain ⟨u, rfl, ru⟩ := rv.one
  obtain ⟨z, its, n, r, hl, e⟩ := I.lstM hH
  refine call_meets F.slot_list_append ⟨_, e, rfl⟩ F.entry_list_append (F.args_list_append_2 _ _) (PySem.list_append l its.toArray n u (by rw [List.size_toArray]; omega)) ⟨e, ?_⟩
  refine ⟨.non, _, I.lset (its' := its ++ [u]) hH e (by simp) (r.append (.cons ru .nil)) ?_, rfl, q⟩
  rw [List.length_append, List.length_singleton]
  omega
def rExtend : V → List V → Hp → VK → Prop := fun x vs H Q => ∃ l b xs zs, x = .ref l ∧ vs = [.ref b] ∧ H l = some (.lst xs) ∧ H b = some (.lst zs) ∧ xs.length + zs.length ≤ sizeLine ∧ Q .non (upd H l (.lst (xs ++ zs)))
theorem mt_extend : MtM X "list.extend" rExtend := by
  intro pins s σ H x vs v us Q I rx rv h
  obtain ⟨l, b, xs, zs, rfl, rfl, hH, hB, hz, q⟩ := h
  cases rx
  obtain ⟨u, rfl, ru⟩ := rv.one
  cases ru
  obtain ⟨z, its, n, r, hl, e⟩ := I.lstM hH
  obtain ⟨z2, its2, n2, r2, hl2, e2⟩ := I.lstM hB
  have hsz : its.toArray.size + its2.toArray.size ≤ sizeLine := by rw [List.size_toArray, List.size_toArray]; omega
  have hlong : ¬ (!its.toArray.isEmpty && Builtin.List.listTooLong (its.toArray.size + its2.toArray.size)) = true := by
    rw [notLongL hsz, Bool.and_false]
    exact Bool.false_ne_true
  refine call_meets F.slot_list_extend ⟨_, e, rfl⟩ F.entry_list_extend (F.args_list_extend_2 _ _)
    (AutoSeq1.list_extend_list_list_0 l its.toArray n b its2.toArray n2 hlong (by rw [List.size_toArray]; omega) (by omega)) ⟨e, e2, ?_⟩
  refine ⟨.non, _, I.lset (its' := its ++ its2) hH e (by simp) (r.append r2) ?_, rfl, q⟩
  rw [List.length_append]
  omega
def rPop : V → List V → Hp → VK → Prop := fun x vs H Q => ∃ l xs y, x = .ref l ∧ vs = [] ∧ H l = some (.lst xs) ∧ xs[xs.length - 1]? = some y ∧ Q y (upd H l (.lst xs.dropLast))
theorem mt_pop : MtM X "list.pop" rPop := by
  intro pins s σ H x vs v us Q I rx rv h
  obtain ⟨l, xs, y, rfl, rfl, hH, hy, q⟩ := h
  cases rx
  have hus := rv.zero
  subst hus
  obtain ⟨z, its, n, r, hl, e⟩ := I.lstM hH
  obtain ⟨u, hu, ru⟩ := r.get hy
  have hy' : its.toArray[its.toArray.size - 1]? = some u := by
    show its.toArray[its.length - 1]? = some u
    rw [← Array.getElem?_toList, ← hl]
    exact hu
  refine call_meets F.slot_list_pop ⟨_, e, rfl⟩ F.entry_list_pop (F.args_list_pop_1 _) (MeetsSeq.list_pop_last l its.toArray n u hy' (by rw [List.size_toArray]; omega)) ⟨e, ?_⟩
  refine ⟨y, _, I.lset (its' := its.dropLast) hH e ?_ r.dropLast ?_, ru, q⟩
  · show its.toArray.eraseIdxIfInBounds (its.toArray.size - 1) = its.dropLast.toArray
    rw [List.size_toArray, List.eraseIdxIfInBounds_toArray, erase_last]
  · rw [List.length_dropLast]
    omega
/-! ### list + list, list += list, list * int -/
def rCat : R2 := fun x y H Q => ∃ l b xs zs, x = .ref l ∧ y = .ref b ∧ H l = some (.lst xs) ∧ H b = some (.lst zs) ∧ xs.length + zs.length ≤ sizeLine ∧ ∀ p, H p = none → Q (.ref p) (upd H p (.lst (xs ++ zs)))
theorem op_cat : OpR X (binaryOp .Add) rCat := by
  intro pins s σ H x y v u Q I rx ry h
  obtain ⟨l, b, xs, zs, rfl, rfl, hH, hB, hz, q⟩ := h
  cases rx
  cases ry
  obtain ⟨z, its, n, r, hl, e⟩ := I.lstM hH
  obtain ⟨z2, its2, n2, r2, hl2, e2⟩ := I.lstM hB
  refine PySem.P.add_list e e2 ?_ (by rw [List.size_toArray, List.size_toArray]; omega)
  have ea : its.toArray ++ its2.toArray = (its ++ its2).toArray := by simp
  rw [ea]
  exact ⟨.ref _, _, I.lnew (t' := s.toks) (r.append r2) (by rw [List.length_append]; omega), rfl, q _ I.fresh⟩
/-- a list times an int (a negative one is nothing) -/
def rRep : R2 := fun x y H Q => ∃ l k xs, x = .ref l ∧ y = .int k ∧ H l = some (.lst xs) ∧ -(2 ^ 63) ≤ k ∧ k < 2 ^ 63 ∧ xs.length * k.toNat ≤ sizeLine ∧
  ∀ p, H p = none → Q (.ref p) (upd H p (.lst (List.replicate k.toNat xs).flatten))
theorem len_rep {α : Type} (xs : List α) (k : Nat) : (List.replicate k xs).flatten.length = k * xs.length := by
  induction k with
  | zero => simp
  | succ k ih => rw [List.replicate_succ, List.flatten_cons, List.length_append, ih, Nat.succ_mul, Nat.add_comm]
theorem op_rep : OpR X (binaryOp .Mult) rRep := by
  intro pins s σ H x y v u Q I rx ry h
  obtain ⟨l, k, xs, rfl, rfl, hH, h1, h2, hz, q⟩ := h
  cases rx
  obtain ⟨t, rfl⟩ := ry
  obtain ⟨z, its, n, r, hl, e⟩ := I.lstM hH
  have hlen : its.toArray.size * k.toNat ≤ sizeLine := by rw [List.size_toArray, ← hl]; exact hz
  have hcap : ¬ its.toArray.size * k.toNat > (2 ^ 63 - 1) / 8 := by
    have : (sizeLine : Nat) ≤ (2 ^ 63 - 1) / 8 := by decide
    omega
  have hfit : ¬ (!Builtin.List.listFitsIndex k) = true := by
    rw [fitsIndex_both h1 h2]
    exact Bool.false_ne_true
  have hlong : ¬ Builtin.List.listTooLong (its.toArray.size * k.toNat) = true := by
    rw [notLongL hlen]
    exact Bool.false_ne_true
  have hnew : List.foldl (fun x1 x2 => x1 ++ x2) #[] (List.replicate (if its.toArray.isEmpty = true then 0 else k.toNat) its.toArray) = (List.replicate k.toNat its).flatten.toArray := by
    have f0 : ∀ m : Nat, List.foldl (fun x1 x2 => x1 ++ x2) #[] (List.replicate m its.toArray) = (List.replicate m its).flatten.toArray := fun m => by
      have := foldl_rep its m []
      rw [List.nil_append] at this
      exact this
    rw [f0]
    cases its with
    | nil => simp
    | cons a r' => rw [if_neg (by simp)]
  refine wpAny_binaryOp_repeat_ref (T := "list") (U := "int") (by decide) ⟨_, e, rfl⟩ (fun s' => typeIs_int s' k t) noFill_list_mul F.fills_int_mul F.slot_int_rmul repeat_list F.slot_int_index.lookup
    (call_meets F.slot_int_rmul (typeIs_int s k t) F.entry_int_rmul (F.args_int_rmul_2 _ _) (int___rmul___int_list k t l its.toArray n)
      ⟨e, rfl, ⟨_, e, rfl⟩, call_meets F.slot_list_mul ⟨_, e, rfl⟩ F.entry_list_mul (F.args_list_mul_2 _ _) (AutoListH.list___mul___list_int_3 l its.toArray n k t hfit hcap hlong) ⟨e, ?_⟩⟩)
  rw [hnew]
  exact ⟨.ref _, _, I.lnew (t' := s.toks) (r.rep k.toNat) (by rw [len_rep, Nat.mul_comm]; exact hz), rfl, q _ I.fresh⟩
/-! ### del xs[i] -/
end
/-! ### xs[a:b] = ys -/
section
variable {prog : Program} {w : World} {A : Around} {E : Value → Shared → Prop} {s : Shared}
set_option maxRecDepth 100000 in
end
section
variable {X : Cx}
end
end L2
namespace L2
open PySem PySem.Spec PyProof.Rows
theorem Vals.ints : ∀ {ns : List Int} {us : List Value}, Vals (ns.map V.int) us → IntsAre us ns
  | [], us, h => by
    rw [List.map_nil] at h
    cases h
    exact IntsAre.nil
  | n :: ns, us, h => by
    rw [List.map_cons] at h
    cases h with
    | cons r t =>
      obtain ⟨k, rfl⟩ := r
      exact IntsAre.cons n k (Vals.ints t)
theorem Vals.ref1 {a : Addr} {us : List Value} (r : Vals [V.ref a] us) : us = [Value.ref a] := by
  cases r with
  | cons r t =>
    cases t
    cases r
    rfl
/-! ### the library's walks over a list of ints, kept objects alone -/
section
variable {prog : Program} {w : World} {A : Around} {E : Value → Shared → Prop} {s : Shared} {l : Addr} {its : List Value} {ns : List Int} {Q : Value → Shared → Prop}
theorem sum_raw (hh : A.handled = none) (hl : s.heap.IsList l its.toArray) (hi : IntsAre its ns)
    (h : ∀ h' tk t', (∀ b o, s.heap.get? b = some o → h'.get? b = some o) → Q (.int ns.sum t') { s with heap := h', toks := tk }) : wpAny (model prog w) A (call (.builtin "sum") [.ref l]) Q E s := by
  obtain ⟨xs, e⟩ := hi.allInts.items
  have hn : numsOf (intItems xs).toList = ns := by rw [← e]; exact hi.numsOf
  rw [nums_intItems] at hn
  rw [e] at hl
  refine PySem.sum_intListG hh hl fun h' tk t' hk => ?_
  have := h h' tk t' hk
  rw [preSum_eq, List.take_of_length_le (by simp), hn]; exact this
end
/-! ### the calls, by values (CallR of 03t; MtR of 06l) -/
section
variable {X : Cx}
/-- sum(xs) of a list of ints -/
def rSum (K : PySem.W.Frag) : List V → Hp → VK → Prop := fun vs H Q => ∃ (a : Addr) (ns : List Int), vs = [V.ref a] ∧ SqL K H a (ns.map V.int) ∧ Q (.int ns.sum) H
theorem cr_sum (hc : X.calm = true) : CallR X (.builtin "sum") (rSum X.K) := by
  intro pins s σ H vs us Q I r h
  obtain ⟨a, ns, rfl, hs, q⟩ := h
  obtain ⟨its, rv, hl, _⟩ := I.list hs
  rw [Vals.ref1 r]
  exact sum_raw (I.ok.hd hc) hl.isList rv.ints fun h' tk t' hk => ⟨.int _, H, I.kept hk, ⟨_, rfl⟩, q⟩
/-! sorted, sort (fewer than 64 items: the library's own bound) -/
end
/-! ### list.index, flat items -/
section
variable {X : Cx}
def rIndex (K : PySem.W.Frag) : V → List V → Hp → VK → Prop := fun x xs H Q => ∃ (a : Addr) (ys : List V) (y : V) (j : Nat) (z : V), x = V.ref a ∧ xs = [y] ∧ SqL K H a ys ∧ flatV y = true ∧ ys.all flatV = true ∧ ys[j]? = some z ∧ eqV z y = true ∧
  (∀ (m : Nat) (z' : V), m < j → ys[m]? = some z' → eqV z' y = false) ∧ Q (.int (j : Nat)) H
theorem flat_at {ys : List V} (f : ys.all flatV = true) {j : Nat} {z : V} (h : ys[j]? = some z) : flatV z = true := List.all_eq_true.mp f z (List.mem_of_getElem? h)
theorem mt_index : MtR X "list.index" (rIndex X.K) := by
  intro pins s σ H x xs v us Q I rx rxs h
  obtain ⟨a, ys, y, j, z, rfl, rfl, hs, fy, fys, hz, hzj, hno, q⟩ := h
  cases rx
  cases rxs with
  | cons ry rt =>
    rename_i uy ut
    cases rt
    obtain ⟨its, rv, ⟨⟨cls, dd, data, sl⟩, n, ho, hc, hdn, hd⟩, hlen⟩ := I.list hs
    simp only at hc hd
    subst hc hd
    obtain ⟨u, hu, ru⟩ := rv.get hz
    obtain ⟨hjl, hje⟩ := List.getElem?_eq_some_iff.mp hu
    have hvl := rv.length
    have hj : j < its.toArray.size := by simpa using hjl
    have hsl := sizeLine_eq
    refine call_meets PySem.F.slot_list_index ⟨_, ho, rfl⟩ PySem.F.entry_list_index (PySem.F.args_list_index_2 _ _)
      (SeqAt.list_indexAt a its.toArray n dd sl uy (eqU y) j hj (by omega) ?_ ?_) ⟨ho, fun u' hu' => mem_eqAt ry fy rv fys u' (by simpa using hu'), ?_⟩
    · have e1 : its.toArray[j] = u := by simpa using hje
      rw [e1, eqU_of ru (flat_at fys hz)]
      exact hzj
    · intro m hm hmj
      have hml : m < its.length := by simpa using hm
      have hmy : m < ys.length := by omega
      have hy' : ys[m]? = some ys[m] := List.getElem?_eq_getElem hmy
      obtain ⟨u2, hu2, ru2⟩ := rv.get hy'
      obtain ⟨_, hme⟩ := List.getElem?_eq_some_iff.mp hu2
      have e1 : its.toArray[m] = u2 := by simpa using hme
      rw [e1, eqU_of ru2 (flat_at fys hy')]
      exact hno m _ hmj hy'
    · exact ⟨.int (j : Nat), H, I.tok _, ⟨_, rfl⟩, q⟩
end
/-! ### type(x) of an own instance; is, is not of a module's class -/
section
variable {X : Cx}
end
/-! ### any(xs), all(xs) of a list of bools -/
section
variable {X : Cx}
end
/-! ### == and != of data at any depth: none, bools, ints, texts, lists, tuples -/
mutual
inductive Dp (K : PySem.W.Frag) (H : Hp) : V → PyData → Prop
  | non : Dp K H .non .none
  | bl (b : Bool) : Dp K H (.bl b) (.bool b)
  | int (i : Int) : Dp K H (.int i) (.int i)
  | str (x : Str) : Dp K H (.str x) (.str x)
  | lst {a : Addr} {xs : List V} {ds : List PyData} : SqL K H a xs → DpAll K H xs ds → Dp K H (.ref a) (.list ds)
  | tup {a : Addr} {xs : List V} {ds : List PyData} : SqT K H a xs → DpAll K H xs ds → Dp K H (.ref a) (.tuple ds)
inductive DpAll (K : PySem.W.Frag) (H : Hp) : List V → List PyData → Prop
  | nil : DpAll K H [] []
  | cons {v : V} {vs : List V} {d : PyData} {ds : List PyData} : Dp K H v d → DpAll K H vs ds → DpAll K H (v :: vs) (d :: ds)
end
section
variable {X : Cx} {pins : List (Addr × Obj)} {σ : St} {H : Hp} {s : Shared}
mutual
theorem Dp.reads (I : Inv X pins σ H s) : ∀ (d : PyData) (v : V) (u : Value), Dp X.K H v d → RelV v u → ∃ as, Reads s.heap u d as
  | .none, _, _, h, r => by
    cases h
    cases r
    exact ⟨_, Reads.none⟩
  | .bool b, _, _, h, r => by
    cases h
    cases r
    exact ⟨_, Reads.bool b⟩
  | .int i, _, _, h, r => by
    cases h
    obtain ⟨t, rfl⟩ := r
    exact ⟨_, Reads.int i t⟩
  | .str x, _, _, h, r => by
    cases h
    obtain ⟨t, rfl⟩ := r
    exact ⟨_, Reads.str x t⟩
  | .list ds, _, _, h, r => by
    cases h with
    | lst hs ha =>
      cases r
      obtain ⟨its, rv, ⟨o, n, ho, hc, _, hd⟩, _⟩ := I.list hs
      obtain ⟨as, hr⟩ := Dp.readsAll I ds _ its ha rv
      exact ⟨_, Reads.list ho hc hd hr⟩
  | .tuple ds, _, _, h, r => by
    cases h with
    | tup hs ha =>
      cases r
      obtain ⟨its, rv, ⟨o, ho, hc, n, hd⟩, _⟩ := I.tuple hs
      obtain ⟨as, hr⟩ := Dp.readsAll I ds _ its ha rv
      exact ⟨_, Reads.tuple ho hc hd hr⟩
  | .dict _, _, _, h, _ => by cases h
theorem Dp.readsAll (I : Inv X pins σ H s) : ∀ (ds : List PyData) (vs : List V) (us : List Value), DpAll X.K H vs ds → Vals vs us → ∃ as, ReadsAll s.heap us ds as
  | [], _, _, h, r => by
    cases h
    cases r
    exact ⟨_, ReadsAll.nil⟩
  | d :: ds, _, _, h, r => by
    cases h with
    | cons h1 h2 =>
      cases r with
      | cons r1 r2 =>
        obtain ⟨as, q1⟩ := Dp.reads I d _ _ h1 r1
        obtain ⟨bs, q2⟩ := Dp.readsAll I ds _ _ h2 r2
        exact ⟨_, ReadsAll.cons q1 q2⟩
end
end
section
variable {X : Cx}
def rEqD (K : PySem.W.Frag) : R2 := fun x y H Q => ∃ d e, Dp K H x d ∧ Dp K H y e ∧ SeqAt.shaped d = true ∧ SeqAt.shaped e = true ∧ Q (.bl (PyData.eqv d e)) H
theorem op_eqD (hu : X.A.units + 64 < cLine) : OpR X (compareOp .Eq) (rEqD X.K) := by
  intro pins s σ H x y v u Q I rx ry h
  obtain ⟨d, e, hd, he, sd, se, q⟩ := h
  obtain ⟨as, r1⟩ := Dp.reads I d x v hd rx
  obtain ⟨bs, r2⟩ := Dp.reads I e y u he ry
  exact SeqAt.compareEq_shaped r1 r2 sd se hu ⟨.bl _, H, I, rfl, q⟩
end
end L2
namespace L2
open PySem PySem.Spec PyProof.Rows
abbrev CellAt (h : Heap) (c : Addr) (v : Option Value) : Prop := h.IsCell c v
def relS (scope sc : Scope) : Scope :=
  { scope with names := scope.names.map fun (n, k) => if (k == .free && sc.kind == .function && sc.names.lookup n == some .cell) then (n, .cell) else (n, k) }
def cloFrom (cells : List (Str × Addr)) : List (Str × NameKind) → List (Str × Addr) → List (Str × Addr)
  | [], acc => acc
  | (n, k) :: r, acc => if k == .free then cloFrom cells r ((n, (cells.lookup n).getD 0) :: acc) else cloFrom cells r acc
theorem closure_loop (env : Env) (f : Str × NameKind → List (Str × Addr) → Sem (ForInStep (List (Str × Addr))))
    (hf : ∀ n k c, f (n, k) c = if k == .free then (do let a ← cellOf env n; pure (.yield ((n, a) :: c))) else pure (.yield c)) :
    ∀ (names : List (Str × NameKind)) (acc : List (Str × Addr)), (∀ y ∈ names, y.2 = .free → ∃ c, env.cells.lookup y.1 = some c) → forIn names acc f = pure (cloFrom env.cells names acc)
  | [], acc, _ => by rw [List.forIn_nil]; rfl
  | (n, k) :: r, acc, h => by
    rw [List.forIn_cons, hf]
    have ih := fun acc => closure_loop env f hf r acc fun y hy => h y (List.mem_cons_of_mem _ hy)
    unfold cloFrom
    by_cases hk : (k == NameKind.free) = true
    · rw [if_pos hk, if_pos hk]
      obtain ⟨c, hc⟩ := h (n, k) List.mem_cons_self (by simpa using hk)
      have e : cellOf env n = pure c := by unfold cellOf; rw [hc]
      rw [e]
      have e2 : (env.cells.lookup n).getD 0 = c := by rw [hc]; rfl
      rw [e2]
      exact ih _
    · rw [if_neg hk, if_neg hk]
      exact ih _
theorem closure_ok {scope : Scope} {env : Env} (h : ∀ y ∈ scope.names, y.2 = .free → ∃ c, env.cells.lookup y.1 = some c) : closureFor scope env = pure (cloFrom env.cells scope.names []) := by
  simp only [closureFor]
  rw [closure_loop env _ (fun n k c => rfl) scope.names [] h]
  rfl
theorem mem_lookup {α : Type} : ∀ {l : List (Str × α)} {n : Str} {c : α}, (n, c) ∈ l → ∃ c', l.lookup n = some c'
  | (k, v) :: r, n, c, h => by
    rw [List.lookup_cons]
    cases hb : n == k with
    | true => exact ⟨_, rfl⟩
    | false =>
      rcases List.mem_cons.mp h with e | h
      · cases e; simp at hb
      · exact mem_lookup h
theorem cloFrom_mem {cells : List (Str × Addr)} : ∀ {names : List (Str × NameKind)} {acc : List (Str × Addr)} {n : Str} {c : Addr}, (n, c) ∈ cloFrom cells names acc → (n, c) ∈ acc ∨ ((n, .free) ∈ names ∧ c = (cells.lookup n).getD 0)
  | [], _, _, _, h => .inl h
  | (m, k) :: r, acc, n, c, h => by
    unfold cloFrom at h
    split at h
    · rename_i hk
      have hk : k = .free := by simpa using hk
      rcases cloFrom_mem h with h | ⟨h1, h2⟩
      · rcases List.mem_cons.mp h with e | h
        · cases e; exact .inr ⟨hk ▸ List.mem_cons_self, rfl⟩
        · exact .inl h
      · exact .inr ⟨List.mem_cons_of_mem _ h1, h2⟩
    · rcases cloFrom_mem h with h | ⟨h1, h2⟩
      · exact .inl h
      · exact .inr ⟨List.mem_cons_of_mem _ h1, h2⟩
theorem cloFrom_acc {cells : List (Str × Addr)} : ∀ {names : List (Str × NameKind)} {acc : List (Str × Addr)} {p : Str × Addr}, p ∈ acc → p ∈ cloFrom cells names acc
  | [], _, _, h => h
  | (m, k) :: r, acc, p, h => by
    unfold cloFrom
    split
    · exact cloFrom_acc (List.mem_cons_of_mem _ h)
    · exact cloFrom_acc h
theorem cloFrom_has {cells : List (Str × Addr)} : ∀ {names : List (Str × NameKind)} {acc : List (Str × Addr)} {n : Str}, (n, .free) ∈ names → (n, (cells.lookup n).getD 0) ∈ cloFrom cells names acc
  | (m, k) :: r, acc, n, h => by
    unfold cloFrom
    rcases List.mem_cons.mp h with e | h
    · cases e
      exact cloFrom_acc List.mem_cons_self
    · split
      · exact cloFrom_has h
      · exact cloFrom_has h
theorem cells_mem : ∀ {names : List (Str × NameKind)} {h : Heap} {acc : List (Str × Addr)} {x : Str} {c : Addr}, (x, c) ∈ cellsFrom h.objs.size names acc →
    (x, c) ∈ acc ∨ ((x, .cell) ∈ names ∧ h.objs.size ≤ c ∧ CellAt (pushCells h names) c none)
  | [], _, _, _, _, h => .inl h
  | (n, k) :: r, h, acc, x, c, hm => by
    unfold cellsFrom at hm
    unfold pushCells
    split at hm
    · rename_i hk
      rw [if_pos hk]
      have hk : k = .cell := by simpa using hk
      rw [← Heap.size_push h { cls := .type "cell", data := .cell none }] at hm
      rcases cells_mem hm with hm | ⟨h1, h2, h3⟩
      · rcases List.mem_cons.mp hm with e | hm
        · cases e
          exact .inr ⟨hk ▸ List.mem_cons_self, Nat.le_refl _, _, pushCells_keeps r _ _ _ (Heap.get?_push_size _ rfl), rfl⟩
        · exact .inl hm
      · rw [Heap.size_push] at h2
        exact .inr ⟨List.mem_cons_of_mem _ h1, Nat.le_of_succ_le h2, h3⟩
    · rename_i hk
      rw [if_neg hk]
      rcases cells_mem hm with hm | ⟨h1, h2, h3⟩
      · exact .inl hm
      · exact .inr ⟨List.mem_cons_of_mem _ h1, h2, h3⟩
theorem cells_acc : ∀ {names : List (Str × NameKind)} {n : Nat} {acc : List (Str × Addr)} {p : Str × Addr}, p ∈ acc → p ∈ cellsFrom n names acc
  | [], _, _, _, h => h
  | (m, k) :: r, n, acc, p, h => by
    unfold cellsFrom
    split
    · exact cells_acc (List.mem_cons_of_mem _ h)
    · exact cells_acc h
theorem cells_has : ∀ {names : List (Str × NameKind)} {n : Nat} {acc : List (Str × Addr)} {x : Str}, (x, .cell) ∈ names → ∃ c, (x, c) ∈ cellsFrom n names acc
  | (m, k) :: r, n, acc, x, h => by
    unfold cellsFrom
    rcases List.mem_cons.mp h with e | h
    · cases e
      exact ⟨n, cells_acc List.mem_cons_self⟩
    · split
      · exact cells_has h
      · exact cells_has h
theorem cells_inj : ∀ {names : List (Str × NameKind)} {h : Heap} {acc : List (Str × Addr)} {x y : Str} {c : Addr}, (∀ p ∈ acc, p.2 < h.objs.size) → (∀ x y c, (x, c) ∈ acc → (y, c) ∈ acc → x = y) →
    (x, c) ∈ cellsFrom h.objs.size names acc → (y, c) ∈ cellsFrom h.objs.size names acc → x = y
  | [], _, _, _, _, _, _, hi, h1, h2 => hi _ _ _ h1 h2
  | (n, k) :: r, h, acc, x, y, c, hl, hi, h1, h2 => by
    unfold cellsFrom at h1 h2
    split at h1
    · rename_i hk
      rw [if_pos hk] at h2
      rw [← Heap.size_push h { cls := .type "cell", data := .cell none }] at h1 h2
      refine cells_inj (h := h.push _) (fun p hp => ?_) (fun x y c a b => ?_) h1 h2
      · rw [Heap.size_push]
        rcases List.mem_cons.mp hp with rfl | hp
        · exact Nat.lt_succ_self _
        · exact Nat.lt_succ_of_lt (hl p hp)
      · rcases List.mem_cons.mp a with e | a <;> rcases List.mem_cons.mp b with e' | b
        · cases e; cases e'; rfl
        · cases e; exact absurd (hl _ b) (Nat.lt_irrefl _)
        · cases e'; exact absurd (hl _ a) (Nat.lt_irrefl _)
        · exact hi _ _ _ a b
    · rename_i hk
      rw [if_neg hk] at h2
      exact cells_inj hl hi h1 h2
theorem newEnv_comp {M : Model} {A : Around} {E : Value → Shared → Prop} {s : Shared} {scope : Scope} {globals : Addr} {closure : List (Str × Addr)} {qual : Str} {func : Option Addr} {code : Value} {around : Env} {builtins : Addr} {Q : Env → Shared → Prop}
    (h : Q (newEnv scope s.heap.objs.size globals (cellsFrom (s.heap.objs.size + 1) scope.names closure) qual func code (some around) builtins)
      { s with heap := pushCells (s.heap.push { cls := .type "dict", data := .dict #[] }) scope.names }) :
    wpAny M A (newFunctionEnv scope globals closure [] qual func code (some around) builtins) Q E s := by
  simp only [newFunctionEnv, Option.isSome_some, if_true]
  refine wpAny_bind (wpAny_alloc ?_)
  refine wpAny_bind (wpAny_layCells _ (fun n k c => rfl) scope.names closure _ _ ?_)
  rw [show ({ s with heap := s.heap.push { cls := .type "dict", data := .dict #[] } } : Shared).heap.objs.size = s.heap.objs.size + 1 from Heap.size_push ..]
  rw [List.forIn_nil]
  exact wpAny_bind (wpAny_pure (wpAny_pure h))
/-- every name of the written scope, in the scope that runs -/
theorem lookup_relS {sc : Scope} : ∀ {names : List (Str × NameKind)} {x : Str} {k : NameKind},
    (names.map fun (n, k) => if (k == NameKind.free && sc.kind == .function && sc.names.lookup n == some .cell) then (n, NameKind.cell) else (n, k)).lookup x = some k →
    ∃ k', names.lookup x = some k' ∧ (k = k' ∨ (k' = .free ∧ k = .cell))
  | [], _, _, h => by simp at h
  | (n, k₀) :: r, x, k, h => by
    have ih := @lookup_relS sc r x k
    have h' : List.lookup x ((if (k₀ == NameKind.free && sc.kind == .function && sc.names.lookup n == some .cell) = true then (n, NameKind.cell) else (n, k₀)) :: (r.map _)) = some k := h
    cases hx : x == n with
    | true =>
      simp only [List.lookup_cons, hx]
      by_cases hc : (k₀ == NameKind.free && sc.kind == .function && sc.names.lookup n == some .cell) = true
      · rw [if_pos hc] at h'
        simp only [List.lookup_cons, hx] at h'
        cases h'
        simp only [Bool.and_eq_true, beq_iff_eq] at hc
        exact ⟨k₀, rfl, .inr ⟨hc.1.1, rfl⟩⟩
      · rw [if_neg hc] at h'
        simp only [List.lookup_cons, hx] at h'
        cases h'
        exact ⟨_, rfl, .inl rfl⟩
    | false =>
      simp only [List.lookup_cons, hx]
      by_cases hc : (k₀ == NameKind.free && sc.kind == .function && sc.names.lookup n == some .cell) = true
      · rw [if_pos hc] at h'
        simp only [List.lookup_cons, hx] at h'
        exact ih h'
      · rw [if_neg hc] at h'
        simp only [List.lookup_cons, hx] at h'
        exact ih h'
/-- the names of a comprehension's block: its own (with their places in N), or captured -/
structure BlkOk (N : List Str) (sc scope : Scope) (own : List (Str × Nat)) : Prop where
  kind : scope.kind = .function
  uniq : ∀ y ∈ scope.names, scope.names.lookup y.1 = some y.2
  ix : ∀ p ∈ own, N[p.2]? = some p.1
  free : ∀ y ∈ scope.names, y.2 = .free → sc.names.lookup y.1 = some .cell ∨ sc.names.lookup y.1 = some .free
  own : ∀ y ∈ scope.names, y.2 = .local ∨ y.2 = .cell → y.1 ∈ own.map (·.1) ∨ y.1 ∉ N
/-- the slots of the block's own names forgotten -/
def wipe (σ : St) : List Nat → St
  | [] => σ
  | v :: vs => (wipe σ vs).set v none
theorem wipe_length (σ : St) : ∀ vs : List Nat, (wipe σ vs).length = σ.length
  | [] => rfl
  | v :: vs => by unfold wipe; rw [List.length_set, wipe_length σ vs]
theorem wipe_some {σ : St} {i : Nat} {x : V} : ∀ {vs : List Nat}, (wipe σ vs)[i]? = some (some x) → σ[i]? = some (some x) ∧ i ∉ vs
  | [], h => ⟨h, by simp⟩
  | v :: vs, h => by
    unfold wipe at h
    by_cases hi : v = i
    · subst hi
      by_cases hv : v < (wipe σ vs).length
      · rw [List.getElem?_set_self hv] at h; cases h
      · rw [List.getElem?_eq_none (by simpa using hv)] at h; cases h
    · rw [List.getElem?_set_ne hi] at h
      obtain ⟨h1, h2⟩ := wipe_some h
      exact ⟨h1, by simp only [List.mem_cons, not_or]; exact ⟨fun e => hi e.symm, h2⟩⟩
/-- the context of a block that starts at s, its iterator's objects at fp -/
abbrev Cx.blk (X : Cx) (s : Shared) (H : Hp) (scope : Scope) (cenv : Env) (fp : List Addr) : Cx := { X with s_0 := s, H_0 := H, env := cenv, outer := X.stack, ex := fp, fn := fun x => scope.names.lookup x == some .cell, pn := [], xe := fun _ _ => False }
section
variable {X : Cx} {pins : List (Addr × Obj)} {σ : St} {H : Hp} {s : Shared}
theorem block_start {scope : Scope} {own : List (Str × Nat)} {fp : List Addr} (I : Inv X pins σ H s) (ok : BlkOk X.N X.env.scope scope own) (hN : X.N.Nodup) (hfp : ∀ b ∈ fp, FpOk X pins H b ∧ b < s.heap.objs.size) :
    Inv (X.blk s H scope (compEnvC scope (cellsFrom (s.heap.objs.size + 1) scope.names (cloFrom X.env.cells scope.names [])) s.heap.objs.size X.env) fp) [] (wipe σ (own.map (·.2))) H { s with heap := pushCells (s.heap.push { cls := .type "dict", data := .dict #[] }) scope.names } := by
  have hfree : ∀ y ∈ scope.names, y.2 = .free → ∃ c, X.env.cells.lookup y.1 = some c := fun y hy e => by
    rcases ok.free y hy e with k | k
    · exact I.ok.has _ (.inl k)
    · exact I.ok.has _ (.inr k)
  generalize hcenv : compEnvC scope (cellsFrom (s.heap.objs.size + 1) scope.names (cloFrom X.env.cells scope.names [])) s.heap.objs.size X.env = cenv
  have kp : ∀ b o, s.heap.get? b = some o → (pushCells (s.heap.push { cls := .type "dict", data := .dict #[] }) scope.names).get? b = some o := fun b o e => pushCells_keeps _ _ _ _ (Heap.get?_push_of_some _ e)
  have hL : cenv.locals = s.heap.objs.size := by rw [← hcenv]; rfl
  have hcl : cenv.cells = cellsFrom (s.heap.objs.size + 1) scope.names (cloFrom X.env.cells scope.names []) := by rw [← hcenv]; rfl
  have hsc : cenv.scope = relS scope X.env.scope := by rw [← hcenv]; rfl
  rw [← Heap.size_push s.heap { cls := .type "dict", data := .dict #[] }] at hcl
  have cm : ∀ {y c}, (y, c) ∈ cloFrom X.env.cells scope.names [] → X.env.cells.lookup y = some c ∧ c < s.heap.objs.size := fun {y c} hm => by
    rcases cloFrom_mem hm with hm | ⟨h1, rfl⟩
    · cases hm
    · obtain ⟨c, hc⟩ := hfree _ h1 rfl
      rw [hc]
      obtain ⟨w, z⟩ := I.cell _ _ hc
      exact ⟨rfl, z.lt⟩
  have mem : ∀ {y c}, cenv.cells.lookup y = some c → (X.env.cells.lookup y = some c ∧ c < s.heap.objs.size) ∨ (s.heap.objs.size + 1 ≤ c ∧ CellAt (pushCells (s.heap.push { cls := .type "dict", data := .dict #[] }) scope.names) c none) := fun {y c} e => by
    rw [hcl] at e
    rcases cells_mem (PySem.mem_of_lookup e) with hm | ⟨_, h2, h3⟩
    · exact .inl (cm hm)
    · rw [Heap.size_push] at h2; exact .inr ⟨h2, h3⟩
  have look : ∀ {y}, scope.names.lookup y = some .free → ∃ c, cenv.cells.lookup y = some c ∧ X.env.cells.lookup y = some c := fun {y} hl => by
    have hy : (y, NameKind.free) ∈ scope.names := PySem.mem_of_lookup hl
    obtain ⟨c', e'⟩ := mem_lookup (cells_acc (names := scope.names) (n := (s.heap.push { cls := .type "dict", data := .dict #[] }).objs.size) (cloFrom_has (cells := X.env.cells) (acc := []) hy))
    rw [← hcl] at e'
    refine ⟨c', e', ?_⟩
    rw [hcl] at e'
    rcases cells_mem (PySem.mem_of_lookup e') with hm | ⟨h1, _, _⟩
    · exact (cm hm).1
    · have := ok.uniq _ h1
      rw [hl] at this; cases this
  have okB : (X.blk s H scope cenv fp).Ok := by
    refine ⟨I.ok.mod, by show cenv.scope.kind = _; rw [hsc]; exact ok.kind, by show cenv.globals = _; rw [← hcenv]; exact I.ok.glob, by show cenv.builtins = _; rw [← hcenv]; exact I.ok.blt, by show s.heap.objs.size ≤ cenv.locals; rw [hL]; exact Nat.le_refl _,
      fun y z c e1 e2 => ?_, fun y hy => ?_, fun y c z e => ?_, I.ok.hd, I.ok.frames, .inl rfl, fun b hb => ⟨?_, fun y c e z => ?_⟩, I.bs, Nat.le_trans I.ok.bsz I.sz, fun b o e hb => ?_, fun b hb z => ?_, I.stack, I.stkFree⟩
    · have e1 : cenv.cells.lookup y = some c := e1
      have e2 : cenv.cells.lookup z = some c := e2
      rw [hcl] at e1 e2
      refine cells_inj (fun p hp => ?_) (fun y z c a b => I.ok.inj y z c (cm a).1 (cm b).1) (PySem.mem_of_lookup e1) (PySem.mem_of_lookup e2)
      rw [Heap.size_push]
      exact Nat.lt_succ_of_lt (cm (y := p.1) (c := p.2) hp).2
    · show ∃ c, cenv.cells.lookup y = some c
      have key : ∀ k, cenv.kindOf y = some k → (k = .cell ∨ k = .free) → ∃ c, cenv.cells.lookup y = some c := fun k hk hk' => by
        unfold Env.kindOf at hk
        rw [hsc] at hk
        obtain ⟨k', e, r⟩ := lookup_relS hk
        have : k' = .cell ∨ k' = .free := by
          rcases r with rfl | ⟨rfl, _⟩
          · exact hk'
          · exact .inr rfl
        rcases this with rfl | rfl
        · obtain ⟨c, hm⟩ := cells_has (n := (s.heap.push { cls := .type "dict", data := .dict #[] }).objs.size) (acc := cloFrom X.env.cells scope.names []) (PySem.mem_of_lookup e)
          obtain ⟨c', e'⟩ := mem_lookup hm
          exact ⟨c', by rw [hcl]; exact e'⟩
        · obtain ⟨c, h1, _⟩ := look e
          exact ⟨c, h1⟩
      rcases hy with hy | hy
      · exact key _ hy (.inl rfl)
      · exact key _ hy (.inr rfl)
    · have z : (scope.names.lookup y == some NameKind.cell) = true := z
      have z : scope.names.lookup y = some .cell := by simpa using z
      have e : cenv.cells.lookup y = some c := e
      rw [hcl] at e
      rcases cells_mem (PySem.mem_of_lookup e) with hm | ⟨_, h2, _⟩
      · rcases cloFrom_mem hm with hm | ⟨h1, _⟩
        · cases hm
        · have q := ok.uniq _ h1
          rw [z] at q; cases q
      · rw [Heap.size_push] at h2
        exact Nat.le_of_succ_le h2
    · show b ≠ cenv.locals
      rw [hL]; exact Nat.ne_of_lt (hfp b hb).2
    · have e : cenv.cells.lookup y = some c := e
      rcases mem e with ⟨h1, _⟩ | ⟨h1, _⟩
      · exact (hfp b hb).1.2.2.2.2.1 y c h1 z
      · have h2 : s.heap.objs.size + 1 ≤ b := by rw [← z]; exact h1
        exact absurd (Nat.lt_of_lt_of_le (hfp b hb).2 (Nat.le_of_succ_le h2)) (Nat.lt_irrefl _)
    · rcases (hfp b hb).1.2.2.2.1 with z | z
      · exact I.ok.noex b o e z
      · exact absurd (Nat.lt_of_lt_of_le (Heap.lt_size e) (Nat.le_trans I.ok.bsz z)) (Nat.lt_irrefl _)
    · rcases List.mem_cons.mp (I.stkSub b z) with z | z
      · exact (hfp b hb).1.2.1 z
      · exact (hfp b hb).1.2.2.1 z
  refine ⟨okB, rfl, I.bare, Un.kept kp, ⟨fun _ => none, ?_, fun i y av e1 e2 e3 => ?_⟩, fun y c e => ?_, ?_, fun y c e => ?_, fun p hp => ?_, I.hok.kept kp, by rw [wipe_length]; exact I.len⟩
  · show Heap.Ns _ cenv.locals _
    rw [hL]
    exact Heap.Ns.keeps (Heap.Ns.new ..) fun b o e => pushCells_keeps _ _ _ _ e
  · obtain ⟨e2, hne⟩ := wipe_some e2
    have hfr : scope.names.lookup y = some .free ∧ (cenv.kindOf y = some .cell ∨ cenv.kindOf y = some .free) := by
      have key : ∀ k, cenv.scope.names.lookup y = some k → k = .local ∨ k = .cell ∨ k = .free → scope.names.lookup y = some .free ∧ (cenv.kindOf y = some .cell ∨ cenv.kindOf y = some .free) := fun k hk hk' => by
        have hk0 := hk
        rw [hsc] at hk
        obtain ⟨k', e, r⟩ := lookup_relS hk
        have no : ¬ (k' = .local ∨ k' = .cell) := fun hh => by
          rcases ok.own _ (PySem.mem_of_lookup e) hh with e' | e'
          · obtain ⟨p, hp, hpy⟩ := List.mem_map.mp e'
            have e3 := ok.ix p hp
            have : p.1 = y := hpy
            rw [this] at e3
            exact hne (List.mem_map.mpr ⟨p, hp, nodup_ix hN e3 e1⟩)
          · exact e' (List.mem_of_getElem? e1)
        rcases r with rfl | ⟨rfl, rfl⟩
        · rcases hk' with rfl | rfl | rfl
          · exact absurd (.inl rfl) no
          · exact absurd (.inr rfl) no
          · exact ⟨e, .inr hk0⟩
        · exact ⟨e, .inl hk0⟩
      have e3 : Vis cenv.scope y := e3
      rcases e3 with e3 | e3 | e3
      · exact key _ e3 (.inl rfl)
      · exact key _ e3 (.inr (.inl rfl))
      · exact key _ e3 (.inr (.inr rfl))
    obtain ⟨m, hn, hl⟩ := I.loc
    have hvis : Vis X.env.scope y := (ok.free _ (PySem.mem_of_lookup hfr.1) rfl).elim (fun k => .inr (.inl k)) (fun k => .inr (.inr k))
    obtain ⟨w, r, q⟩ := hl i y av e1 e2 hvis
    refine ⟨w, r, .inr ⟨hfr.2, ?_⟩⟩
    obtain ⟨c, h1, h2⟩ := look hfr.1
    rcases q with ⟨k, _⟩ | ⟨_, c', e', z⟩
    · have k : X.env.scope.names.lookup y = some .local := k
      rcases ok.free _ (PySem.mem_of_lookup hfr.1) rfl with k' | k' <;> rw [show X.env.scope.names.lookup y = _ from k'] at k <;> cases k
    · rw [h2] at e'; cases e'
      exact ⟨c, h1, z.keeps kp⟩
  · have e : cenv.cells.lookup y = some c := e
    rcases mem e with ⟨h1, _⟩ | ⟨_, z⟩
    · obtain ⟨w, z⟩ := I.cell y c h1
      exact ⟨w, z.keeps kp⟩
    · exact ⟨_, z⟩
  · show H cenv.locals = none
    rw [hL]; exact I.hok.fresh (Nat.le_refl _)
  · have e : cenv.cells.lookup y = some c := e
    rcases mem e with ⟨h1, _⟩ | ⟨h1, _⟩
    · exact I.freeC y c h1
    · exact I.hok.fresh (Nat.le_of_succ_le h1)
  · exact absurd (show p ∈ ([] : List (Addr × Obj)) ++ [] from hp) (by simp)
/-- an item appended to a tracked list -/
theorem app_ok {E : Value → Shared → Prop} {D : Addr} {xs : List V} {y : V} {v : Value} {Q : Value → Shared → Prop} (I : Inv X pins σ H s) (hD : H D = some (.lst xs)) (hz : xs.length < sizeLine) (r : RelV y v)
    (h : ∀ s', Inv X pins σ (upd H D (.lst (xs ++ [y]))) s' → Q .none s') : wpAny (model X.prog X.w) X.A (call (.builtin "list.append") [.ref D, v]) Q E s := by
  obtain ⟨hz', its, n, ri, e⟩ := I.hok D _ hD
  have hl := ri.length
  refine append_at (hsz := by rw [List.size_toArray]; omega) e fun h' sb ho' => ?_
  refine h { s with heap := h' } (I.write (t' := s.toks) (by rw [hD]; trivial) (.inl rfl) (fun b u hb q => (sb.2 b hb).trans q) ⟨_, ho'⟩ ⟨by rw [List.length_append]; exact hz, its ++ [v], n + 1, ri.append (.cons r .nil), ?_⟩)
  rw [ho']
  simp
/-- a clause's tests -/
def PTs (X : Cx) (ifs : List Expr) (t : TT) : Prop :=
  ∀ (pins : List (Addr × Obj)) (s : Shared) (σ : St) (H : Hp) (Q : Bool → Hp → Prop), Inv X pins σ H s → t σ H Q →
    wpAny (model X.prog X.w) X.A (forIn ifs true fun c r => if r = true then do let ok ← isTrue c X.env (eval c X.env); pure (ForInStep.yield ok) else pure (ForInStep.yield r)) (TP X pins σ Q) X.xe s
def tYes : TT := fun _ H Q => Q true H
theorem pts_nil : PTs X [] tYes := fun _ _ _ H _ I h => wpAny_tests_nil ⟨H, I, h⟩
end
theorem thnF {α : Type} {t : Sem α} {Q Q' : α → Shared → Prop} {M : Model} {A : Around} {E : Value → Shared → Prop} {s : Shared} (h : wpAny M A t Q (fun _ _ => False) s) (hQ : ∀ a s, Q a s → Q' a s) : wpAny M A t Q' E s := wpAny_mono h hQ fun _ _ z => False.elim z
/-- the loop of a list comprehension's block, the target of any form (codeAny_compLoop_tests asks a target that no tuple goes to; statement and proof follow it, PyProof/CompMap.lean:41-61, with the step letOwnedTupleGo kept) -/
theorem compLoop_any {prog : Program} {w : World} {A : Around} {R : Result → Shared → Prop} {s : Shared} {elt target iter : Expr} {ifs : List Expr} {scope : Scope} {pos : Pos} {it acc : Value} {env : Env} (I : Nat → Shared → Prop)
    (turn : ∀ n s, I n s → wpAny (model prog w) A (pyNext it) (fun r s₁ => match r with
      | none => R (.ok .next) s₁
      | some v => wpAny (model prog w) A (letOwnedTupleGo target it v) (fun _ s₁' => wpAny (model prog w) A (assign target env v) (fun _ s₂ =>
          wpAny (model prog w) A (forIn ifs true fun c r => if r = true then do let ok ← isTrue c env (eval c env); pure (ForInStep.yield ok) else pure (ForInStep.yield r)) (fun ok s₃ =>
            if ok = true then wpAny (model prog w) A (eval elt env) (fun x s₄ =>
              wpAny (model prog w) A (call (.builtin "list.append") [acc, x]) (fun _ s₅ => ∃ m, m < n ∧ I m s₅) (notedBy (model prog w) A env fun e s' => R (.error e) s') s₄) (notedBy (model prog w) A env fun e s' => R (.error e) s') s₃
            else ∃ m, m < n ∧ I m s₃) (notedBy (model prog w) A env fun e s' => R (.error e) s') s₂) (notedBy (model prog w) A env fun e s' => R (.error e) s') s₁') (notedBy (model prog w) A env fun e s' => R (.error e) s') s₁) (notedBy (model prog w) A env fun e s' => R (.error e) s') s)
    (n : Nat) (h : I n s) :
    codeAny (model prog w) A (.compLoop (.ListComp elt [⟨target, iter, ifs, 0⟩] scope pos) 0 it acc env) R s := by
  refine codeAny_loop rfl I (fun n s hI => ?_) n h
  show wpAny _ A ((compTurn (.ListComp elt [⟨target, iter, ifs, 0⟩] scope pos) 0 it acc env).onRaise (fun x => do noteFrame x env; theTreesLotGoes x)) _ _ s
  refine wpAny_noted ?_
  rw [compTurn_list]
  refine wpAny_bind (wpAny_standAt (wpAny_bind (wpAny_mono (turn n s hI) (fun r s₁ h₁ => ?_) fun _ _ h' => h')))
  cases r with
  | none => exact wpAny_pure h₁
  | some v =>
    refine wpAny_bind (wpAny_mono h₁ (fun _ s₁' h₁' => ?_) fun _ _ h' => h')
    refine wpAny_bind (wpAny_mono h₁' (fun _ s₂ h₂ => wpAny_bind (wpAny_mono h₂ (fun ok s₃ h₃ => ?_) fun _ _ h' => h')) fun _ _ h' => h')
    cases ok with
    | false => exact wpAny_pure ⟨rfl, h₃⟩
    | true =>
      exact wpAny_bind (wpAny_bind (wpAny_mono h₃ (fun x s₄ h₄ => wpAny_bind (wpAny_mono h₄ (fun _ s₅ h₅ => wpAny_pure (wpAny_pure ⟨rfl, h₅⟩)) fun _ _ h' => h')) fun _ _ h' => h'))
section
variable {X : Cx}
/-- [elt for target in iter if ..]: D the new list; W by the turn and a measure, Nx what a turn is to reach -/
def tLc (wi : TI) (g : TG) (tt : TT) (te : TE) (vs : List Nat) : TE := fun σ H Q => wi σ H fun J H1 => ∀ D, H1 D = none → ∃ W : Nat → Nat → Hp → Prop, (∃ m, W 0 m (upd H1 D (.lst []))) ∧ ∀ i m H, W i m H →
  (J.stop i H ∧ Q (.ref D) H) ∨ (J.go i H ∧ ∃ Nx : Hp → Prop, (∀ H', Nx H' → ∃ m', m' < m ∧ W (i + 1) m' H') ∧ ∀ x H', J.yld i H x H' → g x (wipe σ vs) H' fun σ2 H2 => wipe σ2 vs = wipe σ vs ∧ tt σ2 H2 fun b H3 =>
    if b = true then te σ2 H3 fun y H4 => ∃ acc, H4 D = some (.lst acc) ∧ acc.length < sizeLine ∧ Nx (upd H4 D (.lst (acc ++ [y]))) else Nx H3)
theorem lc_core {pins : List (Addr × Obj)} {s : Shared} {σ : St} {H : Hp} {Q : VK} {elt tg iter : Expr} {ifs : List Expr} {scope : Scope} {own : List (Str × Nat)} {pos pos' : Pos} {wi : TI} {g : TG} {tt : TT} {te : TE} {use : Option (Value → Sem Unit)} {Qf : Value → Shared → Prop}
    (hc : X.calm = true) (hN : X.N.Nodup) (I : Inv X pins σ H s) (hi : PI X tg iter wi) (ok : BlkOk X.N X.env.scope scope own)
    (hg : ∀ (s : Shared) (H : Hp) (C : Addr) (cl : List (Str × Addr)) (fp : List Addr), PG (X.blk s H scope (compEnvC scope cl C X.env) fp) tg g) (ht : ∀ (s : Shared) (H : Hp) (C : Addr) (cl : List (Str × Addr)) (fp : List Addr), PTs (X.blk s H scope (compEnvC scope cl C X.env) fp) ifs tt)
    (he : ∀ (s : Shared) (H : Hp) (C : Addr) (cl : List (Str × Addr)) (fp : List Addr), PE (X.blk s H scope (compEnvC scope cl C X.env) fp) elt te) (hs : ∀ x, foldedSetIterable iter X.env x = pure x)
    (h : tLc wi g tt te (own.map (·.2)) σ H Q)
    (hRR : ∀ D C s' m H', Inv X pins σ H' s' → Q (.ref D) H' → s'.heap.Ns C m → FpOk X pins H' C → compPost (model X.prog X.w) X.A X.xe use Qf (.ref D) C (.ok .next) s') :
    wpAny (model X.prog X.w) X.A (comprehension (.ListComp elt [⟨tg, iter, ifs, 0⟩] scope pos) scope X.env pos' (newList []) false (eval iter X.env) use) Qf X.xe s := by
  have hfree : ∀ y ∈ scope.names, y.2 = .free → ∃ c, X.env.cells.lookup y.1 = some c := fun y hy e => by
    rcases ok.free y hy e with k | k
    · exact I.ok.has _ (.inl k)
    · exact I.ok.has _ (.inr k)
  refine wpAny_comprehension_free (use := use) rfl hs (closure_ok hfree) ok.kind (fun y hy e => by rw [ok.uniq y hy, e])
    (thn (hi pins s σ H _ I h) fun xv s1 hx => thn hx fun itv s2 h2 => ?_)
  obtain ⟨it, fp, tn, J, H2, e, I2, T, st2, f2, q⟩ := h2
  subst e
  refine wpAny_newObj_type (newEnv_comp ?_) (by show 0 ≤ sizeLine; decide)
  generalize hD : s2.heap.objs.size = D
  have hDn : H2 D = none := I2.hok.fresh (Nat.le_of_eq hD)
  obtain ⟨W, ⟨m0, w0⟩, turn⟩ := q D hDn
  -- the new list
  generalize hs3 : ({ s2 with heap := s2.heap.push { cls := .type "list", data := .seq ([] : List Value).toArray } } : Shared) = s3
  have I3 : Inv X pins σ (upd H2 D (.lst [])) s3 := by
    rw [← hs3]
    refine I2.laid (t' := s2.toks) (fun b o e => Heap.get?_push_of_some _ e) (Nat.le_of_eq hD) ⟨Nat.zero_le _, [], 0, .nil, ?_⟩
    rw [← hD]
    exact Heap.get?_push_size _ rfl
  have h3 : s3.heap = s2.heap.push { cls := .type "list", data := .seq ([] : List Value).toArray } := by rw [← hs3]
  have sz : ∀ b ∈ fp, b < s2.heap.objs.size := fun b hb => by
    obtain ⟨o, e, _⟩ := T.obj _ _ st2 b hb
    exact Heap.lt_size e
  have f3 : ∀ b ∈ fp, FpOk X pins (upd H2 D (.lst [])) b ∧ b < s3.heap.objs.size := fun b hb => by
    have hlt := sz b hb
    refine ⟨⟨?_, (f2 b hb).2⟩, by rw [h3, Heap.size_push]; exact Nat.lt_succ_of_lt hlt⟩
    rw [upd_ne (by rw [← hD]; exact Nat.ne_of_lt hlt)]
    exact (f2 b hb).1
  have st3 : tn 0 s3.heap := T.keep _ _ _ st2 fun b _ o e => by rw [h3]; exact Heap.get?_push_of_some _ e
  have I4 := block_start I3 ok hN f3
  have pg := hg s3 (upd H2 D (.lst [])) s3.heap.objs.size (cellsFrom (s3.heap.objs.size + 1) scope.names (cloFrom X.env.cells scope.names [])) fp
  have pt := ht s3 (upd H2 D (.lst [])) s3.heap.objs.size (cellsFrom (s3.heap.objs.size + 1) scope.names (cloFrom X.env.cells scope.names [])) fp
  have pe := he s3 (upd H2 D (.lst [])) s3.heap.objs.size (cellsFrom (s3.heap.objs.size + 1) scope.names (cloFrom X.env.cells scope.names [])) fp
  show codeAny _ _ (.compStart (.ListComp elt [⟨tg, iter, ifs, 0⟩] scope pos) 0 (.ref it) (.ref D) (compEnvC scope (cellsFrom (s3.heap.objs.size + 1) scope.names (cloFrom X.env.cells scope.names [])) s3.heap.objs.size X.env)) (compPost (model X.prog X.w) X.A X.xe use Qf (.ref D) s3.heap.objs.size) { s3 with heap := pushCells (s3.heap.push { cls := .type "dict", data := .dict #[] }) scope.names }
  have nfp : ∀ b ∈ fp, (upd H2 D (.lst [])) b = none := fun b hb => (f3 b hb).1.1
  generalize hce : compEnvC scope (cellsFrom (s3.heap.objs.size + 1) scope.names (cloFrom X.env.cells scope.names [])) s3.heap.objs.size X.env = ce at I4 pg pt pe ⊢
  have cL : ce.locals = s3.heap.objs.size := by subst hce; rfl
  generalize hH3 : upd H2 D (.lst []) = H3 at I3 I4 pg pt pe w0 nfp f3
  generalize hs4 : ({ s3 with heap := pushCells (s3.heap.push { cls := .type "dict", data := .dict #[] }) scope.names } : Shared) = s4 at I4 ⊢
  have st4 : tn 0 s4.heap := T.keep _ _ _ st3 fun b _ o e => by rw [← hs4]; exact pushCells_keeps _ _ _ _ (Heap.get?_push_of_some _ e)
  have stat : ∀ {σ' : St} {H' : Hp} {s' : Shared}, Inv (X.blk s3 H3 scope ce fp) [] σ' H' s' → (∀ b ∈ fp, H' b = none) → ∀ b ∈ fp, FpOk (X.blk s3 H3 scope ce fp) [] H' b := fun {σ' H' s'} I' hn b hb =>
    ⟨hn b hb, (I'.ok.exf b hb).1, I'.ok.exfs b hb, .inl hb, fun x c e => (I'.ok.exf b hb).2 x c e, fun p hp => absurd (show p ∈ ([] : List (Addr × Obj)) ++ [] from hp) (by simp)⟩
  have loop : codeAny (model X.prog X.w) X.A (.compLoop (.ListComp elt [⟨tg, iter, ifs, 0⟩] scope pos) 0 (.ref it) (.ref D) ce) (compPost (model X.prog X.w) X.A X.xe use Qf (.ref D) s3.heap.objs.size) s4 := by
    refine compLoop_any (fun n s' => ∃ i H', Inv (X.blk s3 H3 scope ce fp) [] (wipe σ (own.map (·.2))) H' s' ∧ tn i s'.heap ∧ (∀ b ∈ fp, H' b = none) ∧ W i n H') ?_ m0 ⟨0, H3, I4, st4, nfp, w0⟩
    rintro n s5 ⟨i, H5, I5, st5, n5, w5⟩
    rcases turn i n H5 w5 with ⟨stop, qq⟩ | ⟨go, Nx, hNx, step⟩
    · have td := T.done (X.blk s3 H3 scope ce fp) rfl rfl rfl hc i [] s5 _ H5 (fun _ _ => False) I5 (stat I5 n5) st5 stop
      refine thnF td fun r s6 ⟨hr, I6⟩ => ?_
      subst hr
      -- back in the def's context
      have I7 : Inv X pins σ H5 s6 := I3.call' (ch := fp) I6.os I6.base I6.hok I6.bare fun b hb => ⟨(f3 b hb).1.2.2.2.1, (f3 b hb).1.2.1, (f3 b hb).1.2.2.2.2.1, (f3 b hb).1.2.2.2.2.2⟩
      have nC : H5 s3.heap.objs.size = none := by
        have z : H5 ce.locals = none := I6.free
        rw [cL] at z
        exact z
      obtain ⟨m, hn, _⟩ := I6.loc
      have hn : s6.heap.Ns ce.locals m := hn
      rw [cL] at hn
      exact hRR D s3.heap.objs.size s6 m H5 I7 qq hn (I3.fpOk (Nat.le_refl _) nC)
    · have ti := T.item (X.blk s3 H3 scope ce fp) rfl rfl rfl hc i [] s5 _ H5 (fun _ _ => False) I5 (stat I5 n5) st5 go
      refine thnF ti fun r s6 ⟨u, hr, h6⟩ => ?_
      subst hr
      refine thnF h6 fun _ s7 ⟨x, H7, I7, r7, y7, st7, n7⟩ => ?_
      have I7' := I7.pinned (stat I7 n7) (T.obj _ _ st7)
      refine thnF (pg _ s7 _ H7 x u _ I7' r7 (step x H7 y7)) fun _ s8 ⟨σ8, H8, I8, hw8, q8⟩ => ?_
      refine thnF (pt _ s8 σ8 H8 _ I8 q8) fun b s9 ⟨H9, I9, q9⟩ => ?_
      -- the turn's end
      have fin : ∀ {s' : Shared} {H' : Hp}, Inv (X.blk s3 H3 scope ce fp) ([] ++ pinsAt fp s7.heap) σ8 H' s' → Nx H' → ∃ m, m < n ∧ ∃ i H', Inv (X.blk s3 H3 scope ce fp) [] (wipe σ (own.map (·.2))) H' s' ∧ tn i s'.heap ∧ (∀ b ∈ fp, H' b = none) ∧ W i m H' := fun {s' H'} I' nx => by
        obtain ⟨m', hm, w'⟩ := hNx H' nx
        have pin' : ∀ b ∈ fp, ∀ o, s7.heap.get? b = some o → s'.heap.get? b = some o ∧ H' b = none := fun b hb o e =>
          let z := I'.pin (b, o) (List.mem_append_right _ (List.mem_append_right _ (mem_pinsAt hb e)))
          ⟨z.1, z.2.1⟩
        have hl : (wipe σ (own.map (·.2))).length = σ8.length := by rw [← hw8, wipe_length]
        refine ⟨m', hm, i + 1, H', (I'.unpinned (pins := [])).weak hl (fun j v e => ?_), T.keep _ _ _ st7 fun b hb o e => (pin' b hb o e).1, fun b hb => ?_, w'⟩
        · rw [← hw8] at e
          exact (wipe_some e).1
        · obtain ⟨o, e, _⟩ := T.obj _ _ st7 b hb
          exact (pin' b hb o e).2
      cases b with
      | false =>
        simp only [Bool.false_eq_true, if_false] at q9 ⊢
        exact fin I9 q9
      | true =>
        simp only [if_true] at q9 ⊢
        refine thnF (pe _ s9 σ8 H9 _ I9 q9) fun z s10 ⟨yv, H10, I10, r10, acc, hD10, hz10, nx⟩ => ?_
        exact app_ok (X := X.blk s3 H3 scope ce fp) I10 hD10 hz10 r10 fun s11 I11 => fin I11 nx
  exact codeAny_compStart_list loop (T.self X.A 0 _ _ _ st4 loop)
/-- as a value -/
theorem pe_lc {elt tg iter : Expr} {ifs : List Expr} {scope : Scope} {own : List (Str × Nat)} {pos : Pos} {wi : TI} {g : TG} {tt : TT} {te : TE} (hc : X.calm = true) (hN : X.N.Nodup) (hi : PI X tg iter wi) (ok : BlkOk X.N X.env.scope scope own)
    (hg : ∀ (s : Shared) (H : Hp) (C : Addr) (cl : List (Str × Addr)) (fp : List Addr), PG (X.blk s H scope (compEnvC scope cl C X.env) fp) tg g) (ht : ∀ (s : Shared) (H : Hp) (C : Addr) (cl : List (Str × Addr)) (fp : List Addr), PTs (X.blk s H scope (compEnvC scope cl C X.env) fp) ifs tt)
    (he : ∀ (s : Shared) (H : Hp) (C : Addr) (cl : List (Str × Addr)) (fp : List Addr), PE (X.blk s H scope (compEnvC scope cl C X.env) fp) elt te) (hs : ∀ x, foldedSetIterable iter X.env x = pure x := by intro _; rfl) :
    PE X (.ListComp elt [⟨tg, iter, ifs, 0⟩] scope pos) (tLc wi g tt te (own.map (·.2))) := by
  intro pins s σ H Q I h
  rw [eval_ListComp]
  refine lc_core hc hN I hi ok hg ht he hs h fun D C s' m H' I' q hn f => ⟨m, hn, fun h'' sb => ?_⟩
  obtain ⟨f0, f1, f2, f3, f4, f5⟩ := f
  exact ⟨.ref D, H', I'.turned (t' := s'.toks) (fun b o hb e => (sb.2 b hb).trans e) f0 f1 f3 f4 f5, rfl, q⟩
/-- name = [..] on one line, the name a local -/
theorem ps_setLc {i : Nat} {y : Str} {py : Pos} {elt tg iter : Expr} {ifs : List Expr} {scope : Scope} {own : List (Str × Nat)} {pos spos : Pos} {wi : TI} {g : TG} {tt : TT} {te : TE} (hc : X.calm = true) (hN : X.N.Nodup) (hy : X.N[i]? = some y) (hyl : X.env.scope.names.lookup y = some .local)
    (hsw : swapsWith (.ListComp elt [⟨tg, iter, ifs, 0⟩] scope pos) (some (.Name y py)) spos.line X.env = pure true) (hi : PI X tg iter wi) (ok : BlkOk X.N X.env.scope scope own)
    (hg : ∀ (s : Shared) (H : Hp) (C : Addr) (cl : List (Str × Addr)) (fp : List Addr), PG (X.blk s H scope (compEnvC scope cl C X.env) fp) tg g) (ht : ∀ (s : Shared) (H : Hp) (C : Addr) (cl : List (Str × Addr)) (fp : List Addr), PTs (X.blk s H scope (compEnvC scope cl C X.env) fp) ifs tt)
    (he : ∀ (s : Shared) (H : Hp) (C : Addr) (cl : List (Str × Addr)) (fp : List Addr), PE (X.blk s H scope (compEnvC scope cl C X.env) fp) elt te) (hs : ∀ x, foldedSetIterable iter X.env x = pure x := by intro _; rfl) :
    PS X (.Assign [.Name y py] (.ListComp elt [⟨tg, iter, ifs, 0⟩] scope pos) spos) (tAsg (tLc wi g tt te (own.map (·.2))) (gName i)) := by
  intro pins s σ H D I h
  rw [exec_Assign_Name_used _ _ _ _ hsw]
  refine wpAny_bind (wpAny_standAt (wpAny_bind ?_))
  show wpAny _ X.A (do let _ ← comprehension (.ListComp elt [⟨tg, iter, ifs, 0⟩] scope pos) scope X.env (firstIterPos [⟨tg, iter, ifs, 0⟩] pos) (newList []) false (eval iter X.env) (some (assign (.Name y py) X.env))) _ _ s
  have h : tLc wi g tt te (own.map (·.2)) σ H (fun x H1 => gName i x σ H1 D.nx) := h
  refine wpAny_bind (thn (lc_core (Qf := fun _ s' => SP X pins D .next s') hc hN I hi ok hg ht he hs h fun L C s' m H' I' q hn f => ?_) fun _ s' hq => wpAny_pure (wpAny_pure hq))
  show wpAny _ _ (assign (.Name y py) X.env (.ref L)) _ _ _
  refine wpAny_assign_Name (store_ok2 (v := V.ref L) I' hN hy (.inl hyl) rfl (fun s2 I2 ⟨a, sb, ha⟩ => ?_) (.inr hyl))
  obtain ⟨f0, f1, f2, f3, f4, f5⟩ := f
  have haC : C ≠ a := by
    rcases ha with z | z
    · rw [z]; exact f1
    · exact fun e => f4 y a z e.symm
  refine ⟨m, hn.sameBut sb haC, fun h3 sb3 => ?_⟩
  exact ⟨_, H', I2.turned (t' := s2.toks) (fun b o hb e => (sb3.2 b hb).trans e) f0 f1 f3 f4 f5, q⟩
theorem sw_true {elt : Expr} {gs : List Comprehension} {scope : Scope} {pos py : Pos} {y : Str} {l : Nat} {env : Env} (hk : env.scope.kind = .function) (hy : env.scope.names.lookup y = some .local) (hl : (py.line == pos.line) = true)
    (ha : (scope.names.any fun (n, k) => n == y && (k == .local || k == .cell)) = false) : swapsWith (.ListComp elt gs scope pos) (some (.Name y py)) l env = pure true := by
  have ky : env.kindOf y = some .local := hy
  have hb : env.blockKind = .function := by unfold Env.blockKind; rw [hk]; rfl
  unfold swapsWith
  simp only [hb, ky, ha, Expr.pos, hl]
  rfl
end
/-! ### the forms one uses -/
/-- over a range: Pv by the turn and the heap (the new list at D within) -/
theorem lc_range {lo : Int} {n : Nat} {g : TG} {tt : TT} {te : TE} {vs : List Nat} {σ : St} {H1 : Hp} {D : Addr} {Qd : Hp → Prop} (Pv : Nat → Hp → Prop) (h0 : Pv 0 (upd H1 D (.lst [])))
    (hs : ∀ i H, i < n → Pv i H → g (.int (lo + i)) (wipe σ vs) H fun σ2 H2 => wipe σ2 vs = wipe σ vs ∧ tt σ2 H2 fun b H3 =>
      if b = true then te σ2 H3 fun y H4 => ∃ acc, H4 D = some (.lst acc) ∧ acc.length < sizeLine ∧ Pv (i + 1) (upd H4 D (.lst (acc ++ [y]))) else Pv (i + 1) H3) (hd : ∀ H, Pv n H → Qd H) :
    ∃ W : Nat → Nat → Hp → Prop, (∃ m, W 0 m (upd H1 D (.lst []))) ∧ ∀ i m H, W i m H →
      ((Itr lo n).stop i H ∧ Qd H) ∨ ((Itr lo n).go i H ∧ ∃ Nx : Hp → Prop, (∀ H', Nx H' → ∃ m', m' < m ∧ W (i + 1) m' H') ∧ ∀ x H', (Itr lo n).yld i H x H' → g x (wipe σ vs) H' fun σ2 H2 => wipe σ2 vs = wipe σ vs ∧ tt σ2 H2 fun b H3 =>
        if b = true then te σ2 H3 fun y H4 => ∃ acc, H4 D = some (.lst acc) ∧ acc.length < sizeLine ∧ Nx (upd H4 D (.lst (acc ++ [y]))) else Nx H3) := by
  refine ⟨fun i m H => m = n - i ∧ i ≤ n ∧ Pv i H, ⟨n, by simp, Nat.zero_le _, h0⟩, ?_⟩
  rintro i m H ⟨rfl, hi, p⟩
  by_cases hlt : i < n
  · refine .inr ⟨hlt, Pv (i + 1), fun H' p' => ⟨n - (i + 1), by omega, rfl, hlt, p'⟩, fun x H' y => ?_⟩
    obtain ⟨e, y⟩ := y
    subst e y
    exact hs i _ hlt p
  · have e : i = n := by omega
    subst e
    exact .inl ⟨Nat.le_refl _, hd H p⟩
/-- over a list that the block leaves as it is -/
theorem lc_list {K : PySem.W.Frag} {a : Addr} {xs : List V} {g : TG} {tt : TT} {te : TE} {vs : List Nat} {σ : St} {H1 : Hp} {D : Addr} {Qd : Hp → Prop} (Pv : Nat → Hp → Prop) (h0 : Pv 0 (upd H1 D (.lst []))) (hl : ∀ i H, i ≤ xs.length → Pv i H → SqL K H a xs)
    (hs : ∀ i x H, xs[i]? = some x → Pv i H → g x (wipe σ vs) H fun σ2 H2 => wipe σ2 vs = wipe σ vs ∧ tt σ2 H2 fun b H3 =>
      if b = true then te σ2 H3 fun y H4 => ∃ acc, H4 D = some (.lst acc) ∧ acc.length < sizeLine ∧ Pv (i + 1) (upd H4 D (.lst (acc ++ [y]))) else Pv (i + 1) H3) (hd : ∀ H, Pv xs.length H → Qd H) :
    ∃ W : Nat → Nat → Hp → Prop, (∃ m, W 0 m (upd H1 D (.lst []))) ∧ ∀ i m H, W i m H →
      ((Itl K a).stop i H ∧ Qd H) ∨ ((Itl K a).go i H ∧ ∃ Nx : Hp → Prop, (∀ H', Nx H' → ∃ m', m' < m ∧ W (i + 1) m' H') ∧ ∀ x H', (Itl K a).yld i H x H' → g x (wipe σ vs) H' fun σ2 H2 => wipe σ2 vs = wipe σ vs ∧ tt σ2 H2 fun b H3 =>
        if b = true then te σ2 H3 fun y H4 => ∃ acc, H4 D = some (.lst acc) ∧ acc.length < sizeLine ∧ Nx (upd H4 D (.lst (acc ++ [y]))) else Nx H3) := by
  refine ⟨fun i m H => m = xs.length - i ∧ i ≤ xs.length ∧ Pv i H, ⟨xs.length, by simp, Nat.zero_le _, h0⟩, ?_⟩
  rintro i m H ⟨rfl, hi, p⟩
  have q := hl i H hi p
  by_cases hlt : i < xs.length
  · refine .inr ⟨⟨xs, xs[i], q, by simp [hlt]⟩, Pv (i + 1), fun H' p' => ⟨xs.length - (i + 1), by omega, rfl, hlt, p'⟩, fun x H' y => ?_⟩
    obtain ⟨e, y⟩ := y
    subst e
    exact hs i x _ (y xs q) p
  · have e : i = xs.length := by omega
    subst e
    exact .inl ⟨⟨xs, q, Nat.le_refl _⟩, hd H p⟩
def blkC (N : List Str) (sc scope : Scope) (own : List (Str × Nat)) : Bool :=
  (match scope.kind with | .function => true | _ => false) && (scope.names.all fun y => decide (scope.names.lookup y.1 = some y.2)) && (own.all fun p => decide (N[p.2]? = some p.1)) &&
    (scope.names.all fun y => match y.2 with
      | .free => (match sc.names.lookup y.1 with | some .cell => true | some .free => true | _ => false)
      | .local => decide (y.1 ∈ own.map (·.1)) || decide (y.1 ∉ N)
      | .cell => decide (y.1 ∈ own.map (·.1)) || decide (y.1 ∉ N)
      | _ => true)
theorem blkOk_by {N : List Str} {sc scope : Scope} {own : List (Str × Nat)} (h : blkC N sc scope own = true) : BlkOk N sc scope own := by
  unfold blkC at h
  simp only [Bool.and_eq_true, List.all_eq_true, decide_eq_true_eq] at h
  obtain ⟨⟨⟨h1, h2⟩, h3⟩, h4⟩ := h
  refine ⟨?_, h2, h3, fun y hy e => ?_, fun y hy e => ?_⟩
  · split at h1
    · assumption
    · cases h1
  · have q := h4 y hy
    simp only [e] at q
    split at q <;> first | exact .inl (by assumption) | exact .inr (by assumption) | cases q
  · have q := h4 y hy
    rcases e with e | e <;> (simp only [e, Bool.or_eq_true, decide_eq_true_eq] at q; exact q)
end L2
namespace L2
open PySem PySem.Spec PyProof.Rows
section
variable {prog : Program} {w : World} {A : Around} {R : Result → Shared → Prop} {s : Shared} {elt t0 i0 t1 i1 : Expr} {ifs0 ifs1 : List Expr} {scope : Scope} {pos : Pos} {it acc : Value} {env : Env}
end
section
variable {X : Cx}
end
end L2
namespace L2
open PySem PySem.Spec PyProof.Rows
/-! ### lists of pairs as tables -/
section
variable {κ : Type} [DecidableEq κ]
def valV (kvs : List (κ × V)) (k : κ) : Option V := (kvs.find? fun kv => decide (kv.1 = k)).map (·.2)
/-- in its place, or at the end -/
def putK (kvs : List (κ × V)) (k : κ) (v : V) : List (κ × V) :=
  if (kvs.any fun kv => decide (kv.1 = k)) = true then kvs.map (fun kv => if kv.1 = k then (kv.1, v) else kv) else kvs ++ [(k, v)]
theorem valV_pos {p : κ × V} {r : List (κ × V)} {k : κ} (e : p.1 = k) : valV (p :: r) k = some p.2 := by simp [valV, List.find?_cons, e]
theorem valV_neg {p : κ × V} {r : List (κ × V)} {k : κ} (e : ¬ p.1 = k) : valV (p :: r) k = valV r k := by simp [valV, List.find?_cons, e]
theorem valV_any (k : κ) : ∀ kvs : List (κ × V), (kvs.any fun kv => decide (kv.1 = k)) = (valV kvs k).isSome
  | [] => rfl
  | p :: r => by
    rw [List.any_cons]
    by_cases e : p.1 = k
    · simp only [valV_pos e, decide_eq_true e, Bool.true_or, Option.isSome_some]
    · rw [valV_neg e, decide_eq_false e, Bool.false_or]; exact valV_any k r
theorem valV_map (k j : κ) (y : V) : ∀ kvs : List (κ × V), valV (kvs.map fun kv => if kv.1 = k then (kv.1, y) else kv) j = (valV kvs j).map fun x => if j = k then y else x
  | [] => rfl
  | p :: r => by
    have ih := valV_map k j y r
    rw [List.map_cons]
    by_cases h : p.1 = k
    · rw [if_pos h]
      by_cases e : p.1 = j
      · rw [valV_pos (p := (p.1, y)) e, valV_pos e, Option.map_some, if_pos (e.symm.trans h)]
      · rw [valV_neg (p := (p.1, y)) e, valV_neg e, ih]
    · rw [if_neg h]
      by_cases e : p.1 = j
      · rw [valV_pos (p := p) e, valV_pos e, Option.map_some, if_neg (fun z => h (e.trans z))]
      · rw [valV_neg (p := p) e, valV_neg e, ih]
theorem valV_snoc (k j : κ) (y : V) : ∀ kvs : List (κ × V), valV kvs k = none → valV (kvs ++ [(k, y)]) j = if j = k then some y else valV kvs j
  | [], _ => by
    by_cases e : k = j
    · rw [if_pos e.symm]; exact valV_pos (p := (k, y)) e
    · rw [if_neg (fun z => e z.symm)]; exact valV_neg (p := (k, y)) e
  | p :: r, hn => by
    rw [List.cons_append]
    have hk : ¬ p.1 = k := fun z => by rw [valV_pos z] at hn; cases hn
    rw [valV_neg hk] at hn
    have ih := valV_snoc k j y r hn
    by_cases e : p.1 = j
    · rw [valV_pos e, valV_pos e, if_neg (fun z => hk (e.trans z))]
    · rw [valV_neg e, valV_neg e, ih]
theorem valV_put (kvs : List (κ × V)) (k j : κ) (y : V) : valV (putK kvs k y) j = if j = k then some y else valV kvs j := by
  unfold putK
  by_cases a : (kvs.any fun kv => decide (kv.1 = k)) = true
  · rw [if_pos a, valV_map]
    rw [valV_any] at a
    by_cases e : j = k
    · obtain ⟨x, hx⟩ := Option.isSome_iff_exists.mp a
      rw [if_pos e, e, hx, Option.map_some, if_pos rfl]
    · rw [if_neg e]
      cases valV kvs j with
      | none => rfl
      | some x => rw [Option.map_some, if_neg e]
  · rw [if_neg a]
    refine valV_snoc k j y kvs ?_
    rw [valV_any] at a
    cases q : valV kvs k with
    | none => rfl
    | some x => rw [q] at a; exact (a rfl).elim
theorem length_putK (kvs : List (κ × V)) (k : κ) (v : V) : (putK kvs k v).length ≤ kvs.length + 1 := by
  unfold putK
  split
  · rw [List.length_map]; omega
  · rw [List.length_append, List.length_cons, List.length_nil]; omega
theorem putK_new {kvs : List (κ × V)} {k : κ} (v : V) (h : valV kvs k = none) : putK kvs k v = kvs ++ [(k, v)] := by
  unfold putK
  rw [valV_any, h]
  exact if_neg (by decide)
theorem RelO.isSome_eq {o : Option V} {u : Option Value} (r : RelO o u) : o.isSome = u.isSome := by
  cases o with
  | none => cases u with
    | none => rfl
    | some _ => exact (show False from r).elim
  | some _ => cases u with
    | none => exact (show False from r).elim
    | some _ => rfl
theorem RelO.getD {o : Option V} {u : Option Value} {d : V} {d' : Value} (r : RelO o u) (rd : RelV d d') : RelV (o.getD d) (u.getD d') := by
  cases o with
  | none => cases u with
    | none => exact rd
    | some _ => exact (show False from r).elim
  | some _ => cases u with
    | none => exact (show False from r).elim
    | some _ => exact r
/-- raw tables of the same keys -/
theorem KV.val {kvs : List (κ × V)} {vs : List (κ × Value)} (r : KV kvs vs) (k : κ) : RelO (valV kvs k) (valueAt vs k) := by
  unfold KV at r
  induction r with
  | nil => exact True.intro
  | @cons p q ps qs h t ih =>
    obtain ⟨h1, h2⟩ := h
    by_cases e : p.1 = k
    · have e' : q.1 = k := h1.symm.trans e
      have b : valueAt (q :: qs) k = some q.2 := by simp [valueAt, List.find?_cons, e']
      rw [valV_pos e, b]; exact h2
    · have e' : ¬ q.1 = k := fun z => e (h1.trans z)
      have b : valueAt (q :: qs) k = valueAt qs k := by simp [valueAt, List.find?_cons, e']
      rw [valV_neg e, b]; exact ih
theorem KV.any {kvs : List (κ × V)} {vs : List (κ × Value)} (r : KV kvs vs) (k : κ) : (kvs.any fun kv => decide (kv.1 = k)) = vs.any fun kv => decide (kv.1 = k) := by
  unfold KV at r
  induction r with
  | nil => rfl
  | cons h t ih => rw [List.any_cons, List.any_cons, ih, h.1]
theorem KV.repl {kvs : List (κ × V)} {vs : List (κ × Value)} (r : KV kvs vs) (k : κ) {y : V} {u : Value} (ry : RelV y u) :
    KV (kvs.map fun kv => if kv.1 = k then (kv.1, y) else kv) (vs.map fun kv => if kv.1 = k then (kv.1, u) else kv) := by
  unfold KV at r ⊢
  induction r with
  | nil => exact .nil
  | @cons p q ps qs h t ih =>
    rw [List.map_cons, List.map_cons]
    refine .cons ?_ ih
    obtain ⟨h1, h2⟩ := h
    by_cases e : p.1 = k
    · rw [if_pos e, if_pos (h1.symm.trans e)]; exact ⟨h1, ry⟩
    · rw [if_neg e, if_neg (fun z => e (h1.trans z))]; exact ⟨h1, h2⟩
theorem KV.put {kvs : List (κ × V)} {vs : List (κ × Value)} (r : KV kvs vs) (k : κ) {y : V} {u : Value} (ry : RelV y u) : KV (putK kvs k y) (stored vs k u) := by
  unfold putK stored
  rw [r.any k]
  by_cases e : (vs.any fun kv => decide (kv.1 = k)) = true
  · rw [if_pos e, if_pos e]; exact r.repl k ry
  · rw [if_neg e, if_neg e]; exact Paired.snoc r ⟨rfl, ry⟩
theorem KV.length {kvs : List (κ × V)} {vs : List (κ × Value)} (r : KV kvs vs) : kvs.length = vs.length := Paired.length r
end
/-! ### a tracked dict, its keys ints and texts or tuples of these -/
theorem kV_is {P : Program} {w : World} {k : Key} {u : Value} (r : RelV (kV k) u) : (mixKind P w).is k u = true := by
  cases k with
  | inl i => obtain ⟨t, e⟩ := (show ∃ t, u = Value.int i t from r); subst e; exact mixKind_int P w i t
  | inr x => obtain ⟨t, e⟩ := (show ∃ t, u = Value.str x t from r); subst e; exact mixKind_str P w x t
theorem items_are {P : Program} {w : World} : ∀ {ks : List Key} {us : List Value}, Vals (ks.map kV) us → ItemsAre (mixKind P w) ks us
  | [], _, r => by rw [List.map_nil] at r; cases r; exact .nil
  | k :: ks, _, r => by
    rw [List.map_cons] at r
    cases r with
    | cons h t => exact .cons (kV_is h) (items_are t)
/-- raw entries of a dict with tuple keys -/
abbrev KT (H : Hp) : List (List Key × V) → List (List Key × Addr × Value) → Prop := Paired fun p q => p.1 = q.1 ∧ H q.2.1 = some (.tup (p.1.map kV)) ∧ RelV p.2 q.2.2
theorem KT.val {H : Hp} {kvs : List (List Key × V)} {xs : List (List Key × Addr × Value)} (r : KT H kvs xs) (k : List Key) : RelO (valV kvs k) ((atKey xs k).map (·.2)) := by
  induction r with
  | nil => exact True.intro
  | @cons p q ps qs h t ih =>
    obtain ⟨h1, _, h2⟩ := h
    by_cases e : p.1 = k
    · have e' : q.1 = k := h1.symm.trans e
      have b : atKey (q :: qs) k = some q.2 := by simp [atKey, List.find?_cons, e']
      rw [valV_pos e, b]; exact h2
    · have e' : ¬ q.1 = k := fun z => e (h1.trans z)
      have b : atKey (q :: qs) k = atKey qs k := by simp [atKey, List.find?_cons, e']
      rw [valV_neg e, b]; exact ih
theorem KT.repl {H : Hp} {kvs : List (List Key × V)} {xs : List (List Key × Addr × Value)} (r : KT H kvs xs) (k : List Key) {y : V} {u : Value} (ry : RelV y u) :
    KT H (kvs.map fun kv => if kv.1 = k then (kv.1, y) else kv) (xs.map (putAt k u)) := by
  induction r with
  | nil => exact .nil
  | @cons p q ps qs h t ih =>
    rw [List.map_cons, List.map_cons]
    refine .cons ?_ ih
    obtain ⟨h1, h2, h3⟩ := h
    unfold putAt
    by_cases e : p.1 = k
    · rw [if_pos e, if_pos (h1.symm.trans e)]; exact ⟨h1, h2, ry⟩
    · rw [if_neg e, if_neg (fun z => e (h1.trans z))]; exact ⟨h1, h2, h3⟩
theorem KT.put {H : Hp} {kvs : List (List Key × V)} {xs : List (List Key × Addr × Value)} (r : KT H kvs xs) (k : List Key) {b : Addr} {y : V} {u : Value} (hb : H b = some (.tup (k.map kV))) (ry : RelV y u) :
    KT H (putK kvs k y) (storedH xs k b u) := by
  have e : (kvs.any fun kv => decide (kv.1 = k)) = (atKey xs k).isSome := by
    rw [valV_any, (r.val k).isSome_eq, Option.isSome_map]
  unfold putK storedH
  rw [e]
  by_cases q : (atKey xs k).isSome = true
  · rw [if_pos q, if_pos q]; exact r.repl k ry
  · rw [if_neg q, if_neg q]; exact Paired.snoc r ⟨rfl, hb, ry⟩
theorem KT.keeps {H H' : Hp} {kvs : List (List Key × V)} {xs : List (List Key × Addr × Value)} (r : KT H kvs xs) (ht : ∀ b ys, H b = some (.tup ys) → H' b = some (.tup ys)) : KT H' kvs xs :=
  Paired.mapP r fun _ _ z => ⟨z.1, ht _ _ z.2.1, z.2.2⟩
section
variable {P : Program} {w : World} {H : Hp} {h : Heap} {a : Addr}
theorem rd_of {u : HO} (ok : HOk P w H h) (e : Rd H a u) : ObjOk P w H h a u := e.ok ok
theorem dk_rd {kvs : List (Key × V)} (ok : HOk P w H h) (e : Rd H a (.dK kvs)) : kvs.length ≤ sizeLine ∧ (a == sysModules) = false ∧ ∃ vs, KV kvs vs ∧ h.DictOf (mixKind P w) a vs :=
  show ObjOk P w H h a (.dK kvs) from rd_of ok e
theorem dk_of {kvs : List (Key × V)} (ok : HOk P w H h) (e : H a = some (.dK kvs)) : kvs.length ≤ sizeLine ∧ (a == sysModules) = false ∧ ∃ vs, KV kvs vs ∧ h.DictOf (mixKind P w) a vs := dk_rd ok (.inl e)
/-- a tracked tuple of ints and texts is a key -/
theorem key_of {ks : List Key} (ok : HOk P w H h) (e : H a = some (.tup (ks.map kV))) : (tupleKind (mixKind P w)).is h ks a := by
  obtain ⟨_, its, r, o, h1, h2, n, h3⟩ := (show ObjOk P w H h a (.tup (ks.map kV)) from ok a _ e)
  exact ⟨o, its.toArray, n, h1, h2, h3, by simpa using items_are r⟩
theorem dt_rd {kvs : List (List Key × V)} (ok : HOk P w H h) (e : Rd H a (.dT kvs)) : kvs.length ≤ sizeLine ∧ (a == sysModules) = false ∧
    ∃ xs, KT H kvs xs ∧ h.DictOfH (tupleKind (mixKind P w)) a xs := by
  obtain ⟨z, y, xs, r, o, es, ep, h1, h2, h3, h4, h5⟩ := (show ObjOk P w H h a (.dT kvs) from rd_of ok e)
  refine ⟨z, y, xs, r, o, es, ep, h1, h2, h3, h4, fun x hx => ?_, h5⟩
  have all : ∀ {l : List (List Key × V)} {m : List (List Key × Addr × Value)}, KT H l m → ∀ x ∈ m, (tupleKind (mixKind P w)).is h x.1 x.2.1 := by
    intro l m q
    induction q with
    | nil => intro x hx; exact nomatch hx
    | @cons p q ps qs hq t ih =>
      intro x hx
      rcases List.mem_cons.mp hx with e | hx
      · subst e
        exact key_of ok (by rw [← hq.1]; exact hq.2.1)
      · exact ih x hx
  exact all r x hx
theorem dt_of {kvs : List (List Key × V)} (ok : HOk P w H h) (e : H a = some (.dT kvs)) : kvs.length ≤ sizeLine ∧ (a == sysModules) = false ∧
    ∃ xs, KT H kvs xs ∧ h.DictOfH (tupleKind (mixKind P w)) a xs := dt_rd ok (.inl e)
end
/-- what the dict at a holds at the key y -/
def DGet (H : Hp) (a : Addr) (y : V) (r : Option V) : Prop :=
  (∃ kvs k, Rd H a (.dK kvs) ∧ y = kV k ∧ r = valV kvs k) ∨ ∃ kvs k b, Rd H a (.dT kvs) ∧ y = .ref b ∧ H b = some (.tup (k.map kV)) ∧ r = valV kvs k
/-- the heap behind a[y] = v -/
def DPut (H : Hp) (a : Addr) (y v : V) (H' : Hp) : Prop :=
  (∃ kvs k, H a = some (.dK kvs) ∧ y = kV k ∧ kvs.length < sizeLine ∧ H' = upd H a (.dK (putK kvs k v))) ∨
  ∃ kvs k b, H a = some (.dT kvs) ∧ y = .ref b ∧ H b = some (.tup (k.map kV)) ∧ kvs.length < sizeLine ∧ H' = upd H a (.dT (putK kvs k v))
theorem DGet.k {H : Hp} {a : Addr} {kvs : List (Key × V)} {k : Key} (e : H a = some (.dK kvs)) : DGet H a (kV k) (valV kvs k) := .inl ⟨kvs, k, .inl e, rfl, rfl⟩
theorem DGet.t {H : Hp} {a b : Addr} {kvs : List (List Key × V)} {k : List Key} (e : H a = some (.dT kvs)) (eb : H b = some (.tup (k.map kV))) : DGet H a (.ref b) (valV kvs k) := .inr ⟨kvs, k, b, .inl e, rfl, eb, rfl⟩
theorem DPut.k {H : Hp} {a : Addr} {kvs : List (Key × V)} {k : Key} {v : V} (e : H a = some (.dK kvs)) (hl : kvs.length < sizeLine) : DPut H a (kV k) v (upd H a (.dK (putK kvs k v))) := .inl ⟨kvs, k, e, rfl, hl, rfl⟩
theorem DPut.t {H : Hp} {a b : Addr} {kvs : List (List Key × V)} {k : List Key} {v : V} (e : H a = some (.dT kvs)) (eb : H b = some (.tup (k.map kV))) (hl : kvs.length < sizeLine) :
    DPut H a (.ref b) v (upd H a (.dT (putK kvs k v))) := .inr ⟨kvs, k, b, e, rfl, eb, hl, rfl⟩
section
variable {X : Cx} {pins : List (Addr × Obj)} {σ : St} {H : Hp} {s : Shared} {a : Addr} {y v : V} {u r : Value} {o : Option V} {A : Around} {E : Value → Shared → Prop}
theorem Inv.big (I : Inv X pins σ H s) : sysModules < s.heap.objs.size := by
  have h : mainGlobals < s.heap.objs.size := (I.mod.glob.keeps I.bk).lt
  exact Nat.lt_trans (by decide) h
/-- d[y], there -/
theorem d_getItem {Q : Value → Shared → Prop} (hu : A.units + 1 < cLine) (I : Inv X pins σ H s) (g : DGet H a y (some v)) (ry : RelV y u) (h : ∀ w' s', Inv X pins σ H s' → RelV v w' → Q w' s') :
    wpAny (model X.prog X.w) A (getItem (.ref a) u) Q E s := by
  rcases g with ⟨kvs, k, e, ey, l⟩ | ⟨kvs, k, b, e, ey, eb, l⟩
  · subst ey
    obtain ⟨z, hd, vs, rel, dd⟩ := dk_rd I.hok e
    obtain ⟨w', hw, rw'⟩ := RelO.some_of (v := v) (o := valueAt vs k) (by rw [l]; exact rel.val k)
    exact wpAny_getItem_of (kV_is ry) dd.mapOf hw (h w' _ (I.tok _) rw')
  · subst ey
    cases (show u = Value.ref b from ry)
    obtain ⟨z, hd, xs, rel, dd⟩ := dt_rd I.hok e
    obtain ⟨w', hw, rw'⟩ := RelO.some_of (v := v) (o := (atKey xs k).map (·.2)) (by rw [l]; exact rel.val k)
    obtain ⟨p, hp, hp2⟩ := Option.map_eq_some_iff.mp hw
    refine wpAny_getItem_heap (tupleKind_room_in1 hu) (key_of I.hok eb) dd hp ?_
    rw [hp2]
    exact h w' _ (I.tok _) rw'
/-- y in d -/
theorem d_in {Q : Value → Shared → Prop} (hu : A.units + 1 < cLine) (I : Inv X pins σ H s) (g : DGet H a y o) (ry : RelV y u) (h : ∀ s', Inv X pins σ H s' → Q (.bool o.isSome) s') :
    wpAny (model X.prog X.w) A (compareOp .In u (.ref a)) Q E s := by
  rcases g with ⟨kvs, k, e, ey, l⟩ | ⟨kvs, k, b, e, ey, eb, l⟩
  · subst ey
    obtain ⟨z, hd, vs, rel, dd⟩ := dk_rd I.hok e
    refine wpAny_in_of (kV_is ry) hd dd.mapOf ?_
    rw [← (rel.val k).isSome_eq, ← l]
    exact h _ (I.tok _)
  · subst ey
    cases (show u = Value.ref b from ry)
    obtain ⟨z, hd, xs, rel, dd⟩ := dt_rd I.hok e
    refine wpAny_in_heap (tupleKind_room_in1 hu) (key_of I.hok eb) hd dd ?_
    have q := (rel.val k).isSome_eq
    rw [Option.isSome_map] at q
    rw [← q, ← l]
    exact h _ (I.tok _)
theorem d_notIn {Q : Value → Shared → Prop} (hu : A.units + 1 < cLine) (I : Inv X pins σ H s) (g : DGet H a y o) (ry : RelV y u) (h : ∀ s', Inv X pins σ H s' → Q (.bool (!o.isSome)) s') :
    wpAny (model X.prog X.w) A (compareOp .NotIn u (.ref a)) Q E s := by
  rcases g with ⟨kvs, k, e, ey, l⟩ | ⟨kvs, k, b, e, ey, eb, l⟩
  · subst ey
    obtain ⟨z, hd, vs, rel, dd⟩ := dk_rd I.hok e
    refine wpAny_notIn_of (kV_is ry) hd dd.mapOf ?_
    rw [← (rel.val k).isSome_eq, ← l]
    exact h _ (I.tok _)
  · subst ey
    cases (show u = Value.ref b from ry)
    obtain ⟨z, hd, xs, rel, dd⟩ := dt_rd I.hok e
    refine wpAny_notIn_heap (tupleKind_room_in1 hu) (key_of I.hok eb) hd dd ?_
    have q := (rel.val k).isSome_eq
    rw [Option.isSome_map] at q
    rw [← q, ← l]
    exact h _ (I.tok _)
/-- a dict's object is replaced -/
theorem d_write {h' : Heap} {t' : Nat} {ob : HO} (I : Inv X pins σ H s) (mu : Mut (H a)) (hs : Heap.SameBut a s.heap h') (he : ∃ q, h'.get? a = some q) (new : ObjOk X.prog X.w (upd H a ob) h' a ob) :
    Inv X pins σ (upd H a ob) { s with heap := h', toks := t' } :=
  I.write (x := a) (e := a) mu (.inl rfl) (fun b q hb z => (hs.2 b hb).trans z) he new
theorem dk_new {P : Program} {w : World} {H' : Hp} {h' : Heap} {kvs : List (Key × V)} {vs : List (Key × Value)} (z : kvs.length ≤ sizeLine) (hd : (a == sysModules) = false) (rel : KV kvs vs) (dd : h'.DictOf (mixKind P w) a vs) :
    ObjOk P w H' h' a (.dK kvs) := ⟨z, hd, vs, rel, dd⟩
/-- d[y] = v -/
theorem d_setItem {H' : Hp} {Q : Unit → Shared → Prop} (hu : A.units + 1 < cLine) (I : Inv X pins σ H s) (g : DPut H a y v H') (ry : RelV y u) (rv : RelV v r) (h : ∀ s', Inv X pins σ H' s' → Q () s') :
    wpAny (model X.prog X.w) A (setItem (.ref a) u r) Q E s := by
  rcases g with ⟨kvs, k, e, ey, l, eH⟩ | ⟨kvs, k, b, e, ey, eb, l, eH⟩
  · subst ey eH
    obtain ⟨z, hd, vs, rel, dd⟩ := dk_of I.hok e
    have hz : vs.length ≤ sizeLine := by rw [← rel.length]; exact z
    have hl : (putK kvs k v).length ≤ sizeLine := by have := length_putK kvs k v; omega
    refine wpAny_setItem_pairs (hsz := hz) (kV_is ry) dd fun h' dd' hs => h _ ?_
    have he : ∃ q, h'.get? a = some q := let ⟨q, _, _, hq, _⟩ := dd'; ⟨q, hq⟩
    exact d_write I (by rw [e]; exact True.intro) hs he (dk_new hl hd (rel.put k rv) dd')
  · subst ey eH
    cases (show u = Value.ref b from ry)
    obtain ⟨z, hd, xs, rel, dd⟩ := dt_of I.hok e
    have hz : xs.length ≤ sizeLine := by rw [← Paired.length rel]; exact z
    have hl : (putK kvs k v).length ≤ sizeLine := by have := length_putK kvs k v; omega
    refine wpAny_setItem_heap (hsz := hz) (tupleKind_room_in1 hu) (key_of I.hok eb) dd fun h' dd' hs => h _ ?_
    obtain ⟨q, es, ep, hq, h2, h3, h4, _, h5⟩ := dd'
    refine d_write I (by rw [e]; exact True.intro) hs ⟨q, hq⟩ ⟨hl, hd, _, (rel.put k eb rv).keeps fun c ys ec => ?_, q, es, ep, hq, h2, h3, h4, h5⟩
    rw [upd_ne (ne_of ec e (fun z => nomatch z))]
    exact ec
end
section
variable {X : Cx} {pins : List (Addr × Obj)} {σ : St} {H : Hp} {s : Shared} {a : Addr} {kvs : List (Key × V)} {k : Key} {u : Value} {A : Around} {E : Value → Shared → Prop}
end
/-! ### readings and rules -/
/-- the element of a subscription, not a slice -/
def NoSl (i : Expr) : Prop := ∀ ov iv, subscripted i false ov iv = operate [ov, iv] (getItem ov iv)
theorem subD_of {prog : Program} {w : World} {A : Around} {E : Value → Shared → Prop} {s : Shared} {env : Env} {value slice : Expr} {pos : Pos} {T id : String} {Q : Value → Shared → Prop}
    (hl : typeLookup (.type T) "__getitem__" = pure (some (.builtin id))) (hs : NoSl slice)
    (h : wpAny (model prog w) A (eval value env) (fun o s₁ => wpAny (model prog w) A (eval slice env) (fun i s₂ => s₂.TypeIs o T ∧ wpAny (model prog w) A (getItem o i) Q E s₂) E s₁) E s) :
    wpAny (model prog w) A (eval (.Subscript value slice pos) env) Q E s := by
  refine Subscript_ (wpAny_mono h (fun o s₁ h₁ => wpAny_mono h₁ (fun i s₂ h₂ => ?_) fun _ _ x => x) fun _ _ x => x)
  obtain ⟨hT, h₂⟩ := h₂
  unfold subscriptTail
  refine wpAny_bind ?_
  rw [getitemInPython_of_ne hT.not_modules]
  refine wpAny_bind (wpAny_specialOf hT hl ?_)
  have fin : wpAny (model prog w) A (subscripted slice false o i) (fun r s₃ => wpAny (model prog w) A (letTemporaryGo value o r >>= fun _ => pure r) Q E s₃) E s₂ := by
    rw [hs o i]
    exact wpAny_operating (wpAny_mono h₂ (fun r s₃ h₃ => wpAny_bind (wpAny_letTemporaryGo (wpAny_pure h₃))) fun _ _ x => x)
  first
    | exact wpAny_pure (wpAny_bind fin)
    | exact wpAny_bind (wpAny_pure (wpAny_bind fin))
    | exact wpAny_bind fin
theorem dict_typeIs {X : Cx} {pins : List (Addr × Obj)} {σ : St} {H : Hp} {s : Shared} {a : Addr} {y : V} {o : Option V} (I : Inv X pins σ H s) (g : DGet H a y o) : s.TypeIs (.ref a) "dict" := by
  rcases g with ⟨kvs, k, e, _, _⟩ | ⟨kvs, k, b, e, _, _, _⟩
  · obtain ⟨_, _, vs, _, dd⟩ := dk_rd I.hok e
    exact dd.typeIs
  · obtain ⟨_, _, xs, _, dd⟩ := dt_rd I.hok e
    exact dd.typeIs
/-- d[y] -/
def tDGet (td ty : TE) : TE := fun σ H Q => td σ H fun x H1 => ty σ H1 fun y H2 => ∃ a v, x = .ref a ∧ DGet H2 a y (some v) ∧ Q v H2
/-- y in d, y not in d -/
def tDIn (ty td : TE) : TE := fun σ H Q => ty σ H fun y H1 => td σ H1 fun x H2 => ∃ a o, x = .ref a ∧ DGet H2 a y o ∧ Q (.bl o.isSome) H2
def tDNotIn (ty td : TE) : TE := fun σ H Q => ty σ H fun y H1 => td σ H1 fun x H2 => ∃ a o, x = .ref a ∧ DGet H2 a y o ∧ Q (.bl (!o.isSome)) H2
/-- d[y] = v -/
def sDPut (td ty tv : TE) : TS := fun D σ H => tv σ H fun v H1 => td σ H1 fun x H2 => ty σ H2 fun y H3 => ∃ a H4, x = .ref a ∧ DPut H3 a y v H4 ∧ D.nx σ H4
section
variable {X : Cx} {o i e value : Expr} {pos pos' tpos : Pos} {td ty tv : TE}
theorem pe_dget (hu : X.A.units + 1 < cLine) (ho : PE X o td) (hi : PE X i ty) (hs : NoSl i) : PE X (.Subscript o i pos) (tDGet td ty) := by
  intro pins s σ H Q I h
  refine subD_of PySem.F.slot_dict_getitem.lookup hs (thn (ho pins s σ H _ I h) fun u s1 ⟨x, H1, I1, rx, q1⟩ => thn (hi pins s1 σ H1 _ I1 q1) fun iv s2 ⟨y, H2, I2, ry, a, v, ex, g, q2⟩ => ?_)
  subst ex
  obtain rfl : u = Value.ref a := rx
  exact ⟨dict_typeIs I2 g, d_getItem hu I2 g ry fun w' s3 I3 rw' => ⟨v, H2, I3, rw', q2⟩⟩
theorem pc_din (hu : X.A.units + 1 < cLine) (hi : PE X i ty) (ho : PE X o td) : PC X .In i o (tDIn ty td) := by
  intro pins s σ H Q I h
  refine thn (hi pins s σ H _ I h) fun iv s1 ⟨y, H1, I1, ry, q1⟩ => thn (ho pins s1 σ H1 _ I1 q1) fun u s2 ⟨x, H2, I2, rx, a, ov, ex, g, q2⟩ => ?_
  subst ex
  obtain rfl : u = Value.ref a := rx
  exact d_in hu I2 g ry fun s3 I3 => ⟨.bl ov.isSome, H2, I3, rfl, q2⟩
theorem pc_dnotin (hu : X.A.units + 1 < cLine) (hi : PE X i ty) (ho : PE X o td) : PC X .NotIn i o (tDNotIn ty td) := by
  intro pins s σ H Q I h
  refine thn (hi pins s σ H _ I h) fun iv s1 ⟨y, H1, I1, ry, q1⟩ => thn (ho pins s1 σ H1 _ I1 q1) fun u s2 ⟨x, H2, I2, rx, a, ov, ex, g, q2⟩ => ?_
  subst ex
  obtain rfl : u = Value.ref a := rx
  exact d_notIn hu I2 g ry fun s3 I3 => ⟨.bl (!ov.isSome), H2, I3, rfl, q2⟩
theorem ps_dput (hu : X.A.units + 1 < cLine) (ho : PE X o td) (hi : PE X i ty) (hv : PE X value tv) (hs : swapsWith value (some (.Subscript o i pos')) pos.line X.env = pure false) :
    PS X (.Assign [.Subscript o i pos'] value pos) (sDPut td ty tv) := by
  intro pins s σ H D I h
  refine wpAny_Assign_Subscript (thn (hv pins s σ H _ I h) fun r s1 ⟨v, H1, I1, rv, q1⟩ => thn (ho pins s1 σ H1 _ I1 q1) fun u s2 ⟨x, H2, I2, rx, q2⟩ => thn (hi pins s2 σ H2 _ I2 q2) fun iv s3 ⟨y, H3, I3, ry, a, H4, ex, g, q3⟩ => ?_) hs
  subst ex
  obtain rfl : u = Value.ref a := rx
  exact d_setItem hu I3 g ry rv fun s4 I4 => ⟨σ, H4, I4, q3⟩
end
/-! ### displays -/
theorem dk_empty {P : Program} {w : World} {H : Hp} (h : Heap) (hb : sysModules < h.objs.size) : ObjOk P w H (h.push { cls := .type "dict", data := .dict #[] }) h.objs.size (.dK []) :=
  ⟨Nat.zero_le _, beq_eq_false_iff_ne.mpr (Ne.symm (Nat.ne_of_lt hb)), [], .nil, Heap.DictOf.new h⟩
theorem dt_empty {P : Program} {w : World} {H : Hp} (h : Heap) (hb : sysModules < h.objs.size) : ObjOk P w H (h.push { cls := .type "dict", data := .dict #[] }) h.objs.size (.dT []) :=
  ⟨Nat.zero_le _, beq_eq_false_iff_ne.mpr (Ne.symm (Nat.ne_of_lt hb)), [], .nil, _, #[], 0, Heap.get?_push_size _ rfl, ⟨rfl, rfl, rfl⟩, rfl, rfl, List.nodup_nil⟩
/-- {}, to be a dict of the kind that is wanted -/
def tDNewK : TE := fun _ H Q => ∀ p, H p = none → Q (.ref p) (upd H p (.dK []))
def tDNewT : TE := fun _ H Q => ∀ p, H p = none → Q (.ref p) (upd H p (.dT []))
section
variable {X : Cx} {pos : Pos}
theorem pe_dnewK : PE X (.Dict [] [] pos) tDNewK := fun pins s σ H Q I h =>
  wpAny_Dict_empty ⟨.ref s.heap.objs.size, _, I.laid (a := s.heap.objs.size) (o := .dK []) (t' := s.toks) (fun _ _ q => Heap.get?_push_of_some _ q) (Nat.le_refl _) (dk_empty s.heap I.big), rfl, h _ (I.hok.fresh (Nat.le_refl _))⟩
theorem pe_dnewT : PE X (.Dict [] [] pos) tDNewT := fun pins s σ H Q I h =>
  wpAny_Dict_empty ⟨.ref s.heap.objs.size, _, I.laid (a := s.heap.objs.size) (o := .dT []) (t' := s.toks) (fun _ _ q => Heap.get?_push_of_some _ q) (Nat.le_refl _) (dt_empty s.heap I.big), rfl, h _ (I.hok.fresh (Nat.le_refl _))⟩
end
/-! ### methods -/
/-- a method call o.m(e) of a built-in, with one argument: what must be seen of the text -/
structure M1 (X : Cx) (o : Expr) (m : Str) (apos : Pos) (e : Expr) (cpos : Pos) : Prop where
  base : attributeBase o m X.env (eval o X.env) = eval o X.env
  few : ((backTo cpos (starEach [e] X.env)).all (fun x => !x.1) && (backToKw cpos (keywordEach [] X.env)).all (fun x => x.1.isSome)
    && decide (([e] : List Expr).length + ([] : List Keyword).length + (if ([] : List Keyword).isEmpty then 0 else 1) < 30)) = true
  line : (apos.endLine == cpos.line) = true
  trees : backTo cpos (starEach [e] X.env) = [(false, eval e X.env)]
structure M2 (X : Cx) (o : Expr) (m : Str) (apos : Pos) (e f : Expr) (cpos : Pos) : Prop where
  base : attributeBase o m X.env (eval o X.env) = eval o X.env
  few : ((backTo cpos (starEach [e, f] X.env)).all (fun x => !x.1) && (backToKw cpos (keywordEach [] X.env)).all (fun x => x.1.isSome)
    && decide (([e, f] : List Expr).length + ([] : List Keyword).length + (if ([] : List Keyword).isEmpty then 0 else 1) < 30)) = true
  line : (apos.endLine == cpos.line) = true
  trees : backTo cpos (starEach [e, f] X.env) = [(false, eval e X.env), (false, eval f X.env)]
/-- a is a dict, whatever its keys -/
def IsD (H : Hp) (a : Addr) : Prop := (∃ kvs, Rd H a (.dK kvs)) ∨ ∃ kvs, Rd H a (.dT kvs)
theorem isD_at {X : Cx} {pins : List (Addr × Obj)} {σ : St} {H : Hp} {s : Shared} {a : Addr} (I : Inv X pins σ H s) (d : IsD H a) :
    s.TypeIs (.ref a) "dict" ∧ (∀ b, Value.ref a = .ref b → ∃ ob, s.heap.get? b = some ob ∧ ob.dict = none) ∧ (a == sysModules) = false := by
  rcases d with ⟨kvs, e⟩ | ⟨kvs, e⟩
  · obtain ⟨_, hd, vs, _, dd⟩ := dk_rd I.hok e
    refine ⟨dd.typeIs, fun b q => ?_, hd⟩
    cases q
    obtain ⟨ob, _, _, h1, h2, _⟩ := dd
    exact ⟨ob, h1, h2.2.1⟩
  · obtain ⟨_, hd, xs, _, dd⟩ := dt_rd I.hok e
    refine ⟨dd.typeIs, fun b q => ?_, hd⟩
    cases q
    obtain ⟨ob, _, _, h1, h2, _⟩ := dd
    exact ⟨ob, h1, h2.2.1⟩
section
variable {X : Cx} {pins : List (Addr × Obj)} {σ : St} {H : Hp} {s : Shared} {a : Addr} {y d : V} {u r : Value} {o : Option V} {A : Around} {E : Value → Shared → Prop}
/-- d.get(y) -/
theorem d_get1 {Q : Value → Shared → Prop} (hu : A.units + 1 < cLine) (I : Inv X pins σ H s) (g : DGet H a y o) (ry : RelV y u) (h : ∀ w' s', Inv X pins σ H s' → RelV (o.getD .non) w' → Q w' s') :
    wpAny (model X.prog X.w) A (call (.builtin "dict.get") [.ref a, u]) Q E s := by
  rcases g with ⟨kvs, k, e, ey, l⟩ | ⟨kvs, k, b, e, ey, eb, l⟩
  · subst ey
    obtain ⟨z, hd, vs, rel, dd⟩ := dk_rd I.hok e
    refine call_meetsIn PySem.F.slot_dict_get dd.typeIs PySem.F.entry_dict_get (PySem.F.args_dict_get_2 _ _) (meets_dict_get (mixKind X.prog X.w) a (kV_is ry) hd) ⟨_, dd.mapOf, h _ _ (I.tok _) ?_⟩
    rw [l]
    exact (rel.val k).getD rfl
  · subst ey
    cases (show u = Value.ref b from ry)
    obtain ⟨z, hd, xs, rel, dd⟩ := dt_rd I.hok e
    refine call_meetsIn PySem.F.slot_dict_get dd.typeIs PySem.F.entry_dict_get (PySem.F.args_dict_get_2 _ _) (meetsH_dict_get (tupleKind (mixKind X.prog X.w)) a b hd) ⟨tupleKind_room_in1 hu, k, xs, key_of I.hok eb, dd, h _ _ (I.tok _) ?_⟩
    rw [l]
    exact (rel.val k).getD rfl
/-- d.get(y, x) -/
theorem d_get2 {Q : Value → Shared → Prop} (hu : A.units + 1 < cLine) (I : Inv X pins σ H s) (g : DGet H a y o) (ry : RelV y u) (rd : RelV d r) (h : ∀ w' s', Inv X pins σ H s' → RelV (o.getD d) w' → Q w' s') :
    wpAny (model X.prog X.w) A (call (.builtin "dict.get") [.ref a, u, r]) Q E s := by
  rcases g with ⟨kvs, k, e, ey, l⟩ | ⟨kvs, k, b, e, ey, eb, l⟩
  · subst ey
    obtain ⟨z, hd, vs, rel, dd⟩ := dk_rd I.hok e
    refine call_meetsIn PySem.F.slot_dict_get dd.typeIs PySem.F.entry_dict_get (PySem.F.args_dict_get_3 _ _ _) (meets_dict_get_default (mixKind X.prog X.w) a (kV_is ry) hd r) ⟨_, dd.mapOf, h _ _ (I.tok _) ?_⟩
    rw [l]
    exact (rel.val k).getD rd
  · subst ey
    cases (show u = Value.ref b from ry)
    obtain ⟨z, hd, xs, rel, dd⟩ := dt_rd I.hok e
    refine call_meetsIn PySem.F.slot_dict_get dd.typeIs PySem.F.entry_dict_get (PySem.F.args_dict_get_3 _ _ _) (meetsH_dict_get_default (tupleKind (mixKind X.prog X.w)) a b hd r) ⟨tupleKind_room_in1 hu, k, xs, key_of I.hok eb, dd, h _ _ (I.tok _) ?_⟩
    rw [l]
    exact (rel.val k).getD rd
end
def tDGet1 (td ty : TE) : TE := fun σ H Q => td σ H fun x H1 => ∃ a, x = .ref a ∧ IsD H1 a ∧ ty σ H1 fun y H2 => ∃ o, DGet H2 a y o ∧ Q (o.getD .non) H2
def tDGet2 (td ty tx : TE) : TE := fun σ H Q => td σ H fun x H1 => ∃ a, x = .ref a ∧ IsD H1 a ∧ ty σ H1 fun y H2 => tx σ H2 fun z H3 => ∃ o, DGet H3 a y o ∧ Q (o.getD z) H3
section
variable {X : Cx} {o e f : Expr} {apos cpos : Pos} {td ty tx : TE}
theorem pe_dget1 (hu : X.A.units + 1 < cLine) (ho : PE X o td) (he : PE X e ty) (m : M1 X o "get" apos e cpos) : PE X (.Call (.Attribute o "get" apos) [e] [] cpos) (tDGet1 td ty) := by
  intro pins s σ H Q I h
  refine wpAny_Call_method m.base m.few m.line PySem.F.plainAttrs_dict PySem.F.slot_dict_get PySem.F.type_dict_get (thn (ho pins s σ H _ I h) fun u s1 ⟨x, H1, I1, rx, a, ex, d, q1⟩ => ?_)
  subst ex
  obtain rfl : u = Value.ref a := rx
  obtain ⟨t1, t2, _⟩ := isD_at I1 d
  refine ⟨t1, t2, ?_⟩
  rw [m.trees]
  refine Calls.callWith_builtin rfl (Calls.evalArgs_plain (Calls.spliced_cons (thn (he pins s1 σ H1 _ I1 q1) fun iv s2 ⟨y, H2, I2, ry, ov, g, q2⟩ => Calls.spliced_nil ?_)))
  exact d_get1 hu I2 g ry fun w' s3 I3 rw' => ⟨_, H2, I3, rw', q2⟩
theorem pe_dget2 (hu : X.A.units + 1 < cLine) (ho : PE X o td) (he : PE X e ty) (hf : PE X f tx) (m : M2 X o "get" apos e f cpos) : PE X (.Call (.Attribute o "get" apos) [e, f] [] cpos) (tDGet2 td ty tx) := by
  intro pins s σ H Q I h
  refine wpAny_Call_method m.base m.few m.line PySem.F.plainAttrs_dict PySem.F.slot_dict_get PySem.F.type_dict_get (thn (ho pins s σ H _ I h) fun u s1 ⟨x, H1, I1, rx, a, ex, d, q1⟩ => ?_)
  subst ex
  obtain rfl : u = Value.ref a := rx
  obtain ⟨t1, t2, _⟩ := isD_at I1 d
  refine ⟨t1, t2, ?_⟩
  rw [m.trees]
  refine Calls.callWith_builtin rfl (Calls.evalArgs_plain (Calls.spliced_cons (thn (he pins s1 σ H1 _ I1 q1) fun iv s2 ⟨y, H2, I2, ry, q2⟩ =>
    Calls.spliced_cons (thn (hf pins s2 σ H2 _ I2 q2) fun fv s3 ⟨z, H3, I3, rz, ov, g, q3⟩ => Calls.spliced_nil ?_))))
  exact d_get2 hu I3 g ry rz fun w' s4 I4 rw' => ⟨_, H3, I4, rw', q3⟩
end
/-! ### dict(d): a copy -/
section
variable {X : Cx} {pins : List (Addr × Obj)} {σ : St} {H : Hp} {s : Shared} {a : Addr} {kvs : List (Key × V)} {A : Around} {E : Value → Shared → Prop}
end
section
variable {X : Cx} {pins : List (Addr × Obj)} {σ : St} {H : Hp} {s : Shared} {a : Addr} {y : V} {u : Value} {A : Around} {E : Value → Shared → Prop}
end
end L2
namespace L2
open PySem PySem.Spec PyProof.Rows
section
variable {prog : Program} {w : World} {A : Around} {E : Value → Shared → Prop}
end
section
variable {X : Cx}
end
end L2
namespace L2
open PySem PySem.Spec PyProof.Rows
theorem boot_reversed5 : bootBuiltins "reversed" = some (.type "reversed") := by decide +kernel
section
variable {X : Cx} {pins : List (Addr × Obj)} {σ : St} {H : Hp} {s : Shared} {h' : Heap}
/-- several records of ours have turned -/
theorem Inv.turnedL {t' : Nat} {ch : List Addr} (I : Inv X pins σ H s) (k : ∀ b o, b ∉ ch → s.heap.get? b = some o → h'.get? b = some o) (hf : ∀ b ∈ ch, FpOk X pins H b) : Inv X pins σ H { s with heap := h', toks := t' } := by
  have nit : ∀ b u, H b = some u → b ∉ ch := fun b u e z => by
    have q := (hf b z).1
    rw [q] at e; cases e
  refine I.step (g' := s.gens) (d' := s.drawn) (ch := ch) (fun b hb => ⟨(hf b hb).2.2.2.1, (hf b hb).2.1, (hf b hb).2.2.2.2.1, (hf b hb).2.2.2.2.2⟩) (fun b o _ _ hc e _ => k b o hc e) (fun b o _ _ hc e _ => ⟨o.slots, k b o hc e⟩)
    (fun _ _ _ _ n => n) (fun b o hc e => ⟨o, k b o hc e⟩) (fun _ _ e => e) (fun _ _ _ e => e) (fun b ps e => ⟨#[], by rw [e]; simp⟩) (fun m hm => ?_) (fun b u e => ?_) I.bare
  · obtain ⟨o, es, ep, ho, r⟩ := hm
    exact ⟨o, es, ep, k _ o (fun z => (hf _ z).2.1 rfl) ho, r⟩
  · refine (I.hok b u e).stay (fun c v hc q => k c v ?_ q) (fun _ q => q) fun _ _ q => q
    rcases hc with z | z
    · rw [z]; exact nit b u e
    · exact nit c _ z
/-- .. and one new object is laid -/
theorem Inv.turnedNew {t' : Nat} {ch : List Addr} {T : Addr} {ob : HO} (I : Inv X pins σ H s) (k : ∀ b o, b ∉ ch → s.heap.get? b = some o → h'.get? b = some o) (hf : ∀ b ∈ ch, FpOk X pins H b) (hT : s.heap.objs.size ≤ T)
    (new : ObjOk X.prog X.w (upd H T ob) h' T ob) : Inv X pins σ (upd H T ob) { s with heap := h', toks := t' } := by
  have hn : H T = none := I.hok.fresh hT
  have nit : ∀ b u, H b = some u → b ∉ ch := fun b u e z => by
    have q := (hf b z).1
    rw [q] at e; cases e
  refine I.step (g' := s.gens) (d' := s.drawn) (ch := ch) (fun b hb => ⟨(hf b hb).2.2.2.1, (hf b hb).2.1, (hf b hb).2.2.2.2.1, (hf b hb).2.2.2.2.2⟩) (fun b o _ _ hc e _ => k b o hc e) (fun b o _ _ hc e _ => ⟨o.slots, k b o hc e⟩)
    (fun b o _ e n => ?_) (fun b o hc e => ⟨o, k b o hc e⟩) (fun b xs e => ?_) (fun b o u e => ?_) (fun b ps e => ⟨#[], ?_⟩) (fun m hm => ?_) (fun b u e => ?_) I.bare
  · rw [upd_ne (Nat.ne_of_lt (Nat.lt_of_lt_of_le (Heap.lt_size e) hT))]; exact n
  · rw [upd_ne (ne_of_none e hn)]; exact e
  · rw [upd_ne (ne_of_none e hn)]; exact e
  · rw [upd_ne (ne_of_none e hn), e]; simp
  · obtain ⟨o, es, ep, ho, r⟩ := hm
    exact ⟨o, es, ep, k _ o (fun z => (hf _ z).2.1 rfl) ho, r⟩
  · by_cases hb : b = T
    · subst hb
      rw [upd_same] at e
      cases e
      exact new
    · rw [upd_ne hb] at e
      refine (I.hok b u e).stay (fun c v hc q => k c v ?_ q) (fun c q => by rw [upd_ne (ne_of_none q hn)]; exact q) fun c xs q => by rw [upd_ne (ne_of_none q hn)]; exact q
      rcases hc with z | z
      · rw [z]; exact nit b u e
      · exact nit c _ z
/-! ### locking a thing while a statement runs -/
theorem Inv.lock {d : Addr} {u : HO} (I : Inv X pins σ H s) (h : H d = some u) (mu : Mut (some u)) : ∃ od, Inv X pins σ (upd H d (.frz od u)) s := by
  have x := I.hok d u h
  have ex : ∃ od, s.heap.get? d = some od := by
    cases u with
    | lst xs => obtain ⟨_, _, _, _, e⟩ := x; exact ⟨_, e⟩
    | dK kvs => obtain ⟨_, _, _, _, o, _, _, e, _⟩ := x; exact ⟨o, e⟩
    | dT kvs => obtain ⟨_, _, _, _, o, _, _, e, _⟩ := x; exact ⟨o, e⟩
    | set S n => obtain ⟨o, _, _, _, e, _⟩ := x; exact ⟨o, e⟩
    | ins C dx fs => obtain ⟨_, _, _, e, _⟩ := x; exact ⟨_, e⟩
    | ext φ => obtain ⟨_, ⟨_, e⟩, _⟩ := x; exact ⟨_, e⟩
    | _ => exact False.elim mu
  obtain ⟨od, e⟩ := ex
  have new : ObjOk X.prog X.w (upd H d (.frz od u)) s.heap d (.frz od u) := by
    refine ⟨e, x.stay (fun b v _ q => q) (fun b q => ?_) fun b xs q => ?_⟩
    · rw [upd_ne (fun z => by rw [z, h] at q; cases q; exact mu)]; exact q
    · rw [upd_ne (fun z => by rw [z, h] at q; cases q; exact mu)]; exact q
  exact ⟨od, I.write (x := d) (e := d) (t' := s.toks) (h' := s.heap) (by rw [h]; exact mu) (.inl rfl) (fun b v _ q => q) ⟨od, e⟩ new⟩
theorem Inv.nofrz {d : Addr} {u : HO} (I : Inv X pins σ H s) (h : H d = some u) (mu : Mut (some u)) : ∀ o' u', X.H_0 d ≠ some (.frz o' u') := fun o' u' e => by
  have q := I.base.frzs d o' u' e
  rw [h] at q
  cases q
  exact mu
theorem Inv.unlock {d : Addr} {od : Obj} {u : HO} (I : Inv X pins σ H s) (h : H d = some (.frz od u)) (hn : ∀ o' u', X.H_0 d ≠ some (.frz o' u')) : Inv X pins σ (upd H d u) s := by
  have neH : ∀ b o, H b = some o → (∀ o' u', o ≠ .frz o' u') → b ≠ d := fun b o e hne z => by
    rw [z, h] at e
    cases e
    exact hne _ _ rfl
  have neN : ∀ b, H b = none → b ≠ d := fun b e z => by rw [z, h] at e; cases e
  refine ⟨I.ok, I.os, I.bare, ⟨I.base.keep, I.base.slot, fun b o e n hx => ?_, I.base.there, fun b xs e => ?_, fun b o x e => ?_, fun b ps e => ?_⟩, I.loc, I.cell, ?_, fun x c e => ?_, fun p hp => ?_, fun b o e => ?_, I.len⟩
  · rw [upd_ne (neN b (I.base.free b o e n hx))]; exact I.base.free b o e n hx
  · have q := I.base.tups b xs e
    rw [upd_ne (neH b _ q (fun _ _ z => nomatch z))]; exact q
  · have q := I.base.frzs b o x e
    rw [upd_ne (fun z => by rw [z] at e; exact hn _ _ e)]; exact q
  · obtain ⟨m, q⟩ := I.base.tbls b ps e
    exact ⟨m, by rw [upd_ne (neH b _ q (fun _ _ z => nomatch z))]; exact q⟩
  · rw [upd_ne (neN _ I.free)]; exact I.free
  · rw [upd_ne (neN c (I.freeC x c e))]; exact I.freeC x c e
  · obtain ⟨e, n, r⟩ := I.pin p hp
    exact ⟨e, by rw [upd_ne (neN _ n)]; exact n, r⟩
  · by_cases hb : b = d
    · rw [hb, upd_same] at e
      cases e
      rw [hb]
      obtain ⟨_, x⟩ := I.hok d _ h
      exact x.stay (fun c v _ q => q) (fun c q => by rw [upd_ne (neH c _ q (fun _ _ z => nomatch z))]; exact q) fun c xs q => by rw [upd_ne (neH c _ q (fun _ _ z => nomatch z))]; exact q
    · rw [upd_ne hb] at e
      exact (I.hok b o e).stay (fun c v _ q => q) (fun c q => by rw [upd_ne (neH c _ q (fun _ _ z => nomatch z))]; exact q) fun c xs q => by rw [upd_ne (neH c _ q (fun _ _ z => nomatch z))]; exact q
end
/-- the statement runs while the thing at d is locked (read, not written); d and what stands there are the reading's choice -/
def tLock (t : TS) : TS := fun D σ H => ∃ d u, H d = some u ∧ Mut (some u) ∧ ∀ od, t ⟨fun σ' H' => H' d = some (.frz od u) ∧ D.nx σ' (upd H' d u), fun v H' => H' d = some (.frz od u) ∧ D.rt v (upd H' d u), fun σ' H' => H' d = some (.frz od u) ∧ D.bk σ' (upd H' d u), fun σ' H' => H' d = some (.frz od u) ∧ D.ct σ' (upd H' d u)⟩ σ (upd H d (.frz od u))
section
variable {X : Cx}
theorem ps_lock {st : Stmt} {t : TS} (h : PS X st t) : PS X st (tLock t) := by
  intro pins s σ H D I hw
  obtain ⟨d, u, hd, mu, hw⟩ := hw
  obtain ⟨od, I1⟩ := I.lock hd mu
  refine thn (h pins s σ _ _ I1 (hw od)) fun f s1 q => ?_
  cases f with
  | next => obtain ⟨σ', H', I2, e, q⟩ := q; exact ⟨σ', _, I2.unlock e (I.nofrz hd mu), q⟩
  | brk => obtain ⟨σ', H', I2, e, q⟩ := q; exact ⟨σ', _, I2.unlock e (I.nofrz hd mu), q⟩
  | cont => obtain ⟨σ', H', I2, e, q⟩ := q; exact ⟨σ', _, I2.unlock e (I.nofrz hd mu), q⟩
  | ret v => obtain ⟨x, σ', H', I2, r, e, q⟩ := q; exact ⟨x, σ', _, I2.unlock e (I.nofrz hd mu), r, q⟩
/-! ### one iterator just laid -/
theorem pi_one {tg : Expr} {pins : List (Addr × Obj)} {σ : St} {H : Hp} {s : Shared} {R : It → Hp → Prop} {J : It} {tn : Nat → Heap → Prop} {tk : Nat} (I : Inv X pins σ H s) (o : Obj)
    (T : Turn X.prog X.w X.K tg J [s.heap.objs.size] s.heap.objs.size tn) (st : tn 0 (s.heap.push o)) (q : R J H) : PIE X pins σ tg R (.ref s.heap.objs.size) { s with heap := s.heap.push o, toks := tk } := by
  refine ⟨s.heap.objs.size, [s.heap.objs.size], tn, J, H, rfl, I.kept fun b ob e => Heap.get?_push_of_some _ e, T, st, fun b hb => ?_, q⟩
  have e : b = s.heap.objs.size := by simpa using hb
  subst e
  exact I.fpOk (Nat.le_refl _) (I.hok.fresh (Nat.le_refl _))
end
/-! ### range with a step -/
section
variable {X : Cx} {tg : Expr}
end
/-! ### reversed(list) -/
/-- the list at a (n items at the start, which the loop leaves there), from its end -/
def Itv (K : PySem.W.Frag) (a : Addr) (n : Nat) : It :=
  ⟨fun i H => i < n ∧ ∃ (xs : List V) (x : V), SqL K H a xs ∧ xs[n - 1 - i]? = some x, fun i H x H' => H' = H ∧ ∀ xs, SqL K H a xs → xs[n - 1 - i]? = some x, fun i _ => n ≤ i⟩
theorem turn_rev {P : Program} {w : World} {K : PySem.W.Frag} {tg : Expr} (a it : Addr) (n : Nat) : Turn P w K tg (Itv K a n) [it] it (fun i h => i ≤ n ∧ h.IsRevIter it a ((n : Int) - 1 - (i : Nat))) where
  mem := by simp
  obj := fun i h st b hb => by
    have e : b = it := by simpa using hb
    subst e
    obtain ⟨_, o, e, c, d⟩ := st
    exact ⟨o, e, fun v z => by rw [d] at z; cases z⟩
  keep := fun i h h' st k => ⟨st.1, st.2.at fun o e => k it (by simp) o e⟩
  item := by
    intro X hP hw hK hc i pins s σ H E I hf st hg
    subst hP hw hK
    obtain ⟨hin, xs, x, hq, hx⟩ := hg
    obtain ⟨its, rv, p, hz⟩ := I.list hq
    obtain ⟨u, hu, ru⟩ := rv.get hx
    obtain ⟨f0, f1, f2, f3, f4, f5⟩ := hf it (by simp)
    obtain ⟨_, hit⟩ := st
    have e1 : (n : Int) - 1 - ((i : Nat) : Int) = ((n - 1 - i : Nat) : Int) := by omega
    rw [e1] at hit
    refine wpAny_pyNext_rev_item hit p.isList (x := u) (by simpa using hu) fun h' st' sb => ?_
    have e2 : ((n - 1 - i : Nat) : Int) - 1 = (n : Int) - 1 - ((i + 1 : Nat) : Int) := by omega
    rw [e2] at st'
    have I1 : Inv X pins σ H { s with heap := h' } := I.turned (t' := s.toks) (fun b o hb e => (sb.2 b hb).trans e) f0 f1 f3 f4 f5
    obtain ⟨o, e, c, d⟩ := id st'
    exact ⟨u, rfl, go_of (s := { s with heap := h' }) e c d (by decide) ⟨x, H, I1, ru, ⟨rfl, fun ys hy => by rw [I.list_inj hy hq]; exact hx⟩, ⟨hin, st'⟩, fun b hb => (hf b hb).1⟩⟩
  done := by
    intro X hP hw hK hc i pins s σ H E I hf st hg
    subst hP hw hK
    obtain ⟨f0, f1, f2, f3, f4, f5⟩ := hf it (by simp)
    obtain ⟨hin, hit⟩ := st
    have hge : n ≤ i := hg
    have e1 : (n : Int) - 1 - ((i : Nat) : Int) = -1 := by omega
    rw [e1] at hit
    exact wpAny_pyNext_rev_end (I.ok.hd hc) hit fun h' eb => ⟨rfl, I.turned (t' := s.toks) (fun b o hb e => eb b o hb e) f0 f1 f3 f4 f5⟩
  self := fun A i s Q E st h => wpAny_pyIter_revIter st.2 h
def iRev (K : PySem.W.Frag) (ta : TA) : TI := fun σ H R => ta σ H fun vs H1 => ∃ (a : Addr) (xs : List V), vs = [.ref a] ∧ SqL K H1 a xs ∧ R (Itv K a xs.length) H1
section
variable {X : Cx} {tg : Expr}
theorem pi_reversed {e : Expr} {ta : TA} {p pos : Pos} (hg : Gl X "reversed") (hm : X.mg "reversed" = none) (ha : PA X [e] ta) (hs : starEach [e] X.env = [(false, eval e X.env)] := by rfl) : PI X tg (.Call (.Name "reversed" p) [e] [] pos) (iRev X.K ta) := by
  intro pins s σ H R I h
  refine Call_ (ld_blt I hg hm boot_reversed5 (PyProof.Rows.callWith_type1 (thn (ha pos pins s σ H _ I h) fun us s1 ⟨vs, H1, I1, r1, q1⟩ => ?_) hs rfl))
  obtain ⟨a, xs, e, hq, q⟩ := q1
  subst e
  cases r1 with
  | cons r rr =>
    cases rr
    cases r
    obtain ⟨its, rv, p', hz⟩ := I1.list hq
    have hl := rv.length
    have e1 : ((its.toArray.size : Nat) : Int) - 1 = (xs.length : Int) - 1 - ((0 : Nat) : Int) := by simp only [List.size_toArray]; omega
    refine call_reversed_list p'.isList (wpAny_pyIter_revIter (l := a) (i := ((its.toArray.size : Nat) : Int) - 1) ⟨_, Heap.get?_push_size _ rfl, rfl, rfl⟩ ?_)
    refine pi_one (tk := s1.toks) I1 _ (turn_rev a _ xs.length) ⟨Nat.zero_le _, ?_⟩ q
    rw [← e1]
    exact ⟨_, Heap.get?_push_size _ rfl, rfl, rfl⟩
end
/-! ### a str -/
/-! ### a dict's keys: any dict's entries -/
section
variable {prog : Program} {w : World} {A : Around} {E : Value → Shared → Prop} {s : Shared}
end
/-! ### a locked dict -/
theorem paired_get {α β : Type} {G : α → β → Prop} {l₁ : List α} {l₂ : List β} (h : Paired G l₁ l₂) : ∀ {i : Nat} {a : α}, l₁[i]? = some a → ∃ b, l₂[i]? = some b ∧ G a b := by
  induction h with
  | nil => intro i a e; simp at e
  | @cons a b l₁ l₂ r t ih =>
    intro i a' e
    cases i with
    | zero =>
      simp only [List.getElem?_cons_zero, Option.some.injEq] at e
      subst e
      exact ⟨b, rfl, r⟩
    | succ j =>
      simp only [List.getElem?_cons_succ] at e ⊢
      exact ih e
section
variable {X : Cx} {pins : List (Addr × Obj)} {σ : St} {H : Hp} {s : Shared} {d : Addr} {o : Obj}
end
theorem dict_ep {o : Obj} {es es' : Array DictEntry} {ep ep' : Nat} (h : o.data = .dict es ep) (h' : o.data = .dict es' ep') : es' = es ∧ ep' = ep := by
  rw [h] at h'
  cases h'
  exact ⟨rfl, rfl⟩
section
variable {P : Program} {w : World} {K : PySem.W.Frag} {tg : Expr} {d : Addr} {o : Obj} {es : Array DictEntry} {ep : Nat}
end
/-! ### for k in d, d.keys(), d.values(), d.items() -/
section
variable {X : Cx} {tg e : Expr} {td : TE} {apos cpos : Pos}
end
/-! ### enumerate(list) -/
/-- the list at a as it stands at each turn, each item in a new pair -/
def Ite (K : PySem.W.Frag) (a : Addr) : It :=
  ⟨fun i H => ∃ (xs : List V) (x : V), SqL K H a xs ∧ xs[i]? = some x, fun i H v H' => ∃ T x, v = .ref T ∧ H T = none ∧ H' = upd H T (.tup [.int (i : Nat), x]) ∧ ∀ xs, SqL K H a xs → xs[i]? = some x, fun i H => ∃ xs : List V, SqL K H a xs ∧ xs.length ≤ i⟩
theorem turn_enum {P : Program} {w : World} {K : PySem.W.Frag} {elts : List Expr} {kk : Nat} {tpos : Pos} (a e it : Addr) :
    Turn P w K (.Tuple elts kk tpos) (Ite K a) [e, it] e (fun i h => (∃ old, IsEnum h e it ((i : Nat) : Int) old) ∧ h.IsListIter it a i ∧ e ≠ it) where
  mem := by simp
  obj := fun i h st b hb => by
    obtain ⟨⟨old, he⟩, ⟨o, ho, hc, hd⟩, _⟩ := st
    have e' : b = e ∨ b = it := by simpa using hb
    rcases e' with z | z
    · rw [z]; exact ⟨_, he, fun v q => nomatch q⟩
    · rw [z]; exact ⟨o, ho, fun v q => by rw [hd] at q; cases q⟩
  keep := fun i h h' st k => let ⟨⟨old, he⟩, hi, hne⟩ := st; ⟨⟨old, k e (by simp) _ he⟩, hi.at fun o q => k it (by simp) o q, hne⟩
  item := by
    intro X hP hw hK hc i pins s σ H E I hf st hg
    subst hP hw hK
    obtain ⟨⟨old, he⟩, hit, hne⟩ := st
    obtain ⟨xs, x, hq, hx⟩ := hg
    obtain ⟨its, rv, p, hz⟩ := I.list hq
    obtain ⟨u, hu, ru⟩ := rv.get hx
    have hel : e < s.heap.objs.size := Heap.lt_size he
    have hil : it < s.heap.objs.size := by obtain ⟨_, q, _⟩ := hit; exact Heap.lt_size q
    refine wpAny_pyNext_enum_item he hit p.isList (x := u) (by simpa using hu) hne fun h' ho hit' hT hsz hk => ?_
    refine ⟨_, rfl, wpAny_letOwnedTupleGo_enum (s := { s with heap := h', toks := s.toks + 1 }) ho fun h'' he' sb => ?_⟩
    have hT2 : h''.get? s.heap.objs.size = some { cls := .type "tuple", data := .seq #[.int i s.toks, u] } := (sb.2 _ (Nat.ne_of_gt hel)).trans hT
    have new : ObjOk X.prog X.w (upd H s.heap.objs.size (.tup [.int (i : Nat), x])) h'' s.heap.objs.size (.tup [.int (i : Nat), x]) :=
      ⟨by show 2 ≤ sizeLine; decide, [.int i s.toks, u], .cons ⟨_, rfl⟩ (.cons ru .nil), ⟨_, hT2, rfl, _, rfl⟩⟩
    have I1 : Inv X pins σ (upd H s.heap.objs.size (.tup [.int (i : Nat), x])) { s with heap := h'', toks := s.toks + 1 } :=
      I.turnedNew (ch := [e, it]) (fun b ob hb q => (sb.2 b (fun z => hb (by simp [z]))).trans (hk b ob (fun z => hb (by simp [z])) (fun z => hb (by simp [z])) q)) hf (Nat.le_refl _) new
    refine ⟨.ref s.heap.objs.size, _, I1, rfl, ⟨_, x, rfl, I.hok.fresh (Nat.le_refl _), rfl, fun ys hy => by rw [I.list_inj hy hq]; exact hx⟩, ⟨⟨u, ?_⟩, hit'.at fun o q => (sb.2 it (Ne.symm hne)).trans q, hne⟩, fun b hb => ?_⟩
    · have e1 : ((i + 1 : Nat) : Int) = (i : Int) + 1 := by omega
      rw [e1]; exact he'
    · have hb' : b < s.heap.objs.size := by
        have e' : b = e ∨ b = it := by simpa using hb
        rcases e' with z | z
        · rw [z]; exact hel
        · rw [z]; exact hil
      rw [upd_ne (Nat.ne_of_lt hb')]
      exact (hf b hb).1
  done := by
    intro X hP hw hK hc i pins s σ H E I hf st hg
    subst hP hw hK
    obtain ⟨⟨old, he⟩, hit, hne⟩ := st
    obtain ⟨xs, hq, hx⟩ := hg
    obtain ⟨its, rv, p, hz⟩ := I.list hq
    obtain ⟨f0, f1, f2, f3, f4, f5⟩ := hf it (by simp)
    have hl := rv.length
    exact wpAny_pyNext_enum_end (I.ok.hd hc) he hit p.isList (by simp; omega) fun h' eb => ⟨rfl, I.turned (t' := s.toks) (fun b o hb q => eb b o hb q) f0 f1 f3 f4 f5⟩
  self := fun A i s Q E st h => let ⟨⟨_, he⟩, _⟩ := st; wpAny_pyIter_enum he h
def iEnum (K : PySem.W.Frag) (ta : TA) : TI := fun σ H R => ta σ H fun vs H1 => ∃ a xs, vs = [.ref a] ∧ SqL K H1 a xs ∧ R (Ite K a) H1
theorem pi_enum {X : Cx} {e : Expr} {ta : TA} {p pos tpos : Pos} {elts : List Expr} {kk : Nat} (hg : Gl X "enumerate") (hm : X.mg "enumerate" = none) (ha : PA X [e] ta) (hs : starEach [e] X.env = [(false, eval e X.env)] := by rfl) :
    PI X (.Tuple elts kk tpos) (.Call (.Name "enumerate" p) [e] [] pos) (iEnum X.K ta) := by
  intro pins s σ H R I h
  refine Call_ (ld_blt I hg hm boot_enumerate (PyProof.Rows.callWith_type1 (thn (ha pos pins s σ H _ I h) fun us s1 ⟨vs, H1, I1, r1, q1⟩ => ?_) hs rfl))
  obtain ⟨a, xs, ex, hq, q⟩ := q1
  subst ex
  cases r1 with
  | cons r rr =>
    cases rr
    cases r
    obtain ⟨its, rv, p', hz⟩ := I1.list hq
    refine call_enumerate_list p'.isList fun h' he hit hsz hk => wpAny_pyIter_enum he ?_
    have I2 : Inv X pins σ H1 { s1 with heap := h' } := I1.kept (t' := s1.toks) hk
    refine ⟨s1.heap.objs.size + 1, [s1.heap.objs.size + 1, s1.heap.objs.size], _, _, H1, rfl, I2, turn_enum a (s1.heap.objs.size + 1) s1.heap.objs.size, ⟨⟨.none, he⟩, hit, Nat.succ_ne_self _⟩, fun b hb => ?_, q⟩
    have e' : b = s1.heap.objs.size + 1 ∨ b = s1.heap.objs.size := by simpa using hb
    have hle : s1.heap.objs.size ≤ b := by
      rcases e' with z | z
      · rw [z]; exact Nat.le_add_right _ _
      · rw [z]; exact Nat.le_refl _
    exact I1.fpOk hle (I1.hok.fresh hle)
/-! ### zip(list, list) -/
theorem boot_zip5 : bootBuiltins "zip" = some (.type "zip") := by decide +kernel
/-- the lists at a and b as they stand at each turn, the items in new pairs -/
def Itz (K : PySem.W.Frag) (a b : Addr) : It :=
  ⟨fun i H => ∃ (xs ys : List V) (x y : V), SqL K H a xs ∧ SqL K H b ys ∧ xs[i]? = some x ∧ ys[i]? = some y,
    fun i H v H' => ∃ T x y, v = .ref T ∧ H T = none ∧ H' = upd H T (.tup [x, y]) ∧ (∀ xs, SqL K H a xs → xs[i]? = some x) ∧ ∀ ys, SqL K H b ys → ys[i]? = some y,
    fun i H => ∃ xs ys : List V, SqL K H a xs ∧ SqL K H b ys ∧ (xs.length ≤ i ∨ ys.length ≤ i)⟩
theorem turn_zip {P : Program} {w : World} {K : PySem.W.Frag} {elts : List Expr} {kk : Nat} {tpos : Pos} {a b z TI TO i1 i2 : Addr} (D : ZipApart z TI TO i1 i2 a b) :
    Turn P w K (.Tuple elts kk tpos) (Itz K a b) [z, TI, TO, i1, i2] z (fun i h => IsZip h z TI TO .none ∧ IsPair h TI (.ref i1) (.ref i2) ∧ (∃ x y, IsPair h TO x y) ∧ h.IsListIter i1 a i ∧ h.IsListIter i2 b i) where
  mem := by simp
  obj := fun i h st c hc => by
    obtain ⟨hz, hTI, ⟨x, y, hTO⟩, ⟨o1, e1, _, d1⟩, ⟨o2, e2, _, d2⟩⟩ := st
    have e' : c = z ∨ c = TI ∨ c = TO ∨ c = i1 ∨ c = i2 := by simpa using hc
    rcases e' with q | q | q | q | q
    · rw [q]; exact ⟨_, hz, fun v q => nomatch q⟩
    · rw [q]; exact ⟨_, hTI, fun v q => nomatch q⟩
    · rw [q]; exact ⟨_, hTO, fun v q => nomatch q⟩
    · rw [q]; exact ⟨o1, e1, fun v q => by rw [d1] at q; cases q⟩
    · rw [q]; exact ⟨o2, e2, fun v q => by rw [d2] at q; cases q⟩
  keep := fun i h h' st k => by
    obtain ⟨hz, hTI, ⟨x, y, hTO⟩, h1, h2⟩ := st
    exact ⟨k z (by simp) _ hz, k TI (by simp) _ hTI, ⟨x, y, k TO (by simp) _ hTO⟩, h1.at fun o q => k i1 (by simp) o q, h2.at fun o q => k i2 (by simp) o q⟩
  item := by
    intro X hP hw hK hc i pins s σ H E I hf st hg
    subst hP hw hK
    obtain ⟨hz, hTI, ⟨x0, y0, hTO⟩, h1, h2⟩ := st
    obtain ⟨xs, ys, x, y, hqx, hqy, hx, hy⟩ := hg
    obtain ⟨its, rv, p, _⟩ := I.list hqx
    obtain ⟨its2, rv2, p2, _⟩ := I.list hqy
    obtain ⟨u, hu, ru⟩ := rv.get hx
    obtain ⟨u2, hu2, ru2⟩ := rv2.get hy
    have hzl : z < s.heap.objs.size := Heap.lt_size hz
    refine wpAny_pyNext_zip_item D hz hTI hTO h1 h2 p.isList p2.isList (x := u) (y := u2) (by simpa using hu) (by simpa using hu2) fun h' z' TO' h1' h2' hT hsz hk => ?_
    refine ⟨_, rfl, wpAny_letOwnedTupleGo_zip (s := { s with heap := h' }) z' fun h'' z'' sb => ?_⟩
    have hT2 : h''.get? s.heap.objs.size = some { cls := .type "tuple", data := .seq #[u, u2] } := (sb.2 _ (Nat.ne_of_gt hzl)).trans hT
    have new : ObjOk X.prog X.w (upd H s.heap.objs.size (.tup [x, y])) h'' s.heap.objs.size (.tup [x, y]) :=
      ⟨by show 2 ≤ sizeLine; decide, [u, u2], .cons ru (.cons ru2 .nil), ⟨_, hT2, rfl, _, rfl⟩⟩
    have I1 : Inv X pins σ (upd H s.heap.objs.size (.tup [x, y])) { s with heap := h'' } :=
      I.turnedNew (t' := s.toks) (ch := [z, TI, TO, i1, i2]) (fun c o hb q => (sb.2 c (fun q' => hb (by simp [q']))).trans (hk c o (fun q' => hb (by simp [q'])) (fun q' => hb (by simp [q'])) (fun q' => hb (by simp [q'])) (fun q' => hb (by simp [q'])) q)) hf (Nat.le_refl _) new
    refine ⟨.ref s.heap.objs.size, _, I1, rfl, ⟨_, x, y, rfl, I.hok.fresh (Nat.le_refl _), rfl, fun l hl => by rw [I.list_inj hl hqx]; exact hx, fun l hl => by rw [I.list_inj hl hqy]; exact hy⟩, ⟨z'', ?_, ⟨u, u2, ?_⟩, ?_, ?_⟩, fun c hcm => ?_⟩
    · exact (sb.2 _ D.TIz).trans (hk _ _ D.TIz D.TITO D.TIi1 D.TIi2 hTI)
    · exact (sb.2 _ D.TOz).trans TO'
    · exact h1'.at fun o q => (sb.2 _ D.i1z).trans q
    · exact h2'.at fun o q => (sb.2 _ D.i2z).trans q
    · have hlt : c < s.heap.objs.size := by
        have e' : c = z ∨ c = TI ∨ c = TO ∨ c = i1 ∨ c = i2 := by simpa using hcm
        rcases e' with q | q | q | q | q
        · rw [q]; exact hzl
        · rw [q]; exact Heap.lt_size hTI
        · rw [q]; exact Heap.lt_size hTO
        · rw [q]; obtain ⟨_, e1, _⟩ := h1; exact Heap.lt_size e1
        · rw [q]; obtain ⟨_, e2, _⟩ := h2; exact Heap.lt_size e2
      rw [upd_ne (Nat.ne_of_lt hlt)]
      exact (hf c hcm).1
  done := by
    intro X hP hw hK hc i pins s σ H E I hf st hg
    subst hP hw hK
    obtain ⟨hz, hTI, ⟨x0, y0, hTO⟩, h1, h2⟩ := st
    obtain ⟨xs, ys, hqx, hqy, hend⟩ := hg
    obtain ⟨its, rv, p, _⟩ := I.list hqx
    obtain ⟨its2, rv2, p2, _⟩ := I.list hqy
    have l1 := rv.length
    have l2 := rv2.length
    have he : its.toArray[i]? = none ∨ its2.toArray[i]? = none := by
      rcases hend with q | q
      · exact .inl (by simp; omega)
      · exact .inr (by simp; omega)
    exact wpAny_pyNext_zip_end (I.ok.hd hc) D hz hTI hTO h1 h2 p.isList p2.isList he fun h' hk => ⟨rfl, I.turnedL (t' := s.toks) (ch := [z, TI, TO, i1, i2]) (fun c o hb q =>
      hk c o (fun q' => hb (by simp [q'])) (fun q' => hb (by simp [q'])) (fun q' => hb (by simp [q'])) (fun q' => hb (by simp [q'])) q) hf⟩
  self := fun A i s Q E st h => wpAny_pyIter_zip st.1 h
def iZip (K : PySem.W.Frag) (ta : TA) : TI := fun σ H R => ta σ H fun vs H1 => ∃ a b xs ys, vs = [.ref a, .ref b] ∧ SqL K H1 a xs ∧ SqL K H1 b ys ∧ R (Itz K a b) H1
theorem pi_zip {X : Cx} {e e2 : Expr} {ta : TA} {p pos tpos : Pos} {elts : List Expr} {kk : Nat} (hg : Gl X "zip") (hm : X.mg "zip" = none) (ha : PA X [e, e2] ta)
    (hs : starEach [e, e2] X.env = (false, eval e X.env) :: starEach [e2] X.env := by rfl) (hpl : (backTo pos (starEach [e2] X.env)).any (·.1) = false := by rfl) :
    PI X (.Tuple elts kk tpos) (.Call (.Name "zip" p) [e, e2] [] pos) (iZip X.K ta) := by
  intro pins s σ H R I h
  refine Call_ (ld_blt I hg hm boot_zip5 (PyProof.Rows.callWith_type1 (thn (ha pos pins s σ H _ I h) fun us s1 ⟨vs, H1, I1, r1, q1⟩ => ?_) hs hpl))
  obtain ⟨a, b, xs, ys, ex, hqx, hqy, q⟩ := q1
  subst ex
  cases r1 with
  | cons r rr =>
    cases rr with
    | cons r' rr =>
      cases rr
      cases r
      cases r'
      obtain ⟨its, rv, p1, _⟩ := I1.list hqx
      obtain ⟨its2, rv2, p2, _⟩ := I1.list hqy
      have la : a < s1.heap.objs.size := p1.lt
      have lb : b < s1.heap.objs.size := p2.lt
      refine call_zip_2 p1.isList p2.isList fun h' hz hTI hTO h1 h2 hsz hk => wpAny_pyIter_zip hz ?_
      have I2 : Inv X pins σ H1 { s1 with heap := h' } := I1.kept (t' := s1.toks) hk
      refine ⟨s1.heap.objs.size + 4, [s1.heap.objs.size + 4, s1.heap.objs.size + 2, s1.heap.objs.size + 3, s1.heap.objs.size, s1.heap.objs.size + 1], _, _, H1, rfl, I2, turn_zip (PySem.W.ktu_apart s1.heap.objs.size a b la lb), ⟨hz, hTI, ⟨_, _, hTO⟩, h1, h2⟩, fun c hcm => ?_, q⟩
      have e' : c = s1.heap.objs.size + 4 ∨ c = s1.heap.objs.size + 2 ∨ c = s1.heap.objs.size + 3 ∨ c = s1.heap.objs.size ∨ c = s1.heap.objs.size + 1 := by simpa using hcm
      have hle : s1.heap.objs.size ≤ c := by
        rcases e' with z | z | z | z | z
        · rw [z]; exact Nat.le_add_right _ _
        · rw [z]; exact Nat.le_add_right _ _
        · rw [z]; exact Nat.le_add_right _ _
        · rw [z]; exact Nat.le_refl _
        · rw [z]; exact Nat.le_add_right _ _
      exact I1.fpOk hle (I1.hok.fresh hle)
end L2
section 
namespace Bits
open PySem PyProof.Rows
end Bits
end 
section 
namespace TL
open PySem PySem.Builtin PySem.Builtin.Str PySem.StrLaws
/-! ### the list functions -/
/-! ### the model's split and partition are these -/
/-! ### computing spl and par -/
/-! ### digits -/
/-! ### words: x.split() -/
end TL
end 
namespace L2
open PySem PySem.Spec PyProof.Rows
section
variable {X : Cx} {pins : List (Addr × Obj)} {σ : St} {H : Hp} {s : Shared} {Q : VK}
end
section
variable {X : Cx}
/-! ### of a text alone -/
/-! ### of a text and a text -/
end
section
variable {X : Cx} {o e : Expr} {to te : TE}
end
end L2
namespace L2
open PySem PySem.Spec PyProof.Rows
section
variable {X : Cx}
end
/-! ### slices of a text -/
end L2
namespace Att
open PySem PySem.W PySem.Calls PyProof.Rows
/-! ### the script -/
/-! ### the attachment: holds_open's last premise (the goal 'hc' behind k_head) from a wpAny of the law's body -/
/-! ### rules over ANY heap (no ledger) from facts about the written part K: the library's own take a ledger (News) for what they write -/
section
variable {prog : Program} {w : World} {A : Around} {E : Value → Shared → Prop} {s : Shared} {K : Frag}
/-! the whole heap as the ledger: makes every rule that writes through a ledger a rule over any heap -/
end
end Att
namespace L2
open PySem PySem.Spec PyProof.Rows
end L2
namespace L2
open PySem PySem.Spec PyProof.Rows
end L2
/- THE LAST THEOREM (shape; LID, My.* are yours):
   My.Adr: a structure of the addresses that your layer names (classes, functions); My.Txt K t: a structure (Prop) of the equations over K;
   My.txt_mk : {K} {implicit addresses ..} (e1 : nsIn K mainGlobals "law" = some (some (.ref f))) (e2 : K.lookup f = some ⟨oc, od, .func (fnOf "law" "law" params body scope dV kV doc pm an cdv ct), sl⟩) (e3 : codeIn K cdv "law" = true) .. : ∃ t, My.Txt K t
set_option maxRecDepth 100000 in
set_option maxHeartbeats 0 in
theorem PySem.Challenge.cw_LID_holds : PySem.Challenge.rw_LID.Holds := by
  w_on; o_law; k_head; (case hw => w_witness2)
  k_fill
  refine L2.walk_of (l := PySem.Challenge.rw_LID) (n := 63) (k := 40) (x := "script") (CX := fun w => ..) (sp := fun _ => My.sp_law) rfl (by decide) rfl ⟨rfl, by decide, by decide⟩ (fun w h Y => PySem.W.kIn_of Y) ?F ?S ?C
  case F =>
    intro w mg fa h KX G hmg
    have T : ∃ t, My.Txt (L2.KOf KX) t := by
      dsimp only [L2.KOf]                          -- K must stand as «<heap const> w.params» for k_is
      refine' My.txt_mk ?e1 ?e2 ?e3 ..
      (case e1 => PySem.W.k_is)                    -- in the order: a name -> its address -> its object -> its parts
      (case e2 => PySem.W.k_is)
      ..
    obtain ⟨t, T⟩ := T
    have e0 := hmg.symm.trans (PySem.W.mg_of KX G T.law)
    cases e0                                       -- fa is the law's own address
    exact ⟨_, fun s u => .of_eq rfl, fun base kb nb => My.law_fn T kb nb⟩     -- if «.of_eq rfl» comes too early: refine' ⟨_, ?b, fun base kb nb => My.law_fn T kb nb⟩; exact fun s u => .of_eq rfl
  case S => exact fun w H a ns hl hO hS => ..
  case C => exact ..
(the tactic k_is has no namespace: write k_is) -/
/-! SHORT WORDS over the layer: a def of the text, its body, what a loop and a test want. -/
namespace L2
open PySem PySem.Spec PyProof.Rows
/-! ### the text by places -/
/-- the j-th statement of a class's body -/
def inClass (s : Stmt) (j : Nat) : Stmt := match s with
  | .ClassDef _ _ _ body _ _ _ _ _ _ _ => body.getD j (.Pass ⟨0, 0, 0, 0⟩)
  | _ => .Pass ⟨0, 0, 0, 0⟩
def defArgs (s : Stmt) : Arguments := match s with
  | .FunctionDef _ a _ _ _ _ _ _ _ _ => a
  | _ => { posonlyargs := [], args := [], vararg := none, kwonlyargs := [], kw_defaults := [], kwarg := none, defaults := [] }
def defBody (s : Stmt) : List Stmt := match s with
  | .FunctionDef _ _ b _ _ _ _ _ _ _ => b
  | _ => []
def defScope (s : Stmt) : Scope := match s with
  | .FunctionDef _ _ _ _ _ _ sc _ _ _ => sc
  | _ => { kind := .function, names := [], isGenerator := false, isCoroutine := false }
/-! ### no exception leaves a def -/
abbrev CX0 : CXT := fun _ _ _ _ _ _ => False
abbrev E0 : XK := fun _ _ _ => False
theorem pass0 {X : Cx} : Passes CX0 X E0 := fun _ _ _ _ _ _ _ h => h.elim
/-! ### a def (or method) of the text as it stands behind the top -/
structure Fun (K : PySem.W.Frag) (x qual : Str) (st : Stmt) (f : Addr) (fd : FuncData) : Prop where
  ex : ∃ (oc : Value) (od : Option Addr) (kV doc pm : Value) (an : Option Addr) (cdv ct : Value) (osl : Array (Option Value)),
    fd = PySem.W.fnOf x qual (defArgs st) (defBody st) (defScope st) .none kV doc pm an cdv ct ∧ K.lookup f = some ⟨oc, od, .func fd, osl⟩ ∧ PySem.W.codeIn K cdv qual = true
  kp : PySem.W.keepIn K (.ref f) = true
section
variable {P : Program} {w : World} {K : PySem.W.Frag} {mg : Str → Option Value} {base : Heap}
/-- THE RULE for a def: its body as a term of rules, and the reading of that term -/
theorem Fun.ok {x qual : Str} {st : Stmt} {f : Addr} {fd : FuncData} {N ps : List Str} {k : Nat} {sp : Sp} (F : Fun K x qual st f fd) (S : FnScope N ps (defScope st)) (len : ∀ vs H Q E, sp vs H Q E → vs.length = ps.length)
    (hbody : ∀ (cdv : Value) (A : Around) (outer : List Env) (s : Shared) (H : Hp) (vs : List V) (Q : VK) (E : XK), Room k (A.deeper (envOfC qual (defScope st) s.heap.objs.size f cdv)) → sp vs H Q E →
      ∃ t, PSs (cxOf CX0 P w K mg base N qual (defScope st) f cdv A outer s H E).nox (defBody st) t ∧ t { nx := fun _ H' => Q .non H', rt := Q } (start N vs) H) : FnOk P w K mg base CX0 (k + 1) f fd ps sp := by
  obtain ⟨oc, od, kV, doc, pm, an, cdv, ct, osl, rfl, lk, hcd⟩ := F.ex
  refine fn_of lk hcd S len fun A outer s H vs Q E hr hsp => ?_
  obtain ⟨t, h, q⟩ := hbody cdv A outer s H vs Q E hr hsp
  exact ⟨t, h.nox, q⟩
/-- how its arguments bind (no defaults): h is «fun _ _ _ _ _ _ us hl => match us, hl with | [_, _], _ => rfl», one _ a parameter -/
theorem Fun.binds {x qual : Str} {st : Stmt} {f : Addr} {fd : FuncData} {ps : List Str} (F : Fun K x qual st f fd)
    (h : ∀ (kV doc pm : Value) (an : Option Addr) (cdv ct : Value) (us : List Value), us.length = ps.length → bindArgs (PySem.W.fnOf x qual (defArgs st) (defBody st) (defScope st) .none kV doc pm an cdv ct) ⟨us, []⟩ = pure (ps.zip us)) : Binds K fd ps [] := by
  obtain ⟨oc, od, kV, doc, pm, an, cdv, ct, osl, rfl, lk, hcd⟩ := F.ex
  exact .all (h kV doc pm an cdv ct)
theorem fun_mk {x qual : Str} {st : Stmt} {f : Addr} {oc : Value} {od an : Option Addr} {osl : Array (Option Value)} {kV doc pm cdv ct : Value} (l : K.lookup f = some ⟨oc, od, .func (PySem.W.fnOf x qual (defArgs st) (defBody st) (defScope st) .none kV doc pm an cdv ct), osl⟩)
    (c : PySem.W.codeIn K cdv qual = true) (k : PySem.W.keepIn K (.ref f) = true) : Fun K x qual st f (PySem.W.fnOf x qual (defArgs st) (defBody st) (defScope st) .none kV doc pm an cdv ct) := ⟨⟨oc, od, kV, doc, pm, an, cdv, ct, osl, rfl, l, c⟩, k⟩
end
theorem hu_of {A : Around} {k : Nat} (hr : Room k A) : A.units + 1 < cLine := Nat.lt_of_le_of_lt (Nat.add_le_add_left (by decide : 1 ≤ 64) _) hr.units
/-! ### expressions in short: the name that stands in the i-th slot -/
section
variable {X : Cx}
theorem pv (i : Nat) {x : Str} {pos : Pos} (hN : X.N[i]? = some x := by rfl) (hv : Vis X.env.scope x := by first | exact Or.inl rfl | exact Or.inr (Or.inl rfl) | exact Or.inr (Or.inr rfl)) (hd : (x == ("__debug__" : Str)) = false := by decide)
    (hcd : (x == ("__classdict__" : Str)) = false := by decide) : PE X (.Name x pos) (tVar i) := pe_var hN hv hd hcd
end
/-! ### tests -/
theorem iteF {A B : Prop} (h : B) : if false = true then A else B := by
  rw [if_neg Bool.false_ne_true]
  exact h
theorem iteT {A B : Prop} (h : A) : if true = true then A else B := by
  rw [if_pos rfl]
  exact h
theorem ite2 {c A B : Prop} [Decidable c] (h1 : c → A) (h2 : ¬ c → B) : if c then A else B := by
  by_cases h : c
  · rw [if_pos h]
    exact h1 h
  · rw [if_neg h]
    exact h2 h
/-! ### heaps -/
/-- all that was tracked is as it was -/
def Same (H H' : Hp) : Prop := ∀ b o, H b = some o → H' b = some o
theorem Same.refl (H : Hp) : Same H H := fun _ _ h => h
theorem Same.trans {H H1 H2 : Hp} (a : Same H H1) (b : Same H1 H2) : Same H H2 := fun c o h => b c o (a c o h)
theorem Same.free {H H' : Hp} (e : Same H H') {l : Addr} (h : H' l = Option.none) : H l = Option.none := by
  cases q : H l with
  | none => rfl
  | some o =>
    rw [e l o q] at h
    cases h
theorem Same.seq {K : PySem.W.Frag} {H H' : Hp} {a : Addr} {xs : List V} (e : Same H H') (h : SqL K H a xs) : SqL K H' a xs := by
  rcases h with (h | ⟨o, h⟩) | h
  · exact .inl (.inl (e _ _ h))
  · exact .inl (.inr ⟨o, e _ _ h⟩)
  · exact .inr h
/-! ### a dict's pairs: keys that differ -/
section
variable {κ : Type} [DecidableEq κ]
end
/-! ### lists -/
/-- a new instance and its __init__ leave all that was tracked as it was -/
theorem Same.made {H H1 : Hp} {x dx C : Addr} (nx : H x = Option.none) (nd : H dx = Option.none) (k : ∀ b o, (upd (upd H dx (.own x)) x (.ins C dx [])) b = some o → b ≠ x → H1 b = some o) : Same H H1 := fun b o e =>
  k b o (by rw [upd_ne (ne_of_none e nx), upd_ne (ne_of_none e nd)]; exact e) (ne_of_none e nx)
end L2
section
set_option Elab.async false
set_option linter.all false
set_option maxRecDepth 100000
set_option maxHeartbeats 2000000
namespace L2
open PySem PySem.Spec PyProof.Rows
open PySem.W (WData Codec OpenSpec Well WellAll ReadsW ReadsAllW)
/-! ### an answer as data -/
mutual
/-- x stands for the datum d, lists and tuples all the way -/
inductive Dw (K : PySem.W.Frag) (H : Hp) : V → WData → Prop
  | non : Dw K H .non .none
  | bl (b : Bool) : Dw K H (.bl b) (.bool b)
  | int (i : Int) : Dw K H (.int i) (.int i)
  | str (x : Str) : Dw K H (.str x) (.str x)
  | byt (b : Array UInt8) : Dw K H (.byt b) (.bytes b.toList)
  | lst {a : Addr} {xs : List V} {ds : List WData} : SqL K H a xs → DwAll K H xs ds → Dw K H (.ref a) (.list ds)
  | tup {a : Addr} {xs : List V} {ds : List WData} : SqT K H a xs → DwAll K H xs ds → Dw K H (.ref a) (.tuple ds)
inductive DwAll (K : PySem.W.Frag) (H : Hp) : List V → List WData → Prop
  | nil : DwAll K H [] []
  | cons {v : V} {vs : List V} {d : WData} {ds : List WData} : Dw K H v d → DwAll K H vs ds → DwAll K H (v :: vs) (d :: ds)
end
theorem dw_ints {K : PySem.W.Frag} {H : Hp} : ∀ ns : List Int, DwAll K H (ns.map V.int) (ns.map WData.int)
  | [] => .nil
  | n :: r => .cons (.int n) (dw_ints r)
theorem ints_dw {K : PySem.W.Frag} {H : Hp} : ∀ (ns : List Int) (xs : List V), DwAll K H xs (ns.map WData.int) → xs = ns.map V.int
  | [], xs, h => by
    cases h
    rfl
  | n :: r, xs, h => by
    cases h with
    | cons h1 h2 =>
      cases h1
      rw [ints_dw r _ h2] <;> rfl
section
variable {P : Program} {w : World} {K : PySem.W.Frag} {H : Hp} {h : Heap} {R : PySem.W.WRecords} {cl : Str → Option Addr}
theorem sqL_at {a : Addr} {xs : List V} (hok : HOk P w H h) (KX : K.In h) (q : SqL K H a xs) : ∃ (its : List Value) (o : Obj) (n : Nat), Vals xs its ∧ h.get? a = some o ∧ o.cls = .type "list" ∧ o.data = .seq its.toArray n := by
  rcases q with q | ⟨o, its, n, e, hc, _, hd, _, hv⟩
  · obtain ⟨_, its, n, hv, e⟩ := (show ObjOk P w H h a (.lst xs) from q.ok hok)
    exact ⟨its, _, n, hv, e, rfl, rfl⟩
  · exact ⟨its.toList, o, n, hv, KX _ _ e, hc, by simp [hd]⟩
theorem sqT_at {a : Addr} {xs : List V} (hok : HOk P w H h) (KX : K.In h) (q : SqT K H a xs) : ∃ (its : List Value) (o : Obj) (n : Nat), Vals xs its ∧ h.get? a = some o ∧ o.cls = .type "tuple" ∧ o.data = .seq its.toArray n := by
  rcases q with q | ⟨o, its, n, e, hc, hd, _, hv⟩
  · obtain ⟨_, its, hv, o, e, hc, n, hd⟩ := (show ObjOk P w H h a (.tup xs) from q.ok hok)
    exact ⟨its, o, n, hv, e, hc, hd⟩
  · exact ⟨its.toList, o, n, hv, KX _ _ e, hc, by simp [hd]⟩
mutual
theorem Dw.reads (hok : HOk P w H h) (KX : K.In h) : ∀ (d : WData) (v : V) (u : Value), Dw K H v d → RelV v u → ∃ as, ReadsW R cl h u d as
  | .none, _, _, x, r => by
    cases x
    cases r
    exact ⟨_, ReadsW.none⟩
  | .bool b, _, _, x, r => by
    cases x
    cases r
    exact ⟨_, ReadsW.bool b⟩
  | .int i, _, _, x, r => by
    cases x
    obtain ⟨t, rfl⟩ := r
    exact ⟨_, ReadsW.int i t⟩
  | .str s, _, _, x, r => by
    cases x
    obtain ⟨t, rfl⟩ := r
    exact ⟨_, ReadsW.str s t⟩
  | .bytes b, _, _, x, r => by
    cases x
    obtain ⟨t, rfl⟩ := r
    exact ⟨_, ReadsW.bytes _ t⟩
  | .list ds, _, _, x, r => by
    cases x with
    | lst hs ha =>
      cases r
      obtain ⟨its, o, n, rv, ho, hc, hd⟩ := sqL_at hok KX hs
      obtain ⟨as, hr⟩ := Dw.readsAll hok KX ds _ its ha rv
      exact ⟨_, ReadsW.list ho hc hd hr⟩
  | .tuple ds, _, _, x, r => by
    cases x with
    | tup hs ha =>
      cases r
      obtain ⟨its, o, n, rv, ho, hc, hd⟩ := sqT_at hok KX hs
      obtain ⟨as, hr⟩ := Dw.readsAll hok KX ds _ its ha rv
      exact ⟨_, ReadsW.tuple ho hc hd hr⟩
  | .float _, _, _, x, _ => by cases x
  | .dict _, _, _, x, _ => by cases x
  | .bytearray _, _, _, x, _ => by cases x
  | .set _, _, _, x, _ => by cases x
  | .frozenset _, _, _, x, _ => by cases x
  | .obj _ _, _, _, x, _ => by cases x
theorem Dw.readsAll (hok : HOk P w H h) (KX : K.In h) : ∀ (ds : List WData) (vs : List V) (us : List Value), DwAll K H vs ds → Vals vs us → ∃ as, ReadsAllW R cl h us ds as
  | [], _, _, x, r => by
    cases x
    cases r
    exact ⟨_, ReadsAllW.nil⟩
  | d :: ds, _, _, x, r => by
    cases x with
    | cons h1 h2 =>
      cases r with
      | cons r1 r2 =>
        obtain ⟨as, q1⟩ := Dw.reads hok KX d _ _ h1 r1
        obtain ⟨bs, q2⟩ := Dw.readsAll hok KX ds _ _ h2 r2
        exact ⟨_, ReadsAllW.cons q1 q2⟩
end
end
/-! ### the arguments -/
mutual
/-- data that a codec tells -/
def plW : WData → Bool
  | .none => true
  | .bool _ => true
  | .int _ => true
  | .str _ => true
  | .bytes _ => true
  | .list xs => plWs xs
  | .tuple xs => plWs xs
  | _ => false
def plWs : List WData → Bool
  | [] => true
  | x :: r => plW x && plWs r
end
theorem plWs_map {α : Type} {f : α → WData} (h : ∀ a, plW (f a) = true) : ∀ l : List α, plWs (l.map f) = true
  | [] => rfl
  | x :: r => by
    show (plW (f x) && plWs (r.map f)) = true
    rw [h x, plWs_map h r] <;> rfl
theorem pl_enc : ∀ (c : Codec) (a : c.denote), plW (c.enc a) = true
  | .unit, _ => rfl
  | .bool, _ => rfl
  | .int _ _, _ => rfl
  | .nat _ _, _ => rfl
  | .u8, _ => rfl
  | .bytes _ _, _ => rfl
  | .text _ _ _ _, _ => rfl
  | .list _ _ c, a => plWs_map (fun x => pl_enc c x) a
  | .pair c d, a => by
    show (plW (c.enc a.1) && (plW (d.enc a.2) && true)) = true
    rw [pl_enc c a.1, pl_enc d a.2] <;> rfl
  | .triple c d e, a => by
    show (plW (c.enc a.1) && (plW (d.enc a.2.1) && (plW (e.enc a.2.2) && true))) = true
    rw [pl_enc c a.1, pl_enc d a.2.1, pl_enc e a.2.2] <;> rfl
  | .option c, none => rfl
  | .option c, some x => pl_enc c x
theorem pl_encAll : ∀ (cs : List Codec) (a : Codec.denoteAll cs), plWs (Codec.encAll cs a) = true
  | [], _ => rfl
  | c :: cs, a => by
    show (plW (c.enc a.1) && plWs (Codec.encAll cs a.2)) = true
    rw [pl_enc c a.1, pl_encAll cs a.2] <;> rfl
theorem weight_mem : ∀ {xs : List WData} {d : WData}, d ∈ xs → d.weight ≤ WData.weightAll xs
  | [], d, h => absurd h (by simp)
  | x :: r, d, h => by
    show d.weight ≤ x.weight + 1 + WData.weightAll r
    rcases List.mem_cons.mp h with e | m
    · rw [e]
      omega
    · have z := weight_mem m
      omega
def toV : Value → V
  | .none => .non
  | .bool b => .bl b
  | .int i _ => .int i
  | .str x _ => .str x
  | .bytes b _ => .byt b
  | .ref a => .ref a
  | _ => .non
/-- a value of the arguments, its objects among A -/
def OkU (A : List Addr) : Value → Prop
  | .none => True
  | .bool _ => True
  | .int _ _ => True
  | .str _ _ => True
  | .bytes _ _ => True
  | .ref a => a ∈ A
  | _ => False
theorem OkU.mono {A B : List Addr} (h : ∀ a ∈ A, a ∈ B) : ∀ {u : Value}, OkU A u → OkU B u := fun {u} x => by
  cases u with
  | ref a => exact h a x
  | none => trivial
  | bool b => trivial
  | int i t => trivial
  | str s t => trivial
  | bytes b t => trivial
  | _ => exact False.elim x
theorem relV_toV {A : List Addr} {u : Value} (x : OkU A u) : RelV (toV u) u := by
  cases u with
  | ref a => rfl
  | none => rfl
  | bool b => rfl
  | int i t => exact ⟨t, rfl⟩
  | str s t => exact ⟨t, rfl⟩
  | bytes b t => exact ⟨t, rfl⟩
  | _ => exact False.elim x
theorem vals_toV {A : List Addr} : ∀ {vs : List Value}, (∀ u ∈ vs, OkU A u) → Vals (vs.map toV) vs
  | [], _ => .nil
  | u :: r, h => .cons (relV_toV (h u (List.mem_cons_self ..))) (vals_toV fun x hx => h x (List.mem_cons_of_mem _ hx))
/-- an object of the arguments -/
def ArgOb (h : Heap) (A : List Addr) (a : Addr) : Prop := ∃ vs : List Value, vs.length ≤ sizeLine ∧ (∀ u ∈ vs, OkU A u) ∧
  (h.get? a = some { cls := .type "list", data := .seq vs.toArray } ∨ h.get? a = some { cls := .type "tuple", data := .seq vs.toArray })
theorem ArgOb.mono {h : Heap} {A B : List Addr} {a : Addr} (k : ∀ a ∈ A, a ∈ B) (x : ArgOb h A a) : ArgOb h B a := by
  obtain ⟨vs, h1, h2, h3⟩ := x
  exact ⟨vs, h1, fun u hu => (h2 u hu).mono k, h3⟩
theorem wellAll_len {P : Params} {h : Heap} : ∀ {vs : List Value} {ds : List WData}, WellAll P h vs ds → vs.length = ds.length
  | _, _, .nil => rfl
  | _, _, .cons _ b => by
    show _ + 1 = _ + 1
    rw [wellAll_len b]
theorem well_list {P : Params} {h : Heap} {v : Value} {ds : List WData} (x : Well P h v (.list ds)) : ∃ (a : Addr) (vs : List Value), v = .ref a ∧ h.get? a = some { cls := .type "list", data := .seq vs.toArray } ∧ WellAll P h vs ds := by
  cases x with
  | list ho hall => exact ⟨_, _, rfl, ho, hall⟩
theorem well_tuple {P : Params} {h : Heap} {v : Value} {ds : List WData} (x : Well P h v (.tuple ds)) : ∃ (a : Addr) (vs : List Value), v = .ref a ∧ h.get? a = some { cls := .type "tuple", data := .seq vs.toArray } ∧ WellAll P h vs ds := by
  cases x with
  | tuple ho hall => exact ⟨_, _, rfl, ho, hall⟩
theorem well_cons {P : Params} {h : Heap} {us : List Value} {d : WData} {ds : List WData} (x : WellAll P h us (d :: ds)) : ∃ (v : Value) (vs : List Value), us = v :: vs ∧ Well P h v d ∧ WellAll P h vs ds := by
  cases x with
  | cons a b => exact ⟨_, _, rfl, a, b⟩
theorem line_of {n : Nat} (h : n ≤ 1048576) : n ≤ sizeLine := Nat.le_trans h (by decide)
section
variable {P : Params} {h : Heap}
mutual
theorem area_one : ∀ (d : WData) (v : Value), Well P h v d → plW d = true → d.weight ≤ 1048576 → ∃ A : List Addr, OkU A v ∧ ∀ a ∈ A, ArgOb h A a
  | .none, _, x, _, _ => by
    cases x
    exact ⟨[], trivial, fun a m => absurd m (by simp)⟩
  | .bool b, _, x, _, _ => by
    cases x
    exact ⟨[], trivial, fun a m => absurd m (by simp)⟩
  | .int i, _, x, _, _ => by
    cases x
    exact ⟨[], trivial, fun a m => absurd m (by simp)⟩
  | .str s, _, x, _, _ => by
    cases x
    exact ⟨[], trivial, fun a m => absurd m (by simp)⟩
  | .bytes b, _, x, _, _ => by
    cases x
    exact ⟨[], trivial, fun a m => absurd m (by simp)⟩
  | .list ds, _, x, p, z => by
    obtain ⟨a, vs, rfl, ho, hall⟩ := well_list x
    have z2 : WData.weightAll ds ≤ 1048576 := z
    obtain ⟨A, h1, h2⟩ := area_all ds _ hall p fun d hd => Nat.le_trans (weight_mem hd) z2
    have k : ∀ b ∈ A, b ∈ a :: A := fun b hb => List.mem_cons_of_mem _ hb
    refine ⟨a :: A, List.mem_cons_self .., fun b hb => ?_⟩
    rcases List.mem_cons.mp hb with e | m
    · rw [e]
      exact ⟨vs, line_of (by rw [wellAll_len hall]; exact Nat.le_trans (PySem.W.length_le_weightAllW ds) z2), fun u hu => (h1 u hu).mono k, .inl ho⟩
    · exact (h2 b m).mono k
  | .tuple ds, _, x, p, z => by
    obtain ⟨a, vs, rfl, ho, hall⟩ := well_tuple x
    have z2 : WData.weightAll ds ≤ 1048576 := z
    obtain ⟨A, h1, h2⟩ := area_all ds _ hall p fun d hd => Nat.le_trans (weight_mem hd) z2
    have k : ∀ b ∈ A, b ∈ a :: A := fun b hb => List.mem_cons_of_mem _ hb
    refine ⟨a :: A, List.mem_cons_self .., fun b hb => ?_⟩
    rcases List.mem_cons.mp hb with e | m
    · rw [e]
      exact ⟨vs, line_of (by rw [wellAll_len hall]; exact Nat.le_trans (PySem.W.length_le_weightAllW ds) z2), fun u hu => (h1 u hu).mono k, .inr ho⟩
    · exact (h2 b m).mono k
  | .float _, _, _, p, _ => Bool.noConfusion (show false = true from p)
  | .dict _, _, _, p, _ => Bool.noConfusion (show false = true from p)
  | .bytearray _, _, _, p, _ => Bool.noConfusion (show false = true from p)
  | .set _, _, _, p, _ => Bool.noConfusion (show false = true from p)
  | .frozenset _, _, _, p, _ => Bool.noConfusion (show false = true from p)
  | .obj _ _, _, _, p, _ => Bool.noConfusion (show false = true from p)
theorem area_all : ∀ (ds : List WData) (vs : List Value), WellAll P h vs ds → plWs ds = true → (∀ d ∈ ds, d.weight ≤ 1048576) → ∃ A : List Addr, (∀ u ∈ vs, OkU A u) ∧ ∀ a ∈ A, ArgOb h A a
  | [], _, x, _, _ => by
    cases x
    exact ⟨[], fun u m => absurd m (by simp), fun a m => absurd m (by simp)⟩
  | d :: ds, _, x, p, z => by
    obtain ⟨v, vs, rfl, x1, x2⟩ := well_cons x
    have q : plW d = true ∧ plWs ds = true := Bool.and_eq_true_iff.mp p
    obtain ⟨A, a1, a2⟩ := area_one d v x1 q.1 (z d (List.mem_cons_self ..))
    obtain ⟨B, b1, b2⟩ := area_all ds vs x2 q.2 fun e he => z e (List.mem_cons_of_mem _ he)
    have kA : ∀ b ∈ A, b ∈ A ++ B := fun b hb => List.mem_append.mpr (.inl hb)
    have kB : ∀ b ∈ B, b ∈ A ++ B := fun b hb => List.mem_append.mpr (.inr hb)
    refine ⟨A ++ B, fun u hu => ?_, fun b hb => ?_⟩
    · rcases List.mem_cons.mp hu with e | m
      · rw [e]
        exact a1.mono kA
      · exact (b1 u m).mono kB
    · rcases List.mem_append.mp hb with m | m
      · exact (a2 b m).mono kA
      · exact (b2 b m).mono kB
end
end
/-- what is tracked of an argument's object -/
def hoOf (o : Obj) : Option HO := match o.data with
  | .seq vs _ => if (o.cls == Value.type "list") = true then some (.frz o (.lst (vs.toList.map toV))) else some (.frz o (.tup (vs.toList.map toV)))
  | _ => none
def argH (K : PySem.W.Frag) (h : Heap) (A : List Addr) : Hp := fun b => if b ∈ A then (if (K.lookup b).isNone = true then (h.get? b).bind hoOf else none) else none
/-- nothing is tracked but what is known to the object -/
def OnlyF (H : Hp) : Prop := ∀ b, H b = none ∨ ∃ o u, H b = some (.frz o u)
theorem hoOf_lst (vs : List Value) : hoOf { cls := .type "list", data := .seq vs.toArray } = some (.frz { cls := .type "list", data := .seq vs.toArray } (.lst (vs.map toV))) := by
  show (if (Value.type "list" == Value.type "list") = true then some (HO.frz { cls := .type "list", data := .seq vs.toArray } (.lst (vs.toArray.toList.map toV))) else some (HO.frz { cls := .type "list", data := .seq vs.toArray } (.tup (vs.toArray.toList.map toV)))) = _
  rw [if_pos (beq_self_eq_true _)]
theorem hoOf_tup (vs : List Value) : hoOf { cls := .type "tuple", data := .seq vs.toArray } = some (.frz { cls := .type "tuple", data := .seq vs.toArray } (.tup (vs.map toV))) := by
  show (if (Value.type "tuple" == Value.type "list") = true then some (HO.frz { cls := .type "tuple", data := .seq vs.toArray } (.lst (vs.toArray.toList.map toV))) else some (HO.frz { cls := .type "tuple", data := .seq vs.toArray } (.tup (vs.toArray.toList.map toV)))) = _
  rw [if_neg (by decide)]
section
variable {P : Program} {w : World} {K : PySem.W.Frag} {h : Heap} {A : List Addr}
theorem argH_at {b : Addr} {o : Obj} (hb : b ∈ A) (hk : K.lookup b = none) (e : h.get? b = some o) : argH K h A b = hoOf o := by
  unfold argH
  rw [if_pos hb, hk, if_pos (show (none : Option Obj).isNone = true from rfl), e] <;> rfl
theorem of_argH {b : Addr} {u : HO} (q : argH K h A b = some u) : b ∈ A ∧ K.lookup b = none := by
  unfold argH at q
  by_cases hb : b ∈ A
  · rw [if_pos hb] at q
    cases hk : K.lookup b with
    | none => exact ⟨hb, rfl⟩
    | some o =>
      rw [hk, if_neg (by simp)] at q
      cases q
  · rw [if_neg hb] at q
    cases q
/-- what stands tracked -/
theorem argH_is (ar : ∀ a ∈ A, ArgOb h A a) {b : Addr} {u : HO} (q : argH K h A b = some u) : K.lookup b = none ∧ ∃ vs : List Value, vs.length ≤ sizeLine ∧ (∀ u ∈ vs, OkU A u) ∧
    ((h.get? b = some { cls := .type "list", data := .seq vs.toArray } ∧ u = .frz { cls := .type "list", data := .seq vs.toArray } (.lst (vs.map toV))) ∨
     (h.get? b = some { cls := .type "tuple", data := .seq vs.toArray } ∧ u = .frz { cls := .type "tuple", data := .seq vs.toArray } (.tup (vs.map toV)))) := by
  obtain ⟨hb, hk⟩ := of_argH q
  obtain ⟨vs, h1, h2, h3⟩ := ar b hb
  refine ⟨hk, vs, h1, h2, ?_⟩
  rcases h3 with e | e
  · rw [argH_at hb hk e, hoOf_lst] at q
    exact .inl ⟨e, (Option.some.inj q).symm⟩
  · rw [argH_at hb hk e, hoOf_tup] at q
    exact .inr ⟨e, (Option.some.inj q).symm⟩
theorem argH_only (ar : ∀ a ∈ A, ArgOb h A a) : OnlyF (argH K h A) := fun b => by
  cases q : argH K h A b with
  | none => exact .inl rfl
  | some u =>
    obtain ⟨_, vs, _, _, ⟨_, e⟩ | ⟨_, e⟩⟩ := argH_is ar q
    · exact .inr ⟨_, _, by rw [e]⟩
    · exact .inr ⟨_, _, by rw [e]⟩
theorem argH_ok (ar : ∀ a ∈ A, ArgOb h A a) : HOk P w (argH K h A) h := fun b u q => by
  obtain ⟨_, vs, h1, h2, ⟨e, rfl⟩ | ⟨e, rfl⟩⟩ := argH_is ar q
  · exact ⟨e, by rw [List.length_map]; exact h1, vs, _, vals_toV h2, e⟩
  · exact ⟨e, by rw [List.length_map]; exact h1, vs, vals_toV h2, _, e, rfl, _, rfl⟩
theorem seq_inj {c c' : Value} {vs us : List Value} (e : (some { cls := c, data := .seq vs.toArray } : Option Obj) = some { cls := c', data := .seq us.toArray }) : c = c' ∧ vs = us := by
  have e1 := Option.some.inj e
  have e2 : c = c' := congrArg Obj.cls e1
  have e3 : Data.seq vs.toArray = Data.seq us.toArray := congrArg Obj.data e1
  injection e3 with e4
  refine ⟨e2, ?_⟩
  have e5 := congrArg Array.toList e4
  simpa using e5
/-- a list argument -/
theorem argL (KX : K.In h) (ar : ∀ a ∈ A, ArgOb h A a) {a : Addr} {vs : List Value} (ha : a ∈ A) (e : h.get? a = some { cls := .type "list", data := .seq vs.toArray }) : (∀ u ∈ vs, OkU A u) ∧ SqL K (argH K h A) a (vs.map toV) := by
  obtain ⟨us, h1, h2, h3⟩ := ar a ha
  have hu : us = vs := by
    rcases h3 with q | q
    · rw [e] at q
      exact (seq_inj q).2.symm
    · rw [e] at q
      exact absurd (Value.type.inj (seq_inj q).1) (by decide)
  subst hu
  refine ⟨h2, ?_⟩
  cases hk : K.lookup a with
  | none => exact .inl (.inr ⟨_, by rw [argH_at ha hk e, hoOf_lst]⟩)
  | some o =>
    have e2 := KX a o hk
    rw [e] at e2
    obtain rfl := Option.some.inj e2
    exact .inr ⟨_, us.toArray, _, hk, rfl, rfl, rfl, by rw [List.size_toArray]; exact h1, by simpa using vals_toV h2⟩
theorem argT (KX : K.In h) (ar : ∀ a ∈ A, ArgOb h A a) {a : Addr} {vs : List Value} (ha : a ∈ A) (e : h.get? a = some { cls := .type "tuple", data := .seq vs.toArray }) : (∀ u ∈ vs, OkU A u) ∧ SqT K (argH K h A) a (vs.map toV) := by
  obtain ⟨us, h1, h2, h3⟩ := ar a ha
  have hu : us = vs := by
    rcases h3 with q | q
    · rw [e] at q
      exact absurd (Value.type.inj (seq_inj q).1) (by decide)
    · rw [e] at q
      exact (seq_inj q).2.symm
  subst hu
  refine ⟨h2, ?_⟩
  cases hk : K.lookup a with
  | none => exact .inl (.inr ⟨_, by rw [argH_at ha hk e, hoOf_tup]⟩)
  | some o =>
    have e2 := KX a o hk
    rw [e] at e2
    obtain rfl := Option.some.inj e2
    exact .inr ⟨_, us.toArray, _, hk, rfl, rfl, by rw [List.size_toArray]; exact h1, by simpa using vals_toV h2⟩
mutual
theorem dw_one {Pm : Params} (KX : K.In h) (ar : ∀ a ∈ A, ArgOb h A a) : ∀ (d : WData) (v : Value), Well Pm h v d → plW d = true → OkU A v → Dw K (argH K h A) (toV v) d
  | .none, _, x, _, _ => by
    cases x
    exact .non
  | .bool b, _, x, _, _ => by
    cases x
    exact .bl b
  | .int i, _, x, _, _ => by
    cases x
    exact .int i
  | .str s, _, x, _, _ => by
    cases x
    exact .str s
  | .bytes b, _, x, _, _ => by
    cases x
    have z := Dw.byt (K := K) (H := argH K h A) b.toArray
    exact z
  | .list ds, _, x, p, hu => by
    obtain ⟨a, vs, rfl, ho, hall⟩ := well_list x
    obtain ⟨h2, hs⟩ := argL KX ar hu ho
    exact .lst hs (dw_all KX ar ds _ hall p h2)
  | .tuple ds, _, x, p, hu => by
    obtain ⟨a, vs, rfl, ho, hall⟩ := well_tuple x
    obtain ⟨h2, hs⟩ := argT KX ar hu ho
    exact .tup hs (dw_all KX ar ds _ hall p h2)
  | .float _, _, _, p, _ => Bool.noConfusion (show false = true from p)
  | .dict _, _, _, p, _ => Bool.noConfusion (show false = true from p)
  | .bytearray _, _, _, p, _ => Bool.noConfusion (show false = true from p)
  | .set _, _, _, p, _ => Bool.noConfusion (show false = true from p)
  | .frozenset _, _, _, p, _ => Bool.noConfusion (show false = true from p)
  | .obj _ _, _, _, p, _ => Bool.noConfusion (show false = true from p)
theorem dw_all {Pm : Params} (KX : K.In h) (ar : ∀ a ∈ A, ArgOb h A a) : ∀ (ds : List WData) (vs : List Value), WellAll Pm h vs ds → plWs ds = true → (∀ u ∈ vs, OkU A u) → DwAll K (argH K h A) (vs.map toV) ds
  | [], _, x, _, _ => by
    cases x
    exact .nil
  | d :: ds, _, x, p, hu => by
    obtain ⟨v, vs, rfl, x1, x2⟩ := well_cons x
    have q : plW d = true ∧ plWs ds = true := Bool.and_eq_true_iff.mp p
    exact .cons (dw_one KX ar d v x1 q.1 (hu _ (List.mem_cons_self ..))) (dw_all KX ar ds vs x2 q.2 fun u m => hu u (List.mem_cons_of_mem _ m))
end
end
/-! ### the call -/
theorem spec_call {P : Program} {w : World} {K : PySem.W.Frag} {mg mb : Str → Option Value} {CX : CXT} {k : Nat} {fa : Addr} {fd : FuncData} {ps : List Str} {sp : Sp} {s₁ : Shared} {vals : List Value} {ds : List WData} {R : PySem.W.WRecords} {cl : Str → Option Addr} {d0 : WData}
    (KX : K.In s₁.heap) (hns : s₁.heap.Ns mainGlobals mg) (hb : s₁.heap.Ns builtinsNs mb) (hbb : ∀ x : Str, x ≠ "__name__" → mb x = bootBuiltins x) (hlim : s₁.heap.NoLimit) (hg : s₁.gens = #[])
    (hwl : WellAll w.params s₁.heap vals ds) (hpl : plWs ds = true) (hwt : ∀ d ∈ ds, d.weight ≤ 1048576) (hr : Room k callerA)
    (F : ∀ base : Heap, K.In base → base.Ns mainGlobals mg → FnOk P w K mg base CX k fa fd ps sp) (hbind : ∀ (s : Shared) (us : List Value), us.length = ps.length → BindsTo s fd ⟨us, []⟩ (ps.zip us)) (hlen : ds.length = ps.length)
    (hsp : ∀ (H : Hp) (xs : List V), OnlyF H → DwAll K H xs ds → sp xs H (fun v H' => Dw K H' v d0) fun _ _ _ => False)
    (hCX : ∀ H e s', CX [] H s₁ (fun _ _ _ => False) e s' → False) :
    codeAny (model P w) callerA (.call (.ref fa) ⟨vals, []⟩) (fun r s' => ∃ u as, r = .ok (.ret u) ∧ ReadsW R cl s'.heap u d0 as ∧ OldK s₁.heap s'.heap ∧ s'.os = s₁.os ∧ AllBare s'.gens) s₁ := by
  obtain ⟨A, ho, ar⟩ := area_all ds vals hwl hpl hwt
  have hO : OnlyF (argH K s₁.heap A) := argH_only ar
  have hok : HOk P w (argH K s₁.heap A) s₁.heap := argH_ok ar
  have hS := dw_all KX ar ds vals hwl hpl ho
  have hV := vals_toV ho
  have hK : ∀ b u, argH K s₁.heap A b = some u → K.lookup b = none := fun b u q => (argH_is ar q).1
  have noA : ∀ {b : Addr} {o : Obj} {es : Array DictEntry} {ep : Nat}, s₁.heap.get? b = some o → o.data = .dict es ep → argH K s₁.heap A b = none := fun {b o es ep} e d => by
    cases q : argH K s₁.heap A b with
    | none => rfl
    | some u =>
      obtain ⟨_, vs, _, _, ⟨e2, _⟩ | ⟨e2, _⟩⟩ := argH_is ar q
      · rw [e2] at e
        cases e
        have d' : Data.seq vs.toArray _ = Data.dict es ep := d
        cases d'
      · rw [e2] at e
        cases e
        have d' : Data.seq vs.toArray _ = Data.dict es ep := d
        cases d'
  generalize argH K s₁.heap A = H at hO hok hS hK noA
  have base_of : ∀ {b : Addr} {o : Obj}, s₁.heap.get? b = some o → H b = none → (hidT s₁.heap H).get? b = some o := fun e n => hidT_get e n
  have nsK : ∀ {b : Addr} {m : Str → Option Value}, s₁.heap.Ns b m → (hidT s₁.heap H).Ns b m := fun {b m} ⟨o, es, ep, e, d, r⟩ => ⟨o, es, ep, base_of e (noA e d), d, r⟩
  have nK : ∀ b o, K.lookup b = some o → H b = none := fun b o e => by
    cases q : H b with
    | none => rfl
    | some u =>
      rw [hK b u q] at e
      cases e
  have hKb : K.In (hidT s₁.heap H) := fun b o e => base_of (KX b o e) (nK b o e)
  have hM : Mod K mg (hidT s₁.heap H) := ⟨hKb, nsK hns, ⟨mb, nsK hb, hbb⟩, let ⟨mc, h1, h2⟩ := hlim; ⟨mc, nsK h1, h2⟩⟩
  have e0 : Env0 P w K mg (hidT s₁.heap H) callerA [] s₁ H := ⟨rfl, hM, fun b o e => of_hidT e, Nat.le_of_eq (hidT_size _ _), trivial, fun b hb => absurd (show b ∈ ([] : List Addr) from hb) (by simp), hok, .of_eq hg⟩
  have hl : vals.length = ps.length := by rw [wellAll_len hwl]; exact hlen
  refine codeAny_mono ((F _ hKb (nsK hns)).run callerA [] s₁ H ⟨vals, []⟩ vals (vals.map toV) _ _ hr e0 (hbind s₁ vals hl) hV (hsp H _ hO hS)) fun r s' x => ?_
  cases r with
  | error e => exact (hCX H e s' x).elim
  | ok fl =>
    cases fl with
    | next => exact False.elim x
    | brk => exact False.elim x
    | cont => exact False.elim x
    | ret u =>
      obtain ⟨v, H', os, bare, un, hok', r', q⟩ := x
      have kept : ∀ b o, s₁.heap.get? b = some o → s'.heap.get? b = some o := fun b o e => by
        cases q2 : H b with
        | none => exact un.keep b o e q2 (by intro z; exact absurd (show b ∈ ([] : List Addr) from z) (by simp)) (by simp)
        | some u2 =>
          rcases hO b with z | ⟨ob, u3, z⟩
          · rw [q2] at z
            cases z
          · have z2 := un.frzs b ob _ z
            obtain ⟨e1, _⟩ := hok b _ z
            obtain ⟨e2, _⟩ := hok' b _ z2
            rw [e] at e1
            cases e1
            exact e2
      have KX' : K.In s'.heap := fun b o e => kept b o (KX b o e)
      obtain ⟨as, hrd⟩ := Dw.reads (R := R) (cl := cl) hok' KX' d0 v u q r'
      exact ⟨u, as, rfl, hrd, OldK.of_keep kept, os, bare⟩
/-! ### the row -/
theorem layable_weight {ds : List WData} (h : WData.layableAll ds = true) : ∀ d ∈ ds, d.weight ≤ 1048576 := fun d hd =>
  (PySem.W.layableW_iff.mp (List.all_eq_true.mp h d hd)).2.2
theorem encAll_len : ∀ (cs : List Codec) (a : Codec.denoteAll cs), (Codec.encAll cs a).length = cs.length
  | [], _ => rfl
  | c :: cs, a => by
    show (Codec.encAll cs a.2).length + 1 = cs.length + 1
    rw [encAll_len cs a.2]
/-- the goal that k_headS leaves (case hc), from the promise of the row's def: whatever the arguments that the codecs let and the row asks for, the def gives what stands for enc (f ..) -/
theorem walk_spec {r : OpenSpec} {k : Nat} {q : Program} {loose : List Str} {XP : (Str → Option Value) → Heap → Prop} {YP : World → Heap → Prop} {d : DefRec} {K : Params → PySem.W.Frag} {CX : World → CXT} {ps : List Str} {sp : World → Sp}
    (hwell : r.wellSaid = true) (hdf : d.params.defaults = []) (hlen : r.args.length = ps.length) (hr : Room k callerA)
    (hY : ∀ (w : World) (h : Heap), YP w h → (K w.params).In h)
    (F : ∀ (w : World) (mg : Str → Option Value) (fa : Addr) (h : Heap), YP w h → (K w.params).In h → h.Ns mainGlobals mg → mg d.name = some (.ref fa) →
      ∃ fd : FuncData, (∀ (s : Shared) (us : List Value), us.length = ps.length → BindsTo s fd ⟨us, []⟩ (ps.zip us)) ∧
        ∀ base : Heap, (K w.params).In base → base.Ns mainGlobals mg → FnOk r.prog w (K w.params) mg base (CX w) k fa fd ps (sp w))
    (hsp : ∀ (w : World) (H : Hp) (xs : List V) (a : Codec.denoteAll r.args), OnlyF H → Codec.withinAll r.args a = true → Codec.app r.args r.asked a = true → DwAll (K w.params) H xs (Codec.encAll r.args a) →
      sp w xs H (fun v H' => Dw (K w.params) H' v (r.ret.enc (Codec.app r.args r.f a))) fun _ _ _ => False)
    (hCX : ∀ (w : World) (H : Hp) (s : Shared) (e : Value) (s' : Shared), CX w [] H s (fun _ _ _ => False) e s' → False) :
    PySem.W.WalkOS q loose XP YP r d [] (fun f vs => PySem.call f vs) := by
  intro w s_0 s₁ mg mb G Y fa o pm cd doc dV kV ho hd hcd hD hmg hg args vals as hpre hlay hrd hwl hlo
  obtain ⟨a, e1, e2⟩ := PySem.W.os_pre_some hpre
  obtain ⟨e3, hwi⟩ := Codec.encAll_of_decAll r.args args a e1
  subst e3
  have KX := hY w _ Y
  obtain ⟨fd, hb, hF⟩ := F w mg fa _ Y KX G.T.g hmg
  refine PySem.W.enter_call (codeAny_mono (spec_call (R := []) (cl := classAt s_0.heap) (d0 := r.ret.enc (Codec.app r.args r.f a)) KX G.T.g G.T.b G.T.builtins G.T.nolimit hg hwl (pl_encAll _ _) (layable_weight hlay) hr hF hb (by rw [encAll_len]; exact hlen)
    (fun H xs hO hS => hsp w H xs a hO hwi e2 hS) fun H e s' => hCX w H s₁ e s') fun r' s' hq => ?_)
  obtain ⟨u, as', rfl, h1, h2, h3, h4⟩ := hq
  exact ⟨.inl ⟨u, _, as', rfl, fun _ => rfl, h1, (OpenSpec.post_iff hwell hwi _ _).mpr rfl, fun z => Bool.noConfusion (show false = true from z)⟩, h2, h3, h4⟩
/-- the same where the promise hangs on the written part alone -/
theorem walk_specK {r : OpenSpec} {k : Nat} {q : Program} {loose : List Str} {XP : (Str → Option Value) → Heap → Prop} {YP : World → Heap → Prop} {d : DefRec} {K : Params → PySem.W.Frag} {CX : CXT} {ps : List Str} {sp : PySem.W.Frag → Sp}
    (hwell : r.wellSaid = true) (hdf : d.params.defaults = []) (hlen : r.args.length = ps.length) (hr : Room k callerA)
    (hY : ∀ (w : World) (h : Heap), YP w h → (K w.params).In h)
    (F : ∀ (w : World) (mg : Str → Option Value) (fa : Addr) (h : Heap), YP w h → (K w.params).In h → h.Ns mainGlobals mg → mg d.name = some (.ref fa) →
      ∃ fd : FuncData, (∀ (s : Shared) (us : List Value), us.length = ps.length → BindsTo s fd ⟨us, []⟩ (ps.zip us)) ∧
        ∀ base : Heap, (K w.params).In base → base.Ns mainGlobals mg → FnOk r.prog w (K w.params) mg base CX k fa fd ps (sp (K w.params)))
    (hsp : ∀ (K : PySem.W.Frag) (H : Hp) (xs : List V) (a : Codec.denoteAll r.args), OnlyF H → Codec.withinAll r.args a = true → Codec.app r.args r.asked a = true → DwAll K H xs (Codec.encAll r.args a) →
      sp K xs H (fun v H' => Dw K H' v (r.ret.enc (Codec.app r.args r.f a))) fun _ _ _ => False)
    (hCX : ∀ (H : Hp) (s : Shared) (e : Value) (s' : Shared), CX [] H s (fun _ _ _ => False) e s' → False) :
    PySem.W.WalkOS q loose XP YP r d [] (fun f vs => PySem.call f vs) :=
  walk_spec (K := K) (CX := fun _ => CX) (sp := fun w => sp (K w.params)) hwell hdf hlen hr hY F (fun w H xs a h1 h2 h3 h4 => hsp (K w.params) H xs a h1 h2 h3 h4) fun _ H s e s' => hCX H s e s'
end L2
-- rests on (row put in by the clerk, for the bench that shows a file only what it spells): KE.SpHead KE.OsShapes
end
set_option Elab.async false
set_option linter.all false
set_option maxRecDepth 100000
set_option maxHeartbeats 2000000
/-! EXCEPTIONS over the layer: an own class (of Exception) raised, leaving frames and a comprehension, caught by a try. -/
namespace JX
open PySem PySem.Spec L2
open PyProof.Rows hiding St frameOf
/-! ### an exception in flight -/
/-- what of the heap is fixed while the exception at a flies: B holds all but the frames that run, the exception and its traces -/
structure Fly (X : Cx) (pins : List (Addr × Obj)) (C a : Addr) (H : Hp) (B : Heap) (a0 fl : Value) (h : Heap) : Prop where
  st : B.StaysIn h
  en : B.get? a = none
  fr : h.FunFrames B X.stack
  tr : h.TracedAtW B a (.ref C) a0 fl
  c0 : ∀ b o, X.s_0.heap.get? b = some o → b ∉ X.fs → b ∉ X.ex → ∃ o', B.get? b = some o'
  c1 : ∀ b o, X.s_0.heap.get? b = some o → X.H_0 b = none → b ∉ X.fs → b ∉ X.ex → B.get? b = some o
  c2 : ∀ b u o, H b = some u → h.get? b = some o → B.get? b = some o
  c3 : ∀ p ∈ X.pn ++ pins, B.get? p.1 = some p.2
/-- how it lies behind a call -/
def CXN (P : Program) (w : World) (C : Addr) : CXT := fun outer H s E e s' => ∃ (a : Addr) (H' : Hp) (B : Heap) (a0 : Value), e = .ref a ∧ s'.os = s.os ∧ AllBare s'.gens ∧
  Un (frs outer) [] H H' s.heap s'.heap ∧ HOk P w H' s'.heap ∧ B.StaysIn s'.heap ∧ B.get? a = none ∧ s'.heap.FunFrames B outer ∧ s'.heap.TracedAtW B a (.ref C) a0 .none ∧
  (∀ b o, s.heap.get? b = some o → b ∉ frs outer → ∃ o', B.get? b = some o') ∧ (∀ b o, s.heap.get? b = some o → H b = none → b ∉ frs outer → B.get? b = some o) ∧
  (∀ b u o, H' b = some u → s'.heap.get? b = some o → B.get? b = some o) ∧ E (.ref C) none H'
/-- a tracked thing is there -/
theorem ob_there {P : Program} {w : World} {H : Hp} {h : Heap} {a : Addr} : ∀ {u : HO}, ObjOk P w H h a u → ∃ o, h.get? a = some o
  | .lst _, x => let ⟨_, _, _, _, e⟩ := x; ⟨_, e⟩
  | .tup _, x => let ⟨_, _, _, o, e, _⟩ := x; ⟨o, e⟩
  | .dK _, x => let ⟨_, _, _, _, o, _, _, e, _⟩ := x; ⟨o, e⟩
  | .dT _, x => let ⟨_, _, _, _, o, _, _, e, _⟩ := x; ⟨o, e⟩
  | .set _ _, x => let ⟨o, _, _, _, e, _⟩ := x; ⟨o, e⟩
  | .ins _ _ _, x => let ⟨_, _, _, e, _⟩ := x; ⟨_, e⟩
  | .own _, x => x
  | .xd _, x => let ⟨_, ⟨o, _, _, e, _⟩, _⟩ := x; ⟨o, e⟩
  | .rng _ _, x => let ⟨_, _, _, e⟩ := x; ⟨_, e⟩
  | .frz _ _, x => let ⟨e, _⟩ := x; ⟨_, e⟩
  | .tbl _, x => ⟨_, x⟩
  | .met _ _, x => ⟨_, x⟩
  | .ext _, x => let ⟨_, e, _⟩ := x; e
section
variable {X : Cx} {pins : List (Addr × Obj)} {σ : St} {H : Hp} {s : Shared} {B h2 : Heap} {C a : Addr} {a0 fl : Value}
/-- the state is as it was, but for the records of the exception and the frames' slots -/
theorem inv_up (I : Inv X pins σ H s) (st : B.StaysIn h2)
    (upf : ∀ b ∈ X.env.locals :: X.fs, ∀ o, s.heap.get? b = some o → ∃ sl, h2.get? b = some { o with slots := sl })
    (upc : ∀ x c, X.env.cells.lookup x = some c → ∀ v, s.heap.IsCell c v → h2.IsCell c v)
    (c0 : ∀ b o, X.s_0.heap.get? b = some o → b ∉ X.fs → b ∉ X.ex → ∃ o', B.get? b = some o')
    (c1 : ∀ b o, X.s_0.heap.get? b = some o → X.H_0 b = none → b ∉ X.fs → b ∉ X.ex → B.get? b = some o)
    (c2 : ∀ b u o, H b = some u → s.heap.get? b = some o → B.get? b = some o)
    (c3 : ∀ p ∈ X.pn ++ pins, B.get? p.1 = some p.2) : Inv X pins σ H { s with heap := h2 } := by
  have slot : ∀ b o, X.s_0.heap.get? b = some o → X.H_0 b = none → b ∈ X.fs → b ∉ X.ex → ∃ sl, h2.get? b = some { o with slots := sl } := fun b o e n hb hx => by
    obtain ⟨sl, e1⟩ := I.base.slot b o e n hb hx
    obtain ⟨sl2, e2⟩ := upf b (List.mem_cons_of_mem _ hb) _ e1
    exact ⟨sl2, e2⟩
  refine ⟨I.ok, I.os, I.bare, ⟨fun b o e n hb hx => st _ _ (c1 b o e n hb hx), slot, I.base.free, fun b o e hx => ?_, I.base.tups, I.base.frzs, I.base.tbls⟩, ?_, fun x c e => ?_, I.free, I.freeC, fun p hp => ?_, fun b u e => ?_, I.len⟩
  · by_cases hb : b ∈ X.fs
    · obtain ⟨sl, e1⟩ := slot b o e (I.ok.frf b hb) hb hx
      exact ⟨_, e1⟩
    · obtain ⟨o1, e1⟩ := c0 b o e hb hx
      exact ⟨o1, st _ _ e1⟩
  · obtain ⟨m, hn, hl⟩ := I.loc
    refine ⟨m, ?_, fun i x v e1 e2 e3 => ?_⟩
    · obtain ⟨o, es, ep, ho, hd, r⟩ := hn
      obtain ⟨sl, e1⟩ := upf _ List.mem_cons_self o ho
      exact ⟨_, es, ep, e1, hd, r⟩
    · obtain ⟨u, r, l⟩ := hl i x v e1 e2 e3
      refine ⟨u, r, ?_⟩
      rcases l with l | ⟨k, c, e, z⟩
      · exact .inl l
      · exact .inr ⟨k, c, e, upc x c e _ z⟩
  · obtain ⟨v, z⟩ := I.cell x c e
    exact ⟨v, upc x c e v z⟩
  · obtain ⟨e, n, ne, nf, d⟩ := I.pin p hp
    exact ⟨st _ _ (c3 p hp), n, ne, nf, d⟩
  · refine (I.hok b u e).stay (fun c v hc q => ?_) (fun _ q => q) fun _ _ q => q
    rcases hc with z | z
    · exact st _ _ (c2 c u v (by rw [z]; exact e) q)
    · exact st _ _ (c2 c _ v z q)
/-- the frames that run are no records -/
theorem fr_up (hl : s.heap.FunFrames B X.stack) (up : s.heap.UpToSlots h2) (I : Inv X pins σ H s) : ∀ b ∈ X.env.locals :: X.fs, ∀ o, s.heap.get? b = some o → ∃ sl, h2.get? b = some { o with slots := sl } := fun b hb o e => by
  refine up b o e fun vs q => ?_
  rcases List.mem_cons.mp hb with z | z
  · obtain ⟨m, ⟨o1, es, ep, ho, hd, _⟩, _⟩ := I.loc
    rw [z, ho] at e
    cases e
    rw [hd] at q
    cases q
  · obtain ⟨_, o1, ho, hd⟩ := I.funs.mem z
    rw [ho] at e
    cases e
    exact hd vs q
theorem cl_up (up : s.heap.UpToSlots h2) : ∀ x c, X.env.cells.lookup x = some c → ∀ v, s.heap.IsCell c v → h2.IsCell c v := fun x c _ v ⟨o, ho, hd⟩ => by
  obtain ⟨sl, e⟩ := up c o ho fun vs q => by rw [hd] at q; cases q
  exact ⟨_, e, hd⟩
theorem nfs (I : Inv X pins σ H s) {b : Addr} {o : Obj} (e : X.s_0.heap.get? b = some o) (hb : b ∉ X.fs) : b ∉ frs X.stack := fun z => by
  rcases List.mem_cons.mp (I.stkSub b z) with q | q
  · exact absurd (Nat.lt_of_lt_of_le (Heap.lt_size e) I.ok.above) (by rw [q]; exact Nat.lt_irrefl _)
  · exact hb q
/-- behind a call that raised: the body's state, the exception in flight -/
theorem CXN.fly {E : XK} {e : Value} {s2 : Shared} (I : Inv X pins σ H s) (h : CXN X.prog X.w C X.stack H s E e s2) :
    ∃ (a : Addr) (H2 : Hp) (B : Heap) (a0 : Value), e = .ref a ∧ Inv X pins σ H2 s2 ∧ Fly X pins C a H2 B a0 .none s2.heap ∧ E (.ref C) none H2 := by
  obtain ⟨a, H2, B, a0, rfl, os, bare, un, hok, st, en, fr, tr, c0, c1, c2, hE⟩ := h
  refine ⟨a, H2, B, a0, rfl, I.call' (ch := []) os un hok bare (fun b z => absurd z (by simp)), ⟨st, en, fr, tr, fun b o e hb hx => ?_, fun b o e n hb hx => ?_, c2, fun p hp => ?_⟩, hE⟩
  · obtain ⟨o1, e1⟩ := I.base.there b o e hx
    exact c0 b o1 e1 (nfs I e hb)
  · exact c1 b o (I.base.keep b o e n hb hx) (I.base.free b o e n hx) (nfs I e hb)
  · obtain ⟨e, n, ne, nf, d⟩ := I.pin p hp
    refine c1 _ _ e n fun z => ?_
    rcases List.mem_cons.mp (I.stkSub _ z) with q | q
    · exact ne q
    · exact nf q
/-- a body's exception as it lies behind the call of this body -/
theorem cxn_mk {E : XK} (hex : X.ex = []) (I : Inv X pins σ H s) (st : B.StaysIn h2) (en : B.get? a = none) (fr : h2.FunFrames B X.outer) (tr : h2.TracedAtW B a (.ref C) a0 .none)
    (upf : ∀ b ∈ X.env.locals :: X.fs, ∀ o, s.heap.get? b = some o → ∃ sl, h2.get? b = some { o with slots := sl })
    (upc : ∀ x c, X.env.cells.lookup x = some c → ∀ v, s.heap.IsCell c v → h2.IsCell c v)
    (c0 : ∀ b o, X.s_0.heap.get? b = some o → b ∉ X.fs → b ∉ X.ex → ∃ o', B.get? b = some o')
    (c1 : ∀ b o, X.s_0.heap.get? b = some o → X.H_0 b = none → b ∉ X.fs → b ∉ X.ex → B.get? b = some o)
    (c2 : ∀ b u o, H b = some u → s.heap.get? b = some o → B.get? b = some o)
    (c3 : ∀ p ∈ X.pn ++ pins, B.get? p.1 = some p.2) (hE : E (.ref C) none H) : CXN X.prog X.w C X.outer X.H_0 X.s_0 E (.ref a) { s with heap := h2 } := by
  have J := inv_up I st upf upc c0 c1 c2 c3
  have nx : ∀ b, b ∉ X.ex := fun b z => by rw [hex] at z; cases z
  have jb : Un X.fs [] X.H_0 H X.s_0.heap h2 := by
    have z := J.base
    rw [hex] at z
    exact z
  refine ⟨a, H, B, a0, rfl, J.os, J.bare, jb, J.hok, st, en, fr, tr, fun b o e hb => c0 b o e hb (nx b), fun b o e n hb => c1 b o e n hb (nx b), fun b u o e q => ?_, hE⟩
  obtain ⟨o1, e1⟩ := ob_there (I.hok b u e)
  have e2 := c2 b u o1 e e1
  have e3 := st b o1 e2
  have q : h2.get? b = some o := q
  rw [q] at e3
  cases e3
  exact e2
end
/-! ### a frame noted, left, whatever the flight's mark -/
section
variable {M : Model} {A : Around} {E : Value → Shared → Prop} {s : Shared} {B : Heap} {env : Env} {outer : List Env} {L e : Addr} {cls a0 fl : Value} {Q : Unit → Shared → Prop}
theorem note_any (hfr : A.frames = some (env :: outer)) (hl : s.heap.FunFrames B (env :: outer)) (hf : env.frame = some L) (ht : s.heap.TracedAtW B e cls a0 fl) (hkb : B.StaysIn s.heap) (hen : B.get? e = none)
    (h : ∀ h', Heap.NotedW B (env :: outer) e cls a0 (rawInt L) s.heap h' → Q () { s with heap := h' }) : wpAny M A (noteFrame (.ref e) env) Q E s := by
  by_cases hq : fl = rawInt L
  · subst hq
    exact wpAny_noteFrame_againW hf ht (h s.heap ⟨hkb, hl, ht, Heap.UpToSlots.refl _⟩)
  · obtain ⟨oe, vs, T, oT, ts, he, ⟨hc, h0⟩, hd, h1, nT, Te, hT, dT, h3⟩ := ht
    subst hc
    unfold noteFrame
    simp only [hf]
    refine wpAny_bind (wpAny_field he hd h1 ?_)
    rw [if_pos (show (Value.ref T != Value.none) = true by simp)]
    refine wpAny_bind (wpAny_field hT dT h3 ?_)
    rw [if_neg (show ¬ (fl == rawInt L) = true from fun z => hq (by simpa using z))]
    refine wpAny_bind (wpAny_setField hT dT (Array.getElem?_eq_some_iff.mp h3).1 ?_)
    have oth : ∀ b, b ≠ T → (s.heap.update T (Obj.mapFields (·.setIfInBounds 3 Value.none))).get? b = s.heap.get? b := fun b hb => Heap.get?_update_other _ _ fun z => hb z.symm
    have nor : ∀ b o, s.heap.get? b = some o → (∀ vs, o.data ≠ .fields vs) → b ≠ T := fun b o hb hn q => by
      rw [q, hT] at hb
      cases hb
      exact hn ts dT
    refine wpAny_entryW hfr (hl.of_keeps fun b o hb hn => ⟨o, (oth b (nor b o hb hn)).trans hb, rfl⟩) hf ((oth e fun z => Te z.symm).trans he)
      (fun b o hbo => (oth b fun q => by rw [q, nT] at hbo; cases hbo).trans (hkb b o hbo)) hen hd (Array.getElem?_eq_some_iff.mp h1).1 h0 fun h' z => ?_
    obtain ⟨x1, x2, x3, x4⟩ := z
    exact h h' ⟨x1, x2, x3, fun b o hb hn => x4 b o ((oth b (nor b o hb hn)).trans hb) hn⟩
theorem leave_any (hfr : A.frames = some (env :: outer)) (hl : s.heap.FunFrames B (env :: outer)) (hf : env.frame = some L) (ht : s.heap.TracedAtW B e cls a0 fl) (hkb : B.StaysIn s.heap) (hen : B.get? e = none)
    (h : ∀ h', Heap.LeftW B (env :: outer) e cls a0 s.heap h' → Q () { s with heap := h' }) : wpAny M A (leaving env (.ref e)) Q E s := by
  unfold leaving
  refine wpAny_bind (note_any hfr hl hf ht hkb hen fun h1 ⟨x1, x2, x3, x4⟩ => ?_)
  refine wpAny_setFlight_noneW (s := { s with heap := h1 }) x1 x2 x3 fun h2 k1 k2 k3 k4 => h h2 ⟨k1, k2, k3, fun b o hb hn => ?_⟩
  obtain ⟨sl, e1⟩ := x4 b o hb hn
  exact ⟨sl, k4 b _ e1 hn⟩
end
theorem noteFrame_same {e : Value} {e1 e2 : Env} (h : e1.frame = e2.frame) : noteFrame e e1 = noteFrame e e2 := by
  unfold noteFrame PySem.frameOf
  rw [h]
/-! ### where an exception of this body goes -/
def Lands (X : Cx) (C : Addr) (Ex : XK) : Prop := ∀ (pins : List (Addr × Obj)) (σ : St) (H : Hp) (a : Addr) (B : Heap) (a0 fl : Value) (s : Shared), Inv X pins σ H s → Fly X pins C a H B a0 fl s.heap → Ex (.ref C) none H → X.xe (.ref a) s
theorem Lands.passes {X : Cx} {C : Addr} {Ex : XK} (h : Lands X C Ex) : Passes (CXN X.prog X.w C) X Ex := fun pins σ H s e s2 I q => by
  obtain ⟨a, H2, B, a0, rfl, I2, F2, hE⟩ := CXN.fly I q
  exact h pins σ H2 a B a0 .none s2 I2 F2 hE
section
variable {P : Program} {w : World} {K : PySem.W.Frag} {mg : Str → Option Value} {base : Heap} {N : List Str} {qual : Str} {scope : Scope} {f : Addr} {cd : Value} {A : Around} {outer : List Env} {s0 : Shared} {H0 : Hp} {E : XK} {C : Addr}
/-- out of a def -/
theorem lands_def : Lands (cxOf (CXN P w C) P w K mg base N qual scope f cd A outer s0 H0 E) C E := fun pins σ H a B a0 fl s I F hE => by
  show wpAny _ _ (leaving _ _) _ _ s
  refine leave_any (B := B) (a0 := a0) (fl := fl) I.ok.frames F.fr rfl F.tr F.st F.en fun h2 ⟨k1, ⟨_, _, k2⟩, k3, k4⟩ => ?_
  exact cxn_mk (X := cxOf (CXN P w C) P w K mg base N qual scope f cd A outer s0 H0 E) rfl I k1 F.en k2 k3 (fr_up F.fr k4 I) (cl_up (X := cxOf (CXN P w C) P w K mg base N qual scope f cd A outer s0 H0 E) k4) F.c0 F.c1 F.c2 F.c3 hE
end
/-! ### raise -/
/-- the own exception class at C, of Exception -/
def Exc (K : PySem.W.Frag) (C : Addr) : Prop := PySem.W.excIn K C [.type "Exception", .type "BaseException", .type "object"] "Exception.__new__" = true
theorem exc_obj {K : PySem.W.Frag} {h : Heap} {C : Addr} (X : K.In h) (q : Exc K C) :
    ∃ bm N nm qn bs hdct sn sub ab col dd k0 k1 k2 k3 k5 mN, h.get? C = some (excClassObj nm qn C N bs bm hdct sn sub ab col dd k0 k1 k2 k3 k5 "Exception.__new__") ∧ h.Ns N mN ∧ mN "__init__" = none ∧
      OwnTail h [.type "Exception", .type "BaseException", .type "object"] bm := by
  unfold Exc PySem.W.excIn at q
  split at q
  · rename_i d1 c1 s1 look
    split at q
    · rename_i C1 bm k0 k1 k2 k3 n k5 em es
      simp only [Bool.and_eq_true, beq_iff_eq, Bool.not_eq_true'] at q
      obtain ⟨⟨⟨⟨⟨rfl, rfl⟩, del0⟩, tl⟩, nok⟩, nin⟩ := q
      obtain ⟨nm, bs, mro, ns, qn, hdc, sn, sub, ab, col, del⟩ := c1
      dsimp only at em del0 nok nin
      subst em del0
      have sleq : s1 = #[k0, k1, k2, k3, some (.builtin "Exception.__new__"), k5] := by
        obtain ⟨l⟩ := s1
        simp only at es
        rw [es]
      subst sleq
      exact ⟨bm, ns, nm, qn, bs, hdc, sn, sub, ab, col, d1, k0, k1, k2, k3, k5, _, X _ _ look, .of_isNs (PySem.W.isNs_of_in X nok), PySem.W.nsMap_none_of_in X nok nin, PySem.W.tail_of_in X tl⟩
    · cases q
  · cases q
def Raises (X : Cx) (C : Addr) (Ex : XK) : Prop := ∀ (pins : List (Addr × Obj)) (σ : St) (H : Hp) (s : Shared) (h' : Heap) (e : Addr) (vs : List Value), Inv X pins σ H s → Heap.MadeExcOf s.heap h' e (.ref C) vs → Ex (.ref C) none H → X.xe (.ref e) { s with heap := h' }
def tRaise (C : Addr) (Ex : XK) (ta : TA) : TS := fun _ σ H => ta σ H fun vs H1 => vs.length ≤ sizeLine ∧ Ex (.ref C) none H1
theorem ps_raise {X : Cx} {C : Addr} {Ex : XK} {x : Str} {np cpos pos : Pos} {e0 : Expr} {ta : TA} (hR : Raises X C Ex) (EC : Exc X.K C) (hc : X.calm = true) (hg : Gl X x) (hm : X.mg x = some (.ref C)) (ha : PA X [e0] ta)
    (hd : (x == ("__debug__" : Str)) = false := by decide) (hs : starEach [e0] X.env = [(false, eval e0 X.env)] := by rfl) : PS X (.Raise (some (.Call (.Name x np) [e0] [] cpos)) none pos) (tRaise C Ex ta) := by
  intro pins s σ H D I h
  obtain ⟨bm, N, nm, qn, bs, hdct, sn, sub, ab, col, dd, k0, k1, k2, k3, k5, mN, hC, hN, hni, TL⟩ := exc_obj I.mod.kin EC
  refine wpAny_Raise_call_subT (C := C) (nm := nm) (q := qn) (N := N) (bs := bs) (bm := bm) (hdct := hdct) (sn := sn) (sub := sub) (ab := ab) (col := col) (dd := dd) (k0 := k0) (k1 := k1) (k2 := k2) (k3 := k3) (k5 := k5)
    PySem.F.excBase_Exception (mN := mN) (TL.hasType (by decide +kernel)) (I.ok.hd hc) (by rw [hs]; rfl) hni (ld_glob I hg hm ⟨rfl, ?_⟩ hd)
  have hA := ha cpos pins s σ H _ I h
  rw [hs] at hA ⊢
  refine Calls.evalArgs_plain (thn hA fun vs s2 ⟨xs, H1, I1, r1, q1, q2⟩ => ⟨rfl, by rw [← r1.length]; exact q1, I1.bk _ _ hC, hN.keeps I1.bk, TL.keeps I1.bk, fun h' e hx => hR pins σ H1 s2 h' e vs I1 hx q2⟩)
section
variable {P : Program} {w : World} {K : PySem.W.Frag} {mg : Str → Option Value} {base : Heap} {N : List Str} {qual : Str} {scope : Scope} {f : Addr} {cd : Value} {A : Around} {outer : List Env} {s0 : Shared} {H0 : Hp} {E : XK} {C : Addr}
theorem raises_def : Raises (cxOf (CXN P w C) P w K mg base N qual scope f cd A outer s0 H0 E) C E := fun pins σ H s h1 e vs I hx hE => by
  have st := I.stack
  generalize hX : cxOf (CXN P w C) P w K mg base N qual scope f cd A outer s0 H0 E = X at I st
  have hk : X.stack = X.env :: X.outer := by subst hX; rfl
  have hfs : X.fs = frs outer := by subst hX; rfl
  have hxe : X.xe = fun e s' => wpAny (model P w) X.A (leaving X.env e) (fun _ s'' => CXN P w C X.outer X.H_0 X.s_0 E e s'') (fun e' s'' => CXN P w C X.outer X.H_0 X.s_0 E e' s'') s' := by subst hX; rfl
  have hex : X.ex = [] := by subst hX; rfl
  have hpr : CXN P w C = CXN X.prog X.w C := by subst hX; rfl
  have hfr : X.env.frame = some X.env.locals := by subst hX; rfl
  rw [hxe, hpr]
  have hin : ∀ env ∈ X.stack, ∀ b, env.frame = some b → b ∈ frs X.stack := fun env he b hb => List.mem_filterMap.mpr ⟨env, he, hb⟩
  have cov : ∀ b o, s.heap.get? b = some o → b ∉ frs X.stack → (PySem.W.hideAll s.heap (frs X.stack)).get? b = some o := fun b o e n => PySem.W.hideAll_get _ e n
  have ff := PySem.W.funFrames_hide st hin
  have kp : ∀ b o, s.heap.get? b = some o → h1.get? b = some o := hx.keeps
  refine wpAny_leaves_madeW (base := PySem.W.hideAll s.heap (frs X.stack)) (h := s.heap) (env := X.env) (outer := X.outer) (by rw [← hk]; exact I.ok.frames) hfr (fun b o q => PySem.W.of_hideAll _ q) (by rw [← hk]; exact ff) hx fun h2 t ⟨k1, k2, k3, k4⟩ _ _ up => ?_
  have J : Inv X pins σ H { s with heap := h1 } := I.kept (t' := s.toks) kp
  have nt : ∀ b u, H b = some u → b ∉ frs X.stack := fun b u e z => by
    rw [I.stkFree b z] at e
    cases e
  refine cxn_mk (X := X) (s := { s with heap := h1 }) hex J k1 k2 k3 k4 (fr_up (B := PySem.W.hideAll s.heap (frs X.stack)) (ff.of_keeps fun b o e _ => ⟨o, kp b o e, rfl⟩) up J) (cl_up (X := X) up) (fun b o e hb hx' => ?_) (fun b o e n hb hx' => ?_) (fun b u o e q => ?_) (fun p hp => ?_) hE
  · obtain ⟨o1, e1⟩ := I.base.there b o e hx'
    exact ⟨o1, cov b o1 e1 (nfs I e hb)⟩
  · exact cov b o (I.base.keep b o e n hb hx') (nfs I e hb)
  · obtain ⟨o1, e1⟩ := ob_there (I.hok b u e)
    have e2 := kp b o1 e1
    have q : h1.get? b = some o := q
    rw [q] at e2
    cases e2
    exact cov b _ e1 (nt b u e)
  · obtain ⟨e, n, ne, nf, d⟩ := I.pin p hp
    refine cov _ _ e fun z => ?_
    rcases List.mem_cons.mp (I.stkSub _ z) with q | q
    · exact ne q
    · exact nf q
end
end JX
set_option Elab.async false
set_option linter.all false
set_option maxRecDepth 100000
set_option maxHeartbeats 2000000
namespace JX
open PySem PySem.Spec L2
open PyProof.Rows hiding St frameOf passOn
/-! ### an exception out of a comprehension's block -/
abbrev blkE (X : Cx) (s : Shared) (H : Hp) (scope : Scope) (cenv : Env) (fp : List Addr) (E : Value → Shared → Prop) : Cx := (X.blk s H scope cenv fp).wish E
theorem ff_keep {h h' B B' : Heap} : ∀ {l : List Env}, h.FunFrames B l → (∀ b ∈ frs l, ∀ o, h.get? b = some o → (∀ vs, o.data ≠ .fields vs) → h'.get? b = some o) → (∀ b, B.get? b = none → B'.get? b = none) → h'.FunFrames B' l
  | [], _, _, _ => trivial
  | env :: r, ⟨hk, ⟨L, o, hf, hn, ho, hd⟩, hr⟩, k, n => by
    have mL : L ∈ frs (env :: r) := List.mem_filterMap.mpr ⟨env, List.mem_cons_self, hf⟩
    refine ⟨hk, ⟨L, o, hf, n L hn, k L mL o ho hd, hd⟩, ff_keep hr (fun b hb => k b ?_) n⟩
    obtain ⟨e, he, q⟩ := List.mem_filterMap.mp hb
    exact List.mem_filterMap.mpr ⟨e, List.mem_cons_of_mem _ he, q⟩
section
variable {X : Cx}
theorem fr_nf {pins : List (Addr × Obj)} {σ : St} {H : Hp} {s : Shared} (I : Inv X pins σ H s) : ∀ b ∈ X.env.locals :: X.fs, ∀ o, s.heap.get? b = some o → ∀ vs, o.data ≠ .fields vs := fun b hb o e vs q => by
  rcases List.mem_cons.mp hb with z | z
  · obtain ⟨m, ⟨o1, es, ep, ho, hd, _⟩, _⟩ := I.loc
    rw [z, ho] at e
    cases e
    rw [hd] at q
    cases q
  · obtain ⟨_, o1, ho, hd⟩ := I.funs.mem z
    rw [ho] at e
    cases e
    exact hd vs q
theorem fr_lt {pins : List (Addr × Obj)} {σ : St} {H : Hp} {s : Shared} (I : Inv X pins σ H s) : ∀ b ∈ X.env.locals :: X.fs, b < s.heap.objs.size := fun b hb => by
  rcases List.mem_cons.mp hb with z | z
  · rw [z]; exact I.lt
  · obtain ⟨_, o1, ho, _⟩ := I.funs.mem z
    exact Heap.lt_size ho
theorem lands_blk {C : Addr} {Ex : XK} (hL : Lands X C Ex) (hk : X.stack = X.env :: X.outer) (hfr : X.env.frame = some X.env.locals) {pins : List (Addr × Obj)} {σ : St} {H3 : Hp} {s3 : Shared} (I3 : Inv X pins σ H3 s3)
    {scope : Scope} {ce : Env} {fp : List Addr} {D : Addr} {use : Option (Value → Sem Unit)} {Qf : Value → Shared → Prop} (hcf : ce.frame = X.env.frame) (hcL : ce.locals = s3.heap.objs.size) (f3 : ∀ b ∈ fp, FpOk X pins H3 b ∧ b < s3.heap.objs.size) :
    Lands (blkE X s3 H3 scope ce fp (notedBy (model X.prog X.w) X.A ce fun e s' => compPost (model X.prog X.w) X.A X.xe use Qf (.ref D) s3.heap.objs.size (.error e) s')) C Ex := by
  intro pins' σ' H' a B a0 fl s' I6 F6 hE
  have I7 : Inv X pins σ H' s' := I3.call' (ch := fp) I6.os I6.base I6.hok I6.bare fun b hb => ⟨(f3 b hb).1.2.2.2.1, (f3 b hb).1.2.1, (f3 b hb).1.2.2.2.2.1, (f3 b hb).1.2.2.2.2.2⟩
  show wpAny _ _ (noteFrame (.ref a) ce) _ _ s'
  rw [noteFrame_same hcf]
  refine note_any (B := B) (a0 := a0) (fl := fl) (cls := .ref C) (outer := X.outer) (by rw [← hk]; exact I3.ok.frames) (by rw [← hk]; exact F6.fr) hfr F6.tr F6.st F6.en fun h2 ⟨k1, k2, k3, k4⟩ => ?_
  obtain ⟨m, hn, _⟩ := I6.loc
  have hn : s'.heap.Ns ce.locals m := hn
  rw [hcL] at hn
  have hfree : H' s3.heap.objs.size = none := by
    have z : H' ce.locals = none := I6.free
    rw [hcL] at z
    exact z
  generalize hC' : s3.heap.objs.size = C' at hn hfree ⊢
  have hn2 : h2.Ns C' m := Heap.UpToSlots.ns k4 hn
  obtain ⟨oe, vs, T, oT, ts, he, hcls, hd, h1, nT, Te, hT, dT, t3⟩ := k3
  have rec_ne : ∀ {b : Addr} {o : Obj} {ws : Array Value}, h2.get? b = some o → o.data = .fields ws → b ≠ C' := fun {b o ws} e d z => by
    obtain ⟨o2, es, ep, ho2, hd2, _⟩ := hn2
    rw [z, ho2] at e
    cases e
    rw [hd2] at d
    cases d
  have aC : a ≠ C' := rec_ne he hd
  have TC : T ≠ C' := rec_ne hT dT
  have main : ∃ m, h2.Ns C' m ∧ ∀ h', Heap.SameBut C' h2 h' → ∀ cenv : Env, cenv.locals = C' → wpAny (model X.prog X.w) X.A (passOn "comprehension.variables-let-go" (.ref a) cenv : Sem Value) (fun _ _ => False) X.xe { s' with heap := h' } := by
    refine ⟨m, hn2, fun h3 sb cenv _ => ?_⟩
    have he3 : h3.get? a = some oe := (sb.2 a aC).trans he
    have hT3 : h3.get? T = some oT := (sb.2 T TC).trans hT
    have z3 : 3 < ts.size := (Array.getElem?_eq_some_iff.mp t3).1
    have fin : ∀ v : Value, X.xe (.ref a) { s' with heap := h3.update T (Obj.mapFields (·.setIfInBounds 3 v)) } := fun v => by
      generalize h4e : h3.update T (Obj.mapFields (·.setIfInBounds 3 v)) = h4
      have oth : ∀ b, b ≠ T → h4.get? b = h3.get? b := fun b hb => by rw [← h4e]; exact Heap.get?_update_other _ _ fun z => hb z.symm
      have k24 : ∀ b o, h2.get? b = some o → b ≠ C' → b ≠ T → h4.get? b = some o := fun b o e n1 n2 => by rw [oth b n2, sb.2 b n1]; exact e
      have toB : ∀ b o, B.get? b = some o → b ≠ C' → (PySem.W.hideAll B [C']).get? b = some o := fun b o e n => PySem.W.hideAll_get _ e (by simpa using n)
      have noB : ∀ b, B.get? b = none → (PySem.W.hideAll B [C']).get? b = none := fun b e => by
        cases q : (PySem.W.hideAll B [C']).get? b with
        | none => rfl
        | some o =>
          have z := PySem.W.of_hideAll _ q
          rw [e] at z
          cases z
      have st4 : (PySem.W.hideAll B [C']).StaysIn h4 := fun b o e => by
        have e1 := PySem.W.of_hideAll _ e
        refine k24 b o (k1 b o e1) (fun z => ?_) fun z => ?_
        · rw [z, PySem.W.hideAll_none [C'] (by simp)] at e
          cases e
        · rw [z, nT] at e1
          cases e1
      have old : ∀ {b : Addr} {o : Obj}, X.s_0.heap.get? b = some o → b ∉ X.ex → b ∉ fp ∧ b ≠ C' := fun {b o} e hx => by
        refine ⟨fun hb => ?_, fun z => ?_⟩
        · rcases (f3 b hb).1.2.2.2.1 with q | q
          · exact hx q
          · exact absurd (Nat.lt_of_lt_of_le (Heap.lt_size e) q) (Nat.lt_irrefl _)
        · obtain ⟨o1, e1⟩ := I3.base.there b o e hx
          rw [z, ← hC'] at e1
          exact absurd (Heap.lt_size e1) (Nat.lt_irrefl _)
      have c0 : ∀ b o, X.s_0.heap.get? b = some o → b ∉ X.fs → b ∉ X.ex → ∃ o', (PySem.W.hideAll B [C']).get? b = some o' := fun b o e hb hx => by
        obtain ⟨o1, e1⟩ := I3.base.there b o e hx
        obtain ⟨o2, e2⟩ := F6.c0 b o1 e1 (nfs I3 e hb) (old e hx).1
        exact ⟨o2, toB b o2 e2 (old e hx).2⟩
      have c1 : ∀ b o, X.s_0.heap.get? b = some o → X.H_0 b = none → b ∉ X.fs → b ∉ X.ex → (PySem.W.hideAll B [C']).get? b = some o := fun b o e n hb hx =>
        toB b o (F6.c1 b o (I3.base.keep b o e n hb hx) (I3.base.free b o e n hx) (nfs I3 e hb) (old e hx).1) (old e hx).2
      have c2 : ∀ b u o, H' b = some u → s'.heap.get? b = some o → (PySem.W.hideAll B [C']).get? b = some o := fun b u o e q => toB b o (F6.c2 b u o e q) fun z => by rw [z, hfree] at e; cases e
      have c3 : ∀ p ∈ X.pn ++ pins, (PySem.W.hideAll B [C']).get? p.1 = some p.2 := fun p hp => by
        obtain ⟨e, n, ne, nf, d⟩ := I3.pin p hp
        have nst : p.1 ∉ frs X.stack := fun z => by
          rcases List.mem_cons.mp (I3.stkSub _ z) with q | q
          · exact ne q
          · exact nf q
        refine toB _ _ (F6.c1 _ _ e n nst fun hb => (f3 _ hb).1.2.2.2.2.2 p hp rfl) fun z => ?_
        rw [z, ← hC'] at e
        exact absurd (Heap.lt_size e) (Nat.lt_irrefl _)
      have notT : ∀ {b : Addr} {o : Obj}, h2.get? b = some o → (∀ vs, o.data ≠ .fields vs) → b ≠ T := fun {b o} e d z => by
        rw [z, hT] at e
        cases e
        exact d ts dT
      refine hL pins σ H' a (PySem.W.hideAll B [C']) a0 v { s' with heap := h4 } (inv_up I7 st4 (fun b hb o e => ?_) (fun x c e w z => ?_) c0 c1 c2 c3) ⟨st4, noB a F6.en, ?_, ?_, c0, c1, fun b u o e q => ?_, c3⟩ hE
      · obtain ⟨sl, e2⟩ := fr_up (X := X) (B := B) F6.fr k4 I7 b hb o e
        have nf := fr_nf I7 b hb o e
        refine ⟨sl, k24 b _ e2 (fun z => ?_) (notT e2 nf)⟩
        have lt := fr_lt I3 b hb
        rw [z, ← hC'] at lt
        exact Nat.lt_irrefl _ lt
      · obtain ⟨o2, ho2, hd2⟩ := cl_up (X := X) k4 x c e w z
        refine ⟨o2, k24 c o2 ho2 (fun z => ?_) (notT ho2 fun vs q => by rw [hd2] at q; cases q), hd2⟩
        obtain ⟨v3, q3⟩ := I3.cell x c e
        have lt := q3.lt
        rw [z, ← hC'] at lt
        exact Nat.lt_irrefl _ lt
      · rw [hk]
        refine ff_keep k2 (fun b hb o e d => k24 b o e (fun z => ?_) (notT e d)) noB
        rw [← hk] at hb
        have lt := fr_lt I3 b (I3.stkSub b hb)
        rw [z, ← hC'] at lt
        exact Nat.lt_irrefl _ lt
      · refine ⟨oe, vs, T, Obj.mapFields (·.setIfInBounds 3 v) oT, ts.setIfInBounds 3 v, (oth a fun z => Te z.symm).trans he3, hcls, hd, h1, noB T nT, Te, ?_, Obj.data_mapFields dT _, ?_⟩
        · rw [← h4e]
          exact Heap.get?_update_self _ hT3 (Obj.isFreed_of_fields (Obj.data_mapFields dT _))
        · simp [z3]
      · obtain ⟨o1, e1⟩ := ob_there (I7.hok b u e)
        have e2 := c2 b u o1 e e1
        have e3 := st4 b o1 e2
        have q : h4.get? b = some o := q
        rw [q] at e3
        cases e3
        exact e2
    unfold PySem.passOn
    refine wpAny_bind (wpAny_field he3 hd h1 ?_)
    rw [if_neg (show ¬ (Value.ref T == Value.none) = true by simp)]
    have step : wpAny (model X.prog X.w) X.A (setFlight (.ref a) cenv.frame >>= fun _ => (throw (Value.ref a) : Sem Value)) (fun _ _ => False) X.xe { s' with heap := h3 } := by
      unfold setFlight
      refine wpAny_bind (wpAny_bind (wpAny_field he3 hd h1 ?_))
      rw [if_pos (show (Value.ref T != Value.none) = true by simp)]
      exact wpAny_setField hT3 dT z3 (wpAny_throw (fin _))
    first
      | exact wpAny_bind (wpAny_pure step)
      | exact step
  cases use <;> exact main
/-- [elt for target in iter ..], elt may raise -/
theorem lcE_core {C : Addr} {Ex : XK} (hL : Lands X C Ex) (hk : X.stack = X.env :: X.outer) (hfr : X.env.frame = some X.env.locals) {pins : List (Addr × Obj)} {s : Shared} {σ : St} {H : Hp} {Q : VK} {elt tg iter : Expr} {ifs : List Expr} {scope : Scope} {own : List (Str × Nat)} {pos pos' : Pos} {wi : TI} {g : TG} {tt : TT} {te : TE} {use : Option (Value → Sem Unit)} {Qf : Value → Shared → Prop}
    (hc : X.calm = true) (hN : X.N.Nodup) (I : Inv X pins σ H s) (hi : PI X tg iter wi) (ok : BlkOk X.N X.env.scope scope own)
    (hg : ∀ (s : Shared) (H : Hp) (L : Addr) (cl : List (Str × Addr)) (fp : List Addr) (E : Value → Shared → Prop), PG (blkE X s H scope (compEnvC scope cl L X.env) fp E) tg g) (ht : ∀ (s : Shared) (H : Hp) (L : Addr) (cl : List (Str × Addr)) (fp : List Addr) (E : Value → Shared → Prop), PTs (blkE X s H scope (compEnvC scope cl L X.env) fp E) ifs tt)
    (he : ∀ (s : Shared) (H : Hp) (L : Addr) (cl : List (Str × Addr)) (fp : List Addr) (E : Value → Shared → Prop), Lands (blkE X s H scope (compEnvC scope cl L X.env) fp E) C Ex → PE (blkE X s H scope (compEnvC scope cl L X.env) fp E) elt te) (hs : ∀ x, foldedSetIterable iter X.env x = pure x)
    (h : tLc wi g tt te (own.map (·.2)) σ H Q)
    (hRR : ∀ D L s' m H', Inv X pins σ H' s' → Q (.ref D) H' → s'.heap.Ns L m → FpOk X pins H' L → compPost (model X.prog X.w) X.A X.xe use Qf (.ref D) L (.ok .next) s') :
    wpAny (model X.prog X.w) X.A (comprehension (.ListComp elt [⟨tg, iter, ifs, 0⟩] scope pos) scope X.env pos' (newList []) false (eval iter X.env) use) Qf X.xe s := by
  have hfree : ∀ y ∈ scope.names, y.2 = .free → ∃ c, X.env.cells.lookup y.1 = some c := fun y hy e => by
    rcases ok.free y hy e with k | k
    · exact I.ok.has _ (.inl k)
    · exact I.ok.has _ (.inr k)
  refine wpAny_comprehension_free (use := use) rfl hs (closure_ok hfree) ok.kind (fun y hy e => by rw [ok.uniq y hy, e])
    (thn (hi pins s σ H _ I h) fun xv s1 hx => thn hx fun itv s2 h2 => ?_)
  obtain ⟨it, fp, tn, J, H2, e, I2, T, st2, f2, q⟩ := h2
  subst e
  refine wpAny_newObj_type (newEnv_comp ?_) (by show 0 ≤ sizeLine; decide)
  generalize hD : s2.heap.objs.size = D
  have hDn : H2 D = none := I2.hok.fresh (Nat.le_of_eq hD)
  obtain ⟨W, ⟨m0, w0⟩, turn⟩ := q D hDn
  generalize hs3 : ({ s2 with heap := s2.heap.push { cls := .type "list", data := .seq ([] : List Value).toArray } } : Shared) = s3
  have I3 : Inv X pins σ (upd H2 D (.lst [])) s3 := by
    rw [← hs3]
    refine I2.laid (t' := s2.toks) (fun b o e => Heap.get?_push_of_some _ e) (Nat.le_of_eq hD) ⟨Nat.zero_le _, [], 0, .nil, ?_⟩
    rw [← hD]
    exact Heap.get?_push_size _ rfl
  have h3 : s3.heap = s2.heap.push { cls := .type "list", data := .seq ([] : List Value).toArray } := by rw [← hs3]
  have sz : ∀ b ∈ fp, b < s2.heap.objs.size := fun b hb => by
    obtain ⟨o, e, _⟩ := T.obj _ _ st2 b hb
    exact Heap.lt_size e
  have f3 : ∀ b ∈ fp, FpOk X pins (upd H2 D (.lst [])) b ∧ b < s3.heap.objs.size := fun b hb => by
    have hlt := sz b hb
    refine ⟨⟨?_, (f2 b hb).2⟩, by rw [h3, Heap.size_push]; exact Nat.lt_succ_of_lt hlt⟩
    rw [upd_ne (by rw [← hD]; exact Nat.ne_of_lt hlt)]
    exact (f2 b hb).1
  have st3 : tn 0 s3.heap := T.keep _ _ _ st2 fun b _ o e => by rw [h3]; exact Heap.get?_push_of_some _ e
  have I4 := block_start I3 ok hN f3
  have pg := hg s3 (upd H2 D (.lst [])) s3.heap.objs.size (cellsFrom (s3.heap.objs.size + 1) scope.names (cloFrom X.env.cells scope.names [])) fp
  have pt := ht s3 (upd H2 D (.lst [])) s3.heap.objs.size (cellsFrom (s3.heap.objs.size + 1) scope.names (cloFrom X.env.cells scope.names [])) fp
  have pe := he s3 (upd H2 D (.lst [])) s3.heap.objs.size (cellsFrom (s3.heap.objs.size + 1) scope.names (cloFrom X.env.cells scope.names [])) fp
  show codeAny _ _ (.compStart (.ListComp elt [⟨tg, iter, ifs, 0⟩] scope pos) 0 (.ref it) (.ref D) (compEnvC scope (cellsFrom (s3.heap.objs.size + 1) scope.names (cloFrom X.env.cells scope.names [])) s3.heap.objs.size X.env)) (compPost (model X.prog X.w) X.A X.xe use Qf (.ref D) s3.heap.objs.size) { s3 with heap := pushCells (s3.heap.push { cls := .type "dict", data := .dict #[] }) scope.names }
  have nfp : ∀ b ∈ fp, (upd H2 D (.lst [])) b = none := fun b hb => (f3 b hb).1.1
  generalize hce : compEnvC scope (cellsFrom (s3.heap.objs.size + 1) scope.names (cloFrom X.env.cells scope.names [])) s3.heap.objs.size X.env = ce at I4 pg pt pe ⊢
  have cL : ce.locals = s3.heap.objs.size := by subst hce; rfl
  have cF : ce.frame = X.env.frame := by subst hce; rfl
  generalize hH3 : upd H2 D (.lst []) = H3 at I3 I4 pg pt pe w0 nfp f3
  have LB := lands_blk (use := use) (Qf := Qf) (D := D) (scope := scope) hL hk hfr I3 cF cL f3
  generalize hEE : (notedBy (model X.prog X.w) X.A ce fun e s' => compPost (model X.prog X.w) X.A X.xe use Qf (.ref D) s3.heap.objs.size (.error e) s') = EE at LB
  have pg := pg EE
  have pt := pt EE
  have pe := pe EE LB
  generalize hs4 : ({ s3 with heap := pushCells (s3.heap.push { cls := .type "dict", data := .dict #[] }) scope.names } : Shared) = s4 at I4 ⊢
  have st4 : tn 0 s4.heap := T.keep _ _ _ st3 fun b _ o e => by rw [← hs4]; exact pushCells_keeps _ _ _ _ (Heap.get?_push_of_some _ e)
  have I4 : Inv (blkE X s3 H3 scope ce fp EE) [] (wipe σ (own.map (·.2))) H3 s4 := I4.wish EE
  have stat : ∀ {σ' : St} {H' : Hp} {s' : Shared}, Inv (blkE X s3 H3 scope ce fp EE) [] σ' H' s' → (∀ b ∈ fp, H' b = none) → ∀ b ∈ fp, FpOk (blkE X s3 H3 scope ce fp EE) [] H' b := fun {σ' H' s'} I' hn b hb =>
    ⟨hn b hb, (I'.ok.exf b hb).1, I'.ok.exfs b hb, .inl hb, fun x c e => (I'.ok.exf b hb).2 x c e, fun p hp => absurd (show p ∈ ([] : List (Addr × Obj)) ++ [] from hp) (by simp)⟩
  have loop : codeAny (model X.prog X.w) X.A (.compLoop (.ListComp elt [⟨tg, iter, ifs, 0⟩] scope pos) 0 (.ref it) (.ref D) ce) (compPost (model X.prog X.w) X.A X.xe use Qf (.ref D) s3.heap.objs.size) s4 := by
    refine compLoop_any (fun n s' => ∃ i H', Inv (blkE X s3 H3 scope ce fp EE) [] (wipe σ (own.map (·.2))) H' s' ∧ tn i s'.heap ∧ (∀ b ∈ fp, H' b = none) ∧ W i n H') ?_ m0 ⟨0, H3, I4, st4, nfp, w0⟩
    rw [hEE]
    rintro n s5 ⟨i, H5, I5, st5, n5, w5⟩
    rcases turn i n H5 w5 with ⟨stop, qq⟩ | ⟨go, Nx, hNx, step⟩
    · have td := T.done (blkE X s3 H3 scope ce fp EE) rfl rfl rfl hc i [] s5 _ H5 EE I5 (stat I5 n5) st5 stop
      refine thn td fun r s6 ⟨hr, I6⟩ => ?_
      subst hr
      have I7 : Inv X pins σ H5 s6 := I3.call' (ch := fp) I6.os I6.base I6.hok I6.bare fun b hb => ⟨(f3 b hb).1.2.2.2.1, (f3 b hb).1.2.1, (f3 b hb).1.2.2.2.2.1, (f3 b hb).1.2.2.2.2.2⟩
      have nC : H5 s3.heap.objs.size = none := by
        have z : H5 ce.locals = none := I6.free
        rw [cL] at z
        exact z
      obtain ⟨m, hn, _⟩ := I6.loc
      have hn : s6.heap.Ns ce.locals m := hn
      rw [cL] at hn
      exact hRR D s3.heap.objs.size s6 m H5 I7 qq hn (I3.fpOk (Nat.le_refl _) nC)
    · have ti := T.item (blkE X s3 H3 scope ce fp EE) rfl rfl rfl hc i [] s5 _ H5 EE I5 (stat I5 n5) st5 go
      refine thn ti fun r s6 ⟨u, hr, h6⟩ => ?_
      subst hr
      refine thn h6 fun _ s7 ⟨x, H7, I7, r7, y7, st7, n7⟩ => ?_
      have I7' := I7.pinned (stat I7 n7) (T.obj _ _ st7)
      refine thn (pg _ s7 _ H7 x u _ I7' r7 (step x H7 y7)) fun _ s8 ⟨σ8, H8, I8, hw8, q8⟩ => ?_
      refine thn (pt _ s8 σ8 H8 _ I8 q8) fun b s9 ⟨H9, I9, q9⟩ => ?_
      have fin : ∀ {s' : Shared} {H' : Hp}, Inv (blkE X s3 H3 scope ce fp EE) ([] ++ pinsAt fp s7.heap) σ8 H' s' → Nx H' → ∃ m, m < n ∧ ∃ i H', Inv (blkE X s3 H3 scope ce fp EE) [] (wipe σ (own.map (·.2))) H' s' ∧ tn i s'.heap ∧ (∀ b ∈ fp, H' b = none) ∧ W i m H' := fun {s' H'} I' nx => by
        obtain ⟨m', hm, w'⟩ := hNx H' nx
        have pin' : ∀ b ∈ fp, ∀ o, s7.heap.get? b = some o → s'.heap.get? b = some o ∧ H' b = none := fun b hb o e =>
          let z := I'.pin (b, o) (List.mem_append_right _ (List.mem_append_right _ (mem_pinsAt hb e)))
          ⟨z.1, z.2.1⟩
        have hl : (wipe σ (own.map (·.2))).length = σ8.length := by rw [← hw8, wipe_length]
        refine ⟨m', hm, i + 1, H', (I'.unpinned (pins := [])).weak hl (fun j v e => ?_), T.keep _ _ _ st7 fun b hb o e => (pin' b hb o e).1, fun b hb => ?_, w'⟩
        · rw [← hw8] at e
          exact (wipe_some e).1
        · obtain ⟨o, e, _⟩ := T.obj _ _ st7 b hb
          exact (pin' b hb o e).2
      cases b with
      | false =>
        simp only [Bool.false_eq_true, if_false] at q9 ⊢
        exact fin I9 q9
      | true =>
        simp only [if_true] at q9 ⊢
        refine thn (pe _ s9 σ8 H9 _ I9 q9) fun z s10 ⟨yv, H10, I10, r10, acc, hD10, hz10, nx⟩ => ?_
        exact app_ok (X := blkE X s3 H3 scope ce fp EE) I10 hD10 hz10 r10 fun s11 I11 => fin I11 nx
  exact codeAny_compStart_list loop (T.self X.A 0 _ _ _ st4 loop)
theorem pe_lcE {C : Addr} {Ex : XK} (hL : Lands X C Ex) (hk : X.stack = X.env :: X.outer) (hfr : X.env.frame = some X.env.locals) {elt tg iter : Expr} {ifs : List Expr} {scope : Scope} {own : List (Str × Nat)} {pos : Pos} {wi : TI} {g : TG} {tt : TT} {te : TE} (hc : X.calm = true) (hN : X.N.Nodup) (hi : PI X tg iter wi) (ok : BlkOk X.N X.env.scope scope own)
    (hg : ∀ (s : Shared) (H : Hp) (L : Addr) (cl : List (Str × Addr)) (fp : List Addr) (E : Value → Shared → Prop), PG (blkE X s H scope (compEnvC scope cl L X.env) fp E) tg g) (ht : ∀ (s : Shared) (H : Hp) (L : Addr) (cl : List (Str × Addr)) (fp : List Addr) (E : Value → Shared → Prop), PTs (blkE X s H scope (compEnvC scope cl L X.env) fp E) ifs tt)
    (he : ∀ (s : Shared) (H : Hp) (L : Addr) (cl : List (Str × Addr)) (fp : List Addr) (E : Value → Shared → Prop), Lands (blkE X s H scope (compEnvC scope cl L X.env) fp E) C Ex → PE (blkE X s H scope (compEnvC scope cl L X.env) fp E) elt te) (hs : ∀ x, foldedSetIterable iter X.env x = pure x := by intro _; rfl) :
    PE X (.ListComp elt [⟨tg, iter, ifs, 0⟩] scope pos) (tLc wi g tt te (own.map (·.2))) := by
  intro pins s σ H Q I h
  rw [eval_ListComp]
  refine lcE_core hL hk hfr hc hN I hi ok hg ht he hs h fun D L s' m H' I' q hn f => ⟨m, hn, fun h'' sb => ?_⟩
  obtain ⟨f0, f1, f2, f3, f4, f5⟩ := f
  exact ⟨.ref D, H', I'.turned (t' := s'.toks) (fun b o hb e => (sb.2 b hb).trans e) f0 f1 f3 f4 f5, rfl, q⟩
/-- name = [..] on one line, the name a local; elt may raise -/
theorem ps_setLcE {C : Addr} {Ex : XK} (hL : Lands X C Ex) (hk : X.stack = X.env :: X.outer) (hfr : X.env.frame = some X.env.locals) {i : Nat} {y : Str} {py : Pos} {elt tg iter : Expr} {ifs : List Expr} {scope : Scope} {own : List (Str × Nat)} {pos spos : Pos} {wi : TI} {g : TG} {tt : TT} {te : TE} (hc : X.calm = true) (hN : X.N.Nodup) (hy : X.N[i]? = some y) (hyl : X.env.scope.names.lookup y = some .local)
    (hsw : swapsWith (.ListComp elt [⟨tg, iter, ifs, 0⟩] scope pos) (some (.Name y py)) spos.line X.env = pure true) (hi : PI X tg iter wi) (ok : BlkOk X.N X.env.scope scope own)
    (hg : ∀ (s : Shared) (H : Hp) (L : Addr) (cl : List (Str × Addr)) (fp : List Addr) (E : Value → Shared → Prop), PG (blkE X s H scope (compEnvC scope cl L X.env) fp E) tg g) (ht : ∀ (s : Shared) (H : Hp) (L : Addr) (cl : List (Str × Addr)) (fp : List Addr) (E : Value → Shared → Prop), PTs (blkE X s H scope (compEnvC scope cl L X.env) fp E) ifs tt)
    (he : ∀ (s : Shared) (H : Hp) (L : Addr) (cl : List (Str × Addr)) (fp : List Addr) (E : Value → Shared → Prop), Lands (blkE X s H scope (compEnvC scope cl L X.env) fp E) C Ex → PE (blkE X s H scope (compEnvC scope cl L X.env) fp E) elt te) (hs : ∀ x, foldedSetIterable iter X.env x = pure x := by intro _; rfl) :
    PS X (.Assign [.Name y py] (.ListComp elt [⟨tg, iter, ifs, 0⟩] scope pos) spos) (tAsg (tLc wi g tt te (own.map (·.2))) (gName i)) := by
  intro pins s σ H D I h
  rw [exec_Assign_Name_used _ _ _ _ hsw]
  refine wpAny_bind (wpAny_standAt (wpAny_bind ?_))
  show wpAny _ X.A (do let _ ← comprehension (.ListComp elt [⟨tg, iter, ifs, 0⟩] scope pos) scope X.env (firstIterPos [⟨tg, iter, ifs, 0⟩] pos) (newList []) false (eval iter X.env) (some (assign (.Name y py) X.env))) _ _ s
  have h : tLc wi g tt te (own.map (·.2)) σ H (fun x H1 => gName i x σ H1 D.nx) := h
  refine wpAny_bind (thn (lcE_core (Qf := fun _ s' => SP X pins D .next s') hL hk hfr hc hN I hi ok hg ht he hs h fun L C s' m H' I' q hn f => ?_) fun _ s' hq => wpAny_pure (wpAny_pure hq))
  show wpAny _ _ (assign (.Name y py) X.env (.ref L)) _ _ _
  refine wpAny_assign_Name (store_ok2 (v := V.ref L) I' hN hy (.inl hyl) rfl (fun s2 I2 ⟨a, sb, ha⟩ => ?_) (.inr hyl))
  obtain ⟨f0, f1, f2, f3, f4, f5⟩ := f
  have haC : C ≠ a := by
    rcases ha with z | z
    · rw [z]; exact f1
    · exact fun e => f4 y a z e.symm
  refine ⟨m, hn.sameBut sb haC, fun h3 sb3 => ?_⟩
  exact ⟨_, H', I2.turned (t' := s2.toks) (fun b o hb e => (sb3.2 b hb).trans e) f0 f1 f3 f4 f5, q⟩
end
end JX
set_option Elab.async false
set_option linter.all false
set_option maxRecDepth 100000
set_option maxHeartbeats 2000000
namespace JX
open PySem PySem.Spec L2
open PyProof.Rows hiding St frameOf passOn
/-! ### expressions at one state of the names: the way of an exception knows it -/
def PEs (X : Cx) (pins : List (Addr × Obj)) (σ : St) (e : Expr) (t : TE) : Prop := ∀ (s : Shared) (H : Hp) (Q : VK), Inv X pins σ H s → t σ H Q → wpAny (model X.prog X.w) X.A (eval e X.env) (EP X pins σ Q) X.xe s
def PAs (X : Cx) (pins : List (Addr × Obj)) (σ : St) (es : List Expr) (t : TA) : Prop := ∀ (pos : Pos) (s : Shared) (H : Hp) (Q : List V → Hp → Prop), Inv X pins σ H s → t σ H Q → wpAny (model X.prog X.w) X.A (spliced (backTo pos (starEach es X.env))) (AP X pins σ Q) X.xe s
def LandsS (X : Cx) (pins : List (Addr × Obj)) (σ : St) (C : Addr) (Ex : XK) : Prop := ∀ (H : Hp) (a : Addr) (B : Heap) (a0 fl : Value) (s : Shared), Inv X pins σ H s → Fly X pins C a H B a0 fl s.heap → Ex (.ref C) none H → X.xe (.ref a) s
section
variable {X : Cx} {pins : List (Addr × Obj)} {σ : St} {C : Addr} {E : XK} {k : Nat} {f : Addr} {fd : FuncData} {ps : List Str} {sp : Sp} {dvs : List V} {ds : List Value} {x : Str} {p pos apos cpos : Pos} {e o : Expr} {es : List Expr} {te to : TE} {t : TA}
theorem PE.at (h : PE X e te) : PEs X pins σ e te := fun s H Q I q => h pins s σ H Q I q
theorem PA.at (h : PA X es t) : PAs X pins σ es t := fun pos s H Q I q => h pos pins s σ H Q I q
theorem pas_one (ha : PEs X pins σ e te) (hs : starEach [e] X.env = [(false, eval e X.env)] := by rfl) : PAs X pins σ [e] (tCons te tNil) := by
  intro pos s H Q I h
  rw [hs]
  show wpAny _ _ (spliced (backTo pos ((false, eval e X.env) :: starEach [] X.env))) _ _ _
  refine Calls.spliced_cons (thn (ha s H _ I h) fun v s1 ⟨y, H1, I1, r1, q1⟩ => ?_)
  exact thn (pa_nil pos pins s1 σ H1 _ I1 q1) fun us s2 ⟨vs, H2, I2, r2, q2⟩ => ⟨y :: vs, H2, I2, .cons r1 r2, q2⟩
/-- f(e, ..) that may raise -/
theorem pes_call (F : FnOk X.prog X.w X.K X.mg X.base (CXN X.prog X.w C) k f fd ps sp) (hr : Room k X.A) (hg : Gl X x) (hm : X.mg x = some (.ref f)) (hk : PySem.W.keepIn X.K (.ref f) = true) (hb : Binds X.K fd ps ds) (hd : Vals dvs ds) (hx : LandsS X pins σ C E)
    (ha : PAs X pins σ (e :: es) t) (hdb : (x == ("__debug__" : Str)) = false := by decide) (he : starEach (e :: es) X.env = (false, eval e X.env) :: starEach es X.env := by rfl) (hpl : (backTo pos (starEach es X.env)).any (·.1) = false := by rfl) :
    PEs X pins σ (.Call (.Name x p) (e :: es) [] pos) (tCall sp dvs E t) := by
  intro s H Q I h
  refine wpAny_Call_Name_kw (ld_glob I hg hm ?_ hdb)
  refine PySem.W.callWith_K (h₀ := X.base) I.ok.mod.kin hk (thn (ha pos s H _ I h) fun us s1 ⟨vs, H1, I1, r, q⟩ => ⟨I1.kIn, ?_⟩) he hpl
  have r2 : Vals (vs ++ dvs) (us ++ ds) := r.append hd
  have hl : (us ++ ds).length = ps.length := by rw [← r2.length]; exact F.len _ _ _ _ q
  refine wpAny_call (codeAny_mono (F.run X.A X.stack s1 H1 ⟨us, []⟩ (us ++ ds) (vs ++ dvs) Q E hr I1.env0 (hb s1 us I1.kIn hl) r2 q) fun r s2 hq => ?_)
  cases r with
  | error e =>
    obtain ⟨a, H2, B, a0, rfl, I2, F2, hE⟩ := CXN.fly I1 hq
    exact hx H2 a B a0 .none s2 I2 F2 hE
  | ok fl =>
    cases fl with
    | ret u => exact I1.after hq
    | next => exact False.elim hq
    | brk => exact False.elim hq
    | cont => exact False.elim hq
theorem pes_bm {T id : String} {name : Str} {r : V → List V → Hp → VK → Prop} (pa : PlainAttrs T) (slot : Slot T name id) (hty : typeOf (.builtin id) = pure (.type "method_descriptor")) (hm : MtR X id r) (ho : PEs X pins σ o to) (ha : PAs X pins σ (e :: es) t)
    (hbase : attributeBase o name X.env (eval o X.env) = eval o X.env := by rfl)
    (hfew : ((backTo cpos (starEach (e :: es) X.env)).all (fun x => !x.1) && (backToKw cpos (keywordEach [] X.env)).all (fun x => x.1.isSome)
      && decide ((e :: es).length + ([] : List Keyword).length + (if ([] : List Keyword).isEmpty then 0 else 1) < 30)) = true := by rfl)
    (hline : (apos.endLine == cpos.line) = true := by rfl) (hs : starEach (e :: es) X.env = (false, eval e X.env) :: starEach es X.env := by rfl) (hplain : (backTo cpos (starEach es X.env)).any (·.1) = false := by rfl) :
    PEs X pins σ (.Call (.Attribute o name apos) (e :: es) [] cpos) (tBM X.K T r to t) := by
  intro s H Q I h
  refine wpAny_Call_method_late hbase hfew hline rfl (thn (ho s H _ I h) fun v s1 ⟨x, H1, I1, r1, ty, q1⟩ => ?_)
  obtain ⟨h1, h2⟩ := tyV_is I1 r1 ty
  refine ⟨T, id, pa, slot, hty, h1, h2, ?_⟩
  have hA := ha cpos s1 H1 _ I1 q1
  rw [hs] at hA ⊢
  refine Calls.callWith_builtin (by show (false || (backTo cpos (starEach es X.env)).any (·.1)) = false; rw [hplain] <;> rfl) (Calls.evalArgs_plain ?_)
  exact thn hA fun us s2 ⟨vs, H2, I2, r2, q2⟩ => hm pins s2 σ H2 x vs v us Q I2 r1 r2 q2
end
/-! ### try: one expression; one class caught, no name -/
abbrev marked (X : Cx) (a : Addr) : Cx := { X with A := X.A.mark (some (.ref a)), calm := false, xe := fun _ _ => False }
section
variable {X : Cx} {pins : List (Addr × Obj)} {σ : St} {H : Hp} {s : Shared} {a : Addr}
theorem ok_mark (ok : X.Ok) : (marked X a).Ok :=
  ⟨ok.mod, ok.kind, ok.glob, ok.blt, ok.above, ok.inj, ok.has, ok.cab, fun z => Bool.noConfusion (show false = true from z), ok.frames, ok.stk, ok.exf, ok.bs, ok.bsz, ok.noex, ok.exfs, ok.funs, ok.frf⟩
theorem inv_mark (I : Inv X pins σ H s) : Inv (marked X a) pins σ H s := ⟨ok_mark I.ok, I.os, I.bare, I.base, I.loc, I.cell, I.free, I.freeC, I.pin, I.hok, I.len⟩
theorem inv_unmark (ok : X.Ok) (I : Inv (marked X a) pins σ H s) : Inv X pins σ H s := ⟨ok, I.os, I.bare, I.base, I.loc, I.cell, I.free, I.freeC, I.pin, I.hok, I.len⟩
theorem sp_unmark (ok : X.Ok) {D : Ends} {f : Flow} (h : SP (marked X a) pins D f s) : SP X pins D f s := by
  cases f with
  | next => obtain ⟨σ', H', I, q⟩ := h; exact ⟨σ', H', inv_unmark ok I, q⟩
  | brk => obtain ⟨σ', H', I, q⟩ := h; exact ⟨σ', H', inv_unmark ok I, q⟩
  | cont => obtain ⟨σ', H', I, q⟩ := h; exact ⟨σ', H', inv_unmark ok I, q⟩
  | ret u => obtain ⟨v, σ', H', I, r, q⟩ := h; exact ⟨v, σ', H', inv_unmark ok I, r, q⟩
end
def tTry1 (te : XK → TE) (ts : TS) : TS := fun D σ H => te (fun _ _ H' => ts D σ H') σ H fun _ H' => D.nx σ H'
theorem ps_try1 {X : Cx} {C : Addr} {x : Str} {np epos hpos pos : Pos} {e : Expr} {b0 : Stmt} {suite : List Stmt} {te : XK → TE} {ts : TS} (hk : X.stack = X.env :: X.outer) (hfr : X.env.frame = some X.env.locals)
    (EC : Exc X.K C) (hg : Gl X x) (hm : X.mg x = some (.ref C))
    (he : ∀ (E : Value → Shared → Prop) (pins : List (Addr × Obj)) (σ : St) (Ex : XK), LandsS (X.wish E) pins σ C Ex → PEs (X.wish E) pins σ e (te Ex))
    (hsuite : ∀ a : Addr, PSs (marked X a) (b0 :: suite) ts) (hs : swapsWith e none epos.line X.env = pure false := by rfl) (hd : (x == ("__debug__" : Str)) = false := by decide) :
    PS X (.Try [.Expr e epos] [.ExceptHandler (some (.Name x np)) none (b0 :: suite) hpos] [] [] pos) (tTry1 te ts) := by
  intro pins s σ H D I h
  refine wpAny_Try_except ?_
  generalize hE1 : (fun e s₁ => wpAny (model X.prog X.w) X.A (noteFrame e X.env) (fun _ s₂ => wpAny (model X.prog X.w) X.A (setFlight e none) (fun _ s₃ => wpAny (model X.prog X.w) X.A (handleBy e X.env [.ExceptHandler (some (.Name x np)) none (b0 :: suite) hpos]) (SP X pins D) X.xe s₃) X.xe s₂) X.xe s₁ : Value → Shared → Prop) = E1
  have hL : LandsS (X.wish E1) pins σ C (fun _ _ H' => ts D σ H') := by
    intro H' a B a0 fl s' I' F' hE
    have J : Inv X pins σ H' s' := I'.unwish
    show E1 (.ref a) s'
    rw [← hE1]
    show wpAny _ _ (noteFrame (.ref a) X.env) _ _ s'
    refine note_any (B := B) (a0 := a0) (fl := fl) (cls := .ref C) (outer := X.outer) (by rw [← hk]; exact J.ok.frames) (by rw [← hk]; exact F'.fr) hfr F'.tr F'.st F'.en fun h2 ⟨k1, k2, k3, k4⟩ => ?_
    refine wpAny_setFlight_noneW (s := { s' with heap := h2 }) k1 k2 k3 fun h3 j1 j2 j3 j4 => ?_
    have up3 : s'.heap.UpToSlots h3 := fun b o e d => by
      obtain ⟨sl, q⟩ := k4 b o e d
      exact ⟨sl, j4 b _ q d⟩
    have I3 : Inv X pins σ H' { s' with heap := h3 } := inv_up J j1 (fr_up (X := X) F'.fr up3 J) (cl_up (X := X) up3) F'.c0 F'.c1 F'.c2 F'.c3
    refine wpAny_handleBy_cons (codeAny_handlers_test ?_) (by intro q; cases q)
    refine ld_glob (X := marked X a) (inv_mark I3) hg hm ?_ hd
    obtain ⟨bm, N, nm, qn, bs, hdct, sn, sub, ab, col, dd, k0', k1', k2', k3', k5', mN, hC, hN, hni, TL⟩ := exc_obj I3.kIn EC
    obtain ⟨ob, hob, hobc⟩ := j3.at.there
    refine wpAny_excMatches_sub_self hC hob hobc (TL.hasType (by decide +kernel)) (codeAny_handlers_suite ?_)
    refine wpAny_setFlight_noneW (s := { s' with heap := h3 }) j1 j2 j3.at fun h4 l1 l2 l3 l4 => ?_
    have up4 : s'.heap.UpToSlots h4 := fun b o e d => by
      obtain ⟨sl, q⟩ := up3 b o e d
      exact ⟨sl, l4 b _ q d⟩
    have I4 : Inv X pins σ H' { s' with heap := h4 } := inv_up J l1 (fr_up (X := X) F'.fr up4 J) (cl_up (X := X) up4) F'.c0 F'.c1 F'.c2 F'.c3
    refine wpAny_mono (hsuite a pins _ σ H' D (inv_mark I4) hE) (fun f s5 q => ?_) fun _ _ z => False.elim z
    exact sp_unmark I.ok q
  have hp := he E1 pins σ _ hL s H _ (I.wish E1) h
  refine wpAny_execs_cons (wpAny_Expr_any (thn hp fun v s1 ⟨y, H1, I1, r1, q1⟩ => ?_) I.quiet hs)
  exact wpAny_execs_nil (wpAny_execs_nil ⟨σ, H1, I1.unwish, q1⟩)
end JX
set_option Elab.async false
set_option linter.all false
set_option maxRecDepth 100000
set_option maxHeartbeats 2000000
/-! DICTS whose keys are tuples: setdefault, items. -/
namespace JX
open PySem PySem.Spec L2
open PyProof.Rows hiding St frameOf passOn
section
variable {prog : Program} {w : World} {K : Type} [DecidableEq K] {knd : HeapKind prog w K} {A : Around} {E : Value → Shared → Prop} {s : Shared} {d a : Addr} {k : K} {xs : List (K × Addr × Value)}
theorem sdef_heap {v : Value} {Q : Value → Shared → Prop} (hu : knd.room A) (key : knd.is s.heap k a) (hm : s.heap.DictOfH knd d xs) (hz : xs.length ≤ sizeLine)
    (h1 : ∀ p, atKey xs k = some p → Q p.2 { s with toks := s.toks + knd.draws k })
    (h2 : atKey xs k = none → ∀ h', h'.DictOfH knd d (storedH xs k a v) → Heap.SameBut d s.heap h' → Q v { s with heap := h', toks := s.toks + knd.draws k }) :
    wpAny (model prog w) A (dictSetDefault d (.ref a) v) Q E s := by
  obtain ⟨od, es, ep, g1, g2, g3, g4, g5, g6⟩ := hm
  unfold dictSetDefault
  (try with_reducible refine wpAny_holding ?_); refine wpAny_bind (knd.pyHash hu key ?_)
  refine wpAny_bind (wpAny_dictFind_heap (s := { s with toks := s.toks + knd.draws k }) hu key g1 g3 g4 g5 g6 (fun no => ?_) (fun j p hj => ?_))
  · have nk : k ∉ xs.map (·.1) := not_mem_keys_of_get no
    have n0 := atKey_none_of_get no
    have ez := size_of_entries g4
    refine wpAny_bind (wpAny_rule (wpAny_bind (wpAny_updateDictKeys (hz := by omega) (s := { s with toks := s.toks + knd.draws k }) g1 g3 (wpAny_pure (h2 n0 _ ⟨_, _, ep + 1, Heap.get?_update_self _ g1 (Obj.isFreed_of_dict (Obj.data_mapDictKeys g3 _)), g2.mapDictKeys _, Obj.data_mapDictKeys g3 _, ?_, ?_, ?_⟩ (Heap.SameBut.update ..))))))
    · rw [storedH_new n0]; simp [g4, entryOfKey]
    · rw [storedH_new n0]
      intro x hx
      rcases List.mem_append.mp hx with q | q
      · exact knd.keeps (g5 x q) g1 g3 (Heap.SameBut.update ..)
      · rw [List.mem_singleton.mp q]; exact knd.keeps key g1 g3 (Heap.SameBut.update ..)
    · rw [storedH_new n0, List.map_append, List.nodup_append]
      refine ⟨g6, by simp, fun x hx y hy => ?_⟩
      have ey : y = k := by simpa using hy
      rw [ey]; exact fun z => nk (z ▸ hx)
  · refine wpAny_bind (wpAny_dictEntries (s := { s with toks := s.toks + knd.draws k }) g1 g3 ?_)
    rw [entry_at g4 j, hj]; exact wpAny_bind (wpAny_rule (wpAny_pure (h1 p (atKey_of_get g6 hj))))
theorem sdef_meets (knd : HeapKind prog w K) (d a : Addr) (hd : (d == sysModules) = false) (v : Value) :
    MeetsIn prog w (Builtin.«dict.setdefault» ⟨[.ref d, .ref a, v], []⟩) (fun A R s => knd.room A.in1 ∧ ∃ k xs, knd.is s.heap k a ∧ s.heap.DictOfH knd d xs ∧ xs.length ≤ sizeLine ∧
      (∀ p, atKey xs k = some p → R (.ok (.ret p.2)) { s with toks := s.toks + knd.draws k }) ∧
      (atKey xs k = none → ∀ h', h'.DictOfH knd d (storedH xs k a v) → Heap.SameBut d s.heap h' → R (.ok (.ret v)) { s with heap := h', toks := s.toks + knd.draws k })) :=
  .of_wp fun A R s ⟨hu, k, xs, key, hm, hz, h1, h2⟩ => by
    unfold Builtin.«dict.setdefault»
    refine wpAny_bind ?_
    unfold Builtin.Dict.keyAndDefault
    refine wpAny_bind (wpAny_notOrdered_dict hm.typeIs ?_); show wpAny _ _ (pure (d, Value.ref a, some v)) _ _ s
    refine wpAny_pure ?_
    show wpAny _ _ (if (d == sysModules) = true then _ else (dictSetDefault d (.ref a) v >>= _)) _ _ s
    rw [if_neg (by rw [hd]; exact Bool.false_ne_true)]
    exact wpAny_bind (sdef_heap hu key hm hz (fun p hp => wpAny_pure ⟨p.2, rfl, h1 p hp⟩) fun n h' q1 q2 => wpAny_pure ⟨v, rfl, h2 n h' q1 q2⟩)
end
/-- d.setdefault(y, z), tuple keys -/
def tDSet2 (td ty tx : TE) : TE := fun σ H Q => td σ H fun x H1 => ∃ a, x = .ref a ∧ IsD H1 a ∧ ty σ H1 fun y H2 => tx σ H2 fun z H3 => ∃ kvs k b, H3 a = some (.dT kvs) ∧ y = .ref b ∧ H3 b = some (.tup (k.map kV)) ∧ kvs.length < sizeLine ∧
  (∀ v, valV kvs k = some v → Q v H3) ∧ (valV kvs k = none → Q z (upd H3 a (.dT (kvs ++ [(k, z)]))))
theorem pe_dsetdef {X : Cx} {o e f : Expr} {apos cpos : Pos} {td ty tx : TE} (hu : X.A.units + 1 < cLine) (ho : PE X o td) (he : PE X e ty) (hf : PE X f tx) (m : M2 X o "setdefault" apos e f cpos) :
    PE X (.Call (.Attribute o "setdefault" apos) [e, f] [] cpos) (tDSet2 td ty tx) := by
  intro pins s σ H Q I h
  refine wpAny_Call_method m.base m.few m.line PySem.F.plainAttrs_dict PySem.F.slot_dict_setdefault PySem.F.type_dict_setdefault (thn (ho pins s σ H _ I h) fun u s1 ⟨x, H1, I1, rx, a, ex, d, q1⟩ => ?_)
  subst ex
  obtain rfl : u = Value.ref a := rx
  obtain ⟨t1, t2, _⟩ := isD_at I1 d
  refine ⟨t1, t2, ?_⟩
  rw [m.trees]
  refine Calls.callWith_builtin rfl (Calls.evalArgs_plain (Calls.spliced_cons (thn (he pins s1 σ H1 _ I1 q1) fun iv s2 ⟨y, H2, I2, ry, q2⟩ =>
    Calls.spliced_cons (thn (hf pins s2 σ H2 _ I2 q2) fun fv s3 ⟨z, H3, I3, rz, kvs, k, b, ha, ey, hb, hl, k1, k2⟩ => Calls.spliced_nil ?_))))
  subst ey
  obtain rfl : iv = Value.ref b := ry
  obtain ⟨z0, hd, xs, rel, dd⟩ := dt_of I3.hok ha
  have hz : xs.length ≤ sizeLine := by rw [← Paired.length rel]; exact z0
  have rv := KT.val rel k
  refine call_meetsIn PySem.F.slot_dict_setdefault dd.typeIs PySem.F.entry_dict_setdefault (PySem.F.args_dict_setdefault_3 _ _ _) (sdef_meets (tupleKind (mixKind X.prog X.w)) a b hd fv)
    ⟨tupleKind_room_in1 hu, k, xs, key_of I3.hok hb, dd, hz, fun p hp => ?_, fun hn h' dd' hs => ?_⟩
  · cases ev : valV kvs k with
    | none => rw [ev, hp] at rv; exact False.elim rv
    | some v =>
      rw [ev, hp] at rv
      exact ⟨v, H3, I3.tok _, rv, k1 v ev⟩
  · have ev : valV kvs k = none := by
      cases ev : valV kvs k with
      | none => rfl
      | some v => rw [ev, hn] at rv; exact False.elim rv
    have pk : putK kvs k z = kvs ++ [(k, z)] := putK_new z ev
    obtain ⟨q, es, ep, hq, h2, h3, h4, _, h5⟩ := dd'
    refine ⟨z, _, d_write (a := a) (ob := .dT (kvs ++ [(k, z)])) I3 (by rw [ha]; exact True.intro) hs ⟨q, hq⟩ ⟨by rw [List.length_append]; exact hl, hd, _, ?_, q, es, ep, hq, h2, h3, h4, h5⟩, rz, k2 ev⟩
    rw [← pk]
    refine KT.keeps (KT.put rel k hb rz) fun c ys ec => ?_
    rw [upd_ne (ne_of ec ha (fun z => nomatch z))]; exact ec
/-! ### items -/
section
variable {prog : Program} {w : World} {A : Around} {E : Value → Shared → Prop} {s : Shared}
theorem items_view {d : Addr} {od : Obj} (ho : s.heap.get? d = some od) (hx : od.ExactDict) (hd : (d == sysModules) = false) {pos : Pos} {Q : Value → Shared → Prop}
    (h : Q (.ref s.heap.objs.size) { s with heap := s.heap.push { cls := .type "dict_items", data := .fields #[.ref d] } }) : wpAny (model prog w) A (callWith pos (.builtin "dict.items") [.ref d] [] []) Q E s := by
  have hT : s.TypeIs (.ref d) "dict" := ⟨od, ho, hx.1⟩
  have M : MeetsIn prog w (Builtin.«dict.items» ⟨[.ref d], []⟩) (fun _ R s => s.TypeIs (.ref d) "dict" ∧ R (.ok (.ret (.ref s.heap.objs.size))) { s with heap := s.heap.push { cls := .type "dict_items", data := .fields #[.ref d] } }) :=
    .of_wp fun A R s ⟨ty, h⟩ => by
      unfold Builtin.«dict.items»
      refine wpAny_bind ?_
      unfold Builtin.Dict.noArgs
      refine wpAny_bind (wpAny_notOrdered_dict ty ?_)
      show wpAny _ _ (pure d) _ _ s
      refine wpAny_pure ?_
      show wpAny _ _ (Builtin.Dict.showsAll d >>= _) _ _ s
      unfold Builtin.Dict.showsAll
      rw [if_neg (by rw [hd]; exact Bool.false_ne_true)]
      refine wpAny_bind (wpAny_pure ?_)
      exact wpAny_bind (wpAny_newObj_type (wpAny_pure ⟨_, rfl, h⟩))
  exact method_meetsIn PySem.F.slot_dict_items PySem.F.entry_dict_items rfl (PySem.evalArgs_none ⟨rfl, hT, PySem.F.args_dict_items_1 _, _, M, hT, h⟩)
theorem items_iter {v d : Addr} {od : Obj} {es : Array DictEntry} {ep : Nat} {Q : Value → Shared → Prop} (hv : s.heap.IsItemsView v d) (ho : s.heap.get? d = some od) (hdat : od.data = .dict es ep)
    (hQ : Q (.ref s.heap.objs.size) { s with heap := s.heap.push { cls := .type "dict_itemiterator", data := .fields #[.none, .bool false, .ref d, .int 0 0, .int es.size 0, .int ep 0, .none, .none] } }) :
    wpAny (model prog w) A (pyIter (.ref v)) Q E s := by
  obtain ⟨ov, p1, p2, p3⟩ := id hv
  refine wpAny_pyIter_slot hv.typeIs PySem.F.slot_dict_items_iter (wpAny_call_entry PySem.F.slot_dict_items_iter hv.typeIs PySem.F.entry_dict_items_iter ?_ (PySem.F.args_dict_items_iter_1 _))
  unfold Builtin.«dict_items.__iter__»
  refine wpAny_bind (wpAny_pure (wpAny_bind ?_))
  unfold Builtin.Dict_items.dictOf
  refine wpAny_bind (wpAny_field p1 p3 (x := .ref d) rfl (wpAny_pure (wpAny_bind ?_)))
  unfold Builtin.Dict_items.newIterator
  refine wpAny_bind (wpAny_dictEntries ho hdat (wpAny_bind (wpAny_dictEpoch ho hdat ?_)))
  simp only [show Builtin.Dict_items.ownsTuple "dict_itemiterator" = true by decide, if_true]
  refine wpAny_newObj_type (wpAny_pure ⟨_, rfl, "dict_itemiterator", _, ⟨_, Heap.get?_push_size _ rfl, rfl⟩, PySem.F.slot_dict_itemiterator_next.lookup, ?_⟩) (by simp only [sizeOk, Builtin.Dict_items.ownedTupleFields, List.size_toArray, List.length_append, List.length_cons, List.length_nil, sizeLine_eq]; omega)
  simpa [rawInt, Builtin.Dict_items.ownedTupleFields] using hQ
theorem items_next {it d : Addr} {i n ep : Nat} {od : Obj} {es : Array DictEntry} {en : DictEntry} {ok ov : Value} {Q : Option Value → Shared → Prop} (hit : IsItemIter s.heap it d i n ep ok ov)
    (hod : s.heap.get? d = some od) (hdd : od.data = .dict es ep) (hsz : es.size = n) (hx : es[i]? = some en)
    (hQ : ∀ h', IsItemIterOut h' it d (i + 1) n ep en.key en.val s.heap.objs.size → h'.get? s.heap.objs.size = some { cls := .type "tuple", data := .seq #[en.key, en.val] } → h'.objs.size = s.heap.objs.size + 1 →
      (∀ b o, b ≠ it → s.heap.get? b = some o → h'.get? b = some o) → Q (some (.ref s.heap.objs.size)) { s with heap := h' }) :
    wpAny (model prog w) A (pyNext (.ref it)) Q E s := by
  obtain ⟨hp, g, dr, tk, os⟩ := s
  have ty : Shared.TypeIs ⟨hp, g, dr, tk, os⟩ (.ref it) "dict_itemiterator" := ⟨_, hit, rfl⟩
  obtain ⟨hlt', hen⟩ := Array.getElem?_eq_some_iff.mp hx
  unfold pyNext
  refine wpAny_bind (wpAny_attempt (wpAny_callSpecial?_slot (name := Str.ofString "__next__") ty PySem.F.slot_dict_itemiterator_next (wpAny_call_entry PySem.F.slot_dict_itemiterator_next ty PySem.F.entry_dict_itemiterator_next ?_ (PySem.F.args_dict_itemiterator_next_1 _))))
  refine wpAny_bind (wpAny_pure (wpAny_bind (wpAny_bind ?_)))
  (first | refine wpAny_bind (wpAny_typeNameOfWhole_itemiter ty (wpAny_pure ?_)) | refine wpAny_bind (wpAny_typeNameOf_itemiter ty (wpAny_pure ?_)))
  refine wpAny_bind (wpAny_fieldsOf hit rfl ?_)
  simp only [show Builtin.Dict_items.ownsTuple "dict_itemiterator" = true by decide, if_true]
  show wpAny _ _ (if (Value.ref d == Value.none) = true then _ else _) _ _ _
  rw [if_neg (show ¬ ((Value.ref d == Value.none) = true) from Bool.false_ne_true)]
  refine wpAny_bind (wpAny_pure ?_)
  refine wpAny_bind (wpAny_dictEntries hod hdd ?_)
  rw [if_neg (by rw [hsz]; simp)]
  refine wpAny_bind (wpAny_pure ?_)
  refine wpAny_bind (wpAny_dictEpoch hod hdd ?_)
  rw [if_neg (by simp)]
  refine wpAny_pure ?_
  simp only [show ¬ ((i : Int) < 0) by omega, if_false, Int.toNat_natCast, Array.getElem?_eq_getElem hlt', hen]
  refine wpAny_bind ?_
  (first | refine wpAny_bind (wpAny_typeNameOfWhole_itemiter ty (wpAny_pure ?_)) | refine wpAny_bind (wpAny_typeNameOf_itemiter ty (wpAny_pure ?_)))
  refine wpAny_bind (wpAny_isOneOf_itemiter ty ?_); show wpAny _ _ (setField (.ref it) 3 (rawInt ((i : Int) + 1)) >>= _) _ _ ⟨hp, g, dr, tk, os⟩
  refine wpAny_bind (wpAny_setField_rec hit (by simp) fun g1 e1 m1 => ?_)
  replace m1 : Heap.SameBut it hp g1 := m1
  replace e1 : IsItemIter g1 it d (i + 1) n ep ok ov := by
    have z : ((i + 1 : Nat) : Int) = (i : Int) + 1 := by omega
    unfold IsItemIter; rw [z]; simpa [rawInt] using e1
  have ty1 : Shared.TypeIs ⟨g1, g, dr, tk, os⟩ (.ref it) "dict_itemiterator" := ⟨_, e1, rfl⟩
  refine wpAny_bind (wpAny_holding (wpAny_bind (wpAny_isOneOf_itemiter ty1 (wpAny_bind (wpAny_isOneOf_itemiter ty1 ?_)))))
  show wpAny _ _ (Builtin.Dict_items.pairFromOwner (.ref it) 6 en.key en.val) _ _ ⟨g1, g, dr, tk, os⟩
  unfold Builtin.Dict_items.pairFromOwner
  refine wpAny_bind (wpAny_newTuple ?_)
  have e2 : IsItemIter (g1.push { cls := .type "tuple", data := .seq #[en.key, en.val] }) it d (i + 1) n ep ok ov := Heap.get?_push_of_some _ e1
  generalize hg2 : g1.push { cls := .type "tuple", data := .seq #[en.key, en.val] } = g2 at e2
  have z1 : g1.objs.size = hp.objs.size := m1.1
  have il : it < hp.objs.size := Heap.lt_size hit
  have t2 : g2.get? hp.objs.size = some { cls := .type "tuple", data := .seq #[en.key, en.val] } := by rw [← hg2, ← z1]; exact Heap.get?_push_size _ rfl
  have z2 : g2.objs.size = hp.objs.size + 1 := by rw [← hg2, Heap.size_push, z1]
  have k2 : ∀ b o, b ≠ it → hp.get? b = some o → g2.get? b = some o := fun b o hb e => by rw [← hg2]; exact Heap.get?_push_of_some _ (m1.extBut b o hb e)
  show wpAny _ _ (Builtin.Dict_items.ownedTupleIsFree (.ref it) >>= _) _ _ ⟨g2, g, dr, tk, os⟩
  rw [z1]; clear hg2 e1 m1 ty1 z1 g1
  refine wpAny_bind ?_
  unfold Builtin.Dict_items.ownedTupleIsFree
  refine wpAny_bind (wpAny_field e2 rfl (x := .none) rfl (wpAny_pure ?_))
  simp only [if_true]
  refine wpAny_bind (wpAny_field e2 rfl (x := ok) rfl (wpAny_bind (wpAny_field e2 rfl (x := ov) rfl (wpAny_bind (wpAny_setField_rec e2 (by simp) fun g3 e3 m3 => ?_)))))
  replace m3 : Heap.SameBut it g2 g3 := m3
  replace e3 : IsItemIter g3 it d (i + 1) n ep en.key ov := e3
  refine wpAny_bind (wpAny_setField_rec e3 (by simp) fun g4 e4 m4 => ?_)
  replace m4 : Heap.SameBut it g3 g4 := m4
  replace e4 : IsItemIter g4 it d (i + 1) n ep en.key en.val := e4
  refine wpAny_bind (wpAny_setField_rec e4 (by simp) fun g5 e5 m5 => ?_)
  replace m5 : Heap.SameBut it g4 g5 := m5
  replace e5 : IsItemIterOut g5 it d (i + 1) n ep en.key en.val hp.objs.size := e5
  refine wpAny_bind (wpAny_setField_rec e5 (by simp) fun g6 e6 m6 => ?_)
  replace m6 : Heap.SameBut it g5 g6 := m6
  replace e6 : IsItemIterOut g6 it d (i + 1) n ep en.key en.val hp.objs.size := e6
  have nit : hp.objs.size ≠ it := Nat.ne_of_gt il
  refine wpAny_bind (wpAny_letGo (wpAny_pure (wpAny_pure ⟨_, rfl, wpAny_pure (hQ g6 e6 ?_ ?_ ?_)⟩)))
  · exact m6.extBut _ _ nit (m5.extBut _ _ nit (m4.extBut _ _ nit (m3.extBut _ _ nit t2)))
  · show g6.objs.size = hp.objs.size + 1
    rw [m6.1, m5.1, m4.1, m3.1, z2]
  · exact fun b o hb e => m6.extBut b o hb (m5.extBut b o hb (m4.extBut b o hb (m3.extBut b o hb (k2 b o hb e))))
theorem items_end {it d : Addr} {i n ep : Nat} {od : Obj} {es : Array DictEntry} {ok ov : Value} {Q : Option Value → Shared → Prop} (hh : A.handled = none) (hit : IsItemIter s.heap it d i n ep ok ov)
    (hod : s.heap.get? d = some od) (hdd : od.data = .dict es ep) (hsz : es.size = n) (hge : n ≤ i) (hQ : ∀ h', Heap.ExtBut it s.heap h' → Q none { s with heap := h' }) : wpAny (model prog w) A (pyNext (.ref it)) Q E s := by
  have ty : s.TypeIs (.ref it) "dict_itemiterator" := ⟨_, hit, rfl⟩
  unfold pyNext
  refine wpAny_bind (wpAny_attempt (wpAny_callSpecial?_slot (name := Str.ofString "__next__") ty PySem.F.slot_dict_itemiterator_next (wpAny_call_entry PySem.F.slot_dict_itemiterator_next ty PySem.F.entry_dict_itemiterator_next ?_ (PySem.F.args_dict_itemiterator_next_1 _))))
  refine wpAny_bind (wpAny_pure (wpAny_bind (wpAny_bind ?_)))
  (first | refine wpAny_bind (wpAny_typeNameOfWhole_itemiter ty (wpAny_pure ?_)) | refine wpAny_bind (wpAny_typeNameOf_itemiter ty (wpAny_pure ?_)))
  refine wpAny_bind (wpAny_fieldsOf hit rfl ?_)
  simp only [show Builtin.Dict_items.ownsTuple "dict_itemiterator" = true by decide, if_true]
  show wpAny _ _ (if (Value.ref d == Value.none) = true then _ else _) _ _ s
  rw [if_neg (show ¬ ((Value.ref d == Value.none) = true) from Bool.false_ne_true)]
  refine wpAny_bind (wpAny_pure ?_)
  refine wpAny_bind (wpAny_dictEntries hod hdd ?_)
  rw [if_neg (by rw [hsz]; simp)]
  refine wpAny_bind (wpAny_pure ?_)
  refine wpAny_bind (wpAny_dictEpoch hod hdd ?_)
  rw [if_neg (by simp)]
  refine wpAny_pure ?_
  have ge' : es.size ≤ i := by omega
  simp only [show ¬ ((i : Int) < 0) by omega, if_false, Int.toNat_natCast, Array.getElem?_eq_none ge']
  refine wpAny_bind ?_
  (first | refine wpAny_bind (wpAny_typeNameOfWhole_itemiter ty (wpAny_pure ?_)) | refine wpAny_bind (wpAny_typeNameOf_itemiter ty (wpAny_pure ?_)))
  show wpAny _ _ (setField (.ref it) 2 .none >>= _) _ _ s
  refine wpAny_bind (wpAny_setField hit rfl (by simp) ?_)
  show wpAny _ _ (newExc (.type "StopIteration") [] >>= _) _ _ _
  refine wpAny_bind ?_
  simp only [newExc, newTuple]
  refine wpAny_bind (wpAny_newObj_type ?_ (by size_fits))
  refine wpAny_bind (m := firstArgMember _ _) (wpAny_of_eq (a := Value.none) (by first | rfl | (simp only [firstArgMember]; rfl)) ?_)
  refine wpAny_newObj_type ?_ (by size_fits)
  simp only [raiseNew]
  refine wpAny_bind (wpAny_handled ?_)
  rw [show A.in1.handled = none from hh]
  refine wpAny_bind (wpAny_pure (wpAny_throw ?_))
  refine wpAny_bind (wpAny_isInstance (T := "StopIteration") (b := true) ⟨_, Heap.get?_push_size _ rfl, rfl⟩ isSubtype_stop ?_)
  exact wpAny_pure (hQ _ (((Heap.SameBut.update ..).extBut.push _).push _))
end
/-- a locked dict of tuple keys: its entries -/
theorem frzT2 {X : Cx} {pins : List (Addr × Obj)} {σ : St} {H : Hp} {s : Shared} {d : Addr} {o : Obj} {kvs : List (List Key × V)} (I : Inv X pins σ H s) (h : H d = some (.frz o (.dT kvs))) :
    (d == sysModules) = false ∧ s.heap.get? d = some o ∧ o.ExactDict ∧ ∃ (es : Array DictEntry) (ep : Nat), o.data = .dict es ep ∧ es.size = kvs.length ∧
      ∀ (i : Nat) (k : List Key) (v : V), kvs[i]? = some (k, v) → ∃ (en : DictEntry) (q : Addr), es[i]? = some en ∧ en.key = .ref q ∧ H q = some (.tup (k.map kV)) ∧ RelV v en.val := by
  obtain ⟨hd, z, hs, xs, pr, o', es, ep, ho, hx, hdt, he, _⟩ := I.hok d _ h
  rw [hd] at ho
  cases ho
  refine ⟨hs, hd, hx, es, ep, hdt, ?_, fun i k v e => ?_⟩
  · have l1 : es.size = xs.length := size_of_entries he
    have l2 : kvs.length = xs.length := Paired.length pr
    omega
  · obtain ⟨b, hb, e1, e2, e3⟩ := paired_get pr e
    have q := entry_at he i
    rw [hb] at q
    exact ⟨_, b.2.1, q, rfl, e2, e3⟩
/-- the pairs, each a new tuple of the key's own tuple and the value -/
def Itit (d : Addr) (o : Obj) (kvs : List (List Key × V)) : It :=
  ⟨fun i H => H d = some (.frz o (.dT kvs)) ∧ i < kvs.length, fun i H x H' => ∃ T k v q, kvs[i]? = some (k, v) ∧ x = .ref T ∧ H T = none ∧ H q = some (.tup (k.map kV)) ∧ H' = upd H T (.tup [.ref q, v]), fun i H => H d = some (.frz o (.dT kvs)) ∧ kvs.length ≤ i⟩
theorem turn_itemsT {P : Program} {w : World} {K : PySem.W.Frag} {d : Addr} {o : Obj} {es : Array DictEntry} {ep : Nat} {kvs : List (List Key × V)} {elts : List Expr} {kk : Nat} {tpos : Pos} (it : Addr) (hod : o.data = .dict es ep) :
    Turn P w K (.Tuple elts kk tpos) (Itit d o kvs) [it] it (fun i h => ∃ ok ov, IsItemIter h it d i kvs.length ep ok ov) where
  mem := by simp
  obj := fun i h st b hb => by
    have e : b = it := by simpa using hb
    subst e
    obtain ⟨ok, ov, e⟩ := st
    exact ⟨_, e, fun v z => nomatch z⟩
  keep := fun i h h' st k => let ⟨ok, ov, e⟩ := st; ⟨ok, ov, k it (by simp) _ e⟩
  item := by
    intro X hP hw hK hc i pins s σ H E I hf st hg
    subst hP hw hK
    obtain ⟨hd, hi⟩ := hg
    obtain ⟨hs, hgd, hx, es', ep', hdt, hsz, ent⟩ := frzT2 I hd
    obtain ⟨rfl, rfl⟩ := dict_ep hod hdt
    obtain ⟨⟨k, v⟩, hkv⟩ : ∃ p, kvs[i]? = some p := ⟨kvs[i], List.getElem?_eq_getElem hi⟩
    obtain ⟨en, q, hen, hkey, hq, rv⟩ := ent i k v hkv
    obtain ⟨ok, ov, he⟩ := st
    have hlt : it < s.heap.objs.size := Heap.lt_size he
    refine items_next he hgd hdt hsz hen fun h' ho hT hz hk => ?_
    refine ⟨_, rfl, wpAny_letOwnedTupleGo_items (s := { s with heap := h' }) ho fun h'' he' sb => ?_⟩
    have hT2 : h''.get? s.heap.objs.size = some { cls := .type "tuple", data := .seq #[en.key, en.val] } := (sb.2 _ (Nat.ne_of_gt hlt)).trans hT
    have new : ObjOk X.prog X.w (upd H s.heap.objs.size (.tup [.ref q, v])) h'' s.heap.objs.size (.tup [.ref q, v]) :=
      ⟨by show 2 ≤ sizeLine; decide, [en.key, en.val], .cons hkey (.cons rv .nil), ⟨_, hT2, rfl, _, rfl⟩⟩
    have I1 : Inv X pins σ (upd H s.heap.objs.size (.tup [.ref q, v])) { s with heap := h'' } :=
      I.turnedNew (t' := s.toks) (ch := [it]) (fun b ob hb e => (sb.2 b (by simpa using hb)).trans (hk b ob (by simpa using hb) e)) hf (Nat.le_refl _) new
    refine ⟨.ref s.heap.objs.size, _, I1, rfl, ⟨_, k, v, q, hkv, rfl, I.hok.fresh (Nat.le_refl _), hq, rfl⟩, ⟨en.key, en.val, he'⟩, fun b hb => ?_⟩
    have e : b = it := by simpa using hb
    rw [e, upd_ne (Nat.ne_of_lt hlt)]
    exact (hf it (by simp)).1
  done := by
    intro X hP hw hK hc i pins s σ H E I hf st hg
    subst hP hw hK
    obtain ⟨hd, hi⟩ := hg
    obtain ⟨f0, f1, f2, f3, f4, f5⟩ := hf it (by simp)
    obtain ⟨hs, hgd, hx, es', ep', hdt, hsz, ent⟩ := frzT2 I hd
    obtain ⟨rfl, rfl⟩ := dict_ep hod hdt
    obtain ⟨ok, ov, he⟩ := st
    exact items_end (I.ok.hd hc) he hgd hdt hsz hi fun h' eb => ⟨rfl, I.turned (t' := s.toks) (fun b ob hb e => eb b ob hb e) f0 f1 f3 f4 f5⟩
  self := fun A i s Q E st h => let ⟨_, _, e⟩ := st; PySem.W.kcp_self e h
def iItemsT (td : TE) : TI := fun σ H R => td σ H fun x H1 => ∃ d o kvs, x = .ref d ∧ H1 d = some (.frz o (.dT kvs)) ∧ R (Itit d o kvs) H1
theorem pi_itemsT {X : Cx} {e : Expr} {td : TE} {apos cpos : Pos} {elts : List Expr} {kk : Nat} {tpos : Pos} (he : PE X e td) (hbase : attributeBase e "items" X.env (eval e X.env) = eval e X.env := by rfl) (hline : (apos.endLine == cpos.line) = true := by rfl) :
    PI X (.Tuple elts kk tpos) (.Call (.Attribute e "items" apos) [] [] cpos) (iItemsT td) := by
  intro pins s σ H R I h
  refine wpAny_Call_method (T := "dict") (id := "dict.items") hbase rfl hline PySem.F.plainAttrs_dict PySem.F.slot_dict_items PySem.F.type_dict_items (thn (he pins s σ H _ I h) fun u s1 ⟨x, H1, I1, rx, d, o, kvs, ex, hd, q⟩ => ?_)
  subst ex
  obtain rfl : u = Value.ref d := rx
  obtain ⟨hs, hgd, hx, es, ep, hdt, hsz, ent⟩ := frzT2 I1 hd
  refine ⟨⟨o, hgd, hx.1⟩, fun b z => ?_, ?_⟩
  · cases z
    exact ⟨o, hgd, hx.2.1⟩
  refine items_view hgd hx hs ?_
  have I2 : Inv X pins σ H1 { s1 with heap := s1.heap.push { cls := .type "dict_items", data := .fields #[.ref d] } } := I1.kept (t' := s1.toks) fun b ob q => Heap.get?_push_of_some _ q
  refine items_iter (d := d) ⟨_, Heap.get?_push_size _ rfl, rfl, rfl⟩ (Heap.get?_push_of_some _ hgd) hdt (pi_one (tk := s1.toks) I2 _ (turn_itemsT _ hdt) ⟨.none, .none, ?_⟩ q)
  rw [← hsz]
  exact Heap.get?_push_size _ rfl
end JX
set_option Elab.async false
set_option linter.all false
set_option maxRecDepth 100000
set_option maxHeartbeats 2000000
/-! THE PROGRAM: its text by places, what stands on the heap for the specification's things. -/
namespace Jo
open PySem PySem.Spec L2 JX
open PyProof.Rows hiding St frameOf passOn
def top (i : Nat) : Stmt := PySem.Challenge.pw_joinedobjects_s01_join.main.body.getD i (.Pass ⟨0, 0, 0, 0⟩)
/-! ### globals -/
def Gi (mg : Str → Option Value) (x : Str) (n : Int) : Prop := ∃ t, mg x = some (.int n t)
theorem pe_gi {X : Cx} {x : Str} {n : Int} {pos : Pos} (h : Gi X.mg x n) (hg : Gl X x := by rfl) (hd : (x == ("__debug__" : Str)) = false := by decide) : PE X (.Name x pos) (tC (.int n)) := by
  obtain ⟨t, e⟩ := h
  exact pe_glob hg e ⟨t, rfl⟩ hd
/-- a tuple among the globals -/
def Gt (K : PySem.W.Frag) (mg : Str → Option Value) (x : Str) (xs : List V) : Prop := ∃ a, mg x = some (.ref a) ∧ ∀ H : Hp, SqT K H a xs
theorem pe_gt {X : Cx} {x : Str} {xs : List V} {pos : Pos} (h : Gt X.K X.mg x xs) (hg : Gl X x := by rfl) (hd : (x == ("__debug__" : Str)) = false := by decide) : PE X (.Name x pos) (fun _ H Q => ∀ a, SqT X.K H a xs → Q (.ref a) H) := by
  obtain ⟨a, e, q⟩ := h
  intro pins s σ H Q I k
  exact pe_glob (v := .ref a) hg e rfl hd pins s σ H Q I (k a (q H))
/-! ### defs -/
structure Cal (P : Program) (w : World) (K : PySem.W.Frag) (mg : Str → Option Value) (base : Heap) (CX : CXT) (k : Nat) (name : Str) (ps : List Str) (sp : Sp) : Prop where
  ex : ∃ f fd, mg name = some (.ref f) ∧ PySem.W.keepIn K (.ref f) = true ∧ Binds K fd ps [] ∧ FnOk P w K mg base CX k f fd ps sp
theorem pe_cal {X : Cx} {CX : CXT} {k : Nat} {x : Str} {ps : List Str} {sp : Sp} {E : XK} {p pos : Pos} {e : Expr} {es : List Expr} {t : TA} (G : Cal X.prog X.w X.K X.mg X.base CX k x ps sp) (hr : Room k X.A) (hx : Passes CX X E) (ha : PA X (e :: es) t)
    (hg : Gl X x := by rfl) (hdb : (x == ("__debug__" : Str)) = false := by decide) (he : starEach (e :: es) X.env = (false, eval e X.env) :: starEach es X.env := by rfl) (hpl : (backTo pos (starEach es X.env)).any (·.1) = false := by rfl) :
    PE X (.Call (.Name x p) (e :: es) [] pos) (tCall sp [] E t) := by
  obtain ⟨f, fd, h1, h2, h3, h4⟩ := G.ex
  exact pe_call h4 hr hg h1 h2 h3 .nil hx ha hdb he hpl
/-- a def as the top has written it -/
structure DefIn (K : PySem.W.Frag) (mg : Str → Option Value) (name : Str) (st : Stmt) (ps : List Str) : Prop where
  ex : ∃ f fd, mg name = some (.ref f) ∧ Fun K name name st f fd ∧ Binds K fd ps []
section
variable {P : Program} {w : World} {K : PySem.W.Frag} {mg : Str → Option Value} {base : Heap}
theorem DefIn.ok {name : Str} {st : Stmt} {N ps : List Str} {k : Nat} {sp : Sp} (D : DefIn K mg name st ps) (S : FnScope N ps (defScope st)) (len : ∀ vs H Q E, sp vs H Q E → vs.length = ps.length)
    (hbody : ∀ (f : Addr) (cdv : Value) (A : Around) (outer : List Env) (s : Shared) (H : Hp) (vs : List V) (Q : VK) (E : XK), Room k (A.deeper (envOfC name (defScope st) s.heap.objs.size f cdv)) → sp vs H Q E →
      ∃ t, PSs (cxOf CX0 P w K mg base N name (defScope st) f cdv A outer s H E).nox (defBody st) t ∧ t { nx := fun _ H' => Q .non H', rt := Q } (start N vs) H) : Cal P w K mg base CX0 (k + 1) name ps sp := by
  obtain ⟨f, fd, h1, h2, h3⟩ := D.ex
  exact ⟨f, fd, h1, h2.kp, h3, h2.ok S len fun cdv A outer s H vs Q E hr h => hbody f cdv A outer s H vs Q E hr h⟩
/-- .. one that may raise the class C -/
theorem DefIn.okE {C : Addr} {name : Str} {st : Stmt} {N ps : List Str} {k : Nat} {sp : Sp} (D : DefIn K mg name st ps) (S : FnScope N ps (defScope st)) (len : ∀ vs H Q E, sp vs H Q E → vs.length = ps.length)
    (hbody : ∀ (f : Addr) (cdv : Value) (A : Around) (outer : List Env) (s : Shared) (H : Hp) (vs : List V) (Q : VK) (E : XK), Room k (A.deeper (envOfC name (defScope st) s.heap.objs.size f cdv)) → sp vs H Q E →
      ∃ t, PSs (cxOf (CXN P w C) P w K mg base N name (defScope st) f cdv A outer s H E) (defBody st) t ∧ t { nx := fun _ H' => Q .non H', rt := Q } (start N vs) H) : Cal P w K mg base (CXN P w C) (k + 1) name ps sp := by
  obtain ⟨f, fd, h1, h2, h3⟩ := D.ex
  obtain ⟨oc, od, kV, doc, pm, an, cdv, ct, osl, e, lk, hcd⟩ := h2.ex
  subst e
  exact ⟨f, _, h1, h2.kp, h3, fn_of lk hcd S len fun A outer s H vs Q E hr h => hbody f cdv A outer s H vs Q E hr h⟩
end
/-! ### fields -/
/-- the instance at a has v as its f -/
def Fd (K : PySem.W.Frag) (H : Hp) (a : Addr) (f : Str) (v : V) : Prop := ∃ C dx fs, H a = some (.ins C dx fs) ∧ Cls K C ∧ NoAttr K C f ∧ fs.lookup f = some v
theorem Fd.same {K : PySem.W.Frag} {H H' : Hp} {a : Addr} {f : Str} {v : V} (s : Same H H') (h : Fd K H a f v) : Fd K H' a f v := by
  obtain ⟨C, dx, fs, h1, h2⟩ := h
  exact ⟨C, dx, fs, s _ _ h1, h2⟩
def tF (K : PySem.W.Frag) (ta : TE) (f : Str) : TE := fun σ H Q => ta σ H fun x H1 => ∃ a v, x = .ref a ∧ Fd K H1 a f v ∧ Q v H1
theorem pe_f {X : Cx} {e : Expr} {f : Str} {pos : Pos} {ta : TE} (he : PE X e ta) (hb : attributeBase e f X.env (eval e X.env) = eval e X.env := by rfl) : PE X (.Attribute e f pos) (tF X.K ta f) := by
  intro pins s σ H Q I h
  refine attr_of hb (thn (he pins s σ H _ I h) fun u s1 ⟨x, H1, I1, rx, a, v, ex, ⟨C, dx, fs, ea, c, n, l⟩, q⟩ => ?_)
  subst ex
  obtain rfl : u = Value.ref a := rx
  exact getattr_ok I1 ea c n l fun u' s2 I2 ru => ⟨v, H1, I2, ru, q⟩
/-! ### heaps -/
theorem Same.upd {H : Hp} {a : Addr} {o : HO} (h : H a = none) : Same H (upd H a o) := fun b u e => by
  rw [upd_ne (ne_of_none e h)]; exact e
theorem Same.put {H0 H : Hp} {a : Addr} {o : HO} (s : Same H0 H) (h : H0 a = none) : Same H0 (L2.upd H a o) := fun b u e => by
  rw [upd_ne (ne_of_none e h)]; exact s b u e
/-! ### lists of things -/
/-- xs are references to things that stand for os, one by one -/
def Al {α : Type} (G : Addr → α → Prop) (xs : List V) (os : List α) : Prop := xs.length = os.length ∧ ∀ (i : Nat) (o : α), os[i]? = some o → ∃ a, xs[i]? = some (V.ref a) ∧ G a o
theorem Al.nil {α : Type} {G : Addr → α → Prop} : Al G [] [] := ⟨rfl, fun i o h => by simp at h⟩
theorem Al.mono {α : Type} {G G' : Addr → α → Prop} {xs : List V} {os : List α} (h : Al G xs os) (k : ∀ a o, G a o → G' a o) : Al G' xs os := ⟨h.1, fun i o e => let ⟨a, e1, g⟩ := h.2 i o e; ⟨a, e1, k a o g⟩⟩
theorem Al.snoc {α : Type} {G : Addr → α → Prop} {xs : List V} {os : List α} (h : Al G xs os) {a : Addr} {o : α} (g : G a o) : Al G (xs ++ [V.ref a]) (os ++ [o]) := by
  refine ⟨by rw [List.length_append, List.length_append, h.1]; rfl, fun i o' e => ?_⟩
  by_cases hi : i < os.length
  · rw [List.getElem?_append_left hi] at e
    obtain ⟨b, e1, g1⟩ := h.2 i o' e
    exact ⟨b, by rw [List.getElem?_append_left (by rw [h.1]; exact hi)]; exact e1, g1⟩
  · rw [List.getElem?_append_right (by omega)] at e
    have hi2 : i - os.length = 0 := by
      cases q : i - os.length with
      | zero => rfl
      | succ n => rw [q] at e; simp at e
    rw [hi2] at e
    have eo : o = o' := by simpa using e
    subst eo
    refine ⟨a, ?_, g⟩
    rw [List.getElem?_append_right (by rw [h.1]; omega), h.1, hi2]
    rfl
theorem Al.get {α : Type} {G : Addr → α → Prop} {xs : List V} {os : List α} (h : Al G xs os) {i : Nat} {v : V} (e : xs[i]? = some v) : ∃ o a, os[i]? = some o ∧ v = .ref a ∧ G a o := by
  have hi : i < os.length := by rw [← h.1]; exact (List.getElem?_eq_some_iff.mp e).1
  obtain ⟨a, e1, g⟩ := h.2 i os[i] (List.getElem?_eq_getElem hi)
  rw [e] at e1
  exact ⟨_, a, List.getElem?_eq_getElem hi, Option.some.inj e1, g⟩
theorem take_snoc {α : Type} {l : List α} {i : Nat} {x : α} (h : l[i]? = some x) : l.take (i + 1) = l.take i ++ [x] := by
  rw [List.take_add_one, h]; rfl
theorem take_all {α : Type} {l : List α} {n : Nat} (h : n = l.length) : l.take n = l := by rw [h]; exact List.take_length
/-! ### loops -/
def g2 (K : PySem.W.Frag) (i j : Nat) : TG := gTup K 2 (gCons (gName i) (gCons (gName j) gNil))
section
variable {K : PySem.W.Frag} {a b : Addr} {xs ys : List V} {tb : TS} {D : Ends} {σ : St} {H : Hp} {i1 i2 : Nat}
theorem for_enum (Pv : Nat → St → Hp → Prop) (h0 : Pv 0 σ H) (hl : ∀ i σ H, i ≤ xs.length → Pv i σ H → SqL K H a xs)
    (hs : ∀ i x σ H T, xs[i]? = some x → Pv i σ H → H T = none → tb { D with nx := Pv (i + 1), ct := Pv (i + 1), bk := D.nx } ((σ.set i1 (some (.int (i : Nat)))).set i2 (some x)) (upd H T (.tup [.int (i : Nat), x]))) (hd : ∀ σ H, Pv xs.length σ H → D.nx σ H) :
    ∃ W : Nat → Nat → St → Hp → Prop, (∃ m, W 0 m σ H) ∧ ∀ i m σ H, W i m σ H →
      ((Ite K a).stop i H ∧ D.nx σ H) ∨ ((Ite K a).go i H ∧ ∃ N : St → Hp → Prop, (∀ σ' H', N σ' H' → ∃ m', m' < m ∧ W (i + 1) m' σ' H') ∧ ∀ x H', (Ite K a).yld i H x H' → g2 K i1 i2 x σ H' fun σ2 H2 => tb { D with nx := N, ct := N, bk := D.nx } σ2 H2) := by
  refine ⟨fun i m σ H => m = xs.length - i ∧ i ≤ xs.length ∧ Pv i σ H, ⟨xs.length, by simp, Nat.zero_le _, h0⟩, ?_⟩
  rintro i m σ H ⟨rfl, hi, p⟩
  have q := hl i σ H hi p
  by_cases hlt : i < xs.length
  · refine .inr ⟨⟨xs, xs[i], q, by simp [hlt]⟩, Pv (i + 1), fun σ' H' p' => ⟨xs.length - (i + 1), by omega, rfl, hlt, p'⟩, fun v H' y => ?_⟩
    obtain ⟨T, x, rfl, hT, rfl, hx⟩ := y
    exact ⟨T, _, rfl, SqT.of upd_same, rfl, _, _, rfl, _, _, rfl, rfl, hs i x σ H T (hx xs q) p hT⟩
  · have e : i = xs.length := by omega
    subst e
    exact .inl ⟨⟨xs, q, Nat.le_refl _⟩, hd σ H p⟩
theorem for_zip (Pv : Nat → St → Hp → Prop) (hxy : xs.length = ys.length) (h0 : Pv 0 σ H) (hl : ∀ i σ H, i ≤ xs.length → Pv i σ H → SqL K H a xs ∧ SqL K H b ys)
    (hs : ∀ i x y σ H T, xs[i]? = some x → ys[i]? = some y → Pv i σ H → H T = none → tb { D with nx := Pv (i + 1), ct := Pv (i + 1), bk := D.nx } ((σ.set i1 (some x)).set i2 (some y)) (upd H T (.tup [x, y]))) (hd : ∀ σ H, Pv xs.length σ H → D.nx σ H) :
    ∃ W : Nat → Nat → St → Hp → Prop, (∃ m, W 0 m σ H) ∧ ∀ i m σ H, W i m σ H →
      ((Itz K a b).stop i H ∧ D.nx σ H) ∨ ((Itz K a b).go i H ∧ ∃ N : St → Hp → Prop, (∀ σ' H', N σ' H' → ∃ m', m' < m ∧ W (i + 1) m' σ' H') ∧ ∀ x H', (Itz K a b).yld i H x H' → g2 K i1 i2 x σ H' fun σ2 H2 => tb { D with nx := N, ct := N, bk := D.nx } σ2 H2) := by
  refine ⟨fun i m σ H => m = xs.length - i ∧ i ≤ xs.length ∧ Pv i σ H, ⟨xs.length, by simp, Nat.zero_le _, h0⟩, ?_⟩
  rintro i m σ H ⟨rfl, hi, p⟩
  obtain ⟨q1, q2⟩ := hl i σ H hi p
  by_cases hlt : i < xs.length
  · refine .inr ⟨⟨xs, ys, xs[i], ys[i]'(by omega), q1, q2, by simp [hlt], by simp [← hxy, hlt]⟩, Pv (i + 1), fun σ' H' p' => ⟨xs.length - (i + 1), by omega, rfl, hlt, p'⟩, fun v H' z => ?_⟩
    obtain ⟨T, x, y, rfl, hT, rfl, hx, hy⟩ := z
    exact ⟨T, _, rfl, SqT.of upd_same, rfl, _, _, rfl, _, _, rfl, rfl, hs i x y σ H T (hx xs q1) (hy ys q2) p hT⟩
  · have e : i = xs.length := by omega
    subst e
    exact .inl ⟨⟨xs, ys, q1, q2, .inl (Nat.le_refl _)⟩, hd σ H p⟩
theorem for_items {d : Addr} {o : Obj} {kvs : List (List Key × V)} (Pv : Nat → St → Hp → Prop) (h0 : Pv 0 σ H) (hl : ∀ i σ H, i ≤ kvs.length → Pv i σ H → H d = some (.frz o (.dT kvs)))
    (hs : ∀ i k v q σ H T, kvs[i]? = some (k, v) → Pv i σ H → H T = none → H q = some (.tup (k.map kV)) → tb { D with nx := Pv (i + 1), ct := Pv (i + 1), bk := D.nx } ((σ.set i1 (some (.ref q))).set i2 (some v)) (upd H T (.tup [.ref q, v]))) (hd : ∀ σ H, Pv kvs.length σ H → D.nx σ H) :
    ∃ W : Nat → Nat → St → Hp → Prop, (∃ m, W 0 m σ H) ∧ ∀ i m σ H, W i m σ H →
      ((Itit d o kvs).stop i H ∧ D.nx σ H) ∨ ((Itit d o kvs).go i H ∧ ∃ N : St → Hp → Prop, (∀ σ' H', N σ' H' → ∃ m', m' < m ∧ W (i + 1) m' σ' H') ∧ ∀ x H', (Itit d o kvs).yld i H x H' → g2 K i1 i2 x σ H' fun σ2 H2 => tb { D with nx := N, ct := N, bk := D.nx } σ2 H2) := by
  refine ⟨fun i m σ H => m = kvs.length - i ∧ i ≤ kvs.length ∧ Pv i σ H, ⟨kvs.length, by simp, Nat.zero_le _, h0⟩, ?_⟩
  rintro i m σ H ⟨rfl, hi, p⟩
  have q := hl i σ H hi p
  by_cases hlt : i < kvs.length
  · refine .inr ⟨⟨q, hlt⟩, Pv (i + 1), fun σ' H' p' => ⟨kvs.length - (i + 1), by omega, rfl, hlt, p'⟩, fun x H' z => ?_⟩
    obtain ⟨T, k, v, t, e, rfl, hT, ht, rfl⟩ := z
    exact ⟨T, _, rfl, SqT.of upd_same, rfl, _, _, rfl, _, _, rfl, rfl, hs i k v t σ H T e p hT ht⟩
  · have e : i = kvs.length := by omega
    subst e
    exact .inl ⟨⟨q, Nat.le_refl _⟩, hd σ H p⟩
theorem for_rev (Pv : Nat → St → Hp → Prop) {g : TG} (h0 : Pv 0 σ H) (hl : ∀ i σ H, i ≤ xs.length → Pv i σ H → SqL K H a xs)
    (hs : ∀ i x σ H, i < xs.length → xs[xs.length - 1 - i]? = some x → Pv i σ H → g x σ H fun σ2 H2 => tb { D with nx := Pv (i + 1), ct := Pv (i + 1), bk := D.nx } σ2 H2) (hd : ∀ σ H, Pv xs.length σ H → D.nx σ H) :
    ∃ W : Nat → Nat → St → Hp → Prop, (∃ m, W 0 m σ H) ∧ ∀ i m σ H, W i m σ H →
      ((Itv K a xs.length).stop i H ∧ D.nx σ H) ∨ ((Itv K a xs.length).go i H ∧ ∃ N : St → Hp → Prop, (∀ σ' H', N σ' H' → ∃ m', m' < m ∧ W (i + 1) m' σ' H') ∧ ∀ x H', (Itv K a xs.length).yld i H x H' → g x σ H' fun σ2 H2 => tb { D with nx := N, ct := N, bk := D.nx } σ2 H2) := by
  refine ⟨fun i m σ H => m = xs.length - i ∧ i ≤ xs.length ∧ Pv i σ H, ⟨xs.length, by simp, Nat.zero_le _, h0⟩, ?_⟩
  rintro i m σ H ⟨rfl, hi, p⟩
  have q := hl i σ H hi p
  by_cases hlt : i < xs.length
  · refine .inr ⟨⟨hlt, xs, xs[xs.length - 1 - i]'(by omega), q, by rw [List.getElem?_eq_getElem]⟩, Pv (i + 1), fun σ' H' p' => ⟨xs.length - (i + 1), by omega, rfl, hlt, p'⟩, fun x H' y => ?_⟩
    obtain ⟨e, y⟩ := y
    subst e
    exact hs i x σ _ hlt (y xs q) p
  · have e : i = xs.length := by omega
    subst e
    exact .inl ⟨Nat.le_refl _, hd σ H p⟩
end
/-! ### what stands for the specification's things -/
open Sd07 (Object Section Symbol Reloc)
/-- bytes -/
def iv (l : List Nat) : List V := l.map fun (n : Nat) => V.int (n : Int)
/-- a tuple of numbers as a key -/
def kk (l : List Nat) : List Key := l.map fun (n : Nat) => Sum.inl (n : Int)
theorem kk_iv (l : List Nat) : (kk l).map kV = iv l := by
  unfold kk iv
  rw [List.map_map]
  rfl
theorem kk_inj {a b : List Nat} (h : kk a = kk b) : a = b := by
  unfold kk at h
  refine List.map_inj_right (fun x y e => ?_) |>.mp h
  have z := Sum.inl.inj e
  omega
theorem iv_len (l : List Nat) : (iv l).length = l.length := List.length_map ..
theorem iv_get {l : List Nat} {i n : Nat} (h : l[i]? = some n) : (iv l)[i]? = some (.int (n : Int)) := by
  unfold iv
  rw [List.getElem?_map, h]; rfl
/-- the pair (p, n) -/
abbrev pr (k : Nat × Nat) : List V := [.int (k.1 : Int), .int (k.2 : Int)]
abbrev pk (k : Nat × Nat) : List Key := [Sum.inl (k.1 : Int), Sum.inl (k.2 : Int)]
theorem pk_inj {a b : Nat × Nat} (h : pk a = pk b) : a = b := by
  injection h with h1 h2
  injection h2 with h2 _
  have z1 := Sum.inl.inj h1
  have z2 := Sum.inl.inj h2
  exact Prod.ext (by omega) (by omega)
def PairAt (H : Hp) (a : Addr) (k : Nat × Nat) : Prop := H a = some (.tup (pr k))
structure SecAt (K : PySem.W.Frag) (H : Hp) (a : Addr) (s : Section) : Prop where
  kind : Fd K H a "kind" (.int s.kind)
  al : Fd K H a "alignment" (.int ((2 ^ s.align : Nat) : Int))
  marked : Fd K H a "marked" (.bl s.keep)
  size : Fd K H a "size" (.int s.size)
def secNo : Sd07.Place → Nat
  | .none => 65535
  | .number _ => 65534
  | .inside s _ => s
def valNo : Sd07.Place → Nat
  | .none => 0
  | .number n => n
  | .inside _ n => n
structure SymAt (K : PySem.W.Frag) (H : Hp) (a : Addr) (y : Symbol) : Prop where
  name : ∃ t, Fd K H a "name" (.ref t) ∧ H t = some (.tup ((kk y.name).map kV))
  binding : Fd K H a "binding" (.int y.binding)
  sec : Fd K H a "section" (.int (secNo y.place))
  val : Fd K H a "value" (.int (valNo y.place))
structure RelAt (K : PySem.W.Frag) (H : Hp) (a : Addr) (r : Reloc) : Prop where
  sec : Fd K H a "section" (.int r.sec)
  symbol : Fd K H a "symbol" (.int r.symbol)
  offset : Fd K H a "offset" (.int r.offset)
  kind : Fd K H a "kind" (.int r.kind)
  addend : Fd K H a "addend" (.int r.addend)
structure PartAt (K : PySem.W.Frag) (H : Hp) (a : Addr) (o : Object) : Prop where
  sections : ∃ l xs, Fd K H a "sections" (.ref l) ∧ H l = some (.lst xs) ∧ Al (SecAt K H) xs o.sections
  contents : ∃ l xs, Fd K H a "contents" (.ref l) ∧ H l = some (.lst xs) ∧ Al (fun c (s : Section) => H c = some (.lst (iv s.bytes))) xs o.sections
  symbols : ∃ l xs, Fd K H a "symbols" (.ref l) ∧ H l = some (.lst xs) ∧ Al (SymAt K H) xs o.symbols
  relocs : ∃ l xs, Fd K H a "relocations" (.ref l) ∧ H l = some (.lst xs) ∧ Al (RelAt K H) xs o.relocs
def PartsAt (K : PySem.W.Frag) (H : Hp) (l : Addr) (os : List Object) : Prop := ∃ xs, H l = some (.lst xs) ∧ Al (PartAt K H) xs os
section
variable {K : PySem.W.Frag} {H H' : Hp} {a : Addr}
theorem SecAt.same (s : Same H H') {x : Section} (h : SecAt K H a x) : SecAt K H' a x := ⟨h.kind.same s, h.al.same s, h.marked.same s, h.size.same s⟩
theorem SymAt.same (s : Same H H') {x : Symbol} (h : SymAt K H a x) : SymAt K H' a x := ⟨let ⟨t, h1, h2⟩ := h.name; ⟨t, h1.same s, s _ _ h2⟩, h.binding.same s, h.sec.same s, h.val.same s⟩
theorem RelAt.same (s : Same H H') {x : Reloc} (h : RelAt K H a x) : RelAt K H' a x := ⟨h.sec.same s, h.symbol.same s, h.offset.same s, h.kind.same s, h.addend.same s⟩
theorem PartAt.same (s : Same H H') {x : Object} (h : PartAt K H a x) : PartAt K H' a x :=
  ⟨let ⟨l, xs, h1, h2, h3⟩ := h.sections; ⟨l, xs, h1.same s, s _ _ h2, h3.mono fun _ _ g => g.same s⟩, let ⟨l, xs, h1, h2, h3⟩ := h.contents; ⟨l, xs, h1.same s, s _ _ h2, h3.mono fun _ _ g => s _ _ g⟩,
   let ⟨l, xs, h1, h2, h3⟩ := h.symbols; ⟨l, xs, h1.same s, s _ _ h2, h3.mono fun _ _ g => g.same s⟩, let ⟨l, xs, h1, h2, h3⟩ := h.relocs; ⟨l, xs, h1.same s, s _ _ h2, h3.mono fun _ _ g => g.same s⟩⟩
theorem PartsAt.same (s : Same H H') {os : List Object} (h : PartsAt K H a os) : PartsAt K H' a os := let ⟨xs, h1, h2⟩ := h; ⟨xs, s _ _ h1, h2.mono fun _ _ g => g.same s⟩
end
end Jo
set_option Elab.async false
set_option linter.all false
set_option maxRecDepth 100000
set_option maxHeartbeats 2000000
/-! LISTS: nested walks; well-formed objects. -/
namespace Jo
open Sd07 (Object Section Symbol Reloc)
structure WFo (o : Object) : Prop where
  ns : o.sections.length ≤ 64
  ny : o.symbols.length ≤ 256
  nr : o.relocs.length ≤ 1024
  sec : ∀ s ∈ o.sections, s.kind ≤ 3 ∧ s.align ≤ 12 ∧ s.size ≤ 65536 ∧ s.bytes.length = if s.kind = 3 then 0 else s.size
  sym : ∀ y ∈ o.symbols, y.binding ≤ 2 ∧ (y.binding = 0 → y.place ≠ .none) ∧ (∀ s n, y.place = .inside s n → s < o.sections.length ∧ n ≤ 65536) ∧ ∀ n, y.place = .number n → n < 4294967296
  rel : ∀ r ∈ o.relocs, r.symbol < o.symbols.length ∧ r.kind ≤ 3 ∧ -2147483648 ≤ r.addend ∧ r.addend < 2147483648 ∧ ∃ s, o.sections[r.sec]? = some s ∧ s.kind ≠ 3 ∧ r.offset + Sd07.width r.kind ≤ s.size
structure WF (os : List Object) : Prop where
  n : os.length ≤ 32
  all : ∀ o ∈ os, WFo o
theorem WF.at {os : List Object} (h : WF os) {i : Nat} {o : Object} (e : os[i]? = some o) : WFo o := h.all o (List.mem_of_getElem? e)
section
variable {β : Type}
/-- the places of things (of an object) that pass, from the inside -/
def inn (c : Nat → Nat → β → Bool) (p : Nat) (l : List β) : List (Nat × Nat) := l.zipIdx.filterMap fun y => if c p y.2 y.1 = true then some (p, y.2) else none
def nest (th : Object → List β) (c : Nat → Nat → β → Bool) (os : List Object) : List (Nat × Nat) := os.zipIdx.flatMap fun x => inn c x.2 (th x.1)
theorem zipIdx_take {α : Type} {l : List α} {i : Nat} {x : α} (h : l[i]? = some x) : (l.take (i + 1)).zipIdx = (l.take i).zipIdx ++ [(x, i)] := by
  have hi := (List.getElem?_eq_some_iff.mp h).1
  rw [take_snoc h, List.zipIdx_append]
  simp [List.length_take, Nat.min_eq_left (Nat.le_of_lt hi)]
theorem inn_snoc {c : Nat → Nat → β → Bool} {p : Nat} {l : List β} {i : Nat} {x : β} (h : l[i]? = some x) : inn c p (l.take (i + 1)) = inn c p (l.take i) ++ if c p i x = true then [(p, i)] else [] := by
  unfold inn
  rw [zipIdx_take h, List.filterMap_append]
  congr 1
  by_cases q : c p i x = true
  · simp [q]
  · simp [q]
theorem nest_snoc {th : Object → List β} {c : Nat → Nat → β → Bool} {os : List Object} {i : Nat} {o : Object} (h : os[i]? = some o) : nest th c (os.take (i + 1)) = nest th c (os.take i) ++ inn c i (th o) := by
  unfold nest
  rw [zipIdx_take h, List.flatMap_append]
  simp
theorem inn_le {c : Nat → Nat → β → Bool} {p : Nat} (l : List β) : (inn c p l).length ≤ l.length := by
  unfold inn
  exact Nat.le_trans (List.length_filterMap_le _ _) (by simp)
theorem nest_le {th : Object → List β} {c : Nat → Nat → β → Bool} {m : Nat} (os : List Object) (h : ∀ o ∈ os, (th o).length ≤ m) : ∀ i, (nest th c (os.take i)).length ≤ i * m := by
  intro i
  induction i with
  | zero => simp [nest]
  | succ i ih =>
    cases e : os[i]? with
    | none =>
      have z : os.take (i + 1) = os.take i := by
        rw [List.take_add_one, e]; simp
      rw [z]
      exact Nat.le_trans ih (Nat.mul_le_mul_right _ (Nat.le_succ _))
    | some o =>
      rw [nest_snoc e, List.length_append, Nat.succ_mul]
      exact Nat.add_le_add ih (Nat.le_trans (inn_le _) (h o (List.mem_of_getElem? e)))
/-- a bound that serves for all of them -/
theorem nest_bd {th : Object → List β} {c : Nat → Nat → β → Bool} {os : List Object} {i j : Nat} {o : Object} (hn : os.length ≤ 32) (h : ∀ o ∈ os, (th o).length ≤ 1024) (e : os[i]? = some o) (hj : j < (th o).length) :
    (nest th c (os.take i) ++ inn c i ((th o).take j)).length < PySem.sizeLine := by
  have a := nest_le (c := c) os h i
  have b := inn_le (c := c) (p := i) ((th o).take j)
  have d := h o (List.mem_of_getElem? e)
  have hi := (List.getElem?_eq_some_iff.mp e).1
  rw [List.length_append]
  rw [List.length_take] at b
  have z : i * 1024 ≤ 31 * 1024 := Nat.mul_le_mul_right _ (by omega)
  have s : PySem.sizeLine = 16777216 := rfl
  omega
theorem nest_mem {th : Object → List β} {c : Nat → Nat → β → Bool} {os : List Object} {k : Nat × Nat} : k ∈ nest th c os ↔ ∃ o x, os[k.1]? = some o ∧ (th o)[k.2]? = some x ∧ c k.1 k.2 x = true := by
  unfold nest inn
  rw [List.mem_flatMap]
  constructor
  · rintro ⟨⟨o, i⟩, h1, h2⟩
    obtain ⟨⟨x, j⟩, h3, h4⟩ := List.mem_filterMap.mp h2
    have e1 := List.mem_zipIdx_iff_getElem?.mp h1
    have e2 := List.mem_zipIdx_iff_getElem?.mp h3
    dsimp only at h4
    split at h4
    · rename_i q
      cases h4
      exact ⟨o, x, e1, e2, q⟩
    · cases h4
  · rintro ⟨o, x, h1, h2, h3⟩
    refine ⟨(o, k.1), List.mem_zipIdx_iff_getElem?.mpr h1, List.mem_filterMap.mpr ⟨(x, k.2), List.mem_zipIdx_iff_getElem?.mpr h2, ?_⟩⟩
    simp [h3]
end
end Jo
set_option Elab.async false
set_option linter.all false
set_option maxRecDepth 100000
set_option maxHeartbeats 2000000
namespace Jo
open PySem PySem.Spec L2 JX
open PyProof.Rows hiding St frameOf passOn
open Sd07 (Object Section Symbol Reloc)
section
variable {P : Program} {w : World} {K : PySem.W.Frag} {mg : Str → Option Value} {base : Heap}
/-! ### naming -/
def sp_symbol_at (K : PySem.W.Frag) : Sp := fun vs H Q _ => ∃ l p os k y, vs = [.ref l, .ref p] ∧ PartsAt K H l os ∧ PairAt H p k ∧ Sd07.symbol os k = some y ∧ ∀ a, SymAt K H a y → Q (.ref a) H
theorem sc_symbol_at : FnScope ["parts", "pair"] ["parts", "pair"] (defScope (top 21)) := ⟨rfl, rfl, rfl, by decide +kernel, rfl, by decide +kernel, by decide +kernel⟩
theorem ok_symbol_at (D : DefIn K mg "symbol_at" (top 21) ["parts", "pair"]) : Cal P w K mg base CX0 1 "symbol_at" ["parts", "pair"] (sp_symbol_at K) := by
  refine D.ok sc_symbol_at (fun vs H Q E h => ?_) (fun f cdv A outer s H vs Q E hr h => ?_)
  · obtain ⟨l, p, os, k, y, rfl, _⟩ := h
    rfl
  · obtain ⟨l, p, os, k, y, rfl, ⟨xs, hl, al⟩, hp, hy, q⟩ := h
    unfold Sd07.symbol at hy
    cases e1 : os[k.1]? with
    | none => rw [e1] at hy; cases hy
    | some o =>
      rw [e1] at hy
      obtain ⟨a, ha, g⟩ := al.2 _ _ e1
      obtain ⟨ly, ys, f1, f2, f3⟩ := g.symbols
      obtain ⟨b, hb, gb⟩ := f3.2 _ _ hy
      refine ⟨_, pss_one (ps_ret (pe_ix ix_list (pe_f (pe_ix ix_list (pv 0) (pe_ix ix_tup (pv 1) pe_int (fun _ _ => rfl)) (fun _ _ => rfl))) (pe_ix ix_tup (pv 1) pe_int (fun _ _ => rfl)) (fun _ _ => rfl))), ?_⟩
      refine ⟨_, rfl, _, rfl, p, _, _, _, rfl, rfl, SqT.of hp, rfl, l, _, _, _, rfl, rfl, SqL.of hl, atI_nat ha, a, _, rfl, f1, _, rfl, p, _, _, _, rfl, rfl, SqT.of hp, rfl, ly, _, _, _, rfl, rfl, SqL.of f2, atI_nat hb, q b gb⟩
end
end Jo
set_option Elab.async false
set_option linter.all false
set_option maxRecDepth 100000
set_option maxHeartbeats 2000000
namespace Jo
open PySem PySem.Spec L2 JX
open PyProof.Rows hiding St frameOf passOn
open Sd07 (Object Section Symbol Reloc)
/-! ### a list of pairs grows -/
theorem PairAt.ne {H : Hp} {a r : Addr} {k : Nat × Nat} {o : HO} (h : PairAt H a k) (hr : H r = some o) (no : ∀ xs, o ≠ .tup xs) : a ≠ r := ne_of h hr fun z => no _ z.symm
theorem PairAt.same {H H' : Hp} {a : Addr} {k : Nat × Nat} (s : Same H H') (h : PairAt H a k) : PairAt H' a k := s _ _ h
theorem PairAt.put {H : Hp} {a r : Addr} {k : Nat × Nat} {xs : List V} {o : HO} (h : PairAt H a k) (hr : H r = some (.lst xs)) : PairAt (upd H r o) a k := by
  unfold PairAt
  rw [upd_ne (h.ne hr fun _ z => by cases z)]; exact h
theorem al_app {H : Hp} {r p : Addr} {zs : List V} {ks : List (Nat × Nat)} {k : Nat × Nat} (al : Al (PairAt H) zs ks) (hr : H r = some (.lst zs)) (hp : H p = none) :
    Al (PairAt (upd (upd H p (.tup (pr k))) r (.lst (zs ++ [.ref p])))) (zs ++ [.ref p]) (ks ++ [k]) := by
  have e : (upd H p (.tup (pr k))) r = some (.lst zs) := Same.upd hp _ _ hr
  refine Al.snoc (al.mono fun a k' g => (g.same (Same.upd hp)).put e) ?_
  unfold PairAt
  rw [upd_ne (fun z => by rw [z] at hp; rw [hr] at hp; cases hp), upd_same]
abbrev mApp {X : Cx} : MtR X "list.append" rAppend := mt_append
/-- the globals that the defs read -/
structure Glob (K : PySem.W.Frag) (mg : Str → Option Value) : Prop where
  enum : mg "enumerate" = none
  zip : mg "zip" = none
  rev : mg "reversed" = none
  range : mg "range" = none
  len : mg "len" = none
  sum : mg "sum" = none
  tuple : mg "tuple" = none
  code : Gi mg "CODE" 0
  constants : Gi mg "CONSTANTS" 1
  data : Gi mg "DATA" 2
  zeros : Gi mg "ZEROS" 3
  own : Gi mg "OWN" 0
  for_all : Gi mg "FOR_ALL" 1
  weak : Gi mg "WEAK" 2
  no_place : Gi mg "NO_PLACE" 65535
  number : Gi mg "NUMBER" 65534
  wide : Gi mg "WIDE" 0
  near : Gi mg "NEAR" 1
  low : Gi mg "LOW" 2
  short : Gi mg "SHORT" 3
  widths : Gt K mg "WIDTHS" [.int 8, .int 4, .int 4, .int 1]
  page : Gi mg "PAGE" 4096
  all_addresses : Gi mg "ALL_ADDRESSES" 18446744073709551616
  half : Gi mg "HALF_OF_THEM" 9223372036854775808
  letters : Gt K mg "LETTERS" [.int 76, .int 78, .int 79, .int 49]
  head_size : Gi mg "HEAD_SIZE" 12
  section_size : Gi mg "SECTION_SIZE" 8
  symbol_size : Gi mg "SYMBOL_SIZE" 12
  relocation_size : Gi mg "RELOCATION_SIZE" 16
  most_sections : Gi mg "MOST_SECTIONS" 64
  most_symbols : Gi mg "MOST_SYMBOLS" 256
  most_relocations : Gi mg "MOST_RELOCATIONS" 1024
  most_name_bytes : Gi mg "MOST_NAME_BYTES" 8192
  most_power : Gi mg "MOST_POWER" 12
  largest_section : Gi mg "LARGEST_SECTION" 65536
  alignments : Gt K mg "ALIGNMENTS" [.int 1, .int 2, .int 4, .int 8, .int 16, .int 32, .int 64, .int 128, .int 256, .int 512, .int 1024, .int 2048, .int 4096]
  joined : Gi mg "JOINED" 0
  no_object : Gi mg "NO_OBJECT" (-1)
  given_twice : Gi mg "GIVEN_TWICE" (-2)
  no_root : Gi mg "NO_ROOT" (-3)
  unbound : Gi mg "UNBOUND" (-4)
  too_far : Gi mg "TOO_FAR" (-5)
  no_room : Gi mg "NO_ROOM" (-6)
  beyond : Gi mg "BEYOND_LIMITS" (-7)
  most_objects : Gi mg "MOST_OBJECTS" 32
  longest_root : Gi mg "LONGEST_ROOT" 8192
  most_room : Gi mg "MOST_ROOM" 268435456
  base_step : Gi mg "BASE_STEP" 4096
  base_end : Gi mg "BASE_END" 140737488355328
section
variable {P : Program} {w : World} {K : PySem.W.Frag} {mg : Str → Option Value} {base : Heap}
def cGiv (b : Nat) : Nat → Nat → Symbol → Bool := fun _ _ y => decide (y.binding = b) && decide (y.place ≠ .none)
def sp_givers (K : PySem.W.Frag) : Sp := fun vs H Q _ => ∃ l os b, vs = [.ref l, .int (b : Nat)] ∧ PartsAt K H l os ∧ WF os ∧
  ∀ H' r xs, Same H H' → H r = none → H' r = some (.lst xs) → Al (PairAt H') xs (nest (·.symbols) (cGiv b) os) → Q (.ref r) H'
theorem secNo_none {o : Object} (h : WFo o) {y : Symbol} (hy : y ∈ o.symbols) : (secNo y.place : Int) = 65535 ↔ y.place = .none := by
  have q := (h.sym y hy).2.2.1
  cases e : y.place with
  | none => simp [secNo]
  | number n => simp [secNo]
  | inside s n =>
    have := (q s n e).1
    have := h.ns
    simp only [secNo, reduceCtorEq, iff_false]
    omega
theorem sc_givers : FnScope ["parts", "binding", "found", "part_number", "part", "number", "symbol"] ["parts", "binding"] (defScope (top 20)) := ⟨rfl, rfl, rfl, by decide +kernel, rfl, by decide +kernel, by decide +kernel⟩
theorem ok_givers (T : Glob K mg) (D : DefIn K mg "givers" (top 20) ["parts", "binding"]) : Cal P w K mg base CX0 1 "givers" ["parts", "binding"] (sp_givers K) := by
  refine D.ok sc_givers (fun vs H Q E h => ?_) (fun f cdv A outer s H vs Q E hr h => ?_)
  · obtain ⟨l, os, b, rfl, _⟩ := h
    rfl
  · obtain ⟨l, os, b, rfl, ⟨xs, hl, al⟩, wf, q⟩ := h
    refine ⟨_, pss_cons (ps_set (i := 2) sc_givers.nd rfl (Or.inl rfl) (pe_lst pa_nil))
      (pss_cons (ps_for PassesOwn.never rfl (pi_enum rfl T.enum (pa_cons (pv 0) pa_nil)) (pg_tup rfl (pgs_cons (pg_name (i := 3) sc_givers.nd rfl (Or.inl rfl)) (pgs_cons (pg_name (i := 4) sc_givers.nd rfl (Or.inl rfl)) pgs_nil)))
        (pss_one (ps_for PassesOwn.never rfl (pi_enum rfl T.enum (pa_cons (pe_f (pv 4)) pa_nil)) (pg_tup rfl (pgs_cons (pg_name (i := 5) sc_givers.nd rfl (Or.inl rfl)) (pgs_cons (pg_name (i := 6) sc_givers.nd rfl (Or.inl rfl)) pgs_nil)))
          (pss_one (ps_if (PW.pt (pw_and (pt_cmp (pc_eqI (pe_f (pv 6)) (pv 1))) (pw_and1 (pt_cmp (pc_neI (pe_f (pv 6)) (pe_gi T.no_place))))))
            (pss_one (ps_expr (pe_bm PySem.F.plainAttrs_list PySem.F.slot_list_append PySem.F.type_list_append mApp (pv 2) (pa_cons (pe_tup (pa_cons (pv 3) (pa_cons (pv 5) pa_nil))) pa_nil)))) pss_nil)))))
      (pss_one (ps_ret (pv 2)))), ?_⟩
    refine ⟨Nat.zero_le _, fun r hr0 => ?_⟩
    refine ⟨_, rfl, l, xs, rfl, SqL.of (Same.upd hr0 _ _ hl), for_enum (K := K) (a := l) (xs := xs) (i1 := 3) (i2 := 4) (fun i σ H' => ∃ v3 v4 v5 v6 zs, σ = [some (.ref l), some (.int (b : Nat)), some (.ref r), v3, v4, v5, v6] ∧ Same H H' ∧ H' r = some (.lst zs) ∧ Al (PairAt H') zs (nest (·.symbols) (cGiv b) (os.take i)))
      ⟨none, none, none, none, [], rfl, Same.upd hr0, upd_same, Al.nil⟩ (fun i σ H' _ ⟨_, _, _, _, _, _, s1, _⟩ => SqL.of (s1 _ _ hl)) ?_ ?_⟩
    · rintro i x σ H' t hx ⟨v3, v4, v5, v6, zs, rfl, s1, hr1, al1⟩ ht
      obtain ⟨o, a, ho, rfl, g⟩ := al.get hx
      obtain ⟨ly, ys, f1, f2, f3⟩ := g.symbols
      have s2 : Same H (upd H' t (.tup [.int (i : Nat), .ref a])) := s1.trans (Same.upd ht)
      refine ⟨_, rfl, a, _, rfl, f1.same s2, ly, ys, rfl, SqL.of (s2 _ _ f2), for_enum (K := K) (a := ly) (xs := ys) (i1 := 5) (i2 := 6) (fun j σ H3 => ∃ v5 v6 zs, σ = [some (.ref l), some (.int (b : Nat)), some (.ref r), some (.int (i : Nat)), some (.ref a), v5, v6] ∧ Same H H3 ∧ H3 r = some (.lst zs) ∧ Al (PairAt H3) zs (nest (·.symbols) (cGiv b) (os.take i) ++ inn (cGiv b) i (o.symbols.take j)))
        ⟨v5, v6, zs, rfl, s2, Same.upd ht _ _ hr1, by rw [List.take_zero]; show Al _ _ (_ ++ []); rw [List.append_nil]; exact al1.mono fun _ _ g => g.same (Same.upd ht)⟩ (fun j σ H3 _ ⟨_, _, _, _, s3, _⟩ => SqL.of (s3 _ _ f2)) ?_ ?_⟩
      · rintro j x σ H3 t3 hx3 ⟨v5, v6, zs, rfl, s3, hr3, al3⟩ ht3
        obtain ⟨y, c, hy, rfl, gy⟩ := f3.get hx3
        have s4 : Same H (upd H3 t3 (.tup [.int (j : Nat), .ref c])) := s3.trans (Same.upd ht3)
        have gy := gy.same s4
        have wy := secNo_none (wf.at ho) (List.mem_of_getElem? hy)
        have hr4 := Same.upd (o := .tup [.int (j : Nat), .ref c]) ht3 _ _ hr3
        have al4 := al3.mono fun _ _ g => g.same (Same.upd (o := .tup [.int (j : Nat), .ref c]) ht3)
        refine ⟨_, rfl, c, _, rfl, gy.binding, _, rfl, _, _, rfl, rfl, _, rfl, ?_⟩
        have stay : cGiv b i j y = false → ∃ v5 v6 zs', [some (V.ref l), some (.int (b : Nat)), some (.ref r), some (.int (i : Nat)), some (.ref a), some (V.int (j : Nat)), some (V.ref c)] = [some (V.ref l), some (.int (b : Nat)), some (.ref r), some (.int (i : Nat)), some (.ref a), v5, v6] ∧ Same H (upd H3 t3 (.tup [.int (j : Nat), .ref c])) ∧ (upd H3 t3 (.tup [.int (j : Nat), .ref c])) r = some (.lst zs') ∧ Al (PairAt (upd H3 t3 (.tup [.int (j : Nat), .ref c]))) zs' (nest (·.symbols) (cGiv b) (os.take i) ++ inn (cGiv b) i (o.symbols.take (j + 1))) := fun hc => by
          refine ⟨_, _, zs, rfl, s4, hr4, ?_⟩
          rw [inn_snoc hy, hc]
          show Al _ _ (_ ++ (_ ++ []))
          rw [List.append_nil]
          exact al4
        refine ite2 (fun h1 => ?_) (fun h1 => iteF (stay ?_))
        · have h1 := of_decide_eq_true h1
          refine ⟨_, rfl, c, _, rfl, gy.sec, _, _, rfl, rfl, _, rfl, ?_⟩
          refine ite2 (fun h2 => ?_) (fun h2 => stay ?_)
          · have hc : cGiv b i j y = true := by
              unfold cGiv
              have z1 : y.binding = b := by omega
              have z2 : y.place ≠ .none := fun z => by rw [wy.mpr z] at h2; simp at h2
              simp [z1, z2]
            refine ⟨_, rfl, .inl ⟨rfl, _, SqL.of hr4⟩, _, rfl, _, rfl, (by show 2 ≤ sizeLine; decide), fun p hp => ?_⟩
            refine ⟨r, _, _, rfl, rfl, Same.upd hp _ _ hr4, ?_, ?_⟩
            · rw [al4.1]
              exact nest_bd wf.n (fun o ho => Nat.le_trans (wf.all o ho).ny (by decide)) ho (List.getElem?_eq_some_iff.mp hy).1
            · refine ⟨_, _, _, rfl, Same.put (s4.trans (Same.upd hp)) hr0, upd_same, ?_⟩
              rw [inn_snoc hy, hc, if_pos rfl, ← List.append_assoc]
              exact al_app al4 hr4 hp
          · unfold cGiv
            have z2 : y.place = .none := by
              refine wy.mp ?_
              simpa using h2
            simp [z2]
        · unfold cGiv
          have z1 : ¬ y.binding = b := fun z => h1 (decide_eq_true (by omega))
          simp [z1]
      · rintro σ H3 ⟨v5, v6, zs, rfl, s3, hr3, al3⟩
        refine ⟨_, _, _, _, zs, rfl, s3, hr3, ?_⟩
        rw [nest_snoc ho]
        rw [take_all (f3.1)] at al3
        exact al3
    · rintro σ H' ⟨v3, v4, v5, v6, zs, rfl, s1, hr1, al1⟩
      rw [take_all al.1] at al1
      exact ⟨_, rfl, q H' r zs s1 hr0 hr1 al1⟩
end
end Jo
set_option Elab.async false
set_option linter.all false
set_option maxRecDepth 100000
set_option maxHeartbeats 2000000
/-! NAMES: the specification's lists by the program's walks. -/
namespace Jo
open L2 (V Key valV)
open Sd07 (Object Section Symbol Reloc)
def nm (os : List Object) (k : Nat × Nat) : List Nat := ((Sd07.symbol os k).map fun y => y.name).getD []
abbrev gvs (os : List Object) (b : Nat) : List (Nat × Nat) := nest (·.symbols) (cGiv b) os
theorem filt_map {γ δ ε : Type} (f : γ → δ) (p : δ → Bool) (g : δ → ε) : ∀ l : List γ, ((l.map f).filter p).map g = l.filterMap fun y => if p (f y) = true then some (g (f y)) else none
  | [] => rfl
  | a :: l => by
    rw [List.map_cons, List.filter_cons, List.filterMap_cons]
    by_cases h : p (f a) = true
    · simp only [h, if_true, List.map_cons]
      rw [filt_map f p g l]
    · simp only [h, if_false]
      rw [← filt_map f p g l]
      simp
theorem gvs_spec (os : List Object) (b : Nat) : (Sd07.givers os b).map (·.1) = gvs os b := by
  unfold Sd07.givers Sd07.all gvs nest inn
  rw [List.filter_flatMap, List.map_flatMap]
  congr 1
  funext x
  rw [filt_map]
  congr 1
  funext y
  unfold cGiv
  have e : (y.1.binding == b && y.1.place != Sd07.Place.none) = (decide (y.1.binding = b) && decide (y.1.place ≠ .none)) := by
    by_cases h : y.1.place = .none
    · simp [h]
    · by_cases h2 : y.1.binding = b
      · simp [h, h2]
      · simp [h, h2]
  rw [e]
theorem giv_sym {os : List Object} {b : Nat} {x : (Nat × Nat) × Symbol} (h : x ∈ Sd07.givers os b) : Sd07.symbol os x.1 = some x.2 := by
  unfold Sd07.givers Sd07.all at h
  obtain ⟨h1, _⟩ := List.mem_filter.mp h
  obtain ⟨y, hy, hx⟩ := List.mem_flatMap.mp h1
  obtain ⟨z, hz, rfl⟩ := List.mem_map.mp hx
  have e1 := List.mem_zipIdx_iff_getElem?.mp hy
  have e2 := List.mem_zipIdx_iff_getElem?.mp hz
  unfold Sd07.symbol
  simp only [e1, e2]
theorem giv_nm {os : List Object} {b : Nat} {x : (Nat × Nat) × Symbol} (h : x ∈ Sd07.givers os b) : nm os x.1 = x.2.name := by
  unfold nm
  rw [giv_sym h]; rfl
/-- the first pair of that name -/
def fnd (os : List Object) (l : List (Nat × Nat)) (t : List Nat) : Option (Nat × Nat) := l.find? fun k => decide (nm os k = t)
theorem firstOf_fnd (os : List Object) (b : Nat) (t : List Nat) : Sd07.firstOf (Sd07.givers os b) t = fnd os (gvs os b) t := by
  unfold Sd07.firstOf fnd
  rw [← gvs_spec, List.find?_map]
  congr 1
  have : ∀ l : List ((Nat × Nat) × Symbol), (∀ x ∈ l, nm os x.1 = x.2.name) → l.find? (fun x => x.2.name == t) = l.find? ((fun k => decide (nm os k = t)) ∘ fun x => x.1) := by
    intro l
    induction l with
    | nil => intro _; rfl
    | cons a l ih =>
      intro h
      rw [List.find?_cons, List.find?_cons]
      have e : (a.2.name == t) = ((fun k => decide (nm os k = t)) ∘ fun x => x.1) a := by
        show _ = decide (nm os a.1 = t)
        rw [h a (List.mem_cons_self ..)]
        exact Bool.beq_eq_decide_eq ..
      rw [e, ih fun x hx => h x (List.mem_cons_of_mem _ hx)]
  exact this _ fun x hx => giv_nm hx
theorem named_fnd (os : List Object) (t : List Nat) : Sd07.named os t = fnd os (gvs os 1 ++ gvs os 2) t := by
  unfold Sd07.named
  rw [firstOf_fnd, firstOf_fnd]
  unfold fnd
  rw [List.find?_append]
  cases List.find? (fun k => decide (nm os k = t)) (gvs os 1) <;> rfl
theorem fnd_snoc {os : List Object} {l : List (Nat × Nat)} {k : Nat × Nat} {t : List Nat} : fnd os (l ++ [k]) t = (fnd os l t).or (if nm os k = t then some k else none) := by
  unfold fnd
  rw [List.find?_append]
  congr 1
  by_cases h : nm os k = t
  · simp [h]
  · simp [h]
theorem valV_snoc {κ : Type} [DecidableEq κ] (kvs : List (κ × V)) (k k' : κ) (z : V) : valV (kvs ++ [(k, z)]) k' = (valV kvs k').or (if k = k' then some z else none) := by
  unfold valV
  rw [List.find?_append]
  cases List.find? (fun kv => decide (kv.1 = k')) kvs with
  | some p => rfl
  | none =>
    by_cases h : k = k'
    · simp [h]
    · simp [h]
/-! ### a name given twice -/
theorem inn_nd {β : Type} {c : Nat → Nat → β → Bool} {p : Nat} (l : List β) : (inn c p l).Nodup ∧ ∀ k ∈ inn c p l, k.1 = p := by
  have key : ∀ i, (inn c p (l.take i)).Nodup ∧ ∀ k ∈ inn c p (l.take i), k.1 = p ∧ k.2 < i := by
    intro i
    induction i with
    | zero => simp [inn]
    | succ i ih =>
      cases e : l[i]? with
      | none =>
        have z : l.take (i + 1) = l.take i := by rw [List.take_add_one, e]; simp
        rw [z]
        exact ⟨ih.1, fun k hk => ⟨(ih.2 k hk).1, Nat.lt_succ_of_lt (ih.2 k hk).2⟩⟩
      | some x =>
        rw [inn_snoc e]
        by_cases q : c p i x = true
        · rw [if_pos q]
          refine ⟨List.nodup_append.mpr ⟨ih.1, by simp, fun a ha b hb => ?_⟩, fun k hk => ?_⟩
          · have e1 := (ih.2 a ha).2
            have e2 : b = (p, i) := by simpa using hb
            rw [e2]
            intro z
            rw [z] at e1
            exact Nat.lt_irrefl _ e1
          · rcases List.mem_append.mp hk with h | h
            · exact ⟨(ih.2 k h).1, Nat.lt_succ_of_lt (ih.2 k h).2⟩
            · have e2 : k = (p, i) := by simpa using h
              rw [e2]
              exact ⟨rfl, Nat.lt_succ_self _⟩
        · rw [if_neg q, List.append_nil]
          exact ⟨ih.1, fun k hk => ⟨(ih.2 k hk).1, Nat.lt_succ_of_lt (ih.2 k hk).2⟩⟩
  have z := key l.length
  rw [List.take_length] at z
  exact ⟨z.1, fun k hk => (z.2 k hk).1⟩
theorem nest_nd {β : Type} {th : Object → List β} {c : Nat → Nat → β → Bool} (os : List Object) : (nest th c os).Nodup := by
  have key : ∀ i, (nest th c (os.take i)).Nodup ∧ ∀ k ∈ nest th c (os.take i), k.1 < i := by
    intro i
    induction i with
    | zero => simp [nest]
    | succ i ih =>
      cases e : os[i]? with
      | none =>
        have z : os.take (i + 1) = os.take i := by rw [List.take_add_one, e]; simp
        rw [z]
        exact ⟨ih.1, fun k hk => Nat.lt_succ_of_lt (ih.2 k hk)⟩
      | some o =>
        rw [nest_snoc e]
        have ⟨a1, a2⟩ := inn_nd (c := c) (p := i) (th o)
        refine ⟨List.nodup_append.mpr ⟨ih.1, a1, fun a ha b hb z => ?_⟩, fun k hk => ?_⟩
        · have e1 := ih.2 a ha
          rw [z, a2 b hb] at e1
          exact Nat.lt_irrefl _ e1
        · rcases List.mem_append.mp hk with h | h
          · exact Nat.lt_succ_of_lt (ih.2 k h)
          · rw [a2 k h]; exact Nat.lt_succ_self _
  have z := key os.length
  rw [List.take_length] at z
  exact z.1
theorem find_map2 {α β : Type} (f : α → β) (p : α → Bool) (q : β → Bool) : ∀ l : List α, (∀ x ∈ l, p x = q (f x)) → (l.find? p).map f = (l.map f).find? q
  | [], _ => rfl
  | a :: l, h => by
    rw [List.map_cons, List.find?_cons, List.find?_cons, ← h a (List.mem_cons_self ..)]
    cases p a with
    | true => rfl
    | false => exact find_map2 f p q l fun x hx => h x (List.mem_cons_of_mem _ hx)
def again (os : List Object) (k : Nat × Nat) : Bool := decide (fnd os (gvs os 1) (nm os k) ≠ some k)
theorem twice_gvs (os : List Object) : Sd07.twice os = (gvs os 1).find? (again os) := by
  unfold Sd07.twice
  refine (find_map2 (fun (x : (Nat × Nat) × Symbol) => x.1) _ (again os) _ fun x hx => ?_).trans (by rw [gvs_spec])
  unfold again
  rw [firstOf_fnd, giv_nm hx]
  by_cases h : fnd os (gvs os 1) x.2.name = some x.1
  · simp [h]
  · simp [h]
theorem split_at {α : Type} {l : List α} {i : Nat} {x : α} (h : l[i]? = some x) : l = l.take i ++ x :: l.drop (i + 1) := by
  obtain ⟨hi, e⟩ := List.getElem?_eq_some_iff.mp h
  have z : l.drop i = x :: l.drop (i + 1) := by rw [List.drop_eq_getElem_cons hi, e]
  rw [← z, List.take_append_drop]
theorem again_at {os : List Object} {i : Nat} {k : Nat × Nat} (hk : (gvs os 1)[i]? = some k) : again os k = (fnd os ((gvs os 1).take i) (nm os k)).isSome := by
  have e := split_at hk
  have nd : (gvs os 1).Nodup := nest_nd os
  have key : fnd os (gvs os 1) (nm os k) = (fnd os ((gvs os 1).take i) (nm os k)).or (some k) := by
    have z : fnd os (gvs os 1) (nm os k) = fnd os ((gvs os 1).take i ++ k :: (gvs os 1).drop (i + 1)) (nm os k) := by rw [← e]
    rw [z]
    unfold fnd
    rw [List.find?_append]
    simp
  unfold again
  rw [key]
  cases q : fnd os ((gvs os 1).take i) (nm os k) with
  | none => simp
  | some k' =>
    have m : k' ∈ (gvs os 1).take i := List.mem_of_find?_eq_some q
    have ne : k' ≠ k := fun z => by
      rw [e] at nd
      have := (List.nodup_append.mp nd).2.2 k' m k (List.mem_cons_self ..)
      exact this z
    simp [ne]
/-- of the givers, the first whose name one before it has -/
theorem twice_some {os : List Object} {i : Nat} {k : Nat × Nat} (hk : (gvs os 1)[i]? = some k) (h0 : ∀ j k', j < i → (gvs os 1)[j]? = some k' → fnd os ((gvs os 1).take j) (nm os k') = none) (h1 : fnd os ((gvs os 1).take i) (nm os k) ≠ none) : Sd07.twice os = some k := by
  rw [twice_gvs]
  refine List.find?_eq_some_iff_append.mpr ⟨?_, (gvs os 1).take i, (gvs os 1).drop (i + 1), split_at hk, fun a ha => ?_⟩
  · rw [again_at hk]
    cases q : fnd os ((gvs os 1).take i) (nm os k) with
    | none => exact absurd q h1
    | some _ => rfl
  · obtain ⟨j, hj⟩ := List.getElem?_of_mem ha
    have hj2 : j < i := by
      have z := (List.getElem?_eq_some_iff.mp hj).1
      rw [List.length_take] at z
      omega
    rw [List.getElem?_take_of_lt hj2] at hj
    rw [again_at hj, h0 j a hj2 hj]
    rfl
theorem twice_none {os : List Object} (h0 : ∀ j k', (gvs os 1)[j]? = some k' → fnd os ((gvs os 1).take j) (nm os k') = none) : Sd07.twice os = none := by
  rw [twice_gvs]
  refine List.find?_eq_none.mpr fun a ha => ?_
  obtain ⟨j, hj⟩ := List.getElem?_of_mem ha
  rw [again_at hj, h0 j a hj]
  simp
end Jo
set_option Elab.async false
set_option linter.all false
set_option maxRecDepth 100000
set_option maxHeartbeats 2000000
namespace Jo
open PySem PySem.Spec L2 JX
open PyProof.Rows hiding St frameOf passOn
open Sd07 (Object Section Symbol Reloc)
theorem al_put {H : Hp} {r : Addr} {zs : List V} {ks : List (Nat × Nat)} {u o : HO} (al : Al (PairAt H) zs ks) (hr : H r = some u) (no : ∀ xs, u ≠ .tup xs) : Al (PairAt (upd H r o)) zs ks :=
  al.mono fun a k g => by
    unfold PairAt
    rw [upd_ne (g.ne hr no)]; exact g
theorem Al.append {α : Type} {G : Addr → α → Prop} {xs ys : List V} {os ps : List α} (h : Al G xs os) (h2 : Al G ys ps) : Al G (xs ++ ys) (os ++ ps) := by
  refine ⟨by rw [List.length_append, List.length_append, h.1, h2.1], fun i o e => ?_⟩
  by_cases hi : i < os.length
  · rw [List.getElem?_append_left hi] at e
    obtain ⟨b, e1, g1⟩ := h.2 i o e
    exact ⟨b, by rw [List.getElem?_append_left (by rw [h.1]; exact hi)]; exact e1, g1⟩
  · rw [List.getElem?_append_right (by omega)] at e
    obtain ⟨b, e1, g1⟩ := h2.2 _ o e
    exact ⟨b, by rw [List.getElem?_append_right (by rw [h.1]; omega), h.1]; exact e1, g1⟩
theorem gvs_sym {os : List Object} {b : Nat} {k : Nat × Nat} (h : k ∈ gvs os b) : ∃ y, Sd07.symbol os k = some y ∧ nm os k = y.name ∧ y.place ≠ .none ∧ y.binding = b := by
  obtain ⟨o, y, h1, h2, h3⟩ := nest_mem.mp h
  have e : Sd07.symbol os k = some y := by
    unfold Sd07.symbol
    rw [h1]; exact h2
  unfold cGiv at h3
  simp only [Bool.and_eq_true, decide_eq_true_eq] at h3
  exact ⟨y, e, by unfold nm; rw [e]; rfl, h3.2, h3.1⟩
theorem gvs_bd {os : List Object} (wf : WF os) (b : Nat) : (gvs os b).length ≤ 8192 := by
  have z := nest_le (th := (·.symbols)) (c := cGiv b) (m := 256) os (fun o ho => (wf.all o ho).ny) os.length
  rw [List.take_length] at z
  have := wf.n
  have : os.length * 256 ≤ 32 * 256 := Nat.mul_le_mul_right _ this
  exact Nat.le_trans z this
section
variable {P : Program} {w : World} {K : PySem.W.Frag} {mg : Str → Option Value} {base : Heap}
/-! ### first_given_again -/
def sp_again (K : PySem.W.Frag) : Sp := fun vs H Q _ => ∃ l os, vs = [.ref l] ∧ PartsAt K H l os ∧ WF os ∧ (∀ H', Same H H' → Sd07.twice os = none → Q .non H') ∧ ∀ H' a k, Same H H' → Sd07.twice os = some k → PairAt H' a k → Q (.ref a) H'
theorem sc_again : FnScope ["parts", "given", "pair", "name"] ["parts"] (defScope (top 22)) := ⟨rfl, rfl, rfl, by decide +kernel, rfl, by decide +kernel, by decide +kernel⟩
theorem ok_again (T : Glob K mg) (D : DefIn K mg "first_given_again" (top 22) ["parts"]) (G1 : Cal P w K mg base CX0 1 "givers" ["parts", "binding"] (sp_givers K)) (G2 : Cal P w K mg base CX0 1 "symbol_at" ["parts", "pair"] (sp_symbol_at K)) :
    Cal P w K mg base CX0 2 "first_given_again" ["parts"] (sp_again K) := by
  refine D.ok sc_again (fun vs H Q E h => ?_) (fun f cdv A outer s H vs Q E hr h => ?_)
  · obtain ⟨l, os, rfl, _⟩ := h
    rfl
  · obtain ⟨l, os, rfl, hl, wf, q1, q2⟩ := h
    have hu := hu_of hr
    refine ⟨_, pss_cons (ps_set (i := 1) sc_again.nd rfl (Or.inl rfl) pe_dnewT)
      (pss_cons (ps_for PassesOwn.never rfl (pi_list (pe_cal G1 hr pass0 (pa_cons (pv 0) (pa_cons (pe_gi T.for_all) pa_nil)))) (pg_name (i := 2) sc_again.nd rfl (Or.inl rfl))
        (pss_cons (ps_set (i := 3) sc_again.nd rfl (Or.inl rfl) (pe_f (pe_cal G2 hr pass0 (pa_cons (pv 0) (pa_cons (pv 2) pa_nil)))))
        (pss_cons (ps_if (pt_cmp (pc_din hu (pv 3) (pv 1))) (pss_one (ps_ret (pv 2))) pss_nil)
        (pss_one (ps_dput hu (pv 1) (pv 3) pe_bl rfl)))))
      (pss_one (ps_ret pe_non))), ?_⟩
    intro d hd
    refine ⟨_, rfl, l, os, 1, rfl, hl.same (Same.upd hd), wf, fun H1 r xs s1 hr0 hr1 al1 => ⟨r, rfl, ⟨_, SqL.of hr1⟩, ?_⟩⟩
    have hd1 : H1 d = some (.dT []) := s1 _ _ upd_same
    have sH : Same H H1 := (Same.upd hd).trans s1
    have bd := gvs_bd wf 1
    have rd : r ≠ d := fun z => by rw [z, upd_same] at hr0; cases hr0
    refine for_list (K := K) (a := r) (xs := xs) (fun i σ H' => ∃ v2 v3 kvs, σ = [some (.ref l), some (.ref d), v2, v3] ∧ Same H H' ∧ H' d = some (.dT kvs) ∧ H' r = some (.lst xs) ∧ Al (PairAt H') xs (gvs os 1) ∧ kvs.length ≤ i ∧ (∀ t, (valV kvs (kk t)).isSome = (fnd os ((gvs os 1).take i) t).isSome) ∧
        ∀ j k', j < i → (gvs os 1)[j]? = some k' → fnd os ((gvs os 1).take j) (nm os k') = none)
      ⟨none, none, [], rfl, sH, hd1, hr1, al1, Nat.le_refl _, fun t => rfl, fun j k' h => absurd h (Nat.not_lt_zero _)⟩ (fun i σ H' _ ⟨_, _, _, _, _, _, h, _⟩ => SqL.of h) ?_ ?_
    · rintro i x σ H' hx ⟨v2, v3, kvs, rfl, s2, hd2, hr2, al2, hlen, hv, hno⟩
      obtain ⟨k, a, hk, rfl, ga⟩ := al2.get hx
      obtain ⟨y, ey, en, _⟩ := gvs_sym (List.mem_of_getElem? hk)
      refine ⟨_, rfl, _, rfl, l, a, os, k, y, rfl, hl.same s2, ga, ey, fun c gc => ?_⟩
      obtain ⟨t, f1, f2⟩ := gc.name
      refine ⟨c, _, rfl, f1, _, rfl, _, rfl, d, _, rfl, DGet.t hd2 f2, _, rfl, ?_⟩
      have hvk := hv y.name
      refine ite2 (fun h => ?_) (fun h => ?_)
      · refine ⟨_, rfl, q2 H' a k s2 (twice_some hk hno ?_) ga⟩
        rw [en]
        intro z
        rw [h, z] at hvk
        cases hvk
      · have hn : valV kvs (kk y.name) = none := by
          cases e : valV kvs (kk y.name) with
          | none => rfl
          | some v => rw [e] at h; exact absurd rfl h
        have hf : fnd os ((gvs os 1).take i) (nm os k) = none := by
          rw [en]
          cases e : fnd os ((gvs os 1).take i) y.name with
          | none => rfl
          | some v => rw [e, hn] at hvk; cases hvk
        have hi := (List.getElem?_eq_some_iff.mp hk).1
        refine ⟨_, rfl, _, rfl, d, _, rfl, DPut.t hd2 f2 (by have : sizeLine = 16777216 := rfl; omega), ?_⟩
        rw [putK_new _ hn]
        refine ⟨_, _, _, rfl, Same.put s2 hd, upd_same, ?_, al_put al2 hd2 (fun _ z => by cases z), by rw [List.length_append]; exact Nat.succ_le_succ hlen, fun t' => ?_, fun j k' hj hk' => ?_⟩
        · rw [upd_ne rd]; exact hr2
        · rw [valV_snoc, take_snoc hk, fnd_snoc, en]
          have z := hv t'
          by_cases e : y.name = t'
          · rw [e, if_pos rfl, if_pos rfl]
            simp
          · rw [if_neg e, if_neg (fun z => e (kk_inj z))]
            simpa using z
        · by_cases e : j = i
          · subst e
            rw [hk] at hk'
            cases hk'
            exact hf
          · exact hno j k' (by omega) hk'
    · rintro σ H' ⟨v2, v3, kvs, rfl, s2, hd2, hr2, al2, hlen, hv, hno⟩
      refine q1 H' s2 (twice_none fun j k' hk' => hno j k' ?_ hk')
      rw [al2.1]
      exact (List.getElem?_eq_some_iff.mp hk').1
/-! ### name_symbols -/
/-- what stands for a found pair -/
def TgtV (H : Hp) (v : V) : Option (Nat × Nat) → Prop
  | none => v = .non
  | some k => ∃ a, v = .ref a ∧ PairAt H a k
theorem TgtV.same {H H' : Hp} (s : Same H H') {v : V} : ∀ {o : Option (Nat × Nat)}, TgtV H v o → TgtV H' v o
  | none, h => h
  | some _, ⟨a, h1, h2⟩ => ⟨a, h1, h2.same s⟩
theorem TgtV.put {H : Hp} {r : Addr} {u o : HO} (hr : H r = some u) (no : ∀ xs, u ≠ .tup xs) {v : V} : ∀ {k : Option (Nat × Nat)}, TgtV H v k → TgtV (upd H r o) v k
  | none, h => h
  | some _, ⟨a, h1, h2⟩ => ⟨a, h1, by unfold PairAt; rw [upd_ne (h2.ne hr no)]; exact h2⟩
/-- the dict's answer, a pair for each name in l -/
def NamesIs (H : Hp) (kvs : List (List Key × V)) (g : List Nat → Option (Nat × Nat)) : Prop := ∀ t : List Nat, TgtV H ((valV kvs (kk t)).getD .non) (g t) ∧ (g t = none → valV kvs (kk t) = none)
def NamesAt (H : Hp) (d : Addr) (os : List Object) : Prop := ∃ kvs, H d = some (.dT kvs) ∧ NamesIs H kvs (Sd07.named os)
theorem NamesAt.same {H H' : Hp} {d : Addr} {os : List Object} (s : Same H H') (h : NamesAt H d os) : NamesAt H' d os := let ⟨kvs, h1, h2⟩ := h; ⟨kvs, s _ _ h1, fun t => ⟨(h2 t).1.same s, (h2 t).2⟩⟩
def sp_names (K : PySem.W.Frag) : Sp := fun vs H Q _ => ∃ l os, vs = [.ref l] ∧ PartsAt K H l os ∧ WF os ∧ ∀ H' d, Same H H' → NamesAt H' d os → Q (.ref d) H'
theorem sc_names : FnScope ["parts", "found", "pair"] ["parts"] (defScope (top 23)) := ⟨rfl, rfl, rfl, by decide +kernel, rfl, by decide +kernel, by decide +kernel⟩
theorem ok_names (T : Glob K mg) (D : DefIn K mg "name_symbols" (top 23) ["parts"]) (G1 : Cal P w K mg base CX0 1 "givers" ["parts", "binding"] (sp_givers K)) (G2 : Cal P w K mg base CX0 1 "symbol_at" ["parts", "pair"] (sp_symbol_at K)) :
    Cal P w K mg base CX0 2 "name_symbols" ["parts"] (sp_names K) := by
  refine D.ok sc_names (fun vs H Q E h => ?_) (fun f cdv A outer s H vs Q E hr h => ?_)
  · obtain ⟨l, os, rfl, _⟩ := h
    rfl
  · obtain ⟨l, os, rfl, hl, wf, q⟩ := h
    have hu := hu_of hr
    refine ⟨_, pss_cons (ps_set (i := 1) sc_names.nd rfl (Or.inl rfl) pe_dnewT)
      (pss_cons (ps_for PassesOwn.never rfl (pi_list (pe_op op_cat (pe_cal G1 hr pass0 (pa_cons (pv 0) (pa_cons (pe_gi T.for_all) pa_nil))) (pe_cal G1 hr pass0 (pa_cons (pv 0) (pa_cons (pe_gi T.weak) pa_nil))))) (pg_name (i := 2) sc_names.nd rfl (Or.inl rfl))
        (pss_one (ps_expr (pe_dsetdef hu (pv 1) (pe_f (pe_cal G2 hr pass0 (pa_cons (pv 0) (pa_cons (pv 2) pa_nil)))) (pv 2) ⟨rfl, rfl, rfl, rfl⟩))))
      (pss_one (ps_ret (pv 1)))), ?_⟩
    intro d hd
    refine ⟨_, rfl, l, os, 1, rfl, hl.same (Same.upd hd), wf, fun H1 r1 xs1 s1 hr01 hr1 al1 => ?_⟩
    refine ⟨_, rfl, l, os, 2, rfl, hl.same ((Same.upd hd).trans s1), wf, fun H2 r2 xs2 s2 hr02 hr2 al2 => ?_⟩
    have b1 := gvs_bd wf 1
    have b2 := gvs_bd wf 2
    have zl : sizeLine = 16777216 := rfl
    have c1 : xs1.length = (gvs os 1).length := al1.1
    have c2 : xs2.length = (gvs os 2).length := al2.1
    refine ⟨r1, r2, xs1, xs2, rfl, rfl, s2 _ _ hr1, hr2, by omega, fun r hr0 => ⟨r, rfl, ⟨_, SqL.of upd_same⟩, ?_⟩⟩
    have sH : Same H (upd H2 r (.lst (xs1 ++ xs2))) := (((Same.upd hd).trans s1).trans s2).trans (Same.upd hr0)
    have hd2 : H2 d = some (.dT []) := s2 _ _ (s1 _ _ upd_same)
    have rd : r ≠ d := fun z => by rw [z, hd2] at hr0; cases hr0
    have al : Al (PairAt (upd H2 r (.lst (xs1 ++ xs2)))) (xs1 ++ xs2) (gvs os 1 ++ gvs os 2) := Al.append (al1.mono fun _ _ g => (g.same s2).same (Same.upd hr0)) (al2.mono fun _ _ g => g.same (Same.upd hr0))
    generalize hgs : gvs os 1 ++ gvs os 2 = gs at al
    have gm : ∀ k ∈ gs, ∃ y, Sd07.symbol os k = some y ∧ nm os k = y.name := fun k hk => by
      rw [← hgs] at hk
      rcases List.mem_append.mp hk with h | h
      · obtain ⟨y, e1, e2, _⟩ := gvs_sym h; exact ⟨y, e1, e2⟩
      · obtain ⟨y, e1, e2, _⟩ := gvs_sym h; exact ⟨y, e1, e2⟩
    have bg : gs.length ≤ 16384 := by rw [← hgs, List.length_append]; omega
    refine for_list (K := K) (a := r) (xs := xs1 ++ xs2) (fun i σ H' => ∃ v2 kvs, σ = [some (.ref l), some (.ref d), v2] ∧ Same H H' ∧ H' d = some (.dT kvs) ∧ H' r = some (.lst (xs1 ++ xs2)) ∧ Al (PairAt H') (xs1 ++ xs2) gs ∧ kvs.length ≤ i ∧ NamesIs H' kvs (fnd os (gs.take i)))
      ⟨none, [], rfl, sH, Same.upd hr0 _ _ hd2, upd_same, al, Nat.le_refl _, fun t => ⟨rfl, fun _ => rfl⟩⟩ (fun i σ H' _ ⟨_, _, _, _, _, h, _⟩ => SqL.of h) ?_ ?_
    · rintro i x σ H' hx ⟨v2, kvs, rfl, s3, hd3, hr3, al3, hlen, hv⟩
      obtain ⟨k, a, hk, rfl, ga⟩ := al3.get hx
      obtain ⟨y, ey, en⟩ := gm k (List.mem_of_getElem? hk)
      have hi := (List.getElem?_eq_some_iff.mp hk).1
      refine ⟨_, rfl, d, rfl, .inr ⟨kvs, .inl hd3⟩, _, rfl, _, rfl, l, a, os, k, y, rfl, hl.same s3, ga, ey, fun c gc => ?_⟩
      obtain ⟨t, f1, f2⟩ := gc.name
      refine ⟨c, _, rfl, f1, _, rfl, kvs, kk y.name, t, hd3, rfl, f2, by omega, fun v hv1 => ?_, fun hn => ?_⟩
      · refine ⟨_, _, rfl, s3, hd3, hr3, al3, Nat.le_succ_of_le hlen, fun t' => ?_⟩
        rw [take_snoc hk, fnd_snoc, en]
        by_cases e : y.name = t'
        · subst e
          have z := hv y.name
          cases q' : fnd os (gs.take i) y.name with
          | none => rw [z.2 q'] at hv1; cases hv1
          | some k' => rw [q'] at z; exact ⟨z.1, fun h => by simp at h⟩
        · rw [if_neg e, Option.or_none]
          exact hv t'
      · refine ⟨_, _, rfl, Same.put s3 hd, upd_same, ?_, al_put al3 hd3 (fun _ z => by cases z), by rw [List.length_append]; exact Nat.succ_le_succ hlen, fun t' => ?_⟩
        · rw [upd_ne rd]; exact hr3
        · rw [take_snoc hk, fnd_snoc, en, valV_snoc]
          have z := hv t'
          by_cases e : y.name = t'
          · subst e
            have q' : fnd os (gs.take i) y.name = none := by
              cases q' : fnd os (gs.take i) y.name with
              | none => rfl
              | some k' =>
                rw [q', hn] at z
                obtain ⟨⟨b, hb, _⟩, _⟩ := z
                cases hb
            rw [q', hn, if_pos rfl, if_pos rfl]
            exact ⟨⟨a, rfl, by unfold PairAt; rw [upd_ne (ga.ne hd3 fun _ z => by cases z)]; exact ga⟩, fun h => by cases h⟩
          · rw [if_neg e, if_neg (fun z => e (kk_inj z)), Option.or_none, Option.or_none]
            exact ⟨z.1.put hd3 (fun _ z => by cases z), z.2⟩
    · rintro σ H' ⟨v2, kvs, rfl, s3, hd3, hr3, al3, hlen, hv⟩
      refine ⟨_, rfl, q H' d s3 ⟨kvs, hd3, fun t => ?_⟩⟩
      have z := hv t
      rw [take_all al3.1, ← hgs, ← named_fnd] at z
      exact z
end
end Jo
set_option Elab.async false
set_option linter.all false
set_option maxRecDepth 100000
set_option maxHeartbeats 2000000
namespace Jo
open PySem PySem.Spec L2 JX
open PyProof.Rows hiding St frameOf passOn
open Sd07 (Object Section Symbol Reloc)
/-! ### stand_for -/
/-- the symbol that a symbol stands for -/
def tgt (os : List Object) (k : Nat × Nat) : Option (Nat × Nat) := match Sd07.symbol os k with
  | none => none
  | some y => if y.binding = 0 then some k else Sd07.named os y.name
/-- the first n of the rows of object p -/
def RowN (os : List Object) (H : Hp) (p : Nat) (n : Nat) (ys : List V) : Prop := ys.length = n ∧ ∀ j, j < n → ∃ v, ys[j]? = some v ∧ TgtV H v (tgt os (p, j))
def RowAt (os : List Object) (H : Hp) (r : Addr) (x : Object × Nat) : Prop := ∃ ys, H r = some (.lst ys) ∧ RowN os H x.2 x.1.symbols.length ys
def TgtsAt (os : List Object) (H : Hp) (l : Addr) : Prop := ∃ xs, H l = some (.lst xs) ∧ Al (RowAt os H) xs os.zipIdx
section
variable {os : List Object} {H H' : Hp}
theorem RowN.same (s : Same H H') {p n : Nat} {ys : List V} (h : RowN os H p n ys) : RowN os H' p n ys := ⟨h.1, fun j hj => let ⟨v, h1, h2⟩ := h.2 j hj; ⟨v, h1, h2.same s⟩⟩
theorem RowN.put {q : Addr} {u o : HO} (hr : H q = some u) (no : ∀ xs, u ≠ .tup xs) {p n : Nat} {ys : List V} (h : RowN os H p n ys) : RowN os (upd H q o) p n ys := ⟨h.1, fun j hj => let ⟨v, h1, h2⟩ := h.2 j hj; ⟨v, h1, h2.put hr no⟩⟩
theorem RowN.snoc {p n : Nat} {ys : List V} (h : RowN os H p n ys) {v : V} (hv : TgtV H v (tgt os (p, n))) : RowN os H p (n + 1) (ys ++ [v]) := by
  refine ⟨by rw [List.length_append, h.1]; rfl, fun j hj => ?_⟩
  by_cases e : j = n
  · subst e
    exact ⟨v, by rw [List.getElem?_append_right (by rw [h.1]; exact Nat.le_refl _), h.1]; simp, hv⟩
  · obtain ⟨v', h1, h2⟩ := h.2 j (by omega)
    exact ⟨v', by rw [List.getElem?_append_left (by rw [h.1]; omega)]; exact h1, h2⟩
theorem RowAt.same (s : Same H H') {r : Addr} {x : Object × Nat} (h : RowAt os H r x) : RowAt os H' r x := let ⟨ys, h1, h2⟩ := h; ⟨ys, s _ _ h1, h2.same s⟩
theorem TgtsAt.same (s : Same H H') {l : Addr} (h : TgtsAt os H l) : TgtsAt os H' l := let ⟨xs, h1, h2⟩ := h; ⟨xs, s _ _ h1, h2.mono fun _ _ g => g.same s⟩
theorem TgtsAt.get {l : Addr} (h : TgtsAt os H l) {k : Nat × Nat} {o : Object} (ho : os[k.1]? = some o) (hk : k.2 < o.symbols.length) : ∃ xs r ys v, H l = some (.lst xs) ∧ xs[k.1]? = some (.ref r) ∧ H r = some (.lst ys) ∧ ys[k.2]? = some v ∧ TgtV H v (tgt os k) := by
  obtain ⟨xs, h1, al⟩ := h
  have e : os.zipIdx[k.1]? = some (o, k.1) := by
    rw [List.getElem?_zipIdx, ho]; simp
  obtain ⟨r, h2, ys, h3, h4⟩ := al.2 _ _ e
  obtain ⟨v, h5, h6⟩ := h4.2 k.2 hk
  exact ⟨xs, r, ys, v, h1, h2, h3, h5, h6⟩
end
section
variable {P : Program} {w : World} {K : PySem.W.Frag} {mg : Str → Option Value} {base : Heap}
def sp_stand (K : PySem.W.Frag) : Sp := fun vs H Q _ => ∃ l d os, vs = [.ref l, .ref d] ∧ PartsAt K H l os ∧ WF os ∧ NamesAt H d os ∧ ∀ H' t, Same H H' → TgtsAt os H' t → Q (.ref t) H'
theorem sc_stand : FnScope ["parts", "found", "targets", "part_number", "part", "row", "number", "symbol"] ["parts", "found"] (defScope (top 24)) := ⟨rfl, rfl, rfl, by decide +kernel, rfl, by decide +kernel, by decide +kernel⟩
theorem ok_stand (T : Glob K mg) (D : DefIn K mg "stand_for" (top 24) ["parts", "found"]) : Cal P w K mg base CX0 1 "stand_for" ["parts", "found"] (sp_stand K) := by
  refine D.ok sc_stand (fun vs H Q E h => ?_) (fun f cdv A outer s H vs Q E hr h => ?_)
  · obtain ⟨l, d, os, rfl, _⟩ := h
    rfl
  · obtain ⟨l, d, os, rfl, ⟨xs, hl, al⟩, wf, hd, q⟩ := h
    have hu := hu_of hr
    have zl : sizeLine = 16777216 := rfl
    refine ⟨_, pss_cons (ps_set (i := 2) sc_stand.nd rfl (Or.inl rfl) (pe_lst pa_nil))
      (pss_cons (ps_for PassesOwn.never rfl (pi_enum rfl T.enum (pa_cons (pv 0) pa_nil)) (pg_tup rfl (pgs_cons (pg_name (i := 3) sc_stand.nd rfl (Or.inl rfl)) (pgs_cons (pg_name (i := 4) sc_stand.nd rfl (Or.inl rfl)) pgs_nil)))
        (pss_cons (ps_set (i := 5) sc_stand.nd rfl (Or.inl rfl) (pe_lst pa_nil))
        (pss_cons (ps_for PassesOwn.never rfl (pi_enum rfl T.enum (pa_cons (pe_f (pv 4)) pa_nil)) (pg_tup rfl (pgs_cons (pg_name (i := 6) sc_stand.nd rfl (Or.inl rfl)) (pgs_cons (pg_name (i := 7) sc_stand.nd rfl (Or.inl rfl)) pgs_nil)))
          (pss_one (ps_if (pt_cmp (pc_eqI (pe_f (pv 7)) (pe_gi T.own)))
            (pss_one (ps_expr (pe_bm PySem.F.plainAttrs_list PySem.F.slot_list_append PySem.F.type_list_append mApp (pv 5) (pa_cons (pe_tup (pa_cons (pv 3) (pa_cons (pv 6) pa_nil))) pa_nil))))
            (pss_one (ps_expr (pe_bm PySem.F.plainAttrs_list PySem.F.slot_list_append PySem.F.type_list_append mApp (pv 5) (pa_cons (pe_dget1 hu (pv 1) (pe_f (pv 7)) ⟨rfl, rfl, rfl, rfl⟩) pa_nil)))))))
        (pss_one (ps_expr (pe_bm PySem.F.plainAttrs_list PySem.F.slot_list_append PySem.F.type_list_append mApp (pv 2) (pa_cons (pv 5) pa_nil)))))))
      (pss_one (ps_ret (pv 2)))), ?_⟩
    refine ⟨Nat.zero_le _, fun t ht0 => ?_⟩
    refine ⟨_, rfl, l, xs, rfl, SqL.of (Same.upd ht0 _ _ hl), for_enum (K := K) (a := l) (xs := xs) (i1 := 3) (i2 := 4) (fun i σ H' => ∃ v3 v4 v5 v6 v7 zs, σ = [some (.ref l), some (.ref d), some (.ref t), v3, v4, v5, v6, v7] ∧ Same H H' ∧ H' t = some (.lst zs) ∧ Al (fun r x => r ≠ t ∧ RowAt os H' r x) zs (os.zipIdx.take i))
      ⟨none, none, none, none, none, [], rfl, Same.upd ht0, upd_same, by rw [List.take_zero]; exact Al.nil⟩ (fun i σ H' _ ⟨_, _, _, _, _, _, _, s1, _⟩ => SqL.of (s1 _ _ hl)) ?_ ?_⟩
    · rintro i x σ H' tt hx ⟨v3, v4, v5, v6, v7, zs, rfl, s1, ht1, al1⟩ htt
      obtain ⟨o, a, ho, rfl, g⟩ := al.get hx
      obtain ⟨ly, ys, f1, f2, f3⟩ := g.symbols
      have wo := wf.at ho
      refine ⟨Nat.zero_le _, fun r hr0 => ?_⟩
      have sb : Same H' (upd (upd H' tt (.tup [.int (i : Nat), .ref a])) r (.lst [])) := (Same.upd htt).trans (Same.upd hr0)
      have hr' : H' r = none := (Same.upd htt).free hr0
      have s2 : Same H (upd (upd H' tt (.tup [.int (i : Nat), .ref a])) r (.lst [])) := s1.trans sb
      have rt : r ≠ t := fun z => by rw [z, ht1] at hr'; cases hr'
      refine ⟨_, rfl, a, _, rfl, f1.same s2, ly, ys, rfl, SqL.of (s2 _ _ f2), for_enum (K := K) (a := ly) (xs := ys) (i1 := 6) (i2 := 7) (fun j σ H3 => ∃ v6 v7 us, σ = [some (.ref l), some (.ref d), some (.ref t), some (.int (i : Nat)), some (.ref a), some (.ref r), v6, v7] ∧ Same H' H3 ∧ H3 r = some (.lst us) ∧ RowN os H3 i j us)
        ⟨v6, v7, [], rfl, sb, upd_same, rfl, fun j hj => absurd hj (Nat.not_lt_zero _)⟩ (fun j σ H3 _ ⟨_, _, _, _, s3, _⟩ => SqL.of (s3 _ _ (s1 _ _ f2))) ?_ ?_⟩
      · rintro j x σ H3 t3 hx3 ⟨v6, v7, us, rfl, s3, hr3, rn⟩ ht3
        obtain ⟨y, c, hy, rfl, gy⟩ := f3.get hx3
        have s4 : Same H' (upd H3 t3 (.tup [.int (j : Nat), .ref c])) := s3.trans (Same.upd ht3)
        have s5 : Same H (upd H3 t3 (.tup [.int (j : Nat), .ref c])) := s1.trans s4
        have gy := gy.same s5
        have hr4 := Same.upd (o := .tup [.int (j : Nat), .ref c]) ht3 _ _ hr3
        have rn4 := rn.same (Same.upd (o := .tup [.int (j : Nat), .ref c]) ht3)
        have hj := (List.getElem?_eq_some_iff.mp hy).1
        have ny := wo.ny
        have eu := rn.1
        have es : Sd07.symbol os (i, j) = some y := by
          unfold Sd07.symbol
          dsimp only
          rw [ho]; exact hy
        refine ⟨_, rfl, c, _, rfl, gy.binding, _, _, rfl, rfl, _, rfl, ?_⟩
        refine ite2 (fun h1 => ?_) (fun h1 => ?_)
        · have h1 := of_decide_eq_true h1
          refine ⟨_, rfl, .inl ⟨rfl, _, SqL.of hr4⟩, _, rfl, _, rfl, (by show 2 ≤ sizeLine; decide), fun p hp => ?_⟩
          refine ⟨r, _, _, rfl, rfl, Same.upd hp _ _ hr4, by omega, ?_⟩
          have hpr : p ≠ r := fun z => by rw [z, hr4] at hp; cases hp
          refine ⟨_, _, _, rfl, Same.put (s4.trans (Same.upd hp)) hr', upd_same, RowN.snoc ((rn4.same (Same.upd hp)).put (Same.upd hp _ _ hr4) fun _ z => by cases z) ?_⟩
          have e0 : tgt os (i, j) = some (i, j) := by
            unfold tgt
            rw [es]
            exact if_pos (by omega)
          rw [e0]
          exact ⟨p, rfl, by unfold PairAt; rw [upd_ne hpr, upd_same]⟩
        · obtain ⟨tn, n1, n2⟩ := gy.name
          obtain ⟨kvs, k1, k2⟩ := hd.same s5
          refine ⟨_, rfl, .inl ⟨rfl, _, SqL.of hr4⟩, _, rfl, d, rfl, .inr ⟨kvs, .inl k1⟩, _, rfl, c, _, rfl, n1, _, DGet.t k1 n2, ?_⟩
          refine ⟨r, _, _, rfl, rfl, hr4, by omega, ?_⟩
          refine ⟨_, _, _, rfl, Same.put s4 hr', upd_same, RowN.snoc (rn4.put hr4 fun _ z => by cases z) ?_⟩
          have e0 : tgt os (i, j) = Sd07.named os y.name := by
            unfold tgt
            rw [es]
            exact if_neg (fun z => h1 (decide_eq_true (by omega)))
          rw [e0]
          exact (k2 y.name).1.put hr4 fun _ z => by cases z
      · rintro σ H3 ⟨v6, v7, us, rfl, s3, hr3, rn⟩
        have ht3 := s3 _ _ ht1
        have hi := (List.getElem?_eq_some_iff.mp ho).1
        have wn := wf.n
        have ez := al1.1
        rw [List.length_take, List.length_zipIdx] at ez
        refine ⟨_, rfl, .inl ⟨rfl, _, SqL.of ht3⟩, _, rfl, t, _, _, rfl, rfl, ht3, by omega, ?_⟩
        refine ⟨_, _, _, _, _, _, rfl, Same.put (s1.trans s3) ht0, upd_same, ?_⟩
        have e : os.zipIdx[i]? = some (o, i) := by
          rw [List.getElem?_zipIdx, ho]; simp
        rw [take_snoc e]
        have nt : ∀ xs, HO.lst zs ≠ .tup xs := fun _ z => by cases z
        have f31 : us.length = o.symbols.length := by rw [rn.1, f3.1]
        refine Al.snoc (al1.mono fun r' x ⟨n', ys', g1, g2⟩ => ⟨n', ys', by rw [upd_ne n']; exact s3 _ _ g1, (g2.same s3).put ht3 nt⟩) ⟨rt, us, by rw [upd_ne rt]; exact hr3, ?_⟩
        rw [f3.1] at rn
        exact rn.put ht3 nt
    · rintro σ H' ⟨v3, v4, v5, v6, v7, zs, rfl, s1, ht1, al1⟩
      refine ⟨_, rfl, q H' t s1 ⟨zs, ht1, ?_⟩⟩
      rw [take_all (by rw [List.length_zipIdx, al.1])] at al1
      exact al1.mono fun _ _ g => g.2
end
end Jo
set_option Elab.async false
set_option linter.all false
set_option maxRecDepth 100000
set_option maxHeartbeats 2000000
namespace Jo
open PySem PySem.Spec L2 JX
open PyProof.Rows hiding St frameOf passOn
open Sd07 (Object Section Symbol Reloc)
/-- the section that a target lies in -/
def sOf (os : List Object) : Option (Nat × Nat) → List (Nat × Nat)
  | none => []
  | some k => match Sd07.symbol os k with
    | none => []
    | some y => match y.place with
      | .inside s _ => [(k.1, s)]
      | _ => []
/-- a target is a symbol that has a place -/
def Placed (os : List Object) (k : Option (Nat × Nat)) : Prop := ∀ x, k = some x → ∃ y o, Sd07.symbol os x = some y ∧ y.place ≠ .none ∧ os[x.1]? = some o ∧ y ∈ o.symbols
section
variable {P : Program} {w : World} {K : PySem.W.Frag} {mg : Str → Option Value} {base : Heap}
def sp_sections_of (K : PySem.W.Frag) : Sp := fun vs H Q _ => ∃ l v os k, vs = [.ref l, v] ∧ PartsAt K H l os ∧ WF os ∧ TgtV H v k ∧ Placed os k ∧ ∀ H' r xs, Same H H' → H r = none → H' r = some (.lst xs) → Al (PairAt H') xs (sOf os k) → Q (.ref r) H'
theorem sc_sections_of : FnScope ["parts", "target", "section"] ["parts", "target"] (defScope (top 42)) := ⟨rfl, rfl, rfl, by decide +kernel, rfl, by decide +kernel, by decide +kernel⟩
theorem ok_sections_of (T : Glob K mg) (D : DefIn K mg "sections_of" (top 42) ["parts", "target"]) (G2 : Cal P w K mg base CX0 1 "symbol_at" ["parts", "pair"] (sp_symbol_at K)) : Cal P w K mg base CX0 2 "sections_of" ["parts", "target"] (sp_sections_of K) := by
  refine D.ok sc_sections_of (fun vs H Q E h => ?_) (fun f cdv A outer s H vs Q E hr h => ?_)
  · obtain ⟨l, v, os, k, rfl, _⟩ := h
    rfl
  · obtain ⟨l, v, os, k, rfl, hl, wf, hv, pl, q⟩ := h
    refine ⟨_, pss_cons (ps_if (pt_cmp (pc_isN (pv 1))) (pss_one (ps_ret (pe_lst pa_nil))) pss_nil)
      (pss_cons (ps_set (i := 2) sc_sections_of.nd rfl (Or.inl rfl) (pe_f (pe_cal G2 hr pass0 (pa_cons (pv 0) (pa_cons (pv 1) pa_nil)))))
      (pss_cons (ps_if (pt_cmp (pc_eqI (pv 2) (pe_gi T.number))) (pss_one (ps_ret (pe_lst pa_nil))) pss_nil)
      (pss_one (ps_ret (pe_lst (pa_cons (pe_tup (pa_cons (pe_ix ix_tup (pv 1) pe_int (fun _ _ => rfl)) (pa_cons (pv 2) pa_nil))) pa_nil)))))), ?_⟩
    have empty : sOf os k = [] → tRet (tLst tNil) { nx := fun _ H' => Q .non H', rt := Q } [some (V.ref l), some v, none] H := fun e => ⟨Nat.zero_le _, fun r hr0 => q _ r [] (Same.upd hr0) hr0 upd_same (by rw [e]; exact Al.nil)⟩
    refine ⟨_, rfl, _, rfl, ?_⟩
    cases k with
    | none =>
      have hv : v = .non := hv
      subst hv
      rw [decide_eq_true rfl]
      exact iteT (empty rfl)
    | some k =>
      obtain ⟨a, rfl, ga⟩ := hv
      obtain ⟨y, o, ey, ny, ho, my⟩ := pl k rfl
      rw [decide_eq_false (by intro z; cases z)]
      refine iteF ?_
      refine ⟨_, rfl, _, rfl, l, a, os, k, y, rfl, hl, ga, ey, fun c gc => ?_⟩
      refine ⟨c, _, rfl, gc.sec, _, rfl, _, _, rfl, rfl, _, rfl, ?_⟩
      have wy := ((wf.at ho).sym y my).2.2
      have ns := (wf.at ho).ns
      cases ep : y.place with
      | none => exact absurd ep ny
      | number n =>
        refine ite2 (fun _ => ⟨Nat.zero_le _, fun r hr0 => q _ r [] (Same.upd hr0) hr0 upd_same ?_⟩) (fun h => absurd rfl h)
        have e : sOf os (some k) = [] := by
          unfold sOf
          simp only [ey, ep]
        rw [e]; exact Al.nil
      | inside sn n =>
        have lt := (wy.1 sn n ep).1
        refine ite2 (fun h => ?_) (fun _ => ?_)
        · have z : ((sn : Nat) : Int) = 65534 := of_decide_eq_true h
          omega
        refine ⟨_, rfl, a, _, _, _, rfl, rfl, SqT.of ga, rfl, _, rfl, (by show 2 ≤ sizeLine; decide), fun p hp => ⟨(by show 1 ≤ sizeLine; decide), fun r hr0 => ?_⟩⟩
        have pr' : p ≠ r := fun z => by rw [z, upd_same] at hr0; cases hr0
        refine q _ r _ ((Same.upd hp).trans (Same.upd hr0)) ((Same.upd hp).free hr0) upd_same ?_
        have e : sOf os (some k) = [(k.1, sn)] := by
          unfold sOf
          simp only [ey, ep]
        rw [e]
        refine Al.snoc (xs := []) (os := []) Al.nil ?_
        unfold PairAt
        rw [upd_ne pr', upd_same]
        rfl
/-! ### marked_sections -/
def cMark : Nat → Nat → Section → Bool := fun _ _ s => s.keep
def sp_marked (K : PySem.W.Frag) : Sp := fun vs H Q _ => ∃ l os, vs = [.ref l] ∧ PartsAt K H l os ∧ WF os ∧
  ∀ H' r xs, Same H H' → H r = none → H' r = some (.lst xs) → Al (PairAt H') xs (nest (·.sections) cMark os) → Q (.ref r) H'
theorem sc_marked : FnScope ["parts", "found", "part_number", "part", "number", "section"] ["parts"] (defScope (top 41)) := ⟨rfl, rfl, rfl, by decide +kernel, rfl, by decide +kernel, by decide +kernel⟩
theorem ok_marked (T : Glob K mg) (D : DefIn K mg "marked_sections" (top 41) ["parts"]) : Cal P w K mg base CX0 1 "marked_sections" ["parts"] (sp_marked K) := by
  refine D.ok sc_marked (fun vs H Q E h => ?_) (fun f cdv A outer s H vs Q E hr h => ?_)
  · obtain ⟨l, os, rfl, _⟩ := h
    rfl
  · obtain ⟨l, os, rfl, ⟨xs, hl, al⟩, wf, q⟩ := h
    refine ⟨_, pss_cons (ps_set (i := 1) sc_marked.nd rfl (Or.inl rfl) (pe_lst pa_nil))
      (pss_cons (ps_for PassesOwn.never rfl (pi_enum rfl T.enum (pa_cons (pv 0) pa_nil)) (pg_tup rfl (pgs_cons (pg_name (i := 2) sc_marked.nd rfl (Or.inl rfl)) (pgs_cons (pg_name (i := 3) sc_marked.nd rfl (Or.inl rfl)) pgs_nil)))
        (pss_one (ps_for PassesOwn.never rfl (pi_enum rfl T.enum (pa_cons (pe_f (pv 3)) pa_nil)) (pg_tup rfl (pgs_cons (pg_name (i := 4) sc_marked.nd rfl (Or.inl rfl)) (pgs_cons (pg_name (i := 5) sc_marked.nd rfl (Or.inl rfl)) pgs_nil)))
          (pss_one (ps_if (pt_val (pe_f (pv 5)))
            (pss_one (ps_expr (pe_bm PySem.F.plainAttrs_list PySem.F.slot_list_append PySem.F.type_list_append mApp (pv 1) (pa_cons (pe_tup (pa_cons (pv 2) (pa_cons (pv 4) pa_nil))) pa_nil)))) pss_nil)))))
      (pss_one (ps_ret (pv 1)))), ?_⟩
    refine ⟨Nat.zero_le _, fun r hr0 => ?_⟩
    refine ⟨_, rfl, l, xs, rfl, SqL.of (Same.upd hr0 _ _ hl), for_enum (K := K) (a := l) (xs := xs) (i1 := 2) (i2 := 3) (fun i σ H' => ∃ v3 v4 v5 v6 zs, σ = [some (.ref l), some (.ref r), v3, v4, v5, v6] ∧ Same H H' ∧ H' r = some (.lst zs) ∧ Al (PairAt H') zs (nest (·.sections) cMark (os.take i)))
      ⟨none, none, none, none, [], rfl, Same.upd hr0, upd_same, Al.nil⟩ (fun i σ H' _ ⟨_, _, _, _, _, _, s1, _⟩ => SqL.of (s1 _ _ hl)) ?_ ?_⟩
    · rintro i x σ H' t hx ⟨v3, v4, v5, v6, zs, rfl, s1, hr1, al1⟩ ht
      obtain ⟨o, a, ho, rfl, g⟩ := al.get hx
      obtain ⟨ly, ys, f1, f2, f3⟩ := g.sections
      have s2 : Same H (upd H' t (.tup [.int (i : Nat), .ref a])) := s1.trans (Same.upd ht)
      refine ⟨_, rfl, a, _, rfl, f1.same s2, ly, ys, rfl, SqL.of (s2 _ _ f2), for_enum (K := K) (a := ly) (xs := ys) (i1 := 4) (i2 := 5) (fun j σ H3 => ∃ v5 v6 zs, σ = [some (.ref l), some (.ref r), some (.int (i : Nat)), some (.ref a), v5, v6] ∧ Same H H3 ∧ H3 r = some (.lst zs) ∧ Al (PairAt H3) zs (nest (·.sections) cMark (os.take i) ++ inn cMark i (o.sections.take j)))
        ⟨v5, v6, zs, rfl, s2, Same.upd ht _ _ hr1, by rw [List.take_zero]; show Al _ _ (_ ++ []); rw [List.append_nil]; exact al1.mono fun _ _ g => g.same (Same.upd ht)⟩ (fun j σ H3 _ ⟨_, _, _, _, s3, _⟩ => SqL.of (s3 _ _ f2)) ?_ ?_⟩
      · rintro j x σ H3 t3 hx3 ⟨v5, v6, zs, rfl, s3, hr3, al3⟩ ht3
        obtain ⟨y, c, hy, rfl, gy⟩ := f3.get hx3
        have s4 : Same H (upd H3 t3 (.tup [.int (j : Nat), .ref c])) := s3.trans (Same.upd ht3)
        have gy := gy.same s4
        have hr4 := Same.upd (o := .tup [.int (j : Nat), .ref c]) ht3 _ _ hr3
        have al4 := al3.mono fun _ _ g => g.same (Same.upd (o := .tup [.int (j : Nat), .ref c]) ht3)
        refine ⟨_, rfl, c, _, rfl, gy.marked, _, rfl, ?_⟩
        refine ite2 (fun h1 => ?_) (fun h1 => ?_)
        · have hc : cMark i j y = true := h1
          refine ⟨_, rfl, .inl ⟨rfl, _, SqL.of hr4⟩, _, rfl, _, rfl, (by show 2 ≤ sizeLine; decide), fun p hp => ?_⟩
          refine ⟨r, _, _, rfl, rfl, Same.upd hp _ _ hr4, ?_, ?_⟩
          · rw [al4.1]
            exact nest_bd wf.n (fun o ho => Nat.le_trans (wf.all o ho).ns (by decide)) ho (List.getElem?_eq_some_iff.mp hy).1
          · refine ⟨_, _, _, rfl, Same.put (s4.trans (Same.upd hp)) hr0, upd_same, ?_⟩
            rw [inn_snoc hy, hc, if_pos rfl, ← List.append_assoc]
            exact al_app al4 hr4 hp
        · refine ⟨_, _, zs, rfl, s4, hr4, ?_⟩
          have hc : cMark i j y = false := by
            cases q : y.keep with
            | true => exact absurd q h1
            | false => exact q
          rw [inn_snoc hy, hc]
          show Al _ _ (_ ++ (_ ++ []))
          rw [List.append_nil]
          exact al4
      · rintro σ H3 ⟨v5, v6, zs, rfl, s3, hr3, al3⟩
        refine ⟨_, _, _, _, zs, rfl, s3, hr3, ?_⟩
        rw [nest_snoc ho]
        rw [take_all (f3.1)] at al3
        exact al3
    · rintro σ H' ⟨v3, v4, v5, v6, zs, rfl, s1, hr1, al1⟩
      rw [take_all al.1] at al1
      exact ⟨_, rfl, q H' r zs s1 hr0 hr1 al1⟩
/-! ### kept_relocations -/
/-- the dict at d has just the keys of which f says so -/
def KeptAt (H : Hp) (d : Addr) (f : Nat × Nat → Bool) : Prop := ∃ kvs, H d = some (.dT kvs) ∧ ∀ x, (valV kvs (pk x)).isSome = f x
theorem KeptAt.same {H H' : Hp} {d : Addr} {f : Nat × Nat → Bool} (s : Same H H') (h : KeptAt H d f) : KeptAt H' d f := let ⟨kvs, h1, h2⟩ := h; ⟨kvs, s _ _ h1, h2⟩
def cRel (f : Nat × Nat → Bool) : Nat → Nat → Reloc → Bool := fun p _ r => f (p, r.sec)
def sp_keptrel (K : PySem.W.Frag) : Sp := fun vs H Q _ => ∃ l d os kf, vs = [.ref l, .ref d] ∧ PartsAt K H l os ∧ WF os ∧ KeptAt H d kf ∧
  ∀ H' r xs, Same H H' → H r = none → H' r = some (.lst xs) → Al (PairAt H') xs (nest (·.relocs) (cRel kf) os) → Q (.ref r) H'
theorem sc_keptrel : FnScope ["parts", "kept", "found", "part_number", "part", "number", "relocation"] ["parts", "kept"] (defScope (top 45)) := ⟨rfl, rfl, rfl, by decide +kernel, rfl, by decide +kernel, by decide +kernel⟩
theorem ok_keptrel (T : Glob K mg) (D : DefIn K mg "kept_relocations" (top 45) ["parts", "kept"]) : Cal P w K mg base CX0 1 "kept_relocations" ["parts", "kept"] (sp_keptrel K) := by
  refine D.ok sc_keptrel (fun vs H Q E h => ?_) (fun f cdv A outer s H vs Q E hr h => ?_)
  · obtain ⟨l, d, os, kf, rfl, _⟩ := h
    rfl
  · obtain ⟨l, d, os, kf, rfl, ⟨xs, hl, al⟩, wf, kd, q⟩ := h
    have hu := hu_of hr
    refine ⟨_, pss_cons (ps_set (i := 2) sc_keptrel.nd rfl (Or.inl rfl) (pe_lst pa_nil))
      (pss_cons (ps_for PassesOwn.never rfl (pi_enum rfl T.enum (pa_cons (pv 0) pa_nil)) (pg_tup rfl (pgs_cons (pg_name (i := 3) sc_keptrel.nd rfl (Or.inl rfl)) (pgs_cons (pg_name (i := 4) sc_keptrel.nd rfl (Or.inl rfl)) pgs_nil)))
        (pss_one (ps_for PassesOwn.never rfl (pi_enum rfl T.enum (pa_cons (pe_f (pv 4)) pa_nil)) (pg_tup rfl (pgs_cons (pg_name (i := 5) sc_keptrel.nd rfl (Or.inl rfl)) (pgs_cons (pg_name (i := 6) sc_keptrel.nd rfl (Or.inl rfl)) pgs_nil)))
          (pss_one (ps_if (pt_cmp (pc_din hu (pe_tup (pa_cons (pv 3) (pa_cons (pe_f (pv 6)) pa_nil))) (pv 1)))
            (pss_one (ps_expr (pe_bm PySem.F.plainAttrs_list PySem.F.slot_list_append PySem.F.type_list_append mApp (pv 2) (pa_cons (pe_tup (pa_cons (pv 3) (pa_cons (pv 5) pa_nil))) pa_nil)))) pss_nil)))))
      (pss_one (ps_ret (pv 2)))), ?_⟩
    refine ⟨Nat.zero_le _, fun r hr0 => ?_⟩
    refine ⟨_, rfl, l, xs, rfl, SqL.of (Same.upd hr0 _ _ hl), for_enum (K := K) (a := l) (xs := xs) (i1 := 3) (i2 := 4) (fun i σ H' => ∃ v3 v4 v5 v6 zs, σ = [some (.ref l), some (.ref d), some (.ref r), v3, v4, v5, v6] ∧ Same H H' ∧ H' r = some (.lst zs) ∧ Al (PairAt H') zs (nest (·.relocs) (cRel kf) (os.take i)))
      ⟨none, none, none, none, [], rfl, Same.upd hr0, upd_same, Al.nil⟩ (fun i σ H' _ ⟨_, _, _, _, _, _, s1, _⟩ => SqL.of (s1 _ _ hl)) ?_ ?_⟩
    · rintro i x σ H' t hx ⟨v3, v4, v5, v6, zs, rfl, s1, hr1, al1⟩ ht
      obtain ⟨o, a, ho, rfl, g⟩ := al.get hx
      obtain ⟨ly, ys, f1, f2, f3⟩ := g.relocs
      have s2 : Same H (upd H' t (.tup [.int (i : Nat), .ref a])) := s1.trans (Same.upd ht)
      refine ⟨_, rfl, a, _, rfl, f1.same s2, ly, ys, rfl, SqL.of (s2 _ _ f2), for_enum (K := K) (a := ly) (xs := ys) (i1 := 5) (i2 := 6) (fun j σ H3 => ∃ v5 v6 zs, σ = [some (.ref l), some (.ref d), some (.ref r), some (.int (i : Nat)), some (.ref a), v5, v6] ∧ Same H H3 ∧ H3 r = some (.lst zs) ∧ Al (PairAt H3) zs (nest (·.relocs) (cRel kf) (os.take i) ++ inn (cRel kf) i (o.relocs.take j)))
        ⟨v5, v6, zs, rfl, s2, Same.upd ht _ _ hr1, by rw [List.take_zero]; show Al _ _ (_ ++ []); rw [List.append_nil]; exact al1.mono fun _ _ g => g.same (Same.upd ht)⟩ (fun j σ H3 _ ⟨_, _, _, _, s3, _⟩ => SqL.of (s3 _ _ f2)) ?_ ?_⟩
      · rintro j x σ H3 t3 hx3 ⟨v5, v6, zs, rfl, s3, hr3, al3⟩ ht3
        obtain ⟨y, c, hy, rfl, gy⟩ := f3.get hx3
        have s4 : Same H (upd H3 t3 (.tup [.int (j : Nat), .ref c])) := s3.trans (Same.upd ht3)
        have gy := gy.same s4
        have hr4 := Same.upd (o := .tup [.int (j : Nat), .ref c]) ht3 _ _ hr3
        have al4 := al3.mono fun _ _ g => g.same (Same.upd (o := .tup [.int (j : Nat), .ref c]) ht3)
        refine ⟨_, rfl, _, rfl, c, _, rfl, gy.sec, (by show 2 ≤ sizeLine; decide), fun u hu0 => ?_⟩
        have s5 := s4.trans (Same.upd (o := .tup (pr (i, y.sec))) hu0)
        have hr5 := Same.upd (o := .tup (pr (i, y.sec))) hu0 _ _ hr4
        have al5 := al4.mono fun _ _ g => g.same (Same.upd (o := .tup (pr (i, y.sec))) hu0)
        obtain ⟨kvs, k1, k2⟩ := kd.same s5
        refine ⟨_, rfl, d, _, rfl, DGet.t (k := pk (i, y.sec)) k1 upd_same, _, rfl, ?_⟩
        rw [k2]
        refine ite2 (fun h1 => ?_) (fun h1 => ?_)
        · have hc : cRel kf i j y = true := h1
          refine ⟨_, rfl, .inl ⟨rfl, _, SqL.of hr5⟩, _, rfl, _, rfl, (by show 2 ≤ sizeLine; decide), fun p hp => ?_⟩
          refine ⟨r, _, _, rfl, rfl, Same.upd hp _ _ hr5, ?_, ?_⟩
          · rw [al5.1]
            exact nest_bd wf.n (fun o ho => (wf.all o ho).nr) ho (List.getElem?_eq_some_iff.mp hy).1
          · refine ⟨_, _, _, rfl, Same.put (s5.trans (Same.upd hp)) hr0, upd_same, ?_⟩
            rw [inn_snoc hy, hc, if_pos rfl, ← List.append_assoc]
            exact al_app al5 hr5 hp
        · refine ⟨_, _, zs, rfl, s5, hr5, ?_⟩
          have hc : cRel kf i j y = false := by
            show kf (i, y.sec) = false
            cases q : kf (i, y.sec) with
            | true => exact absurd q h1
            | false => rfl
          rw [inn_snoc hy, hc]
          show Al _ _ (_ ++ (_ ++ []))
          rw [List.append_nil]
          exact al5
      · rintro σ H3 ⟨v5, v6, zs, rfl, s3, hr3, al3⟩
        refine ⟨_, _, _, _, zs, rfl, s3, hr3, ?_⟩
        rw [nest_snoc ho]
        rw [take_all (f3.1)] at al3
        exact al3
    · rintro σ H' ⟨v3, v4, v5, v6, zs, rfl, s1, hr1, al1⟩
      rw [take_all al.1] at al1
      exact ⟨_, rfl, q H' r zs s1 hr0 hr1 al1⟩
end
end Jo
set_option Elab.async false
set_option linter.all false
set_option maxRecDepth 100000
set_option maxHeartbeats 2000000
/-! WHAT IS KEPT: the least set that is closed. -/
namespace Jo
open Sd07 (Object Section Symbol Reloc)
theorem sec_placed (os : List Object) (k : Nat × Nat) : (Sd07.sectionOf (Sd07.placed os k)).toList = sOf os (tgt os k) := by
  unfold Sd07.placed tgt
  cases e : Sd07.symbol os k with
  | none => rfl
  | some y =>
    by_cases h : y.binding = 0
    · simp only [h, if_true]
      unfold sOf
      simp only [e]
      cases y.place <;> rfl
    · simp only [h, if_false]
      cases e2 : Sd07.named os y.name with
      | none => rfl
      | some k2 =>
        unfold sOf
        cases e3 : Sd07.symbol os k2 with
        | none => simp only [e3]; rfl
        | some y2 =>
          simp only [e3]
          simp only [Option.map_some]
          cases y2.place <;> rfl
theorem placed_none (os : List Object) (k : Nat × Nat) (hk : ∀ x, tgt os k = some x → Sd07.symbol os x ≠ none) : (Sd07.placed os k).isNone = (tgt os k).isNone := by
  unfold Sd07.placed
  unfold tgt at hk ⊢
  cases e : Sd07.symbol os k with
  | none => rfl
  | some y =>
    rw [e] at hk
    by_cases h : y.binding = 0
    · simp [h]
    · simp only [h, if_false] at hk ⊢
      cases e2 : Sd07.named os y.name with
      | none => rfl
      | some k2 =>
        have z := hk k2 e2
        cases e3 : Sd07.symbol os k2 with
        | none => exact absurd e3 z
        | some y2 => simp [e3]
/-- the sections that relocations lead to -/
def ldr (os : List Object) (p : Nat) (rs : List Reloc) (sn : Nat) : List (Nat × Nat) := (rs.filter fun r => r.sec == sn).flatMap fun r => sOf os (tgt os (p, r.symbol))
def ldf (os : List Object) (x : Nat × Nat) : List (Nat × Nat) := match os[x.1]? with
  | none => []
  | some o => ldr os x.1 o.relocs x.2
theorem fm_flat {α β : Type} (f : α → Option β) : ∀ l : List α, l.filterMap f = l.flatMap fun a => (f a).toList
  | [] => rfl
  | a :: l => by
    rw [List.filterMap_cons, List.flatMap_cons, fm_flat f l]
    cases f a <;> rfl
theorem leads_eq (os : List Object) (x : Nat × Nat) : Sd07.leads os x = ldf os x := by
  unfold Sd07.leads ldf
  cases os[x.1]? with
  | none => rfl
  | some o =>
    unfold ldr
    dsimp only
    rw [fm_flat]
    congr 1
    funext r
    exact sec_placed os _
theorem sOf_le (os : List Object) (k : Option (Nat × Nat)) : (sOf os k).length ≤ 1 := by
  unfold sOf
  cases k with
  | none => exact Nat.zero_le _
  | some k =>
    dsimp only
    cases Sd07.symbol os k with
    | none => exact Nat.zero_le _
    | some y =>
      dsimp only
      generalize y.place = q
      cases q <;> simp
theorem ldr_le (os : List Object) (p : Nat) (rs : List Reloc) (sn : Nat) : (ldr os p rs sn).length ≤ (rs.filter fun r => r.sec == sn).length := by
  unfold ldr
  generalize rs.filter (fun r => r.sec == sn) = l
  induction l with
  | nil => exact Nat.le_refl _
  | cons a l ih =>
    rw [List.flatMap_cons, List.length_append, List.length_cons]
    have := sOf_le os (tgt os (p, a.symbol))
    omega
theorem ldr_snoc {os : List Object} {p : Nat} {rs : List Reloc} {r : Reloc} {sn : Nat} : ldr os p (rs ++ [r]) sn = ldr os p rs sn ++ if r.sec = sn then sOf os (tgt os (p, r.symbol)) else [] := by
  unfold ldr
  rw [List.filter_append, List.flatMap_append]
  congr 1
  by_cases h : r.sec = sn
  · simp [h]
  · simp [h]
/-! ### the measure -/
def rk (os : List Object) : List (Nat × Nat) := os.zipIdx.flatMap fun x => x.1.relocs.map fun r => (x.2, r.sec)
def meas (os : List Object) (done : List (Nat × Nat)) : Nat := ((rk os).filter fun k => !done.contains k).length
theorem sub_flatMap {α β : Type} (f : α → List β) : ∀ {l : List α} {a : α}, a ∈ l → (f a).Sublist (l.flatMap f)
  | b :: l, a, h => by
    rw [List.flatMap_cons]
    rcases List.mem_cons.mp h with e | h
    · rw [e]; exact List.sublist_append_left _ _
    · exact (sub_flatMap f h).trans (List.sublist_append_right _ _)
theorem ldf_le (os : List Object) (x : Nat × Nat) : (ldf os x).length ≤ ((rk os).filter fun k => k == x).length := by
  unfold ldf
  cases e : os[x.1]? with
  | none => exact Nat.zero_le _
  | some o =>
    refine Nat.le_trans (ldr_le ..) ?_
    have m : (o, x.1) ∈ os.zipIdx := List.mem_zipIdx_iff_getElem?.mpr e
    have s := sub_flatMap (fun (y : Object × Nat) => y.1.relocs.map fun r => (y.2, r.sec)) m
    have s2 := (s.filter fun k => k == x).length_le
    refine Nat.le_trans (Nat.le_of_eq ?_) s2
    dsimp only
    rw [List.filter_map, List.length_map]
    congr 1
    refine List.filter_congr fun r _ => ?_
    show (r.sec == x.2) = ((x.1, r.sec) == x)
    by_cases h : r.sec = x.2
    · rw [h]; simp
    · have z : (x.1, r.sec) ≠ x := fun z => h (congrArg Prod.snd z)
      rw [beq_eq_false_iff_ne.mpr h, beq_eq_false_iff_ne.mpr z]
theorem cnt {x : Nat × Nat} {done : List (Nat × Nat)} (hx : ¬ done.contains x = true) : ∀ L : List (Nat × Nat), (L.filter fun k => !(x :: done).contains k).length + (L.filter fun k => k == x).length = (L.filter fun k => !done.contains k).length
  | [] => rfl
  | a :: L => by
    have ih := cnt hx L
    rw [List.filter_cons, List.filter_cons, List.filter_cons]
    by_cases e : a = x
    · subst e
      have h1 : (!(a :: done).contains a) = false := by simp
      have h2 : (!done.contains a) = true := by simpa using hx
      have h3 : (a == a) = true := beq_self_eq_true a
      rw [if_neg (by rw [h1]; exact Bool.false_ne_true), if_pos h2, if_pos h3, List.length_cons, List.length_cons]
      omega
    · have h1 : (!(x :: done).contains a) = !done.contains a := by simp [e]
      have h2 : (a == x) = false := by simp [e]
      rw [h1, if_neg (show ¬ (a == x) = true by rw [h2]; exact Bool.false_ne_true)]
      by_cases q : (!done.contains a) = true
      · rw [if_pos q, if_pos q, List.length_cons, List.length_cons]; omega
      · rw [if_neg q, if_neg q]; exact ih
theorem meas_cons {os : List Object} {x : Nat × Nat} {done : List (Nat × Nat)} (hx : ¬ done.contains x = true) : meas os (x :: done) + (ldf os x).length ≤ meas os done := by
  have a := cnt hx (rk os)
  have b := ldf_le os x
  unfold meas
  omega
/-! ### the specification's walk -/
theorem spread_ok (os : List Object) : ∀ (f : Nat) (todo done : List (Nat × Nat)), todo.length + meas os done < f →
    (∀ x, x ∈ done → x ∈ Sd07.spread os f todo done) ∧ (∀ x, x ∈ todo → x ∈ Sd07.spread os f todo done) ∧
    ((∀ x, x ∈ done → ∀ y, y ∈ ldf os x → y ∈ done ∨ y ∈ todo) → ∀ x, x ∈ Sd07.spread os f todo done → ∀ y, y ∈ ldf os x → y ∈ Sd07.spread os f todo done) ∧
    ∀ S : Nat × Nat → Prop, (∀ x, x ∈ todo → S x) → (∀ x, x ∈ done → S x) → (∀ x, S x → ∀ y, y ∈ ldf os x → S y) → ∀ x, x ∈ Sd07.spread os f todo done → S x
  | 0, _, _, h => absurd h (Nat.not_lt_zero _)
  | f + 1, [], done, h => by
    unfold Sd07.spread
    exact ⟨fun x h => h, fun x h => by simp at h, fun c x hx y hy => (c x hx y hy).resolve_right (by simp), fun S _ h2 _ => h2⟩
  | f + 1, x :: r, done, h => by
    unfold Sd07.spread
    by_cases e : done.contains x = true
    · rw [if_pos e]
      have mx : x ∈ done := by simpa using e
      obtain ⟨a1, a2, a3, a4⟩ := spread_ok os f r done (by rw [List.length_cons] at h; omega)
      refine ⟨a1, fun y hy => ?_, fun c => a3 fun z hz y hy => ?_, fun S h1 h2 h3 => a4 S (fun y hy => h1 y (List.mem_cons_of_mem _ hy)) h2 h3⟩
      · rcases List.mem_cons.mp hy with q | q
        · rw [q]; exact a1 x mx
        · exact a2 y q
      · rcases c z hz y hy with q | q
        · exact .inl q
        · rcases List.mem_cons.mp q with q | q
          · rw [q]; exact .inl mx
          · exact .inr q
    · rw [if_neg e, leads_eq]
      have m := meas_cons (os := os) e
      obtain ⟨a1, a2, a3, a4⟩ := spread_ok os f (ldf os x ++ r) (x :: done) (by rw [List.length_append]; rw [List.length_cons] at h; omega)
      refine ⟨fun y hy => a1 y (List.mem_cons_of_mem _ hy), fun y hy => ?_, fun c => a3 fun z hz y hy => ?_, fun S h1 h2 h3 => a4 S (fun y hy => ?_) (fun y hy => ?_) h3⟩
      · rcases List.mem_cons.mp hy with q | q
        · rw [q]; exact a1 x (List.mem_cons_self ..)
        · exact a2 y (List.mem_append_right _ q)
      · rcases List.mem_cons.mp hz with q | q
        · rw [q] at hy; exact .inr (List.mem_append_left _ hy)
        · rcases c z q y hy with q2 | q2
          · exact .inl (List.mem_cons_of_mem _ q2)
          · rcases List.mem_cons.mp q2 with q3 | q3
            · rw [q3]; exact .inl (List.mem_cons_self ..)
            · exact .inr (List.mem_append_right _ q3)
      · rcases List.mem_append.mp hy with q | q
        · exact h3 x (h1 x (List.mem_cons_self ..)) y q
        · exact h1 y (List.mem_cons_of_mem _ q)
      · rcases List.mem_cons.mp hy with q | q
        · rw [q]; exact h1 x (List.mem_cons_self ..)
        · exact h2 y q
theorem marked_spec (os : List Object) : ((Sd07.sectionsOf os).filter fun x => x.2.keep).map (fun x => x.1) = nest (·.sections) cMark os := by
  unfold Sd07.sectionsOf nest inn
  rw [List.filter_flatMap, List.map_flatMap]
  congr 1
  funext x
  rw [filt_map]
  rfl
theorem rk_len (os : List Object) : (rk os).length = (os.map fun o => o.relocs.length).sum := by
  unfold rk
  rw [List.length_flatMap]
  have e : ∀ (l : List Object) (n : Nat), ((l.zipIdx n).map fun x => (x.1.relocs.map fun r => (x.2, r.sec)).length).sum = (l.map fun o => o.relocs.length).sum := by
    intro l
    induction l with
    | nil => intro n; rfl
    | cons a l ih =>
      intro n
      rw [List.zipIdx_cons, List.map_cons, List.map_cons, List.sum_cons, List.sum_cons, ih, List.length_map]
  exact e os 0
def fst_ (os : List Object) (root : Nat × Nat) : List (Nat × Nat) := nest (·.sections) cMark os ++ sOf os (tgt os root)
/-- kept: holds the first, is closed, and is the least so -/
theorem kept_ok (os : List Object) (root : Nat × Nat) : (∀ x, x ∈ fst_ os root → x ∈ Sd07.kept os root) ∧ (∀ x, x ∈ Sd07.kept os root → ∀ y, y ∈ ldf os x → y ∈ Sd07.kept os root) ∧
    ∀ S : Nat × Nat → Prop, (∀ x, x ∈ fst_ os root → S x) → (∀ x, S x → ∀ y, y ∈ ldf os x → S y) → ∀ x, x ∈ Sd07.kept os root → S x := by
  have e : Sd07.kept os root = Sd07.spread os ((fst_ os root).length + (os.map fun o => o.relocs.length).sum + 1) (fst_ os root) [] := by
    unfold Sd07.kept fst_
    rw [marked_spec, sec_placed]
  rw [e]
  have m : meas os [] = (os.map fun o => o.relocs.length).sum := by
    unfold meas
    rw [← rk_len]
    simp
  obtain ⟨a1, a2, a3, a4⟩ := spread_ok os ((fst_ os root).length + (os.map fun o => o.relocs.length).sum + 1) (fst_ os root) [] (by omega)
  exact ⟨a2, a3 fun x hx => by simp at hx, fun S h1 h3 => a4 S h1 (fun x hx => by simp at hx) h3⟩
theorem tgt_named {os : List Object} {t : List Nat} {k : Nat × Nat} (h : Sd07.named os t = some k) : tgt os k = some k ∧ nm os k = t ∧ ∃ y o, Sd07.symbol os k = some y ∧ y.place ≠ .none ∧ os[k.1]? = some o ∧ y ∈ o.symbols := by
  have h0 := h
  rw [named_fnd] at h
  unfold fnd at h
  have m := List.mem_of_find?_eq_some h
  have e : nm os k = t := by simpa using List.find?_some h
  have main : ∀ b, b ≠ 0 → k ∈ gvs os b → tgt os k = some k ∧ nm os k = t ∧ ∃ y o, Sd07.symbol os k = some y ∧ y.place ≠ .none ∧ os[k.1]? = some o ∧ y ∈ o.symbols := by
    intro b hb mk
    obtain ⟨y, e1, e2, e3, e4⟩ := gvs_sym mk
    obtain ⟨o, y', g1, g2, _⟩ := nest_mem.mp mk
    have ey : y' = y := by
      unfold Sd07.symbol at e1
      rw [g1] at e1
      exact Option.some.inj (g2.symm.trans e1)
    subst ey
    refine ⟨?_, e, y', o, e1, e3, g1, List.mem_of_getElem? g2⟩
    unfold tgt
    rw [e1]
    dsimp only
    rw [if_neg (by omega), ← e2, e]
    exact h0
  rcases List.mem_append.mp m with q | q
  · exact main 1 (by decide) q
  · exact main 2 (by decide) q
theorem tgt_placed {os : List Object} (wf : WF os) (k : Nat × Nat) : Placed os (tgt os k) := by
  intro x hx
  unfold tgt at hx
  cases e : Sd07.symbol os k with
  | none => rw [e] at hx; cases hx
  | some y =>
    rw [e] at hx
    dsimp only at hx
    by_cases h : y.binding = 0
    · rw [if_pos h] at hx
      have ex : k = x := Option.some.inj hx
      subst ex
      unfold Sd07.symbol at e
      cases eo : os[k.1]? with
      | none => rw [eo] at e; cases e
      | some o =>
        rw [eo] at e
        have my := List.mem_of_getElem? e
        refine ⟨y, o, ?_, ((wf.at eo).sym y my).2.1 h, rfl, my⟩
        unfold Sd07.symbol
        rw [eo]; exact e
    · rw [if_neg h] at hx
      exact (tgt_named hx).2.2
end Jo
set_option Elab.async false
set_option linter.all false
set_option maxRecDepth 100000
set_option maxHeartbeats 2000000
/-! WHAT LEADS WHERE, row by row; the relocations that count. -/
namespace Jo
open L2 (V Key valV Hp HO Same upd upd_ne upd_same)
open Sd07 (Object Section Symbol Reloc)
def ldp (os : List Object) (i j : Nat) (x : Nat × Nat) : List (Nat × Nat) := match os[x.1]? with
  | none => []
  | some o => if x.1 < i then ldr os x.1 o.relocs x.2 else if x.1 = i then ldr os x.1 (o.relocs.take j) x.2 else []
theorem ldr_nil (os : List Object) (p sn : Nat) : ldr os p [] sn = [] := rfl
theorem ldp_zero (os : List Object) (x : Nat × Nat) : ldp os 0 0 x = [] := by
  unfold ldp
  cases os[x.1]? with
  | none => rfl
  | some o =>
    dsimp only
    rw [if_neg (Nat.not_lt_zero _), List.take_zero, ldr_nil]
    split <;> rfl
theorem ldp_step {os : List Object} {i j : Nat} {o : Object} {r : Reloc} (ho : os[i]? = some o) (hr : o.relocs[j]? = some r) (x : Nat × Nat) : ldp os i (j + 1) x = ldp os i j x ++ if (i, r.sec) = x then sOf os (tgt os (i, r.symbol)) else [] := by
  unfold ldp
  by_cases e : x.1 = i
  · rw [e, ho]
    dsimp only
    rw [if_neg (Nat.lt_irrefl _), if_pos rfl, if_neg (Nat.lt_irrefl _), if_pos rfl, take_snoc hr, ldr_snoc]
    congr 1
    by_cases q : r.sec = x.2
    · rw [if_pos q, if_pos (Prod.ext e.symm q)]
    · rw [if_neg q, if_neg fun z => q (congrArg Prod.snd z)]
  · rw [if_neg (fun z => e (congrArg Prod.fst z).symm), List.append_nil]
    cases os[x.1]? with
    | none => rfl
    | some o' => dsimp only; rw [if_neg e, if_neg e]
theorem ldp_next {os : List Object} {i : Nat} {o : Object} (ho : os[i]? = some o) (x : Nat × Nat) : ldp os (i + 1) 0 x = ldp os i o.relocs.length x := by
  unfold ldp
  by_cases e : x.1 = i
  · rw [e, ho]
    dsimp only
    rw [if_pos (Nat.lt_succ_self _), if_neg (Nat.lt_irrefl _), if_pos rfl, List.take_length]
  · cases os[x.1]? with
    | none => rfl
    | some o' =>
      dsimp only
      rw [if_neg e]
      by_cases q : x.1 < i
      · rw [if_pos q, if_pos (by omega)]
      · rw [if_neg q, if_neg (by omega)]
        rw [List.take_zero, ldr_nil]
        split <;> rfl
theorem ldp_all (os : List Object) (x : Nat × Nat) : ldp os os.length 0 x = ldf os x := by
  unfold ldp ldf
  cases e : os[x.1]? with
  | none => rfl
  | some o =>
    dsimp only
    rw [if_pos (List.getElem?_eq_some_iff.mp e).1]
theorem ldp_le {os : List Object} (wf : WF os) (i j : Nat) (x : Nat × Nat) : (ldp os i j x).length ≤ 1024 := by
  unfold ldp
  cases e : os[x.1]? with
  | none => exact Nat.zero_le _
  | some o =>
    dsimp only
    have nr := (wf.at e).nr
    split
    · exact Nat.le_trans (ldr_le ..) (Nat.le_trans (List.length_filter_le _ _) nr)
    · split
      · refine Nat.le_trans (ldr_le ..) (Nat.le_trans (List.length_filter_le _ _) ?_)
        rw [List.length_take]; omega
      · exact Nat.zero_le _
/-! ### the dict of what leads where -/
structure LeadsIs (H0 H : Hp) (kvs : List (List Key × V)) (f : Nat × Nat → List (Nat × Nat)) : Prop where
  at_ : ∀ x, (valV kvs (pk x) = none ∧ f x = []) ∨ ∃ a zs, valV kvs (pk x) = some (.ref a) ∧ H0 a = none ∧ H a = some (.lst zs) ∧ Al (PairAt H) zs (f x)
  inj : ∀ x y a, valV kvs (pk x) = some (.ref a) → valV kvs (pk y) = some (.ref a) → x = y
def LeadsAt (H : Hp) (d : Nat) (f : Nat × Nat → List (Nat × Nat)) : Prop := ∃ kvs, H d = some (.dT kvs) ∧ ∀ x, (valV kvs (pk x) = none ∧ f x = []) ∨ ∃ a zs, valV kvs (pk x) = some (.ref a) ∧ H a = some (.lst zs) ∧ Al (PairAt H) zs (f x)
theorem LeadsAt.same {H H' : Hp} {d : Nat} {f : Nat × Nat → List (Nat × Nat)} (s : Same H H') (h : LeadsAt H d f) : LeadsAt H' d f := by
  obtain ⟨kvs, h1, h2⟩ := h
  refine ⟨kvs, s _ _ h1, fun x => ?_⟩
  rcases h2 x with q | ⟨a, zs, q1, q2, q3⟩
  · exact .inl q
  · exact .inr ⟨a, zs, q1, s _ _ q2, q3.mono fun _ _ g => g.same s⟩
section
variable {H0 H H1 : Hp} {kvs : List (List Key × V)} {f g : Nat × Nat → List (Nat × Nat)}
theorem LeadsIs.congr (L : LeadsIs H0 H kvs f) (e : ∀ x, f x = g x) : LeadsIs H0 H kvs g := by
  have : f = g := funext e
  subst this
  exact L
theorem LeadsIs.same (s : Same H H1) (L : LeadsIs H0 H kvs f) : LeadsIs H0 H1 kvs f := by
  refine ⟨fun x => ?_, L.inj⟩
  rcases L.at_ x with q | ⟨a, zs, q1, q0, q2, q3⟩
  · exact .inl q
  · exact .inr ⟨a, zs, q1, q0, s _ _ q2, q3.mono fun _ _ g => g.same s⟩
theorem LeadsIs.put {d : Nat} {u o : HO} (hd : H d = some u) (n1 : ∀ xs, u ≠ .tup xs) (n2 : ∀ xs, u ≠ .lst xs) (L : LeadsIs H0 H kvs f) : LeadsIs H0 (upd H d o) kvs f := by
  refine ⟨fun x => ?_, L.inj⟩
  rcases L.at_ x with q | ⟨a, zs, q1, q0, q2, q3⟩
  · exact .inl q
  · refine .inr ⟨a, zs, q1, q0, ?_, al_put q3 hd n1⟩
    rw [upd_ne (L2.ne_of q2 hd fun z => n2 _ z.symm)]; exact q2
theorem LeadsIs.new {x : Nat × Nat} {a : Nat} (L : LeadsIs H0 H kvs f) (hn : valV kvs (pk x) = none) (h0 : H0 a = none) (ha : H a = none) (s : Same H H1) (h1 : H1 a = some (.lst [])) : LeadsIs H0 H1 (kvs ++ [(pk x, .ref a)]) f := by
  have L1 := L.same s
  have ne : ∀ y b, valV kvs (pk y) = some (.ref b) → b ≠ a := fun y b e z => by
    rcases L.at_ y with q | ⟨a', zs, q1, q0, q2, q3⟩
    · rw [q.1] at e; cases e
    · rw [q1] at e; cases e
      rw [z, ha] at q2; cases q2
  have key : ∀ y, valV (kvs ++ [(pk x, V.ref a)]) (pk y) = (valV kvs (pk y)).or (if x = y then some (V.ref a) else none) := fun y => by
    rw [valV_snoc]
    by_cases e : x = y
    · rw [if_pos (by rw [e]), if_pos e]
    · rw [if_neg fun z => e (pk_inj z), if_neg e]
  refine ⟨fun y => ?_, fun y z b h1 h2 => ?_⟩
  · rw [key]
    rcases L1.at_ y with q | ⟨b, zs, q1, q0, q2, q3⟩
    · by_cases e : x = y
      · rw [q.1, if_pos e]
        exact .inr ⟨a, [], rfl, h0, h1, by rw [q.2]; exact Al.nil⟩
      · rw [q.1, if_neg e]
        exact .inl ⟨rfl, q.2⟩
    · exact .inr ⟨b, zs, by rw [q1]; rfl, q0, q2, q3⟩
  · rw [key] at h1 h2
    by_cases e1 : x = y
    · by_cases e2 : x = z
      · exact e1.symm.trans e2
      · subst e1
        rw [hn, if_pos rfl] at h1
        rw [if_neg e2, Option.or_none] at h2
        cases h1
        exact absurd rfl (ne z a h2)
    · rw [if_neg e1, Option.or_none] at h1
      by_cases e2 : x = z
      · subst e2
        rw [hn, if_pos rfl] at h2
        cases h2
        exact absurd rfl (ne y a h1)
      · rw [if_neg e2, Option.or_none] at h2
        exact L.inj y z b h1 h2
theorem LeadsIs.ext {x : Nat × Nat} {a : Nat} {zs ws : List V} {more : List (Nat × Nat)} (L : LeadsIs H0 H kvs f) (hv : valV kvs (pk x) = some (.ref a)) (hz : H a = some (.lst zs)) (s : Same H H1) (al : Al (PairAt H1) ws more) :
    LeadsIs H0 (upd H1 a (.lst (zs ++ ws))) kvs (fun y => f y ++ if x = y then more else []) := by
  have L1 := L.same s
  have ha := s _ _ hz
  have nt : ∀ xs, HO.lst zs ≠ .tup xs := fun _ z => by cases z
  refine ⟨fun y => ?_, L.inj⟩
  rcases L1.at_ y with q | ⟨b, zs', q1, q0, q2, q3⟩
  · have e : x ≠ y := fun z => by rw [z, q.1] at hv; cases hv
    refine .inl ⟨q.1, ?_⟩
    rw [q.2, if_neg e]; rfl
  · by_cases e : x = y
    · subst e
      rw [hv] at q1
      cases q1
      rw [ha] at q2
      cases q2
      refine .inr ⟨a, _, hv, q0, upd_same, ?_⟩
      rw [if_pos rfl]
      exact Al.append (al_put q3 ha nt) (al_put al ha nt)
    · have ne : b ≠ a := fun z => e (L.inj x y a hv (by rw [q1, z]))
      refine .inr ⟨b, zs', q1, q0, by rw [upd_ne ne]; exact q2, ?_⟩
      rw [if_neg e, List.append_nil]
      exact al_put q3 ha nt
theorem LeadsIs.out {d : Nat} (L : LeadsIs H0 H kvs f) (h : H d = some (.dT kvs)) : LeadsAt H d f := by
  refine ⟨kvs, h, fun x => ?_⟩
  rcases L.at_ x with q | ⟨a, zs, q1, q0, q2, q3⟩
  · exact .inl q
  · exact .inr ⟨a, zs, q1, q2, q3⟩
end
/-! ### the relocations that count -/
/-- the relocation of that object and number -/
def rlc (os : List Object) (k : Nat × Nat) : Option Reloc := match os[k.1]? with
  | none => none
  | some o => o.relocs[k.2]?
def rls (os : List Object) (kf : Nat × Nat → Bool) : List (Nat × Nat) := nest (·.relocs) (cRel kf) os
theorem rls_mem {os : List Object} {kf : Nat × Nat → Bool} {k : Nat × Nat} (h : k ∈ rls os kf) : ∃ o r, os[k.1]? = some o ∧ o.relocs[k.2]? = some r ∧ kf (k.1, r.sec) = true ∧ rlc os k = some r := by
  obtain ⟨o, r, h1, h2, h3⟩ := nest_mem.mp h
  refine ⟨o, r, h1, h2, h3, ?_⟩
  unfold rlc
  rw [h1]; exact h2
theorem rls_bd {os : List Object} (wf : WF os) (kf : Nat × Nat → Bool) : (rls os kf).length ≤ 32768 := by
  have z := nest_le (th := (·.relocs)) (c := cRel kf) (m := 1024) os (fun o ho => (wf.all o ho).nr) os.length
  rw [List.take_length] at z
  have := wf.n
  have : os.length * 1024 ≤ 32 * 1024 := Nat.mul_le_mul_right _ this
  exact Nat.le_trans z this
theorem needed_map (os : List Object) (keep : List (Nat × Nat)) : (Sd07.needed os keep).map (fun y => (y.1, y.2.1)) = rls os (fun x => keep.contains x) := by
  unfold Sd07.needed rls nest inn
  rw [List.map_flatMap]
  congr 1
  funext x
  rw [List.map_filterMap]
  congr 1
  funext y
  unfold cRel
  by_cases h : keep.contains (x.2, y.1.sec) = true
  · simp only [h, if_true]; rfl
  · simp only [h, if_false]; rfl
theorem needed_rlc {os : List Object} {keep : List (Nat × Nat)} {y : Nat × Nat × Reloc} (h : y ∈ Sd07.needed os keep) : rlc os (y.1, y.2.1) = some y.2.2 := by
  unfold Sd07.needed at h
  obtain ⟨x, hx, h2⟩ := List.mem_flatMap.mp h
  obtain ⟨z, hz, h3⟩ := List.mem_filterMap.mp h2
  have e1 := List.mem_zipIdx_iff_getElem?.mp hx
  have e2 := List.mem_zipIdx_iff_getElem?.mp hz
  split at h3
  · cases h3
    unfold rlc
    rw [e1]; exact e2
  · cases h3
/-- a search among the relocations, by places -/
theorem needed_find {os : List Object} {keep : List (Nat × Nat)} (p : Nat × Nat × Reloc → Bool) (q : Nat × Nat → Bool) (h : ∀ k r, rlc os k = some r → p (k.1, k.2, r) = q k) :
    ((Sd07.needed os keep).find? p).map (fun y => (y.1, y.2.1)) = (rls os fun x => keep.contains x).find? q := by
  rw [← needed_map]
  exact find_map2 _ _ _ _ fun y hy => h (y.1, y.2.1) y.2.2 (needed_rlc hy)
theorem bne_dec {α : Type} [BEq α] [LawfulBEq α] [DecidableEq α] (a b : α) : (a != b) = decide (a ≠ b) := by
  by_cases h : a = b
  · simp [h]
  · simp [h]
/-- a symbol that stands for nothing, and is not weak -/
def unb (os : List Object) (k : Nat × Nat) : Bool := match rlc os k with
  | none => false
  | some r => (tgt os (k.1, r.symbol)).isNone && decide (((Sd07.symbol os (k.1, r.symbol)).map fun y => y.binding) ≠ some 2)
theorem lost_unb {os : List Object} (wf : WF os) {k : Nat × Nat} {r : Reloc} (h : rlc os k = some r) : Sd07.lost os (k.1, k.2, r) = unb os k := by
  unfold Sd07.lost unb
  rw [h]
  dsimp only
  rw [placed_none os _ fun x hx => ?_]
  · congr 1
    exact bne_dec (α := Option Nat) _ _
  · obtain ⟨y, o, e, _⟩ := tgt_placed wf _ x hx
    rw [e]; simp
end Jo
set_option Elab.async false
set_option linter.all false
set_option maxRecDepth 100000
set_option maxHeartbeats 2000000
namespace Jo
open PySem PySem.Spec L2 JX
open PyProof.Rows hiding St frameOf passOn
open Sd07 (Object Section Symbol Reloc)
abbrev mExt {X : Cx} : MtR X "list.extend" rExtend := mt_extend
abbrev mPop {X : Cx} : MtR X "list.pop" rPop := mt_pop
section
variable {P : Program} {w : World} {K : PySem.W.Frag} {mg : Str → Option Value} {base : Heap}
/-! ### leads -/
def sp_leads (K : PySem.W.Frag) : Sp := fun vs H Q _ => ∃ l t os, vs = [.ref l, .ref t] ∧ PartsAt K H l os ∧ WF os ∧ TgtsAt os H t ∧ ∀ H' d, Same H H' → H d = none → LeadsAt H' d (ldf os) → Q (.ref d) H'
theorem sc_leads : FnScope ["parts", "targets", "found", "part_number", "part", "relocation", "led"] ["parts", "targets"] (defScope (top 43)) := ⟨rfl, rfl, rfl, by decide +kernel, rfl, by decide +kernel, by decide +kernel⟩
theorem ok_leads (T : Glob K mg) (D : DefIn K mg "leads" (top 43) ["parts", "targets"]) (G : Cal P w K mg base CX0 2 "sections_of" ["parts", "target"] (sp_sections_of K)) : Cal P w K mg base CX0 3 "leads" ["parts", "targets"] (sp_leads K) := by
  refine D.ok sc_leads (fun vs H Q E h => ?_) (fun f cdv A outer s H vs Q E hr h => ?_)
  · obtain ⟨l, t, os, rfl, _⟩ := h
    rfl
  · obtain ⟨l, t, os, rfl, hl0, wf, ht, q⟩ := h
    obtain ⟨xs, hl, al⟩ := id hl0
    have hu := hu_of hr
    have zl : sizeLine = 16777216 := rfl
    refine ⟨_, pss_cons (ps_set (i := 2) sc_leads.nd rfl (Or.inl rfl) pe_dnewT)
      (pss_cons (ps_for PassesOwn.never rfl (pi_enum rfl T.enum (pa_cons (pv 0) pa_nil)) (pg_tup rfl (pgs_cons (pg_name (i := 3) sc_leads.nd rfl (Or.inl rfl)) (pgs_cons (pg_name (i := 4) sc_leads.nd rfl (Or.inl rfl)) pgs_nil)))
        (pss_one (ps_for PassesOwn.never rfl (pi_list (pe_f (pv 4))) (pg_name (i := 5) sc_leads.nd rfl (Or.inl rfl))
          (pss_cons (ps_set (i := 6) sc_leads.nd rfl (Or.inl rfl) (pe_dsetdef hu (pv 2) (pe_tup (pa_cons (pv 3) (pa_cons (pe_f (pv 5)) pa_nil))) (pe_lst pa_nil) ⟨rfl, rfl, rfl, rfl⟩))
          (pss_one (ps_expr (pe_bm PySem.F.plainAttrs_list PySem.F.slot_list_extend PySem.F.type_list_extend mExt (pv 6)
            (pa_cons (pe_cal G hr pass0 (pa_cons (pv 0) (pa_cons (pe_ix ix_list (pe_ix ix_list (pv 1) (pv 3) (fun _ _ => rfl)) (pe_f (pv 5)) (fun _ _ => rfl)) pa_nil))) pa_nil))))))))
      (pss_one (ps_ret (pv 2)))), ?_⟩
    intro d hd
    refine ⟨_, rfl, l, xs, rfl, SqL.of (Same.upd hd _ _ hl), for_enum (K := K) (a := l) (xs := xs) (i1 := 3) (i2 := 4) (fun i σ H' => ∃ v3 v4 v5 v6 kvs, σ = [some (.ref l), some (.ref t), some (.ref d), v3, v4, v5, v6] ∧ Same H H' ∧ H' d = some (.dT kvs) ∧ kvs.length ≤ i * 1024 ∧ LeadsIs H H' kvs (ldp os i 0))
      ⟨none, none, none, none, [], rfl, Same.upd hd, upd_same, Nat.zero_le _, ⟨fun x => .inl ⟨rfl, ldp_zero os x⟩, fun x y a e => by cases e⟩⟩ (fun i σ H' _ ⟨_, _, _, _, _, _, s1, _⟩ => SqL.of (s1 _ _ hl)) ?_ ?_⟩
    · rintro i x σ H' tt hx ⟨v3, v4, v5, v6, kvs, rfl, s1, hd1, hn1, L1⟩ htt
      obtain ⟨o, a, ho, rfl, g⟩ := al.get hx
      obtain ⟨ly, ys, f1, f2, f3⟩ := g.relocs
      have wo := wf.at ho
      have hi := (List.getElem?_eq_some_iff.mp ho).1
      have wn := wf.n
      have s2 : Same H (upd H' tt (.tup [.int (i : Nat), .ref a])) := s1.trans (Same.upd htt)
      refine ⟨_, rfl, a, _, rfl, f1.same s2, ly, rfl, ⟨_, SqL.of (s2 _ _ f2)⟩, for_list (K := K) (a := ly) (xs := ys) (fun j σ H3 => ∃ v5 v6 kvs, σ = [some (.ref l), some (.ref t), some (.ref d), some (.int (i : Nat)), some (.ref a), v5, v6] ∧ Same H H3 ∧ H3 d = some (.dT kvs) ∧ kvs.length ≤ i * 1024 + j ∧ LeadsIs H H3 kvs (ldp os i j))
        ⟨v5, v6, kvs, rfl, s2, Same.upd htt _ _ hd1, hn1, L1.same (Same.upd htt)⟩ (fun j σ H3 _ ⟨_, _, _, _, s3, _⟩ => SqL.of (s3 _ _ f2)) ?_ ?_⟩
      · rintro j x σ H3 hx3 ⟨v5, v6, kvs, rfl, s3, hd3, hn3, L3⟩
        obtain ⟨r, c, hr3, rfl, gr⟩ := f3.get hx3
        have gr := gr.same s3
        have hj := (List.getElem?_eq_some_iff.mp hr3).1
        have nr := wo.nr
        have wr := wo.rel r (List.mem_of_getElem? hr3)
        refine ⟨_, rfl, d, rfl, .inr ⟨kvs, .inl hd3⟩, _, rfl, _, rfl, c, _, rfl, gr.sec, (by show 2 ≤ sizeLine; decide), fun u hu0 => ⟨Nat.zero_le _, fun e he0 => ?_⟩⟩
        have s4 : Same H3 (upd (upd H3 u (.tup (pr (i, r.sec)))) e (.lst [])) := (Same.upd hu0).trans (Same.upd he0)
        have he3 : H3 e = none := (Same.upd hu0).free he0
        have ue : u ≠ e := fun z => by rw [z, upd_same] at he0; cases he0
        have hu4 : (upd (upd H3 u (.tup (pr (i, r.sec)))) e (.lst [])) u = some (.tup (pr (i, r.sec))) := by rw [upd_ne ue, upd_same]
        have he4 : (upd (upd H3 u (.tup (pr (i, r.sec)))) e (.lst [])) e = some (.lst []) := upd_same
        generalize upd (upd H3 u (.tup (pr (i, r.sec)))) e (.lst []) = H4 at s4 hu4 he4
        have hd4 := s4 _ _ hd3
        have s04 := s3.trans s4
        have bk : kvs.length < sizeLine := by
          have : i * 1024 ≤ 31 * 1024 := Nat.mul_le_mul_right _ (by omega)
          omega
        obtain ⟨rows, row, yy, tv, t1, t2, t3, t4, t5⟩ := (ht.same s04).get (k := (i, r.symbol)) ho wr.1
        refine ⟨kvs, pk (i, r.sec), u, hd4, rfl, hu4, bk, fun v hv => ?_, fun hn => ?_⟩
        · rcases (L3.same s4).at_ (i, r.sec) with z | ⟨b, zs, b1, b0, b2, b3⟩
          · rw [z.1] at hv; cases hv
          · rw [b1] at hv
            cases hv
            refine ⟨_, rfl, .inl ⟨rfl, _, SqL.of b2⟩, _, rfl, _, rfl, _, rfl, t, _, _, _, rfl, rfl, SqL.of t1, atI_nat t2, _, rfl, c, _, rfl, (gr.same s4).symbol, row, _, _, _, rfl, rfl, SqL.of t3, atI_nat t4,
              l, tv, os, tgt os (i, r.symbol), rfl, hl0.same s04, wf, t5, tgt_placed wf _, fun H5 rr ws s5 hr05 hr5 al5 => ?_⟩
            have bz : zs.length ≤ 1024 := by rw [b3.1]; exact ldp_le wf _ _ _
            have bw : ws.length ≤ 1 := by rw [al5.1]; exact sOf_le _ _
            refine ⟨b, rr, zs, ws, rfl, rfl, s5 _ _ b2, hr5, by omega, ?_⟩
            have nbd : d ≠ b := ne_of hd4 b2 (by intro z; cases z)
            exact ⟨_, _, kvs, rfl, Same.put (s04.trans s5) b0, by rw [upd_ne nbd]; exact s5 _ _ hd4, by omega, ((L3.same s4).ext b1 b2 s5 al5).congr fun x => (ldp_step ho hr3 x).symm⟩
        · have he0' : H e = none := s3.free he3
          have hed : e ≠ d := fun z => by rw [z, hd4] at he4; cases he4
          have L4 : LeadsIs H (upd H4 d (.dT (kvs ++ [(pk (i, r.sec), .ref e)]))) (kvs ++ [(pk (i, r.sec), .ref e)]) (ldp os i j) := (L3.new hn he0' he3 s4 he4).put hd4 (fun _ z => by cases z) (fun _ z => by cases z)
          have b1 : valV (kvs ++ [(pk (i, r.sec), V.ref e)]) (pk (i, r.sec)) = some (.ref e) := by rw [valV_snoc, hn, if_pos rfl]; rfl
          have s05 : Same H (upd H4 d (.dT (kvs ++ [(pk (i, r.sec), .ref e)]))) := Same.put s04 hd
          have hd5 : (upd H4 d (.dT (kvs ++ [(pk (i, r.sec), .ref e)]))) d = some (.dT (kvs ++ [(pk (i, r.sec), .ref e)])) := upd_same
          have he5 : (upd H4 d (.dT (kvs ++ [(pk (i, r.sec), .ref e)]))) e = some (.lst []) := by rw [upd_ne hed]; exact he4
          generalize upd H4 d (.dT (kvs ++ [(pk (i, r.sec), .ref e)])) = H5 at L4 s05 hd5 he5
          obtain ⟨rows, row, yy, tv, t1, t2, t3, t4, t5⟩ := (ht.same s05).get (k := (i, r.symbol)) ho wr.1
          refine ⟨_, rfl, .inl ⟨rfl, _, SqL.of he5⟩, _, rfl, _, rfl, _, rfl, t, _, _, _, rfl, rfl, SqL.of t1, atI_nat t2, _, rfl, c, _, rfl, ?_, row, _, _, _, rfl, rfl, SqL.of t3, atI_nat t4,
              l, tv, os, tgt os (i, r.symbol), rfl, hl0.same s05, wf, t5, tgt_placed wf _, fun H6 rr ws s6 hr06 hr6 al6 => ?_⟩
          · obtain ⟨c', e1, g1⟩ := f3.2 _ _ hr3
            rw [hx3] at e1
            cases e1
            exact (g1.same s05).symbol
          have bw : ws.length ≤ 1 := by rw [al6.1]; exact sOf_le _ _
          refine ⟨e, rr, [], ws, rfl, rfl, s6 _ _ he5, hr6, by simp only [List.length_nil]; omega, ?_⟩
          exact ⟨_, _, _, rfl, Same.put (s05.trans s6) he0', by rw [upd_ne hed.symm]; exact s6 _ _ hd5, by rw [List.length_append]; simp only [List.length_cons, List.length_nil]; omega, (L4.ext b1 he5 s6 al6).congr fun x => (ldp_step ho hr3 x).symm⟩
      · rintro σ H3 ⟨v5, v6, kvs, rfl, s3, hd3, hn3, L3⟩
        have nr := wo.nr
        have e : ys.length = o.relocs.length := f3.1
        refine ⟨_, _, _, _, kvs, rfl, s3, hd3, by omega, ?_⟩
        rw [e] at L3
        exact L3.congr fun x => (ldp_next ho x).symm
    · rintro σ H' ⟨v3, v4, v5, v6, kvs, rfl, s1, hd1, hn1, L1⟩
      refine ⟨_, rfl, q H' d s1 hd ?_⟩
      rw [al.1] at L1
      exact (L1.congr (ldp_all os)).out hd1
end
end Jo
set_option Elab.async false
set_option linter.all false
set_option maxRecDepth 100000
set_option maxHeartbeats 2000000
namespace Jo
open PySem PySem.Spec L2 JX
open PyProof.Rows hiding St frameOf passOn
open Sd07 (Object Section Symbol Reloc)
theorem Al.unsnoc {α : Type} {G : Addr → α → Prop} {zs : List V} {ts : List α} {x : α} (h : Al G zs (ts ++ [x])) : ∃ us a, zs = us ++ [V.ref a] ∧ Al G us ts ∧ G a x := by
  have e : (ts ++ [x])[ts.length]? = some x := by simp
  obtain ⟨a, e1, g⟩ := h.2 _ _ e
  have hl := h.1
  rw [List.length_append, List.length_singleton] at hl
  have ez : zs = zs.take ts.length ++ [V.ref a] := by
    have z := take_snoc e1
    rw [← z, take_all (by omega)]
  refine ⟨zs.take ts.length, a, ez, ⟨by rw [List.length_take]; omega, fun i o e2 => ?_⟩, g⟩
  have hi := (List.getElem?_eq_some_iff.mp e2).1
  obtain ⟨b, e3, g3⟩ := h.2 i o (by rw [List.getElem?_append_left hi]; exact e2)
  exact ⟨b, by rw [List.getElem?_take_of_lt hi]; exact e3, g3⟩
theorem sum_le (os : List Object) (h : ∀ o ∈ os, o.relocs.length ≤ 1024) : (os.map fun o => o.relocs.length).sum ≤ os.length * 1024 := by
  induction os with
  | nil => simp
  | cons a l ih =>
    rw [List.map_cons, List.sum_cons, List.length_cons, Nat.succ_mul]
    have := h a (List.mem_cons_self ..)
    have := ih fun o ho => h o (List.mem_cons_of_mem _ ho)
    omega
theorem meas_nil (os : List Object) : meas os [] = (os.map fun o => o.relocs.length).sum := by
  unfold meas
  rw [← rk_len]
  simp
theorem pend_bd {os : List Object} (wf : WF os) (root : Nat × Nat) : (fst_ os root).length + meas os [] ≤ 40000 := by
  rw [meas_nil]
  have a := sum_le os fun o ho => (wf.all o ho).nr
  have b := nest_le (th := (·.sections)) (c := cMark) (m := 64) os (fun o ho => (wf.all o ho).ns) os.length
  rw [List.take_length] at b
  have c := sOf_le os (tgt os root)
  have n := wf.n
  unfold fst_
  rw [List.length_append]
  omega
def Pend (H1 : Hp) (os : List Object) (root : Nat × Nat) (l t : Addr) (rv : V) (ld p kd : Addr) (m : Nat) (σ : St) (H' : Hp) : Prop := ∃ v6 todo zs done kvs, σ = [some (.ref l), some (.ref t), some rv, some (.ref ld), some (.ref p), some (.ref kd), v6] ∧ Same H1 H' ∧
  H' p = some (.lst zs) ∧ Al (PairAt H') zs todo ∧ H' kd = some (.dT kvs) ∧ (∀ x, (valV kvs (pk x)).isSome = done.contains x) ∧ m = todo.length + meas os done ∧ kvs.length + m ≤ 40000 ∧
  (∀ x, x ∈ fst_ os root → x ∈ done ∨ x ∈ todo) ∧ (∀ x, x ∈ done → ∀ y, y ∈ ldf os x → y ∈ done ∨ y ∈ todo) ∧ (∀ x, x ∈ done → x ∈ Sd07.kept os root) ∧ ∀ x, x ∈ todo → x ∈ Sd07.kept os root
section
variable {P : Program} {w : World} {K : PySem.W.Frag} {mg : Str → Option Value} {base : Heap}
/-! ### kept_sections -/
def sp_keep (K : PySem.W.Frag) : Sp := fun vs H Q _ => ∃ l t v os root, vs = [.ref l, .ref t, v] ∧ PartsAt K H l os ∧ WF os ∧ TgtsAt os H t ∧ TgtV H v (some root) ∧ tgt os root = some root ∧ ∀ H' d, Same H H' → KeptAt H' d (fun x => (Sd07.kept os root).contains x) → Q (.ref d) H'
theorem sc_keep : FnScope ["parts", "targets", "root_symbol", "led_from", "pending", "kept", "section"] ["parts", "targets", "root_symbol"] (defScope (top 44)) := ⟨rfl, rfl, rfl, by decide +kernel, rfl, by decide +kernel, by decide +kernel⟩
theorem ok_keep (T : Glob K mg) (D : DefIn K mg "kept_sections" (top 44) ["parts", "targets", "root_symbol"]) (G1 : Cal P w K mg base CX0 3 "leads" ["parts", "targets"] (sp_leads K)) (G2 : Cal P w K mg base CX0 1 "marked_sections" ["parts"] (sp_marked K))
    (G3 : Cal P w K mg base CX0 2 "sections_of" ["parts", "target"] (sp_sections_of K)) : Cal P w K mg base CX0 4 "kept_sections" ["parts", "targets", "root_symbol"] (sp_keep K) := by
  refine D.ok sc_keep (fun vs H Q E h => ?_) (fun f cdv A outer s H vs Q E hr h => ?_)
  · obtain ⟨l, t, v, os, root, rfl, _⟩ := h
    rfl
  · obtain ⟨l, t, v, os, root, rfl, hl, wf, ht, hv, hroot, q⟩ := h
    have hu := hu_of hr
    have zl : sizeLine = 16777216 := rfl
    refine ⟨_, pss_cons (ps_set (i := 3) sc_keep.nd rfl (Or.inl rfl) (pe_cal G1 hr pass0 (pa_cons (pv 0) (pa_cons (pv 1) pa_nil))))
      (pss_cons (ps_set (i := 4) sc_keep.nd rfl (Or.inl rfl) (pe_op op_cat (pe_cal G2 (hr.mono (by decide)) pass0 (pa_cons (pv 0) pa_nil)) (pe_cal G3 (hr.mono (by decide)) pass0 (pa_cons (pv 0) (pa_cons (pv 2) pa_nil)))))
      (pss_cons (ps_set (i := 5) sc_keep.nd rfl (Or.inl rfl) pe_dnewT)
      (pss_cons (ps_while PassesOwn.never (pt_cmp (pc_gt (pe_callB call_len_seq (by rfl) T.len PySem.boot_len (pa_cons (pv 4) pa_nil)) pe_int))
        (pss_cons (ps_set (i := 6) sc_keep.nd rfl (Or.inl rfl) (pe_bm0 PySem.F.plainAttrs_list PySem.F.slot_list_pop PySem.F.type_list_pop mPop (pv 4)))
        (pss_one (ps_if (pt_cmp (pc_dnotin hu (pv 6) (pv 5)))
          (pss_cons (ps_dput hu (pv 5) (pv 6) pe_bl rfl)
          (pss_one (ps_expr (pe_bm PySem.F.plainAttrs_list PySem.F.slot_list_extend PySem.F.type_list_extend mExt (pv 4) (pa_cons (pe_dget2 hu (pv 3) (pv 6) (pe_lst pa_nil) ⟨rfl, rfl, rfl, rfl⟩) pa_nil))))) pss_nil))))
      (pss_one (ps_ret (pv 5)))))), ?_⟩
    refine ⟨_, rfl, _, rfl, l, t, os, rfl, hl, wf, ht, fun H1 ld s1 hld0 L => ?_⟩
    refine ⟨_, rfl, l, os, rfl, hl.same s1, wf, fun H2 r2 zs2 s2 hr02 hr2 al2 => ?_⟩
    have s12 := s1.trans s2
    refine ⟨_, rfl, _, rfl, l, v, os, some root, rfl, hl.same s12, wf, hv.same s12, (by rw [← hroot]; exact tgt_placed wf root), fun H3 r3 zs3 s3 hr03 hr3 al3 => ?_⟩
    have bd := pend_bd wf root
    have ef : fst_ os root = nest (·.sections) cMark os ++ sOf os (some root) := by unfold fst_; rw [hroot]
    have len : (fst_ os root).length = zs2.length + zs3.length := by rw [ef, List.length_append, al2.1, al3.1]
    refine ⟨r2, r3, zs2, zs3, rfl, rfl, s3 _ _ hr2, hr3, by omega, fun p hp => ?_⟩
    intro kd hkd
    have p1 : H1 p = none := (s2.trans s3).free hp
    have kd3 : H3 kd = none := (Same.upd hp).free hkd
    have kd1 : H1 kd = none := (s2.trans s3).free kd3
    have pkd : p ≠ kd := fun z => by rw [← z, upd_same] at hkd; cases hkd
    obtain ⟨k1, k2, k3⟩ := kept_ok os root
    refine ⟨Pend H1 os root l t v ld p kd, ⟨_, none, fst_ os root, zs2 ++ zs3, [], [], rfl, ((s2.trans s3).trans (Same.upd hp)).trans (Same.upd hkd), by rw [upd_ne pkd, upd_same], ?_, upd_same, fun x => rfl, rfl, by rw [List.length_nil, Nat.zero_add]; exact bd, fun x hx => .inr hx, fun x hx => by simp at hx, fun x hx => by simp at hx, k1⟩, ?_⟩
    · rw [ef]
      exact Al.append (al2.mono fun _ _ g => ((g.same s3).same (Same.upd hp)).same (Same.upd hkd)) (al3.mono fun _ _ g => (g.same (Same.upd hp)).same (Same.upd hkd))
    · rintro m σ H' ⟨v6, todo, zs, done, kvs, rfl, s4, hp4, al4, hd4, hv4, rfl, hm, c1, c2, c3, c4⟩
      refine ⟨_, rfl, p, zs, rfl, .inl (SqL.of hp4), _, _, rfl, rfl, _, rfl, ?_⟩
      refine ite2 (fun h => ?_) (fun h => ?_)
      · have h := of_decide_eq_true h
        rcases List.eq_nil_or_concat todo with rfl | ⟨ts, x, et⟩
        · have : zs.length = 0 := al4.1
          omega
        rw [List.concat_eq_append] at et
        subst et
        obtain ⟨us, a, rfl, al5, ga⟩ := Al.unsnoc al4
        refine ⟨fun σ' H' => ∃ m', m' < (ts ++ [x]).length + meas os done ∧ Pend H1 os root l t v ld p kd m' σ' H', fun _ _ h => h, ?_⟩
        refine ⟨_, rfl, .inl ⟨rfl, _, SqL.of hp4⟩, p, us ++ [V.ref a], V.ref a, rfl, rfl, hp4, by simp, ?_⟩
        rw [List.dropLast_concat]
        have nl : ∀ xs, HO.lst (us ++ [V.ref a]) ≠ .tup xs := fun _ z => by cases z
        have s5 : Same H1 (upd H' p (.lst us)) := Same.put s4 p1
        have hp5 : (upd H' p (.lst us)) p = some (.lst us) := upd_same
        have hd5 : (upd H' p (.lst us)) kd = some (.dT kvs) := by rw [upd_ne pkd.symm]; exact hd4
        have ga5 : PairAt (upd H' p (.lst us)) a x := by unfold PairAt; rw [upd_ne (ga.ne hp4 nl)]; exact ga
        have al6 : Al (PairAt (upd H' p (.lst us))) us ts := al_put al5 hp4 nl
        generalize upd H' p (.lst us) = H5 at s5 hp5 hd5 ga5 al6
        have lt : (ts ++ [x]).length = ts.length + 1 := by simp
        refine ⟨_, rfl, _, rfl, kd, _, rfl, DGet.t (k := pk x) hd5 ga5, _, rfl, ?_⟩
        rw [hv4]
        refine ite2 (fun h2 => ?_) (fun h2 => ?_)
        · have nx : ¬ done.contains x = true := by simpa using h2
          have hn : valV kvs (pk x) = none := by
            cases e : valV kvs (pk x) with
            | none => rfl
            | some y =>
              have z := hv4 x
              rw [e] at z
              exact absurd z.symm nx
          have mc := meas_cons (os := os) nx
          refine ⟨_, rfl, _, rfl, kd, _, rfl, DPut.t (k := pk x) hd5 ga5 (by omega), ?_⟩
          rw [putK_new _ hn]
          have s6 : Same H1 (upd H5 kd (.dT (kvs ++ [(pk x, .bl true)]))) := Same.put s5 kd1
          have hp6 : (upd H5 kd (.dT (kvs ++ [(pk x, .bl true)]))) p = some (.lst us) := by rw [upd_ne pkd]; exact hp5
          have hd6 : (upd H5 kd (.dT (kvs ++ [(pk x, .bl true)]))) kd = some (.dT (kvs ++ [(pk x, .bl true)])) := upd_same
          have ga6 : PairAt (upd H5 kd (.dT (kvs ++ [(pk x, .bl true)]))) a x := by unfold PairAt; rw [upd_ne (ga5.ne hd5 fun _ z => by cases z)]; exact ga5
          have al7 : Al (PairAt (upd H5 kd (.dT (kvs ++ [(pk x, .bl true)])))) us ts := al_put al6 hd5 fun _ z => by cases z
          generalize upd H5 kd (.dT (kvs ++ [(pk x, .bl true)])) = H6 at s6 hp6 hd6 ga6 al7
          obtain ⟨lk, ld1, ld2⟩ := L.same s6
          refine ⟨_, rfl, .inl ⟨rfl, _, SqL.of hp6⟩, _, rfl, ld, rfl, .inr ⟨lk, .inl ld1⟩, _, rfl, Nat.zero_le _, fun e he => ?_⟩
          have hd7 := Same.upd (o := .lst []) he _ _ hd6
          have hp7 := Same.upd (o := .lst []) he _ _ hp6
          have s7 := s6.trans (Same.upd (o := .lst []) he)
          have al8 := al7.mono fun _ _ g => g.same (Same.upd (o := .lst []) he)
          have ee : (upd H6 e (.lst [])) e = some (.lst []) := upd_same
          refine ⟨_, DGet.t (k := pk x) (Same.upd he _ _ ld1) (ga6.same (Same.upd he)), ?_⟩
          have ld3 : (valV lk (pk x) = none ∧ ldf os x = []) ∨ ∃ a zs, valV lk (pk x) = some (.ref a) ∧ (upd H6 e (.lst [])) a = some (.lst zs) ∧ Al (PairAt (upd H6 e (.lst []))) zs (ldf os x) := by
            rcases ld2 x with z | ⟨b, zs', b1, b2, b3⟩
            · exact .inl z
            · exact .inr ⟨b, zs', b1, Same.upd he _ _ b2, b3.mono fun _ _ g => g.same (Same.upd he)⟩
          generalize upd H6 e (.lst []) = H7 at hd7 hp7 s7 al8 ee ld3
          obtain ⟨b, zs', b1, b2, b3⟩ : ∃ b zs', (valV lk (pk x)).getD (.ref e) = .ref b ∧ H7 b = some (.lst zs') ∧ Al (PairAt H7) zs' (ldf os x) := by
            rcases ld3 with ⟨z1, z2⟩ | ⟨b, zs', b1, b2, b3⟩
            · exact ⟨e, [], by rw [z1]; rfl, ee, by rw [z2]; exact Al.nil⟩
            · exact ⟨b, zs', by rw [b1]; rfl, b2, b3⟩
          rw [b1]
          have lu : us.length = ts.length := al5.1
          have lz : zs'.length = (ldf os x).length := b3.1
          refine ⟨p, b, us, zs', rfl, rfl, hp7, b2, by omega, ?_⟩
          have nl2 : ∀ xs, HO.lst us ≠ .tup xs := fun _ z => by cases z
          refine ⟨(ts ++ ldf os x).length + meas os (x :: done), by rw [List.length_append]; omega, _, ts ++ ldf os x, us ++ zs', x :: done, _, rfl, Same.put s7 p1, upd_same, al_put (Al.append al8 b3) hp7 nl2, by rw [upd_ne pkd.symm]; exact hd7, fun y => ?_, rfl, ?_, fun y hy => ?_, fun y hy z hz => ?_, fun y hy => ?_, fun y hy => ?_⟩
          · rw [valV_snoc]
            have z := hv4 y
            by_cases e2 : x = y
            · subst e2
              rw [if_pos rfl, hn]
              simp
            · rw [if_neg fun z => e2 (pk_inj z), Option.or_none, z, List.contains_cons]
              have : (y == x) = false := by simpa using fun z => e2 z.symm
              rw [this, Bool.false_or]
          · rw [List.length_append, List.length_append, List.length_singleton]; omega
          · rcases c1 y hy with z | z
            · exact .inl (List.mem_cons_of_mem _ z)
            · rcases List.mem_append.mp z with z | z
              · exact .inr (List.mem_append_left _ z)
              · rw [List.mem_singleton.mp z]; exact .inl (List.mem_cons_self ..)
          · rcases List.mem_cons.mp hy with e2 | e2
            · subst e2
              exact .inr (List.mem_append_right _ hz)
            · rcases c2 y e2 z hz with q2 | q2
              · exact .inl (List.mem_cons_of_mem _ q2)
              · rcases List.mem_append.mp q2 with q3 | q3
                · exact .inr (List.mem_append_left _ q3)
                · rw [List.mem_singleton.mp q3]; exact .inl (List.mem_cons_self ..)
          · rcases List.mem_cons.mp hy with e2 | e2
            · subst e2
              exact c4 y (by simp)
            · exact c3 y e2
          · rcases List.mem_append.mp hy with e2 | e2
            · exact c4 y (List.mem_append_left _ e2)
            · exact k2 x (c4 x (by simp)) y e2
        · have ix : done.contains x = true := by
            cases e : done.contains x with
            | true => rfl
            | false => rw [e] at h2; exact absurd rfl h2
          have mx : x ∈ done := by simpa using ix
          refine ⟨ts.length + meas os done, by omega, _, ts, us, done, kvs, rfl, s5, hp5, al6, hd5, hv4, rfl, by omega, fun y hy => ?_, fun y hy z hz => ?_, c3, fun y hy => c4 y (List.mem_append_left _ hy)⟩
          · rcases c1 y hy with z | z
            · exact .inl z
            · rcases List.mem_append.mp z with z | z
              · exact .inr z
              · rw [List.mem_singleton.mp z]; exact .inl mx
          · rcases c2 y hy z hz with q2 | q2
            · exact .inl q2
            · rcases List.mem_append.mp q2 with q3 | q3
              · exact .inr q3
              · rw [List.mem_singleton.mp q3]; exact .inl mx
      · have ez : todo = [] := by
          have : ¬ (0 : Int) < zs.length := fun z => h (decide_eq_true z)
          have := al4.1
          exact List.eq_nil_of_length_eq_zero (by omega)
        subst ez
        refine ⟨_, rfl, q H' kd (s1.trans s4) ⟨kvs, hd4, fun x => ?_⟩⟩
        rw [hv4]
        have i1 : x ∈ done → x ∈ Sd07.kept os root := c3 x
        have i2 : x ∈ Sd07.kept os root → x ∈ done := k3 (· ∈ done) (fun y hy => (c1 y hy).resolve_right (by simp)) (fun y hy z hz => (c2 y hy z hz).resolve_right (by simp)) x
        by_cases e : x ∈ done
        · have e2 := i1 e
          simp [e, e2]
        · have e2 : ¬ x ∈ Sd07.kept os root := fun z => e (i2 z)
          simp [e, e2]
/-! ### first_unbound -/
def sp_unb (K : PySem.W.Frag) : Sp := fun vs H Q _ => ∃ l t r xs os kf, vs = [.ref l, .ref t, .ref r] ∧ PartsAt K H l os ∧ WF os ∧ TgtsAt os H t ∧ H r = some (.lst xs) ∧ Al (PairAt H) xs (rls os kf) ∧ ((rls os kf).find? (unb os) = none → Q .non H) ∧ ∀ a k, (rls os kf).find? (unb os) = some k → PairAt H a k → Q (.ref a) H
theorem sc_unb : FnScope ["parts", "targets", "relocations", "pair", "part", "symbol"] ["parts", "targets", "relocations"] (defScope (top 46)) := ⟨rfl, rfl, rfl, by decide +kernel, rfl, by decide +kernel, by decide +kernel⟩
theorem ok_unb (T : Glob K mg) (D : DefIn K mg "first_unbound" (top 46) ["parts", "targets", "relocations"]) : Cal P w K mg base CX0 1 "first_unbound" ["parts", "targets", "relocations"] (sp_unb K) := by
  refine D.ok sc_unb (fun vs H Q E h => ?_) (fun f cdv A outer s H vs Q E hr h => ?_)
  · obtain ⟨l, t, r, xs, os, kf, rfl, _⟩ := h
    rfl
  · obtain ⟨l, t, r, xs, os, kf, rfl, ⟨ps, hl, al⟩, wf, ht, hr0, ar, q1, q2⟩ := h
    refine ⟨_, pss_cons (ps_for PassesOwn.never rfl (pi_list (pv 2)) (pg_name (i := 3) sc_unb.nd rfl (Or.inl rfl))
        (pss_cons (ps_set (i := 4) sc_unb.nd rfl (Or.inl rfl) (pe_ix ix_list (pv 0) (pe_ix ix_tup (pv 3) pe_int (fun _ _ => rfl)) (fun _ _ => rfl)))
        (pss_cons (ps_set (i := 5) sc_unb.nd rfl (Or.inl rfl) (pe_f (pe_ix ix_list (pe_f (pv 4)) (pe_ix ix_tup (pv 3) pe_int (fun _ _ => rfl)) (fun _ _ => rfl))))
        (pss_one (ps_if (PW.pt (pw_and (pt_cmp (pc_isN (pe_ix ix_list (pe_ix ix_list (pv 1) (pe_ix ix_tup (pv 3) pe_int (fun _ _ => rfl)) (fun _ _ => rfl)) (pv 5) (fun _ _ => rfl))))
            (pw_and1 (pt_cmp (pc_neI (pe_f (pe_ix ix_list (pe_f (pv 4)) (pv 5) (fun _ _ => rfl))) (pe_gi T.weak))))))
          (pss_one (ps_ret (pv 3))) pss_nil)))))
      (pss_one (ps_ret pe_non)), ?_⟩
    refine ⟨_, rfl, r, rfl, ⟨_, SqL.of hr0⟩, for_list (K := K) (a := r) (xs := xs) (fun i σ H' => ∃ v3 v4 v5, σ = [some (.ref l), some (.ref t), some (.ref r), v3, v4, v5] ∧ H' = H ∧ ∀ k, k ∈ (rls os kf).take i → unb os k = false)
      ⟨none, none, none, rfl, rfl, fun k hk => by simp at hk⟩ (fun i σ H' _ ⟨_, _, _, _, e, _⟩ => by rw [e]; exact SqL.of hr0) ?_ ?_⟩
    · rintro i x σ H' hx ⟨v3, v4, v5, rfl, rfl, hno⟩
      obtain ⟨k, a, hk, rfl, ga⟩ := ar.get hx
      obtain ⟨o, rl, e1, e2, _, e3⟩ := rls_mem (List.mem_of_getElem? hk)
      obtain ⟨pa, hpa, gp⟩ := al.2 _ _ e1
      obtain ⟨lr, rs, f1, f2, f3⟩ := gp.relocs
      obtain ⟨ly, ys, y1, y2, y3⟩ := gp.symbols
      obtain ⟨c, hc, gc⟩ := f3.2 _ _ e2
      have wr := (wf.at e1).rel rl (List.mem_of_getElem? e2)
      obtain ⟨sy, hsy⟩ : ∃ sy, o.symbols[rl.symbol]? = some sy := ⟨_, List.getElem?_eq_getElem wr.1⟩
      obtain ⟨sa, hsa, gs⟩ := y3.2 _ _ hsy
      obtain ⟨rows, row, yy, tv, t1, t2, t3, t4, t5⟩ := ht.get (k := (k.1, rl.symbol)) e1 wr.1
      have esy : Sd07.symbol os (k.1, rl.symbol) = some sy := by
        unfold Sd07.symbol
        dsimp only
        rw [e1]; exact hsy
      have eu : unb os k = ((tgt os (k.1, rl.symbol)).isNone && decide (sy.binding ≠ 2)) := by
        unfold unb
        rw [e3]
        dsimp only
        rw [esy]
        simp
      have go : unb os k = false → ∃ v3 v4 v5, [some (V.ref l), some (.ref t), some (.ref r), some (V.ref a), some (V.ref pa), some (V.int rl.symbol)] = [some (V.ref l), some (.ref t), some (.ref r), v3, v4, v5] ∧ H' = H' ∧ ∀ k, k ∈ (rls os kf).take (i + 1) → unb os k = false := fun hz => by
        refine ⟨_, _, _, rfl, rfl, fun k' hk' => ?_⟩
        rw [take_snoc hk] at hk'
        rcases List.mem_append.mp hk' with z | z
        · exact hno k' z
        · rw [List.mem_singleton.mp z]; exact hz
      refine ⟨_, rfl, _, rfl, a, _, _, _, rfl, rfl, SqT.of ga, rfl, l, _, _, _, rfl, rfl, SqL.of hl, atI_nat hpa, ?_⟩
      refine ⟨_, rfl, pa, _, rfl, f1, _, rfl, a, _, _, _, rfl, rfl, SqT.of ga, rfl, lr, _, _, _, rfl, rfl, SqL.of f2, atI_nat hc, c, _, rfl, gc.symbol, ?_⟩
      refine ⟨_, rfl, _, rfl, a, _, _, _, rfl, rfl, SqT.of ga, rfl, t, _, _, _, rfl, rfl, SqL.of t1, atI_nat t2, _, rfl, row, _, _, _, rfl, rfl, SqL.of t3, atI_nat t4, _, rfl, ?_⟩
      cases et : tgt os (k.1, rl.symbol) with
      | some k2 =>
        rw [et] at t5 eu
        obtain ⟨b, rfl, _⟩ := t5
        rw [decide_eq_false (by intro z; cases z)]
        exact iteF (iteF (go (by rw [eu]; rfl)))
      | none =>
        rw [et] at t5 eu
        have t5 : tv = .non := t5
        subst t5
        rw [decide_eq_true rfl]
        refine iteT ⟨_, rfl, pa, _, rfl, y1, _, rfl, ly, _, _, _, rfl, rfl, SqL.of y2, atI_nat hsa, sa, _, rfl, gs.binding, _, _, rfl, rfl, _, rfl, ?_⟩
        refine ite2 (fun h => ?_) (fun h => ?_)
        · have nb : sy.binding ≠ 2 := fun z => by rw [z] at h; simp at h
          refine ⟨_, rfl, q2 a k (List.find?_eq_some_iff_append.mpr ⟨by rw [eu]; simp [nb], (rls os kf).take i, (rls os kf).drop (i + 1), split_at hk, fun k' hk' => by rw [hno k' hk']; rfl⟩) ga⟩
        · have nb : sy.binding = 2 := by
            have z : ((sy.binding : Nat) : Int) = 2 := by simpa using h
            omega
          exact go (by rw [eu]; simp [nb])
    · rintro σ H' ⟨v3, v4, v5, rfl, rfl, hno⟩
      refine q1 (List.find?_eq_none.mpr fun k hk => ?_)
      rw [take_all ar.1] at hno
      rw [hno k hk]
      simp
end
end Jo
set_option Elab.async false
set_option linter.all false
set_option maxRecDepth 100000
set_option maxHeartbeats 2000000
/-! PLACES: the layout by kinds, step by step. -/
namespace Jo
open L2 (V Key valV)
open Sd07 (Object Section Symbol Reloc)
/-! ### the kept sections -/
def scn (os : List Object) (k : Nat × Nat) : Option Section := match os[k.1]? with
  | none => none
  | some o => o.sections[k.2]?
abbrev KS := (Nat × Nat) × Section
def SL (os : List Object) (keep : List (Nat × Nat)) : List KS := (Sd07.sectionsOf os).filter fun (x : KS) => keep.contains x.1
def SK (os : List Object) (keep : List (Nat × Nat)) (n : Nat) : List KS := (SL os keep).filter fun (x : KS) => x.2.kind == n
def cKnd (kf : Nat × Nat → Bool) (n : Nat) : Nat → Nat → Section → Bool := fun p j s => decide (s.kind = n) && kf (p, j)
theorem secs_mem {os : List Object} {x : KS} (h : x ∈ Sd07.sectionsOf os) : scn os x.1 = some x.2 ∧ ∃ o, os[x.1.1]? = some o ∧ x.2 ∈ o.sections := by
  unfold Sd07.sectionsOf at h
  obtain ⟨y, hy, hx⟩ := List.mem_flatMap.mp h
  obtain ⟨z, hz, rfl⟩ := List.mem_map.mp hx
  have e1 := List.mem_zipIdx_iff_getElem?.mp hy
  have e2 := List.mem_zipIdx_iff_getElem?.mp hz
  refine ⟨?_, y.1, e1, List.mem_of_getElem? e2⟩
  unfold scn
  simp only [e1, e2]
theorem secs_in {os : List Object} {k : Nat × Nat} {s : Section} (h : scn os k = some s) : (k, s) ∈ Sd07.sectionsOf os := by
  unfold scn at h
  cases e : os[k.1]? with
  | none => rw [e] at h; cases h
  | some o =>
    rw [e] at h
    unfold Sd07.sectionsOf
    refine List.mem_flatMap.mpr ⟨(o, k.1), List.mem_zipIdx_iff_getElem?.mpr e, List.mem_map.mpr ⟨(s, k.2), List.mem_zipIdx_iff_getElem?.mpr h, rfl⟩⟩
theorem SL_mem {os : List Object} {keep : List (Nat × Nat)} {x : KS} (h : x ∈ SL os keep) : scn os x.1 = some x.2 ∧ keep.contains x.1 = true ∧ ∃ o, os[x.1.1]? = some o ∧ x.2 ∈ o.sections := by
  obtain ⟨h1, h2⟩ := List.mem_filter.mp h
  obtain ⟨a, b⟩ := secs_mem h1
  exact ⟨a, h2, b⟩
theorem SK_mem {os : List Object} {keep : List (Nat × Nat)} {n : Nat} {x : KS} (h : x ∈ SK os keep n) : x ∈ SL os keep ∧ x.2.kind = n := by
  obtain ⟨h1, h2⟩ := List.mem_filter.mp h
  exact ⟨h1, by simpa using h2⟩
theorem SK_keys (os : List Object) (keep : List (Nat × Nat)) (n : Nat) : (SK os keep n).map (·.1) = nest (·.sections) (cKnd (fun x => keep.contains x) n) os := by
  unfold SK SL Sd07.sectionsOf nest inn
  rw [List.filter_filter, List.filter_flatMap, List.map_flatMap]
  congr 1
  funext x
  rw [filt_map]
  congr 1
/-! ### one kind -/
theorem put_snoc (x : KS) : ∀ (l : List KS) (a : Nat), Sd07.put (l ++ [x]) a = ((Sd07.put l a).1 ++ [(x.1, Sd07.up (Sd07.put l a).2 (2 ^ x.2.align))], Sd07.up (Sd07.put l a).2 (2 ^ x.2.align) + x.2.size)
  | [], a => rfl
  | y :: l, a => by
    rw [List.cons_append]
    unfold Sd07.put
    dsimp only
    rw [put_snoc x l]
    rfl
def putS : List KS → Nat → List (KS × Nat)
  | [], _ => []
  | x :: r, a => (x, Sd07.up a (2 ^ x.2.align)) :: putS r (Sd07.up a (2 ^ x.2.align) + x.2.size)
theorem putS_put : ∀ (l : List KS) (a : Nat), (Sd07.put l a).1 = (putS l a).map fun z => (z.1.1, z.2)
  | [], a => rfl
  | x :: l, a => by
    unfold Sd07.put putS
    dsimp only
    rw [putS_put l, List.map_cons]
theorem putS_fst : ∀ (l : List KS) (a : Nat), (putS l a).map (·.1) = l
  | [], a => rfl
  | x :: l, a => by
    unfold putS
    rw [List.map_cons, putS_fst l]
theorem up_le (a n : Nat) (hn : 0 < n) : a ≤ Sd07.up a n ∧ Sd07.up a n < a + n := by
  unfold Sd07.up
  have h := Nat.div_add_mod (a + n - 1) n
  have h2 := Nat.mod_lt (a + n - 1) hn
  rw [Nat.mul_comm] at h
  omega
theorem up_add {b a n : Nat} (hn : 0 < n) (hd : n ∣ b) : Sd07.up (b + a) n = b + Sd07.up a n := by
  obtain ⟨c, rfl⟩ := hd
  unfold Sd07.up
  have e : n * c + a + n - 1 = (a + n - 1) + n * c := by omega
  rw [e, Nat.add_mul_div_left _ _ hn, Nat.add_mul, Nat.mul_comm c n]
  omega
theorem put_end : ∀ (l : List KS) (a : Nat), a ≤ (Sd07.put l a).2 ∧ ((∀ x ∈ l, x.2.align ≤ 12 ∧ x.2.size ≤ 65536) → (Sd07.put l a).2 ≤ a + l.length * 69632)
  | [], a => ⟨Nat.le_refl _, fun _ => Nat.le_refl _⟩
  | x :: l, a => by
    unfold Sd07.put
    dsimp only
    obtain ⟨h1, h2⟩ := put_end l (Sd07.up a (2 ^ x.2.align) + x.2.size)
    obtain ⟨u1, u2⟩ := up_le a (2 ^ x.2.align) (Nat.two_pow_pos _)
    refine ⟨by omega, fun h => ?_⟩
    have h2 := h2 fun y hy => h y (List.mem_cons_of_mem _ hy)
    obtain ⟨b1, b2⟩ := h x (List.mem_cons_self ..)
    have b3 : 2 ^ x.2.align ≤ 2 ^ 12 := Nat.pow_le_pow_right (by decide) b1
    rw [List.length_cons, Nat.succ_mul]
    omega
theorem putS_all : ∀ (l : List KS) (a : Nat), (∀ z ∈ putS l a, a ≤ z.2 ∧ z.2 + z.1.2.size ≤ (Sd07.put l a).2) ∧ (putS l a).Pairwise fun z w => z.2 + z.1.2.size ≤ w.2
  | [], a => ⟨fun z hz => by simp [putS] at hz, List.Pairwise.nil⟩
  | x :: l, a => by
    unfold Sd07.put putS
    dsimp only
    obtain ⟨h1, h2⟩ := putS_all l (Sd07.up a (2 ^ x.2.align) + x.2.size)
    obtain ⟨u1, u2⟩ := up_le a (2 ^ x.2.align) (Nat.two_pow_pos _)
    have e := (put_end l (Sd07.up a (2 ^ x.2.align) + x.2.size)).1
    refine ⟨fun z hz => ?_, List.Pairwise.cons (fun z hz => (h1 z hz).1) h2⟩
    rcases List.mem_cons.mp hz with q | q
    · subst q
      exact ⟨u1, e⟩
    · have := h1 z q
      omega
/-! ### kind by kind -/
def KPS (f : Nat → List KS) : Nat → List (KS × Nat) × Nat
  | 0 => ([], 0)
  | n + 1 => ((KPS f n).1 ++ putS (f n) (Sd07.up (KPS f n).2 4096), (Sd07.put (f n) (Sd07.up (KPS f n).2 4096)).2)
theorem KPS_le (f : Nat → List KS) (n : Nat) : (KPS f n).2 ≤ (KPS f (n + 1)).2 := by
  show _ ≤ (Sd07.put (f n) (Sd07.up (KPS f n).2 4096)).2
  have a := (put_end (f n) (Sd07.up (KPS f n).2 4096)).1
  have b := (up_le (KPS f n).2 4096 (by decide)).1
  omega
theorem KPS_all (f : Nat → List KS) : ∀ n, (∀ z ∈ (KPS f n).1, z.2 + z.1.2.size ≤ (KPS f n).2) ∧ (KPS f n).1.Pairwise fun z w => z.2 + z.1.2.size ≤ w.2
  | 0 => ⟨fun z hz => by simp [KPS] at hz, List.Pairwise.nil⟩
  | n + 1 => by
    obtain ⟨h1, h2⟩ := KPS_all f n
    obtain ⟨p1, p2⟩ := putS_all (f n) (Sd07.up (KPS f n).2 4096)
    have e := KPS_le f n
    have u := (up_le (KPS f n).2 4096 (by decide)).1
    refine ⟨fun z hz => ?_, List.pairwise_append.mpr ⟨h2, p2, fun z hz w hw => ?_⟩⟩
    · rcases List.mem_append.mp hz with q | q
      · exact Nat.le_trans (h1 z q) e
      · exact (p1 z q).2
    · have a := h1 z hz
      have b := (p1 w hw).1
      omega
theorem KPS_bd {f : Nat → List KS} {m : Nat} (hf : ∀ n, (f n).length ≤ m ∧ ∀ x ∈ f n, x.2.align ≤ 12 ∧ x.2.size ≤ 65536) : ∀ n, (KPS f n).2 ≤ n * (4096 + m * 69632)
  | 0 => Nat.zero_le _
  | n + 1 => by
    have a := KPS_bd hf n
    have b := (up_le (KPS f n).2 4096 (by decide)).2
    have c := (put_end (f n) (Sd07.up (KPS f n).2 4096)).2 (hf n).2
    have d : (f n).length * 69632 ≤ m * 69632 := Nat.mul_le_mul_right _ (hf n).1
    show (Sd07.put (f n) (Sd07.up (KPS f n).2 4096)).2 ≤ _
    rw [Nat.succ_mul]
    omega
theorem KPS_fst (f : Nat → List KS) : ∀ n, (KPS f n).1.map (·.1) = (List.range n).flatMap f
  | 0 => rfl
  | n + 1 => by
    show ((KPS f n).1 ++ putS (f n) _).map _ = _
    rw [List.map_append, KPS_fst f n, putS_fst, List.range_succ, List.flatMap_append]
    simp
/-- the places, in their order -/
def plc (f : Nat → List KS) (n : Nat) : List ((Nat × Nat) × Nat) := (KPS f n).1.map fun z => (z.1.1, z.2)
theorem plc_succ (f : Nat → List KS) (n : Nat) : plc f (n + 1) = plc f n ++ (Sd07.put (f n) (Sd07.up (KPS f n).2 4096)).1 := by
  unfold plc
  show ((KPS f n).1 ++ putS (f n) _).map _ = _
  rw [List.map_append, ← putS_put]
theorem layout_eq (os : List Object) (keep : List (Nat × Nat)) : Sd07.layout os keep = ⟨plc (SK os keep) 4, (KPS (SK os keep) 3).2, (KPS (SK os keep) 4).2⟩ := by
  have e : Sd07.kinds (SL os keep) [0, 1, 2, 3] 0 = (plc (SK os keep) 4, [(KPS (SK os keep) 1).2, (KPS (SK os keep) 2).2, (KPS (SK os keep) 3).2, (KPS (SK os keep) 4).2]) := by
    rw [plc_succ, plc_succ, plc_succ, plc_succ]
    unfold Sd07.kinds Sd07.kinds Sd07.kinds Sd07.kinds Sd07.kinds
    simp only [List.append_nil, List.append_assoc]
    rfl
  unfold Sd07.layout
  show (⟨(Sd07.kinds (SL os keep) [0, 1, 2, 3] 0).1, (Sd07.kinds (SL os keep) [0, 1, 2, 3] 0).2.getD 2 0, (Sd07.kinds (SL os keep) [0, 1, 2, 3] 0).2.getD 3 0⟩ : Sd07.Layout) = _
  rw [e]
  rfl
end Jo
set_option Elab.async false
set_option linter.all false
set_option maxRecDepth 100000
set_option maxHeartbeats 2000000
/-! PLACES, further: each kept section has one; the image. -/
namespace Jo
open L2 (V Key valV)
open Sd07 (Object Section Symbol Reloc)
theorem perm4 : ∀ l : List KS, (∀ x ∈ l, x.2.kind ≤ 3) → (l.filter (fun x => x.2.kind == 0) ++ (l.filter (fun x => x.2.kind == 1) ++ (l.filter (fun x => x.2.kind == 2) ++ l.filter (fun x => x.2.kind == 3)))).Perm l
  | [], _ => List.Perm.refl _
  | a :: l, h => by
    have ih := perm4 l fun x hx => h x (List.mem_cons_of_mem _ hx)
    have ha := h a (List.mem_cons_self ..)
    have c : a.2.kind = 0 ∨ a.2.kind = 1 ∨ a.2.kind = 2 ∨ a.2.kind = 3 := by omega
    rcases c with c | c | c | c
    · simp only [List.filter_cons, c]
      exact List.Perm.cons a ih
    · simp only [List.filter_cons, c]
      exact List.perm_middle.trans (List.Perm.cons a ih)
    · simp only [List.filter_cons, c]
      show (_ ++ (_ ++ (a :: (_ ++ _)))).Perm _
      rw [← List.append_assoc]
      refine List.perm_middle.trans (List.Perm.cons a ?_)
      rw [List.append_assoc]
      exact ih
    · simp only [List.filter_cons, c]
      show (_ ++ (_ ++ (_ ++ a :: _))).Perm _
      rw [← List.append_assoc, ← List.append_assoc]
      refine List.perm_middle.trans (List.Perm.cons a ?_)
      rw [List.append_assoc, List.append_assoc]
      exact ih
theorem SL_keys (os : List Object) (keep : List (Nat × Nat)) : (SL os keep).map (·.1) = nest (·.sections) (fun p j _ => keep.contains (p, j)) os := by
  unfold SL Sd07.sectionsOf nest inn
  rw [List.filter_flatMap, List.map_flatMap]
  congr 1
  funext x
  rw [filt_map]
theorem SL_wf {os : List Object} (wf : WF os) {keep : List (Nat × Nat)} {x : KS} (h : x ∈ SL os keep) : x.2.kind ≤ 3 ∧ x.2.align ≤ 12 ∧ x.2.size ≤ 65536 ∧ x.2.bytes.length = if x.2.kind = 3 then 0 else x.2.size := by
  obtain ⟨_, _, o, ho, hm⟩ := SL_mem h
  exact (wf.at ho).sec _ hm
theorem KPS_perm {os : List Object} (wf : WF os) (keep : List (Nat × Nat)) : ((KPS (SK os keep) 4).1.map (·.1)).Perm (SL os keep) := by
  rw [KPS_fst]
  have e : (List.range 4).flatMap (SK os keep) = SK os keep 0 ++ (SK os keep 1 ++ (SK os keep 2 ++ SK os keep 3)) := by
    show List.flatMap _ [0, 1, 2, 3] = _
    simp
  rw [e]
  exact perm4 _ fun x hx => (SL_wf wf hx).1
theorem keys_nd {os : List Object} (wf : WF os) (keep : List (Nat × Nat)) : ((plc (SK os keep) 4).map (·.1)).Nodup := by
  have e : (plc (SK os keep) 4).map (·.1) = ((KPS (SK os keep) 4).1.map (·.1)).map (·.1) := by
    unfold plc
    rw [List.map_map, List.map_map]; rfl
  rw [e]
  refine List.Nodup.perm ?_ ((KPS_perm wf keep).map (·.1)).symm
  rw [SL_keys]
  exact nest_nd os
theorem find_key {β : Type} {k : Nat × Nat} {v : β} : ∀ {l : List ((Nat × Nat) × β)}, (l.map (·.1)).Nodup → (k, v) ∈ l → l.find? (fun y => y.1 == k) = some (k, v)
  | [], _, h => by simp at h
  | a :: l, nd, h => by
    rw [List.map_cons] at nd
    obtain ⟨n1, n2⟩ := List.nodup_cons.mp nd
    rw [List.find?_cons]
    rcases List.mem_cons.mp h with e | e
    · rw [← e]; simp
    · have ne : (a.1 == k) = false := by
        refine beq_eq_false_iff_ne.mpr fun z => n1 ?_
        rw [z]
        exact List.mem_map.mpr ⟨(k, v), e, rfl⟩
      rw [ne]
      exact find_key n2 e
theorem off_of {os : List Object} (wf : WF os) {keep : List (Nat × Nat)} {z : KS × Nat} (h : z ∈ (KPS (SK os keep) 4).1) : Sd07.offsetOf (Sd07.layout os keep) z.1.1 = z.2 := by
  have m : (z.1.1, z.2) ∈ plc (SK os keep) 4 := List.mem_map.mpr ⟨z, h, rfl⟩
  rw [layout_eq]
  unfold Sd07.offsetOf
  dsimp only
  rw [find_key (keys_nd wf keep) m]
theorem KPS_in {os : List Object} (wf : WF os) {keep : List (Nat × Nat)} {z : KS × Nat} (h : z ∈ (KPS (SK os keep) 4).1) : z.1 ∈ SL os keep := (KPS_perm wf keep).mem_iff.mp (List.mem_map.mpr ⟨z, h, rfl⟩)
theorem KPS_three {os : List Object} {keep : List (Nat × Nat)} {z : KS × Nat} (h : z ∈ (KPS (SK os keep) 4).1) (hk : z.1.2.kind ≠ 3) : z.2 + z.1.2.size ≤ (KPS (SK os keep) 3).2 := by
  have h : z ∈ (KPS (SK os keep) 3).1 ++ putS (SK os keep 3) _ := h
  rcases List.mem_append.mp h with q | q
  · exact (KPS_all _ 3).1 z q
  · have m : z.1 ∈ SK os keep 3 := by
      rw [← putS_fst (SK os keep 3) (Sd07.up (KPS (SK os keep) 3).2 4096)]
      exact List.mem_map.mpr ⟨z, q, rfl⟩
    exact absurd (SK_mem m).2 hk
theorem place_of {os : List Object} (wf : WF os) {keep : List (Nat × Nat)} {k : Nat × Nat} {s : Section} (hk : keep.contains k = true) (hs : scn os k = some s) :
    ∃ off, ((k, s), off) ∈ (KPS (SK os keep) 4).1 ∧ (k, off) ∈ plc (SK os keep) 4 ∧ Sd07.offsetOf (Sd07.layout os keep) k = off ∧ off + s.size ≤ (Sd07.layout os keep).total ∧ (s.kind ≠ 3 → off + s.size ≤ (Sd07.layout os keep).size) := by
  have m : (k, s) ∈ SL os keep := List.mem_filter.mpr ⟨secs_in hs, hk⟩
  obtain ⟨z, hz, e⟩ := List.mem_map.mp ((KPS_perm wf keep).mem_iff.mpr m)
  obtain ⟨x, off⟩ := z
  have e : x = (k, s) := e
  subst e
  refine ⟨off, hz, List.mem_map.mpr ⟨_, hz, rfl⟩, off_of wf hz, ?_, fun h => ?_⟩
  · rw [layout_eq]; exact (KPS_all _ 4).1 _ hz
  · rw [layout_eq]; exact KPS_three hz h
theorem SK_bd {os : List Object} (wf : WF os) (keep : List (Nat × Nat)) (n : Nat) : (SK os keep n).length ≤ 2048 ∧ ∀ x ∈ SK os keep n, x.2.align ≤ 12 ∧ x.2.size ≤ 65536 := by
  refine ⟨?_, fun x hx => ?_⟩
  · have z := nest_le (th := (·.sections)) (c := cKnd (fun x => keep.contains x) n) (m := 64) os (fun o ho => (wf.all o ho).ns) os.length
    rw [List.take_length, ← SK_keys, List.length_map] at z
    have := wf.n
    omega
  · have := SL_wf wf (SK_mem hx).1
    exact ⟨this.2.1, this.2.2.1⟩
theorem total_bd {os : List Object} (wf : WF os) (keep : List (Nat × Nat)) (n : Nat) (hn : n ≤ 4) : (KPS (SK os keep) n).2 ≤ 600000000 := by
  have a := KPS_bd (SK_bd wf keep) n
  have : n * (4096 + 2048 * 69632) ≤ 4 * (4096 + 2048 * 69632) := Nat.mul_le_mul_right _ hn
  omega
/-! ### the dict of addresses -/
def encP (base : Nat) (ps : List ((Nat × Nat) × Nat)) : List (List Key × V) := ps.map fun x => (pk x.1, V.int ((base + x.2 : Nat) : Int))
theorem valV_enc (base : Nat) (k : Nat × Nat) : ∀ ps : List ((Nat × Nat) × Nat), valV (encP base ps) (pk k) = (ps.find? fun y => y.1 == k).map fun y => V.int ((base + y.2 : Nat) : Int)
  | [] => rfl
  | a :: l => by
    have e : encP base (a :: l) = (pk a.1, V.int ((base + a.2 : Nat) : Int)) :: encP base l := rfl
    rw [e, List.find?_cons]
    by_cases h : a.1 = k
    · rw [L2.valV_pos (by dsimp only; rw [h]), beq_iff_eq.mpr h]
      rfl
    · rw [L2.valV_neg (fun z => h (pk_inj z)), beq_eq_false_iff_ne.mpr h]
      exact valV_enc base k l
theorem enc_at {os : List Object} (wf : WF os) {keep : List (Nat × Nat)} {k : Nat × Nat} {s : Section} (hk : keep.contains k = true) (hs : scn os k = some s) (base : Nat) :
    valV (encP base (plc (SK os keep) 4)) (pk k) = some (.int ((base + Sd07.offsetOf (Sd07.layout os keep) k : Nat) : Int)) := by
  obtain ⟨off, h1, h2, h3, _⟩ := place_of wf hk hs
  rw [valV_enc, find_key (keys_nd wf keep) h2, h3]
  rfl
/-! ### bytes put into a list -/
def ptc (ns : List Nat) (o : Nat) (bs : List Nat) : List Nat := bs.zipIdx.foldl (fun c y => c.set (o + y.2) y.1) ns
theorem ptc_snoc {ns bs : List Nat} {o i b : Nat} (h : bs[i]? = some b) : ptc ns o (bs.take (i + 1)) = (ptc ns o (bs.take i)).set (o + i) b := by
  unfold ptc
  rw [zipIdx_take h, List.foldl_append]
  rfl
theorem ptc_get0 (o q : Nat) : ∀ (bs : List Nat) (k : Nat) (ns : List Nat), ((bs.zipIdx k).foldl (fun (c : List Nat) (y : Nat × Nat) => c.set (o + y.2) y.1) ns)[q]? = if o + k ≤ q ∧ q < o + k + bs.length ∧ q < ns.length then bs[q - (o + k)]? else ns[q]?
  | [], k, ns => by
    rw [if_neg (by simp only [List.length_nil]; omega)]
    rfl
  | b :: bs, k, ns => by
    rw [List.zipIdx_cons, List.foldl_cons, ptc_get0 o q bs (k + 1), List.length_set, List.length_cons]
    by_cases h1 : q < ns.length
    · by_cases h2 : o + k ≤ q
      · by_cases h3 : q < o + k + (bs.length + 1)
        · by_cases h4 : o + (k + 1) ≤ q
          · rw [if_pos ⟨h4, by omega, h1⟩, if_pos ⟨h2, h3, h1⟩]
            have e : q - (o + k) = (q - (o + (k + 1))) + 1 := by omega
            rw [e, List.getElem?_cons_succ]
          · have e : q = o + k := by omega
            rw [if_neg (fun z => h4 z.1), if_pos ⟨h2, h3, h1⟩, e, Nat.sub_self, List.getElem?_cons_zero, List.getElem?_set_self (by omega)]
        · rw [if_neg (by omega), if_neg (by omega), List.getElem?_set_ne (by omega)]
      · rw [if_neg (by omega), if_neg (by omega), List.getElem?_set_ne (by omega)]
    · rw [if_neg (by omega), if_neg (by omega), List.getElem?_eq_none (by rw [List.length_set]; omega), List.getElem?_eq_none (by omega)]
theorem ptc_get (ns : List Nat) (o : Nat) (bs : List Nat) (q : Nat) : (ptc ns o bs)[q]? = if o ≤ q ∧ q < o + bs.length ∧ q < ns.length then bs[q - o]? else ns[q]? := ptc_get0 o q bs 0 ns
theorem ptc_len (ns : List Nat) (o : Nat) (bs : List Nat) : (ptc ns o bs).length = ns.length := by
  unfold ptc
  generalize bs.zipIdx = l
  induction l generalizing ns with
  | nil => rfl
  | cons a l ih => rw [List.foldl_cons, ih, List.length_set]
theorem ptc_comm (ns : List Nat) {o1 o2 : Nat} {b1 b2 : List Nat} (h : o1 + b1.length ≤ o2 ∨ o2 + b2.length ≤ o1) : ptc (ptc ns o1 b1) o2 b2 = ptc (ptc ns o2 b2) o1 b1 := by
  refine List.ext_getElem? fun q => ?_
  rw [ptc_get, ptc_get, ptc_get, ptc_get, ptc_len, ptc_len]
  by_cases c1 : o1 ≤ q ∧ q < o1 + b1.length ∧ q < ns.length
  · by_cases c2 : o2 ≤ q ∧ q < o2 + b2.length ∧ q < ns.length
    · omega
    · rw [if_neg c2, if_pos c1, if_pos c1]
  · rw [if_neg c1, if_neg c1]
theorem patch_ptc (b : Array Nat) (o : Nat) (x : List Nat) : (Sd07.patch b o x).toList = ptc b.toList o x := by
  unfold Sd07.patch ptc
  generalize x.zipIdx = l
  induction l generalizing b with
  | nil => rfl
  | cons a l ih => rw [List.foldl_cons, List.foldl_cons, ih, Array.toList_setIfInBounds]
theorem fold_toList {α : Type} (f : Array Nat → α → Array Nat) (g : List Nat → α → List Nat) (h : ∀ b x, (f b x).toList = g b.toList x) : ∀ (l : List α) (b : Array Nat), (l.foldl f b).toList = l.foldl g b.toList
  | [], b => rfl
  | a :: l, b => by rw [List.foldl_cons, List.foldl_cons, fold_toList f g h l, h]
/-- the sections' bytes in place -/
def plain (os : List Object) (keep : List (Nat × Nat)) : List Nat := (KPS (SK os keep) 4).1.foldl (fun b z => ptc b z.2 z.1.2.bytes) (List.replicate (Sd07.layout os keep).size 0)
/-- one relocation put -/
def stp (os : List Object) (keep : List (Nat × Nat)) (base : Nat) (b : List Nat) (x : Nat × Nat × Reloc) : List Nat :=
  ptc b (Sd07.offsetOf (Sd07.layout os keep) (x.1, x.2.2.sec) + x.2.2.offset) (Sd07.le (Sd07.width x.2.2.kind) ((Sd07.valueOf os (Sd07.layout os keep) base x).getD 0))
theorem fold_filter {α β : Type} (f : β → α → β) (p : α → Bool) : ∀ (l : List α) (b : β), (∀ x ∈ l, p x = false → ∀ b, f b x = b) → (l.filter p).foldl f b = l.foldl f b
  | [], b, _ => rfl
  | a :: l, b, h => by
    rw [List.filter_cons, List.foldl_cons]
    by_cases q : p a = true
    · rw [if_pos q, List.foldl_cons]
      exact fold_filter f p l _ fun x hx => h x (List.mem_cons_of_mem _ hx)
    · rw [if_neg q, h a (List.mem_cons_self ..) (by simpa using q)]
      exact fold_filter f p l _ fun x hx => h x (List.mem_cons_of_mem _ hx)
theorem fold_congr {α β : Type} (f g : β → α → β) : ∀ (l : List α) (b : β), (∀ x ∈ l, ∀ b, f b x = g b x) → l.foldl f b = l.foldl g b
  | [], b, _ => rfl
  | a :: l, b, h => by
    rw [List.foldl_cons, List.foldl_cons, h a (List.mem_cons_self ..)]
    exact fold_congr f g l _ fun x hx => h x (List.mem_cons_of_mem _ hx)
theorem apart {os : List Object} (wf : WF os) {keep : List (Nat × Nat)} {x y : KS} (hx : x ∈ SL os keep) (hy : y ∈ SL os keep) : x = y ∨ Sd07.offsetOf (Sd07.layout os keep) x.1 + x.2.bytes.length ≤ Sd07.offsetOf (Sd07.layout os keep) y.1 ∨ Sd07.offsetOf (Sd07.layout os keep) y.1 + y.2.bytes.length ≤ Sd07.offsetOf (Sd07.layout os keep) x.1 := by
  obtain ⟨z, hz, ez⟩ := List.mem_map.mp ((KPS_perm wf keep).mem_iff.mpr hx)
  obtain ⟨u, hu, eu⟩ := List.mem_map.mp ((KPS_perm wf keep).mem_iff.mpr hy)
  have oz := off_of wf hz
  have ou := off_of wf hu
  have bl : ∀ w : KS, w ∈ SL os keep → w.2.bytes.length ≤ w.2.size := fun w hw => by
    have := (SL_wf wf hw).2.2.2
    split at this <;> omega
  have bx := bl x hx
  have by_ := bl y hy
  rw [ez] at oz
  rw [eu] at ou
  obtain ⟨i, hi, ei⟩ := List.getElem_of_mem hz
  obtain ⟨j, hj, ej⟩ := List.getElem_of_mem hu
  have pw := List.pairwise_iff_getElem.mp (KPS_all (SK os keep) 4).2
  rcases Nat.lt_trichotomy i j with l | l | l
  · have q := pw i j hi hj l
    rw [ei, ej, ez] at q
    exact .inr (.inl (by omega))
  · subst l
    have e : z = u := ei.symm.trans ej
    exact .inl (by rw [← ez, ← eu, e])
  · have q := pw j i hj hi l
    rw [ei, ej, eu] at q
    exact .inr (.inr (by omega))
theorem image_eq {os : List Object} (wf : WF os) (keep : List (Nat × Nat)) (base : Nat) : Sd07.image os keep (Sd07.layout os keep) base = (Sd07.needed os keep).foldl (stp os keep base) (plain os keep) := by
  unfold Sd07.image
  dsimp only
  rw [fold_toList _ (stp os keep base) fun b x => patch_ptc _ _ _]
  congr 1
  rw [fold_toList _ (fun b (x : KS) => ptc b (Sd07.offsetOf (Sd07.layout os keep) x.1) x.2.bytes) fun b x => patch_ptc _ _ _, Array.toList_replicate]
  have e1 : (Sd07.sectionsOf os).filter (fun (x : KS) => keep.contains x.1 && x.2.kind != 3) = (SL os keep).filter fun x => x.2.kind != 3 := by
    unfold SL
    rw [List.filter_filter]
    congr 1
    funext x
    exact Bool.and_comm _ _
  rw [e1, fold_filter]
  · rw [← List.Perm.foldl_eq' (KPS_perm wf keep)]
    · unfold plain
      rw [List.foldl_map]
      refine (fold_congr _ _ _ _ fun z hz b => ?_).symm
      rw [off_of wf hz]
    · intro x hx y hy b
      have hx := (KPS_perm wf keep).mem_iff.mp hx
      have hy := (KPS_perm wf keep).mem_iff.mp hy
      rcases apart wf hx hy with e | e
      · rw [e]
      · exact ptc_comm _ e
  · intro x hx hp b
    have k3 : x.2.kind = 3 := by simpa using hp
    have := (SL_wf wf hx).2.2.2
    rw [if_pos k3] at this
    rw [List.eq_nil_of_length_eq_zero this]
    rfl
theorem plain_len (os : List Object) (keep : List (Nat × Nat)) : (plain os keep).length = (Sd07.layout os keep).size := by
  unfold plain
  generalize (KPS (SK os keep) 4).1 = l
  have : ∀ (l : List (KS × Nat)) (b : List Nat), (l.foldl (fun b z => ptc b z.2 z.1.2.bytes) b).length = b.length := by
    intro l
    induction l with
    | nil => intro b; rfl
    | cons a l ih => intro b; rw [List.foldl_cons, ih, ptc_len]
  rw [this, List.length_replicate]
end Jo
set_option Elab.async false
set_option linter.all false
set_option maxRecDepth 100000
set_option maxHeartbeats 2000000
/-! ADDRESSES and what relocations put. -/
namespace Jo
open L2 (V Key valV)
open Sd07 (Object Section Symbol Reloc)
theorem off_bd {os : List Object} (wf : WF os) (keep : List (Nat × Nat)) (k : Nat × Nat) : Sd07.offsetOf (Sd07.layout os keep) k ≤ 600000000 := by
  have b := total_bd wf keep 4 (by decide)
  rw [layout_eq]
  unfold Sd07.offsetOf
  dsimp only
  cases e : (plc (SK os keep) 4).find? fun y => y.1 == k with
  | none => exact Nat.zero_le _
  | some y =>
    obtain ⟨z, hz, ez⟩ := List.mem_map.mp (List.mem_of_find?_eq_some e)
    have := (KPS_all (SK os keep) 4).1 z hz
    rw [← ez]
    dsimp only
    omega
/-- the address of what is stood for -/
def adr (os : List Object) (keep : List (Nat × Nat)) (base : Nat) : Option (Nat × Nat) → Nat
  | none => 0
  | some k => match Sd07.symbol os k with
    | none => 0
    | some y => match y.place with
      | .none => 0
      | .number n => n
      | .inside s n => base + Sd07.offsetOf (Sd07.layout os keep) (k.1, s) + n
theorem placed_eq (os : List Object) (x : Nat × Nat) : Sd07.placed os x = (tgt os x).bind fun k => (Sd07.symbol os k).map fun t => (k.1, t.place) := by
  unfold Sd07.placed tgt
  cases e : Sd07.symbol os x with
  | none => rfl
  | some y =>
    by_cases h : y.binding = 0
    · simp only [h, if_true, Option.bind_some, e, Option.map_some]
    · simp only [h, if_false]
      cases Sd07.named os y.name <;> rfl
theorem address_eq {os : List Object} (wf : WF os) (keep : List (Nat × Nat)) {base : Nat} (hb : base < 140737488355328) (x : Nat × Nat) : Sd07.address (Sd07.layout os keep) base (Sd07.placed os x) = adr os keep base (tgt os x) := by
  rw [placed_eq]
  have pl := tgt_placed wf x
  cases e : tgt os x with
  | none => rfl
  | some k =>
    obtain ⟨y, o, e1, e2, e3, e4⟩ := pl k e
    unfold adr
    simp only [Option.bind_some, e1, Option.map_some]
    cases ep : y.place with
    | none => exact absurd ep e2
    | number n => rfl
    | inside s n =>
      have b1 := (((wf.at e3).sym y e4).2.2.1 s n ep).2
      have b2 := off_bd wf keep (k.1, s)
      show (base + _ + n) % 2 ^ 64 = _
      exact Nat.mod_eq_of_lt (by omega)
/-! ### values -/
def tot (kind S P : Nat) (A : Int) : Int := (if kind = 1 ∨ kind = 3 then (S : Int) + A - P else (S : Int) + A) % 18446744073709551616
def sgn (t : Int) : Int := if 9223372036854775808 ≤ t then t - 18446744073709551616 else t
def fit (kind : Nat) (t : Int) : Bool := if kind = 0 then true else if kind = 2 then decide (t < 4294967296) else if kind = 1 then decide (-2147483648 ≤ sgn t) && decide (sgn t ≤ 2147483647) else decide (-128 ≤ sgn t) && decide (sgn t ≤ 127)
theorem tot_bd (kind S P : Nat) (A : Int) : 0 ≤ tot kind S P A ∧ tot kind S P A < 18446744073709551616 := by
  unfold tot
  exact ⟨Int.emod_nonneg _ (by decide), Int.emod_lt_of_pos _ (by decide)⟩
theorem signed_sgn {t : Int} (h0 : 0 ≤ t) : Sd07.signed 64 t.toNat = sgn t := by
  unfold Sd07.signed sgn
  have e1 : (2 : Nat) ^ (64 - 1) = 9223372036854775808 := by decide
  have e2 : (2 : Int) ^ 64 = 18446744073709551616 := by decide
  rw [e1, e2]
  by_cases h : t.toNat < 9223372036854775808
  · rw [if_pos h, if_neg (by omega)]; omega
  · rw [if_neg h, if_pos (by omega)]; omega
theorem value_eq {kind : Nat} (hk : kind ≤ 3) (S P : Nat) (A : Int) : Sd07.value kind S P A = if fit kind (tot kind S P A) = true then some (if kind = 1 then (sgn (tot kind S P A) % 4294967296).toNat else if kind = 3 then (sgn (tot kind S P A) % 256).toNat else (tot kind S P A).toNat) else none := by
  unfold Sd07.value
  have e2 : (2 : Int) ^ 64 = 18446744073709551616 := by decide
  have e3 : (2 : Int) ^ 31 = 2147483648 := by decide
  have e4 : (2 : Int) ^ 32 = 4294967296 := by decide
  have e5 : (2 : Nat) ^ 32 = 4294967296 := by decide
  simp only [e2, e3, e4, e5]
  have hs : ∀ z : Int, Sd07.signed 64 (z % 18446744073709551616).toNat = sgn (z % 18446744073709551616) := fun z => signed_sgn (Int.emod_nonneg _ (by decide))
  rw [hs]
  have c : kind = 0 ∨ kind = 1 ∨ kind = 2 ∨ kind = 3 := by omega
  rcases c with c | c | c | c
  · subst c
    simp [tot, fit]
  · subst c
    have et : tot 1 S P A = ((S : Int) + A - P) % 18446744073709551616 := by simp [tot]
    rw [et]
    generalize ((S : Int) + A - P) % 18446744073709551616 = X
    have f1 : fit 1 X = (decide (-2147483648 ≤ sgn X) && decide (sgn X ≤ 2147483647)) := by simp [fit]
    rw [f1, if_neg (by decide), if_pos rfl, if_pos rfl]
    by_cases h : -2147483648 ≤ sgn X ∧ sgn X < 2147483648
    · rw [if_pos h, decide_eq_true h.1, decide_eq_true (show sgn X ≤ 2147483647 by omega)]
      rfl
    · rw [if_neg h, if_neg]
      simp only [Bool.and_eq_true, decide_eq_true_eq]
      omega
  · subst c
    have et : tot 2 S P A = ((S : Int) + A) % 18446744073709551616 := by simp [tot]
    rw [et]
    have h0 : 0 ≤ ((S : Int) + A) % 18446744073709551616 := Int.emod_nonneg _ (by decide)
    generalize ((S : Int) + A) % 18446744073709551616 = X at h0 ⊢
    have f1 : fit 2 X = decide (X < 4294967296) := by simp [fit]
    rw [f1, if_neg (by decide), if_neg (by decide), if_pos rfl]
    by_cases h : X.toNat < 4294967296
    · rw [if_pos h, if_pos (decide_eq_true (by omega))]
      rfl
    · rw [if_neg h, if_neg]
      simp only [decide_eq_true_eq]
      omega
  · subst c
    have et : tot 3 S P A = ((S : Int) + A - P) % 18446744073709551616 := by simp [tot]
    rw [et]
    generalize ((S : Int) + A - P) % 18446744073709551616 = X
    have f1 : fit 3 X = (decide (-128 ≤ sgn X) && decide (sgn X ≤ 127)) := by simp [fit]
    rw [f1, if_neg (by decide), if_neg (by decide), if_neg (by decide)]
    by_cases h : -128 ≤ sgn X ∧ sgn X < 128
    · rw [if_pos h, decide_eq_true h.1, decide_eq_true (show sgn X ≤ 127 by omega)]
      rfl
    · rw [if_neg h, if_neg]
      simp only [Bool.and_eq_true, decide_eq_true_eq]
      omega
theorem le_mod {w a b : Nat} (h : a % 256 ^ w = b % 256 ^ w) : Sd07.le w a = Sd07.le w b := by
  have key : ∀ (n i : Nat), i < w → n / 256 ^ i % 256 = (n % 256 ^ w) / 256 ^ i % 256 := fun n i hi => by
    have e : 256 ^ w = 256 ^ i * 256 ^ (w - i) := by rw [← Nat.pow_add]; congr 1; omega
    rw [e, Nat.mod_mul_right_div_self]
    have d : 256 ∣ 256 ^ (w - i) := by
      have : w - i = (w - i - 1) + 1 := by omega
      rw [this, Nat.pow_succ]
      exact Nat.dvd_mul_left _ _
    exact (Nat.mod_mod_of_dvd _ d).symm
  unfold Sd07.le
  refine List.map_congr_left fun i hi => ?_
  have hi := List.mem_range.mp hi
  rw [key a i hi, key b i hi, h]
theorem value_some {kind : Nat} (hk : kind ≤ 3) (S P : Nat) (A : Int) : (Sd07.value kind S P A).isSome = fit kind (tot kind S P A) := by
  rw [value_eq hk]
  cases fit kind (tot kind S P A) <;> rfl
theorem value_le {kind : Nat} (hk : kind ≤ 3) (S P : Nat) (A : Int) (h : fit kind (tot kind S P A) = true) : Sd07.le (Sd07.width kind) ((Sd07.value kind S P A).getD 0) = Sd07.le (Sd07.width kind) (tot kind S P A).toNat := by
  rw [value_eq hk, if_pos h]
  show Sd07.le _ (if kind = 1 then _ else _) = _
  obtain ⟨b0, b1⟩ := tot_bd kind S P A
  generalize tot kind S P A = X at b0 b1
  unfold sgn
  have c : kind = 0 ∨ kind = 1 ∨ kind = 2 ∨ kind = 3 := by omega
  rcases c with c | c | c | c
  · subst c; rfl
  · subst c
    rw [if_pos rfl]
    refine le_mod ?_
    show _ % 4294967296 = _ % 4294967296
    split <;> omega
  · subst c; rfl
  · subst c
    rw [if_neg (by decide), if_pos rfl]
    refine le_mod ?_
    show _ % 256 = _ % 256
    split <;> omega
/-- what the relocation k puts -/
def rval (os : List Object) (keep : List (Nat × Nat)) (base : Nat) (k : Nat × Nat) (r : Reloc) : Int := tot r.kind (adr os keep base (tgt os (k.1, r.symbol))) (base + Sd07.offsetOf (Sd07.layout os keep) (k.1, r.sec) + r.offset) r.addend
theorem valueOf_eq {os : List Object} (wf : WF os) (keep : List (Nat × Nat)) {base : Nat} (hb : base < 140737488355328) {k : Nat × Nat} {r : Reloc} (h : rlc os k = some r) :
    Sd07.valueOf os (Sd07.layout os keep) base (k.1, k.2, r) = Sd07.value r.kind (adr os keep base (tgt os (k.1, r.symbol))) (base + Sd07.offsetOf (Sd07.layout os keep) (k.1, r.sec) + r.offset) r.addend := by
  unfold Sd07.valueOf
  dsimp only
  rw [address_eq wf keep hb]
  congr 1
  refine Nat.mod_eq_of_lt ?_
  have b := off_bd wf keep (k.1, r.sec)
  unfold rlc at h
  cases e : os[k.1]? with
  | none => rw [e] at h; cases h
  | some o =>
    rw [e] at h
    obtain ⟨_, _, _, _, s, h1, _, h3⟩ := (wf.at e).rel r (List.mem_of_getElem? h)
    have := ((wf.at e).sec s (List.mem_of_getElem? h1)).2.2.1
    omega
end Jo
set_option Elab.async false
set_option linter.all false
set_option maxRecDepth 100000
set_option maxHeartbeats 2000000
/-! CLASSES: instances made. -/
namespace Jo
open PySem PySem.Spec L2 JX
open PyProof.Rows hiding St frameOf passOn
open Sd07 (Object Section Symbol Reloc)
def sp_init (C : Addr) (fs : List Str) : Sp := fun vs H Q _ => ∃ p dx us, vs = .ref p :: us ∧ us.length = fs.length ∧ H p = some (.ins C dx []) ∧
  ∀ H' flds, H' p = some (.ins C dx flds) → (∀ (i : Nat) (f : Str) (v : V), fs[i]? = some f → us[i]? = some v → flds.lookup f = some v) → (∀ b o, H b = some o → b ≠ p → H' b = some o) → Q .non H'
structure ClsIn (K : PySem.W.Frag) (mg : Str → Option Value) (name qual : Str) (st : Stmt) (fs : List Str) : Prop where
  ex : ∃ C fI fd, mg name = some (.ref C) ∧ Cls K C ∧ (∀ f ∈ fs, NoAttr K C f) ∧ Mk K C fI ∧ Fun K "__init__" qual st fI fd ∧ Binds K fd ("self" :: fs) []
structure MkCal (P : Program) (w : World) (K : PySem.W.Frag) (mg : Str → Option Value) (base : Heap) (name : Str) (fs : List Str) : Prop where
  ex : ∃ C fI fd, mg name = some (.ref C) ∧ Cls K C ∧ (∀ f ∈ fs, NoAttr K C f) ∧ Mk K C fI ∧ Binds K fd ("self" :: fs) [] ∧ FnOk P w K mg base CX0 1 fI fd ("self" :: fs) (sp_init C fs)
theorem mak_end {K : PySem.W.Frag} {C : Addr} {fs : List Str} {vs : List V} {H1 : Hp} {Q : VK} {E : XK} (h2 : Cls K C) (h3 : ∀ f ∈ fs, NoAttr K C f) (hl : vs.length = fs.length)
    (q : ∀ H2 a, Same H1 H2 → H1 a = none → (∀ (i : Nat) (f : Str) (v : V), fs[i]? = some f → vs[i]? = some v → Fd K H2 a f v) → Q (.ref a) H2) :
    ∀ x dx, H1 x = none → H1 dx = none → dx ≠ x → sp_init C fs (.ref x :: (vs ++ [])) (upd (upd H1 dx (.own x)) x (.ins C dx [])) (fun v H2 => v = .non ∧ Q (.ref x) H2) E := by
  intro y dx hy hdx hne
  refine ⟨y, dx, vs, by rw [List.append_nil], hl, upd_same, fun H' flds g1 g2 g3 => ⟨rfl, ?_⟩⟩
  exact q H' y (Same.made hy hdx g3) hy fun i f v e1 e2 => ⟨C, dx, flds, g1, h2, h3 f (List.mem_of_getElem? e1), g2 i f v e1 e2⟩
theorem look4 {f1 f2 f3 f4 : Str} (h : [f1, f2, f3, f4].Nodup) (a b c d : V) : ∀ (i : Nat) (f : Str) (v : V), [f1, f2, f3, f4][i]? = some f → [a, b, c, d][i]? = some v → (putF f4 d (putF f3 c (putF f2 b (putF f1 a [])))).lookup f = some v := by
  simp only [List.nodup_cons, List.mem_cons, not_or, List.not_mem_nil, not_false_eq_true, and_true, List.nodup_nil] at h
  obtain ⟨⟨n12, n13, n14⟩, ⟨n23, n24⟩, n34⟩ := h
  intro i f v e1 e2
  rw [lookup_putF, lookup_putF, lookup_putF, lookup_putF]
  match i, e1, e2 with
  | 0, e1, e2 => cases e1; cases e2; rw [if_neg n14, if_neg n13, if_neg n12, if_pos rfl]
  | 1, e1, e2 => cases e1; cases e2; rw [if_neg n24, if_neg n23, if_pos rfl]
  | 2, e1, e2 => cases e1; cases e2; rw [if_neg n34, if_pos rfl]
  | 3, e1, e2 => cases e1; cases e2; rw [if_pos rfl]
  | i + 4, e1, e2 => simp at e1
theorem look5 {f1 f2 f3 f4 f5 : Str} (h : [f1, f2, f3, f4, f5].Nodup) (a b c d g : V) : ∀ (i : Nat) (f : Str) (v : V), [f1, f2, f3, f4, f5][i]? = some f → [a, b, c, d, g][i]? = some v → (putF f5 g (putF f4 d (putF f3 c (putF f2 b (putF f1 a []))))).lookup f = some v := by
  simp only [List.nodup_cons, List.mem_cons, not_or, List.not_mem_nil, not_false_eq_true, and_true, List.nodup_nil] at h
  obtain ⟨⟨n12, n13, n14, n15⟩, ⟨n23, n24, n25⟩, ⟨n34, n35⟩, n45⟩ := h
  intro i f v e1 e2
  rw [lookup_putF, lookup_putF, lookup_putF, lookup_putF, lookup_putF]
  match i, e1, e2 with
  | 0, e1, e2 => cases e1; cases e2; rw [if_neg n15, if_neg n14, if_neg n13, if_neg n12, if_pos rfl]
  | 1, e1, e2 => cases e1; cases e2; rw [if_neg n25, if_neg n24, if_neg n23, if_pos rfl]
  | 2, e1, e2 => cases e1; cases e2; rw [if_neg n35, if_neg n34, if_pos rfl]
  | 3, e1, e2 => cases e1; cases e2; rw [if_neg n45, if_pos rfl]
  | 4, e1, e2 => cases e1; cases e2; rw [if_pos rfl]
  | i + 5, e1, e2 => simp at e1
section
variable {P : Program} {w : World} {K : PySem.W.Frag} {mg : Str → Option Value} {base : Heap}
theorem len_init {C : Addr} {fs : List Str} : ∀ (vs : List V) (H : Hp) (Q : VK) (E : XK), sp_init C fs vs H Q E → vs.length = (("self" : Str) :: fs).length := fun vs H Q E ⟨p, dx, us, e, hl, _⟩ => by rw [e, List.length_cons, List.length_cons, hl]
theorem fin4 {C p dx : Addr} {H : Hp} {Q : VK} {f1 f2 f3 f4 : Str} {a b c d : V} (h : [f1, f2, f3, f4].Nodup)
    (q : ∀ H' flds, H' p = some (.ins C dx flds) → (∀ (i : Nat) (f : Str) (v : V), [f1, f2, f3, f4][i]? = some f → [a, b, c, d][i]? = some v → flds.lookup f = some v) → (∀ b o, H b = some o → b ≠ p → H' b = some o) → Q .non H') {o1 o2 o3 : HO} :
    Q .non (upd (upd (upd (upd H p o1) p o2) p o3) p (.ins C dx (putF f4 d (putF f3 c (putF f2 b (putF f1 a [])))))) :=
  q _ _ upd_same (look4 h a b c d) fun b' o e hb => by rw [upd_ne hb, upd_ne hb, upd_ne hb, upd_ne hb]; exact e
theorem fin5 {C p dx : Addr} {H : Hp} {Q : VK} {f1 f2 f3 f4 f5 : Str} {a b c d g : V} (h : [f1, f2, f3, f4, f5].Nodup)
    (q : ∀ H' flds, H' p = some (.ins C dx flds) → (∀ (i : Nat) (f : Str) (v : V), [f1, f2, f3, f4, f5][i]? = some f → [a, b, c, d, g][i]? = some v → flds.lookup f = some v) → (∀ b o, H b = some o → b ≠ p → H' b = some o) → Q .non H') {o1 o2 o3 o4 : HO} :
    Q .non (upd (upd (upd (upd (upd H p o1) p o2) p o3) p o4) p (.ins C dx (putF f5 g (putF f4 d (putF f3 c (putF f2 b (putF f1 a []))))))) :=
  q _ _ upd_same (look5 h a b c d g) fun b' o e hb => by rw [upd_ne hb, upd_ne hb, upd_ne hb, upd_ne hb, upd_ne hb]; exact e
theorem lt4 {f1 f2 f3 : Str} {a b c : V} : (putF f3 c (putF f2 b (putF f1 a []))).length < 1000 := by
  have h1 := length_putF f1 a []
  have h2 := length_putF f2 b (putF f1 a [])
  have h3 := length_putF f3 c (putF f2 b (putF f1 a []))
  simp only [List.length_nil] at h1
  omega
theorem lt3 {f1 f2 : Str} {a b : V} : (putF f2 b (putF f1 a [])).length < 1000 := by
  have h1 := length_putF f1 a []
  have h2 := length_putF f2 b (putF f1 a [])
  simp only [List.length_nil] at h1
  omega
theorem lt2 {f1 : Str} {a : V} : (putF f1 a []).length < 1000 := by
  have h1 := length_putF f1 a []
  simp only [List.length_nil] at h1
  omega
theorem lt5 {f1 f2 f3 f4 : Str} {a b c d : V} : (putF f4 d (putF f3 c (putF f2 b (putF f1 a [])))).length < 1000 := by
  have h1 := length_putF f1 a []
  have h2 := length_putF f2 b (putF f1 a [])
  have h3 := length_putF f3 c (putF f2 b (putF f1 a []))
  have h4 := length_putF f4 d (putF f3 c (putF f2 b (putF f1 a [])))
  simp only [List.length_nil] at h1
  omega
abbrev fSection : List Str := ["kind", "alignment", "marked", "size"]
abbrev fSymbol : List Str := ["name", "binding", "section", "value"]
abbrev fReloc : List Str := ["section", "symbol", "offset", "kind", "addend"]
abbrev fPart : List Str := ["sections", "contents", "symbols", "relocations"]
abbrev fLayout : List Str := ["base", "addresses", "image_end", "whole_end"]
theorem sc_Section : FnScope ("self" :: fSection) ("self" :: fSection) (defScope (inClass (top 15) 0)) := ⟨rfl, rfl, rfl, by decide +kernel, rfl, by decide +kernel, by decide +kernel⟩
theorem mk_Section (D : ClsIn K mg "Section" "Section.__init__" (inClass (top 15) 0) fSection) : MkCal P w K mg base "Section" fSection := by
  obtain ⟨C, fI, fd, h1, h2, h3, h4, h5, h6⟩ := D.ex
  refine ⟨C, fI, fd, h1, h2, h3, h4, h6, h5.ok sc_Section len_init fun cdv A outer s H vs Q E hr h => ?_⟩
  obtain ⟨p, dx, us, rfl, hl, hp, q⟩ := h
  match us, hl with
  | [a, b, c, d], _ =>
    refine ⟨_, pss_cons (ps_fld (pv 0) (pv 1) rfl) (pss_cons (ps_fld (pv 0) (pv 2) rfl) (pss_cons (ps_fld (pv 0) (pv 3) rfl) (pss_one (ps_fld (pv 0) (pv 4) rfl)))), ?_⟩
    refine ⟨_, rfl, _, rfl, p, C, dx, _, rfl, hp, h2, h3 _ (by decide +kernel), (by show 0 < 1000; decide), _, rfl, _, rfl, p, C, dx, _, rfl, upd_same, h2, h3 _ (by decide +kernel), lt2, _, rfl, _, rfl, p, C, dx, _, rfl, upd_same, h2, h3 _ (by decide +kernel), lt3, _, rfl, _, rfl, p, C, dx, _, rfl, upd_same, h2, h3 _ (by decide +kernel), lt4, ?_⟩
    exact fin4 (by decide +kernel) q
theorem sc_Symbol : FnScope ("self" :: fSymbol) ("self" :: fSymbol) (defScope (inClass (top 16) 0)) := ⟨rfl, rfl, rfl, by decide +kernel, rfl, by decide +kernel, by decide +kernel⟩
theorem mk_Symbol (D : ClsIn K mg "Symbol" "Symbol.__init__" (inClass (top 16) 0) fSymbol) : MkCal P w K mg base "Symbol" fSymbol := by
  obtain ⟨C, fI, fd, h1, h2, h3, h4, h5, h6⟩ := D.ex
  refine ⟨C, fI, fd, h1, h2, h3, h4, h6, h5.ok sc_Symbol len_init fun cdv A outer s H vs Q E hr h => ?_⟩
  obtain ⟨p, dx, us, rfl, hl, hp, q⟩ := h
  match us, hl with
  | [a, b, c, d], _ =>
    refine ⟨_, pss_cons (ps_fld (pv 0) (pv 1) rfl) (pss_cons (ps_fld (pv 0) (pv 2) rfl) (pss_cons (ps_fld (pv 0) (pv 3) rfl) (pss_one (ps_fld (pv 0) (pv 4) rfl)))), ?_⟩
    refine ⟨_, rfl, _, rfl, p, C, dx, _, rfl, hp, h2, h3 _ (by decide +kernel), (by show 0 < 1000; decide), _, rfl, _, rfl, p, C, dx, _, rfl, upd_same, h2, h3 _ (by decide +kernel), lt2, _, rfl, _, rfl, p, C, dx, _, rfl, upd_same, h2, h3 _ (by decide +kernel), lt3, _, rfl, _, rfl, p, C, dx, _, rfl, upd_same, h2, h3 _ (by decide +kernel), lt4, ?_⟩
    exact fin4 (by decide +kernel) q
theorem sc_Part : FnScope ("self" :: fPart) ("self" :: fPart) (defScope (inClass (top 18) 0)) := ⟨rfl, rfl, rfl, by decide +kernel, rfl, by decide +kernel, by decide +kernel⟩
theorem mk_Part (D : ClsIn K mg "Part" "Part.__init__" (inClass (top 18) 0) fPart) : MkCal P w K mg base "Part" fPart := by
  obtain ⟨C, fI, fd, h1, h2, h3, h4, h5, h6⟩ := D.ex
  refine ⟨C, fI, fd, h1, h2, h3, h4, h6, h5.ok sc_Part len_init fun cdv A outer s H vs Q E hr h => ?_⟩
  obtain ⟨p, dx, us, rfl, hl, hp, q⟩ := h
  match us, hl with
  | [a, b, c, d], _ =>
    refine ⟨_, pss_cons (ps_fld (pv 0) (pv 1) rfl) (pss_cons (ps_fld (pv 0) (pv 2) rfl) (pss_cons (ps_fld (pv 0) (pv 3) rfl) (pss_one (ps_fld (pv 0) (pv 4) rfl)))), ?_⟩
    refine ⟨_, rfl, _, rfl, p, C, dx, _, rfl, hp, h2, h3 _ (by decide +kernel), (by show 0 < 1000; decide), _, rfl, _, rfl, p, C, dx, _, rfl, upd_same, h2, h3 _ (by decide +kernel), lt2, _, rfl, _, rfl, p, C, dx, _, rfl, upd_same, h2, h3 _ (by decide +kernel), lt3, _, rfl, _, rfl, p, C, dx, _, rfl, upd_same, h2, h3 _ (by decide +kernel), lt4, ?_⟩
    exact fin4 (by decide +kernel) q
theorem sc_Layout : FnScope ("self" :: fLayout) ("self" :: fLayout) (defScope (inClass (top 29) 0)) := ⟨rfl, rfl, rfl, by decide +kernel, rfl, by decide +kernel, by decide +kernel⟩
theorem mk_Layout (D : ClsIn K mg "Layout" "Layout.__init__" (inClass (top 29) 0) fLayout) : MkCal P w K mg base "Layout" fLayout := by
  obtain ⟨C, fI, fd, h1, h2, h3, h4, h5, h6⟩ := D.ex
  refine ⟨C, fI, fd, h1, h2, h3, h4, h6, h5.ok sc_Layout len_init fun cdv A outer s H vs Q E hr h => ?_⟩
  obtain ⟨p, dx, us, rfl, hl, hp, q⟩ := h
  match us, hl with
  | [a, b, c, d], _ =>
    refine ⟨_, pss_cons (ps_fld (pv 0) (pv 1) rfl) (pss_cons (ps_fld (pv 0) (pv 2) rfl) (pss_cons (ps_fld (pv 0) (pv 3) rfl) (pss_one (ps_fld (pv 0) (pv 4) rfl)))), ?_⟩
    refine ⟨_, rfl, _, rfl, p, C, dx, _, rfl, hp, h2, h3 _ (by decide +kernel), (by show 0 < 1000; decide), _, rfl, _, rfl, p, C, dx, _, rfl, upd_same, h2, h3 _ (by decide +kernel), lt2, _, rfl, _, rfl, p, C, dx, _, rfl, upd_same, h2, h3 _ (by decide +kernel), lt3, _, rfl, _, rfl, p, C, dx, _, rfl, upd_same, h2, h3 _ (by decide +kernel), lt4, ?_⟩
    exact fin4 (by decide +kernel) q
theorem sc_Reloc : FnScope ("self" :: fReloc) ("self" :: fReloc) (defScope (inClass (top 17) 0)) := ⟨rfl, rfl, rfl, by decide +kernel, rfl, by decide +kernel, by decide +kernel⟩
theorem mk_Reloc (D : ClsIn K mg "Relocation" "Relocation.__init__" (inClass (top 17) 0) fReloc) : MkCal P w K mg base "Relocation" fReloc := by
  obtain ⟨C, fI, fd, h1, h2, h3, h4, h5, h6⟩ := D.ex
  refine ⟨C, fI, fd, h1, h2, h3, h4, h6, h5.ok sc_Reloc len_init fun cdv A outer s H vs Q E hr h => ?_⟩
  obtain ⟨p, dx, us, rfl, hl, hp, q⟩ := h
  match us, hl with
  | [a, b, c, d, g], _ =>
    refine ⟨_, pss_cons (ps_fld (pv 0) (pv 1) rfl) (pss_cons (ps_fld (pv 0) (pv 2) rfl) (pss_cons (ps_fld (pv 0) (pv 3) rfl) (pss_cons (ps_fld (pv 0) (pv 4) rfl) (pss_one (ps_fld (pv 0) (pv 5) rfl))))), ?_⟩
    refine ⟨_, rfl, _, rfl, p, C, dx, _, rfl, hp, h2, h3 _ (by decide +kernel), (by show 0 < 1000; decide), _, rfl, _, rfl, p, C, dx, _, rfl, upd_same, h2, h3 _ (by decide +kernel), lt2, _, rfl, _, rfl, p, C, dx, _, rfl, upd_same, h2, h3 _ (by decide +kernel), lt3, _, rfl, _, rfl, p, C, dx, _, rfl, upd_same, h2, h3 _ (by decide +kernel), lt4, _, rfl, _, rfl, p, C, dx, _, rfl, upd_same, h2, h3 _ (by decide +kernel), lt5, ?_⟩
    exact fin5 (by decide +kernel) q
end
end Jo
set_option Elab.async false
set_option linter.all false
set_option maxRecDepth 100000
set_option maxHeartbeats 2000000
namespace Jo
open PySem PySem.Spec L2 JX
open PyProof.Rows hiding St frameOf passOn
open Sd07 (Object Section Symbol Reloc)
theorem up_int (a : Nat) {n : Nat} (hn : 0 < n) : ((a : Int) + n - 1) / n * n = ((Sd07.up a n : Nat) : Int) := by
  unfold Sd07.up
  have e : ((a + n - 1 : Nat) : Int) = (a : Int) + n - 1 := by omega
  rw [Int.natCast_mul, Int.natCast_ediv, e]
theorem put_keys (l : List KS) (a : Nat) : (Sd07.put l a).1.map (·.1) = l.map (·.1) := by
  rw [putS_put, List.map_map]
  have e : ((fun x => x.1) ∘ fun (z : KS × Nat) => (z.1.1, z.2)) = ((fun (x : KS) => x.1) ∘ fun (z : KS × Nat) => z.1) := rfl
  rw [e, ← List.map_map, putS_fst]
theorem fresh_key {os : List Object} {keep : List (Nat × Nat)} {n i a0 : Nat} {x : KS} (hx : (SK os keep n)[i]? = some x) : (plc (SK os keep) n ++ (Sd07.put ((SK os keep n).take i) a0).1).find? (fun y => y.1 == x.1) = none := by
  refine List.find?_eq_none.mpr fun y hy => ?_
  have mx := SK_mem (List.mem_of_getElem? hx)
  have sx := (SL_mem mx.1).1
  have ne : y.1 ≠ x.1 := by
    rcases List.mem_append.mp hy with q | q
    · obtain ⟨z, hz, rfl⟩ := List.mem_map.mp q
      intro e
      have m : z.1 ∈ (List.range n).flatMap (SK os keep) := by
        rw [← KPS_fst]
        exact List.mem_map.mpr ⟨z, hz, rfl⟩
      obtain ⟨m', hm', hz'⟩ := List.mem_flatMap.mp m
      have mz := SK_mem hz'
      have sz := (SL_mem mz.1).1
      have e : z.1.1 = x.1 := e
      rw [e, sx] at sz
      have e2 : x.2 = z.1.2 := Option.some.inj sz
      have := List.mem_range.mp hm'
      have k1 := mz.2
      have k2 := mx.2
      rw [e2] at k2
      omega
    · intro e
      have m : y.1 ∈ ((SK os keep n).take i).map (·.1) := by
        rw [← put_keys _ a0]
        exact List.mem_map.mpr ⟨y, q, rfl⟩
      have nd : ((SK os keep n).map (·.1)).Nodup := by
        rw [SK_keys]
        exact nest_nd os
      rw [split_at hx, List.map_append, List.map_cons] at nd
      exact (List.nodup_append.mp nd).2.2 y.1 m x.1 (List.mem_cons_self ..) e
  simpa using ne
structure LayAt (K : PySem.W.Frag) (H : Hp) (a : Addr) (os : List Object) (keep : List (Nat × Nat)) (bs : Nat) : Prop where
  base : Fd K H a "base" (.int (bs : Nat))
  adrs : ∃ d, Fd K H a "addresses" (.ref d) ∧ H d = some (.dT (encP bs (plc (SK os keep) 4)))
  ie : Fd K H a "image_end" (.int ((bs + (Sd07.layout os keep).size : Nat) : Int))
  we : Fd K H a "whole_end" (.int ((bs + (Sd07.layout os keep).total : Nat) : Int))
theorem LayAt.same {K : PySem.W.Frag} {H H' : Hp} {a : Addr} {os : List Object} {keep : List (Nat × Nat)} {bs : Nat} (s : Same H H') (h : LayAt K H a os keep bs) : LayAt K H' a os keep bs :=
  ⟨h.base.same s, let ⟨d, h1, h2⟩ := h.adrs; ⟨d, h1.same s, s _ _ h2⟩, h.ie.same s, h.we.same s⟩
section
variable {P : Program} {w : World} {K : PySem.W.Frag} {mg : Str → Option Value} {base : Heap}
/-! ### next_multiple -/
def sp_next : Sp := fun vs H Q _ => ∃ a n : Nat, vs = [.int (a : Int), .int (n : Int)] ∧ 0 < n ∧ n ≤ 4096 ∧ Q (.int ((Sd07.up a n : Nat) : Int)) H
theorem sc_next : FnScope ["address", "step"] ["address", "step"] (defScope (top 30)) := ⟨rfl, rfl, rfl, by decide +kernel, rfl, by decide +kernel, by decide +kernel⟩
theorem ok_next (D : DefIn K mg "next_multiple" (top 30) ["address", "step"]) : Cal P w K mg base CX0 1 "next_multiple" ["address", "step"] sp_next := by
  refine D.ok sc_next (fun vs H Q E h => ?_) (fun f cdv A outer s H vs Q E hr h => ?_)
  · obtain ⟨a, n, rfl, _⟩ := h
    rfl
  · obtain ⟨a, n, rfl, h1, h2, q⟩ := h
    refine ⟨_, pss_one (ps_ret (pe_op op_mul (pe_op op_fdiv (pe_op op_sub (pe_op op_add (pv 0) (pv 1)) pe_int) (pv 1)) (pv 1))), ?_⟩
    refine ⟨_, rfl, _, rfl, _, _, rfl, rfl, _, _, rfl, rfl, _, rfl, _, _, rfl, rfl, ⟨by omega, by omega⟩, _, rfl, _, _, rfl, rfl, .inr ⟨by omega, by omega⟩, ?_⟩
    show Q (.int (((a : Int) + n - 1) / n * n)) H
    rw [up_int a h1]
    exact q
/-! ### kept_of_kind -/
def sp_kind (K : PySem.W.Frag) : Sp := fun vs H Q _ => ∃ l d os kf n, vs = [.ref l, .ref d, .int (n : Nat)] ∧ PartsAt K H l os ∧ WF os ∧ KeptAt H d kf ∧
  ∀ H' r xs, Same H H' → H r = none → H' r = some (.lst xs) → Al (PairAt H') xs (nest (·.sections) (cKnd kf n) os) → Q (.ref r) H'
theorem sc_kind : FnScope ["parts", "kept", "kind", "found", "part_number", "part", "number", "section"] ["parts", "kept", "kind"] (defScope (top 31)) := ⟨rfl, rfl, rfl, by decide +kernel, rfl, by decide +kernel, by decide +kernel⟩
theorem ok_kind (T : Glob K mg) (D : DefIn K mg "kept_of_kind" (top 31) ["parts", "kept", "kind"]) : Cal P w K mg base CX0 1 "kept_of_kind" ["parts", "kept", "kind"] (sp_kind K) := by
  refine D.ok sc_kind (fun vs H Q E h => ?_) (fun f cdv A outer s H vs Q E hr h => ?_)
  · obtain ⟨l, d, os, kf, n, rfl, _⟩ := h
    rfl
  · obtain ⟨l, d, os, kf, n, rfl, ⟨xs, hl, al⟩, wf, kd, q⟩ := h
    have hu := hu_of hr
    refine ⟨_, pss_cons (ps_set (i := 3) sc_kind.nd rfl (Or.inl rfl) (pe_lst pa_nil))
      (pss_cons (ps_for PassesOwn.never rfl (pi_enum rfl T.enum (pa_cons (pv 0) pa_nil)) (pg_tup rfl (pgs_cons (pg_name (i := 4) sc_kind.nd rfl (Or.inl rfl)) (pgs_cons (pg_name (i := 5) sc_kind.nd rfl (Or.inl rfl)) pgs_nil)))
        (pss_one (ps_for PassesOwn.never rfl (pi_enum rfl T.enum (pa_cons (pe_f (pv 5)) pa_nil)) (pg_tup rfl (pgs_cons (pg_name (i := 6) sc_kind.nd rfl (Or.inl rfl)) (pgs_cons (pg_name (i := 7) sc_kind.nd rfl (Or.inl rfl)) pgs_nil)))
          (pss_one (ps_if (PW.pt (pw_and (pt_cmp (pc_eqI (pe_f (pv 7)) (pv 2))) (pw_and1 (pt_cmp (pc_din hu (pe_tup (pa_cons (pv 4) (pa_cons (pv 6) pa_nil))) (pv 1))))))
            (pss_one (ps_expr (pe_bm PySem.F.plainAttrs_list PySem.F.slot_list_append PySem.F.type_list_append mApp (pv 3) (pa_cons (pe_tup (pa_cons (pv 4) (pa_cons (pv 6) pa_nil))) pa_nil)))) pss_nil)))))
      (pss_one (ps_ret (pv 3)))), ?_⟩
    refine ⟨Nat.zero_le _, fun r hr0 => ?_⟩
    refine ⟨_, rfl, l, xs, rfl, SqL.of (Same.upd hr0 _ _ hl), for_enum (K := K) (a := l) (xs := xs) (i1 := 4) (i2 := 5) (fun i σ H' => ∃ v3 v4 v5 v6 zs, σ = [some (.ref l), some (.ref d), some (.int (n : Nat)), some (.ref r), v3, v4, v5, v6] ∧ Same H H' ∧ H' r = some (.lst zs) ∧ Al (PairAt H') zs (nest (·.sections) (cKnd kf n) (os.take i)))
      ⟨none, none, none, none, [], rfl, Same.upd hr0, upd_same, Al.nil⟩ (fun i σ H' _ ⟨_, _, _, _, _, _, s1, _⟩ => SqL.of (s1 _ _ hl)) ?_ ?_⟩
    · rintro i x σ H' t hx ⟨v3, v4, v5, v6, zs, rfl, s1, hr1, al1⟩ ht
      obtain ⟨o, a, ho, rfl, g⟩ := al.get hx
      obtain ⟨ly, ys, f1, f2, f3⟩ := g.sections
      have s2 : Same H (upd H' t (.tup [.int (i : Nat), .ref a])) := s1.trans (Same.upd ht)
      refine ⟨_, rfl, a, _, rfl, f1.same s2, ly, ys, rfl, SqL.of (s2 _ _ f2), for_enum (K := K) (a := ly) (xs := ys) (i1 := 6) (i2 := 7) (fun j σ H3 => ∃ v5 v6 zs, σ = [some (.ref l), some (.ref d), some (.int (n : Nat)), some (.ref r), some (.int (i : Nat)), some (.ref a), v5, v6] ∧ Same H H3 ∧ H3 r = some (.lst zs) ∧ Al (PairAt H3) zs (nest (·.sections) (cKnd kf n) (os.take i) ++ inn (cKnd kf n) i (o.sections.take j)))
        ⟨v5, v6, zs, rfl, s2, Same.upd ht _ _ hr1, by rw [List.take_zero]; show Al _ _ (_ ++ []); rw [List.append_nil]; exact al1.mono fun _ _ g => g.same (Same.upd ht)⟩ (fun j σ H3 _ ⟨_, _, _, _, s3, _⟩ => SqL.of (s3 _ _ f2)) ?_ ?_⟩
      · rintro j x σ H3 t3 hx3 ⟨v5, v6, zs, rfl, s3, hr3, al3⟩ ht3
        obtain ⟨y, c, hy, rfl, gy⟩ := f3.get hx3
        have s4 : Same H (upd H3 t3 (.tup [.int (j : Nat), .ref c])) := s3.trans (Same.upd ht3)
        have gy := gy.same s4
        have hr4 := Same.upd (o := .tup [.int (j : Nat), .ref c]) ht3 _ _ hr3
        have al4 := al3.mono fun _ _ g => g.same (Same.upd (o := .tup [.int (j : Nat), .ref c]) ht3)
        generalize upd H3 t3 (.tup [.int (j : Nat), .ref c]) = H4 at s4 gy hr4 al4
        have stay : ∀ H5, Same H4 H5 → cKnd kf n i j y = false → ∃ v5 v6 zs', [some (V.ref l), some (.ref d), some (.int (n : Nat)), some (.ref r), some (.int (i : Nat)), some (.ref a), some (V.int (j : Nat)), some (V.ref c)] = [some (V.ref l), some (.ref d), some (.int (n : Nat)), some (.ref r), some (.int (i : Nat)), some (.ref a), v5, v6] ∧ Same H H5 ∧ H5 r = some (.lst zs') ∧ Al (PairAt H5) zs' (nest (·.sections) (cKnd kf n) (os.take i) ++ inn (cKnd kf n) i (o.sections.take (j + 1))) := fun H5 s5 hc => by
          refine ⟨_, _, zs, rfl, s4.trans s5, s5 _ _ hr4, ?_⟩
          rw [inn_snoc hy, hc]
          show Al _ _ (_ ++ (_ ++ []))
          rw [List.append_nil]
          exact al4.mono fun _ _ g => g.same s5
        refine ⟨_, rfl, c, _, rfl, gy.kind, _, rfl, _, _, rfl, rfl, _, rfl, ?_⟩
        refine ite2 (fun h1 => ?_) (fun h1 => iteF (stay H4 (Same.refl _) ?_))
        · have h1 : ((y.kind : Nat) : Int) = (n : Nat) := of_decide_eq_true h1
          have e1 : y.kind = n := by omega
          refine ⟨_, rfl, _, rfl, (by show 2 ≤ sizeLine; decide), fun u hu0 => ?_⟩
          have s5 := Same.upd (o := .tup (pr (i, j))) hu0
          have hu5 : (upd H4 u (.tup (pr (i, j)))) u = some (.tup (pr (i, j))) := upd_same
          obtain ⟨kvs, k1, k2⟩ := kd.same (s4.trans s5)
          refine ⟨_, rfl, d, _, rfl, DGet.t (k := pk (i, j)) k1 hu5, _, rfl, ?_⟩
          rw [k2]
          refine ite2 (fun h2 => ?_) (fun h2 => ?_)
          · have hc : cKnd kf n i j y = true := by
              unfold cKnd
              rw [decide_eq_true e1, h2]; rfl
            have hr5 := s5 _ _ hr4
            have al5 := al4.mono fun _ _ g => g.same s5
            refine ⟨_, rfl, .inl ⟨rfl, _, SqL.of hr5⟩, _, rfl, _, rfl, (by show 2 ≤ sizeLine; decide), fun p hp => ?_⟩
            refine ⟨r, _, _, rfl, rfl, Same.upd hp _ _ hr5, ?_, ?_⟩
            · rw [al5.1]
              exact nest_bd wf.n (fun o ho => Nat.le_trans (wf.all o ho).ns (by decide)) ho (List.getElem?_eq_some_iff.mp hy).1
            · refine ⟨_, _, _, rfl, Same.put ((s4.trans s5).trans (Same.upd hp)) hr0, upd_same, ?_⟩
              rw [inn_snoc hy, hc, if_pos rfl, ← List.append_assoc]
              exact al_app al5 hr5 hp
          · refine stay _ s5 ?_
            unfold cKnd
            have : kf (i, j) = false := by
              cases q : kf (i, j) with
              | true => exact absurd q h2
              | false => rfl
            rw [this, Bool.and_false]
        · unfold cKnd
          have : ¬ y.kind = n := fun z => h1 (decide_eq_true (by omega))
          rw [decide_eq_false this]; rfl
      · rintro σ H3 ⟨v5, v6, zs, rfl, s3, hr3, al3⟩
        refine ⟨_, _, _, _, zs, rfl, s3, hr3, ?_⟩
        rw [nest_snoc ho]
        rw [take_all (f3.1)] at al3
        exact al3
    · rintro σ H' ⟨v3, v4, v5, v6, zs, rfl, s1, hr1, al1⟩
      rw [take_all al.1] at al1
      exact ⟨_, rfl, q H' r zs s1 hr0 hr1 al1⟩
end
end Jo
set_option Elab.async false
set_option linter.all false
set_option maxRecDepth 100000
set_option maxHeartbeats 2000000
namespace Jo
open PySem PySem.Spec L2 JX
open PyProof.Rows hiding St frameOf passOn
open Sd07 (Object Section Symbol Reloc)
theorem encP_snoc (bs : Nat) (ps : List ((Nat × Nat) × Nat)) (k : Nat × Nat) (p : Nat) : encP bs (ps ++ [(k, p)]) = encP bs ps ++ [(pk k, V.int ((bs + p : Nat) : Int))] := by
  unfold encP
  rw [List.map_append]; rfl
theorem encP_len (bs : Nat) (ps : List ((Nat × Nat) × Nat)) : (encP bs ps).length = ps.length := List.length_map ..
theorem plc_len {os : List Object} (wf : WF os) (keep : List (Nat × Nat)) : ∀ n, (plc (SK os keep) n).length ≤ n * 2048
  | 0 => Nat.le_refl _
  | n + 1 => by
    have a := plc_len wf keep n
    have b := (SK_bd wf keep n).1
    rw [plc_succ, List.length_append, putS_put, List.length_map, ← List.length_map (f := fun (z : KS × Nat) => z.1), putS_fst]
    omega
theorem put_len (l : List KS) (a : Nat) : (Sd07.put l a).1.length = l.length := by
  rw [putS_put, List.length_map, ← List.length_map (f := fun (z : KS × Nat) => z.1), putS_fst]
section
variable {P : Program} {w : World} {K : PySem.W.Frag} {mg : Str → Option Value} {base : Heap}
/-! ### lay_out -/
def sp_lay (K : PySem.W.Frag) : Sp := fun vs H Q _ => ∃ l kd os keep bs, vs = [.ref l, .ref kd, .int (bs : Nat)] ∧ PartsAt K H l os ∧ WF os ∧ KeptAt H kd (fun x => List.contains keep x) ∧ 4096 ∣ bs ∧ ∀ H' a, Same H H' → LayAt K H' a os keep bs → Q (.ref a) H'
theorem sc_lay : FnScope ["parts", "kept", "base", "addresses", "ends", "at", "kind", "pair", "section"] ["parts", "kept", "base"] (defScope (top 32)) := ⟨rfl, rfl, rfl, by decide +kernel, rfl, by decide +kernel, by decide +kernel⟩
theorem ok_lay (T : Glob K mg) (D : DefIn K mg "lay_out" (top 32) ["parts", "kept", "base"]) (G1 : Cal P w K mg base CX0 1 "next_multiple" ["address", "step"] sp_next) (G2 : Cal P w K mg base CX0 1 "kept_of_kind" ["parts", "kept", "kind"] (sp_kind K))
    (M : MkCal P w K mg base "Layout" fLayout) : Cal P w K mg base CX0 3 "lay_out" ["parts", "kept", "base"] (sp_lay K) := by
  obtain ⟨C, fI, fd, m1, m2, m3, m4, m5, m6⟩ := M.ex
  refine D.ok sc_lay (fun vs H Q E h => ?_) (fun f cdv A outer s H vs Q E hr h => ?_)
  · obtain ⟨l, kd, os, keep, bs, rfl, _⟩ := h
    rfl
  · obtain ⟨l, kd, os, keep, bs, rfl, hl0, wf, hk, hdv, q⟩ := h
    obtain ⟨ps, hl, al⟩ := id hl0
    have hu := hu_of hr
    have hr1 : Room 1 _ := hr.mono (by decide)
    have zl : sizeLine = 16777216 := rfl
    refine ⟨_, pss_cons (ps_set (i := 3) sc_lay.nd rfl (Or.inl rfl) pe_dnewT)
      (pss_cons (ps_set (i := 4) sc_lay.nd rfl (Or.inl rfl) pe_dnewK)
      (pss_cons (ps_set (i := 5) sc_lay.nd rfl (Or.inl rfl) (pv 2))
      (pss_cons (ps_for PassesOwn.never rfl (pi_tup (pe_tup (pa_cons (pe_gi T.code) (pa_cons (pe_gi T.constants) (pa_cons (pe_gi T.data) (pa_cons (pe_gi T.zeros) pa_nil)))))) (pg_name (i := 6) sc_lay.nd rfl (Or.inl rfl))
        (pss_cons (ps_set (i := 5) sc_lay.nd rfl (Or.inl rfl) (pe_cal G1 hr1 pass0 (pa_cons (pv 5) (pa_cons (pe_gi T.page) pa_nil))))
        (pss_cons (ps_for PassesOwn.never rfl (pi_list (pe_cal G2 hr1 pass0 (pa_cons (pv 0) (pa_cons (pv 1) (pa_cons (pv 6) pa_nil))))) (pg_name (i := 7) sc_lay.nd rfl (Or.inl rfl))
          (pss_cons (ps_set (i := 8) sc_lay.nd rfl (Or.inl rfl) (pe_ix ix_list (pe_f (pe_ix ix_list (pv 0) (pe_ix ix_tup (pv 7) pe_int (fun _ _ => rfl)) (fun _ _ => rfl))) (pe_ix ix_tup (pv 7) pe_int (fun _ _ => rfl)) (fun _ _ => rfl)))
          (pss_cons (ps_set (i := 5) sc_lay.nd rfl (Or.inl rfl) (pe_cal G1 hr1 pass0 (pa_cons (pv 5) (pa_cons (pe_f (pv 8)) pa_nil))))
          (pss_cons (ps_dput hu (pv 3) (pv 7) (pv 5) rfl)
          (pss_one (ps_set (i := 5) sc_lay.nd rfl (Or.inl rfl) (pe_op op_add (pv 5) (pe_f (pv 8)))))))))
        (pss_one (ps_dput hu (pv 4) (pv 6) (pv 5) rfl)))))
      (pss_one (ps_ret (pe_make m4 m6 hr rfl m1 m5 .nil pass0 (pa_cons (pv 2) (pa_cons (pv 3) (pa_cons (pe_dget hu (pv 4) (pe_gi T.data) (fun _ _ => rfl)) (pa_cons (pe_dget hu (pv 4) (pe_gi T.zeros) (fun _ _ => rfl)) pa_nil)))))))))), ?_⟩
    intro ad had
    intro en hen
    refine ⟨_, rfl, (by show 4 ≤ sizeLine; decide), fun tp htp => ⟨tp, rfl, ⟨_, SqT.of upd_same⟩, ?_⟩⟩
    have had' : H ad = none := had
    have hen0 : H en = none := (Same.upd had).free hen
    have htp0 : H tp = none := ((Same.upd had).trans (Same.upd hen)).free htp
    have ae : ad ≠ en := fun z => by rw [← z, upd_same] at hen; cases hen
    have at_ : ad ≠ tp := fun z => by rw [← z, upd_ne ae, upd_same] at htp; cases htp
    have et : en ≠ tp := fun z => by rw [← z, upd_same] at htp; cases htp
    have s0 : Same H (upd (upd (upd H ad (.dT [])) en (.dK [])) tp (.tup [.int 0, .int 1, .int 2, .int 3])) := ((Same.upd had).trans (Same.upd hen)).trans (Same.upd htp)
    have h0a : (upd (upd (upd H ad (.dT [])) en (.dK [])) tp (.tup [.int 0, .int 1, .int 2, .int 3])) ad = some (.dT []) := by rw [upd_ne at_, upd_ne ae, upd_same]
    have h0e : (upd (upd (upd H ad (.dT [])) en (.dK [])) tp (.tup [.int 0, .int 1, .int 2, .int 3])) en = some (.dK []) := by rw [upd_ne et, upd_same]
    have h0t : (upd (upd (upd H ad (.dT [])) en (.dK [])) tp (.tup [.int 0, .int 1, .int 2, .int 3])) tp = some (.tup [.int 0, .int 1, .int 2, .int 3]) := upd_same
    refine for_tup (K := K) (a := tp) (xs := [.int 0, .int 1, .int 2, .int 3]) (fun n σ H' => ∃ v6 v7 v8 ek, σ = [some (.ref l), some (.ref kd), some (.int (bs : Nat)), some (.ref ad), some (.ref en), some (.int ((bs + (KPS (SK os keep) n).2 : Nat) : Int)), v6, v7, v8] ∧ Same H H' ∧ H' ad = some (.dT (encP bs (plc (SK os keep) n))) ∧ H' en = some (.dK ek) ∧
        (∀ m : Nat, m < n → valV ek (Sum.inl (m : Int)) = some (.int ((bs + (KPS (SK os keep) (m + 1)).2 : Nat) : Int))) ∧ ek.length ≤ n ∧ H' tp = some (.tup [.int 0, .int 1, .int 2, .int 3]))
      ⟨none, none, none, [], rfl, s0, h0a, h0e, fun m hm => absurd hm (Nat.not_lt_zero _), Nat.le_refl _, h0t⟩ (fun n σ H' _ ⟨_, _, _, _, _, _, _, _, _, _, h⟩ => SqT.of h) ?_ ?_
    · rintro n x σ H' hx ⟨v6, v7, v8, ek, rfl, s1, ha1, he1, hv1, hn1, ht1⟩
      obtain ⟨rfl, hn4⟩ : x = .int (n : Nat) ∧ n < 4 := by
        match n, hx with
        | 0, hx => cases hx; exact ⟨rfl, by decide⟩
        | 1, hx => cases hx; exact ⟨rfl, by decide⟩
        | 2, hx => cases hx; exact ⟨rfl, by decide⟩
        | 3, hx => cases hx; exact ⟨rfl, by decide⟩
        | n + 4, hx => simp at hx
      refine ⟨_, rfl, bs + (KPS (SK os keep) n).2, 4096, rfl, by decide, by decide, ?_⟩
      rw [up_add (by decide) hdv]
      generalize ha0 : Sd07.up (KPS (SK os keep) n).2 4096 = a0
      refine ⟨_, rfl, _, rfl, _, rfl, l, kd, os, _, n, rfl, hl0.same s1, wf, hk.same s1, fun H2 r xs s2 hr0 hr2 al2 => ⟨r, rfl, ⟨_, SqL.of hr2⟩, ?_⟩⟩
      have s12 := s1.trans s2
      have hr0' : H r = none := s1.free hr0
      have ra : ad ≠ r := ne_of_none ha1 hr0
      have re : en ≠ r := ne_of_none he1 hr0
      rw [← SK_keys] at al2
      refine for_list (K := K) (a := r) (xs := xs) (fun i σ H3 => ∃ v7 v8, σ = [some (.ref l), some (.ref kd), some (.int (bs : Nat)), some (.ref ad), some (.ref en), some (.int ((bs + (Sd07.put ((SK os keep n).take i) a0).2 : Nat) : Int)), some (.int (n : Nat)), v7, v8] ∧ Same H H3 ∧
          H3 ad = some (.dT (encP bs (plc (SK os keep) n ++ (Sd07.put ((SK os keep n).take i) a0).1))) ∧ H3 en = some (.dK ek) ∧ H3 tp = some (.tup [.int 0, .int 1, .int 2, .int 3]) ∧ H3 r = some (.lst xs) ∧ Al (PairAt H3) xs ((SK os keep n).map (·.1)))
        ⟨v7, v8, rfl, s12, ?_, s2 _ _ he1, s2 _ _ ht1, hr2, al2⟩ (fun i σ H3 _ ⟨_, _, _, _, _, _, _, h, _⟩ => SqL.of h) ?_ ?_
      · show H2 ad = some (.dT (encP bs (_ ++ [])))
        rw [List.append_nil]
        exact s2 _ _ ha1
      · rintro i x σ H3 hx3 ⟨v7, v8, rfl, s3, ha3, he3, ht3, hr3, al3⟩
        obtain ⟨k, a, hk3, rfl, ga⟩ := al3.get hx3
        rw [List.getElem?_map] at hk3
        obtain ⟨sx, hsx, rfl⟩ : ∃ sx, (SK os keep n)[i]? = some sx ∧ sx.1 = k := by
          cases e : (SK os keep n)[i]? with
          | none => rw [e] at hk3; cases hk3
          | some sx => rw [e] at hk3; exact ⟨sx, rfl, Option.some.inj hk3⟩
        have mx := SK_mem (List.mem_of_getElem? hsx)
        have wx := SL_wf wf mx.1
        have sc := (SL_mem mx.1).1
        unfold scn at sc
        cases eo : os[sx.1.1]? with
        | none => rw [eo] at sc; cases sc
        | some o =>
          rw [eo] at sc
          obtain ⟨pa, hpa, gp⟩ := al.2 _ _ eo
          obtain ⟨ls, ss, f1, f2, f3⟩ := gp.sections
          obtain ⟨c, hc, gc⟩ := f3.2 _ _ sc
          have gc3 := gc.same s3
          have hi := (List.getElem?_eq_some_iff.mp hsx).1
          have bd := (SK_bd wf keep n).1
          have pl := plc_len wf keep n
          have p2 : 2 ^ sx.2.align ∣ bs := Nat.dvd_trans (show 2 ^ sx.2.align ∣ 2 ^ 12 from Nat.pow_dvd_pow 2 wx.2.1) hdv
          have p3 : 2 ^ sx.2.align ≤ 2 ^ 12 := Nat.pow_le_pow_right (by decide) wx.2.1
          refine ⟨_, rfl, _, rfl, a, _, _, _, rfl, rfl, SqT.of ga, rfl, l, _, _, _, rfl, rfl, SqL.of (s3 _ _ hl), atI_nat hpa, pa, _, rfl, f1.same s3, _, rfl, a, _, _, _, rfl, rfl, SqT.of ga, rfl, ls, _, _, _, rfl, rfl, SqL.of (s3 _ _ f2), atI_nat hc, ?_⟩
          refine ⟨_, rfl, _, rfl, c, _, rfl, gc3.al, bs + (Sd07.put ((SK os keep n).take i) a0).2, 2 ^ sx.2.align, rfl, Nat.two_pow_pos _, p3, ?_⟩
          rw [up_add (Nat.two_pow_pos _) p2]
          have el : (plc (SK os keep) n ++ (Sd07.put ((SK os keep n).take i) a0).1).length < 16777216 := by
            rw [List.length_append, put_len, List.length_take]
            omega
          refine ⟨_, rfl, _, rfl, _, rfl, ad, _, rfl, DPut.t (k := pk sx.1) ha3 ga (by rw [encP_len]; exact el), ?_⟩
          rw [putK_new _ (by rw [valV_enc, fresh_key hsx]; rfl), ← encP_snoc]
          have nda : c ≠ ad := by
            obtain ⟨C', dx, fs', e, _⟩ := gc3.size
            exact ne_of e ha3 (by intro z; cases z)
          have s4 : Same H (upd H3 ad (.dT (encP bs ((plc (SK os keep) n ++ (Sd07.put ((SK os keep n).take i) a0).1) ++ [(sx.1, Sd07.up (Sd07.put ((SK os keep n).take i) a0).2 (2 ^ sx.2.align))])))) := Same.put s3 had'
          refine ⟨_, rfl, _, rfl, c, _, rfl, (gc.same s4).size, _, _, rfl, rfl, ?_⟩
          have na : ad ≠ r := ra
          refine ⟨some (.ref a), some (.ref c), ?_, s4, ?_, ?_, ?_, ?_, al_put al3 ha3 fun _ z => by cases z⟩
          · rw [take_snoc hsx, put_snoc]
            show [some (V.ref l), _, _, _, _, some (V.int (((bs + Sd07.up (Sd07.put ((SK os keep n).take i) a0).2 (2 ^ sx.2.align) : Nat) : Int) + (sx.2.size : Int))), _, _, _] = _
            rw [← Int.natCast_add, Nat.add_assoc]
          · rw [upd_same, take_snoc hsx, put_snoc, List.append_assoc]
          · rw [upd_ne ae.symm]; exact he3
          · rw [upd_ne at_.symm]; exact ht3
          · rw [upd_ne ra.symm]; exact hr3
      · rintro σ H3 ⟨v7, v8, rfl, s3, ha3, he3, ht3, hr3, al3⟩
        rw [take_all (by rw [al3.1, List.length_map])] at ha3 ⊢
        refine ⟨_, rfl, _, rfl, _, rfl, en, _, rfl, DPut.k (k := Sum.inl (n : Int)) he3 (by omega), ?_⟩
        have ee : ∀ m : Nat, (Sum.inl (m : Int) : Key) = Sum.inl (n : Int) ↔ m = n := fun m => ⟨fun z => by have := Sum.inl.inj z; omega, fun z => by rw [z]⟩
        refine ⟨some (.int (n : Nat)), v7, v8, putK ek (Sum.inl (n : Int)) (.int ((bs + (Sd07.put (SK os keep n) a0).2 : Nat) : Int)), ?_, Same.put s3 hen0, ?_, upd_same, fun m hm => ?_, ?_, ?_⟩
        · rw [← ha0]; rfl
        · rw [upd_ne ae, plc_succ, ha0]; exact ha3
        · rw [valV_put]
          by_cases e : m = n
          · rw [if_pos ((ee m).mpr e), e, ← ha0]; rfl
          · rw [if_neg fun z => e ((ee m).mp z)]
            exact hv1 m (by omega)
        · exact Nat.le_trans (length_putK ..) (Nat.succ_le_succ hn1)
        · rw [upd_ne et.symm]; exact ht3
    · rintro σ H' ⟨v6, v7, v8, ek, rfl, s1, ha1, he1, hv1, hn1, ht1⟩
      have d2 := DGet.k (k := Sum.inl ((2 : Nat) : Int)) he1
      have d3 := DGet.k (k := Sum.inl ((3 : Nat) : Int)) he1
      rw [hv1 2 (by decide)] at d2
      rw [hv1 3 (by decide)] at d3
      refine ⟨_, rfl, _, rfl, _, rfl, en, _, rfl, d2, _, rfl, en, _, rfl, d3, ?_⟩
      refine mak_end m2 m3 rfl fun H2 a s2 ha hf => q H2 a (s1.trans s2) ⟨hf 0 _ _ rfl rfl, ⟨ad, hf 1 _ _ rfl rfl, s2 _ _ ha1⟩, ?_, ?_⟩
      · rw [layout_eq]; exact hf 2 _ _ rfl rfl
      · rw [layout_eq]; exact hf 3 _ _ rfl rfl
end
end Jo
set_option Elab.async false
set_option linter.all false
set_option maxRecDepth 100000
set_option maxHeartbeats 2000000
namespace Jo
open PySem PySem.Spec L2 JX
open PyProof.Rows hiding St frameOf passOn
open Sd07 (Object Section Symbol Reloc)
theorem ldf_has {os : List Object} {k : Nat × Nat} {r : Reloc} (h : rlc os k = some r) {x : Nat × Nat} (hx : x ∈ sOf os (tgt os (k.1, r.symbol))) : x ∈ ldf os (k.1, r.sec) := by
  unfold rlc at h
  cases e : os[k.1]? with
  | none => rw [e] at h; cases h
  | some o =>
    rw [e] at h
    unfold ldf
    dsimp only
    rw [e]
    dsimp only
    unfold ldr
    exact List.mem_flatMap.mpr ⟨r, List.mem_filter.mpr ⟨List.mem_of_getElem? h, by simp⟩, hx⟩
/-- what is told of the relocation k: what it puts, or nothing where it is too far -/
def vOf (os : List Object) (keep : List (Nat × Nat)) (bs : Nat) (k : Nat × Nat) : V := match rlc os k with
  | none => .non
  | some r => if fit r.kind (rval os keep bs k r) = true then .int (rval os keep bs k r) else .non
def Closed (os : List Object) (keep : List (Nat × Nat)) : Prop := ∀ x, keep.contains x = true → ∀ y, y ∈ ldf os x → keep.contains y = true
section
variable {P : Program} {w : World} {K : PySem.W.Frag} {mg : Str → Option Value} {base : Heap}
/-! ### target_address -/
def sp_tadr (K : PySem.W.Frag) : Sp := fun vs H Q _ => ∃ l la v os keep bs k, vs = [.ref l, .ref la, v] ∧ PartsAt K H l os ∧ WF os ∧ LayAt K H la os keep bs ∧ TgtV H v k ∧ Placed os k ∧ (∀ x, x ∈ sOf os k → List.contains keep x = true) ∧ ∀ H', Same H H' → Q (.int ((adr os keep bs k : Nat) : Int)) H'
theorem sc_tadr : FnScope ["parts", "layout", "target", "symbol"] ["parts", "layout", "target"] (defScope (top 33)) := ⟨rfl, rfl, rfl, by decide +kernel, rfl, by decide +kernel, by decide +kernel⟩
theorem ok_tadr (T : Glob K mg) (D : DefIn K mg "target_address" (top 33) ["parts", "layout", "target"]) (G : Cal P w K mg base CX0 1 "symbol_at" ["parts", "pair"] (sp_symbol_at K)) : Cal P w K mg base CX0 2 "target_address" ["parts", "layout", "target"] (sp_tadr K) := by
  refine D.ok sc_tadr (fun vs H Q E h => ?_) (fun f cdv A outer s H vs Q E hr h => ?_)
  · obtain ⟨l, la, v, os, keep, bs, k, rfl, _⟩ := h
    rfl
  · obtain ⟨l, la, v, os, keep, bs, k, rfl, hl, wf, hla, hv, pl, hkp, q⟩ := h
    have hu := hu_of hr
    refine ⟨_, pss_cons (ps_if (pt_cmp (pc_isN (pv 2))) (pss_one (ps_ret pe_int)) pss_nil)
      (pss_cons (ps_set (i := 3) sc_tadr.nd rfl (Or.inl rfl) (pe_cal G hr pass0 (pa_cons (pv 0) (pa_cons (pv 2) pa_nil))))
      (pss_cons (ps_if (pt_cmp (pc_eqI (pe_f (pv 3)) (pe_gi T.number))) (pss_one (ps_ret (pe_f (pv 3)))) pss_nil)
      (pss_one (ps_ret (pe_op op_add (pe_dget hu (pe_f (pv 1)) (pe_tup (pa_cons (pe_ix ix_tup (pv 2) pe_int (fun _ _ => rfl)) (pa_cons (pe_f (pv 3)) pa_nil))) (fun _ _ => rfl)) (pe_f (pv 3))))))), ?_⟩
    refine ⟨_, rfl, _, rfl, ?_⟩
    cases k with
    | none =>
      have hv : v = .non := hv
      subst hv
      rw [decide_eq_true rfl]
      exact iteT (q H (Same.refl _))
    | some k =>
      obtain ⟨a, rfl, ga⟩ := hv
      obtain ⟨y, o, ey, ny, ho, my⟩ := pl k rfl
      rw [decide_eq_false (by intro z; cases z)]
      refine iteF ?_
      refine ⟨_, rfl, _, rfl, l, a, os, k, y, rfl, hl, ga, ey, fun c gc => ?_⟩
      refine ⟨_, rfl, c, _, rfl, gc.sec, _, _, rfl, rfl, _, rfl, ?_⟩
      have wy := ((wf.at ho).sym y my).2.2
      have ns := (wf.at ho).ns
      cases ep : y.place with
      | none => exact absurd ep ny
      | number n =>
        refine ite2 (fun _ => ⟨_, rfl, c, _, rfl, gc.val, ?_⟩) (fun h => absurd rfl h)
        have z := q H (Same.refl _)
        unfold adr at z
        simp only [ey, ep] at z
        rw [ep]
        exact z
      | inside sn n =>
        have lt := (wy.1 sn n ep).1
        refine ite2 (fun h => ?_) (fun _ => ?_)
        · have z : ((sn : Nat) : Int) = 65534 := of_decide_eq_true h
          omega
        obtain ⟨d, d1, d2⟩ := hla.adrs
        have gs := gc.sec
        have gv := gc.val
        rw [ep] at gs gv
        have hk : List.contains keep (k.1, sn) = true := hkp _ (by unfold sOf; simp only [ey, ep]; exact List.mem_singleton.mpr rfl)
        obtain ⟨sec, hsec⟩ : ∃ sec, o.sections[sn]? = some sec := ⟨_, List.getElem?_eq_getElem lt⟩
        have hs : scn os (k.1, sn) = some sec := by
          unfold scn
          dsimp only
          rw [ho]; exact hsec
        refine ⟨_, rfl, la, _, rfl, d1, _, rfl, a, _, _, _, rfl, rfl, SqT.of ga, rfl, _, rfl, c, _, rfl, gs, (by show 2 ≤ sizeLine; decide), fun u hu0 => ?_⟩
        have s1 := Same.upd (o := .tup (pr (k.1, sn))) hu0
        have g := DGet.t (k := pk (k.1, sn)) (s1 _ _ d2) (show (upd H u (.tup (pr (k.1, sn)))) u = some (.tup ((pk (k.1, sn)).map kV)) from upd_same)
        rw [enc_at wf hk hs] at g
        refine ⟨d, _, rfl, g, _, rfl, c, _, rfl, gv.same s1, _, _, rfl, rfl, ?_⟩
        have z := q _ s1
        unfold adr at z
        simp only [ey, ep] at z
        rw [Int.natCast_add] at z
        exact z
/-! ### relocation_address -/
def sp_radr (K : PySem.W.Frag) : Sp := fun vs H Q _ => ∃ l la p os keep bs k r, vs = [.ref l, .ref la, .ref p] ∧ PartsAt K H l os ∧ WF os ∧ LayAt K H la os keep bs ∧ PairAt H p k ∧ rlc os k = some r ∧ List.contains keep (k.1, r.sec) = true ∧ ∀ H', Same H H' → Q (.int ((bs + Sd07.offsetOf (Sd07.layout os keep) (k.1, r.sec) + r.offset : Nat) : Int)) H'
theorem sc_radr : FnScope ["parts", "layout", "pair", "relocation"] ["parts", "layout", "pair"] (defScope (top 34)) := ⟨rfl, rfl, rfl, by decide +kernel, rfl, by decide +kernel, by decide +kernel⟩
theorem ok_radr (T : Glob K mg) (D : DefIn K mg "relocation_address" (top 34) ["parts", "layout", "pair"]) : Cal P w K mg base CX0 1 "relocation_address" ["parts", "layout", "pair"] (sp_radr K) := by
  refine D.ok sc_radr (fun vs H Q E h => ?_) (fun f cdv A outer s H vs Q E hr h => ?_)
  · obtain ⟨l, la, p, os, keep, bs, k, r, rfl, _⟩ := h
    rfl
  · obtain ⟨l, la, p, os, keep, bs, k, r, rfl, ⟨xs, hl, al⟩, wf, hla, hp, hrl, hk, q⟩ := h
    have hu := hu_of hr
    refine ⟨_, pss_cons (ps_set (i := 3) sc_radr.nd rfl (Or.inl rfl) (pe_ix ix_list (pe_f (pe_ix ix_list (pv 0) (pe_ix ix_tup (pv 2) pe_int (fun _ _ => rfl)) (fun _ _ => rfl))) (pe_ix ix_tup (pv 2) pe_int (fun _ _ => rfl)) (fun _ _ => rfl)))
      (pss_one (ps_ret (pe_op op_add (pe_dget hu (pe_f (pv 1)) (pe_tup (pa_cons (pe_ix ix_tup (pv 2) pe_int (fun _ _ => rfl)) (pa_cons (pe_f (pv 3)) pa_nil))) (fun _ _ => rfl)) (pe_f (pv 3))))), ?_⟩
    have hrl0 := hrl
    unfold rlc at hrl
    cases eo : os[k.1]? with
    | none => rw [eo] at hrl; cases hrl
    | some o =>
      rw [eo] at hrl
      obtain ⟨pa, hpa, gp⟩ := al.2 _ _ eo
      obtain ⟨lr, rs, f1, f2, f3⟩ := gp.relocs
      obtain ⟨c, hc, gc⟩ := f3.2 _ _ hrl
      obtain ⟨_, _, _, _, sec, hsec, _⟩ := (wf.at eo).rel r (List.mem_of_getElem? hrl)
      have hs : scn os (k.1, r.sec) = some sec := by
        unfold scn
        dsimp only
        rw [eo]; exact hsec
      obtain ⟨d, d1, d2⟩ := hla.adrs
      refine ⟨_, rfl, _, rfl, p, _, _, _, rfl, rfl, SqT.of hp, rfl, l, _, _, _, rfl, rfl, SqL.of hl, atI_nat hpa, pa, _, rfl, f1, _, rfl, p, _, _, _, rfl, rfl, SqT.of hp, rfl, lr, _, _, _, rfl, rfl, SqL.of f2, atI_nat hc, ?_⟩
      refine ⟨_, rfl, la, _, rfl, d1, _, rfl, p, _, _, _, rfl, rfl, SqT.of hp, rfl, _, rfl, c, _, rfl, gc.sec, (by show 2 ≤ sizeLine; decide), fun u hu0 => ?_⟩
      have s1 := Same.upd (o := .tup (pr (k.1, r.sec))) hu0
      have g := DGet.t (k := pk (k.1, r.sec)) (s1 _ _ d2) (show (upd H u (.tup (pr (k.1, r.sec)))) u = some (.tup ((pk (k.1, r.sec)).map kV)) from upd_same)
      rw [enc_at wf hk hs] at g
      refine ⟨d, _, rfl, g, _, rfl, c, _, rfl, gc.offset.same s1, _, _, rfl, rfl, ?_⟩
      have z := q _ s1
      rw [Int.natCast_add] at z
      exact z
/-! ### fits -/
def sp_fits : Sp := fun vs H Q _ => ∃ (kd : Nat) (t : Int), vs = [.int (kd : Int), .int t] ∧ Q (.bl (fit kd t)) H
theorem sc_fits : FnScope ["kind", "total", "signed"] ["kind", "total"] (defScope (top 35)) := ⟨rfl, rfl, rfl, by decide +kernel, rfl, by decide +kernel, by decide +kernel⟩
theorem ok_fits (T : Glob K mg) (D : DefIn K mg "fits" (top 35) ["kind", "total"]) : Cal P w K mg base CX0 1 "fits" ["kind", "total"] sp_fits := by
  refine D.ok sc_fits (fun vs H Q E h => ?_) (fun f cdv A outer s H vs Q E hr h => ?_)
  · obtain ⟨kd, t, rfl, _⟩ := h
    rfl
  · obtain ⟨kd, t, rfl, q⟩ := h
    refine ⟨_, pss_cons (ps_if (pt_cmp (pc_eqI (pv 0) (pe_gi T.wide))) (pss_one (ps_ret pe_bl)) pss_nil)
      (pss_cons (ps_if (pt_cmp (pc_eqI (pv 0) (pe_gi T.low))) (pss_one (ps_ret (pe_cmp (pc_lt (pv 1) pe_int)))) pss_nil)
      (pss_cons (ps_set (i := 2) sc_fits.nd rfl (Or.inl rfl) (pv 1))
      (pss_cons (ps_if (pt_cmp (pc_ge (pv 1) (pe_gi T.half))) (pss_one (ps_set (i := 2) sc_fits.nd rfl (Or.inl rfl) (pe_op op_sub (pv 1) (pe_gi T.all_addresses)))) pss_nil)
      (pss_cons (ps_if (pt_cmp (pc_eqI (pv 0) (pe_gi T.near))) (pss_one (ps_ret (pe_and (pe_cmp (pc_ge (pv 2) (pe_un un_neg pe_int))) (pe_one (pe_cmp (pc_le (pv 2) pe_int)))))) pss_nil)
      (pss_one (ps_ret (pe_and (pe_cmp (pc_ge (pv 2) (pe_un un_neg pe_int))) (pe_one (pe_cmp (pc_le (pv 2) pe_int))))))))))  , ?_⟩
    unfold fit at q
    refine ⟨_, rfl, _, _, rfl, rfl, _, rfl, ite2 (fun h => ?_) (fun h => ?_)⟩
    · have e : kd = 0 := by have := of_decide_eq_true h; omega
      rw [if_pos e] at q
      exact q
    have n0 : ¬ kd = 0 := fun z => h (decide_eq_true (by omega))
    rw [if_neg n0] at q
    refine ⟨_, rfl, _, _, rfl, rfl, _, rfl, ite2 (fun h => ?_) (fun h => ?_)⟩
    · have e : kd = 2 := by have := of_decide_eq_true h; omega
      rw [if_pos e] at q
      exact ⟨_, rfl, _, _, rfl, rfl, q⟩
    have n2 : ¬ kd = 2 := fun z => h (decide_eq_true (by omega))
    rw [if_neg n2] at q
    refine ⟨_, rfl, _, rfl, _, _, rfl, rfl, _, rfl, ?_⟩
    have fin : ∀ d : Int, sgn t = d → tSeq (tIfS (tB (tEqI (tVar 0) (tC (.int 1)))) (tRet (tAndV (tGe (tVar 2) (tUn (rU fun i => .int (-i)) (tC (.int 2147483648)))) (tLe (tVar 2) (tC (.int 2147483647))))) tNext)
        (tRet (tAndV (tGe (tVar 2) (tUn (rU fun i => .int (-i)) (tC (.int 128)))) (tLe (tVar 2) (tC (.int 127))))) { nx := fun _ H' => Q .non H', rt := Q } [some (V.int (kd : Int)), some (V.int t), some (V.int d)] H := fun d hd => by
      rw [hd] at q
      refine ⟨_, rfl, _, _, rfl, rfl, _, rfl, ite2 (fun h => ?_) (fun h => ?_)⟩
      · have e : kd = 1 := by have := of_decide_eq_true h; omega
        rw [if_pos e] at q
        refine ⟨_, rfl, _, rfl, _, _, rfl, rfl, _, rfl, ite2 (fun h => ?_) (fun h => ?_)⟩
        · rw [decide_eq_true (show -2147483648 ≤ d from of_decide_eq_true h)] at q
          exact ⟨_, rfl, _, _, rfl, rfl, q⟩
        · rw [decide_eq_false (fun z => h (decide_eq_true z))] at q
          exact q
      · have n1 : ¬ kd = 1 := fun z => h (decide_eq_true (by omega))
        rw [if_neg n1] at q
        refine ⟨_, rfl, _, rfl, _, _, rfl, rfl, _, rfl, ite2 (fun h => ?_) (fun h => ?_)⟩
        · rw [decide_eq_true (show -128 ≤ d from of_decide_eq_true h)] at q
          exact ⟨_, rfl, _, _, rfl, rfl, q⟩
        · rw [decide_eq_false (fun z => h (decide_eq_true z))] at q
          exact q
    refine ite2 (fun h => ⟨_, rfl, _, _, rfl, rfl, fin _ ?_⟩) (fun h => fin _ ?_)
    · unfold sgn
      rw [if_pos (of_decide_eq_true h)]
    · unfold sgn
      rw [if_neg fun z => h (decide_eq_true z)]
/-! ### put_values -/
def sp_vals (K : PySem.W.Frag) : Sp := fun vs H Q _ => ∃ l t la r xs os keep bs, vs = [.ref l, .ref t, .ref la, .ref r] ∧ PartsAt K H l os ∧ WF os ∧ TgtsAt os H t ∧ LayAt K H la os keep bs ∧ Closed os keep ∧ H r = some (.lst xs) ∧ Al (PairAt H) xs (rls os fun x => List.contains keep x) ∧
  ∀ H' vl, Same H H' → H vl = none → H' vl = some (.lst ((rls os fun x => List.contains keep x).map (vOf os keep bs))) → Q (.ref vl) H'
theorem sc_vals : FnScope ["parts", "targets", "layout", "relocations", "values", "pair", "relocation", "total"] ["parts", "targets", "layout", "relocations"] (defScope (top 36)) := ⟨rfl, rfl, rfl, by decide +kernel, rfl, by decide +kernel, by decide +kernel⟩
theorem ok_vals (T : Glob K mg) (D : DefIn K mg "put_values" (top 36) ["parts", "targets", "layout", "relocations"]) (G1 : Cal P w K mg base CX0 2 "target_address" ["parts", "layout", "target"] (sp_tadr K)) (G2 : Cal P w K mg base CX0 1 "relocation_address" ["parts", "layout", "pair"] (sp_radr K))
    (G3 : Cal P w K mg base CX0 1 "fits" ["kind", "total"] sp_fits) : Cal P w K mg base CX0 3 "put_values" ["parts", "targets", "layout", "relocations"] (sp_vals K) := by
  refine D.ok sc_vals (fun vs H Q E h => ?_) (fun f cdv A outer s H vs Q E hr h => ?_)
  · obtain ⟨l, t, la, r, xs, os, keep, bs, rfl, _⟩ := h
    rfl
  · obtain ⟨l, t, la, r, xs, os, keep, bs, rfl, hl0, wf, ht, hla, hcl, hr0, ar, q⟩ := h
    obtain ⟨ps, hl, al⟩ := id hl0
    have hr1 : Room 1 _ := hr.mono (by decide)
    have zl : sizeLine = 16777216 := rfl
    refine ⟨_, pss_cons (ps_set (i := 4) sc_vals.nd rfl (Or.inl rfl) (pe_lst pa_nil))
      (pss_cons (ps_for PassesOwn.never rfl (pi_list (pv 3)) (pg_name (i := 5) sc_vals.nd rfl (Or.inl rfl))
        (pss_cons (ps_set (i := 6) sc_vals.nd rfl (Or.inl rfl) (pe_ix ix_list (pe_f (pe_ix ix_list (pv 0) (pe_ix ix_tup (pv 5) pe_int (fun _ _ => rfl)) (fun _ _ => rfl))) (pe_ix ix_tup (pv 5) pe_int (fun _ _ => rfl)) (fun _ _ => rfl)))
        (pss_cons (ps_set (i := 7) sc_vals.nd rfl (Or.inl rfl) (pe_op op_add (pe_cal G1 hr pass0 (pa_cons (pv 0) (pa_cons (pv 2) (pa_cons (pe_ix ix_list (pe_ix ix_list (pv 1) (pe_ix ix_tup (pv 5) pe_int (fun _ _ => rfl)) (fun _ _ => rfl)) (pe_f (pv 6)) (fun _ _ => rfl)) pa_nil)))) (pe_f (pv 6))))
        (pss_cons (ps_if (PW.pt (pw_or (pt_cmp (pc_eqI (pe_f (pv 6)) (pe_gi T.near))) (pw_or1 (pt_cmp (pc_eqI (pe_f (pv 6)) (pe_gi T.short))))))
          (pss_one (ps_set (i := 7) sc_vals.nd rfl (Or.inl rfl) (pe_op op_sub (pv 7) (pe_cal G2 hr1 pass0 (pa_cons (pv 0) (pa_cons (pv 2) (pa_cons (pv 5) pa_nil))))))) pss_nil)
        (pss_cons (ps_set (i := 7) sc_vals.nd rfl (Or.inl rfl) (pe_op op_mod (pv 7) (pe_gi T.all_addresses)))
        (pss_one (ps_expr (pe_bm PySem.F.plainAttrs_list PySem.F.slot_list_append PySem.F.type_list_append mApp (pv 4) (pa_cons (pe_ifExp (pt_val (pe_cal G3 hr1 pass0 (pa_cons (pe_f (pv 6)) (pa_cons (pv 7) pa_nil)))) (pv 7) pe_non) pa_nil)))))))))
      (pss_one (ps_ret (pv 4)))), ?_⟩
    refine ⟨Nat.zero_le _, fun vl hvl => ?_⟩
    have bd := rls_bd wf fun x => List.contains keep x
    refine ⟨_, rfl, r, rfl, ⟨_, SqL.of (Same.upd hvl _ _ hr0)⟩, for_list (K := K) (a := r) (xs := xs) (fun i σ H' => ∃ v5 v6 v7, σ = [some (.ref l), some (.ref t), some (.ref la), some (.ref r), some (.ref vl), v5, v6, v7] ∧ Same H H' ∧ H' vl = some (.lst (((rls os fun x => List.contains keep x).take i).map (vOf os keep bs))))
      ⟨none, none, none, rfl, Same.upd hvl, upd_same⟩ (fun i σ H' _ ⟨_, _, _, _, s1, _⟩ => SqL.of (s1 _ _ hr0)) ?_ ?_⟩
    · rintro i x σ H' hx ⟨v5, v6, v7, rfl, s1, hv1⟩
      obtain ⟨k, a, hk, rfl, ga0⟩ := ar.get hx
      obtain ⟨o, rl, e1, e2, e4, e3⟩ := rls_mem (List.mem_of_getElem? hk)
      have e4 : List.contains keep (k.1, rl.sec) = true := e4
      obtain ⟨pa, hpa, gp⟩ := al.2 _ _ e1
      obtain ⟨lr, rs, f1, f2, f3⟩ := gp.relocs
      obtain ⟨c, hc, gc0⟩ := f3.2 _ _ e2
      have wr := (wf.at e1).rel rl (List.mem_of_getElem? e2)
      have hi := (List.getElem?_eq_some_iff.mp hk).1
      have ga := ga0.same s1
      have gc := gc0.same s1
      obtain ⟨rows, row, yy, tv, t1, t2, t3, t4, t5⟩ := (ht.same s1).get (k := (k.1, rl.symbol)) e1 wr.1
      refine ⟨_, rfl, _, rfl, a, _, _, _, rfl, rfl, SqT.of ga, rfl, l, _, _, _, rfl, rfl, SqL.of (s1 _ _ hl), atI_nat hpa, pa, _, rfl, f1.same s1, _, rfl, a, _, _, _, rfl, rfl, SqT.of ga, rfl, lr, _, _, _, rfl, rfl, SqL.of (s1 _ _ f2), atI_nat hc, ?_⟩
      refine ⟨_, rfl, _, rfl, _, rfl, _, rfl, a, _, _, _, rfl, rfl, SqT.of ga, rfl, t, _, _, _, rfl, rfl, SqL.of t1, atI_nat t2, _, rfl, c, _, rfl, gc.symbol, row, _, _, _, rfl, rfl, SqL.of t3, atI_nat t4, l, la, tv, os, keep, bs, tgt os (k.1, rl.symbol), rfl, hl0.same s1, wf, hla.same s1, t5, tgt_placed wf _, fun x hx => hcl _ e4 x (ldf_has e3 hx), fun H2 s2 => ?_⟩
      have s02 := s1.trans s2
      have gc2 := gc0.same s02
      refine ⟨_, rfl, c, _, rfl, gc2.addend, _, _, rfl, rfl, ?_⟩
      have fin : ∀ (H3 : Hp) (z : Int), Same H2 H3 → z = (if rl.kind = 1 ∨ rl.kind = 3 then ((adr os keep bs (tgt os (k.1, rl.symbol)) : Nat) : Int) + rl.addend - ((bs + Sd07.offsetOf (Sd07.layout os keep) (k.1, rl.sec) + rl.offset : Nat) : Int) else ((adr os keep bs (tgt os (k.1, rl.symbol)) : Nat) : Int) + rl.addend) →
          ∀ tt : TS, tt = tSeq (tAsg (tOp (rI (fun _ j => 0 < j) fun i j => .int (i % j)) (tVar 7) (tC (.int 18446744073709551616))) (gName 7)) (tDrop (tBM K "list" rAppend (tVar 4) (tCons (tIf (tB (tCall sp_fits [] E0 (tCons (tF K (tVar 6) "kind") (tCons (tVar 7) tNil)))) (tVar 7) (tC .non)) tNil))) →
          ∀ D : Ends, (∀ σ' H'', (∃ v5 v6 v7, σ' = [some (V.ref l), some (.ref t), some (.ref la), some (.ref r), some (.ref vl), v5, v6, v7] ∧ Same H H'' ∧ H'' vl = some (.lst (((rls os fun x => List.contains keep x).take (i + 1)).map (vOf os keep bs)))) → D.nx σ' H'') → tt D [some (V.ref l), some (.ref t), some (.ref la), some (.ref r), some (.ref vl), some (V.ref a), some (V.ref c), some (V.int z)] H3 := fun H3 z s3 hz tt ett D hD => by
        subst ett
        have gc3 := gc2.same s3
        have hv3 := s3 _ _ (s2 _ _ hv1)
        refine ⟨_, rfl, _, _, rfl, rfl, (by show (0 : Int) < 18446744073709551616; decide), ?_⟩
        have ev : z % 18446744073709551616 = rval os keep bs k rl := by
          unfold rval tot
          rw [hz]
        have eo : vOf os keep bs k = if fit rl.kind (rval os keep bs k rl) = true then .int (rval os keep bs k rl) else .non := by
          unfold vOf
          rw [e3]
        refine ⟨_, rfl, .inl ⟨rfl, _, SqL.of hv3⟩, _, rfl, c, _, rfl, gc3.kind, _, rfl, rl.kind, z % 18446744073709551616, rfl, _, rfl, ?_⟩
        rw [ev]
        have fin2 : ∀ v, v = vOf os keep bs k → rAppend (V.ref vl) [v] H3 fun _ H1 => D.nx [some (V.ref l), some (.ref t), some (.ref la), some (.ref r), some (.ref vl), some (V.ref a), some (V.ref c), some (V.int (z % 18446744073709551616))] H1 := fun v ev => by
          refine ⟨vl, _, v, rfl, rfl, hv3, by rw [List.length_map, List.length_take]; omega, hD _ _ ⟨_, _, _, rfl, Same.put (s02.trans s3) hvl, ?_⟩⟩
          rw [upd_same, take_snoc hk, List.map_append, ev]
          rfl
        refine ite2 (fun h => ⟨_, rfl, fin2 _ ?_⟩) (fun h => fin2 _ ?_)
        · rw [eo, if_pos h, ← ev]
        · rw [eo, if_neg h]
      refine ⟨_, rfl, c, _, rfl, gc2.kind, _, _, rfl, rfl, _, rfl, ?_⟩
      refine ite2 (fun h => ?_) (fun h => ?_)
      · have hkd : rl.kind = 1 ∨ rl.kind = 3 := .inl (by have := of_decide_eq_true h; omega)
        refine iteT ⟨_, rfl, _, rfl, _, rfl, _, rfl, l, la, a, os, keep, bs, k, rl, rfl, hl0.same s02, wf, hla.same s02, ga0.same s02, e3, e4, fun H3 s3 => ⟨_, _, rfl, rfl, ?_⟩⟩
        exact fin H3 _ s3 (by rw [if_pos hkd]) _ rfl _ fun _ _ h => h
      · refine ⟨_, rfl, c, _, rfl, gc2.kind, _, _, rfl, rfl, _, rfl, ?_⟩
        refine ite2 (fun h2 => ?_) (fun h2 => ?_)
        · have hkd : rl.kind = 1 ∨ rl.kind = 3 := .inr (by have := of_decide_eq_true h2; omega)
          refine ⟨_, rfl, _, rfl, _, rfl, _, rfl, l, la, a, os, keep, bs, k, rl, rfl, hl0.same s02, wf, hla.same s02, ga0.same s02, e3, e4, fun H3 s3 => ⟨_, _, rfl, rfl, ?_⟩⟩
          exact fin H3 _ s3 (by rw [if_pos hkd]) _ rfl _ fun _ _ h => h
        · have hkd : ¬ (rl.kind = 1 ∨ rl.kind = 3) := fun z => by
            rcases z with z | z
            · exact h (decide_eq_true (by omega))
            · exact h2 (decide_eq_true (by omega))
          exact fin H2 _ (Same.refl _) (by rw [if_neg hkd]) _ rfl _ fun _ _ h => h
    · rintro σ H' ⟨v5, v6, v7, rfl, s1, hv1⟩
      rw [take_all ar.1] at hv1
      exact ⟨_, rfl, q H' vl s1 hvl hv1⟩
end
end Jo
set_option Elab.async false
set_option linter.all false
set_option maxRecDepth 100000
set_option maxHeartbeats 2000000
namespace Jo
open PySem PySem.Spec L2 JX
open PyProof.Rows hiding St frameOf passOn
open Sd07 (Object Section Symbol Reloc)
theorem le_snoc (i v : Nat) : Sd07.le (i + 1) v = Sd07.le i v ++ [v / 256 ^ i % 256] := by
  unfold Sd07.le
  rw [List.range_succ, List.map_append]; rfl
theorem le_len (i v : Nat) : (Sd07.le i v).length = i := by
  unfold Sd07.le
  rw [List.length_map, List.length_range]
theorem iv_snoc (l : List Nat) (n : Nat) : iv (l ++ [n]) = iv l ++ [V.int (n : Int)] := by
  unfold iv
  rw [List.map_append]; rfl
theorem iv_set (l : List Nat) (j b : Nat) : (iv l).set j (V.int (b : Int)) = iv (l.set j b) := by
  unfold iv
  rw [List.map_set]
theorem iv_rep (n : Nat) : (List.replicate n [V.int 0]).flatten = iv (List.replicate n 0) := by
  induction n with
  | zero => rfl
  | succ n ih =>
    rw [List.replicate_succ, List.flatten_cons, ih, List.replicate_succ]
    rfl
theorem ixN_nat {n j : Nat} (h : j < n) : ixN n (j : Int) = some j := by
  unfold ixN
  rw [if_pos (by omega), if_pos (by omega)]
  rfl
/-- all but dicts stays -/
def SameT (H H' : Hp) : Prop := ∀ b o, H b = some o → (∀ kvs, o ≠ .dT kvs) → H' b = some o
section
variable {K : PySem.W.Frag} {H H' : Hp} {a : Addr}
theorem Fd.sameT {f : Str} {v : V} (s : SameT H H') (h : Fd K H a f v) : Fd K H' a f v := by
  obtain ⟨C, dx, fs, h1, h2⟩ := h
  exact ⟨C, dx, fs, s _ _ h1 (fun _ z => by cases z), h2⟩
theorem SameT.l (s : SameT H H') {xs : List V} (h : H a = some (.lst xs)) : H' a = some (.lst xs) := s _ _ h fun _ z => by cases z
end
section
variable {P : Program} {w : World} {K : PySem.W.Frag} {mg : Str → Option Value} {base : Heap}
/-! ### lowest_bytes -/
def sp_low : Sp := fun vs H Q _ => ∃ v wd : Nat, vs = [.int (v : Int), .int (wd : Int)] ∧ wd ≤ 8 ∧ ∀ H' r, Same H H' → H r = none → H' r = some (.lst (iv (Sd07.le wd v))) → Q (.ref r) H'
theorem sc_low : FnScope ["value", "width", "found", "k"] ["value", "width"] (defScope (top 37)) := ⟨rfl, rfl, rfl, by decide +kernel, rfl, by decide +kernel, by decide +kernel⟩
theorem ok_low (T : Glob K mg) (D : DefIn K mg "lowest_bytes" (top 37) ["value", "width"]) : Cal P w K mg base CX0 1 "lowest_bytes" ["value", "width"] sp_low := by
  refine D.ok sc_low (fun vs H Q E h => ?_) (fun f cdv A outer s H vs Q E hr h => ?_)
  · obtain ⟨v, wd, rfl, _⟩ := h
    rfl
  · obtain ⟨v, wd, rfl, h8, q⟩ := h
    have zl : sizeLine = 16777216 := rfl
    refine ⟨_, pss_cons (ps_set (i := 2) sc_low.nd rfl (Or.inl rfl) (pe_lst pa_nil))
      (pss_cons (ps_for PassesOwn.never rfl (pi_range1 rfl T.range (pa_cons (pv 1) pa_nil)) (pg_name (i := 3) sc_low.nd rfl (Or.inl rfl))
        (pss_cons (ps_expr (pe_bm PySem.F.plainAttrs_list PySem.F.slot_list_append PySem.F.type_list_append mApp (pv 2) (pa_cons (pe_op op_mod (pv 0) pe_int) pa_nil)))
        (pss_one (ps_set (i := 0) sc_low.nd rfl (Or.inl rfl) (pe_op op_fdiv (pv 0) pe_int)))))
      (pss_one (ps_ret (pv 2)))), ?_⟩
    refine ⟨Nat.zero_le _, fun r hr0 => ?_⟩
    refine ⟨_, rfl, (wd : Int), rfl, by omega, by omega, for_range (n := wd) (fun i σ H' => ∃ v3, σ = [some (.int ((v / 256 ^ i : Nat) : Int)), some (.int (wd : Int)), some (.ref r), v3] ∧ Same H H' ∧ H' r = some (.lst (iv (Sd07.le i v))))
      ⟨none, by rw [Nat.pow_zero, Nat.div_one]; rfl, Same.upd hr0, upd_same⟩ ?_ ?_⟩
    · rintro i σ H' hi ⟨v3, rfl, s1, h1⟩
      refine ⟨_, rfl, .inl ⟨rfl, _, SqL.of h1⟩, _, rfl, _, _, rfl, rfl, (by show (0 : Int) < 256; decide), r, _, _, rfl, rfl, h1, by rw [iv_len, le_len]; omega, ?_⟩
      refine ⟨_, rfl, _, _, rfl, rfl, ⟨by decide, by decide⟩, ?_⟩
      refine ⟨some (.int (0 + (i : Int))), ?_, Same.put s1 hr0, ?_⟩
      · have e : ((v / 256 ^ i : Nat) : Int) / 256 = ((v / 256 ^ (i + 1) : Nat) : Int) := by
          rw [Nat.pow_succ, ← Nat.div_div_eq_div_mul, Int.natCast_ediv (v / 256 ^ i) 256]
          rfl
        rw [← e]; rfl
      · rw [upd_same, le_snoc, iv_snoc]
        have e : ((v / 256 ^ i : Nat) : Int) % 256 = ((v / 256 ^ i % 256 : Nat) : Int) := by
          rw [Int.natCast_emod (v / 256 ^ i) 256]
          rfl
        rw [← e]
    · rintro σ H' ⟨v3, rfl, s1, h1⟩
      exact ⟨_, rfl, q H' r s1 hr0 h1⟩
/-! ### write_at -/
def sp_write : Sp := fun vs H Q _ => ∃ im c at_ ns bs, vs = [.ref im, .int ((at_ : Nat) : Int), .ref c] ∧ H im = some (.lst (iv ns)) ∧ H c = some (.lst (iv bs)) ∧ im ≠ c ∧ (bs = [] ∨ at_ + bs.length ≤ ns.length) ∧
  ∀ H', H' im = some (.lst (iv (ptc ns at_ bs))) → (∀ b o, H b = some o → b ≠ im → H' b = some o) → Q .non H'
theorem sc_write : FnScope ["image", "at", "content", "k", "byte"] ["image", "at", "content"] (defScope (top 38)) := ⟨rfl, rfl, rfl, by decide +kernel, rfl, by decide +kernel, by decide +kernel⟩
theorem ok_write (T : Glob K mg) (D : DefIn K mg "write_at" (top 38) ["image", "at", "content"]) : Cal P w K mg base CX0 1 "write_at" ["image", "at", "content"] sp_write := by
  refine D.ok sc_write (fun vs H Q E h => ?_) (fun f cdv A outer s H vs Q E hr h => ?_)
  · obtain ⟨im, c, at_, ns, bs, rfl, _⟩ := h
    rfl
  · obtain ⟨im, c, at_, ns, bs, rfl, hi, hc, ne, hb, q⟩ := h
    refine ⟨_, pss_one (ps_for PassesOwn.never rfl (pi_enum rfl T.enum (pa_cons (pv 2) pa_nil)) (pg_tup rfl (pgs_cons (pg_name (i := 3) sc_write.nd rfl (Or.inl rfl)) (pgs_cons (pg_name (i := 4) sc_write.nd rfl (Or.inl rfl)) pgs_nil)))
        (pss_one (ps_asg (pv 4) (pg_sub (pv 0) (pe_op op_add (pv 1) (pv 3)) set_list)))), ?_⟩
    refine ⟨_, rfl, c, iv bs, rfl, SqL.of hc, for_enum (K := K) (a := c) (xs := iv bs) (i1 := 3) (i2 := 4) (fun i σ H' => ∃ v3 v4, σ = [some (.ref im), some (.int ((at_ : Nat) : Int)), some (.ref c), v3, v4] ∧ (∀ b o, H b = some o → b ≠ im → H' b = some o) ∧ H' im = some (.lst (iv (ptc ns at_ (bs.take i)))))
      ⟨none, none, rfl, fun b o h _ => h, hi⟩ (fun i σ H' _ ⟨_, _, _, s1, _⟩ => SqL.of (s1 _ _ hc ne.symm)) ?_ ?_⟩
    · rintro i x σ H' t hx ⟨v3, v4, rfl, s1, h1⟩ ht
      have hx0 := hx
      unfold iv at hx
      rw [List.getElem?_map] at hx
      obtain ⟨b, hb1, rfl⟩ : ∃ b, bs[i]? = some b ∧ x = .int ((b : Nat) : Int) := by
        cases e : bs[i]? with
        | none => rw [e] at hx; cases hx
        | some b => rw [e] at hx; exact ⟨b, rfl, (Option.some.inj hx).symm⟩
      have hil := (List.getElem?_eq_some_iff.mp hb1).1
      have hbd : at_ + bs.length ≤ ns.length := by
        rcases hb with z | z
        · rw [z] at hil; simp at hil
        · exact z
      have h2 := Same.upd (o := .tup [.int (i : Nat), .int (b : Int)]) ht _ _ h1
      refine ⟨_, rfl, _, rfl, _, rfl, _, rfl, _, _, rfl, rfl, im, _, _, at_ + i, rfl, rfl, h2, ?_, ?_⟩
      · rw [iv_len, ptc_len, ← Int.natCast_add]
        exact ixN_nat (by omega)
      · refine ⟨_, _, rfl, fun b' o' h hne => ?_, ?_⟩
        · rw [upd_ne hne]
          exact Same.upd ht _ _ (s1 _ _ h hne)
        · rw [upd_same, iv_set, ptc_snoc hb1]
    · rintro σ H' ⟨v3, v4, rfl, s1, h1⟩
      rw [take_all (iv_len bs)] at h1
      exact q H' h1 s1
end
end Jo
set_option Elab.async false
set_option linter.all false
set_option maxRecDepth 100000
set_option maxHeartbeats 2000000
namespace Jo
open PySem PySem.Spec L2 JX
open PyProof.Rows hiding St frameOf passOn
open Sd07 (Object Section Symbol Reloc)
theorem stp_len (os : List Object) (keep : List (Nat × Nat)) (bs : Nat) : ∀ (l : List (Nat × Nat × Reloc)) (b : List Nat), (l.foldl (stp os keep bs) b).length = b.length
  | [], b => rfl
  | x :: l, b => by
    rw [List.foldl_cons, stp_len os keep bs l]
    exact ptc_len _ _ _
theorem sec_len (l : List (KS × Nat)) (b : List Nat) : (l.foldl (fun b z => ptc b z.2 z.1.2.bytes) b).length = b.length := by
  induction l generalizing b with
  | nil => rfl
  | cons a l ih => rw [List.foldl_cons, ih, ptc_len]
theorem enc_get {bs : Nat} {f : Nat → List KS} {i : Nat} {k : List Key} {v : V} (h : (encP bs (plc f 4))[i]? = some (k, v)) : ∃ z, (KPS f 4).1[i]? = some z ∧ k = pk z.1.1 ∧ v = .int ((bs + z.2 : Nat) : Int) := by
  unfold encP plc at h
  rw [List.getElem?_map, List.getElem?_map] at h
  cases e : (KPS f 4).1[i]? with
  | none => rw [e] at h; cases h
  | some z =>
    rw [e] at h
    have h := Option.some.inj h
    exact ⟨z, rfl, (congrArg Prod.fst h).symm, (congrArg Prod.snd h).symm⟩
section
variable {P : Program} {w : World} {K : PySem.W.Frag} {mg : Str → Option Value} {base : Heap}
def sp_image (K : PySem.W.Frag) : Sp := fun vs H Q _ => ∃ l la r vl xs os keep bs, vs = [.ref l, .ref la, .ref r, .ref vl] ∧ PartsAt K H l os ∧ WF os ∧ LayAt K H la os keep bs ∧ H r = some (.lst xs) ∧ Al (PairAt H) xs (rls os fun x => List.contains keep x) ∧
  H vl = some (.lst ((rls os fun x => List.contains keep x).map (vOf os keep bs))) ∧ (∀ k, k ∈ (rls os fun x => List.contains keep x) → ∀ rl, rlc os k = some rl → fit rl.kind (rval os keep bs k rl) = true) ∧ bs < 140737488355328 ∧ (Sd07.layout os keep).size ≤ 1000000 ∧
  ∀ H' im, Same H H' → H im = none → H' im = some (.lst (iv (Sd07.image os keep (Sd07.layout os keep) bs))) → Q (.ref im) H'
theorem sc_image : FnScope ["parts", "layout", "relocations", "values", "image", "pair", "address", "value", "width"] ["parts", "layout", "relocations", "values"] (defScope (top 39)) := ⟨rfl, rfl, rfl, by decide +kernel, rfl, by decide +kernel, by decide +kernel⟩
theorem ok_image (T : Glob K mg) (D : DefIn K mg "image_bytes" (top 39) ["parts", "layout", "relocations", "values"]) (G1 : Cal P w K mg base CX0 1 "write_at" ["image", "at", "content"] sp_write) (G2 : Cal P w K mg base CX0 1 "relocation_address" ["parts", "layout", "pair"] (sp_radr K))
    (G3 : Cal P w K mg base CX0 1 "lowest_bytes" ["value", "width"] sp_low) : Cal P w K mg base CX0 2 "image_bytes" ["parts", "layout", "relocations", "values"] (sp_image K) := by
  refine D.ok sc_image (fun vs H Q E h => ?_) (fun f cdv A outer s H vs Q E hr h => ?_)
  · obtain ⟨l, la, r, vl, xs, os, keep, bs, rfl, _⟩ := h
    rfl
  · obtain ⟨l, la, r, vl, xs, os, keep, bs, rfl, hl0, wf, hla, hr0, ar, hvl, hfit, hbs, hsz, q⟩ := h
    have zl : sizeLine = 16777216 := rfl
    refine ⟨_, pss_cons (ps_set (i := 4) sc_image.nd rfl (Or.inl rfl) (pe_op op_rep (pe_lst (pa_cons pe_int pa_nil)) (pe_op op_sub (pe_f (pv 1)) (pe_f (pv 1)))))
      (pss_cons (ps_lock (ps_for PassesOwn.never rfl (pi_itemsT (pe_f (pv 1))) (pg_tup rfl (pgs_cons (pg_name (i := 5) sc_image.nd rfl (Or.inl rfl)) (pgs_cons (pg_name (i := 6) sc_image.nd rfl (Or.inl rfl)) pgs_nil)))
        (pss_one (ps_expr (pe_cal G1 hr pass0 (pa_cons (pv 4) (pa_cons (pe_op op_sub (pv 6) (pe_f (pv 1))) (pa_cons (pe_ix ix_list (pe_f (pe_ix ix_list (pv 0) (pe_ix ix_tup (pv 5) pe_int (fun _ _ => rfl)) (fun _ _ => rfl))) (pe_ix ix_tup (pv 5) pe_int (fun _ _ => rfl)) (fun _ _ => rfl)) pa_nil))))))))
      (pss_cons (ps_for PassesOwn.never rfl (pi_zip rfl T.zip (pa_cons (pv 2) (pa_cons (pv 3) pa_nil))) (pg_tup rfl (pgs_cons (pg_name (i := 5) sc_image.nd rfl (Or.inl rfl)) (pgs_cons (pg_name (i := 7) sc_image.nd rfl (Or.inl rfl)) pgs_nil)))
        (pss_cons (ps_set (i := 8) sc_image.nd rfl (Or.inl rfl) (pe_ix ix_tup (pe_gt T.widths) (pe_f (pe_ix ix_list (pe_f (pe_ix ix_list (pv 0) (pe_ix ix_tup (pv 5) pe_int (fun _ _ => rfl)) (fun _ _ => rfl))) (pe_ix ix_tup (pv 5) pe_int (fun _ _ => rfl)) (fun _ _ => rfl))) (fun _ _ => rfl)))
        (pss_cons (ps_set (i := 6) sc_image.nd rfl (Or.inl rfl) (pe_cal G2 hr pass0 (pa_cons (pv 0) (pa_cons (pv 1) (pa_cons (pv 5) pa_nil)))))
        (pss_one (ps_expr (pe_cal G1 hr pass0 (pa_cons (pv 4) (pa_cons (pe_op op_sub (pv 6) (pe_f (pv 1))) (pa_cons (pe_cal G3 hr pass0 (pa_cons (pv 7) (pa_cons (pv 8) pa_nil))) pa_nil)))))))))
      (pss_one (ps_ret (pv 4))))), ?_⟩
    -- image = [0] * (layout.image_end - layout.base)
    refine ⟨(by show 1 ≤ sizeLine; decide), fun p0 hp0 => ?_⟩
    have s0 := Same.upd (o := .lst [.int 0]) hp0
    have ek : (((bs + (Sd07.layout os keep).size : Nat) : Int) - (bs : Int)) = (((Sd07.layout os keep).size : Nat) : Int) := by omega
    refine ⟨_, rfl, la, _, rfl, hla.ie.same s0, _, rfl, la, _, rfl, hla.base.same s0, _, _, rfl, rfl, p0, (((bs + (Sd07.layout os keep).size : Nat) : Int) - (bs : Int)), _, rfl, rfl, upd_same, by omega, by omega, ?_, fun im him => ?_⟩
    · rw [ek]
      show 1 * (Sd07.layout os keep).size ≤ sizeLine
      omega
    rw [ek]
    show tSeq _ _ _ [some (V.ref l), some (.ref la), some (.ref r), some (.ref vl), some (.ref im), none, none, none, none] (upd (upd H p0 (.lst [.int 0])) im (.lst (List.replicate (Sd07.layout os keep).size [V.int 0]).flatten))
    rw [iv_rep]
    have him0 : H im = none := s0.free him
    have s1 : Same H (upd (upd H p0 (.lst [.int 0])) im (.lst (iv (List.replicate (Sd07.layout os keep).size 0)))) := s0.trans (Same.upd him)
    have hi1 : (upd (upd H p0 (.lst [.int 0])) im (.lst (iv (List.replicate (Sd07.layout os keep).size 0)))) im = some (.lst (iv (List.replicate (Sd07.layout os keep).size 0))) := upd_same
    generalize upd (upd H p0 (.lst [.int 0])) im (.lst (iv (List.replicate (Sd07.layout os keep).size 0))) = H1 at s1 hi1
    obtain ⟨d, d1, d2⟩ := hla.adrs
    have dim : d ≠ im := ne_of_none d2 him0
    refine ⟨d, _, s1 _ _ d2, trivial, fun od => ?_⟩
    have tT : ∀ {H' : Hp}, (∀ b o, H b = some o → b ≠ d → H' b = some o) → SameT H H' := fun {H'} sx b o h hn => sx b o h fun z => by
      rw [z, d2] at h
      cases h
      exact hn _ rfl
    refine ⟨_, rfl, la, _, rfl, (d1.same s1).sameT (fun b o h hn => by rw [upd_ne (ne_of h (s1 _ _ d2) fun z => hn _ z)]; exact h), d, od, _, rfl, upd_same, ?_⟩
    refine for_items (K := K) (d := d) (o := od) (kvs := encP bs (plc (SK os keep) 4)) (i1 := 5) (i2 := 6) (fun i σ H' => ∃ v5 v6, σ = [some (.ref l), some (.ref la), some (.ref r), some (.ref vl), some (.ref im), v5, v6, none, none] ∧ (∀ b o, H b = some o → b ≠ d → H' b = some o) ∧ H' d = some (.frz od (.dT (encP bs (plc (SK os keep) 4)))) ∧
        H' im = some (.lst (iv (((KPS (SK os keep) 4).1.take i).foldl (fun b z => ptc b z.2 z.1.2.bytes) (List.replicate (Sd07.layout os keep).size 0)))))
      ⟨none, none, rfl, fun b o h hne => by rw [upd_ne hne]; exact s1 _ _ h, upd_same, by rw [upd_ne dim.symm]; exact hi1⟩ (fun i σ H' _ ⟨_, _, _, _, h, _⟩ => h) ?_ ?_
    · rintro i k v qa σ H' t hkv ⟨v5, v6, rfl, sx, hd', him'⟩ ht hqa
      obtain ⟨z, hz, rfl, rfl⟩ := enc_get hkv
      have mz := List.mem_of_getElem? hz
      have mS := KPS_in wf mz
      have wz := SL_wf wf mS
      have sc := (SL_mem mS).1
      have sT : SameT H (upd H' t (.tup [.ref qa, .int ((bs + z.2 : Nat) : Int)])) := fun b o h hn => Same.upd ht _ _ (tT sx b o h hn)
      have hq2 : PairAt (upd H' t (.tup [.ref qa, .int ((bs + z.2 : Nat) : Int)])) qa z.1.1 := Same.upd ht _ _ hqa
      have hi2 := Same.upd (o := .tup [.ref qa, .int ((bs + z.2 : Nat) : Int)]) ht _ _ him'
      have hd2 := Same.upd (o := .tup [.ref qa, .int ((bs + z.2 : Nat) : Int)]) ht _ _ hd'
      have sx2 : ∀ b o, H b = some o → b ≠ d → (upd H' t (.tup [.ref qa, .int ((bs + z.2 : Nat) : Int)])) b = some o := fun b o h hne => Same.upd ht _ _ (sx b o h hne)
      generalize upd H' t (.tup [.ref qa, .int ((bs + z.2 : Nat) : Int)]) = H2 at sT hq2 hi2 hd2 sx2
      unfold scn at sc
      cases eo : os[z.1.1.1]? with
      | none => rw [eo] at sc; cases sc
      | some o =>
        rw [eo] at sc
        obtain ⟨ps, hl, al⟩ := hl0
        obtain ⟨pa, hpa, gp⟩ := al.2 _ _ eo
        obtain ⟨lc, cs, f1, f2, f3⟩ := gp.contents
        obtain ⟨c, hc, gc⟩ := f3.2 _ _ sc
        have ea : (((bs + z.2 : Nat) : Int) - (bs : Int)) = ((z.2 : Nat) : Int) := by omega
        refine ⟨_, rfl, _, rfl, _, rfl, la, _, rfl, hla.base.sameT sT, _, _, rfl, rfl, _, rfl, _, rfl, qa, _, _, _, rfl, rfl, SqT.of hq2, rfl, l, _, _, _, rfl, rfl, SqL.of (sT.l hl), atI_nat hpa, pa, _, rfl, f1.sameT sT, _, rfl, qa, _, _, _, rfl, rfl, SqT.of hq2, rfl, lc, _, _, _, rfl, rfl, SqL.of (sT.l f2), atI_nat hc,
          im, c, z.2, _, z.1.2.bytes, by show [V.ref im, V.int (((bs + z.2 : Nat) : Int) - (bs : Int)), V.ref c] = _; rw [ea], hi2, sT.l gc, (ne_of_none gc him0).symm, ?_, fun H3 h3 sx3 => ?_⟩
        · rw [sec_len, List.length_replicate]
          by_cases h3 : z.1.2.kind = 3
          · left
            have := wz.2.2.2
            rw [if_pos h3] at this
            exact List.eq_nil_of_length_eq_zero this
          · right
            have := wz.2.2.2
            rw [if_neg h3] at this
            rw [this, layout_eq]
            exact KPS_three mz h3
        · refine ⟨_, _, rfl, fun b o h hne => sx3 b o (sx2 b o h hne) (ne_of_none h him0), sx3 _ _ hd2 dim, ?_⟩
          rw [take_snoc hz, List.foldl_append]
          exact h3
    · rintro σ H' ⟨v5, v6, rfl, sx, hd', him'⟩
      refine ⟨hd', ?_⟩
      rw [encP_len] at him'
      have eall : (KPS (SK os keep) 4).1.take (plc (SK os keep) 4).length = (KPS (SK os keep) 4).1 := take_all (by unfold plc; rw [List.length_map])
      rw [eall] at him'
      have s2 : Same H (upd H' d (.dT (encP bs (plc (SK os keep) 4)))) := fun b o h => by
        by_cases e : b = d
        · rw [e, d2] at h
          cases h
          rw [e, upd_same]
        · rw [upd_ne e]; exact sx b o h e
      have hi2 : (upd H' d (.dT (encP bs (plc (SK os keep) 4)))) im = some (.lst (iv (plain os keep))) := by rw [upd_ne dim.symm]; exact him'
      generalize upd H' d (.dT (encP bs (plc (SK os keep) 4))) = H2 at s2 hi2
      have lens : xs.length = ((rls os fun x => List.contains keep x).map (vOf os keep bs)).length := by rw [List.length_map]; exact ar.1
      refine ⟨_, rfl, _, rfl, r, vl, xs, _, rfl, SqL.of (s2 _ _ hr0), SqL.of (s2 _ _ hvl), ?_⟩
      refine for_zip (K := K) (a := r) (b := vl) (xs := xs) (ys := (rls os fun x => List.contains keep x).map (vOf os keep bs)) (i1 := 5) (i2 := 7) (fun i σ H' => ∃ v5 v6 v7 v8, σ = [some (.ref l), some (.ref la), some (.ref r), some (.ref vl), some (.ref im), v5, v6, v7, v8] ∧ Same H H' ∧
          H' im = some (.lst (iv (((Sd07.needed os keep).take i).foldl (stp os keep bs) (plain os keep)))))
        lens ⟨v5, v6, none, none, rfl, s2, hi2⟩ (fun i σ H' _ ⟨_, _, _, _, _, s3, _⟩ => ⟨SqL.of (s3 _ _ hr0), SqL.of (s3 _ _ hvl)⟩) ?_ ?_
      · rintro i x y σ H3 t hx hy ⟨v5, v6, v7, v8, rfl, s3, hi3⟩ ht
        obtain ⟨k, a, hk, rfl, ga⟩ := ar.get hx
        obtain ⟨o, rl, e1, e2, e4, e3⟩ := rls_mem (List.mem_of_getElem? hk)
        have e4 : List.contains keep (k.1, rl.sec) = true := e4
        have hft := hfit k (List.mem_of_getElem? hk) rl e3
        have ey : y = .int (rval os keep bs k rl) := by
          rw [List.getElem?_map, hk] at hy
          have z := Option.some.inj hy
          rw [← z]
          unfold vOf
          rw [e3]
          exact if_pos hft
        subst ey
        have b0 : 0 ≤ rval os keep bs k rl := (tot_bd ..).1
        have en : (Sd07.needed os keep)[i]? = some (k.1, k.2, rl) := by
          have z : ((Sd07.needed os keep).map fun y => (y.1, y.2.1))[i]? = some k := by rw [needed_map]; exact hk
          rw [List.getElem?_map] at z
          cases e : (Sd07.needed os keep)[i]? with
          | none => rw [e] at z; cases z
          | some y =>
            rw [e] at z
            have z : (y.1, y.2.1) = k := Option.some.inj z
            have w2 := needed_rlc (List.mem_of_getElem? e)
            rw [z, e3] at w2
            have w3 := Option.some.inj w2
            rw [w3, ← z]
        obtain ⟨ps, hl, al⟩ := id hl0
        obtain ⟨pa, hpa, gp⟩ := al.2 _ _ e1
        obtain ⟨lr, rs, f1, f2, f3⟩ := gp.relocs
        obtain ⟨c, hc, gc⟩ := f3.2 _ _ e2
        obtain ⟨_, wk, _, _, sec, hsec, ws, wo⟩ := (wf.at e1).rel rl (List.mem_of_getElem? e2)
        have hscn : scn os (k.1, rl.sec) = some sec := by
          unfold scn
          dsimp only
          rw [e1]; exact hsec
        obtain ⟨off, _, _, o1, _, o2⟩ := place_of wf e4 hscn
        have o2 := o2 ws
        have s4 : Same H (upd H3 t (.tup [.ref a, .int (rval os keep bs k rl)])) := s3.trans (Same.upd ht)
        have hi4 := Same.upd (o := .tup [.ref a, .int (rval os keep bs k rl)]) ht _ _ hi3
        generalize upd H3 t (.tup [.ref a, .int (rval os keep bs k rl)]) = H4 at s4 hi4
        have ew : ([V.int 8, .int 4, .int 4, .int 1] : List V)[rl.kind]? = some (.int ((Sd07.width rl.kind : Nat) : Int)) := by
          match rl.kind, wk with
          | 0, _ => rfl
          | 1, _ => rfl
          | 2, _ => rfl
          | 3, _ => rfl
        intro wa hwa
        refine ⟨_, rfl, _, rfl, a, _, _, _, rfl, rfl, SqT.of (ga.same s4), rfl, l, _, _, _, rfl, rfl, SqL.of (s4 _ _ hl), atI_nat hpa, pa, _, rfl, f1.same s4, _, rfl, a, _, _, _, rfl, rfl, SqT.of (ga.same s4), rfl, lr, _, _, _, rfl, rfl, SqL.of (s4 _ _ f2), atI_nat hc, c, _, rfl, gc.kind.same s4, wa, _, _, _, rfl, rfl, hwa, atI_nat ew, ?_⟩
        refine ⟨_, rfl, _, rfl, _, rfl, l, la, a, os, keep, bs, k, rl, rfl, hl0.same s4, wf, hla.same s4, ga.same s4, e3, e4, fun H5 s5 => ?_⟩
        have s05 := s4.trans s5
        have wle : Sd07.width rl.kind ≤ 8 := by
          match rl.kind, wk with
          | 0, _ => decide
          | 1, _ => decide
          | 2, _ => decide
          | 3, _ => decide
        have ea : (((bs + Sd07.offsetOf (Sd07.layout os keep) (k.1, rl.sec) + rl.offset : Nat) : Int) - (bs : Int)) = ((Sd07.offsetOf (Sd07.layout os keep) (k.1, rl.sec) + rl.offset : Nat) : Int) := by omega
        have ev : rval os keep bs k rl = (((rval os keep bs k rl).toNat : Nat) : Int) := by omega
        refine ⟨_, rfl, _, rfl, _, rfl, la, _, rfl, hla.base.same s05, _, _, rfl, rfl, _, rfl, _, rfl, (rval os keep bs k rl).toNat, Sd07.width rl.kind, by rw [← ev]; rfl, wle, fun H6 lb s6 hlb0 hlb => ?_⟩
        have hi6 := s6 _ _ (s5 _ _ hi4)
        have ilb : im ≠ lb := ne_of_none (s5 _ _ hi4) hlb0
        refine ⟨im, lb, Sd07.offsetOf (Sd07.layout os keep) (k.1, rl.sec) + rl.offset, _, Sd07.le (Sd07.width rl.kind) (rval os keep bs k rl).toNat, by show [V.ref im, V.int (((bs + Sd07.offsetOf (Sd07.layout os keep) (k.1, rl.sec) + rl.offset : Nat) : Int) - (bs : Int)), V.ref lb] = _; rw [ea], hi6, hlb, ilb, .inr ?_, fun H7 h7 sx7 => ?_⟩
        · rw [le_len, stp_len, plain_len, o1]
          omega
        · refine ⟨_, _, _, _, rfl, fun b o h => sx7 b o (s6 _ _ (s05 _ _ h)) (ne_of_none h him0), ?_⟩
          rw [h7, take_snoc en, List.foldl_append]
          show _ = some (HO.lst (iv (stp os keep bs _ (k.1, k.2, rl))))
          unfold stp
          dsimp only
          rw [valueOf_eq wf keep hbs e3, value_le wk _ _ _ hft]
          rfl
      · rintro σ H3 ⟨v5, v6, v7, v8, rfl, s3, hi3⟩
        refine ⟨_, rfl, q H3 im s3 him0 ?_⟩
        have elen : xs.length = (Sd07.needed os keep).length := by
          rw [ar.1, ← needed_map, List.length_map]
        rw [take_all elen] at hi3
        rw [image_eq wf keep bs]
        exact hi3
end
end Jo
set_option Elab.async false
set_option linter.all false
set_option maxRecDepth 100000
set_option maxHeartbeats 2000000
namespace Jo
open PySem PySem.Spec L2 JX
open PyProof.Rows hiding St frameOf passOn
open Sd07 (Object Section Symbol Reloc)
/-- the answer as values -/
def ansV (a : Sd07.Ans) : List V := .int a.value :: iv (a.told ++ a.image)
def farb (os : List Object) (keep : List (Nat × Nat)) (bs : Nat) (k : Nat × Nat) : Bool := match rlc os k with
  | none => false
  | some r => !fit r.kind (rval os keep bs k r)
theorem far_val {os : List Object} (wf : WF os) (keep : List (Nat × Nat)) {bs : Nat} (hb : bs < 140737488355328) {k : Nat × Nat} {r : Reloc} (h : rlc os k = some r) : (Sd07.valueOf os (Sd07.layout os keep) bs (k.1, k.2, r)).isNone = farb os keep bs k := by
  have wk : r.kind ≤ 3 := by
    unfold rlc at h
    cases e : os[k.1]? with
    | none => rw [e] at h; cases h
    | some o =>
      rw [e] at h
      exact ((wf.at e).rel r (List.mem_of_getElem? h)).2.1
  unfold farb
  rw [valueOf_eq wf keep hb h, h]
  show _ = !fit r.kind (rval os keep bs k r)
  unfold rval
  rw [← value_some wk]
  cases Sd07.value r.kind (adr os keep bs (tgt os (k.1, r.symbol))) (bs + Sd07.offsetOf (Sd07.layout os keep) (k.1, r.sec) + r.offset) r.addend <;> rfl
theorem eqV_far {os : List Object} {keep : List (Nat × Nat)} {bs : Nat} {k : Nat × Nat} {r : Reloc} (h : rlc os k = some r) : eqV (vOf os keep bs k) .non = farb os keep bs k ∧ flatV (vOf os keep bs k) = true := by
  unfold vOf farb
  rw [h]
  dsimp only
  cases fit r.kind (rval os keep bs k r) <;> exact ⟨rfl, rfl⟩
theorem image_len {os : List Object} (wf : WF os) (keep : List (Nat × Nat)) (bs : Nat) : (Sd07.image os keep (Sd07.layout os keep) bs).length = (Sd07.layout os keep).size := by
  rw [image_eq wf, stp_len, plain_len]
theorem map_some {α β : Type} {o : Option α} {f : α → β} {b : β} (h : o.map f = some b) : ∃ a, o = some a ∧ f a = b := by
  cases o with
  | none => cases h
  | some a => exact ⟨a, rfl, Option.some.inj h⟩
theorem map_none {α β : Type} {o : Option α} {f : α → β} (h : o.map f = none) : o = none := by
  cases o with
  | none => rfl
  | some a => cases h
section
variable {P : Program} {w : World} {K : PySem.W.Frag} {mg : Str → Option Value} {base : Heap}
def sp_parts (K : PySem.W.Frag) : Sp := fun vs H Q _ => ∃ l t v os root c, vs = [.int ((Sd07.Call.base c : Nat) : Int), .int ((Sd07.Call.room c : Nat) : Int), v, .ref l, .ref t] ∧ PartsAt K H l os ∧ WF os ∧ TgtsAt os H t ∧ TgtV H v (some root) ∧ tgt os root = some root ∧ 4096 ∣ c.base ∧ c.base < 140737488355328 ∧
  (ansV (Sd07.joined c os root)).length < 1000000 ∧ ∀ H' r, H' r = some (.lst (ansV (Sd07.joined c os root))) → Q (.ref r) H'
theorem sc_parts : FnScope ["base", "room", "root_symbol", "parts", "targets", "kept", "relocations", "unbound", "layout", "values", "far", "image_size", "told"] ["base", "room", "root_symbol", "parts", "targets"] (defScope (top 90)) := ⟨rfl, rfl, rfl, by decide +kernel, rfl, by decide +kernel, by decide +kernel⟩
theorem ok_parts (T : Glob K mg) (D : DefIn K mg "join_parts" (top 90) ["base", "room", "root_symbol", "parts", "targets"]) (G1 : Cal P w K mg base CX0 4 "kept_sections" ["parts", "targets", "root_symbol"] (sp_keep K)) (G2 : Cal P w K mg base CX0 1 "kept_relocations" ["parts", "kept"] (sp_keptrel K))
    (G3 : Cal P w K mg base CX0 1 "first_unbound" ["parts", "targets", "relocations"] (sp_unb K)) (G4 : Cal P w K mg base CX0 3 "lay_out" ["parts", "kept", "base"] (sp_lay K)) (G5 : Cal P w K mg base CX0 3 "put_values" ["parts", "targets", "layout", "relocations"] (sp_vals K))
    (G6 : Cal P w K mg base CX0 2 "target_address" ["parts", "layout", "target"] (sp_tadr K)) (G7 : Cal P w K mg base CX0 2 "image_bytes" ["parts", "layout", "relocations", "values"] (sp_image K)) :
    Cal P w K mg base CX0 5 "join_parts" ["base", "room", "root_symbol", "parts", "targets"] (sp_parts K) := by
  refine D.ok sc_parts (fun vs H Q E h => ?_) (fun f cdv A outer s H vs Q E hr h => ?_)
  · obtain ⟨l, t, v, os, root, c, rfl, _⟩ := h
    rfl
  · obtain ⟨l, t, v, os, root, c, rfl, hl, wf, ht, hv, hroot, hdv, hbs, hlen, q⟩ := h
    have zl : sizeLine = 16777216 := rfl
    have hr1 : Room 1 _ := hr.mono (by decide)
    have hr2 : Room 2 _ := hr.mono (by decide)
    have hr3 : Room 3 _ := hr.mono (by decide)
    refine ⟨_, pss_cons (ps_set (i := 5) sc_parts.nd rfl (Or.inl rfl) (pe_cal G1 hr pass0 (pa_cons (pv 3) (pa_cons (pv 4) (pa_cons (pv 2) pa_nil)))))
      (pss_cons (ps_set (i := 6) sc_parts.nd rfl (Or.inl rfl) (pe_cal G2 hr1 pass0 (pa_cons (pv 3) (pa_cons (pv 5) pa_nil))))
      (pss_cons (ps_set (i := 7) sc_parts.nd rfl (Or.inl rfl) (pe_cal G3 hr1 pass0 (pa_cons (pv 3) (pa_cons (pv 4) (pa_cons (pv 6) pa_nil)))))
      (pss_cons (ps_if (pt_cmp (pc_notN (pv 7))) (pss_one (ps_ret (pe_lst (pa_cons (pe_gi T.unbound) (pa_cons (pe_ix ix_tup (pv 7) pe_int (fun _ _ => rfl)) (pa_cons (pe_ix ix_tup (pv 7) pe_int (fun _ _ => rfl)) pa_nil)))))) pss_nil)
      (pss_cons (ps_set (i := 8) sc_parts.nd rfl (Or.inl rfl) (pe_cal G4 hr3 pass0 (pa_cons (pv 3) (pa_cons (pv 5) (pa_cons (pv 0) pa_nil)))))
      (pss_cons (ps_set (i := 9) sc_parts.nd rfl (Or.inl rfl) (pe_cal G5 hr3 pass0 (pa_cons (pv 3) (pa_cons (pv 4) (pa_cons (pv 8) (pa_cons (pv 6) pa_nil))))))
      (pss_cons (ps_if (pt_cmpR op_in_seq pe_non (pv 9) rfl)
        (pss_cons (ps_set (i := 10) sc_parts.nd rfl (Or.inl rfl) (pe_ix ix_list (pv 6) (pe_bm PySem.F.plainAttrs_list PySem.F.slot_list_index PySem.F.type_list_index mt_index (pv 9) (pa_cons pe_non pa_nil)) (fun _ _ => rfl)))
        (pss_one (ps_ret (pe_lst (pa_cons (pe_gi T.too_far) (pa_cons (pe_ix ix_tup (pv 10) pe_int (fun _ _ => rfl)) (pa_cons (pe_ix ix_tup (pv 10) pe_int (fun _ _ => rfl)) pa_nil))))))) pss_nil)
      (pss_cons (ps_set (i := 11) sc_parts.nd rfl (Or.inl rfl) (pe_op op_sub (pe_f (pv 8)) (pv 0)))
      (pss_cons (ps_if (pt_cmp (pc_gt (pv 11) (pv 1))) (pss_one (ps_ret (pe_lst (pa_cons (pe_gi T.no_room) pa_nil)))) pss_nil)
      (pss_cons (ps_set (i := 12) sc_parts.nd rfl (Or.inl rfl) (pe_lst (pa_cons (pe_gi T.joined) (pa_cons (pv 11) (pa_cons (pe_op op_sub (pe_f (pv 8)) (pv 0)) (pa_cons (pe_cal G6 hr2 pass0 (pa_cons (pv 3) (pa_cons (pv 8) (pa_cons (pv 2) pa_nil)))) pa_nil))))))
      (pss_one (ps_ret (pe_op op_cat (pv 12) (pe_cal G7 hr2 pass0 (pa_cons (pv 3) (pa_cons (pv 8) (pa_cons (pv 6) (pa_cons (pv 9) pa_nil))))))))))))))))), ?_⟩
    obtain ⟨k1, k2, _⟩ := kept_ok os root
    have hcl : Closed os (Sd07.kept os root) := fun x hx y hy => by
      have := k2 x (by simpa using hx) y hy
      simpa using this
    unfold Sd07.joined at hlen q
    generalize hkeep : Sd07.kept os root = keep at hcl hlen q k1
    -- kept, relocations, unbound
    refine ⟨_, rfl, _, rfl, _, rfl, l, t, v, os, root, rfl, hl, wf, ht, hv, hroot, fun H1 kd s1 hkd => ?_⟩
    rw [hkeep] at hkd
    refine ⟨_, rfl, _, rfl, l, kd, os, _, rfl, hl.same s1, wf, hkd, fun H2 r xs s2 hr02 hr2' ar2 => ?_⟩
    have s12 := s1.trans s2
    have ar2 : Al (PairAt H2) xs (rls os fun x => List.contains keep x) := ar2
    have fu := needed_find (os := os) (keep := keep) (Sd07.lost os) (unb os) fun k r h => lost_unb wf h
    refine ⟨_, rfl, _, rfl, _, rfl, l, t, r, xs, os, _, rfl, hl.same s12, wf, ht.same s12, hr2', ar2, fun hnone => ?_, fun a k hsome ga => ?_⟩
    rotate_left
    · -- unbound is not None
      rw [hsome] at fu
      obtain ⟨y, ey, e2⟩ := map_some fu
      refine ⟨_, rfl, _, rfl, ?_⟩
      rw [decide_eq_false (by intro z; cases z)]
      refine iteT ⟨_, rfl, a, _, _, _, rfl, rfl, SqT.of ga, rfl, _, rfl, a, _, _, _, rfl, rfl, SqT.of ga, rfl, (by show 3 ≤ sizeLine; decide), fun p hp => ?_⟩
      refine q _ p ?_
      rw [upd_same]
      simp only [ey]
      rw [← e2]
      rfl
    rw [hnone] at fu
    have fu := map_none fu
    simp only [fu] at hlen q
    refine ⟨_, rfl, _, rfl, ?_⟩
    rw [decide_eq_true rfl]
    refine iteF ?_
    -- layout, values
    refine ⟨_, rfl, _, rfl, _, rfl, l, kd, os, keep, c.base, rfl, hl.same s12, wf, hkd.same s2, hdv, fun H3 la s3 hla => ?_⟩
    have s13 := s12.trans s3
    have ar3 := ar2.mono fun _ _ g => g.same s3
    refine ⟨_, rfl, _, rfl, _, rfl, _, rfl, l, t, la, r, xs, os, keep, c.base, rfl, hl.same s13, wf, ht.same s13, hla, hcl, s3 _ _ hr2', ar3, fun H4 vl s4 hvl0 hvl => ?_⟩
    have s14 := s13.trans s4
    have ar4 := ar3.mono fun _ _ g => g.same s4
    have hr4 := s4 _ _ (s3 _ _ hr2')
    have ff := needed_find (os := os) (keep := keep) (fun z => (Sd07.valueOf os (Sd07.layout os keep) c.base z).isNone) (farb os keep c.base) fun k r h => far_val wf keep hbs h
    have flat : ((rls os fun x => List.contains keep x).map (vOf os keep c.base)).all flatV = true := by
      rw [List.all_map, List.all_eq_true]
      intro k hk
      obtain ⟨_, rl, _, _, _, e⟩ := rls_mem hk
      exact (eqV_far e).2
    refine ⟨_, rfl, vl, _, rfl, .inl (SqL.of hvl), rfl, flat, _, rfl, ?_⟩
    have eany : inV .non ((rls os fun x => List.contains keep x).map (vOf os keep c.base)) = (rls os fun x => List.contains keep x).any (farb os keep c.base) := by
      unfold inV
      rw [List.any_map]
      refine Bool.eq_iff_iff.mpr ?_
      rw [List.any_eq_true, List.any_eq_true]
      constructor
      · rintro ⟨k, hk, h⟩
        obtain ⟨_, rl, _, _, _, e⟩ := rls_mem hk
        exact ⟨k, hk, by rw [← (eqV_far e).1]; exact h⟩
      · rintro ⟨k, hk, h⟩
        obtain ⟨_, rl, _, _, _, e⟩ := rls_mem hk
        refine ⟨k, hk, ?_⟩
        show eqV (vOf os keep c.base k) .non = true
        rw [(eqV_far e).1]; exact h
    show if inV .non _ = true then _ else _
    rw [eany]
    refine ite2 (fun h => ?_) (fun h => ?_)
    · -- too far
      obtain ⟨k0, hk0, h0⟩ := List.any_eq_true.mp h
      cases ef : (rls os fun x => List.contains keep x).find? (farb os keep c.base) with
      | none => exact absurd h0 (List.find?_eq_none.mp ef k0 hk0)
      | some k =>
        obtain ⟨hf, i, hi, ei, hno⟩ := List.find?_eq_some_iff_getElem.mp ef
        have hk : (rls os fun x => List.contains keep x)[i]? = some k := by rw [List.getElem?_eq_getElem hi, ei]
        obtain ⟨_, rl, _, _, _, e⟩ := rls_mem (List.mem_of_getElem? hk)
        obtain ⟨a, ha, ga⟩ := ar4.2 _ _ hk
        refine ⟨_, rfl, _, rfl, .inl ⟨rfl, _, SqL.of hvl⟩, vl, _, .non, i, vOf os keep c.base k, rfl, rfl, SqL.of hvl, rfl, flat, by rw [List.getElem?_map, hk]; rfl, by rw [(eqV_far e).1]; exact hf, fun m z' hm hz => ?_, r, _, _, _, rfl, rfl, SqL.of hr4, atI_nat ha, ?_⟩
        · rw [List.getElem?_map, List.getElem?_eq_getElem (Nat.lt_trans hm hi)] at hz
          have hz := Option.some.inj hz
          obtain ⟨_, rl', _, _, _, e'⟩ := rls_mem (List.getElem_mem (Nat.lt_trans hm hi))
          rw [← hz, (eqV_far e').1]
          simpa using hno m hm
        · rw [ef] at ff
          obtain ⟨y, ey, e2⟩ := map_some ff
          refine ⟨_, rfl, a, _, _, _, rfl, rfl, SqT.of ga, rfl, _, rfl, a, _, _, _, rfl, rfl, SqT.of ga, rfl, (by show 3 ≤ sizeLine; decide), fun p hp => ?_⟩
          refine q _ p ?_
          rw [upd_same]
          simp only [ey]
          rw [← e2]
          rfl
    · have hnf : ∀ k, k ∈ (rls os fun x => List.contains keep x) → farb os keep c.base k = false := fun k hk => by
        cases e : farb os keep c.base k with
        | false => rfl
        | true => exact absurd (List.any_eq_true.mpr ⟨k, hk, e⟩) h
      have en : (rls os fun x => List.contains keep x).find? (farb os keep c.base) = none := List.find?_eq_none.mpr fun k hk => by rw [hnf k hk]; simp
      rw [en] at ff
      have ff := map_none ff
      simp only [ff] at hlen q
      have la4 := hla.same s4
      have ei : (((c.base + (Sd07.layout os keep).size : Nat) : Int) - (c.base : Int)) = (((Sd07.layout os keep).size : Nat) : Int) := by omega
      have et : (((c.base + (Sd07.layout os keep).total : Nat) : Int) - (c.base : Int)) = (((Sd07.layout os keep).total : Nat) : Int) := by omega
      refine ⟨_, rfl, la, _, rfl, la4.ie, _, rfl, _, _, rfl, rfl, ?_⟩
      refine ⟨_, rfl, _, rfl, _, _, rfl, rfl, _, rfl, ?_⟩
      refine ite2 (fun h => ?_) (fun h => ?_)
      · -- no room
        have h : ((c.room : Nat) : Int) < ((c.base + (Sd07.layout os keep).size : Nat) : Int) - (c.base : Int) := of_decide_eq_true h
        rw [if_pos (by omega)] at q
        refine ⟨(by show 1 ≤ sizeLine; decide), fun p hp => q _ p ?_⟩
        rw [upd_same]
        rfl
      · have h : ¬ ((c.room : Nat) : Int) < ((c.base + (Sd07.layout os keep).size : Nat) : Int) - (c.base : Int) := fun z => h (decide_eq_true z)
        rw [if_neg (by omega)] at hlen q
        have hsz : (Sd07.layout os keep).size ≤ 1000000 := by
          unfold ansV at hlen
          rw [List.length_cons, iv_len, List.length_append, image_len wf] at hlen
          omega
        have pl : Placed os (some root) := by rw [← hroot]; exact tgt_placed wf root
        refine ⟨_, rfl, _, rfl, la, _, rfl, la4.we, _, rfl, _, _, rfl, rfl, _, rfl, _, rfl, _, rfl, l, la, v, os, keep, c.base, some root, rfl, hl.same s14, wf, la4, hv.same s14, pl, fun x hx => ?_, fun H5 s5 => ?_⟩
        · have := k1 x (by unfold fst_; rw [hroot]; exact List.mem_append_right _ hx)
          simpa using this
        refine ⟨(by show 4 ≤ sizeLine; decide), fun tl htl => ?_⟩
        have s45 := s5.trans (Same.upd (o := .lst [.int 0, .int (((c.base + (Sd07.layout os keep).size : Nat) : Int) - (c.base : Int)), .int (((c.base + (Sd07.layout os keep).total : Nat) : Int) - (c.base : Int)), .int ((adr os keep c.base (some root) : Nat) : Int)]) htl)
        have htl6 : (upd H5 tl (.lst [.int 0, .int (((c.base + (Sd07.layout os keep).size : Nat) : Int) - (c.base : Int)), .int (((c.base + (Sd07.layout os keep).total : Nat) : Int) - (c.base : Int)), .int ((adr os keep c.base (some root) : Nat) : Int)])) tl = some (.lst [.int 0, .int (((c.base + (Sd07.layout os keep).size : Nat) : Int) - (c.base : Int)), .int (((c.base + (Sd07.layout os keep).total : Nat) : Int) - (c.base : Int)), .int ((adr os keep c.base (some root) : Nat) : Int)]) := upd_same
        refine ⟨_, rfl, _, rfl, _, rfl, _, rfl, _, rfl, l, la, r, vl, xs, os, keep, c.base, rfl, hl.same (s14.trans s45), wf, la4.same s45, s45 _ _ hr4, ar4.mono (fun _ _ g => g.same s45), s45 _ _ hvl, fun k hk rl e => ?_, hbs, hsz, fun H7 im s7 him0 him => ?_⟩
        · have z := hnf k hk
          unfold farb at z
          rw [e] at z
          simpa using z
        have len : (Sd07.image os keep (Sd07.layout os keep) c.base).length = (Sd07.layout os keep).size := image_len wf keep c.base
        refine ⟨tl, im, _, _, rfl, rfl, s7 _ _ htl6, him, ?_, fun p hp => q _ p ?_⟩
        · rw [iv_len, len]
          show 4 + _ ≤ sizeLine
          omega
        · rw [upd_same, ei, et, address_eq wf keep hbs, hroot]
          rfl
end
end Jo
set_option Elab.async false
set_option linter.all false
set_option maxRecDepth 100000
set_option maxHeartbeats 2000000
/-! AN OBJECT READ: rows of bytes. -/
namespace Jo
open Sd07 (Object Section Symbol Reloc)
def lo : List Nat → Nat
  | [] => 0
  | b :: r => b + 256 * lo r
def cut (l : List Nat) (i n : Nat) : List Nat := (l.drop i).take n
theorem sum_mul (c : Nat) (g : Nat → Nat) : ∀ l : List Nat, (l.map fun i => c * g i).sum = c * (l.map g).sum
  | [] => rfl
  | a :: l => by
    rw [List.map_cons, List.map_cons, List.sum_cons, List.sum_cons, sum_mul c g l, Nat.mul_add]
theorem lo_range : ∀ (n : Nat) (f : Nat → Nat), ((List.range n).map fun i => f i * 256 ^ i).sum = lo ((List.range n).map f)
  | 0, f => rfl
  | n + 1, f => by
    rw [List.range_succ_eq_map, List.map_cons, List.map_cons, List.sum_cons, List.map_map, List.map_map]
    show f 0 * 1 + _ = f 0 + 256 * lo _
    rw [← lo_range n, ← sum_mul]
    have e : ((fun i => f i * 256 ^ i) ∘ Nat.succ) = fun i => 256 * ((f ∘ Nat.succ) i * 256 ^ i) := by
      funext i
      show f (i + 1) * 256 ^ (i + 1) = 256 * (f (i + 1) * 256 ^ i)
      rw [Nat.pow_succ, ← Nat.mul_assoc, Nat.mul_comm]
    rw [e, Nat.mul_one]
theorem at_lo (b : Array Nat) (off n : Nat) : Sd07.at_ b off n = lo (Sd07.part b off n) := by
  unfold Sd07.at_ Sd07.part
  exact lo_range n fun i => b.getD (off + i) 0
theorem cut_len {l : List Nat} {i n : Nat} (h : i + n ≤ l.length) : (cut l i n).length = n := by
  unfold cut
  rw [List.length_take, List.length_drop]
  omega
theorem cut_get {l : List Nat} {i n j : Nat} (h : j < n) : (cut l i n)[j]? = l[i + j]? := by
  unfold cut
  rw [List.getElem?_take_of_lt h, List.getElem?_drop]
theorem part_cut {l : List Nat} {off n : Nat} (h : off + n ≤ l.length) : Sd07.part l.toArray off n = cut l off n := by
  refine List.ext_getElem? fun j => ?_
  unfold Sd07.part
  by_cases hj : j < n
  · rw [cut_get hj, List.getElem?_map, List.getElem?_range hj]
    have hl : off + j < l.length := by omega
    rw [List.getElem?_eq_getElem hl]
    show some (l.toArray.getD (off + j) 0) = _
    simp [Array.getD, hl]
  · rw [List.getElem?_eq_none (by rw [List.length_map, List.length_range]; omega), List.getElem?_eq_none (by rw [cut_len h]; omega)]
theorem at_cut {l : List Nat} {off n : Nat} (h : off + n ≤ l.length) : Sd07.at_ l.toArray off n = lo (cut l off n) := by rw [at_lo, part_cut h]
theorem cut_cut {l : List Nat} {o w i n : Nat} (h : i + n ≤ w) : cut (cut l o w) i n = cut l (o + i) n := by
  refine List.ext_getElem? fun j => ?_
  by_cases hj : j < n
  · rw [cut_get hj, cut_get (by omega), cut_get hj, Nat.add_assoc]
  · unfold cut
    rw [List.getElem?_take_eq_none (by omega), List.getElem?_take_eq_none (by omega)]
theorem cut_one {l : List Nat} {i b : Nat} (h : l[i]? = some b) : cut l i 1 = [b] := by
  refine List.ext_getElem? fun j => ?_
  cases j with
  | zero => rw [cut_get (by decide), Nat.add_zero, h]; rfl
  | succ j =>
    unfold cut
    rw [List.getElem?_take_eq_none (by omega)]
    rfl
theorem lo_one (b : Nat) : lo [b] = b := by simp [lo]
theorem lo_lt : ∀ l : List Nat, (∀ b ∈ l, b ≤ 255) → lo l < 256 ^ l.length
  | [], _ => by decide
  | b :: r, h => by
    have h1 := h b (List.mem_cons_self ..)
    have h2 := lo_lt r fun x hx => h x (List.mem_cons_of_mem _ hx)
    show b + 256 * lo r < 256 ^ (r.length + 1)
    rw [Nat.pow_succ]
    omega
theorem mem_cut {l : List Nat} {i n b : Nat} (h : b ∈ cut l i n) : b ∈ l := List.mem_of_mem_drop (List.mem_of_mem_take h)
/-! ### rows -/
def rows (l : List Nat) (o n size : Nat) : List (List Nat) := (List.range n).map fun k => cut l (o + size * k) size
theorem rows_succ (l : List Nat) (o n size : Nat) : rows l o (n + 1) size = cut l o size :: rows l (o + size) n size := by
  unfold rows
  rw [List.range_succ_eq_map, List.map_cons, List.map_map]
  congr 1
  refine List.map_congr_left fun k _ => ?_
  show cut l (o + size * (k + 1)) size = cut l (o + size + size * k) size
  rw [Nat.mul_succ]
  congr 1
  omega
theorem rows_get {l : List Nat} {o n size k : Nat} (h : k < n) : (rows l o n size)[k]? = some (cut l (o + size * k) size) := by
  unfold rows
  rw [List.getElem?_map, List.getElem?_range h]
  rfl
theorem rows_len (l : List Nat) (o n size : Nat) : (rows l o n size).length = n := by
  unfold rows
  rw [List.length_map, List.length_range]
def tab {α : Type} (g : List Nat → Option α) : List (List Nat) → Option (List α)
  | [] => some []
  | r :: rs => match g r, tab g rs with
    | some x, some xs => some (x :: xs)
    | _, _ => none
theorem table_tab {α : Type} {f : Nat → Option α} {g : List Nat → Option α} {l : List Nat} {size : Nat} : ∀ (n o : Nat), (∀ p, o ≤ p → p + size ≤ o + size * n → f p = g (cut l p size)) → Sd07.table f size n o = tab g (rows l o n size)
  | 0, o, _ => rfl
  | n + 1, o, h => by
    rw [rows_succ]
    unfold Sd07.table tab
    rw [h o (Nat.le_refl _) (by rw [Nat.mul_succ]; omega), table_tab n (o + size) fun p h1 h2 => h p (by omega) (by rw [Nat.mul_succ]; omega)]
    rfl
theorem tab_cons {α : Type} (g : List Nat → Option α) (r : List Nat) (rs : List (List Nat)) : tab g (r :: rs) = match g r, tab g rs with
    | some x, some xs => some (x :: xs)
    | _, _ => none := rfl
theorem tab_append {α : Type} (g : List Nat → Option α) (b : List (List Nat)) : ∀ a : List (List Nat), tab g (a ++ b) = match tab g a, tab g b with
    | some xs, some ys => some (xs ++ ys)
    | _, _ => none
  | [] => by
    show tab g b = match some [], tab g b with
      | some xs, some ys => some (xs ++ ys)
      | _, _ => none
    cases tab g b <;> rfl
  | r :: a => by
    rw [List.cons_append, tab_cons, tab_cons, tab_append g b a]
    cases g r with
    | none => cases tab g a <;> rfl
    | some x =>
      cases tab g a with
      | none => rfl
      | some xs => cases tab g b <;> rfl
theorem tab_len {α : Type} (g : List Nat → Option α) : ∀ {l : List (List Nat)} {xs : List α}, tab g l = some xs → xs.length = l.length
  | [], xs, h => by cases h; rfl
  | r :: l, xs, h => by
    unfold tab at h
    cases e1 : g r with
    | none => rw [e1] at h; cases h
    | some x =>
      cases e2 : tab g l with
      | none => rw [e1, e2] at h; cases h
      | some ys =>
        rw [e1, e2] at h
        cases h
        rw [List.length_cons, List.length_cons, tab_len g e2]
theorem tab_all {α : Type} (g : List Nat → Option α) : ∀ {l : List (List Nat)} {xs : List α}, tab g l = some xs → ∀ x ∈ xs, ∃ r ∈ l, g r = some x
  | [], xs, h => fun x hx => by cases h; simp at hx
  | r :: l, xs, h => fun x hx => by
    unfold tab at h
    cases e1 : g r with
    | none => rw [e1] at h; cases h
    | some y =>
      cases e2 : tab g l with
      | none => rw [e1, e2] at h; cases h
      | some ys =>
        rw [e1, e2] at h
        cases h
        rcases List.mem_cons.mp hx with e | e
        · exact ⟨r, List.mem_cons_self .., by rw [e1, e]⟩
        · obtain ⟨r', h1, h2⟩ := tab_all g e2 x e
          exact ⟨r', List.mem_cons_of_mem _ h1, h2⟩
theorem tab_snoc_some {α : Type} {g : List Nat → Option α} {l : List (List Nat)} {i : Nat} {r : List Nat} {xs : List α} {x : α} (h : l[i]? = some r) (h1 : tab g (l.take i) = some xs) (h2 : g r = some x) : tab g (l.take (i + 1)) = some (xs ++ [x]) := by
  rw [take_snoc h, tab_append, h1]
  unfold tab tab
  rw [h2]
theorem tab_snoc_none {α : Type} {g : List Nat → Option α} {l : List (List Nat)} {i : Nat} {r : List Nat} (h : l[i]? = some r) (h2 : g r = none) : tab g l = none := by
  rw [split_at h, tab_append]
  have : tab g (r :: l.drop (i + 1)) = none := by
    unfold tab
    rw [h2]
  rw [this]
  cases tab g (l.take i) <;> rfl
/-! ### what a row tells -/
def rsec (r : List Nat) : Option Section := if r.getD 0 0 ≤ 3 ∧ r.getD 1 0 ≤ 12 ∧ lo (cut r 2 2) ≤ 1 ∧ lo (cut r 4 4) ≤ 65536 then some ⟨r.getD 0 0, r.getD 1 0, lo (cut r 2 2) == 1, lo (cut r 4 4), []⟩ else none
def rsym (names : List Nat) (ss : List Section) (r : List Nat) : Option Symbol :=
  match Sd07.nameAt names (lo (cut r 0 2)) with
  | none => none
  | some t =>
    if 2 < r.getD 2 0 ∨ r.getD 3 0 ≠ 0 ∨ lo (cut r 6 2) ≠ 0 ∨ (r.getD 2 0 ≠ 0 ∧ t = []) then none
    else if lo (cut r 4 2) = 65535 then (if r.getD 2 0 = 0 ∨ lo (cut r 8 4) ≠ 0 then none else some ⟨t, r.getD 2 0, .none⟩)
    else if lo (cut r 4 2) = 65534 then some ⟨t, r.getD 2 0, .number (lo (cut r 8 4))⟩
    else match ss[lo (cut r 4 2)]? with
      | some x => if lo (cut r 8 4) ≤ x.size then some ⟨t, r.getD 2 0, .inside (lo (cut r 4 2)) (lo (cut r 8 4))⟩ else none
      | none => none
def rrel (ss : List Section) (m : Nat) (r : List Nat) : Option Reloc :=
  match ss[lo (cut r 0 2)]? with
  | none => none
  | some x => if m ≤ lo (cut r 2 2) ∨ 3 < r.getD 8 0 ∨ lo (cut r 9 3) ≠ 0 ∨ x.kind = 3 ∨ x.size < lo (cut r 4 4) + Sd07.width (r.getD 8 0) then none else some ⟨lo (cut r 0 2), lo (cut r 4 4), lo (cut r 2 2), r.getD 8 0, Sd07.signed 32 (lo (cut r 12 4))⟩
theorem at_row {l : List Nat} {o w i n : Nat} (h : o + w ≤ l.length) (h2 : i + n ≤ w) : Sd07.at_ l.toArray (o + i) n = lo (cut (cut l o w) i n) := by
  rw [at_cut (by omega), cut_cut h2]
theorem at_row1 {l : List Nat} {o w i : Nat} (h : o + w ≤ l.length) (h2 : i < w) : Sd07.at_ l.toArray (o + i) 1 = (cut l o w).getD i 0 := by
  have hl : o + i < l.length := by omega
  have e : l[o + i]? = some l[o + i] := List.getElem?_eq_getElem hl
  rw [at_cut (by omega), cut_one e, lo_one, List.getD_eq_getElem?_getD, cut_get h2, e]
  rfl
theorem sec_row {l : List Nat} {o : Nat} (h : o + 8 ≤ l.length) : Sd07.sectionAt l.toArray o = rsec (cut l o 8) := by
  unfold Sd07.sectionAt rsec
  dsimp only
  have e0 := at_row1 (i := 0) h (by decide)
  rw [Nat.add_zero] at e0
  rw [e0, at_row1 (i := 1) h (by decide), at_row (i := 2) (n := 2) h (by decide), at_row (i := 4) (n := 4) h (by decide)]
theorem sym_row {l names : List Nat} {ss : List Section} {o : Nat} (h : o + 12 ≤ l.length) : Sd07.symbolAt l.toArray names ss o = rsym names ss (cut l o 12) := by
  unfold Sd07.symbolAt rsym
  dsimp only
  have e0 := at_row (i := 0) (n := 2) h (by decide)
  rw [Nat.add_zero] at e0
  rw [e0, at_row1 (i := 2) h (by decide), at_row (i := 4) (n := 2) h (by decide), at_row (i := 8) (n := 4) h (by decide), at_row1 (i := 3) h (by decide), at_row (i := 6) (n := 2) h (by decide)]
  rfl
theorem rel_row {l : List Nat} {ss : List Section} {m o : Nat} (h : o + 16 ≤ l.length) : Sd07.relocAt l.toArray ss m o = rrel ss m (cut l o 16) := by
  unfold Sd07.relocAt rrel
  dsimp only
  have e0 := at_row (i := 0) (n := 2) h (by decide)
  rw [Nat.add_zero] at e0
  rw [e0, at_row (i := 2) (n := 2) h (by decide), at_row (i := 4) (n := 4) h (by decide), at_row1 (i := 8) h (by decide), at_row (i := 9) (n := 3) h (by decide), at_row (i := 12) (n := 4) h (by decide)]
  rfl
/-! ### the whole -/
def stz (s : Section) : Nat := if s.kind = 3 then 0 else s.size
def ctn (l : List Nat) : List Section → Nat → List Section
  | [], _ => []
  | s :: r, o => { s with bytes := if s.kind = 3 then s.bytes else cut l o s.size } :: ctn l r (o + stz s)
theorem stz_sum : ∀ ss : List Section, ((ss.filter fun (s : Section) => s.kind != 3).map fun (s : Section) => s.size).sum = (ss.map stz).sum
  | [] => rfl
  | s :: r => by
    rw [List.filter_cons, List.map_cons, List.sum_cons, ← stz_sum r]
    unfold stz
    by_cases h : s.kind = 3
    · rw [if_neg (by simp [h]), if_pos h, Nat.zero_add]
    · rw [if_pos (by simp [h]), if_neg h, List.map_cons, List.sum_cons]
theorem ctn_eq {l : List Nat} : ∀ {ss : List Section} {o : Nat}, o + (ss.map stz).sum ≤ l.length → Sd07.contents l.toArray ss o = ctn l ss o
  | [], o, _ => rfl
  | s :: r, o, h => by
    rw [List.map_cons, List.sum_cons] at h
    unfold Sd07.contents ctn
    have ih := ctn_eq (l := l) (ss := r) (o := o + stz s) (by omega)
    unfold stz at h ih ⊢
    by_cases k : s.kind = 3
    · rw [if_pos k] at ih
      rw [if_pos k, if_pos k, if_pos k]
      rw [Nat.add_zero] at ih ⊢
      rw [ih]
    · rw [if_neg k] at ih h
      rw [if_neg k, if_neg k, if_neg k, ih, part_cut (by omega)]
/-- the first tests: letters, numbers, the tables' bytes -/
def hd1 (l : List Nat) : Prop := 12 ≤ l.length ∧ cut l 0 4 = [76, 78, 79, 49] ∧ lo (cut l 4 2) ≤ 64 ∧ lo (cut l 6 2) ≤ 256 ∧ lo (cut l 8 2) ≤ 1024 ∧ lo (cut l 10 2) ≤ 8192
def nNa (l : List Nat) : Nat := 12 + 8 * lo (cut l 4 2) + 12 * lo (cut l 6 2) + 16 * lo (cut l 8 2)
theorem read_bad1 {l : List Nat} (h : ¬ hd1 l) : Sd07.read l = none := by
  unfold Sd07.read
  dsimp only
  rw [if_pos]
  by_cases h12 : 12 ≤ l.length
  · rw [part_cut (by omega), at_cut (by omega), at_cut (by omega), at_cut (by omega), at_cut (by omega)]
    unfold hd1 at h
    by_cases a : cut l 0 4 = [76, 78, 79, 49]
    · have h' : ¬ (lo (cut l 4 2) ≤ 64 ∧ lo (cut l 6 2) ≤ 256 ∧ lo (cut l 8 2) ≤ 1024 ∧ lo (cut l 10 2) ≤ 8192) := fun z => h ⟨h12, a, z⟩
      right; right
      omega
    · exact .inr (.inl a)
  · left
    show l.length < 12
    omega
theorem read_bad2 {l : List Nat} (h : hd1 l) (h2 : l.length < nNa l + lo (cut l 10 2)) : Sd07.read l = none := by
  unfold Sd07.read
  dsimp only
  have h12 := h.1
  rw [if_pos]
  rw [part_cut (by omega), at_cut (by omega), at_cut (by omega), at_cut (by omega), at_cut (by omega)]
  exact .inr (.inr (.inr (.inr (.inr (.inr h2)))))
theorem read_ok {l : List Nat} (h : hd1 l) (h2 : nNa l + lo (cut l 10 2) ≤ l.length) : Sd07.read l = match tab rsec (rows l 12 (lo (cut l 4 2)) 8) with
    | none => none
    | some ss => match tab (rsym (cut l (nNa l) (lo (cut l 10 2))) ss) (rows l (12 + 8 * lo (cut l 4 2)) (lo (cut l 6 2)) 12) with
      | none => none
      | some ys => match tab (rrel ss (lo (cut l 6 2))) (rows l (12 + 8 * lo (cut l 4 2) + 12 * lo (cut l 6 2)) (lo (cut l 8 2)) 16) with
        | none => none
        | some rs => if l.length = nNa l + lo (cut l 10 2) + (ss.map stz).sum then some ⟨ctn l ss (nNa l + lo (cut l 10 2)), ys, rs⟩ else none := by
  unfold Sd07.read
  dsimp only
  obtain ⟨h12, hl, c1, c2, c3, c4⟩ := h
  have c5 := h2
  unfold nNa at h2 ⊢
  rw [if_neg, at_cut (l := l) (off := 4) (by omega), at_cut (l := l) (off := 6) (by omega), at_cut (l := l) (off := 8) (by omega), at_cut (l := l) (off := 10) (by omega)]
  rotate_left
  · rw [part_cut (by omega), at_cut (by omega), at_cut (by omega), at_cut (by omega), at_cut (by omega)]
    rintro (a | a | a | a | a | a | a)
    · have a : l.length < 12 := a
      omega
    · exact a hl
    · omega
    · omega
    · omega
    · omega
    · have a : l.length < _ := a
      omega
  rw [table_tab (g := rsec) (l := l) (f := Sd07.sectionAt l.toArray) _ _ fun p h1 h2 => sec_row (by omega)]
  cases tab rsec (rows l 12 (lo (cut l 4 2)) 8) with
  | none => rfl
  | some ss =>
    dsimp only
    rw [part_cut (l := l) (by omega)]
    rw [table_tab (g := rsym (cut l (12 + 8 * lo (cut l 4 2) + 12 * lo (cut l 6 2) + 16 * lo (cut l 8 2)) (lo (cut l 10 2))) ss) (l := l) _ _ fun p h1 h2 => sym_row (by omega)]
    cases tab (rsym (cut l (12 + 8 * lo (cut l 4 2) + 12 * lo (cut l 6 2) + 16 * lo (cut l 8 2)) (lo (cut l 10 2))) ss) (rows l (12 + 8 * lo (cut l 4 2)) (lo (cut l 6 2)) 12) with
    | none => rfl
    | some ys =>
      dsimp only
      rw [table_tab (g := rrel ss (lo (cut l 6 2))) (l := l) _ _ fun p h1 h2 => rel_row (by omega)]
      cases tab (rrel ss (lo (cut l 6 2))) (rows l (12 + 8 * lo (cut l 4 2) + 12 * lo (cut l 6 2)) (lo (cut l 8 2)) 16) with
      | none => rfl
      | some rs =>
        dsimp only
        rw [stz_sum]
        show (if l.length = _ then _ else _) = _
        by_cases e : l.length = 12 + 8 * lo (cut l 4 2) + 12 * lo (cut l 6 2) + 16 * lo (cut l 8 2) + lo (cut l 10 2) + (ss.map stz).sum
        · rw [if_pos e, if_pos e, ctn_eq (by omega)]
        · rw [if_neg e, if_neg e]
end Jo
set_option Elab.async false
set_option linter.all false
set_option maxRecDepth 100000
set_option maxHeartbeats 2000000
/-! AN OBJECT READ is well-formed. -/
namespace Jo
open Sd07 (Object Section Symbol Reloc)
theorem ctn_at (l : List Nat) : ∀ {ss : List Section} {o i : Nat} {s : Section}, ss[i]? = some s → (ctn l ss o)[i]? = some { s with bytes := if s.kind = 3 then s.bytes else cut l (o + ((ss.take i).map stz).sum) s.size }
  | [], o, i, s, h => by simp at h
  | a :: r, o, 0, s, h => by
    cases h
    show some _ = _
    rw [List.take_zero]
    rfl
  | a :: r, o, i + 1, s, h => by
    have ih := ctn_at l (ss := r) (o := o + stz a) (i := i) (s := s) h
    show (ctn l r (o + stz a))[i]? = _
    rw [ih, List.take_succ_cons, List.map_cons, List.sum_cons, Nat.add_assoc]
theorem ctn_len (l : List Nat) : ∀ (ss : List Section) (o : Nat), (ctn l ss o).length = ss.length
  | [], o => rfl
  | a :: r, o => by
    show (ctn l r _).length + 1 = r.length + 1
    rw [ctn_len l r]
theorem ctn_wf {l : List Nat} : ∀ {ss : List Section} {o : Nat}, (∀ s ∈ ss, s.kind ≤ 3 ∧ s.align ≤ 12 ∧ s.size ≤ 65536 ∧ s.bytes = []) → o + (ss.map stz).sum ≤ l.length →
    ∀ s ∈ ctn l ss o, s.kind ≤ 3 ∧ s.align ≤ 12 ∧ s.size ≤ 65536 ∧ s.bytes.length = if s.kind = 3 then 0 else s.size
  | [], o, _, _ => fun s hs => by simp [ctn] at hs
  | a :: r, o, h, hl => fun s hs => by
    rw [List.map_cons, List.sum_cons] at hl
    have ha := h a (List.mem_cons_self ..)
    unfold ctn at hs
    rcases List.mem_cons.mp hs with e | e
    · subst e
      refine ⟨ha.1, ha.2.1, ha.2.2.1, ?_⟩
      show (if a.kind = 3 then a.bytes else cut l o a.size).length = _
      by_cases k : a.kind = 3
      · rw [if_pos k, if_pos k, ha.2.2.2]; rfl
      · unfold stz at hl
        rw [if_neg k] at hl
        rw [if_neg k, if_neg k, cut_len (by omega)]
    · exact ctn_wf (fun s hs => h s (List.mem_cons_of_mem _ hs)) (by omega) s e
theorem rsec_wf {r : List Nat} {s : Section} (h : rsec r = some s) : s.kind ≤ 3 ∧ s.align ≤ 12 ∧ s.size ≤ 65536 ∧ s.bytes = [] := by
  unfold rsec at h
  split at h
  · rename_i c
    cases h
    exact ⟨c.1, c.2.1, c.2.2.2, rfl⟩
  · cases h
theorem lo4 {r : List Nat} {i : Nat} (hb : ∀ b ∈ r, b ≤ 255) : lo (cut r i 4) < 4294967296 := by
  have h := lo_lt (cut r i 4) fun b h => hb b (mem_cut h)
  have l : (cut r i 4).length ≤ 4 := by unfold cut; exact List.length_take_le ..
  have : 256 ^ (cut r i 4).length ≤ 256 ^ 4 := Nat.pow_le_pow_right (by decide) l
  omega
theorem rsym_wf {names : List Nat} {ss : List Section} {r : List Nat} {y : Symbol} (hb : ∀ b ∈ r, b ≤ 255) (hs : ∀ s ∈ ss, s.size ≤ 65536) (h : rsym names ss r = some y) :
    y.binding ≤ 2 ∧ (y.binding = 0 → y.place ≠ .none) ∧ (∀ s n, y.place = .inside s n → s < ss.length ∧ n ≤ 65536) ∧ ∀ n, y.place = .number n → n < 4294967296 := by
  unfold rsym at h
  split at h
  · cases h
  · rename_i t _
    split at h
    · cases h
    · rename_i c
      have c2 : r.getD 2 0 ≤ 2 := by omega
      split at h
      · split at h
        · cases h
        · rename_i c3
          cases h
          exact ⟨c2, fun z => absurd (.inl z) c3, fun s n z => (by cases z), fun n z => (by cases z)⟩
      · split at h
        · cases h
          exact ⟨c2, fun z => (by simp), fun s n z => (by cases z), fun n z => (by cases z; exact lo4 hb)⟩
        · split at h
          · rename_i x hx
            split at h
            · rename_i c3
              cases h
              refine ⟨c2, fun z => (by simp), fun s n z => ?_, fun n z => (by cases z)⟩
              cases z
              exact ⟨(List.getElem?_eq_some_iff.mp hx).1, Nat.le_trans c3 (hs x (List.mem_of_getElem? hx))⟩
            · cases h
          · cases h
theorem signed_bd {n : Nat} (h : n < 4294967296) : -2147483648 ≤ Sd07.signed 32 n ∧ Sd07.signed 32 n < 2147483648 := by
  unfold Sd07.signed
  have e1 : (2 : Nat) ^ (32 - 1) = 2147483648 := by decide
  have e2 : (2 : Int) ^ 32 = 4294967296 := by decide
  rw [e1, e2]
  split <;> omega
theorem rrel_wf {ss : List Section} {m : Nat} {r : List Nat} {y : Reloc} (hb : ∀ b ∈ r, b ≤ 255) (h : rrel ss m r = some y) :
    y.symbol < m ∧ y.kind ≤ 3 ∧ -2147483648 ≤ y.addend ∧ y.addend < 2147483648 ∧ ∃ s, ss[y.sec]? = some s ∧ s.kind ≠ 3 ∧ y.offset + Sd07.width y.kind ≤ s.size := by
  unfold rrel at h
  split at h
  · cases h
  · rename_i x hx
    split at h
    · cases h
    · rename_i c
      cases h
      have sb := signed_bd (lo4 (i := 12) hb)
      refine ⟨by dsimp only; omega, by dsimp only; omega, sb.1, sb.2, x, hx, fun z => c (.inr (.inr (.inr (.inl z)))), ?_⟩
      dsimp only
      omega
theorem rows_mem {l : List Nat} {o n size : Nat} {r : List Nat} (h : r ∈ rows l o n size) (hb : ∀ b ∈ l, b ≤ 255) : ∀ b ∈ r, b ≤ 255 := by
  unfold rows at h
  obtain ⟨k, _, rfl⟩ := List.mem_map.mp h
  exact fun b hb' => hb b (mem_cut hb')
theorem read_hd {l : List Nat} {o : Object} (h : Sd07.read l = some o) : hd1 l ∧ nNa l + lo (cut l 10 2) ≤ l.length := by
  by_cases a : hd1 l
  · refine ⟨a, ?_⟩
    by_cases b : nNa l + lo (cut l 10 2) ≤ l.length
    · exact b
    · rw [read_bad2 a (by omega)] at h
      cases h
  · rw [read_bad1 a] at h
    cases h
theorem read_wf {l : List Nat} {o : Object} (hb : ∀ b ∈ l, b ≤ 255) (h : Sd07.read l = some o) : WFo o := by
  obtain ⟨h1, h2⟩ := read_hd h
  rw [read_ok h1 h2] at h
  obtain ⟨h12, hl, c1, c2, c3, c4⟩ := h1
  cases e1 : tab rsec (rows l 12 (lo (cut l 4 2)) 8) with
  | none => rw [e1] at h; cases h
  | some ss =>
    rw [e1] at h
    dsimp only at h
    cases e2 : tab (rsym (cut l (nNa l) (lo (cut l 10 2))) ss) (rows l (12 + 8 * lo (cut l 4 2)) (lo (cut l 6 2)) 12) with
    | none => rw [e2] at h; cases h
    | some ys =>
      rw [e2] at h
      dsimp only at h
      cases e3 : tab (rrel ss (lo (cut l 6 2))) (rows l (12 + 8 * lo (cut l 4 2) + 12 * lo (cut l 6 2)) (lo (cut l 8 2)) 16) with
      | none => rw [e3] at h; cases h
      | some rs =>
        rw [e3] at h
        dsimp only at h
        split at h
        · rename_i elen
          cases h
          have l1 := tab_len _ e1
          have l2 := tab_len _ e2
          have l3 := tab_len _ e3
          rw [rows_len] at l1 l2 l3
          have sw : ∀ s ∈ ss, s.kind ≤ 3 ∧ s.align ≤ 12 ∧ s.size ≤ 65536 ∧ s.bytes = [] := fun s hs => by
            obtain ⟨r, _, hr⟩ := tab_all _ e1 s hs
            exact rsec_wf hr
          refine ⟨by dsimp only; rw [ctn_len, l1]; exact c1, by dsimp only; rw [l2]; exact c2, by dsimp only; rw [l3]; exact c3, ctn_wf sw (by omega), fun y hy => ?_, fun y hy => ?_⟩
          · obtain ⟨r, hr1, hr⟩ := tab_all _ e2 y hy
            have z := rsym_wf (rows_mem hr1 hb) (fun s hs => (sw s hs).2.2.1) hr
            dsimp only
            rw [ctn_len]
            exact z
          · obtain ⟨r, hr1, hr⟩ := tab_all _ e3 y hy
            obtain ⟨z1, z2, z3, z4, s, z5, z6, z7⟩ := rrel_wf (rows_mem hr1 hb) hr
            refine ⟨by dsimp only; rw [l2]; exact z1, z2, z3, z4, _, ctn_at l z5, z6, z7⟩
        · cases h
/-! ### all objects -/
theorem readAll_ok : ∀ {bs : List (List Nat)} {os : List Object} {k : Nat}, tab Sd07.read bs = some os → Sd07.readAll k bs = .ok os
  | [], os, k, h => by cases h; rfl
  | b :: r, os, k, h => by
    rw [tab_cons] at h
    unfold Sd07.readAll
    cases e1 : Sd07.read b with
    | none => rw [e1] at h; cases h
    | some x =>
      cases e2 : tab Sd07.read r with
      | none => rw [e1, e2] at h; cases h
      | some xs =>
        rw [e1, e2] at h
        cases h
        rw [readAll_ok e2]
theorem readAll_err : ∀ {bs : List (List Nat)} {i k : Nat} {os : List Object} {b : List Nat}, tab Sd07.read (bs.take i) = some os → bs[i]? = some b → Sd07.read b = none → Sd07.readAll k bs = .error (k + i)
  | [], i, k, os, b, _, h, _ => by simp at h
  | a :: r, 0, k, os, b, _, h, hn => by
    cases h
    unfold Sd07.readAll
    rw [hn]
    rfl
  | a :: r, i + 1, k, os, b, h1, h, hn => by
    rw [List.take_succ_cons, tab_cons] at h1
    unfold Sd07.readAll
    cases e1 : Sd07.read a with
    | none => rw [e1] at h1; cases h1
    | some x =>
      cases e2 : tab Sd07.read (r.take i) with
      | none => rw [e1, e2] at h1; cases h1
      | some xs =>
        rw [readAll_err (k := k + 1) e2 h hn]
        show Except.error (k + 1 + i) = Except.error (k + (i + 1))
        congr 1
        omega
theorem all_wf {bs : List (List Nat)} {os : List Object} (hn : bs.length ≤ 32) (hb : ∀ l ∈ bs, ∀ b ∈ l, b ≤ 255) (h : tab Sd07.read bs = some os) : WF os := by
  refine ⟨by rw [tab_len _ h]; exact hn, fun o ho => ?_⟩
  obtain ⟨l, hl, e⟩ := tab_all _ h o ho
  exact read_wf (hb l hl) e
end Jo
set_option Elab.async false
set_option linter.all false
set_option maxRecDepth 100000
set_option maxHeartbeats 2000000
/-! THE READER: small defs. -/
namespace Jo
open PySem PySem.Spec L2 JX
open PyProof.Rows hiding St frameOf passOn
open Sd07 (Object Section Symbol Reloc)
theorem PE.w {X : Cx} {e : Expr} {t t' : TE} (h : PE X e t) (k : ∀ σ H Q, t' σ H Q → t σ H Q) : PE X e t' := fun pins s σ H Q I q => h pins s σ H Q I (k σ H Q q)
theorem tYes_in {σ : St} {H : Hp} {f g : Hp → Prop} (h : f H) : tYes σ H fun b H3 => if b = true then f H3 else g H3 := iteT (B := g H) h
theorem cutV_iv (bs : List Nat) (i j : Nat) : cutV (iv bs) (some (i : Int)) (some (j : Int)) = iv (cut bs i (j - i)) := by
  unfold cutV cut iv
  rw [HT.sIx_nat, HT.sIx_nat, List.length_map, ← List.map_drop, ← List.map_take]
  congr 1
  by_cases h : i ≤ bs.length
  · rw [Nat.min_eq_left h]
    by_cases h2 : j ≤ bs.length
    · rw [Nat.min_eq_left h2]
    · rw [Nat.min_eq_right (by omega)]
      have l : (bs.drop i).length = bs.length - i := List.length_drop ..
      rw [List.take_of_length_le (by omega), List.take_of_length_le (by omega)]
  · rw [show min i bs.length = bs.length from by omega, List.drop_of_length_le (Nat.le_refl _), List.drop_of_length_le (by omega)]
    simp
theorem cutV_from (bs : List Nat) (i : Nat) : cutV (iv bs) (some (i : Int)) none = iv (bs.drop i) := by
  unfold cutV iv
  rw [HT.sIx_nat, HT.sIx_none, List.length_map, ← List.map_drop, ← List.map_take]
  congr 1
  by_cases h : i ≤ bs.length
  · rw [Nat.min_eq_left h]
    have l : (bs.drop i).length = bs.length - i := List.length_drop ..
    rw [List.take_of_length_le (by omega)]
  · rw [Nat.min_eq_right (by omega), List.drop_of_length_le (Nat.le_refl _), List.drop_of_length_le (by omega)]
    simp
theorem cutV_to (bs : List Nat) (j : Nat) : cutV (iv bs) none (some (j : Int)) = iv (bs.take j) := by
  unfold cutV iv
  rw [HT.sIx_nat, HT.sIx_none, List.length_map, List.drop_zero, Nat.sub_zero, ← List.map_take]
  congr 1
  by_cases h : j ≤ bs.length
  · rw [Nat.min_eq_left h]
  · rw [Nat.min_eq_right (by omega), List.take_of_length_le (Nat.le_refl _), List.take_of_length_le (by omega)]
theorem getD_at {bs : List Nat} {i : Nat} (h : i < bs.length) : bs[i]? = some (bs.getD i 0) := by
  rw [List.getD_eq_getElem?_getD, List.getElem?_eq_getElem h]
  rfl
/-- a def of one row of bytes -/
def sp_row (K : PySem.W.Frag) (F : List Nat → V) : Sp := fun vs H Q _ => ∃ a bs, vs = [.ref a] ∧ SqL K H a (iv bs) ∧ Q (F bs) H
/-- f(row[i:j]) -/
def tRow (K : PySem.W.Frag) (F : List Nat → V) (sl i j : Nat) : TE := fun σ H Q => ∃ a bs, σ[sl]? = some (some (.ref a)) ∧ SqL K H a (iv bs) ∧ ∀ H', Same H H' → Q (F (cut bs i (j - i))) H'
theorem pe_row {X : Cx} {F : List Nat → V} {k sl i j : Nat} {a b : Int} {x : Str} {ps : List Str} {e : Expr} {p pos p1 p2 p3 p4 : Pos} {j1 j2 : Nat} (G : Cal X.prog X.w X.K X.mg X.base CX0 k x ps (sp_row X.K F)) (hr : Room k X.A) (he : PE X e (tVar sl))
    (ea : a = ((i : Nat) : Int)) (eb : b = ((j : Nat) : Int)) (hg : Gl X x := by rfl) (hdb : (x == ("__debug__" : Str)) = false := by decide)
    (hst : starEach [.Subscript e (.Slice (some (.Constant (.int a) j1 p1)) (some (.Constant (.int b) j2 p2)) none p3) p4] X.env = (false, eval (.Subscript e (.Slice (some (.Constant (.int a) j1 p1)) (some (.Constant (.int b) j2 p2)) none p3) p4) X.env) :: starEach [] X.env := by rfl) :
    PE X (.Call (.Name x p) [.Subscript e (.Slice (some (.Constant (.int a) j1 p1)) (some (.Constant (.int b) j2 p2)) none p3) p4] [] pos) (tRow X.K F sl i j) := by
  subst ea eb
  refine PE.w (pe_cal G hr pass0 (pa_cons (pe_slice sl_list he (po_some pe_int) (po_some pe_int)) pa_nil hst) hg hdb hst) fun σ H Q ⟨a, bs, e, hS, q⟩ => ⟨_, e, _, rfl, _, rfl, a, iv bs, rfl, hS, fun p hp => ⟨p, cut bs i (j - i), rfl, SqL.of ?_, q _ (Same.upd hp)⟩⟩
  rw [upd_same, cutV_iv]
section
variable {P : Program} {w : World} {K : PySem.W.Frag} {mg : Str → Option Value} {base : Heap}
/-! ### demand -/
def sp_demand (C : Addr) : Sp := fun vs H Q E => ∃ b x, vs = [.bl b, .str x] ∧ (b = true → Q .non H) ∧ (b = false → E (.ref C) none H)
theorem sc_demand : FnScope ["holds", "rule"] ["holds", "rule"] (defScope (top 61)) := ⟨rfl, rfl, rfl, by decide +kernel, rfl, by decide +kernel, by decide +kernel⟩
theorem ok_demand {C : Addr} (hC : mg "NoObject" = some (.ref C)) (EC : Exc K C) (D : DefIn K mg "demand" (top 61) ["holds", "rule"]) : Cal P w K mg base (CXN P w C) 1 "demand" ["holds", "rule"] (sp_demand C) := by
  refine D.okE sc_demand (fun vs H Q E h => ?_) (fun f cdv A outer s H vs Q E hr h => ?_)
  · obtain ⟨b, x, rfl, _⟩ := h
    rfl
  · obtain ⟨b, x, rfl, q1, q2⟩ := h
    refine ⟨_, pss_one (ps_if (pt_not (pt_val (pv 0))) (pss_one (ps_raise raises_def EC rfl rfl hC (pa_cons (pv 1) pa_nil))) pss_nil), ?_⟩
    refine ⟨_, rfl, _, rfl, ?_⟩
    cases b with
    | true => exact iteF (q1 rfl)
    | false => exact iteT ⟨_, rfl, (by show 1 ≤ sizeLine; decide), q2 rfl⟩
/-! ### lowest_first -/
abbrev fLo : List Nat → V := fun bs => .int ((lo bs : Nat) : Int)
theorem sc_lf : FnScope ["row", "total", "byte"] ["row"] (defScope (top 62)) := ⟨rfl, rfl, rfl, by decide +kernel, rfl, by decide +kernel, by decide +kernel⟩
theorem ok_lf (T : Glob K mg) (D : DefIn K mg "lowest_first" (top 62) ["row"]) : Cal P w K mg base CX0 1 "lowest_first" ["row"] (sp_row K fLo) := by
  refine D.ok sc_lf (fun vs H Q E h => ?_) (fun f cdv A outer s H vs Q E hr h => ?_)
  · obtain ⟨a, bs, rfl, _⟩ := h
    rfl
  · obtain ⟨a, bs, rfl, hS, q⟩ := h
    refine ⟨_, pss_cons (ps_set (i := 1) sc_lf.nd rfl (Or.inl rfl) pe_int)
      (pss_cons (ps_for PassesOwn.never rfl (pi_reversed rfl T.rev (pa_cons (pv 0) pa_nil)) (pg_name (i := 2) sc_lf.nd rfl (Or.inl rfl))
        (pss_one (ps_set (i := 1) sc_lf.nd rfl (Or.inl rfl) (pe_op op_add (pe_op op_mul (pv 1) pe_int) (pv 2)))))
      (pss_one (ps_ret (pv 1)))), ?_⟩
    refine ⟨_, rfl, a, iv bs, rfl, hS, for_rev (K := K) (a := a) (xs := iv bs) (fun i σ H' => ∃ v2, σ = [some (.ref a), some (.int ((lo (bs.drop (bs.length - i)) : Nat) : Int)), v2] ∧ H' = H)
      ⟨none, ?_, rfl⟩ (fun i σ H' _ ⟨_, _, e⟩ => by rw [e]; exact hS) ?_ ?_⟩
    · rw [Nat.sub_zero, List.drop_of_length_le (Nat.le_refl _)]
      rfl
    · rintro i x σ H' hi hx ⟨v2, rfl, rfl⟩
      rw [iv_len] at hi hx
      have hb : bs.length - 1 - i < bs.length := by omega
      have e : bs[bs.length - 1 - i]? = some bs[bs.length - 1 - i] := List.getElem?_eq_getElem hb
      rw [iv_get e] at hx
      cases hx
      refine ⟨_, rfl, _, _, rfl, rfl, .inr ⟨by decide, by decide⟩, _, rfl, _, _, rfl, rfl, ⟨some (.int ((bs[bs.length - 1 - i] : Nat) : Int)), ?_, rfl⟩⟩
      have e2 : bs.drop (bs.length - (i + 1)) = bs[bs.length - 1 - i] :: bs.drop (bs.length - i) := by
        have z := List.drop_eq_getElem_cons hb
        have e3 : bs.length - 1 - i + 1 = bs.length - i := by omega
        have e4 : bs.length - (i + 1) = bs.length - 1 - i := by omega
        rw [e3] at z
        rw [e4]; exact z
      rw [e2]
      show [some (V.ref a), some (V.int (((lo (bs.drop (bs.length - i)) : Nat) : Int) * 256 + ((bs[bs.length - 1 - i] : Nat) : Int))), some (V.int ((bs[bs.length - 1 - i] : Nat) : Int))] = [some (V.ref a), some (V.int ((bs[bs.length - 1 - i] + 256 * lo (bs.drop (bs.length - i)) : Nat) : Int)), some (V.int ((bs[bs.length - 1 - i] : Nat) : Int))]
      have e5 : (((lo (bs.drop (bs.length - i)) : Nat) : Int) * 256 + ((bs[bs.length - 1 - i] : Nat) : Int)) = ((bs[bs.length - 1 - i] + 256 * lo (bs.drop (bs.length - i)) : Nat) : Int) := by omega
      rw [e5]
    · rintro σ H' ⟨v2, rfl, rfl⟩
      refine ⟨_, rfl, ?_⟩
      rw [iv_len, Nat.sub_self, List.drop_zero]
      exact q
/-! ### with_sign -/
abbrev fSg : List Nat → V := fun bs => .int (Sd07.signed 32 (lo bs))
theorem sc_ws : FnScope ["row", "total"] ["row"] (defScope (top 63)) := ⟨rfl, rfl, rfl, by decide +kernel, rfl, by decide +kernel, by decide +kernel⟩
theorem ok_ws (D : DefIn K mg "with_sign" (top 63) ["row"]) (G : Cal P w K mg base CX0 1 "lowest_first" ["row"] (sp_row K fLo)) : Cal P w K mg base CX0 2 "with_sign" ["row"] (sp_row K fSg) := by
  refine D.ok sc_ws (fun vs H Q E h => ?_) (fun f cdv A outer s H vs Q E hr h => ?_)
  · obtain ⟨a, bs, rfl, _⟩ := h
    rfl
  · obtain ⟨a, bs, rfl, hS, q⟩ := h
    refine ⟨_, pss_cons (ps_set (i := 1) sc_ws.nd rfl (Or.inl rfl) (pe_cal G hr pass0 (pa_cons (pv 0) pa_nil)))
      (pss_cons (ps_if (pt_cmp (pc_ge (pv 1) pe_int)) (pss_one (ps_ret (pe_op op_sub (pv 1) pe_int))) pss_nil)
      (pss_one (ps_ret (pv 1)))), ?_⟩
    refine ⟨_, rfl, a, bs, rfl, hS, ?_⟩
    have e1 : (2 : Nat) ^ (32 - 1) = 2147483648 := by decide
    have e2 : (2 : Int) ^ 32 = 4294967296 := by decide
    have q : Q (.int (if lo bs < 2147483648 then ((lo bs : Nat) : Int) else ((lo bs : Nat) : Int) - 4294967296)) H := by
      have z : fSg bs = .int (if lo bs < 2147483648 then ((lo bs : Nat) : Int) else ((lo bs : Nat) : Int) - 4294967296) := by
        show V.int (Sd07.signed 32 (lo bs)) = _
        unfold Sd07.signed
        rw [e1, e2]
      rw [z] at q
      exact q
    refine ⟨_, rfl, _, _, rfl, rfl, _, rfl, ite2 (fun h => ?_) (fun h => ?_)⟩
    · have h : (2147483648 : Int) ≤ ((lo bs : Nat) : Int) := of_decide_eq_true h
      rw [if_neg (by omega)] at q
      exact ⟨_, rfl, _, _, rfl, rfl, q⟩
    · have h : ¬ (2147483648 : Int) ≤ ((lo bs : Nat) : Int) := fun z => h (decide_eq_true z)
      rw [if_pos (by omega)] at q
      exact ⟨_, rfl, q⟩
/-! ### rows_of -/
def RowAtB (H : Hp) (a : Addr) (row : List Nat) : Prop := H a = some (.lst (iv row))
def sp_rows (K : PySem.W.Frag) : Sp := fun vs H Q _ => ∃ a l o n size, vs = [.ref a, .int ((o : Nat) : Int), .int ((n : Nat) : Int), .int ((size : Nat) : Int)] ∧ SqL K H a (iv l) ∧ n ≤ 1024 ∧ size ≤ 16 ∧
  ∀ H' r xs, Same H H' → H r = none → H' r = some (.lst xs) → Al (RowAtB H') xs (rows l o n size) → Q (.ref r) H'
theorem sc_rows : FnScope ["data", "at", "count", "size", "k"] ["data", "at", "count", "size"] (defScope (top 64)) := ⟨rfl, rfl, rfl, by decide +kernel, rfl, by decide +kernel, by decide +kernel⟩
theorem RowAtB.put {H : Hp} {a r : Addr} {row : List Nat} {o : HO} (h : RowAtB H a row) (hn : a ≠ r) : RowAtB (upd H r o) a row := by
  unfold RowAtB
  rw [upd_ne hn]; exact h
abbrev bs_rows : Scope := { kind := .function, names := [(".0", .local), ("k", .local), ("at", .free), ("data", .free), ("size", .free)], isGenerator := false, isCoroutine := false }
theorem bk_rows : BlkOk ["data", "at", "count", "size", "k"] (defScope (top 64)) bs_rows [("k", 4)] := blkOk_by (by decide +kernel)
theorem ok_rows (T : Glob K mg) (D : DefIn K mg "rows_of" (top 64) ["data", "at", "count", "size"]) : Cal P w K mg base CX0 1 "rows_of" ["data", "at", "count", "size"] (sp_rows K) := by
  refine D.ok sc_rows (fun vs H Q E h => ?_) (fun f cdv A outer s H vs Q E hr h => ?_)
  · obtain ⟨a, l, o, n, size, rfl, _⟩ := h
    rfl
  · obtain ⟨a, l, o, n, size, rfl, hS, hn, hz, q⟩ := h
    have zl : sizeLine = 16777216 := rfl
    refine ⟨_, pss_one (ps_ret (pe_lc (own := [("k", 4)]) rfl sc_rows.nd (pi_range1 rfl T.range (pa_cons (pv 2) pa_nil)) bk_rows (fun _ _ _ _ _ => pg_name (i := 4) sc_rows.nd rfl (Or.inl rfl)) (fun _ _ _ _ _ => pts_nil)
      (fun _ _ _ _ _ => pe_slice (r := rSlL K) sl_list (pv 0) (po_some (pe_op op_add (pv 1) (pe_op op_mul (pv 3) (pv 4)))) (po_some (pe_op op_add (pv 1) (pe_op op_mul (pv 3) (pe_op op_add (pv 4) pe_int))))))), ?_⟩
    refine ⟨_, rfl, (n : Int), rfl, by omega, by omega, fun D hD => ?_⟩
    refine lc_range (n := n) (fun i H' => ∃ xs, Same H H' ∧ H' D = some (.lst xs) ∧ Al (fun b row => b ≠ D ∧ RowAtB H' b row) xs ((rows l o n size).take i))
      ⟨[], Same.upd hD, upd_same, by rw [List.take_zero]; exact Al.nil⟩ ?_ ?_
    · rintro i H' hi ⟨xs, s1, hD1, al1⟩
      refine ⟨rfl, tYes_in ?_⟩
      have e1 : ((o : Nat) : Int) + ((size : Nat) : Int) * (0 + (i : Nat)) = ((o + size * i : Nat) : Int) := by rw [Int.zero_add, ← Int.natCast_mul, ← Int.natCast_add]
      have e2 : ((o : Nat) : Int) + ((size : Nat) : Int) * (0 + (i : Nat) + 1) = ((o + size * (i + 1) : Nat) : Int) := by
        have z : (0 + ((i : Nat) : Int) + 1) = ((i + 1 : Nat) : Int) := by omega
        rw [z, ← Int.natCast_mul, ← Int.natCast_add]
      refine ⟨_, rfl, _, rfl, _, rfl, _, rfl, _, _, rfl, rfl, .inl ⟨by omega, by omega⟩, _, _, rfl, rfl, _, rfl, _, rfl, _, rfl, _, rfl, _, _, rfl, rfl, _, _, rfl, rfl, .inl ⟨by omega, by omega⟩, _, _, rfl, rfl, _, rfl, a, iv l, rfl, s1.seq hS, fun p hp => ?_⟩
      have hpD : D ≠ p := ne_of_none hD1 hp
      refine ⟨xs, by rw [upd_ne hpD]; exact hD1, ?_, ?_⟩
      · have := al1.1
        rw [List.length_take, rows_len] at this
        omega
      · refine ⟨_, fun b u h => ?_, upd_same, ?_⟩
        · rw [upd_ne (ne_of_none h hD), upd_ne (ne_of_none (s1 _ _ h) hp)]
          exact s1 _ _ h
        · rw [take_snoc (rows_get hi)]
          refine Al.snoc (al1.mono fun b row ⟨g1, g2⟩ => ⟨g1, RowAtB.put (RowAtB.put g2 (ne_of_none g2 hp)) g1⟩) ⟨hpD.symm, ?_⟩
          unfold RowAtB
          rw [upd_ne hpD.symm, upd_same]
          show some (HO.lst (cutV (iv l) (some (((o : Nat) : Int) + ((size : Nat) : Int) * (0 + (i : Nat)))) (some (((o : Nat) : Int) + ((size : Nat) : Int) * (0 + (i : Nat) + 1))))) = _
          rw [e1, e2, cutV_iv]
          have e3 : o + size * (i + 1) - (o + size * i) = size := by rw [Nat.mul_succ]; omega
          rw [e3]
    · rintro H' ⟨xs, s1, hD1, al1⟩
      rw [take_all (rows_len ..).symm] at al1
      exact q H' D xs s1 hD hD1 (al1.mono fun _ _ g => g.2)
/-! ### stored_size -/
def sp_stz (K : PySem.W.Frag) : Sp := fun vs H Q _ => ∃ c s, vs = [.ref c] ∧ SecAt K H c s ∧ Q (.int ((stz s : Nat) : Int)) H
theorem sc_stz : FnScope ["section"] ["section"] (defScope (top 65)) := ⟨rfl, rfl, rfl, by decide +kernel, rfl, by decide +kernel, by decide +kernel⟩
theorem ok_stz (T : Glob K mg) (D : DefIn K mg "stored_size" (top 65) ["section"]) : Cal P w K mg base CX0 1 "stored_size" ["section"] (sp_stz K) := by
  refine D.ok sc_stz (fun vs H Q E h => ?_) (fun f cdv A outer s H vs Q E hr h => ?_)
  · obtain ⟨c, s, rfl, _⟩ := h
    rfl
  · obtain ⟨c, sn, rfl, g, q⟩ := h
    refine ⟨_, pss_cons (ps_if (pt_cmp (pc_eqI (pe_f (pv 0)) (pe_gi T.zeros))) (pss_one (ps_ret pe_int)) pss_nil) (pss_one (ps_ret (pe_f (pv 0)))), ?_⟩
    refine ⟨_, rfl, c, _, rfl, g.kind, _, _, rfl, rfl, _, rfl, ite2 (fun h => ?_) (fun h => ?_)⟩
    · have e : sn.kind = 3 := by have := of_decide_eq_true h; omega
      unfold stz at q
      rw [if_pos e] at q
      exact q
    · have e : ¬ sn.kind = 3 := fun z => h (decide_eq_true (by omega))
      unfold stz at q
      rw [if_neg e] at q
      exact ⟨_, rfl, c, _, rfl, g.size, q⟩
end
end Jo
set_option Elab.async false
set_option linter.all false
set_option maxRecDepth 100000
set_option maxHeartbeats 2000000
/-! THE READER: what may refuse. -/
namespace Jo
open PySem PySem.Spec L2 JX
open PyProof.Rows hiding St frameOf passOn
open Sd07 (Object Section Symbol Reloc)
theorem dec_nat (a b : Nat) : decide (((a : Nat) : Int) = ((b : Nat) : Int)) = (a == b) := by
  by_cases h : a = b
  · subst h; simp
  · have : ¬ ((a : Nat) : Int) = ((b : Nat) : Int) := by omega
    rw [decide_eq_false this]
    exact (beq_eq_false_iff_ne.mpr h).symm
theorem al_pow {p : Nat} (h : p ≤ 12) : ([.int 1, .int 2, .int 4, .int 8, .int 16, .int 32, .int 64, .int 128, .int 256, .int 512, .int 1024, .int 2048, .int 4096] : List V)[p]? = some (.int ((2 ^ p : Nat) : Int)) := by
  match p, h with
  | 0, _ => rfl
  | 1, _ => rfl
  | 2, _ => rfl
  | 3, _ => rfl
  | 4, _ => rfl
  | 5, _ => rfl
  | 6, _ => rfl
  | 7, _ => rfl
  | 8, _ => rfl
  | 9, _ => rfl
  | 10, _ => rfl
  | 11, _ => rfl
  | 12, _ => rfl
theorem tw_spec : ∀ r : List Nat, (r.any (fun x => x == 0) = decide ((r.takeWhile fun (c : Nat) => c != 0).length < r.length)) ∧ ((r.takeWhile fun (c : Nat) => c != 0).length < r.length → r[(r.takeWhile fun (c : Nat) => c != 0).length]? = some 0) ∧
    (∀ m z, m < (r.takeWhile fun (c : Nat) => c != 0).length → r[m]? = some z → z ≠ 0) ∧ r.take (r.takeWhile fun (c : Nat) => c != 0).length = r.takeWhile fun (c : Nat) => c != 0
  | [] => ⟨rfl, fun h => absurd h (by decide), fun m z h => absurd h (Nat.not_lt_zero _), rfl⟩
  | a :: r => by
    obtain ⟨h1, h2, h3, h4⟩ := tw_spec r
    by_cases e : a = 0
    · subst e
      rw [List.takeWhile_cons, if_neg (by decide)]
      exact ⟨by simp, fun _ => rfl, fun m z h => absurd h (Nat.not_lt_zero _), rfl⟩
    · rw [List.takeWhile_cons, if_pos (by simpa using e), List.length_cons, List.length_cons]
      refine ⟨?_, fun h => ?_, fun m z hm hz => ?_, ?_⟩
      · rw [List.any_cons, h1]
        have : (a == 0) = false := by simpa using e
        rw [this, Bool.false_or]
        exact decide_eq_decide.mpr (by omega)
      · rw [List.getElem?_cons_succ]
        exact h2 (by omega)
      · cases m with
        | zero =>
          cases hz
          exact e
        | succ m =>
          rw [List.getElem?_cons_succ] at hz
          exact h3 m z (by omega) hz
      · rw [List.take_succ_cons, h4]
theorem inV_zero (r : List Nat) : inV (.int 0) (iv r) = r.any (fun x => x == 0) := by
  unfold inV iv
  rw [List.any_map]
  congr 1
  funext x
  show (((x : Nat) : Int) == 0) = (x == 0)
  cases x <;> rfl
theorem flat_iv (r : List Nat) : (iv r).all flatV = true := by
  unfold iv
  rw [List.all_map, List.all_eq_true]
  exact fun _ _ => rfl
theorem sum_snoc {ss : List Section} {i : Nat} {s : Section} (h : ss[i]? = some s) : ((ss.take (i + 1)).map stz).sum = ((ss.take i).map stz).sum + stz s := by
  rw [take_snoc h, List.map_append, List.sum_append]
  simp
/-- where a symbol is said to be -/
def plc1 (b s v : Nat) (ss : List Section) : Option Sd07.Place :=
  if s = 65535 then (if b = 0 ∨ v ≠ 0 then none else some .none)
  else if s = 65534 then some (.number v)
  else match ss[s]? with
    | some x => if v ≤ x.size then some (.inside s v) else none
    | none => none
section
variable {P : Program} {w : World} {K : PySem.W.Frag} {mg : Str → Option Value} {base : Heap} {C : Addr}
/-! ### read_counts -/
def sp_counts (K : PySem.W.Frag) (C : Addr) : Sp := fun vs H Q E => ∃ a l, vs = [.ref a] ∧ SqL K H a (iv l) ∧ (¬ hd1 l → ∀ H', Same H H' → E (.ref C) none H') ∧
  (hd1 l → ∀ H' r, Same H H' → H' r = some (.lst (iv [lo (cut l 4 2), lo (cut l 6 2), lo (cut l 8 2), lo (cut l 10 2)])) → Q (.ref r) H')
theorem sc_counts : FnScope ["data", "counts", "row"] ["data"] (defScope (top 66)) := ⟨rfl, rfl, rfl, by decide +kernel, rfl, by decide +kernel, by decide +kernel⟩
abbrev bs_counts : Scope := { kind := .function, names := [(".0", .local), ("row", .local), ("lowest_first", .globalImplicit)], isGenerator := false, isCoroutine := false }
theorem bk_counts : BlkOk ["data", "counts", "row"] (defScope (top 66)) bs_counts [("row", 2)] := blkOk_by (by decide +kernel)
theorem ok_counts (T : Glob K mg) (D : DefIn K mg "read_counts" (top 66) ["data"]) (G1 : Cal P w K mg base (CXN P w C) 1 "demand" ["holds", "rule"] (sp_demand C)) (G2 : Cal P w K mg base CX0 1 "lowest_first" ["row"] (sp_row K fLo))
    (G3 : Cal P w K mg base CX0 1 "rows_of" ["data", "at", "count", "size"] (sp_rows K)) : Cal P w K mg base (CXN P w C) 2 "read_counts" ["data"] (sp_counts K C) := by
  refine D.okE sc_counts (fun vs H Q E h => ?_) (fun f cdv A outer s H vs Q E hr h => ?_)
  · obtain ⟨a, l, rfl, _⟩ := h
    rfl
  · obtain ⟨a, l, rfl, hS, qE, q⟩ := h
    have zl : sizeLine = 16777216 := rfl
    refine ⟨_, pss_cons (ps_expr (pe_cal G1 hr lands_def.passes (pa_cons (pe_cmp (pc_ge (pe_callB call_len_seq (by rfl) T.len PySem.boot_len (pa_cons (pv 0) pa_nil)) (pe_gi T.head_size))) (pa_cons pe_str pa_nil))))
      (pss_cons (ps_expr (pe_cal G1 hr lands_def.passes (pa_cons (pe_cmpR (op_eqD hr.units) (pe_callTy call_tuple_of (by rfl) T.tuple boot_tuple (pa_cons (pe_slice sl_list (pv 0) (po_some pe_int) (po_some pe_int)) pa_nil)) (pe_gt T.letters) (nomark _)) (pa_cons pe_str pa_nil))))
      (pss_cons (ps_setLc (i := 1) (own := [("row", 2)]) rfl sc_counts.nd rfl rfl (sw_true rfl rfl rfl rfl) (pi_list (pe_cal G3 hr pass0 (pa_cons (pv 0) (pa_cons pe_int (pa_cons pe_int (pa_cons pe_int pa_nil)))))) bk_counts (fun _ _ _ _ _ => pg_name (i := 2) sc_counts.nd rfl (Or.inl rfl)) (fun _ _ _ _ _ => pts_nil)
        (fun _ _ _ _ _ => pe_cal G2 hr pass0 (pa_cons (pv 2) pa_nil)))
      (pss_cons (ps_expr (pe_cal G1 hr lands_def.passes (pa_cons (pe_cmp (pc_le (pe_ix ix_list (pv 1) pe_int (fun _ _ => rfl)) (pe_gi T.most_sections))) (pa_cons pe_str pa_nil))))
      (pss_cons (ps_expr (pe_cal G1 hr lands_def.passes (pa_cons (pe_cmp (pc_le (pe_ix ix_list (pv 1) pe_int (fun _ _ => rfl)) (pe_gi T.most_symbols))) (pa_cons pe_str pa_nil))))
      (pss_cons (ps_expr (pe_cal G1 hr lands_def.passes (pa_cons (pe_cmp (pc_le (pe_ix ix_list (pv 1) pe_int (fun _ _ => rfl)) (pe_gi T.most_relocations))) (pa_cons pe_str pa_nil))))
      (pss_cons (ps_expr (pe_cal G1 hr lands_def.passes (pa_cons (pe_cmp (pc_le (pe_ix ix_list (pv 1) pe_int (fun _ _ => rfl)) (pe_gi T.most_name_bytes))) (pa_cons pe_str pa_nil))))
      (pss_one (ps_ret (pv 1))))))))), ?_⟩
    refine ⟨_, rfl, a, iv l, rfl, .inl hS, _, _, rfl, rfl, _, _, rfl, fun h1 => ?_, fun h1 => qE (fun z => ?_) H (Same.refl _)⟩
    rotate_left
    · have := z.1
      have h1 := of_decide_eq_false h1
      rw [iv_len] at h1
      omega
    have h1 : (12 : Int) ≤ ((iv l).length : Nat) := of_decide_eq_true h1
    rw [iv_len] at h1
    have h12 : 12 ≤ l.length := by omega
    -- the letters
    have c4 : (cut l 0 4).length = 4 := cut_len (by omega)
    obtain ⟨b0, b1, b2, b3, e4⟩ : ∃ b0 b1 b2 b3, cut l 0 4 = [b0, b1, b2, b3] := by
      match hc : cut l 0 4, c4 with
      | [b0, b1, b2, b3], _ => exact ⟨b0, b1, b2, b3, rfl⟩
    refine ⟨_, rfl, _, rfl, _, rfl, a, iv l, rfl, hS, fun p hp => ?_⟩
    have es : cutV (iv l) (some 0) (some 4) = iv [b0, b1, b2, b3] := by rw [← e4]; exact cutV_iv l 0 4
    refine ⟨p, _, rfl, .inl ⟨SqL.of upd_same, fun t ht => ?_⟩⟩
    have s2 : Same H (upd (upd H p (.lst (cutV (iv l) (some 0) (some 4)))) t (.tup (cutV (iv l) (some 0) (some 4)))) := (Same.upd hp).trans (Same.upd ht)
    have ht2 : (upd (upd H p (.lst (cutV (iv l) (some 0) (some 4)))) t (.tup (cutV (iv l) (some 0) (some 4)))) t = some (.tup (iv [b0, b1, b2, b3])) := by rw [upd_same, es]
    generalize upd (upd H p (.lst (cutV (iv l) (some 0) (some 4)))) t (.tup (cutV (iv l) (some 0) (some 4))) = H2 at s2 ht2
    intro la hla
    refine ⟨.tuple [.int b0, .int b1, .int b2, .int b3], .tuple [.int 76, .int 78, .int 79, .int 49], .tup (SqT.of ht2) (.cons (.int _) (.cons (.int _) (.cons (.int _) (.cons (.int _) .nil)))), .tup hla (.cons (.int _) (.cons (.int _) (.cons (.int _) (.cons (.int _) .nil)))), rfl, rfl, ?_⟩
    have eeq : PyData.eqv (.tuple [.int b0, .int b1, .int b2, .int b3]) (.tuple [.int 76, .int 78, .int 79, .int 49]) = decide (cut l 0 4 = [76, 78, 79, 49]) := by
      rw [e4]
      have z : PyData.eqv (.tuple [.int b0, .int b1, .int b2, .int b3]) (.tuple [.int 76, .int 78, .int 79, .int 49]) = (((b0 : Nat) : Int) == 76 && (((b1 : Nat) : Int) == 78 && (((b2 : Nat) : Int) == 79 && (((b3 : Nat) : Int) == 49 && true)))) := rfl
      rw [z]
      by_cases g : b0 = 76 ∧ b1 = 78 ∧ b2 = 79 ∧ b3 = 49
      · obtain ⟨rfl, rfl, rfl, rfl⟩ := g
        rfl
      · rw [decide_eq_false (fun z => g (by injection z with z1 z; injection z with z2 z; injection z with z3 z; injection z with z4 z; exact ⟨z1, z2, z3, z4⟩))]
        refine Bool.eq_false_iff.mpr fun z => g ?_
        simp only [Bool.and_eq_true, beq_iff_eq, and_true] at z
        omega
    rw [eeq]
    refine ⟨_, _, rfl, fun h2 => ?_, fun h2 => qE (fun z => of_decide_eq_false h2 z.2.1) _ s2⟩
    have h2 := of_decide_eq_true h2
    -- counts
    refine ⟨_, rfl, a, l, 4, 4, 2, rfl, s2.seq hS, by decide, by decide, fun H3 r xs s3 hr03 hr3 al3 => ⟨r, rfl, ⟨_, SqL.of hr3⟩, fun Dl hD => ?_⟩⟩
    have s03 := s2.trans s3
    refine lc_list (K := K) (a := r) (xs := xs) (fun i H' => Same H3 H' ∧ H' Dl = some (.lst (((rows l 4 4 2).take i).map fLo))) ⟨Same.upd hD, upd_same⟩ (fun i H' _ ⟨s4, _⟩ => SqL.of (s4 _ _ hr3)) ?_ ?_
    · rintro i x H' hx ⟨s4, hD4⟩
      obtain ⟨row, b, hrow, rfl, g⟩ := al3.get hx
      have g4 : H' b = some (.lst (iv row)) := s4 _ _ g
      refine ⟨rfl, tYes_in ⟨_, rfl, b, row, rfl, SqL.of g4, _, hD4, ?_, Same.put s4 hD, ?_⟩⟩
      · rw [List.length_map, List.length_take, rows_len]
        omega
      · rw [upd_same, take_snoc hrow, List.map_append]
        rfl
    · rintro H4 ⟨s4, hD4⟩
      have s04 := s03.trans s4
      rw [take_all (by rw [al3.1])] at hD4
      have hD4 : H4 Dl = some (.lst (iv [lo (cut l 4 2), lo (cut l 6 2), lo (cut l 8 2), lo (cut l 10 2)])) := hD4
      refine ⟨_, rfl, Dl, _, _, _, rfl, rfl, SqL.of hD4, rfl, _, _, rfl, rfl, _, _, rfl, fun h3 => ?_, fun h3 => qE (fun z => ?_) _ s04⟩
      rotate_left
      · have z : lo (cut l 4 2) ≤ 64 := z.2.2.1
        exact of_decide_eq_false h3 (show ((lo (cut l 4 2) : Nat) : Int) ≤ 64 by omega)
      have h3 : ((lo (cut l 4 2) : Nat) : Int) ≤ 64 := of_decide_eq_true h3
      refine ⟨_, rfl, Dl, _, _, _, rfl, rfl, SqL.of hD4, rfl, _, _, rfl, rfl, _, _, rfl, fun h4 => ?_, fun h4 => qE (fun z => ?_) _ s04⟩
      rotate_left
      · have z : lo (cut l 6 2) ≤ 256 := z.2.2.2.1
        exact of_decide_eq_false h4 (show ((lo (cut l 6 2) : Nat) : Int) ≤ 256 by omega)
      have h4 : ((lo (cut l 6 2) : Nat) : Int) ≤ 256 := of_decide_eq_true h4
      refine ⟨_, rfl, Dl, _, _, _, rfl, rfl, SqL.of hD4, rfl, _, _, rfl, rfl, _, _, rfl, fun h5 => ?_, fun h5 => qE (fun z => ?_) _ s04⟩
      rotate_left
      · have z : lo (cut l 8 2) ≤ 1024 := z.2.2.2.2.1
        exact of_decide_eq_false h5 (show ((lo (cut l 8 2) : Nat) : Int) ≤ 1024 by omega)
      have h5 : ((lo (cut l 8 2) : Nat) : Int) ≤ 1024 := of_decide_eq_true h5
      refine ⟨_, rfl, Dl, _, _, _, rfl, rfl, SqL.of hD4, rfl, _, _, rfl, rfl, _, _, rfl, fun h6 => ?_, fun h6 => qE (fun z => ?_) _ s04⟩
      rotate_left
      · have z : lo (cut l 10 2) ≤ 8192 := z.2.2.2.2.2
        exact of_decide_eq_false h6 (show ((lo (cut l 10 2) : Nat) : Int) ≤ 8192 by omega)
      have h6 : ((lo (cut l 10 2) : Nat) : Int) ≤ 8192 := of_decide_eq_true h6
      exact ⟨_, rfl, q ⟨h12, h2, by omega, by omega, by omega, by omega⟩ H4 Dl s04 hD4⟩
end
end Jo
set_option Elab.async false
set_option linter.all false
set_option maxRecDepth 100000
set_option maxHeartbeats 2000000
namespace Jo
open PySem PySem.Spec L2 JX
open PyProof.Rows hiding St frameOf passOn
open Sd07 (Object Section Symbol Reloc)
section
variable {P : Program} {w : World} {K : PySem.W.Frag} {mg : Str → Option Value} {base : Heap} {C : Addr}
/-! ### read_section -/
def sp_rsec (K : PySem.W.Frag) (C : Addr) : Sp := fun vs H Q E => ∃ a r, vs = [.ref a] ∧ SqL K H a (iv r) ∧ r.length = 8 ∧ (rsec r = none → ∀ H', Same H H' → E (.ref C) none H') ∧ ∀ s, rsec r = some s → ∀ H' c, Same H H' → H c = none → SecAt K H' c s → Q (.ref c) H'
theorem sc_rsec : FnScope ["row", "power", "marked", "size"] ["row"] (defScope (top 67)) := ⟨rfl, rfl, rfl, by decide +kernel, rfl, by decide +kernel, by decide +kernel⟩
theorem ok_rsec (T : Glob K mg) (D : DefIn K mg "read_section" (top 67) ["row"]) (G1 : Cal P w K mg base (CXN P w C) 1 "demand" ["holds", "rule"] (sp_demand C)) (G2 : Cal P w K mg base CX0 1 "lowest_first" ["row"] (sp_row K fLo))
    (M : MkCal P w K mg base "Section" fSection) : Cal P w K mg base (CXN P w C) 3 "read_section" ["row"] (sp_rsec K C) := by
  obtain ⟨CS, fI, fd, m1, m2, m3, m4, m5, m6⟩ := M.ex
  refine D.okE sc_rsec (fun vs H Q E h => ?_) (fun f cdv A outer s H vs Q E hr h => ?_)
  · obtain ⟨a, r, rfl, _⟩ := h
    rfl
  · obtain ⟨a, r, rfl, hS, h8, qE, q⟩ := h
    have hr1 : Room 1 _ := hr.mono (by decide)
    refine ⟨_, pss_cons (ps_set (i := 1) sc_rsec.nd rfl (Or.inl rfl) (pe_ix ix_list (pv 0) pe_int (fun _ _ => rfl)))
      (pss_cons (ps_set (i := 2) sc_rsec.nd rfl (Or.inl rfl) (pe_row (i := 2) (j := 4) G2 hr1 (pv 0) rfl rfl))
      (pss_cons (ps_set (i := 3) sc_rsec.nd rfl (Or.inl rfl) (pe_row (i := 4) (j := 8) G2 hr1 (pv 0) rfl rfl))
      (pss_cons (ps_expr (pe_cal G1 hr1 lands_def.passes (pa_cons (pe_cmp (pc_le (pe_ix ix_list (pv 0) pe_int (fun _ _ => rfl)) (pe_gi T.zeros))) (pa_cons pe_str pa_nil))))
      (pss_cons (ps_expr (pe_cal G1 hr1 lands_def.passes (pa_cons (pe_cmp (pc_le (pv 1) (pe_gi T.most_power))) (pa_cons pe_str pa_nil))))
      (pss_cons (ps_expr (pe_cal G1 hr1 lands_def.passes (pa_cons (pe_cmp (pc_le (pv 2) pe_int)) (pa_cons pe_str pa_nil))))
      (pss_cons (ps_expr (pe_cal G1 hr1 lands_def.passes (pa_cons (pe_cmp (pc_le (pv 3) (pe_gi T.largest_section))) (pa_cons pe_str pa_nil))))
      (pss_one (ps_ret (pe_make m4 m6 hr rfl m1 m5 .nil pass0 (pa_cons (pe_ix ix_list (pv 0) pe_int (fun _ _ => rfl)) (pa_cons (pe_ix ix_tup (pe_gt T.alignments) (pv 1) (fun _ _ => rfl)) (pa_cons (pe_cmp (pc_eqI (pv 2) pe_int)) (pa_cons (pv 3) pa_nil)))))))))))))
      , ?_⟩
    have g0 := iv_get (getD_at (bs := r) (i := 0) (by omega))
    have g1 := iv_get (getD_at (bs := r) (i := 1) (by omega))
    unfold rsec at qE q
    refine ⟨_, rfl, a, _, _, _, rfl, rfl, hS, atI_nat (j := 1) g1, ?_⟩
    refine ⟨a, r, rfl, hS, fun H1 s1 => ?_⟩
    refine ⟨a, r, rfl, s1.seq hS, fun H2 s2 => ?_⟩
    have s02 := s1.trans s2
    refine ⟨_, rfl, a, _, _, _, rfl, rfl, s02.seq hS, atI_nat (j := 0) g0, _, _, rfl, rfl, _, _, rfl, fun h1 => ?_, fun h1 => qE (if_neg fun z => of_decide_eq_false h1 (show ((r.getD 0 0 : Nat) : Int) ≤ 3 by have := z.1; omega)) _ s02⟩
    have h1 : ((r.getD 0 0 : Nat) : Int) ≤ 3 := of_decide_eq_true h1
    refine ⟨_, rfl, _, _, rfl, rfl, _, _, rfl, fun h2 => ?_, fun h2 => qE (if_neg fun z => of_decide_eq_false h2 (show ((r.getD 1 0 : Nat) : Int) ≤ 12 by have := z.2.1; omega)) _ s02⟩
    have h2 : ((r.getD 1 0 : Nat) : Int) ≤ 12 := of_decide_eq_true h2
    refine ⟨_, rfl, _, _, rfl, rfl, _, _, rfl, fun h3 => ?_, fun h3 => qE (if_neg fun z => of_decide_eq_false h3 (show ((lo (cut r 2 2) : Nat) : Int) ≤ 1 by have := z.2.2.1; omega)) _ s02⟩
    have h3 : ((lo (cut r 2 2) : Nat) : Int) ≤ 1 := of_decide_eq_true h3
    refine ⟨_, rfl, _, _, rfl, rfl, _, _, rfl, fun h4 => ?_, fun h4 => qE (if_neg fun z => of_decide_eq_false h4 (show ((lo (cut r 4 4) : Nat) : Int) ≤ 65536 by have := z.2.2.2; omega)) _ s02⟩
    have h4 : ((lo (cut r 4 4) : Nat) : Int) ≤ 65536 := of_decide_eq_true h4
    have q := q _ (if_pos ⟨by omega, by omega, by omega, by omega⟩)
    refine ⟨_, rfl, a, _, _, _, rfl, rfl, s02.seq hS, atI_nat (j := 0) g0, fun la hla => ?_⟩
    refine ⟨_, rfl, la, _, _, _, rfl, rfl, hla, atI_nat (al_pow (p := r.getD 1 0) (by omega)), _, rfl, _, _, rfl, rfl, _, rfl, ?_⟩
    refine mak_end m2 m3 rfl fun H3 c s3 hc hf => q H3 c (s02.trans s3) (s02.free hc) ⟨hf 0 _ _ rfl rfl, hf 1 _ _ rfl rfl, ?_, hf 3 _ _ rfl rfl⟩
    have z := hf 2 _ _ rfl rfl
    have e : decide (((lo (cut r 2 2) : Nat) : Int) = 1) = (lo (cut r 2 2) == 1) := dec_nat _ 1
    show Fd K H3 c "marked" (.bl (lo (cut r 2 2) == 1))
    rw [← e]
    exact z
/-! ### read_contents -/
def sp_rcon (K : PySem.W.Frag) : Sp := fun vs H Q _ => ∃ a l at_ ls xs ss, vs = [.ref a, .int ((at_ : Nat) : Int), .ref ls] ∧ SqL K H a (iv l) ∧ H ls = some (.lst xs) ∧ Al (SecAt K H) xs ss ∧ (∀ s ∈ ss, s.bytes = []) ∧ ss.length ≤ 64 ∧
  ∀ H' r cs, Same H H' → H r = none → H' r = some (.lst cs) → Al (fun c (s : Section) => H c = none ∧ H' c = some (.lst (iv s.bytes))) cs (ctn l ss at_) → Q (.ref r) H'
theorem sc_rcon : FnScope ["data", "at", "sections", "contents", "section", "end"] ["data", "at", "sections"] (defScope (top 68)) := ⟨rfl, rfl, rfl, by decide +kernel, rfl, by decide +kernel, by decide +kernel⟩
theorem ok_rcon (T : Glob K mg) (D : DefIn K mg "read_contents" (top 68) ["data", "at", "sections"]) (G : Cal P w K mg base CX0 1 "stored_size" ["section"] (sp_stz K)) : Cal P w K mg base CX0 2 "read_contents" ["data", "at", "sections"] (sp_rcon K) := by
  refine D.ok sc_rcon (fun vs H Q E h => ?_) (fun f cdv A outer s H vs Q E hr h => ?_)
  · obtain ⟨a, l, at_, ls, xs, ss, rfl, _⟩ := h
    rfl
  · obtain ⟨a, l, at_, ls, xs, ss, rfl, hS, hls, al, hb, hn, q⟩ := h
    have zl : sizeLine = 16777216 := rfl
    refine ⟨_, pss_cons (ps_set (i := 3) sc_rcon.nd rfl (Or.inl rfl) (pe_lst pa_nil))
      (pss_cons (ps_for PassesOwn.never rfl (pi_list (pv 2)) (pg_name (i := 4) sc_rcon.nd rfl (Or.inl rfl))
        (pss_cons (ps_set (i := 5) sc_rcon.nd rfl (Or.inl rfl) (pe_op op_add (pv 1) (pe_cal G hr pass0 (pa_cons (pv 4) pa_nil))))
        (pss_cons (ps_expr (pe_bm PySem.F.plainAttrs_list PySem.F.slot_list_append PySem.F.type_list_append mApp (pv 3) (pa_cons (pe_slice sl_list (pv 0) (po_some (pv 1)) (po_some (pv 5))) pa_nil)))
        (pss_one (ps_set (i := 1) sc_rcon.nd rfl (Or.inl rfl) (pv 5))))))
      (pss_one (ps_ret (pv 3)))), ?_⟩
    refine ⟨Nat.zero_le _, fun r hr0 => ?_⟩
    refine ⟨_, rfl, ls, rfl, ⟨_, SqL.of (Same.upd hr0 _ _ hls)⟩, for_list (K := K) (a := ls) (xs := xs) (fun i σ H' => ∃ v4 v5 zs, σ = [some (.ref a), some (.int ((at_ + ((ss.take i).map stz).sum : Nat) : Int)), some (.ref ls), some (.ref r), v4, v5] ∧ Same H H' ∧ H' r = some (.lst zs) ∧
        Al (fun c (s : Section) => (c ≠ r ∧ H c = none) ∧ H' c = some (.lst (iv s.bytes))) zs ((ctn l ss at_).take i))
      ⟨none, none, [], rfl, Same.upd hr0, upd_same, by rw [List.take_zero]; exact Al.nil⟩ (fun i σ H' _ ⟨_, _, _, _, s1, _⟩ => SqL.of (s1 _ _ hls)) ?_ ?_⟩
    · rintro i x σ H' hx ⟨v4, v5, zs, rfl, s1, hr1, al1⟩
      obtain ⟨sn, c, hsn, rfl, g⟩ := al.get hx
      have hi := (List.getElem?_eq_some_iff.mp hsn).1
      refine ⟨_, rfl, _, rfl, c, sn, rfl, g.same s1, _, _, rfl, rfl, ?_⟩
      have e2 : ((at_ + ((ss.take i).map stz).sum : Nat) : Int) + ((stz sn : Nat) : Int) = ((at_ + ((ss.take i).map stz).sum + stz sn : Nat) : Int) := by rw [← Int.natCast_add]
      refine ⟨_, rfl, .inl ⟨rfl, _, SqL.of hr1⟩, _, rfl, _, rfl, _, rfl, _, rfl, _, rfl, a, _, rfl, s1.seq hS, fun p hp => ?_⟩
      have rp : r ≠ p := ne_of_none hr1 hp
      have lz := al1.1
      rw [List.length_take, ctn_len] at lz
      refine ⟨r, zs, _, rfl, rfl, by rw [upd_ne rp]; exact hr1, by omega, ?_⟩
      refine ⟨_, rfl, ?_⟩
      refine ⟨some (.ref c), some (.int (((at_ + ((ss.take i).map stz).sum : Nat) : Int) + ((stz sn : Nat) : Int))), zs ++ [.ref p], ?_, Same.put (s1.trans (Same.upd hp)) hr0, upd_same, ?_⟩
      · rw [sum_snoc hsn, ← Nat.add_assoc, ← e2]
        rfl
      · rw [take_snoc (ctn_at l hsn)]
        refine Al.snoc (al1.mono fun b s' ⟨g1, g2⟩ => ⟨g1, by rw [upd_ne g1.1, upd_ne (ne_of_none g2 hp)]; exact g2⟩) ⟨⟨rp.symm, s1.free hp⟩, ?_⟩
        rw [upd_ne rp.symm, upd_same]
        show some (HO.lst (cutV (iv l) (some (((at_ + ((ss.take i).map stz).sum : Nat) : Int))) (some (((at_ + ((ss.take i).map stz).sum : Nat) : Int) + ((stz sn : Nat) : Int))))) = _
        rw [e2, cutV_iv, Nat.add_sub_cancel_left]
        dsimp only
        by_cases k : sn.kind = 3
        · rw [if_pos k, hb sn (List.mem_of_getElem? hsn)]
          unfold stz cut
          rw [if_pos k, List.take_zero]
        · rw [if_neg k]
          unfold stz
          rw [if_neg k]
    · rintro σ H' ⟨v4, v5, zs, rfl, s1, hr1, al1⟩
      rw [take_all (by rw [al.1, ctn_len])] at al1
      exact ⟨_, rfl, q H' r zs s1 hr0 hr1 (al1.mono fun _ _ g => ⟨g.1.2, g.2⟩)⟩
/-! ### read_name -/
def sp_rname (K : PySem.W.Frag) (C : Addr) : Sp := fun vs H Q E => ∃ a ns o, vs = [.ref a, .int ((o : Nat) : Int)] ∧ SqL K H a (iv ns) ∧ (Sd07.nameAt ns o = none → ∀ H', Same H H' → E (.ref C) none H') ∧ ∀ t, Sd07.nameAt ns o = some t → ∀ H' p, Same H H' → H' p = some (.tup (iv t)) → Q (.ref p) H'
theorem sc_rname : FnScope ["names", "begin", "rest"] ["names", "begin"] (defScope (top 69)) := ⟨rfl, rfl, rfl, by decide +kernel, rfl, by decide +kernel, by decide +kernel⟩
theorem ok_rname (T : Glob K mg) (D : DefIn K mg "read_name" (top 69) ["names", "begin"]) (G1 : Cal P w K mg base (CXN P w C) 1 "demand" ["holds", "rule"] (sp_demand C)) : Cal P w K mg base (CXN P w C) 2 "read_name" ["names", "begin"] (sp_rname K C) := by
  refine D.okE sc_rname (fun vs H Q E h => ?_) (fun f cdv A outer s H vs Q E hr h => ?_)
  · obtain ⟨a, ns, o, rfl, _⟩ := h
    rfl
  · obtain ⟨a, ns, o, rfl, hS, qE, q⟩ := h
    refine ⟨_, pss_cons (ps_set (i := 2) sc_rname.nd rfl (Or.inl rfl) (pe_slice sl_list (pv 0) (po_some (pv 1)) po_none))
      (pss_cons (ps_expr (pe_cal G1 hr lands_def.passes (pa_cons (pe_cmpR op_in_seq pe_int (pv 2) rfl) (pa_cons pe_str pa_nil))))
      (pss_one (ps_ret (pe_callTy call_tuple_of (by rfl) T.tuple boot_tuple (pa_cons (pe_slice sl_list (pv 2) po_none (po_some (pe_bm PySem.F.plainAttrs_list PySem.F.slot_list_index PySem.F.type_list_index mt_index (pv 2) (pa_cons pe_int pa_nil)))) pa_nil))))), ?_⟩
    refine ⟨_, rfl, _, rfl, _, rfl, a, _, rfl, hS, fun p hp => ?_⟩
    have s1 : Same H (upd H p (.lst (cutV (iv ns) (some ((o : Nat) : Int)) none))) := Same.upd hp
    have h1 : (upd H p (.lst (cutV (iv ns) (some ((o : Nat) : Int)) none))) p = some (.lst (iv (ns.drop o))) := by rw [upd_same, cutV_from]
    generalize upd H p (.lst (cutV (iv ns) (some ((o : Nat) : Int)) none)) = H1 at s1 h1
    unfold Sd07.nameAt at qE q
    dsimp only at qE q
    generalize ns.drop o = r at qE q h1
    obtain ⟨t1, t2, t3, t4⟩ := tw_spec r
    generalize hj : (r.takeWhile fun (c : Nat) => c != 0).length = j at t1 t2 t3 t4 qE q
    refine ⟨_, rfl, p, _, rfl, .inl (SqL.of h1), rfl, flat_iv r, _, _, rfl, fun h2 => ?_, fun h2 => qE (if_neg fun z => ?_) _ s1⟩
    rotate_left
    · have h2 : inV (.int 0) (iv r) = false := h2
      rw [inV_zero, t1] at h2
      exact of_decide_eq_false h2 z
    have h2 : inV (.int 0) (iv r) = true := h2
    rw [inV_zero, t1] at h2
    have h2 := of_decide_eq_true h2
    have q := q _ (if_pos h2)
    refine ⟨_, rfl, _, rfl, .inl ⟨rfl, _, SqL.of h1⟩, p, iv r, .int 0, j, .int ((0 : Nat) : Int), rfl, rfl, SqL.of h1, rfl, flat_iv r, iv_get (t2 h2), rfl, fun m z hm hz => ?_, _, rfl, p, _, rfl, SqL.of h1, fun u hu => ?_⟩
    · have hz0 := hz
      unfold iv at hz
      rw [List.getElem?_map] at hz
      cases e : r[m]? with
      | none => rw [e] at hz; cases hz
      | some b =>
        rw [e] at hz
        cases hz
        have := t3 m b hm e
        show (((b : Nat) : Int) == 0) = false
        exact beq_eq_false_iff_ne.mpr (by omega)
    · refine ⟨u, _, rfl, .inl ⟨SqL.of upd_same, fun v hv => ?_⟩⟩
      refine q _ v ((s1.trans (Same.upd hu)).trans (Same.upd hv)) ?_
      rw [upd_same, ← t4]
      show some (HO.tup (cutV (iv r) none (some ((j : Nat) : Int)))) = _
      rw [cutV_to]
/-! ### check_place -/
def sp_place (K : PySem.W.Frag) (C : Addr) : Sp := fun vs H Q E => ∃ b s v ls xs ss, vs = [.int ((b : Nat) : Int), .int ((s : Nat) : Int), .int ((v : Nat) : Int), .ref ls] ∧ H ls = some (.lst xs) ∧ Al (SecAt K H) xs ss ∧ (plc1 b s v ss = none → E (.ref C) none H) ∧ (∀ p, plc1 b s v ss = some p → Q .non H)
theorem sc_place : FnScope ["binding", "section", "value", "sections"] ["binding", "section", "value", "sections"] (defScope (top 70)) := ⟨rfl, rfl, rfl, by decide +kernel, rfl, by decide +kernel, by decide +kernel⟩
theorem ok_place (T : Glob K mg) (D : DefIn K mg "check_place" (top 70) ["binding", "section", "value", "sections"]) (G1 : Cal P w K mg base (CXN P w C) 1 "demand" ["holds", "rule"] (sp_demand C)) : Cal P w K mg base (CXN P w C) 2 "check_place" ["binding", "section", "value", "sections"] (sp_place K C) := by
  refine D.okE sc_place (fun vs H Q E h => ?_) (fun f cdv A outer s H vs Q E hr h => ?_)
  · obtain ⟨b, s, v, ls, xs, ss, rfl, _⟩ := h
    rfl
  · obtain ⟨b, sn, v, ls, xs, ss, rfl, hls, al, qE, q⟩ := h
    refine ⟨_, pss_one (ps_if (pt_cmp (pc_eqI (pv 1) (pe_gi T.no_place)))
        (pss_cons (ps_expr (pe_cal G1 hr lands_def.passes (pa_cons (pe_cmp (pc_neI (pv 0) (pe_gi T.own))) (pa_cons pe_str pa_nil))))
        (pss_one (ps_expr (pe_cal G1 hr lands_def.passes (pa_cons (pe_cmp (pc_eqI (pv 2) pe_int)) (pa_cons pe_str pa_nil))))))
        (pss_one (ps_if (pt_cmp (pc_neI (pv 1) (pe_gi T.number)))
          (pss_cons (ps_expr (pe_cal G1 hr lands_def.passes (pa_cons (pe_cmp (pc_lt (pv 1) (pe_callB call_len_seq (by rfl) T.len PySem.boot_len (pa_cons (pv 3) pa_nil)))) (pa_cons pe_str pa_nil))))
          (pss_one (ps_expr (pe_cal G1 hr lands_def.passes (pa_cons (pe_cmp (pc_le (pv 2) (pe_f (pe_ix ix_list (pv 3) (pv 1) (fun _ _ => rfl))))) (pa_cons pe_str pa_nil)))))) pss_nil))), ?_⟩
    unfold plc1 at qE q
    refine ⟨_, rfl, _, _, rfl, rfl, _, rfl, ite2 (fun h => ?_) (fun h => ?_)⟩
    · have e : sn = 65535 := by have := of_decide_eq_true h; omega
      simp only [if_pos e] at qE q
      refine ⟨_, rfl, _, _, rfl, rfl, _, _, rfl, fun h1 => ?_, fun h1 => qE (if_pos (.inl ?_))⟩
      rotate_left
      · have z : ((b : Nat) : Int) = 0 := by simpa using h1
        omega
      have h1 : ¬ ((b : Nat) : Int) = 0 := by simpa using h1
      refine ⟨_, rfl, _, _, rfl, rfl, _, _, rfl, fun h2 => ?_, fun h2 => qE (if_pos (.inr ?_))⟩
      · have h2 : ((v : Nat) : Int) = 0 := of_decide_eq_true h2
        exact q _ (if_neg (by omega))
      · have h2 : ¬ ((v : Nat) : Int) = 0 := of_decide_eq_false h2
        omega
    · have n1 : ¬ sn = 65535 := fun z => h (decide_eq_true (by omega))
      simp only [if_neg n1] at qE q
      refine ⟨_, rfl, _, _, rfl, rfl, _, rfl, ite2 (fun h => ?_) (fun h => ?_)⟩
      · have n2 : ¬ sn = 65534 := fun z => by
          rw [z] at h
          simp at h
        simp only [if_neg n2] at qE q
        refine ⟨_, rfl, _, rfl, ls, xs, rfl, .inl (SqL.of hls), _, _, rfl, rfl, _, _, rfl, fun h1 => ?_, fun h1 => qE ?_⟩
        rotate_left
        · have h1 : ¬ ((sn : Nat) : Int) < (xs.length : Nat) := of_decide_eq_false h1
          rw [al.1] at h1
          rw [List.getElem?_eq_none (by omega)]
        have h1 : ((sn : Nat) : Int) < (xs.length : Nat) := of_decide_eq_true h1
        rw [al.1] at h1
        have e1 : ss[sn]? = some (ss[sn]'(by omega)) := List.getElem?_eq_getElem _
        generalize ss[sn]'(by omega) = x at e1
        obtain ⟨c, hc, g⟩ := al.2 _ _ e1
        simp only [e1] at qE q
        refine ⟨_, rfl, _, rfl, _, rfl, ls, _, _, _, rfl, rfl, SqL.of hls, atI_nat hc, c, _, rfl, g.size, _, _, rfl, rfl, _, _, rfl, fun h2 => ?_, fun h2 => qE (if_neg ?_)⟩
        · have h2 : ((v : Nat) : Int) ≤ ((x.size : Nat) : Int) := of_decide_eq_true h2
          exact q _ (if_pos (by omega))
        · have h2 : ¬ ((v : Nat) : Int) ≤ ((x.size : Nat) : Int) := of_decide_eq_false h2
          omega
      · have e2 : sn = 65534 := by
          have z : ((sn : Nat) : Int) = 65534 := by simpa using h
          omega
        simp only [if_pos e2] at q
        exact q _ rfl
end
end Jo
set_option Elab.async false
set_option linter.all false
set_option maxRecDepth 100000
set_option maxHeartbeats 2000000
namespace Jo
open PySem PySem.Spec L2 JX
open PyProof.Rows hiding St frameOf passOn
open Sd07 (Object Section Symbol Reloc)
def symBad (r t : List Nat) : Prop := 2 < r.getD 2 0 ∨ r.getD 3 0 ≠ 0 ∨ lo (cut r 6 2) ≠ 0 ∨ (r.getD 2 0 ≠ 0 ∧ t = [])
theorem rsym_bad {ns : List Nat} {ss : List Section} {r t : List Nat} (h : Sd07.nameAt ns (lo (cut r 0 2)) = some t) (hb : symBad r t) : rsym ns ss r = none := by
  unfold rsym
  rw [h]
  exact if_pos hb
theorem rsym_good {ns : List Nat} {ss : List Section} {r t : List Nat} (h : Sd07.nameAt ns (lo (cut r 0 2)) = some t) (hb : ¬ symBad r t) : rsym ns ss r = (plc1 (r.getD 2 0) (lo (cut r 4 2)) (lo (cut r 8 4)) ss).map fun p => ⟨t, r.getD 2 0, p⟩ := by
  unfold rsym plc1
  rw [h]
  dsimp only
  unfold symBad at hb
  rw [if_neg hb]
  by_cases h1 : lo (cut r 4 2) = 65535
  · rw [if_pos h1, if_pos h1]
    by_cases h2 : r.getD 2 0 = 0 ∨ lo (cut r 8 4) ≠ 0
    · rw [if_pos h2, if_pos h2]; rfl
    · rw [if_neg h2, if_neg h2]; rfl
  · rw [if_neg h1, if_neg h1]
    by_cases h2 : lo (cut r 4 2) = 65534
    · rw [if_pos h2, if_pos h2]; rfl
    · rw [if_neg h2, if_neg h2]
      cases ss[lo (cut r 4 2)]? with
      | none => rfl
      | some x =>
        dsimp only
        by_cases h3 : lo (cut r 8 4) ≤ x.size
        · rw [if_pos h3, if_pos h3]; rfl
        · rw [if_neg h3, if_neg h3]; rfl
theorem plc1_no {b s v : Nat} {ss : List Section} {p : Sd07.Place} (h : plc1 b s v ss = some p) : secNo p = s ∧ valNo p = v := by
  unfold plc1 at h
  split at h
  · rename_i e
    split at h
    · cases h
    · rename_i c
      cases h
      exact ⟨e.symm, by show 0 = v; omega⟩
  · split at h
    · rename_i e
      cases h
      exact ⟨e.symm, rfl⟩
    · split at h
      · split at h
        · cases h
          exact ⟨rfl, rfl⟩
        · cases h
      · cases h
theorem width_at {k : Nat} (h : k ≤ 3) : ([.int 8, .int 4, .int 4, .int 1] : List V)[k]? = some (.int ((Sd07.width k : Nat) : Int)) := by
  match k, h with
  | 0, _ => rfl
  | 1, _ => rfl
  | 2, _ => rfl
  | 3, _ => rfl
section
variable {P : Program} {w : World} {K : PySem.W.Frag} {mg : Str → Option Value} {base : Heap} {C : Addr}
/-! ### read_symbol -/
def sp_rsym (K : PySem.W.Frag) (C : Addr) : Sp := fun vs H Q E => ∃ a r ls xs ss na ns, vs = [.ref a, .ref ls, .ref na] ∧ SqL K H a (iv r) ∧ r.length = 12 ∧ H ls = some (.lst xs) ∧ Al (SecAt K H) xs ss ∧ SqL K H na (iv ns) ∧
  (rsym ns ss r = none → ∀ H', Same H H' → E (.ref C) none H') ∧ ∀ y, rsym ns ss r = some y → ∀ H' c, Same H H' → H c = none → SymAt K H' c y → Q (.ref c) H'
theorem sc_rsym : FnScope ["row", "sections", "names", "name", "binding", "section", "value"] ["row", "sections", "names"] (defScope (top 71)) := ⟨rfl, rfl, rfl, by decide +kernel, rfl, by decide +kernel, by decide +kernel⟩
theorem ok_rsym (T : Glob K mg) (D : DefIn K mg "read_symbol" (top 71) ["row", "sections", "names"]) (G1 : Cal P w K mg base (CXN P w C) 1 "demand" ["holds", "rule"] (sp_demand C)) (G2 : Cal P w K mg base CX0 1 "lowest_first" ["row"] (sp_row K fLo))
    (G3 : Cal P w K mg base (CXN P w C) 2 "read_name" ["names", "begin"] (sp_rname K C)) (G4 : Cal P w K mg base (CXN P w C) 2 "check_place" ["binding", "section", "value", "sections"] (sp_place K C)) (M : MkCal P w K mg base "Symbol" fSymbol) :
    Cal P w K mg base (CXN P w C) 3 "read_symbol" ["row", "sections", "names"] (sp_rsym K C) := by
  obtain ⟨CS, fI, fd, m1, m2, m3, m4, m5, m6⟩ := M.ex
  refine D.okE sc_rsym (fun vs H Q E h => ?_) (fun f cdv A outer s H vs Q E hr h => ?_)
  · obtain ⟨a, r, ls, xs, ss, na, ns, rfl, _⟩ := h
    rfl
  · obtain ⟨a, r, ls, xs, ss, na, ns, rfl, hS, h12, hls, al, hN, qE, q⟩ := h
    have hr1 : Room 1 _ := hr.mono (by decide)
    refine ⟨_, pss_cons (ps_set (i := 3) sc_rsym.nd rfl (Or.inl rfl) (pe_cal G3 hr lands_def.passes (pa_cons (pv 2) (pa_cons (pe_row (i := 0) (j := 2) G2 hr1 (pv 0) rfl rfl) pa_nil))))
      (pss_cons (ps_set (i := 4) sc_rsym.nd rfl (Or.inl rfl) (pe_ix ix_list (pv 0) pe_int (fun _ _ => rfl)))
      (pss_cons (ps_set (i := 5) sc_rsym.nd rfl (Or.inl rfl) (pe_row (i := 4) (j := 6) G2 hr1 (pv 0) rfl rfl))
      (pss_cons (ps_set (i := 6) sc_rsym.nd rfl (Or.inl rfl) (pe_row (i := 8) (j := 12) G2 hr1 (pv 0) rfl rfl))
      (pss_cons (ps_expr (pe_cal G1 hr1 lands_def.passes (pa_cons (pe_cmp (pc_le (pv 4) (pe_gi T.weak))) (pa_cons pe_str pa_nil))))
      (pss_cons (ps_expr (pe_cal G1 hr1 lands_def.passes (pa_cons (pe_and (pe_cmp (pc_eqI (pe_ix ix_list (pv 0) pe_int (fun _ _ => rfl)) pe_int)) (pe_one (pe_cmp (pc_eqI (pe_row (i := 6) (j := 8) G2 hr1 (pv 0) rfl rfl) pe_int)))) (pa_cons pe_str pa_nil))))
      (pss_cons (ps_expr (pe_cal G1 hr1 lands_def.passes (pa_cons (pe_or (pe_cmp (pc_eqI (pv 4) (pe_gi T.own))) (pe_one (pe_cmp (pc_gt (pe_callB call_len_seq (by rfl) T.len PySem.boot_len (pa_cons (pv 3) pa_nil)) pe_int)))) (pa_cons pe_str pa_nil))))
      (pss_cons (ps_expr (pe_cal G4 hr lands_def.passes (pa_cons (pv 4) (pa_cons (pv 5) (pa_cons (pv 6) (pa_cons (pv 1) pa_nil))))))
      (pss_one (ps_ret (pe_make m4 m6 hr rfl m1 m5 .nil pass0 (pa_cons (pv 3) (pa_cons (pv 4) (pa_cons (pv 5) (pa_cons (pv 6) pa_nil)))))))))))))), ?_⟩
    have g2 := iv_get (getD_at (bs := r) (i := 2) (by omega))
    have g3 := iv_get (getD_at (bs := r) (i := 3) (by omega))
    refine ⟨_, rfl, a, r, rfl, hS, fun H1 s1 => ⟨na, ns, lo (cut r 0 2), rfl, s1.seq hN, fun hn H' s' => qE ?_ H' (s1.trans s'), fun t ht H2 pn s2 hpn => ?_⟩⟩
    · unfold rsym
      rw [hn]
    have bad : ∀ H', Same H2 H' → symBad r t → E (.ref C) none H' := fun H' s' hb => qE (rsym_bad ht hb) H' ((s1.trans s2).trans s')
    have s02 := s1.trans s2
    refine ⟨_, rfl, a, _, _, _, rfl, rfl, s02.seq hS, atI_nat (j := 2) g2, ?_⟩
    refine ⟨a, r, rfl, s02.seq hS, fun H3 s3 => ?_⟩
    refine ⟨a, r, rfl, (s02.trans s3).seq hS, fun H4 s4 => ?_⟩
    have s24 := s3.trans s4
    have s04 := s02.trans s24
    refine ⟨_, rfl, _, _, rfl, rfl, _, _, rfl, fun h1 => ?_, fun h1 => bad _ s24 (.inl ?_)⟩
    rotate_left
    · have h1 : ¬ ((r.getD 2 0 : Nat) : Int) ≤ 2 := of_decide_eq_false h1
      omega
    have h1 : ((r.getD 2 0 : Nat) : Int) ≤ 2 := of_decide_eq_true h1
    refine ⟨_, rfl, a, _, _, _, rfl, rfl, s04.seq hS, atI_nat (j := 3) g3, _, _, rfl, rfl, _, rfl, ite2 (fun h2 => ?_) (fun h2 => ?_)⟩
    rotate_left
    · refine ⟨false, _, rfl, fun z => (by cases z), fun _ => bad _ s24 (.inr (.inl ?_))⟩
      have h2 : ¬ ((r.getD 3 0 : Nat) : Int) = 0 := fun z => h2 (decide_eq_true z)
      omega
    have h2 : ((r.getD 3 0 : Nat) : Int) = 0 := of_decide_eq_true h2
    refine ⟨a, r, rfl, s04.seq hS, fun H5 s5 => ?_⟩
    have s25 := s24.trans s5
    have s05 := s02.trans s25
    refine ⟨_, _, rfl, rfl, _, _, rfl, fun h3 => ?_, fun h3 => bad _ s25 (.inr (.inr (.inl ?_)))⟩
    rotate_left
    · have h3 : ¬ ((lo (cut r 6 2) : Nat) : Int) = 0 := of_decide_eq_false h3
      omega
    have h3 : ((lo (cut r 6 2) : Nat) : Int) = 0 := of_decide_eq_true h3
    have hp5 : H5 pn = some (.tup (iv t)) := s25 _ _ hpn
    have fin : ∀ tt : TS, tt = tSeq (tDrop (tCall (sp_place K C) [] E (tCons (tVar 4) (tCons (tVar 5) (tCons (tVar 6) (tCons (tVar 1) tNil)))))) (tRet (tMake CS (sp_init CS fSymbol) [] E0 (tCons (tVar 3) (tCons (tVar 4) (tCons (tVar 5) (tCons (tVar 6) tNil)))))) →
        ¬ symBad r t → tt { nx := fun _ H' => Q .non H', rt := Q } [some (V.ref a), some (.ref ls), some (.ref na), some (.ref pn), some (.int ((r.getD 2 0 : Nat) : Int)), some (.int ((lo (cut r 4 2) : Nat) : Int)), some (.int ((lo (cut r 8 4) : Nat) : Int))] H5 := fun tt ett hg => by
      subst ett
      have er := rsym_good (ss := ss) ht hg
      refine ⟨_, rfl, _, rfl, _, rfl, _, rfl, r.getD 2 0, lo (cut r 4 2), lo (cut r 8 4), ls, xs, ss, rfl, s05 _ _ hls, al.mono (fun _ _ g => g.same s05), fun hn => qE (by rw [er, hn]; rfl) _ s05, fun p hp => ?_⟩
      obtain ⟨e1, e2⟩ := plc1_no hp
      refine ⟨_, rfl, _, rfl, _, rfl, _, rfl, ?_⟩
      refine mak_end m2 m3 rfl fun H6 c s6 hc hf => q ⟨t, r.getD 2 0, p⟩ (by rw [er, hp]; rfl) H6 c (s05.trans s6) (s05.free hc) ⟨⟨pn, hf 0 _ _ rfl rfl, ?_⟩, hf 1 _ _ rfl rfl, ?_, ?_⟩
      · rw [kk_iv]
        exact s6 _ _ hp5
      · show Fd K H6 c "section" (.int ((secNo p : Nat) : Int))
        rw [e1]
        exact hf 2 _ _ rfl rfl
      · show Fd K H6 c "value" (.int ((valNo p : Nat) : Int))
        rw [e2]
        exact hf 3 _ _ rfl rfl
    refine ⟨_, rfl, _, _, rfl, rfl, _, rfl, ite2 (fun h4 => ?_) (fun h4 => ?_)⟩
    · have h4 : ((r.getD 2 0 : Nat) : Int) = 0 := of_decide_eq_true h4
      refine ⟨true, _, rfl, fun _ => fin _ rfl ?_, fun z => (by cases z)⟩
      unfold symBad
      omega
    · have h4 : ¬ ((r.getD 2 0 : Nat) : Int) = 0 := fun z => h4 (decide_eq_true z)
      refine ⟨_, rfl, pn, _, rfl, .inr (SqT.of hp5), _, _, rfl, rfl, _, _, rfl, fun h5 => fin _ rfl ?_, fun h5 => bad _ s25 (.inr (.inr (.inr ⟨by omega, ?_⟩)))⟩
      · have h5 : (0 : Int) < ((iv t).length : Nat) := of_decide_eq_true h5
        rw [iv_len] at h5
        have nt : t ≠ [] := fun z => by rw [z] at h5; simp at h5
        rintro (z | z | z | z)
        · omega
        · omega
        · omega
        · exact nt z.2
      · have h5 : ¬ (0 : Int) < ((iv t).length : Nat) := of_decide_eq_false h5
        rw [iv_len] at h5
        exact List.eq_nil_of_length_eq_zero (by omega)
/-! ### read_relocation -/
def sp_rrel (K : PySem.W.Frag) (C : Addr) : Sp := fun vs H Q E => ∃ a r ls xs ss m, vs = [.ref a, .ref ls, .int ((m : Nat) : Int)] ∧ SqL K H a (iv r) ∧ r.length = 16 ∧ H ls = some (.lst xs) ∧ Al (SecAt K H) xs ss ∧
  (rrel ss m r = none → ∀ H', Same H H' → E (.ref C) none H') ∧ ∀ y, rrel ss m r = some y → ∀ H' c, Same H H' → H c = none → RelAt K H' c y → Q (.ref c) H'
theorem sc_rrel : FnScope ["row", "sections", "symbol_count", "section", "symbol", "offset", "kind"] ["row", "sections", "symbol_count"] (defScope (top 72)) := ⟨rfl, rfl, rfl, by decide +kernel, rfl, by decide +kernel, by decide +kernel⟩
theorem ok_rrel (T : Glob K mg) (D : DefIn K mg "read_relocation" (top 72) ["row", "sections", "symbol_count"]) (G1 : Cal P w K mg base (CXN P w C) 1 "demand" ["holds", "rule"] (sp_demand C)) (G2 : Cal P w K mg base CX0 1 "lowest_first" ["row"] (sp_row K fLo))
    (G3 : Cal P w K mg base CX0 2 "with_sign" ["row"] (sp_row K fSg)) (M : MkCal P w K mg base "Relocation" fReloc) : Cal P w K mg base (CXN P w C) 3 "read_relocation" ["row", "sections", "symbol_count"] (sp_rrel K C) := by
  obtain ⟨CS, fI, fd, m1, m2, m3, m4, m5, m6⟩ := M.ex
  refine D.okE sc_rrel (fun vs H Q E h => ?_) (fun f cdv A outer s H vs Q E hr h => ?_)
  · obtain ⟨a, r, ls, xs, ss, m, rfl, _⟩ := h
    rfl
  · obtain ⟨a, r, ls, xs, ss, m, rfl, hS, h16, hls, al, qE, q⟩ := h
    have hr1 : Room 1 _ := hr.mono (by decide)
    refine ⟨_, pss_cons (ps_set (i := 3) sc_rrel.nd rfl (Or.inl rfl) (pe_row (i := 0) (j := 2) G2 hr1 (pv 0) rfl rfl))
      (pss_cons (ps_set (i := 4) sc_rrel.nd rfl (Or.inl rfl) (pe_row (i := 2) (j := 4) G2 hr1 (pv 0) rfl rfl))
      (pss_cons (ps_set (i := 5) sc_rrel.nd rfl (Or.inl rfl) (pe_row (i := 4) (j := 8) G2 hr1 (pv 0) rfl rfl))
      (pss_cons (ps_set (i := 6) sc_rrel.nd rfl (Or.inl rfl) (pe_ix ix_list (pv 0) pe_int (fun _ _ => rfl)))
      (pss_cons (ps_expr (pe_cal G1 hr1 lands_def.passes (pa_cons (pe_cmp (pc_lt (pv 3) (pe_callB call_len_seq (by rfl) T.len PySem.boot_len (pa_cons (pv 1) pa_nil)))) (pa_cons pe_str pa_nil))))
      (pss_cons (ps_expr (pe_cal G1 hr1 lands_def.passes (pa_cons (pe_cmp (pc_neI (pe_f (pe_ix ix_list (pv 1) (pv 3) (fun _ _ => rfl))) (pe_gi T.zeros))) (pa_cons pe_str pa_nil))))
      (pss_cons (ps_expr (pe_cal G1 hr1 lands_def.passes (pa_cons (pe_cmp (pc_lt (pv 4) (pv 2))) (pa_cons pe_str pa_nil))))
      (pss_cons (ps_expr (pe_cal G1 hr1 lands_def.passes (pa_cons (pe_cmp (pc_le (pv 6) (pe_gi T.short))) (pa_cons pe_str pa_nil))))
      (pss_cons (ps_expr (pe_cal G1 hr1 lands_def.passes (pa_cons (pe_cmp (pc_eqI (pe_row (i := 9) (j := 12) G2 hr1 (pv 0) rfl rfl) pe_int)) (pa_cons pe_str pa_nil))))
      (pss_cons (ps_expr (pe_cal G1 hr1 lands_def.passes (pa_cons (pe_cmp (pc_le (pe_op op_add (pv 5) (pe_ix ix_tup (pe_gt T.widths) (pv 6) (fun _ _ => rfl))) (pe_f (pe_ix ix_list (pv 1) (pv 3) (fun _ _ => rfl))))) (pa_cons pe_str pa_nil))))
      (pss_one (ps_ret (pe_make m4 m6 hr rfl m1 m5 .nil pass0 (pa_cons (pv 3) (pa_cons (pv 4) (pa_cons (pv 5) (pa_cons (pv 6) (pa_cons (pe_row (i := 12) (j := 16) G3 hr (pv 0) rfl rfl) pa_nil))))))))))))))))), ?_⟩
    have g8 := iv_get (getD_at (bs := r) (i := 8) (by omega))
    refine ⟨a, r, rfl, hS, fun H1 s1 => ?_⟩
    refine ⟨a, r, rfl, s1.seq hS, fun H2 s2 => ?_⟩
    refine ⟨a, r, rfl, (s1.trans s2).seq hS, fun H3 s3 => ?_⟩
    have s03 := (s1.trans s2).trans s3
    have al3 := al.mono fun _ _ g => SecAt.same s03 g
    have hls3 := s03 _ _ hls
    refine ⟨_, rfl, a, _, _, _, rfl, rfl, s03.seq hS, atI_nat (j := 8) g8, ?_⟩
    unfold rrel at qE q
    refine ⟨_, rfl, _, rfl, ls, xs, rfl, .inl (SqL.of hls3), _, _, rfl, rfl, _, _, rfl, fun h1 => ?_, fun h1 => qE ?_ _ s03⟩
    rotate_left
    · have h1 : ¬ ((lo (cut r 0 2) : Nat) : Int) < (xs.length : Nat) := of_decide_eq_false h1
      rw [al.1] at h1
      rw [List.getElem?_eq_none (by omega)]
    have h1 : ((lo (cut r 0 2) : Nat) : Int) < (xs.length : Nat) := of_decide_eq_true h1
    rw [al.1] at h1
    have e1 : ss[lo (cut r 0 2)]? = some (ss[lo (cut r 0 2)]'(by omega)) := List.getElem?_eq_getElem _
    generalize ss[lo (cut r 0 2)]'(by omega) = x at e1
    obtain ⟨c, hc, g⟩ := al3.2 _ _ e1
    simp only [e1] at qE q
    refine ⟨_, rfl, _, rfl, ls, _, _, _, rfl, rfl, SqL.of hls3, atI_nat hc, c, _, rfl, g.kind, _, _, rfl, rfl, _, _, rfl, fun h2 => ?_, fun h2 => qE (if_pos (.inr (.inr (.inr (.inl ?_))))) _ s03⟩
    rotate_left
    · have z : ((x.kind : Nat) : Int) = 3 := by simpa using h2
      omega
    have h2 : ¬ ((x.kind : Nat) : Int) = 3 := by simpa using h2
    refine ⟨_, rfl, _, rfl, _, _, rfl, rfl, _, _, rfl, fun h3 => ?_, fun h3 => qE (if_pos (.inl ?_)) _ s03⟩
    rotate_left
    · have h3 : ¬ ((lo (cut r 2 2) : Nat) : Int) < ((m : Nat) : Int) := of_decide_eq_false h3
      omega
    have h3 : ((lo (cut r 2 2) : Nat) : Int) < ((m : Nat) : Int) := of_decide_eq_true h3
    refine ⟨_, rfl, _, _, rfl, rfl, _, _, rfl, fun h4 => ?_, fun h4 => qE (if_pos (.inr (.inl ?_))) _ s03⟩
    rotate_left
    · have h4 : ¬ ((r.getD 8 0 : Nat) : Int) ≤ 3 := of_decide_eq_false h4
      omega
    have h4 : ((r.getD 8 0 : Nat) : Int) ≤ 3 := of_decide_eq_true h4
    refine ⟨a, r, rfl, s03.seq hS, fun H4 s4 => ?_⟩
    have s04 := s03.trans s4
    refine ⟨_, _, rfl, rfl, _, _, rfl, fun h5 => ?_, fun h5 => qE (if_pos (.inr (.inr (.inl ?_)))) _ s04⟩
    rotate_left
    · have h5 : ¬ ((lo (cut r 9 3) : Nat) : Int) = 0 := of_decide_eq_false h5
      omega
    have h5 : ((lo (cut r 9 3) : Nat) : Int) = 0 := of_decide_eq_true h5
    refine ⟨_, rfl, fun wa hwa => ⟨_, rfl, wa, _, _, _, rfl, rfl, hwa, atI_nat (width_at (k := r.getD 8 0) (by omega)), _, _, rfl, rfl, _, rfl, _, rfl, ls, _, _, _, rfl, rfl, SqL.of (s4 _ _ hls3), atI_nat hc, c, _, rfl, g.size.same s4, _, _, rfl, rfl, _, _, rfl, fun h6 => ?_, fun h6 => qE (if_pos (.inr (.inr (.inr (.inr ?_))))) _ s04⟩⟩
    rotate_left
    · have h6 : ¬ ((lo (cut r 4 4) : Nat) : Int) + ((Sd07.width (r.getD 8 0) : Nat) : Int) ≤ ((x.size : Nat) : Int) := of_decide_eq_false h6
      omega
    have h6 : ((lo (cut r 4 4) : Nat) : Int) + ((Sd07.width (r.getD 8 0) : Nat) : Int) ≤ ((x.size : Nat) : Int) := of_decide_eq_true h6
    have q := q _ (if_neg (by omega))
    refine ⟨_, rfl, _, rfl, _, rfl, _, rfl, a, r, rfl, s04.seq hS, fun H5 s5 => ?_⟩
    have s05 := s04.trans s5
    exact mak_end m2 m3 rfl fun H6 c6 s6 hc6 hf => q H6 c6 (s05.trans s6) (s05.free hc6) ⟨hf 0 _ _ rfl rfl, hf 1 _ _ rfl rfl, hf 2 _ _ rfl rfl, hf 3 _ _ rfl rfl, hf 4 _ _ rfl rfl⟩
end
end Jo
set_option Elab.async false
set_option linter.all false
set_option maxRecDepth 100000
set_option maxHeartbeats 2000000
namespace Jo
open PySem PySem.Spec L2 JX
open PyProof.Rows hiding St frameOf passOn
open Sd07 (Object Section Symbol Reloc)
def RS (l : List Nat) : List (List Nat) := rows l 12 (lo (cut l 4 2)) 8
def RY (l : List Nat) : List (List Nat) := rows l (12 + 8 * lo (cut l 4 2)) (lo (cut l 6 2)) 12
def RR (l : List Nat) : List (List Nat) := rows l (12 + 8 * lo (cut l 4 2) + 12 * lo (cut l 6 2)) (lo (cut l 8 2)) 16
def NM (l : List Nat) : List Nat := cut l (nNa l) (lo (cut l 10 2))
section
variable {l : List Nat}
theorem rd_eq (h : hd1 l) (h2 : nNa l + lo (cut l 10 2) ≤ l.length) : Sd07.read l = match tab rsec (RS l) with
    | none => none
    | some ss => match tab (rsym (NM l) ss) (RY l) with
      | none => none
      | some ys => match tab (rrel ss (lo (cut l 6 2))) (RR l) with
        | none => none
        | some rs => if l.length = nNa l + lo (cut l 10 2) + (ss.map stz).sum then some ⟨ctn l ss (nNa l + lo (cut l 10 2)), ys, rs⟩ else none := read_ok h h2
theorem rd_sec (h : hd1 l) (h2 : nNa l + lo (cut l 10 2) ≤ l.length) (e : tab rsec (RS l) = none) : Sd07.read l = none := by rw [rd_eq h h2, e]
theorem rd_len (h : hd1 l) (h2 : nNa l + lo (cut l 10 2) ≤ l.length) {ss : List Section} (e : tab rsec (RS l) = some ss) (en : l.length ≠ nNa l + lo (cut l 10 2) + (ss.map stz).sum) : Sd07.read l = none := by
  rw [rd_eq h h2, e]
  dsimp only
  cases tab (rsym (NM l) ss) (RY l) with
  | none => rfl
  | some ys =>
    cases tab (rrel ss (lo (cut l 6 2))) (RR l) with
    | none => rfl
    | some rs => exact if_neg en
theorem rd_sym (h : hd1 l) (h2 : nNa l + lo (cut l 10 2) ≤ l.length) {ss : List Section} (e : tab rsec (RS l) = some ss) (e2 : tab (rsym (NM l) ss) (RY l) = none) : Sd07.read l = none := by
  rw [rd_eq h h2, e]
  dsimp only
  rw [e2]
theorem rd_rel (h : hd1 l) (h2 : nNa l + lo (cut l 10 2) ≤ l.length) {ss : List Section} (e : tab rsec (RS l) = some ss) (e3 : tab (rrel ss (lo (cut l 6 2))) (RR l) = none) : Sd07.read l = none := by
  rw [rd_eq h h2, e]
  dsimp only
  cases tab (rsym (NM l) ss) (RY l) with
  | none => rfl
  | some ys =>
    dsimp only
    rw [e3]
theorem rd_ok (h : hd1 l) (h2 : nNa l + lo (cut l 10 2) ≤ l.length) {ss : List Section} {ys : List Symbol} {rs : List Reloc} (e : tab rsec (RS l) = some ss) (e2 : tab (rsym (NM l) ss) (RY l) = some ys) (e3 : tab (rrel ss (lo (cut l 6 2))) (RR l) = some rs) (en : l.length = nNa l + lo (cut l 10 2) + (ss.map stz).sum) :
    Sd07.read l = some ⟨ctn l ss (nNa l + lo (cut l 10 2)), ys, rs⟩ := by
  rw [rd_eq h h2, e]
  dsimp only
  rw [e2]
  dsimp only
  rw [e3]
  exact if_pos en
end
theorem sum_int : ∀ ss : List Section, (ss.map fun s => ((stz s : Nat) : Int)).sum = (((ss.map stz).sum : Nat) : Int)
  | [] => rfl
  | s :: r => by
    rw [List.map_cons, List.map_cons, List.sum_cons, List.sum_cons, sum_int r, Int.natCast_add]
section
variable {K : PySem.W.Frag} {H : Hp} {c D : Addr} {zs : List V} {o : HO}
theorem Fd.put {f : Str} {v : V} (hD : H D = some (.lst zs)) (h : Fd K H c f v) : Fd K (upd H D o) c f v := by
  obtain ⟨C, dx, fs, h1, h2⟩ := h
  exact ⟨C, dx, fs, by rw [upd_ne (ne_of h1 hD (by intro z; cases z))]; exact h1, h2⟩
theorem SecAt.put (hD : H D = some (.lst zs)) {s : Section} (g : SecAt K H c s) : SecAt K (upd H D o) c s := ⟨g.kind.put hD, g.al.put hD, g.marked.put hD, g.size.put hD⟩
theorem SymAt.put (hD : H D = some (.lst zs)) {y : Symbol} (g : SymAt K H c y) : SymAt K (upd H D o) c y :=
  ⟨let ⟨t, h1, h2⟩ := g.name; ⟨t, h1.put hD, by rw [upd_ne (ne_of h2 hD (by intro z; cases z))]; exact h2⟩, g.binding.put hD, g.sec.put hD, g.val.put hD⟩
theorem RelAt.put (hD : H D = some (.lst zs)) {r : Reloc} (g : RelAt K H c r) : RelAt K (upd H D o) c r := ⟨g.sec.put hD, g.symbol.put hD, g.offset.put hD, g.kind.put hD, g.addend.put hD⟩
/-- a part whose lists are not the one at pl -/
structure PartN (K : PySem.W.Frag) (pl : Addr) (H : Hp) (a : Addr) (o : Object) : Prop where
  sections : ∃ l xs, l ≠ pl ∧ Fd K H a "sections" (.ref l) ∧ H l = some (.lst xs) ∧ Al (SecAt K H) xs o.sections
  contents : ∃ l xs, l ≠ pl ∧ Fd K H a "contents" (.ref l) ∧ H l = some (.lst xs) ∧ Al (fun c (s : Section) => c ≠ pl ∧ H c = some (.lst (iv s.bytes))) xs o.sections
  symbols : ∃ l xs, l ≠ pl ∧ Fd K H a "symbols" (.ref l) ∧ H l = some (.lst xs) ∧ Al (SymAt K H) xs o.symbols
  relocs : ∃ l xs, l ≠ pl ∧ Fd K H a "relocations" (.ref l) ∧ H l = some (.lst xs) ∧ Al (RelAt K H) xs o.relocs
theorem PartN.out {pl : Addr} {x : Object} (h : PartN K pl H c x) : PartAt K H c x :=
  ⟨let ⟨l, xs, _, h1, h2, h3⟩ := h.sections; ⟨l, xs, h1, h2, h3⟩, let ⟨l, xs, _, h1, h2, h3⟩ := h.contents; ⟨l, xs, h1, h2, h3.mono fun _ _ g => g.2⟩, let ⟨l, xs, _, h1, h2, h3⟩ := h.symbols; ⟨l, xs, h1, h2, h3⟩, let ⟨l, xs, _, h1, h2, h3⟩ := h.relocs; ⟨l, xs, h1, h2, h3⟩⟩
theorem PartN.same {pl : Addr} {H' : Hp} (s : Same H H') {x : Object} (h : PartN K pl H c x) : PartN K pl H' c x :=
  ⟨let ⟨l, xs, h0, h1, h2, h3⟩ := h.sections; ⟨l, xs, h0, h1.same s, s _ _ h2, h3.mono fun _ _ g => g.same s⟩, let ⟨l, xs, h0, h1, h2, h3⟩ := h.contents; ⟨l, xs, h0, h1.same s, s _ _ h2, h3.mono fun _ _ g => ⟨g.1, s _ _ g.2⟩⟩,
   let ⟨l, xs, h0, h1, h2, h3⟩ := h.symbols; ⟨l, xs, h0, h1.same s, s _ _ h2, h3.mono fun _ _ g => g.same s⟩, let ⟨l, xs, h0, h1, h2, h3⟩ := h.relocs; ⟨l, xs, h0, h1.same s, s _ _ h2, h3.mono fun _ _ g => g.same s⟩⟩
theorem PartN.put (hD : H D = some (.lst zs)) {x : Object} (h : PartN K D H c x) : PartN K D (upd H D o) c x :=
  ⟨let ⟨l, xs, h0, h1, h2, h3⟩ := h.sections; ⟨l, xs, h0, h1.put hD, by rw [upd_ne h0]; exact h2, h3.mono fun _ _ g => g.put hD⟩, let ⟨l, xs, h0, h1, h2, h3⟩ := h.contents; ⟨l, xs, h0, h1.put hD, by rw [upd_ne h0]; exact h2, h3.mono fun _ _ g => ⟨g.1, by rw [upd_ne g.1]; exact g.2⟩⟩,
   let ⟨l, xs, h0, h1, h2, h3⟩ := h.symbols; ⟨l, xs, h0, h1.put hD, by rw [upd_ne h0]; exact h2, h3.mono fun _ _ g => g.put hD⟩, let ⟨l, xs, h0, h1, h2, h3⟩ := h.relocs; ⟨l, xs, h0, h1.put hD, by rw [upd_ne h0]; exact h2, h3.mono fun _ _ g => g.put hD⟩⟩
theorem al_ctn {xs : List V} {ss : List Section} {l : List Nat} {o : Nat} (al : Al (SecAt K H) xs ss) : Al (SecAt K H) xs (ctn l ss o) := by
  refine ⟨by rw [ctn_len]; exact al.1, fun i s' e => ?_⟩
  have hi := (List.getElem?_eq_some_iff.mp e).1
  rw [ctn_len] at hi
  have es : ss[i]? = some ss[i] := List.getElem?_eq_getElem hi
  obtain ⟨a, ha, g⟩ := al.2 _ _ es
  rw [ctn_at l es] at e
  have e := Option.some.inj e
  subst e
  exact ⟨a, ha, g.kind, g.al, g.marked, g.size⟩
end
section
variable {P : Program} {w : World} {K : PySem.W.Frag} {mg : Str → Option Value} {base : Heap} {C : Addr}
abbrev nObj : List Str := ["data", "counts", "symbols_at", "relocations_at", "names_at", "contents_at", "sections", "stored", "names", "symbols", "relocation_rows", "relocations", "row", "section"]
def sp_robj (K : PySem.W.Frag) (C : Addr) : Sp := fun vs H Q E => ∃ a l, vs = [.ref a] ∧ SqL K H a (iv l) ∧ (Sd07.read l = none → ∀ H', Same H H' → E (.ref C) none H') ∧ ∀ o, Sd07.read l = some o → ∀ H' r, Same H H' → H r = none → (∀ pl u, H pl = some u → PartN K pl H' r o) → Q (.ref r) H'
theorem sc_robj : FnScope nObj ["data"] (defScope (top 73)) := ⟨rfl, rfl, rfl, by decide +kernel, rfl, by decide +kernel, by decide +kernel⟩
abbrev bs_o1 : Scope := { kind := .function, names := [(".0", .local), ("row", .local), ("read_section", .globalImplicit)], isGenerator := false, isCoroutine := false }
abbrev bs_o2 : Scope := { kind := .function, names := [(".0", .local), ("section", .local), ("stored_size", .globalImplicit)], isGenerator := false, isCoroutine := false }
abbrev bs_o3 : Scope := { kind := .function, names := [(".0", .local), ("row", .local), ("read_symbol", .globalImplicit), ("names", .free), ("sections", .free)], isGenerator := false, isCoroutine := false }
abbrev bs_o4 : Scope := { kind := .function, names := [(".0", .local), ("row", .local), ("read_relocation", .globalImplicit), ("counts", .free), ("sections", .free)], isGenerator := false, isCoroutine := false }
theorem bk_o1 : BlkOk nObj (defScope (top 73)) bs_o1 [("row", 12)] := blkOk_by (by decide +kernel)
theorem bk_o2 : BlkOk nObj (defScope (top 73)) bs_o2 [("section", 13)] := blkOk_by (by decide +kernel)
theorem bk_o3 : BlkOk nObj (defScope (top 73)) bs_o3 [("row", 12)] := blkOk_by (by decide +kernel)
theorem bk_o4 : BlkOk nObj (defScope (top 73)) bs_o4 [("row", 12)] := blkOk_by (by decide +kernel)
theorem ok_robj (T : Glob K mg) (D : DefIn K mg "read_object" (top 73) ["data"]) (G1 : Cal P w K mg base (CXN P w C) 1 "demand" ["holds", "rule"] (sp_demand C)) (G2 : Cal P w K mg base (CXN P w C) 2 "read_counts" ["data"] (sp_counts K C))
    (G3 : Cal P w K mg base CX0 1 "rows_of" ["data", "at", "count", "size"] (sp_rows K)) (G4 : Cal P w K mg base (CXN P w C) 3 "read_section" ["row"] (sp_rsec K C)) (G5 : Cal P w K mg base CX0 1 "stored_size" ["section"] (sp_stz K))
    (G6 : Cal P w K mg base (CXN P w C) 3 "read_symbol" ["row", "sections", "names"] (sp_rsym K C)) (G7 : Cal P w K mg base (CXN P w C) 3 "read_relocation" ["row", "sections", "symbol_count"] (sp_rrel K C)) (G8 : Cal P w K mg base CX0 2 "read_contents" ["data", "at", "sections"] (sp_rcon K))
    (M : MkCal P w K mg base "Part" fPart) : Cal P w K mg base (CXN P w C) 4 "read_object" ["data"] (sp_robj K C) := by
  obtain ⟨CS, fI, fd, m1, m2, m3, m4, m5, m6⟩ := M.ex
  refine D.okE sc_robj (fun vs H Q E h => ?_) (fun f cdv A outer s H vs Q E hr h => ?_)
  · obtain ⟨a, l, rfl, _⟩ := h
    rfl
  · obtain ⟨a, l, rfl, hS, qE, q⟩ := h
    have zl : sizeLine = 16777216 := rfl
    have hr1 : Room 1 _ := hr.mono (by decide)
    have hr2 : Room 2 _ := hr.mono (by decide)
    refine ⟨_, pss_cons (ps_set (i := 1) sc_robj.nd rfl (Or.inr rfl) (pe_cal G2 hr2 lands_def.passes (pa_cons (pv 0) pa_nil)))
      (pss_cons (ps_set (i := 2) sc_robj.nd rfl (Or.inl rfl) (pe_op op_add (pe_gi T.head_size) (pe_op op_mul (pe_gi T.section_size) (pe_ix ix_list (pv 1) pe_int (fun _ _ => rfl)))))
      (pss_cons (ps_set (i := 3) sc_robj.nd rfl (Or.inl rfl) (pe_op op_add (pv 2) (pe_op op_mul (pe_gi T.symbol_size) (pe_ix ix_list (pv 1) pe_int (fun _ _ => rfl)))))
      (pss_cons (ps_set (i := 4) sc_robj.nd rfl (Or.inl rfl) (pe_op op_add (pv 3) (pe_op op_mul (pe_gi T.relocation_size) (pe_ix ix_list (pv 1) pe_int (fun _ _ => rfl)))))
      (pss_cons (ps_set (i := 5) sc_robj.nd rfl (Or.inl rfl) (pe_op op_add (pv 4) (pe_ix ix_list (pv 1) pe_int (fun _ _ => rfl))))
      (pss_cons (ps_expr (pe_cal G1 hr1 lands_def.passes (pa_cons (pe_cmp (pc_ge (pe_callB call_len_seq (by rfl) T.len PySem.boot_len (pa_cons (pv 0) pa_nil)) (pv 5))) (pa_cons pe_str pa_nil))))
      (pss_cons (ps_set (i := 6) sc_robj.nd rfl (Or.inr rfl) (pe_lcE (own := [("row", 12)]) lands_def rfl rfl rfl sc_robj.nd (pi_list (pe_cal G3 hr1 pass0 (pa_cons (pv 0) (pa_cons (pe_gi T.head_size) (pa_cons (pe_ix ix_list (pv 1) pe_int (fun _ _ => rfl)) (pa_cons (pe_gi T.section_size) pa_nil)))))) bk_o1
        (fun _ _ _ _ _ _ => pg_name (i := 12) sc_robj.nd rfl (Or.inl rfl)) (fun _ _ _ _ _ _ => pts_nil) (fun _ _ _ _ _ _ hL => pe_cal G4 hr hL.passes (pa_cons (pv 12) pa_nil))))
      (pss_cons (ps_set (i := 7) sc_robj.nd rfl (Or.inl rfl) (pe_callB (cr_sum rfl) (by rfl) T.sum PyProof.Rows.boot_sum (pa_cons (pe_lc (own := [("section", 13)]) rfl sc_robj.nd (pi_list (pv 6)) bk_o2 (fun _ _ _ _ _ => pg_name (i := 13) sc_robj.nd rfl (Or.inl rfl)) (fun _ _ _ _ _ => pts_nil)
        (fun _ _ _ _ _ => pe_cal G5 hr1 pass0 (pa_cons (pv 13) pa_nil))) pa_nil)))
      (pss_cons (ps_expr (pe_cal G1 hr1 lands_def.passes (pa_cons (pe_cmp (pc_eqI (pe_callB call_len_seq (by rfl) T.len PySem.boot_len (pa_cons (pv 0) pa_nil)) (pe_op op_add (pv 5) (pv 7)))) (pa_cons pe_str pa_nil))))
      (pss_cons (ps_set (i := 8) sc_robj.nd rfl (Or.inr rfl) (pe_slice sl_list (pv 0) (po_some (pv 4)) (po_some (pv 5))))
      (pss_cons (ps_setLcE (i := 9) (own := [("row", 12)]) lands_def rfl rfl rfl sc_robj.nd rfl rfl (sw_true rfl rfl rfl rfl) (pi_list (pe_cal G3 hr1 pass0 (pa_cons (pv 0) (pa_cons (pv 2) (pa_cons (pe_ix ix_list (pv 1) pe_int (fun _ _ => rfl)) (pa_cons (pe_gi T.symbol_size) pa_nil)))))) bk_o3
        (fun _ _ _ _ _ _ => pg_name (i := 12) sc_robj.nd rfl (Or.inl rfl)) (fun _ _ _ _ _ _ => pts_nil) (fun _ _ _ _ _ _ hL => pe_cal G6 hr hL.passes (pa_cons (pv 12) (pa_cons (pv 6) (pa_cons (pv 8) pa_nil)))))
      (pss_cons (ps_set (i := 10) sc_robj.nd rfl (Or.inl rfl) (pe_cal G3 hr1 pass0 (pa_cons (pv 0) (pa_cons (pv 3) (pa_cons (pe_ix ix_list (pv 1) pe_int (fun _ _ => rfl)) (pa_cons (pe_gi T.relocation_size) pa_nil))))))
      (pss_cons (ps_setLcE (i := 11) (own := [("row", 12)]) lands_def rfl rfl rfl sc_robj.nd rfl rfl (sw_true rfl rfl rfl rfl) (pi_list (pv 10)) bk_o4
        (fun _ _ _ _ _ _ => pg_name (i := 12) sc_robj.nd rfl (Or.inl rfl)) (fun _ _ _ _ _ _ => pts_nil) (fun _ _ _ _ _ _ hL => pe_cal G7 hr hL.passes (pa_cons (pv 12) (pa_cons (pv 6) (pa_cons (pe_ix (r := rIxL K) ix_list (pv 1) pe_int (fun _ _ => rfl)) pa_nil)))))
      (pss_one (ps_ret (pe_make m4 m6 hr2 rfl m1 m5 .nil pass0 (pa_cons (pv 6) (pa_cons (pe_cal G8 hr2 pass0 (pa_cons (pv 0) (pa_cons (pv 5) (pa_cons (pv 6) pa_nil)))) (pa_cons (pv 9) (pa_cons (pv 11) pa_nil)))))))))))))))))))
      , ?_⟩
    refine ⟨_, rfl, a, l, rfl, hS, fun hn H' s' => qE (read_bad1 hn) H' s', fun h1 H1 rc s1 hrc => ?_⟩
    have b1 := h1.2.2.1
    have b2 := h1.2.2.2.1
    have b3 := h1.2.2.2.2.1
    have b4 := h1.2.2.2.2.2
    refine ⟨_, rfl, rc, _, _, _, rfl, rfl, SqL.of hrc, rfl, _, _, rfl, rfl, .inl ⟨by decide, by decide⟩, _, _, rfl, rfl, ?_⟩
    refine ⟨_, rfl, _, rfl, rc, _, _, _, rfl, rfl, SqL.of hrc, rfl, _, _, rfl, rfl, .inl ⟨by decide, by decide⟩, _, _, rfl, rfl, ?_⟩
    refine ⟨_, rfl, _, rfl, rc, _, _, _, rfl, rfl, SqL.of hrc, rfl, _, _, rfl, rfl, .inl ⟨by decide, by decide⟩, _, _, rfl, rfl, ?_⟩
    refine ⟨_, rfl, _, rfl, rc, _, _, _, rfl, rfl, SqL.of hrc, rfl, _, _, rfl, rfl, ?_⟩
    have e2 : (12 : Int) + 8 * ((lo (cut l 4 2) : Nat) : Int) = ((12 + 8 * lo (cut l 4 2) : Nat) : Int) := by omega
    have e3 : (12 : Int) + 8 * ((lo (cut l 4 2) : Nat) : Int) + 12 * ((lo (cut l 6 2) : Nat) : Int) = ((12 + 8 * lo (cut l 4 2) + 12 * lo (cut l 6 2) : Nat) : Int) := by omega
    have e4 : (12 : Int) + 8 * ((lo (cut l 4 2) : Nat) : Int) + 12 * ((lo (cut l 6 2) : Nat) : Int) + 16 * ((lo (cut l 8 2) : Nat) : Int) = ((nNa l : Nat) : Int) := by unfold nNa; omega
    have e5 : (12 : Int) + 8 * ((lo (cut l 4 2) : Nat) : Int) + 12 * ((lo (cut l 6 2) : Nat) : Int) + 16 * ((lo (cut l 8 2) : Nat) : Int) + ((lo (cut l 10 2) : Nat) : Int) = ((nNa l + lo (cut l 10 2) : Nat) : Int) := by unfold nNa; omega
    -- the tables are whole
    refine ⟨_, rfl, a, iv l, rfl, .inl (s1.seq hS), _, rfl, _, _, rfl, rfl, _, _, rfl, fun h6 => ?_, fun h6 => qE (read_bad2 h1 ?_) _ s1⟩
    rotate_left
    · have h6 : ¬ (12 : Int) + 8 * ((lo (cut l 4 2) : Nat) : Int) + 12 * ((lo (cut l 6 2) : Nat) : Int) + 16 * ((lo (cut l 8 2) : Nat) : Int) + ((lo (cut l 10 2) : Nat) : Int) ≤ ((iv l).length : Nat) := of_decide_eq_false h6
      rw [iv_len, e5] at h6
      omega
    have h6 : (12 : Int) + 8 * ((lo (cut l 4 2) : Nat) : Int) + 12 * ((lo (cut l 6 2) : Nat) : Int) + 16 * ((lo (cut l 8 2) : Nat) : Int) + ((lo (cut l 10 2) : Nat) : Int) ≤ ((iv l).length : Nat) := of_decide_eq_true h6
    rw [iv_len, e5] at h6
    have h2 : nNa l + lo (cut l 10 2) ≤ l.length := by omega
    have hna : nNa l = 12 + 8 * lo (cut l 4 2) + 12 * lo (cut l 6 2) + 16 * lo (cut l 8 2) := rfl
    -- sections
    refine ⟨_, rfl, _, rfl, rc, _, _, _, rfl, rfl, SqL.of hrc, rfl, a, l, 12, lo (cut l 4 2), 8, rfl, s1.seq hS, by omega, by decide, fun H3 r3 xs3 s3 hr03 hr3 al3 => ⟨r3, rfl, ⟨_, SqL.of hr3⟩, fun D hD => ?_⟩⟩
    have s13 := s1.trans s3
    refine lc_list (K := K) (a := r3) (xs := xs3) (fun i H' => ∃ zs ss, Same H3 H' ∧ H' D = some (.lst zs) ∧ tab rsec ((RS l).take i) = some ss ∧ Al (SecAt K H') zs ss) ⟨[], [], Same.upd hD, upd_same, by rw [List.take_zero]; rfl, Al.nil⟩ (fun i H' _ ⟨_, _, s4, _⟩ => SqL.of (s4 _ _ hr3)) ?_ ?_
    · rintro i x H' hx ⟨zs, ss, s4, hD4, ht4, al4⟩
      obtain ⟨row, b, hrow, rfl, g⟩ := al3.get hx
      have hi := (List.getElem?_eq_some_iff.mp hrow).1
      rw [rows_len] at hi
      have erow : row = cut l (12 + 8 * i) 8 := Option.some.inj (hrow.symm.trans (rows_get hi))
      have hlen : row.length = 8 := by rw [erow]; exact cut_len (by omega)
      have g : H3 b = some (.lst (iv row)) := g
      refine ⟨rfl, tYes_in ⟨_, rfl, b, row, rfl, SqL.of (s4 _ _ g), hlen, fun hn H5 s5 => qE (rd_sec h1 h2 (tab_snoc_none hrow hn)) H5 ((s13.trans s4).trans s5), fun sn hs H5 c s5 hc gc => ?_⟩⟩
      have lz := al4.1
      rw [tab_len _ ht4, List.length_take] at lz
      have hD5 := s5 _ _ hD4
      exact ⟨zs, hD5, by omega, zs ++ [.ref c], ss ++ [sn], Same.put (s4.trans s5) hD, upd_same, tab_snoc_some hrow ht4 hs, Al.snoc (al4.mono fun _ _ g => (g.same s5).put hD5) (gc.put hD5)⟩
    rintro H4 ⟨zs, ss, s4, hD4, ht4, al4⟩
    rw [take_all (show xs3.length = (RS l).length by unfold RS; rw [al3.1])] at ht4
    have s04 := s13.trans s4
    have wss : ∀ sn ∈ ss, sn.bytes = [] := fun sn hs => by
      obtain ⟨r, _, hr⟩ := tab_all _ ht4 sn hs
      exact (rsec_wf hr).2.2.2
    have nss : ss.length = lo (cut l 4 2) := by
      rw [tab_len _ ht4]
      exact rows_len ..
    have hrc4 := s4 _ _ (s3 _ _ hrc)
    -- stored
    refine ⟨_, rfl, D, rfl, ⟨_, SqL.of hD4⟩, fun D2 hD2 => ?_⟩
    refine lc_list (K := K) (a := D) (xs := zs) (fun i H' => Same H4 H' ∧ H' D2 = some (.lst ((ss.take i).map fun sn => V.int ((stz sn : Nat) : Int)))) ⟨Same.upd hD2, upd_same⟩ (fun i H' _ ⟨s5, _⟩ => SqL.of (s5 _ _ hD4)) ?_ ?_
    · rintro i x H' hx ⟨s5, hD5⟩
      obtain ⟨sn, c, hsn, rfl, g⟩ := al4.get hx
      have hi := (List.getElem?_eq_some_iff.mp hsn).1
      refine ⟨rfl, tYes_in ⟨_, rfl, c, sn, rfl, g.same s5, _, hD5, ?_, Same.put s5 hD2, ?_⟩⟩
      · rw [List.length_map, List.length_take]
        omega
      · rw [upd_same, take_snoc hsn, List.map_append]
        rfl
    rintro H5 ⟨s5, hD5⟩
    rw [take_all al4.1] at hD5
    have s05 := s04.trans s5
    refine ⟨D2, ss.map fun sn => ((stz sn : Nat) : Int), rfl, SqL.of ?_, ?_⟩
    · rw [hD5, List.map_map]
      rfl
    rw [sum_int]
    -- just the bytes that were told
    refine ⟨_, rfl, a, iv l, rfl, .inl (s05.seq hS), _, rfl, _, rfl, _, _, rfl, rfl, _, _, rfl, rfl, _, _, rfl, fun h9 => ?_, fun h9 => qE (rd_len h1 h2 ht4 ?_) _ s05⟩
    rotate_left
    · have h9 : ¬ ((iv l).length : Int) = (12 : Int) + 8 * ((lo (cut l 4 2) : Nat) : Int) + 12 * ((lo (cut l 6 2) : Nat) : Int) + 16 * ((lo (cut l 8 2) : Nat) : Int) + ((lo (cut l 10 2) : Nat) : Int) + (((ss.map stz).sum : Nat) : Int) := of_decide_eq_false h9
      rw [iv_len, e5] at h9
      omega
    have h9 : ((iv l).length : Int) = (12 : Int) + 8 * ((lo (cut l 4 2) : Nat) : Int) + 12 * ((lo (cut l 6 2) : Nat) : Int) + 16 * ((lo (cut l 8 2) : Nat) : Int) + ((lo (cut l 10 2) : Nat) : Int) + (((ss.map stz).sum : Nat) : Int) := of_decide_eq_true h9
    rw [iv_len, e5] at h9
    have hlen : l.length = nNa l + lo (cut l 10 2) + (ss.map stz).sum := by omega
    -- names
    refine ⟨_, rfl, _, rfl, _, rfl, _, rfl, _, rfl, a, _, rfl, s05.seq hS, fun pn hpn => ?_⟩
    have s6 : Same H5 (upd H5 pn (.lst (cutV (iv l) (some ((12 : Int) + 8 * ((lo (cut l 4 2) : Nat) : Int) + 12 * ((lo (cut l 6 2) : Nat) : Int) + 16 * ((lo (cut l 8 2) : Nat) : Int))) (some ((12 : Int) + 8 * ((lo (cut l 4 2) : Nat) : Int) + 12 * ((lo (cut l 6 2) : Nat) : Int) + 16 * ((lo (cut l 8 2) : Nat) : Int) + ((lo (cut l 10 2) : Nat) : Int)))))) := Same.upd hpn
    have hpn6 : (upd H5 pn (.lst (cutV (iv l) (some ((12 : Int) + 8 * ((lo (cut l 4 2) : Nat) : Int) + 12 * ((lo (cut l 6 2) : Nat) : Int) + 16 * ((lo (cut l 8 2) : Nat) : Int))) (some ((12 : Int) + 8 * ((lo (cut l 4 2) : Nat) : Int) + 12 * ((lo (cut l 6 2) : Nat) : Int) + 16 * ((lo (cut l 8 2) : Nat) : Int) + ((lo (cut l 10 2) : Nat) : Int)))))) pn = some (.lst (iv (NM l))) := by
      rw [upd_same, e5, e4, cutV_iv, Nat.add_sub_cancel_left]
      rfl
    generalize hH6 : upd H5 pn (.lst (cutV (iv l) (some ((12 : Int) + 8 * ((lo (cut l 4 2) : Nat) : Int) + 12 * ((lo (cut l 6 2) : Nat) : Int) + 16 * ((lo (cut l 8 2) : Nat) : Int))) (some ((12 : Int) + 8 * ((lo (cut l 4 2) : Nat) : Int) + 12 * ((lo (cut l 6 2) : Nat) : Int) + 16 * ((lo (cut l 8 2) : Nat) : Int) + ((lo (cut l 10 2) : Nat) : Int))))) = H6 at s6 hpn6
    have s06 := s05.trans s6
    have s46 := s5.trans s6
    have al6 := al4.mono fun _ _ g => SecAt.same s46 g
    have hD6 := s46 _ _ hD4
    have hrc6 := s46 _ _ hrc4
    -- symbols
    refine ⟨_, rfl, _, rfl, _, rfl, rc, _, _, _, rfl, rfl, SqL.of (by first | exact hrc6 | (rw [hH6]; exact hrc6)), rfl, a, l, 12 + 8 * lo (cut l 4 2), lo (cut l 6 2), 12, ?_, by first | exact s06.seq hS | (rw [hH6]; exact s06.seq hS), by omega, by decide, fun H7 r7 xs7 s7 hr07 hr7 al7 => ⟨r7, rfl, ⟨_, SqL.of hr7⟩, fun D3 hD3 => ?_⟩⟩
    · show [V.ref a, V.int ((12 : Int) + 8 * ((lo (cut l 4 2) : Nat) : Int)), V.int ((lo (cut l 6 2) : Nat) : Int), V.int 12] = _
      rw [e2]
      rfl
    have s67 : Same H6 H7 := s7
    have s07 := s06.trans s67
    have al7' := al6.mono fun _ _ g => SecAt.same s67 g
    have hD7 := s67 _ _ hD6
    have hpn7 := s67 _ _ hpn6
    refine lc_list (K := K) (a := r7) (xs := xs7) (fun i H' => ∃ us ys, Same H7 H' ∧ H' D3 = some (.lst us) ∧ tab (rsym (NM l) ss) ((RY l).take i) = some ys ∧ Al (SymAt K H') us ys) ⟨[], [], Same.upd hD3, upd_same, by rw [List.take_zero]; rfl, Al.nil⟩ (fun i H' _ ⟨_, _, s8, _⟩ => SqL.of (s8 _ _ hr7)) ?_ ?_
    · rintro i x H' hx ⟨us, ys, s8, hD8, ht8, al8⟩
      obtain ⟨row, b, hrow, rfl, g⟩ := al7.get hx
      have hi := (List.getElem?_eq_some_iff.mp hrow).1
      rw [rows_len] at hi
      have erow : row = cut l (12 + 8 * lo (cut l 4 2) + 12 * i) 12 := Option.some.inj (hrow.symm.trans (rows_get hi))
      have hrl : row.length = 12 := by rw [erow]; exact cut_len (by omega)
      have g : H7 b = some (.lst (iv row)) := g
      refine ⟨rfl, tYes_in ⟨_, rfl, _, rfl, _, rfl, b, row, D, zs, ss, pn, NM l, rfl, SqL.of (s8 _ _ g), hrl, s8 _ _ hD7, al7'.mono (fun _ _ g => g.same s8), SqL.of (s8 _ _ hpn7), fun hn H9 s9 => qE (rd_sym h1 h2 ht4 (tab_snoc_none hrow hn)) H9 ((s07.trans s8).trans s9), fun y hy H9 c s9 hc gc => ?_⟩⟩
      have lz := al8.1
      rw [tab_len _ ht8, List.length_take] at lz
      have hD9 := s9 _ _ hD8
      exact ⟨us, hD9, by omega, us ++ [.ref c], ys ++ [y], Same.put (s8.trans s9) hD3, upd_same, tab_snoc_some hrow ht8 hy, Al.snoc (al8.mono fun _ _ g => (g.same s9).put hD9) (gc.put hD9)⟩
    rintro H8 ⟨us, ys, s8, hD8, ht8, al8⟩
    rw [take_all (show xs7.length = (RY l).length by unfold RY; rw [al7.1])] at ht8
    have s08 := s07.trans s8
    have s68 := s67.trans s8
    have hrc8 := s68 _ _ hrc6
    -- relocation_rows
    refine ⟨_, rfl, _, rfl, _, rfl, rc, _, _, _, rfl, rfl, SqL.of hrc8, rfl, a, l, 12 + 8 * lo (cut l 4 2) + 12 * lo (cut l 6 2), lo (cut l 8 2), 16, ?_, s08.seq hS, by omega, by decide, fun H9 r9 xs9 s9 hr09 hr9 al9 => ?_⟩
    · show [V.ref a, V.int ((12 : Int) + 8 * ((lo (cut l 4 2) : Nat) : Int) + 12 * ((lo (cut l 6 2) : Nat) : Int)), V.int ((lo (cut l 8 2) : Nat) : Int), V.int 16] = _
      rw [e3]
      rfl
    have s09 := s08.trans s9
    have s69 := s68.trans s9
    have hD9 := s69 _ _ hD6
    have hrc9 := s69 _ _ hrc6
    have alS9 := al6.mono fun _ _ g => SecAt.same s69 g
    -- relocations
    refine ⟨_, rfl, r9, rfl, ⟨_, SqL.of hr9⟩, fun D4 hD4' => ?_⟩
    refine lc_list (K := K) (a := r9) (xs := xs9) (fun i H' => ∃ ws rs, Same H9 H' ∧ H' D4 = some (.lst ws) ∧ tab (rrel ss (lo (cut l 6 2))) ((RR l).take i) = some rs ∧ Al (RelAt K H') ws rs) ⟨[], [], Same.upd hD4', upd_same, by rw [List.take_zero]; rfl, Al.nil⟩ (fun i H' _ ⟨_, _, s10, _⟩ => SqL.of (s10 _ _ hr9)) ?_ ?_
    · rintro i x H' hx ⟨ws, rs, s10, hD10, ht10, al10⟩
      obtain ⟨row, b, hrow, rfl, g⟩ := al9.get hx
      have hi := (List.getElem?_eq_some_iff.mp hrow).1
      rw [rows_len] at hi
      have erow : row = cut l (12 + 8 * lo (cut l 4 2) + 12 * lo (cut l 6 2) + 16 * i) 16 := Option.some.inj (hrow.symm.trans (rows_get hi))
      have hrl : row.length = 16 := by rw [erow]; exact cut_len (by omega)
      have g : H9 b = some (.lst (iv row)) := g
      refine ⟨rfl, tYes_in ⟨_, rfl, _, rfl, _, rfl, rc, _, _, _, rfl, rfl, SqL.of (s10 _ _ hrc9), rfl, b, row, D, zs, ss, lo (cut l 6 2), rfl, SqL.of (s10 _ _ g), hrl, s10 _ _ hD9, alS9.mono (fun _ _ g => g.same s10), fun hn H11 s11 => qE (rd_rel h1 h2 ht4 (tab_snoc_none hrow hn)) H11 ((s09.trans s10).trans s11), fun y hy H11 c s11 hc gc => ?_⟩⟩
      have lz := al10.1
      rw [tab_len _ ht10, List.length_take] at lz
      have hD11 := s11 _ _ hD10
      exact ⟨ws, hD11, by omega, ws ++ [.ref c], rs ++ [y], Same.put (s10.trans s11) hD4', upd_same, tab_snoc_some hrow ht10 hy, Al.snoc (al10.mono fun _ _ g => (g.same s11).put hD11) (gc.put hD11)⟩
    rintro H10 ⟨ws, rs, s10, hD10, ht10, al10⟩
    rw [take_all (show xs9.length = (RR l).length by unfold RR; rw [al9.1])] at ht10
    have s010 := s09.trans s10
    have alS10 := alS9.mono fun _ _ g => SecAt.same s10 g
    have hDs10 := s10 _ _ hD9
    have hDy10 := s10 _ _ (s9 _ _ hD8)
    have alY10 := al8.mono fun _ _ g => SymAt.same (s9.trans s10) g
    -- the part
    refine ⟨_, rfl, _, rfl, _, rfl, _, rfl, a, l, nNa l + lo (cut l 10 2), D, zs, ss, ?_, s010.seq hS, hDs10, alS10, wss, by omega, fun H11 rcs cs s11 hrcs0 hrcs alc => ?_⟩
    · show [V.ref a, V.int ((12 : Int) + 8 * ((lo (cut l 4 2) : Nat) : Int) + 12 * ((lo (cut l 6 2) : Nat) : Int) + 16 * ((lo (cut l 8 2) : Nat) : Int) + ((lo (cut l 10 2) : Nat) : Int)), V.ref D] = _
      rw [e5]
    refine ⟨_, rfl, _, rfl, ?_⟩
    have s011 := s010.trans s11
    refine mak_end m2 m3 rfl fun H12 pa s12 hpa hf => q _ (rd_ok h1 h2 ht4 ht8 ht10 hlen) H12 pa (s011.trans s12) (s011.free hpa) fun pl u hu => ⟨⟨D, zs, (ne_of_none hu (s13.free hD)).symm, hf 0 _ _ rfl rfl, s12 _ _ (s11 _ _ hDs10), al_ctn (alS10.mono fun _ _ g => SecAt.same (s11.trans s12) g)⟩, ⟨rcs, cs, (ne_of_none hu (s010.free hrcs0)).symm, hf 1 _ _ rfl rfl, s12 _ _ hrcs, alc.mono fun _ _ g => ⟨(ne_of_none hu (s010.free g.1)).symm, s12 _ _ g.2⟩⟩,
      ⟨D3, us, (ne_of_none hu (s07.free hD3)).symm, hf 2 _ _ rfl rfl, s12 _ _ (s11 _ _ hDy10), alY10.mono fun _ _ g => SymAt.same (s11.trans s12) g⟩, ⟨D4, ws, (ne_of_none hu (s09.free hD4')).symm, hf 3 _ _ rfl rfl, s12 _ _ (s11 _ _ hD10), al10.mono fun _ _ g => RelAt.same (s11.trans s12) g⟩⟩
end
end Jo
set_option Elab.async false
set_option linter.all false
set_option maxRecDepth 100000
set_option maxHeartbeats 2000000
namespace Jo
open PySem PySem.Spec L2 JX
open PyProof.Rows hiding St frameOf passOn
open Sd07 (Object Section Symbol Reloc)
theorem pes_cal {X : Cx} {pins : List (Addr × Obj)} {σ : St} {C : Addr} {E : XK} {k : Nat} {x : Str} {ps : List Str} {sp : Sp} {p pos : Pos} {e : Expr} {es : List Expr} {t : TA} (G : Cal X.prog X.w X.K X.mg X.base (CXN X.prog X.w C) k x ps sp) (hr : Room k X.A) (hx : LandsS X pins σ C E) (ha : PAs X pins σ (e :: es) t)
    (hg : Gl X x := by rfl) (hdb : (x == ("__debug__" : Str)) = false := by decide) (he : starEach (e :: es) X.env = (false, eval e X.env) :: starEach es X.env := by rfl) (hpl : (backTo pos (starEach es X.env)).any (·.1) = false := by rfl) :
    PEs X pins σ (.Call (.Name x p) (e :: es) [] pos) (tCall sp [] E t) := by
  obtain ⟨f, fd, h1, h2, h3, h4⟩ := G.ex
  exact pes_call h4 hr hg h1 h2 h3 .nil hx ha hdb he hpl
section
variable {P : Program} {w : World} {K : PySem.W.Frag} {mg : Str → Option Value} {base : Heap} {C : Addr}
/-! ### beyond_limits -/
def sp_lim (K : PySem.W.Frag) : Sp := fun vs H Q _ => ∃ rt ob xs ys c, vs = [.int ((Sd07.Call.base c : Nat) : Int), .int ((Sd07.Call.room c : Nat) : Int), .ref rt, .ref ob] ∧ SqL K H rt xs ∧ xs.length = c.root.length ∧ SqL K H ob ys ∧ ys.length = c.objects.length ∧ Q (.bl (!Sd07.good c)) H
theorem sc_lim : FnScope ["base", "room", "root", "objects"] ["base", "room", "root", "objects"] (defScope (top 88)) := ⟨rfl, rfl, rfl, by decide +kernel, rfl, by decide +kernel, by decide +kernel⟩
theorem ok_lim (T : Glob K mg) (D : DefIn K mg "beyond_limits" (top 88) ["base", "room", "root", "objects"]) : Cal P w K mg base CX0 1 "beyond_limits" ["base", "room", "root", "objects"] (sp_lim K) := by
  refine D.ok sc_lim (fun vs H Q E h => ?_) (fun f cdv A outer s H vs Q E hr h => ?_)
  · obtain ⟨rt, ob, xs, ys, c, rfl, _⟩ := h
    rfl
  · obtain ⟨rt, ob, xs, ys, c, rfl, h1, e1, h2, e2, q⟩ := h
    refine ⟨_, pss_cons (ps_if (PW.pt (pw_or (pt_cmp (pc_lt (pe_callB call_len_seq (by rfl) T.len PySem.boot_len (pa_cons (pv 3) pa_nil)) pe_int)) (pw_or1 (pt_cmp (pc_gt (pe_callB call_len_seq (by rfl) T.len PySem.boot_len (pa_cons (pv 3) pa_nil)) (pe_gi T.most_objects)))))) (pss_one (ps_ret pe_bl)) pss_nil)
      (pss_cons (ps_if (PW.pt (pw_or (pt_cmp (pc_gt (pe_callB call_len_seq (by rfl) T.len PySem.boot_len (pa_cons (pv 2) pa_nil)) (pe_gi T.longest_root))) (pw_or1 (pt_cmp (pc_gt (pv 1) (pe_gi T.most_room)))))) (pss_one (ps_ret pe_bl)) pss_nil)
      (pss_one (ps_ret (pe_or (pe_cmp (pc_neI (pe_op op_mod (pv 0) (pe_gi T.base_step)) pe_int)) (pe_one (pe_cmp (pc_ge (pv 0) (pe_gi T.base_end)))))))), ?_⟩
    have hg : Sd07.good c = (decide (1 ≤ c.objects.length) && (decide (c.objects.length ≤ 32) && (decide (c.root.length ≤ 8192) && (decide (c.base % 4096 = 0) && (decide (c.base < 140737488355328) && decide (c.room ≤ 268435456)))))) := by
      unfold Sd07.good
      congr 4
    have bad : (¬ (1 ≤ c.objects.length ∧ c.objects.length ≤ 32 ∧ c.root.length ≤ 8192 ∧ c.base % 4096 = 0 ∧ c.base < 140737488355328 ∧ c.room ≤ 268435456)) → Q (.bl true) H := fun h => by
      have z : Sd07.good c = false := by
        rw [hg]
        refine Bool.eq_false_iff.mpr fun z => h ?_
        simpa using z
      rw [z] at q
      exact q
    have l1 : (xs.length : Int) = ((c.root.length : Nat) : Int) := by rw [e1]
    have l2 : (ys.length : Int) = ((c.objects.length : Nat) : Int) := by rw [e2]
    refine ⟨_, rfl, ob, ys, rfl, .inl h2, _, _, rfl, rfl, _, rfl, ite2 (fun h => ?_) (fun h => ?_)⟩
    · have h : (ys.length : Int) < 1 := of_decide_eq_true h
      exact iteT (bad (by omega))
    have h3 : ¬ (ys.length : Int) < 1 := fun z => h (decide_eq_true z)
    refine ⟨_, rfl, ob, ys, rfl, .inl h2, _, _, rfl, rfl, _, rfl, ite2 (fun h => ?_) (fun h => ?_)⟩
    · have h : (32 : Int) < (ys.length : Int) := of_decide_eq_true h
      exact bad (by omega)
    have h4 : ¬ (32 : Int) < (ys.length : Int) := fun z => h (decide_eq_true z)
    refine ⟨_, rfl, rt, xs, rfl, .inl h1, _, _, rfl, rfl, _, rfl, ite2 (fun h => ?_) (fun h => ?_)⟩
    · have h : (8192 : Int) < (xs.length : Int) := of_decide_eq_true h
      exact iteT (bad (by omega))
    have h5 : ¬ (8192 : Int) < (xs.length : Int) := fun z => h (decide_eq_true z)
    refine ⟨_, rfl, _, _, rfl, rfl, _, rfl, ite2 (fun h => ?_) (fun h => ?_)⟩
    · have h : (268435456 : Int) < ((c.room : Nat) : Int) := of_decide_eq_true h
      exact bad (by omega)
    have h6 : ¬ (268435456 : Int) < ((c.room : Nat) : Int) := fun z => h (decide_eq_true z)
    refine ⟨_, rfl, _, _, rfl, rfl, (by show (0 : Int) < 4096; decide), _, _, rfl, rfl, _, rfl, ite2 (fun h => ?_) (fun h => ?_)⟩
    · have h : ¬ ((c.base : Nat) : Int) % 4096 = 0 := by simpa using h
      exact bad (by omega)
    have h7 : ((c.base : Nat) : Int) % 4096 = 0 := by simpa using h
    refine ⟨_, rfl, _, _, rfl, rfl, ?_⟩
    show Q (.bl (decide ((140737488355328 : Int) ≤ ((c.base : Nat) : Int)))) H
    by_cases h8 : c.base < 140737488355328
    · have z : Sd07.good c = true := by
        rw [hg]
        simp only [Bool.and_eq_true, decide_eq_true_eq]
        omega
      rw [z] at q
      rw [decide_eq_false (by omega)]
      exact q
    · rw [decide_eq_true (by omega)]
      exact bad (by omega)
end
end Jo
set_option Elab.async false
set_option linter.all false
set_option maxRecDepth 100000
set_option maxHeartbeats 2000000
namespace Jo
open PySem PySem.Spec L2 JX
open PyProof.Rows hiding St frameOf passOn
open Sd07 (Object Section Symbol Reloc)
section
variable {P : Program} {w : World} {K : PySem.W.Frag} {mg : Str → Option Value} {base : Heap} {C : Addr}
def sp_join (K : PySem.W.Frag) : Sp := fun vs H Q _ => ∃ rt ob xs c, vs = [.int ((Sd07.Call.base c : Nat) : Int), .int ((Sd07.Call.room c : Nat) : Int), .ref rt, .ref ob] ∧ SqL K H rt (iv c.root) ∧ SqL K H ob xs ∧ Al (fun a l => SqL K H a (iv l)) xs c.objects ∧
  (∀ l ∈ c.objects, ∀ b ∈ l, b ≤ 255) ∧ (ansV (Sd07.does c)).length < 1000000 ∧ ∀ H' r, H' r = some (.lst (ansV (Sd07.does c))) → Q (.ref r) H'
theorem sc_join : FnScope ["base", "room", "root", "objects", "parts", "number", "data", "again", "found", "root_symbol"] ["base", "room", "root", "objects"] (defScope (top 89)) := ⟨rfl, rfl, rfl, by decide +kernel, rfl, by decide +kernel, by decide +kernel⟩
theorem ok_join (T : Glob K mg) (hC : mg "NoObject" = some (.ref C)) (EC : Exc K C) {fj : Addr} {fdj : FuncData} (F : Fun K "join" "join" (top 89) fj fdj) (G1 : Cal P w K mg base CX0 1 "beyond_limits" ["base", "room", "root", "objects"] (sp_lim K)) (G2 : Cal P w K mg base (CXN P w C) 4 "read_object" ["data"] (sp_robj K C))
    (G3 : Cal P w K mg base CX0 2 "first_given_again" ["parts"] (sp_again K)) (G4 : Cal P w K mg base CX0 2 "name_symbols" ["parts"] (sp_names K)) (G5 : Cal P w K mg base CX0 1 "stand_for" ["parts", "found"] (sp_stand K))
    (G6 : Cal P w K mg base CX0 5 "join_parts" ["base", "room", "root_symbol", "parts", "targets"] (sp_parts K)) : FnOk P w K mg base CX0 6 fj fdj ["base", "room", "root", "objects"] (sp_join K) := by
  refine F.ok sc_join (fun vs H Q E h => ?_) (fun cdv A outer s H vs Q E hr h => ?_)
  · obtain ⟨rt, ob, xs, c, rfl, _⟩ := h
    rfl
  · obtain ⟨rt, ob, xs, c, rfl, hrt, hob, al, hby, hlen, q⟩ := h
    have zl : sizeLine = 16777216 := rfl
    have hu := hu_of hr
    have hr1 : Room 1 _ := hr.mono (by decide)
    have hr2 : Room 2 _ := hr.mono (by decide)
    have hr4 : Room 4 _ := hr.mono (by decide)
    refine ⟨_, pss_cons (ps_if (pt_val (pe_cal G1 hr1 pass0 (pa_cons (pv 0) (pa_cons (pv 1) (pa_cons (pv 2) (pa_cons (pv 3) pa_nil)))))) (pss_one (ps_ret (pe_lst (pa_cons (pe_gi T.beyond) pa_nil)))) pss_nil)
      (pss_cons (ps_set (i := 4) sc_join.nd rfl (Or.inl rfl) (pe_lst pa_nil))
      (pss_cons (ps_for PassesOwn.never rfl (pi_enum rfl T.enum (pa_cons (pv 3) pa_nil)) (pg_tup rfl (pgs_cons (pg_name (i := 5) sc_join.nd rfl (Or.inl rfl)) (pgs_cons (pg_name (i := 6) sc_join.nd rfl (Or.inl rfl)) pgs_nil)))
        (pss_one (ps_try1 (te := fun Ex => tBM K "list" rAppend (tVar 4) (tCons (tCall (sp_robj K C) [] Ex (tCons (tVar 6) tNil)) tNil)) rfl rfl EC rfl hC
          (fun _ _ _ _ hL => pes_bm PySem.F.plainAttrs_list PySem.F.slot_list_append PySem.F.type_list_append mApp (PE.at (pv 4)) (pas_one (pes_cal G2 hr4 hL (PA.at (pa_cons (pv 6) pa_nil)))))
          (fun _ => pss_one (ps_ret (pe_lst (pa_cons (pe_gi T.no_object) (pa_cons (pv 5) (pa_cons pe_int pa_nil)))))))))
      (pss_cons (ps_set (i := 7) sc_join.nd rfl (Or.inl rfl) (pe_cal G3 hr2 pass0 (pa_cons (pv 4) pa_nil)))
      (pss_cons (ps_if (pt_cmp (pc_notN (pv 7))) (pss_one (ps_ret (pe_lst (pa_cons (pe_gi T.given_twice) (pa_cons (pe_ix ix_tup (pv 7) pe_int (fun _ _ => rfl)) (pa_cons (pe_ix ix_tup (pv 7) pe_int (fun _ _ => rfl)) pa_nil)))))) pss_nil)
      (pss_cons (ps_set (i := 8) sc_join.nd rfl (Or.inl rfl) (pe_cal G4 hr2 pass0 (pa_cons (pv 4) pa_nil)))
      (pss_cons (ps_set (i := 9) sc_join.nd rfl (Or.inl rfl) (pe_dget1 hu (pv 8) (pe_callTy call_tuple_of (by rfl) T.tuple boot_tuple (pa_cons (pv 2) pa_nil)) ⟨rfl, rfl, rfl, rfl⟩))
      (pss_cons (ps_if (pt_cmp (pc_isN (pv 9))) (pss_one (ps_ret (pe_lst (pa_cons (pe_gi T.no_root) pa_nil)))) pss_nil)
      (pss_one (ps_ret (pe_cal G6 hr pass0 (pa_cons (pv 0) (pa_cons (pv 1) (pa_cons (pv 9) (pa_cons (pv 4) (pa_cons (pe_cal G5 hr1 pass0 (pa_cons (pv 4) (pa_cons (pv 8) pa_nil))) pa_nil))))))))))))))), ?_⟩
    unfold Sd07.does at hlen q
    refine ⟨_, rfl, _, rfl, _, rfl, _, rfl, rt, ob, _, _, c, rfl, hrt, iv_len _, hob, al.1, _, rfl, ?_⟩
    cases hgood : Sd07.good c with
    | false =>
      rw [hgood] at q
      refine iteT ⟨(by show 1 ≤ sizeLine; decide), fun p hp => q _ p ?_⟩
      rw [upd_same]
      rfl
    | true =>
      rw [hgood] at hlen q
      refine iteF ?_
      have q : ∀ H' r, H' r = some (.lst (ansV (match Sd07.readAll 0 c.objects with
        | .error i => Sd07.no (-1) [i, 0]
        | .ok l => match Sd07.twice l with
          | some x => Sd07.no (-2) [x.1, x.2]
          | none => match Sd07.named l c.root with
            | none => Sd07.no (-3) []
            | some x => Sd07.joined c l x))) → Q (.ref r) H' := q
      have hlen : (ansV (match Sd07.readAll 0 c.objects with
        | .error i => Sd07.no (-1) [i, 0]
        | .ok l => match Sd07.twice l with
          | some x => Sd07.no (-2) [x.1, x.2]
          | none => match Sd07.named l c.root with
            | none => Sd07.no (-3) []
            | some x => Sd07.joined c l x)).length < 1000000 := hlen
      have hg : 1 ≤ c.objects.length ∧ c.objects.length ≤ 32 ∧ c.root.length ≤ 8192 ∧ c.base % 4096 = 0 ∧ c.base < 140737488355328 ∧ c.room ≤ 268435456 := by
        unfold Sd07.good at hgood
        simp only [Bool.and_eq_true, decide_eq_true_eq, beq_iff_eq] at hgood
        exact hgood
      refine ⟨Nat.zero_le _, fun pl hpl => ?_⟩
      have s0 := Same.upd (o := .lst []) hpl
      refine ⟨_, rfl, ob, xs, rfl, s0.seq hob, for_enum (K := K) (a := ob) (xs := xs) (i1 := 5) (i2 := 6) (fun i σ H' => ∃ v5 v6 zs os, σ = [some (.int ((c.base : Nat) : Int)), some (.int ((c.room : Nat) : Int)), some (.ref rt), some (.ref ob), some (.ref pl), v5, v6, none, none, none] ∧ Same H H' ∧ H' pl = some (.lst zs) ∧
          tab Sd07.read (c.objects.take i) = some os ∧ Al (PartN K pl H') zs os)
        ⟨none, none, [], [], rfl, s0, upd_same, by rw [List.take_zero]; rfl, Al.nil⟩ (fun i σ H' _ ⟨_, _, _, _, _, s1, _⟩ => s1.seq hob) ?_ ?_⟩
      · rintro i x σ H' t hx ⟨v5, v6, zs, os, rfl, s1, hpl1, ht1, al1⟩ ht
        obtain ⟨l, a, hl, rfl, hSl⟩ := al.get hx
        have hi := (List.getElem?_eq_some_iff.mp hl).1
        have s2 : Same H (upd H' t (.tup [.int (i : Nat), .ref a])) := s1.trans (Same.upd ht)
        have hpl2 := Same.upd (o := .tup [.int (i : Nat), .ref a]) ht _ _ hpl1
        have al2 := al1.mono fun _ _ g => PartN.same (Same.upd (o := .tup [.int (i : Nat), .ref a]) ht) g
        generalize upd H' t (.tup [.int (i : Nat), .ref a]) = H2 at s2 hpl2 al2
        refine ⟨_, rfl, .inl ⟨rfl, _, SqL.of hpl2⟩, _, rfl, a, l, rfl, s2.seq hSl, fun hn H5 s5 => ?_, fun o ho H5 r s5 hr0 hP => ?_⟩
        · refine ⟨_, rfl, (by show 3 ≤ sizeLine; decide), fun p hp => q _ p ?_⟩
          rw [upd_same, readAll_err ht1 hl hn, Nat.zero_add]
          rfl
        · have lz := al2.1
          rw [tab_len _ ht1, List.length_take] at lz
          have hpl5 := s5 _ _ hpl2
          refine ⟨pl, zs, _, rfl, rfl, hpl5, by omega, ?_⟩
          exact ⟨_, _, zs ++ [.ref r], os ++ [o], rfl, Same.put (s2.trans s5) hpl, upd_same, tab_snoc_some hl ht1 ho, Al.snoc (al2.mono fun _ _ g => (g.same s5).put hpl5) ((hP pl _ hpl2).put hpl5)⟩
      rintro σ H1 ⟨v5, v6, zs, os, rfl, s1, hpl1, ht1, al1⟩
      rw [take_all al.1] at ht1
      have hP : PartsAt K H1 pl os := ⟨zs, hpl1, al1.mono fun _ _ g => g.out⟩
      have wf : WF os := all_wf hg.2.1 hby ht1
      rw [readAll_ok ht1] at hlen q
      dsimp only at hlen q
      -- again
      refine ⟨_, rfl, pl, os, rfl, hP, wf, fun H2 s2 hnone => ?_, fun H2 a k s2 hsome ga => ?_⟩
      rotate_left
      · rw [hsome] at q
        refine ⟨_, rfl, _, rfl, ?_⟩
        rw [decide_eq_false (by intro z; cases z)]
        refine iteT ⟨_, rfl, a, _, _, _, rfl, rfl, SqT.of ga, rfl, _, rfl, a, _, _, _, rfl, rfl, SqT.of ga, rfl, (by show 3 ≤ sizeLine; decide), fun p hp => q _ p ?_⟩
        rw [upd_same]
        rfl
      rw [hnone] at hlen q
      dsimp only at hlen q
      refine ⟨_, rfl, _, rfl, ?_⟩
      rw [decide_eq_true rfl]
      refine iteF ?_
      -- found, root_symbol
      refine ⟨_, rfl, pl, os, rfl, hP.same s2, wf, fun H3 d s3 hd => ?_⟩
      have s13 := s2.trans s3
      have s03 := s1.trans s13
      obtain ⟨kvs, k1, _⟩ := id hd
      refine ⟨_, rfl, d, rfl, .inr ⟨kvs, .inl k1⟩, _, rfl, rt, _, rfl, .inl ⟨s03.seq hrt, fun tp htp => ?_⟩⟩
      have s4 := Same.upd (o := .tup (iv c.root)) htp
      have htp4 : (upd H3 tp (.tup (iv c.root))) tp = some (.tup ((kk c.root).map kV)) := by rw [upd_same, kk_iv]
      generalize upd H3 tp (.tup (iv c.root)) = H4 at s4 htp4
      have hd4 := hd.same s4
      obtain ⟨kvs, k1, k2⟩ := id hd4
      refine ⟨_, DGet.t k1 htp4, ?_⟩
      have hv := (k2 c.root).1
      generalize (valV kvs (kk c.root)).getD .non = v at hv
      have s14 := s13.trans s4
      refine ⟨_, rfl, _, rfl, ?_⟩
      cases en : Sd07.named os c.root with
      | none =>
        rw [en] at hv q
        have hv : v = .non := hv
        subst hv
        rw [decide_eq_true rfl]
        refine iteT ⟨(by show 1 ≤ sizeLine; decide), fun p hp => q _ p ?_⟩
        rw [upd_same]
        rfl
      | some k =>
        rw [en] at hv hlen q
        dsimp only at hlen q
        obtain ⟨a, rfl, ga⟩ := id hv
        rw [decide_eq_false (by intro z; cases z)]
        refine iteF ?_
        refine ⟨_, rfl, _, rfl, _, rfl, _, rfl, _, rfl, _, rfl, pl, d, os, rfl, hP.same s14, wf, hd4, fun H5 tg s5 htg => ?_⟩
        exact ⟨pl, tg, .ref a, os, k, c, rfl, hP.same (s14.trans s5), wf, htg, TgtV.same s5 hv, (tgt_named en).1, Nat.dvd_of_mod_eq_zero hg.2.2.2.1, hg.2.2.2.2.1, hlen, q⟩
end
end Jo
set_option Elab.async false
set_option linter.all false
set_option maxRecDepth 100000
set_option maxHeartbeats 2000000
/-! THE TOP: what it has written. -/
namespace Jo
open PySem PySem.Spec L2 JX
open PyProof.Rows hiding St frameOf passOn
open Sd07 (Object Section Symbol Reloc)
section
variable {K : PySem.W.Frag} {h : Heap} {mg : Str → Option Value}
def chkI (K : PySem.W.Frag) (x : Str) (n : Int) : Bool := match PySem.W.nsIn K mainGlobals x with
  | some (some (.int m _)) => decide (m = n)
  | _ => false
theorem gi_of {x : Str} {n : Int} (X : K.In h) (G : h.Ns mainGlobals mg) (e : chkI K x n = true) : Gi mg x n := by
  unfold chkI at e
  split at e
  · rename_i m t q
    have e := of_decide_eq_true e
    subst e
    exact ⟨t, PySem.W.mg_of X G q⟩
  · cases e
def chkN (K : PySem.W.Frag) (x : Str) : Bool := match PySem.W.nsIn K mainGlobals x with
  | some none => true
  | _ => false
theorem no_of {x : Str} (X : K.In h) (G : h.Ns mainGlobals mg) (e : chkN K x = true) : mg x = none := by
  unfold chkN at e
  split at e
  · rename_i q
    exact PySem.W.ns_none_of X G q
  · cases e
def intsB : List Value → List Int → Bool
  | [], [] => true
  | .int m _ :: r, n :: s => decide (m = n) && intsB r s
  | _, _ => false
theorem intsB_vals : ∀ {us : List Value} {ns : List Int}, intsB us ns = true → Vals (ns.map V.int) us
  | [], [], _ => .nil
  | .int m t :: r, n :: s, e => by
    unfold intsB at e
    rw [Bool.and_eq_true] at e
    have e1 := of_decide_eq_true e.1
    subst e1
    exact .cons ⟨t, rfl⟩ (intsB_vals e.2)
def chkT (K : PySem.W.Frag) (x : Str) (ns : List Int) : Bool := match PySem.W.nsIn K mainGlobals x with
  | some (some (.ref a)) => (match K.lookup a with
    | some ⟨.type c, _, .seq its _, _⟩ => (c == "tuple" && decide (its.size ≤ 100)) && intsB its.toList ns
    | _ => false)
  | _ => false
theorem gt_of {x : Str} {ns : List Int} (X : K.In h) (G : h.Ns mainGlobals mg) (e : chkT K x ns = true) : Gt K mg x (ns.map V.int) := by
  unfold chkT at e
  split at e
  · rename_i a q
    split at e
    · rename_i c dd its n sl look
      rw [Bool.and_eq_true, Bool.and_eq_true] at e
      have e1 : c = "tuple" := beq_iff_eq.mp e.1.1
      subst e1
      have e2 := of_decide_eq_true e.1.2
      refine ⟨a, PySem.W.mg_of X G q, fun H => .inr ⟨_, its, n, look, rfl, rfl, ?_, intsB_vals e.2⟩⟩
      have zl : sizeLine = 16777216 := rfl
      omega
    · cases e
  · cases e
def tabI : List (Str × Int) := [(("CODE" : Str), (0 : Int)), (("CONSTANTS" : Str), (1 : Int)), (("DATA" : Str), (2 : Int)), (("ZEROS" : Str), (3 : Int)), (("OWN" : Str), (0 : Int)), (("FOR_ALL" : Str), (1 : Int)), (("WEAK" : Str), (2 : Int)), (("NO_PLACE" : Str), (65535 : Int)), (("NUMBER" : Str), (65534 : Int)), (("WIDE" : Str), (0 : Int)), (("NEAR" : Str), (1 : Int)), (("LOW" : Str), (2 : Int)), (("SHORT" : Str), (3 : Int)), (("PAGE" : Str), (4096 : Int)), (("ALL_ADDRESSES" : Str), (18446744073709551616 : Int)), (("HALF_OF_THEM" : Str), (9223372036854775808 : Int)), (("HEAD_SIZE" : Str), (12 : Int)), (("SECTION_SIZE" : Str), (8 : Int)), (("SYMBOL_SIZE" : Str), (12 : Int)), (("RELOCATION_SIZE" : Str), (16 : Int)), (("MOST_SECTIONS" : Str), (64 : Int)), (("MOST_SYMBOLS" : Str), (256 : Int)), (("MOST_RELOCATIONS" : Str), (1024 : Int)), (("MOST_NAME_BYTES" : Str), (8192 : Int)), (("MOST_POWER" : Str), (12 : Int)), (("LARGEST_SECTION" : Str), (65536 : Int)), (("JOINED" : Str), (0 : Int)), (("NO_OBJECT" : Str), ((-1) : Int)), (("GIVEN_TWICE" : Str), ((-2) : Int)), (("NO_ROOT" : Str), ((-3) : Int)), (("UNBOUND" : Str), ((-4) : Int)), (("TOO_FAR" : Str), ((-5) : Int)), (("NO_ROOM" : Str), ((-6) : Int)), (("BEYOND_LIMITS" : Str), ((-7) : Int)), (("MOST_OBJECTS" : Str), (32 : Int)), (("LONGEST_ROOT" : Str), (8192 : Int)), (("MOST_ROOM" : Str), (268435456 : Int)), (("BASE_STEP" : Str), (4096 : Int)), (("BASE_END" : Str), (140737488355328 : Int))]
def tabN : List Str := ["enumerate", "zip", "reversed", "range", "len", "sum", "tuple"]
def chkGlob (K : PySem.W.Frag) : Bool := (tabI.all fun p => chkI K p.1 p.2) && ((tabN.all fun x => chkN K x) && (chkT K "WIDTHS" [8, 4, 4, 1] && (chkT K "LETTERS" [76, 78, 79, 49] && chkT K "ALIGNMENTS" [1, 2, 4, 8, 16, 32, 64, 128, 256, 512, 1024, 2048, 4096])))
theorem glob_mk (X : K.In h) (G : h.Ns mainGlobals mg) (e : chkGlob K = true) : Glob K mg := by
  unfold chkGlob at e
  simp only [Bool.and_eq_true] at e
  obtain ⟨e1, e2, e3, e4, e5⟩ := e
  have I : ∀ {x : Str} {n : Int}, (x, n) ∈ tabI → Gi mg x n := fun {x n} m => gi_of X G (List.all_eq_true.mp e1 (x, n) m)
  have N : ∀ {x : Str}, x ∈ tabN → mg x = none := fun {x} m => no_of X G (List.all_eq_true.mp e2 x m)
  exact ⟨N (by decide +kernel), N (by decide +kernel), N (by decide +kernel), N (by decide +kernel), N (by decide +kernel), N (by decide +kernel), N (by decide +kernel),
    I (by decide +kernel), I (by decide +kernel), I (by decide +kernel), I (by decide +kernel), I (by decide +kernel), I (by decide +kernel), I (by decide +kernel), I (by decide +kernel), I (by decide +kernel), I (by decide +kernel), I (by decide +kernel), I (by decide +kernel), I (by decide +kernel), gt_of X G e3, I (by decide +kernel), I (by decide +kernel), I (by decide +kernel), gt_of X G e4, I (by decide +kernel), I (by decide +kernel), I (by decide +kernel), I (by decide +kernel), I (by decide +kernel), I (by decide +kernel), I (by decide +kernel), I (by decide +kernel), I (by decide +kernel), I (by decide +kernel), gt_of X G e5, I (by decide +kernel), I (by decide +kernel), I (by decide +kernel), I (by decide +kernel), I (by decide +kernel), I (by decide +kernel), I (by decide +kernel), I (by decide +kernel), I (by decide +kernel), I (by decide +kernel), I (by decide +kernel), I (by decide +kernel), I (by decide +kernel)⟩
/-! ### defs and classes -/
theorem def_mk {name : Str} {st : Stmt} {ps : List Str} {f : Addr} {oc : Value} {od an : Option Addr} {osl : Array (Option Value)} {kV doc pm cdv ct : Value} (X : K.In h) (G : h.Ns mainGlobals mg) (a : PySem.W.nsIn K mainGlobals name = some (some (.ref f)))
    (l : K.lookup f = some ⟨oc, od, .func (PySem.W.fnOf name name (defArgs st) (defBody st) (defScope st) .none kV doc pm an cdv ct), osl⟩) (ck : (PySem.W.codeIn K cdv name && PySem.W.keepIn K (.ref f)) = true)
    (hb : ∀ (kV doc pm : Value) (an : Option Addr) (cdv ct : Value) (us : List Value), us.length = ps.length → bindArgs (PySem.W.fnOf name name (defArgs st) (defBody st) (defScope st) .none kV doc pm an cdv ct) ⟨us, []⟩ = pure (ps.zip us)) : DefIn K mg name st ps := by
  rw [Bool.and_eq_true] at ck
  have F := fun_mk (st := st) l ck.1 ck.2
  exact ⟨f, _, PySem.W.mg_of X G a, F, F.binds hb⟩
def chkC (K : PySem.W.Frag) (C f : Addr) (cdv : Value) (qual : Str) (fs : List Str) : Bool :=
  PySem.W.codeIn K cdv qual && (PySem.W.keepIn K (.ref f) && (PySem.W.isFn K (.ref f) && (PySem.W.plainGet K C Str.empty && (PySem.W.hasDictIn K C && (PySem.W.plainOver K C && ((PySem.W.findIn K (.ref C) "__setattr__" == some (some (.builtin "object.__setattr__"))) && (PySem.W.makesIn K C && (PySem.W.keepIn K (.ref C) && (fs.all fun f => PySem.W.findIn K (.ref C) f == some none)))))))))
theorem cls_mk {name qual : Str} {st : Stmt} {fs : List Str} {C f : Addr} {oc : Value} {od an : Option Addr} {osl : Array (Option Value)} {kV doc pm cdv ct : Value} (X : K.In h) (G : h.Ns mainGlobals mg) (aC : PySem.W.nsIn K mainGlobals name = some (some (.ref C)))
    (a1 : PySem.W.findIn K (.ref C) "__init__" = some (some (.ref f))) (l : K.lookup f = some ⟨oc, od, .func (PySem.W.fnOf "__init__" qual (defArgs st) (defBody st) (defScope st) .none kV doc pm an cdv ct), osl⟩) (ck : chkC K C f cdv qual fs = true)
    (hb : ∀ (kV doc pm : Value) (an : Option Addr) (cdv ct : Value) (us : List Value), us.length = (("self" : Str) :: fs).length → bindArgs (PySem.W.fnOf "__init__" qual (defArgs st) (defBody st) (defScope st) .none kV doc pm an cdv ct) ⟨us, []⟩ = pure ((("self" : Str) :: fs).zip us)) : ClsIn K mg name qual st fs := by
  unfold chkC at ck
  simp only [Bool.and_eq_true] at ck
  obtain ⟨c1, c2, c3, c4, c5, c6, c7, c8, c9, c10⟩ := ck
  have F := fun_mk (st := st) l c1 c2
  exact ⟨C, f, _, PySem.W.mg_of X G aC, ⟨c4, c5, c6, beq_iff_eq.mp c7⟩, fun g hg => beq_iff_eq.mp (List.all_eq_true.mp c10 g hg), ⟨c8, a1, c3, c9⟩, F, F.binds hb⟩
end
section
variable {P : Program} {w : World} {K : PySem.W.Frag} {mg : Str → Option Value} {C : Addr}
theorem all_mk (T : Glob K mg) (hC : mg "NoObject" = some (.ref C)) (EC : Exc K C)
    (D20 : DefIn K mg "givers" (top 20) ["parts", "binding"])
    (D21 : DefIn K mg "symbol_at" (top 21) ["parts", "pair"])
    (D22 : DefIn K mg "first_given_again" (top 22) ["parts"])
    (D23 : DefIn K mg "name_symbols" (top 23) ["parts"])
    (D24 : DefIn K mg "stand_for" (top 24) ["parts", "found"])
    (D30 : DefIn K mg "next_multiple" (top 30) ["address", "step"])
    (D31 : DefIn K mg "kept_of_kind" (top 31) ["parts", "kept", "kind"])
    (D32 : DefIn K mg "lay_out" (top 32) ["parts", "kept", "base"])
    (D33 : DefIn K mg "target_address" (top 33) ["parts", "layout", "target"])
    (D34 : DefIn K mg "relocation_address" (top 34) ["parts", "layout", "pair"])
    (D35 : DefIn K mg "fits" (top 35) ["kind", "total"])
    (D36 : DefIn K mg "put_values" (top 36) ["parts", "targets", "layout", "relocations"])
    (D37 : DefIn K mg "lowest_bytes" (top 37) ["value", "width"])
    (D38 : DefIn K mg "write_at" (top 38) ["image", "at", "content"])
    (D39 : DefIn K mg "image_bytes" (top 39) ["parts", "layout", "relocations", "values"])
    (D41 : DefIn K mg "marked_sections" (top 41) ["parts"])
    (D42 : DefIn K mg "sections_of" (top 42) ["parts", "target"])
    (D43 : DefIn K mg "leads" (top 43) ["parts", "targets"])
    (D44 : DefIn K mg "kept_sections" (top 44) ["parts", "targets", "root_symbol"])
    (D45 : DefIn K mg "kept_relocations" (top 45) ["parts", "kept"])
    (D46 : DefIn K mg "first_unbound" (top 46) ["parts", "targets", "relocations"])
    (D61 : DefIn K mg "demand" (top 61) ["holds", "rule"])
    (D62 : DefIn K mg "lowest_first" (top 62) ["row"])
    (D63 : DefIn K mg "with_sign" (top 63) ["row"])
    (D64 : DefIn K mg "rows_of" (top 64) ["data", "at", "count", "size"])
    (D65 : DefIn K mg "stored_size" (top 65) ["section"])
    (D66 : DefIn K mg "read_counts" (top 66) ["data"])
    (D67 : DefIn K mg "read_section" (top 67) ["row"])
    (D68 : DefIn K mg "read_contents" (top 68) ["data", "at", "sections"])
    (D69 : DefIn K mg "read_name" (top 69) ["names", "begin"])
    (D70 : DefIn K mg "check_place" (top 70) ["binding", "section", "value", "sections"])
    (D71 : DefIn K mg "read_symbol" (top 71) ["row", "sections", "names"])
    (D72 : DefIn K mg "read_relocation" (top 72) ["row", "sections", "symbol_count"])
    (D73 : DefIn K mg "read_object" (top 73) ["data"])
    (D88 : DefIn K mg "beyond_limits" (top 88) ["base", "room", "root", "objects"])
    (D90 : DefIn K mg "join_parts" (top 90) ["base", "room", "root_symbol", "parts", "targets"])
    (C15 : ClsIn K mg "Section" "Section.__init__" (inClass (top 15) 0) fSection)
    (C16 : ClsIn K mg "Symbol" "Symbol.__init__" (inClass (top 16) 0) fSymbol)
    (C17 : ClsIn K mg "Relocation" "Relocation.__init__" (inClass (top 17) 0) fReloc)
    (C18 : ClsIn K mg "Part" "Part.__init__" (inClass (top 18) 0) fPart)
    (C29 : ClsIn K mg "Layout" "Layout.__init__" (inClass (top 29) 0) fLayout)
    {fj : Addr} {fdj : FuncData} (F : Fun K "join" "join" (top 89) fj fdj) (base : Heap) : FnOk P w K mg base CX0 6 fj fdj ["base", "room", "root", "objects"] (sp_join K) := by
  have sat := ok_symbol_at (P := P) (w := w) (base := base) D21
  have giv := ok_givers (P := P) (w := w) (base := base) T D20
  have aga := ok_again T D22 giv sat
  have nam := ok_names T D23 giv sat
  have sta := ok_stand (P := P) (w := w) (base := base) T D24
  have lay := mk_Layout (P := P) (w := w) (base := base) C29
  have nxt := ok_next (P := P) (w := w) (base := base) D30
  have knd := ok_kind (P := P) (w := w) (base := base) T D31
  have lyo := ok_lay T D32 nxt knd lay
  have tad := ok_tadr T D33 sat
  have rad := ok_radr (P := P) (w := w) (base := base) T D34
  have fts := ok_fits (P := P) (w := w) (base := base) T D35
  have pvs := ok_vals T D36 tad rad fts
  have low := ok_low (P := P) (w := w) (base := base) T D37
  have wri := ok_write (P := P) (w := w) (base := base) T D38
  have img := ok_image T D39 wri rad low
  have mar := ok_marked (P := P) (w := w) (base := base) T D41
  have sof := ok_sections_of T D42 sat
  have lea := ok_leads T D43 sof
  have kep := ok_keep T D44 lea mar sof
  have krl := ok_keptrel (P := P) (w := w) (base := base) T D45
  have unb := ok_unb (P := P) (w := w) (base := base) T D46
  have dem := ok_demand (P := P) (w := w) (base := base) hC EC D61
  have lof := ok_lf (P := P) (w := w) (base := base) T D62
  have wsg := ok_ws D63 lof
  have rws := ok_rows (P := P) (w := w) (base := base) T D64
  have stz := ok_stz (P := P) (w := w) (base := base) T D65
  have cnt := ok_counts T D66 dem lof rws
  have rse := ok_rsec T D67 dem lof (mk_Section C15)
  have rco := ok_rcon T D68 stz
  have rna := ok_rname T D69 dem
  have pla := ok_place T D70 dem
  have rsy := ok_rsym T D71 dem lof rna pla (mk_Symbol C16)
  have rre := ok_rrel T D72 dem lof wsg (mk_Reloc C17)
  have rob := ok_robj T D73 dem cnt rws rse stz rsy rre rco (mk_Part C18)
  have lim := ok_lim (P := P) (w := w) (base := base) T D88
  have jpa := ok_parts T D90 kep krl unb lyo pvs tad img
  exact ok_join T hC EC F lim rob aga nam sta jpa
end
end Jo
set_option Elab.async false
set_option linter.all false
set_option maxRecDepth 100000
set_option maxHeartbeats 2000000
/-! THE REQUEST: what is handed in, what is due. -/
namespace Jo
open PySem PySem.Spec L2 JX
open PyProof.Rows hiding St frameOf passOn
open PySem.W (Codec WData)
theorem iv_nats : ∀ {l : List Int}, (∀ z ∈ l, 0 ≤ z) → iv (Sd07Neutral.nats l) = l.map V.int
  | [], _ => rfl
  | a :: l, h => by
    have ih := iv_nats fun z hz => h z (List.mem_cons_of_mem _ hz)
    have ha := h a (List.mem_cons_self ..)
    show V.int ((a.toNat : Nat) : Int) :: iv (Sd07Neutral.nats l) = V.int a :: l.map V.int
    rw [ih, show ((a.toNat : Nat) : Int) = a by omega]
theorem iv_ints : ∀ l : List Nat, (Sd07Neutral.ints l).map V.int = iv l
  | [] => rfl
  | a :: l => by
    show V.int ((a : Nat) : Int) :: (Sd07Neutral.ints l).map V.int = V.int ((a : Nat) : Int) :: iv l
    rw [iv_ints l]
theorem rows_dw {K : PySem.W.Frag} {H : Hp} : ∀ {os : List (List Int)} {xs : List V}, (∀ l ∈ os, ∀ z ∈ l, 0 ≤ z) → DwAll K H xs (os.map fun l => WData.list (l.map WData.int)) → Al (fun a l => SqL K H a (iv l)) xs (os.map Sd07Neutral.nats)
  | [], xs, _, h => by
    cases h
    exact Al.nil
  | l :: os, xs, hb, h => by
    cases h with
    | cons h1 h2 =>
      cases h1 with
      | lst hs ha =>
        rename_i vs a ys
        have e := ints_dw l _ ha
        subst e
        have ih := rows_dw (fun l hl => hb l (List.mem_cons_of_mem _ hl)) h2
        refine ⟨by rw [List.length_cons, List.map_cons, List.length_cons, ih.1], fun i o e => ?_⟩
        cases i with
        | zero =>
          cases e
          exact ⟨a, rfl, by show SqL K H a (iv (Sd07Neutral.nats l)); rw [iv_nats (hb l (List.mem_cons_self ..))]; exact hs⟩
        | succ i => exact ih.2 i o e
theorem spec_join {K : PySem.W.Frag} {H : Hp} {xs : List V} {b r : Int} {root : List Int} {os : List (List Int)} (h1 : 0 ≤ b) (h2 : 0 ≤ r) (h3 : ∀ z ∈ root, 0 ≤ z) (h4 : ∀ l ∈ os, ∀ z ∈ l, 0 ≤ z ∧ z ≤ 255) (hask : PySd07.join_asked b r root os = true)
    (hx : DwAll K H xs [WData.int b, WData.int r, WData.list (root.map WData.int), WData.list (os.map fun l => WData.list (l.map WData.int))]) {E : XK} :
    sp_join K xs H (fun v H' => Dw K H' v (WData.list ((PySd07.join b r root os).map WData.int))) E := by
  cases hx with
  | cons x1 hx =>
    cases x1
    cases hx with
    | cons x2 hx =>
      cases x2
      cases hx with
      | cons x3 hx =>
        cases x3 with
        | lst s3 d3 =>
          rename_i vs3 rt ys3
          cases hx with
          | cons x4 hx =>
            cases hx
            cases x4 with
            | lst s4 d4 =>
              rename_i ob ys4
              have e3 := ints_dw root _ d3
              subst e3
              have al := rows_dw (fun l hl z hz => (h4 l hl z hz).1) d4
              have ef : (ansV (Sd07.does ⟨os.map Sd07Neutral.nats, Sd07Neutral.nats root, b.toNat, r.toNat⟩)) = (PySd07.join b r root os).map V.int := by
                show _ = V.int _ :: (Sd07Neutral.ints _).map V.int
                rw [iv_ints]
                rfl
              refine ⟨rt, ob, ys4, ⟨os.map Sd07Neutral.nats, Sd07Neutral.nats root, b.toNat, r.toNat⟩, ?_, ?_, s4, al, fun l hl z hz => ?_, ?_, fun H' p hp => ?_⟩
              · show [V.int b, V.int r, V.ref rt, V.ref ob] = [V.int ((b.toNat : Nat) : Int), V.int ((r.toNat : Nat) : Int), V.ref rt, V.ref ob]
                rw [show ((b.toNat : Nat) : Int) = b by omega, show ((r.toNat : Nat) : Int) = r by omega]
              · rw [iv_nats h3]
                exact s3
              · obtain ⟨l', hl', rfl⟩ := List.mem_map.mp hl
                obtain ⟨z', hz', rfl⟩ := List.mem_map.mp hz
                have := h4 l' hl' z' hz'
                omega
              · rw [ef, List.length_map]
                unfold PySd07.join_asked Sd07Neutral.asked at hask
                rw [Bool.and_eq_true] at hask
                exact of_decide_eq_true hask.2
              · rw [ef] at hp
                exact .lst (SqL.of hp) (dw_ints _)
theorem fun_of {K : PySem.W.Frag} {h : Heap} {mg : Str → Option Value} {fa f : Addr} {oc : Value} {od an : Option Addr} {osl : Array (Option Value)} {kV doc pm cdv ct : Value} (X : K.In h) (G : h.Ns mainGlobals mg) (hfa : mg "join" = some (.ref fa)) (a : PySem.W.nsIn K mainGlobals "join" = some (some (.ref f)))
    (l : K.lookup f = some ⟨oc, od, .func (PySem.W.fnOf "join" "join" (defArgs (top 89)) (defBody (top 89)) (defScope (top 89)) .none kV doc pm an cdv ct), osl⟩) (ck : (PySem.W.codeIn K cdv "join" && PySem.W.keepIn K (.ref f)) = true) :
    ∃ fd : FuncData, (∀ (s : Shared) (us : List Value), us.length = (["base", "room", "root", "objects"] : List Str).length → BindsTo s fd ⟨us, []⟩ ((["base", "room", "root", "objects"] : List Str).zip us)) ∧ Fun K "join" "join" (top 89) fa fd := by
  have e := hfa.symm.trans (PySem.W.mg_of X G a)
  cases e
  rw [Bool.and_eq_true] at ck
  exact ⟨_, fun s us hu => match us, hu with | [_, _, _, _], _ => .of_eq rfl, fun_mk (st := top 89) l ck.1 ck.2⟩
theorem fin_mk {P : Program} {w : World} {K : PySem.W.Frag} {h : Heap} {mg : Str → Option Value} {fa f : Addr} {oc : Value} {od an : Option Addr} {osl : Array (Option Value)} {kV doc pm cdv ct : Value} (X : K.In h) (G : h.Ns mainGlobals mg) (hfa : mg "join" = some (.ref fa)) (a : PySem.W.nsIn K mainGlobals "join" = some (some (.ref f)))
    (l : K.lookup f = some ⟨oc, od, .func (PySem.W.fnOf "join" "join" (defArgs (top 89)) (defBody (top 89)) (defScope (top 89)) .none kV doc pm an cdv ct), osl⟩) (ck : (PySem.W.codeIn K cdv "join" && PySem.W.keepIn K (.ref f)) = true)
    (rest : ∀ fd, Fun K "join" "join" (top 89) fa fd → ∀ base : Heap, FnOk P w K mg base CX0 6 fa fd ["base", "room", "root", "objects"] (sp_join K)) :
    ∃ fd : FuncData, (∀ (s : Shared) (us : List Value), us.length = (["base", "room", "root", "objects"] : List Str).length → BindsTo s fd ⟨us, []⟩ ((["base", "room", "root", "objects"] : List Str).zip us)) ∧ ∀ base : Heap, K.In base → base.Ns mainGlobals mg → FnOk P w K mg base CX0 6 fa fd ["base", "room", "root", "objects"] (sp_join K) := by
  obtain ⟨fd, hb, F⟩ := fun_of X G hfa a l ck
  exact ⟨fd, hb, fun base _ _ => rest fd F base⟩
end Jo
set_option Elab.async false
/- no twin of these: their equations would be the greater part of what is compiled -/
def PySem.W.Fast.tw5605859097559293680 : Unit := ()
def PySem.W.Fast.tw1898925815151670365 : Unit := ()
def PySem.W.Fast.tw4272564193198329064 : Unit := ()
def PySem.W.Fast.tw16736897339565013823 : Unit := ()
def PySem.W.Fast.tw14891533383638669058 : Unit := ()
def PySem.W.Fast.tw17668185175373983536 : Unit := ()
def PySem.W.Fast.tw10767090839728230639 : Unit := ()
def PySem.W.Fast.tw15773082669677513415 : Unit := ()
def PySem.W.Fast.tw8033274452657135526 : Unit := ()
def PySem.W.Fast.tw15938271335980286818 : Unit := ()
def PySem.W.Fast.tw9370510032118298488 : Unit := ()
def PySem.W.Fast.tw6985936815292583720 : Unit := ()
def PySem.W.Fast.tw17677760216193936287 : Unit := ()
def PySem.W.Fast.tw12193333049289943231 : Unit := ()
def PySem.W.Fast.tw6136709283968489925 : Unit := ()
def PySem.W.Fast.tw3842132094946209780 : Unit := ()
def PySem.W.Fast.tw5608379552766440633 : Unit := ()
def PySem.W.Fast.tw17770661890388491246 : Unit := ()
def PySem.W.Fast.tw4567215211579899951 : Unit := ()
def PySem.W.Fast.tw11677618751599251445 : Unit := ()
def PySem.W.Fast.tw5773888107595948743 : Unit := ()
def PySem.W.Fast.tw3393290591856110653 : Unit := ()
open PySem PySem.W PyProof.Rows
set_option maxRecDepth 100000 in
set_option maxHeartbeats 0 in
theorem PySem.Challenge.cw_joinedobjects_s01_join_holds : PySem.Challenge.rw_joinedobjects_s01_join.Holds := by
  w_on; k_headS; (case hw => exact ⟨[.int 0, .int 0, .list [], .list []], by decide +kernel, by decide +kernel⟩)
  k_fillS
  refine L2.walk_specK (r := PySem.Challenge.rw_joinedobjects_s01_join) (k := 6) (CX := L2.CX0) (ps := ["base", "room", "root", "objects"]) (sp := Jo.sp_join) (by decide +kernel) rfl rfl ⟨rfl, by decide, by decide⟩ (fun w h Y => PySem.W.kIn_of Y) ?F ?S (fun _ _ _ _ z => z)
  case F =>
    intro w mg fa h Y KX G hmg
    refine' Jo.fin_mk KX G hmg ?aj ?lj ?cj ?rest
    (case aj => k_is); (case lj => k_is); (case cj => kernel_rfl)
    case rest =>
    intro fd F base
    refine' Jo.all_mk (Jo.glob_mk KX G ?g) (PySem.W.mg_of KX G ?n) ?x
      (Jo.def_mk KX G ?a20 ?l20 ?c20 (fun _ _ _ _ _ _ us hl => match us, hl with | [_, _], _ => rfl))
      (Jo.def_mk KX G ?a21 ?l21 ?c21 (fun _ _ _ _ _ _ us hl => match us, hl with | [_, _], _ => rfl))
      (Jo.def_mk KX G ?a22 ?l22 ?c22 (fun _ _ _ _ _ _ us hl => match us, hl with | [_], _ => rfl))
      (Jo.def_mk KX G ?a23 ?l23 ?c23 (fun _ _ _ _ _ _ us hl => match us, hl with | [_], _ => rfl))
      (Jo.def_mk KX G ?a24 ?l24 ?c24 (fun _ _ _ _ _ _ us hl => match us, hl with | [_, _], _ => rfl))
      (Jo.def_mk KX G ?a30 ?l30 ?c30 (fun _ _ _ _ _ _ us hl => match us, hl with | [_, _], _ => rfl))
      (Jo.def_mk KX G ?a31 ?l31 ?c31 (fun _ _ _ _ _ _ us hl => match us, hl with | [_, _, _], _ => rfl))
      (Jo.def_mk KX G ?a32 ?l32 ?c32 (fun _ _ _ _ _ _ us hl => match us, hl with | [_, _, _], _ => rfl))
      (Jo.def_mk KX G ?a33 ?l33 ?c33 (fun _ _ _ _ _ _ us hl => match us, hl with | [_, _, _], _ => rfl))
      (Jo.def_mk KX G ?a34 ?l34 ?c34 (fun _ _ _ _ _ _ us hl => match us, hl with | [_, _, _], _ => rfl))
      (Jo.def_mk KX G ?a35 ?l35 ?c35 (fun _ _ _ _ _ _ us hl => match us, hl with | [_, _], _ => rfl))
      (Jo.def_mk KX G ?a36 ?l36 ?c36 (fun _ _ _ _ _ _ us hl => match us, hl with | [_, _, _, _], _ => rfl))
      (Jo.def_mk KX G ?a37 ?l37 ?c37 (fun _ _ _ _ _ _ us hl => match us, hl with | [_, _], _ => rfl))
      (Jo.def_mk KX G ?a38 ?l38 ?c38 (fun _ _ _ _ _ _ us hl => match us, hl with | [_, _, _], _ => rfl))
      (Jo.def_mk KX G ?a39 ?l39 ?c39 (fun _ _ _ _ _ _ us hl => match us, hl with | [_, _, _, _], _ => rfl))
      (Jo.def_mk KX G ?a41 ?l41 ?c41 (fun _ _ _ _ _ _ us hl => match us, hl with | [_], _ => rfl))
      (Jo.def_mk KX G ?a42 ?l42 ?c42 (fun _ _ _ _ _ _ us hl => match us, hl with | [_, _], _ => rfl))
      (Jo.def_mk KX G ?a43 ?l43 ?c43 (fun _ _ _ _ _ _ us hl => match us, hl with | [_, _], _ => rfl))
      (Jo.def_mk KX G ?a44 ?l44 ?c44 (fun _ _ _ _ _ _ us hl => match us, hl with | [_, _, _], _ => rfl))
      (Jo.def_mk KX G ?a45 ?l45 ?c45 (fun _ _ _ _ _ _ us hl => match us, hl with | [_, _], _ => rfl))
      (Jo.def_mk KX G ?a46 ?l46 ?c46 (fun _ _ _ _ _ _ us hl => match us, hl with | [_, _, _], _ => rfl))
      (Jo.def_mk KX G ?a61 ?l61 ?c61 (fun _ _ _ _ _ _ us hl => match us, hl with | [_, _], _ => rfl))
      (Jo.def_mk KX G ?a62 ?l62 ?c62 (fun _ _ _ _ _ _ us hl => match us, hl with | [_], _ => rfl))
      (Jo.def_mk KX G ?a63 ?l63 ?c63 (fun _ _ _ _ _ _ us hl => match us, hl with | [_], _ => rfl))
      (Jo.def_mk KX G ?a64 ?l64 ?c64 (fun _ _ _ _ _ _ us hl => match us, hl with | [_, _, _, _], _ => rfl))
      (Jo.def_mk KX G ?a65 ?l65 ?c65 (fun _ _ _ _ _ _ us hl => match us, hl with | [_], _ => rfl))
      (Jo.def_mk KX G ?a66 ?l66 ?c66 (fun _ _ _ _ _ _ us hl => match us, hl with | [_], _ => rfl))
      (Jo.def_mk KX G ?a67 ?l67 ?c67 (fun _ _ _ _ _ _ us hl => match us, hl with | [_], _ => rfl))
      (Jo.def_mk KX G ?a68 ?l68 ?c68 (fun _ _ _ _ _ _ us hl => match us, hl with | [_, _, _], _ => rfl))
      (Jo.def_mk KX G ?a69 ?l69 ?c69 (fun _ _ _ _ _ _ us hl => match us, hl with | [_, _], _ => rfl))
      (Jo.def_mk KX G ?a70 ?l70 ?c70 (fun _ _ _ _ _ _ us hl => match us, hl with | [_, _, _, _], _ => rfl))
      (Jo.def_mk KX G ?a71 ?l71 ?c71 (fun _ _ _ _ _ _ us hl => match us, hl with | [_, _, _], _ => rfl))
      (Jo.def_mk KX G ?a72 ?l72 ?c72 (fun _ _ _ _ _ _ us hl => match us, hl with | [_, _, _], _ => rfl))
      (Jo.def_mk KX G ?a73 ?l73 ?c73 (fun _ _ _ _ _ _ us hl => match us, hl with | [_], _ => rfl))
      (Jo.def_mk KX G ?a88 ?l88 ?c88 (fun _ _ _ _ _ _ us hl => match us, hl with | [_, _, _, _], _ => rfl))
      (Jo.def_mk KX G ?a90 ?l90 ?c90 (fun _ _ _ _ _ _ us hl => match us, hl with | [_, _, _, _, _], _ => rfl))
      (Jo.cls_mk KX G ?a15 ?b15 ?l15 ?c15 (fun _ _ _ _ _ _ us hl => match us, hl with | [_, _, _, _, _], _ => rfl))
      (Jo.cls_mk KX G ?a16 ?b16 ?l16 ?c16 (fun _ _ _ _ _ _ us hl => match us, hl with | [_, _, _, _, _], _ => rfl))
      (Jo.cls_mk KX G ?a17 ?b17 ?l17 ?c17 (fun _ _ _ _ _ _ us hl => match us, hl with | [_, _, _, _, _, _], _ => rfl))
      (Jo.cls_mk KX G ?a18 ?b18 ?l18 ?c18 (fun _ _ _ _ _ _ us hl => match us, hl with | [_, _, _, _, _], _ => rfl))
      (Jo.cls_mk KX G ?a29 ?b29 ?l29 ?c29 (fun _ _ _ _ _ _ us hl => match us, hl with | [_, _, _, _, _], _ => rfl))
      F base
    (case n => k_is); (case g => kernel_rfl); (case x => (unfold JX.Exc; kernel_rfl))
    (case a20 => k_is); (case l20 => k_is); (case c20 => kernel_rfl)
    (case a21 => k_is); (case l21 => k_is); (case c21 => kernel_rfl)
    (case a22 => k_is); (case l22 => k_is); (case c22 => kernel_rfl)
    (case a23 => k_is); (case l23 => k_is); (case c23 => kernel_rfl)
    (case a24 => k_is); (case l24 => k_is); (case c24 => kernel_rfl)
    (case a30 => k_is); (case l30 => k_is); (case c30 => kernel_rfl)
    (case a31 => k_is); (case l31 => k_is); (case c31 => kernel_rfl)
    (case a32 => k_is); (case l32 => k_is); (case c32 => kernel_rfl)
    (case a33 => k_is); (case l33 => k_is); (case c33 => kernel_rfl)
    (case a34 => k_is); (case l34 => k_is); (case c34 => kernel_rfl)
    (case a35 => k_is); (case l35 => k_is); (case c35 => kernel_rfl)
    (case a36 => k_is); (case l36 => k_is); (case c36 => kernel_rfl)
    (case a37 => k_is); (case l37 => k_is); (case c37 => kernel_rfl)
    (case a38 => k_is); (case l38 => k_is); (case c38 => kernel_rfl)
    (case a39 => k_is); (case l39 => k_is); (case c39 => kernel_rfl)
    (case a41 => k_is); (case l41 => k_is); (case c41 => kernel_rfl)
    (case a42 => k_is); (case l42 => k_is); (case c42 => kernel_rfl)
    (case a43 => k_is); (case l43 => k_is); (case c43 => kernel_rfl)
    (case a44 => k_is); (case l44 => k_is); (case c44 => kernel_rfl)
    (case a45 => k_is); (case l45 => k_is); (case c45 => kernel_rfl)
    (case a46 => k_is); (case l46 => k_is); (case c46 => kernel_rfl)
    (case a61 => k_is); (case l61 => k_is); (case c61 => kernel_rfl)
    (case a62 => k_is); (case l62 => k_is); (case c62 => kernel_rfl)
    (case a63 => k_is); (case l63 => k_is); (case c63 => kernel_rfl)
    (case a64 => k_is); (case l64 => k_is); (case c64 => kernel_rfl)
    (case a65 => k_is); (case l65 => k_is); (case c65 => kernel_rfl)
    (case a66 => k_is); (case l66 => k_is); (case c66 => kernel_rfl)
    (case a67 => k_is); (case l67 => k_is); (case c67 => kernel_rfl)
    (case a68 => k_is); (case l68 => k_is); (case c68 => kernel_rfl)
    (case a69 => k_is); (case l69 => k_is); (case c69 => kernel_rfl)
    (case a70 => k_is); (case l70 => k_is); (case c70 => kernel_rfl)
    (case a71 => k_is); (case l71 => k_is); (case c71 => kernel_rfl)
    (case a72 => k_is); (case l72 => k_is); (case c72 => kernel_rfl)
    (case a73 => k_is); (case l73 => k_is); (case c73 => kernel_rfl)
    (case a88 => k_is); (case l88 => k_is); (case c88 => kernel_rfl)
    (case a90 => k_is); (case l90 => k_is); (case c90 => kernel_rfl)
    (case a15 => k_is); (case b15 => k_is); (case l15 => k_is); (case c15 => kernel_rfl)
    (case a16 => k_is); (case b16 => k_is); (case l16 => k_is); (case c16 => kernel_rfl)
    (case a17 => k_is); (case b17 => k_is); (case l17 => k_is); (case c17 => kernel_rfl)
    (case a18 => k_is); (case b18 => k_is); (case l18 => k_is); (case c18 => kernel_rfl)
    (case a29 => k_is); (case b29 => k_is); (case l29 => k_is); (case c29 => kernel_rfl)
  case S =>
    intro K H xs a hO hwi hask hx
    obtain ⟨b, r, root, os, u⟩ := a
    have q : (Codec.inInt 0 18446744073709551615 b && (Codec.inInt 0 18446744073709551615 r && ((Codec.inLen 0 8300 root && root.all (Codec.inInt 0 255)) && ((Codec.inLen 0 34 os && os.all (fun l => Codec.inLen 0 3150 l && l.all (Codec.inInt 0 255))) && true)))) = true := hwi
    simp only [Bool.and_eq_true] at q
    obtain ⟨q1, q2, ⟨_, q3⟩, ⟨_, q4⟩, _⟩ := q
    refine Jo.spec_join (Codec.inInt_iff.mp q1).1 (Codec.inInt_iff.mp q2).1 (fun z hz => (Codec.inInt_iff.mp (List.all_eq_true.mp q3 z hz)).1) (fun l hl z hz => ?_) hask hx
    have q5 := List.all_eq_true.mp q4 l hl
    rw [Bool.and_eq_true] at q5
    exact Codec.inInt_iff.mp (List.all_eq_true.mp q5.2 z hz)
#print axioms PySem.Challenge.cw_joinedobjects_s01_join_holds
