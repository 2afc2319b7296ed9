import PyProof.Rows.All
import Wide.All
import OpenK.AllK
import Wide.FinOn
import PyProof.EqAt
import PyProof.EqKinds
import PyProof.TupleCall
import KE.BitLaws
import Open.SpecLaws
import KE.OsHead
import KE.OsGo
import KE.KNestM
import KE.KLam
import KE.KSortKey
import PyProof.ListRange
import PyProof.P3Eq
import PyProof.WalkInts
import PyProof.Rows.SetFrom
import PyWideLaws
import PySem.Challenge.RW_refereeplans_s01_answers
set_option Elab.async false
set_option linter.all false
set_option maxRecDepth 100000
/-! THE HAND LAYER, for ints, bools, texts, own classes, lists, tuples, dicts, comprehensions, walks over dicts, enumerate, zip, reversed, texts, calls, loops. Paste it whole ahead of your own text; what your proof does not reach may be deleted. -/
namespace L2
open PySem PySem.Spec PyProof.Rows
/-- a key: an int or a str -/
abbrev Key := Sum Int Str
def keyIs : Key → Value → Bool
  | .inl k, v => Value.isInt k v
  | .inr x, v => Value.isStrOf x v
def keyH (w : World) : Key → Int
  | .inl k => hashInt k
  | .inr x => hashStr w x
theorem keyIs_shape : ∀ {k : Key} {v : Value}, keyIs k v = true → (∃ i t, k = Sum.inl i ∧ v = Value.int i t) ∨ (∃ x t, k = Sum.inr x ∧ v = Value.str x t)
  | .inl i, v, h => by
    obtain ⟨t, e⟩ := Value.isInt_shape (k := i) (v := v) h
    exact .inl ⟨i, t, rfl, e⟩
  | .inr x, v, h => by
    obtain ⟨t, e⟩ := Value.isStrOf_shape (x := x) (v := v) h
    exact .inr ⟨x, t, rfl, e⟩
theorem keyIs_int (i : Int) (t : Tok) : keyIs (.inl i) (.int i t) = true := by simp [keyIs, Value.isInt]
theorem keyIs_str (x : Str) (t : Tok) : keyIs (.inr x) (.str x t) = true := by simp [keyIs, Value.isStrOf]
theorem key_ll (a b : Int) : decide ((Sum.inl a : Key) = Sum.inl b) = (a == b) := by
  by_cases e : a = b
  · subst e; simp
  · have h : ¬ (Sum.inl a : Key) = Sum.inl b := fun q => e (Sum.inl.inj q)
    rw [decide_eq_false h]
    exact (beq_eq_false_iff_ne.mpr e).symm
theorem key_rr (a b : Str) : decide ((Sum.inr a : Key) = Sum.inr b) = decide (a = b) := by
  by_cases e : a = b
  · subst e; simp
  · have h : ¬ (Sum.inr a : Key) = Sum.inr b := fun q => e (Sum.inr.inj q)
    rw [decide_eq_false h, decide_eq_false e]
theorem key_lr (a : Int) (b : Str) : decide ((Sum.inl a : Key) = Sum.inr b) = false := decide_eq_false (fun q => nomatch q)
theorem key_rl (a : Str) (b : Int) : decide ((Sum.inr a : Key) = Sum.inl b) = false := decide_eq_false (fun q => nomatch q)
def mixKind (prog : Program) (w : World) : PySem.KeyKind prog w Key where
  is := keyIs
  hash := keyH w
  inj := fun v a b ha hb => by
    rcases keyIs_shape ha with ⟨i, t, rfl, rfl⟩ | ⟨x, t, rfl, rfl⟩
    · rcases keyIs_shape hb with ⟨j, u, rfl, e⟩ | ⟨y, u, rfl, e⟩
      · injection e with e1 _; rw [e1]
      · exact nomatch e
    · rcases keyIs_shape hb with ⟨j, u, rfl, e⟩ | ⟨y, u, rfl, e⟩
      · exact nomatch e
      · injection e with e1 _; rw [e1]
  byValue := fun k v h => by
    rcases keyIs_shape h with ⟨i, t, rfl, rfl⟩ | ⟨x, t, rfl, rfl⟩ <;> rfl
  pyHash := fun hv h => by
    rcases keyIs_shape hv with ⟨i, t, rfl, rfl⟩ | ⟨x, t, rfl, rfl⟩
    · exact wpAny_pyHash_int h
    · exact wpAny_pyHash_str h
  eqBool := fun hu hv h => by
    rcases keyIs_shape hu with ⟨i, t, rfl, rfl⟩ | ⟨x, t, rfl, rfl⟩
    · rcases keyIs_shape hv with ⟨j, u, rfl, rfl⟩ | ⟨y, u, rfl, rfl⟩
      · rw [key_ll] at h; exact wpAny_eqBool_int h
      · rw [key_lr] at h; exact SeqAt.EqAt.int_str i t y u _ _ _ _ h
    · rcases keyIs_shape hv with ⟨j, u, rfl, rfl⟩ | ⟨y, u, rfl, rfl⟩
      · rw [key_rl] at h; exact SeqAt.EqAt.str_int x t j u _ _ _ _ h
      · rw [key_rr] at h; exact wpAny_eqBool_str h
  «strs» := fun k x t v h => by
    rcases keyIs_shape h with ⟨i, u, rfl, e⟩ | ⟨y, u, rfl, e⟩
    · exact nomatch e
    · injection e with e1 _
      subst e1
      cases v <;> rfl
theorem mixKind_int (prog : Program) (w : World) (i : Int) (t : Tok) : (mixKind prog w).is (.inl i) (.int i t) = true := keyIs_int i t
theorem mixKind_str (prog : Program) (w : World) (x : Str) (t : Tok) : (mixKind prog w).is (.inr x) (.str x t) = true := keyIs_str x t
end L2
namespace L2
open PySem PySem.Spec PyProof.Rows
/-- a value, without the heap -/
inductive V where
  | non | bl (b : Bool) | int (i : Int) | str (x : Str) | byt (b : Array UInt8) | flt (b : UInt64) | ref (a : Addr) | ty (n : String)
  deriving DecidableEq
def RelV : V → Value → Prop
  | .non, u => u = Value.none
  | .bl b, u => u = Value.bool b
  | .int i, u => ∃ t, u = Value.int i t
  | .str x, u => ∃ t, u = Value.str x t
  | .byt b, u => ∃ t, u = Value.bytes b t
  | .flt b, u => ∃ t, u = Value.float b t
  | .ref a, u => u = Value.ref a
  | .ty n, u => u = Value.type n
abbrev Vals : List V → List Value → Prop := Paired RelV
theorem Vals.length {xs : List V} {us : List Value} (r : Vals xs us) : xs.length = us.length := Paired.length r
theorem Vals.get : ∀ {xs : List V} {us : List Value} {i : Nat} {x : V}, Vals xs us → xs[i]? = some x → ∃ u, us[i]? = some u ∧ RelV x u
  | _, _, _, _, .nil, e => by simp at e
  | _, _, 0, _, .cons r _, e => by simp at e; subst e; exact ⟨_, rfl, r⟩
  | _, _, i + 1, x, .cons _ t, e => by
    obtain ⟨u, h1, h2⟩ := Vals.get (i := i) (x := x) t (by simpa using e)
    exact ⟨u, by simpa using h1, h2⟩
theorem Vals.append : ∀ {xs ys : List V} {us ws : List Value}, Vals xs us → Vals ys ws → Vals (xs ++ ys) (us ++ ws)
  | _, _, _, _, .nil, s => s
  | _, _, _, _, .cons r t, s => .cons r (Vals.append t s)
theorem Vals.take : ∀ {xs : List V} {us : List Value} (n : Nat), Vals xs us → Vals (xs.take n) (us.take n)
  | _, _, 0, _ => .nil
  | _, _, _ + 1, .nil => .nil
  | _, _, n + 1, .cons r t => .cons r (Vals.take n t)
theorem Vals.drop : ∀ {xs : List V} {us : List Value} (n : Nat), Vals xs us → Vals (xs.drop n) (us.drop n)
  | _, _, 0, r => r
  | _, _, _ + 1, .nil => .nil
  | _, _, n + 1, .cons _ t => Vals.drop n t
def RelO : Option V → Option Value → Prop
  | some v, some u => RelV v u
  | none, none => True
  | _, _ => False
def KV {κ : Type} : List (κ × V) → List (κ × Value) → Prop := Paired fun (p : κ × V) (q : κ × Value) => p.1 = q.1 ∧ RelV p.2 q.2
/-- a key of a dict (00_mix): an int or a text -/
def kV : Key → V
  | .inl i => .int i
  | .inr x => .str x
/-- what stands at a tracked address -/
inductive HO where
  /-- a list -/
  | lst (xs : List V)
  /-- a tuple (never changes) -/
  | tup (xs : List V)
  /-- a dict whose keys are ints and texts; one whose keys are tuples of ints and texts (the empty one is both) -/
  | dK (kvs : List (Key × V)) | dT (kvs : List (List Key × V))
  /-- a set of ints: its members, its size -/
  | set (S : Int → Bool) (n : Nat)
  /-- an instance of the class at C, its dict at dx, its attributes -/
  | ins (C dx : Addr) (fs : List (Str × V))
  /-- the dict of the instance at x -/
  | own (x : Addr)
  /-- the dict of an exception -/
  | xd (fs : List (Str × V))
  /-- a bound method, f of x -/
  | met (f x : Addr)
  /-- a range object lo, lo + 1, .. below hi -/
  | rng (lo hi : Int)
  /-- a thing that is known to the object (the script; a dict while a loop walks it): read, never written while it is so -/
  | frz (o : Obj) (u : HO)
  /-- a code object's table -/
  | tbl (ps : Array Value)
  /-- any other thing, by what is true of its one object (a def of one's own: SetO a S n := HO.ext fun h => ..) -/
  | ext (φ : Heap → Prop)
abbrev Hp := Addr → Option HO
def upd (H : Hp) (a : Addr) (o : HO) : Hp := fun b => if b = a then some o else H b
theorem upd_same {H : Hp} {a : Addr} {o : HO} : upd H a o a = some o := by unfold upd; rw [if_pos rfl]
theorem upd_ne {H : Hp} {a b : Addr} {o : HO} (h : b ≠ a) : upd H a o b = H b := by unfold upd; rw [if_neg h]
theorem upd_upd {H : Hp} {a : Addr} {o u : HO} : upd (upd H a o) a u = upd H a u := by
  funext b; unfold upd; split <;> rfl
/-- two objects of different content stand apart -/
theorem ne_of {H : Hp} {a b : Addr} {o u : HO} (h : H a = some o) (h' : H b = some u) (d : o ≠ u) : a ≠ b := by
  intro e; subst e; rw [h] at h'; exact d (Option.some.inj h')
theorem ne_of_none {H : Hp} {a b : Addr} {o : HO} (h : H a = some o) (h' : H b = none) : a ≠ b := by
  intro e; subst e; rw [h] at h'; cases h'
section
variable (P : Program) (w : World)
def ObjOk (H : Hp) (h : Heap) (a : Addr) : HO → Prop
  | .lst xs => xs.length ≤ sizeLine ∧ ∃ (its : List Value) (n : Nat), Vals xs its ∧ h.get? a = some { cls := .type "list", data := .seq its.toArray n }
  | .tup xs => xs.length ≤ sizeLine ∧ ∃ its : List Value, Vals xs its ∧ IsTup h a its.toArray
  | .dK kvs => kvs.length ≤ sizeLine ∧ (a == sysModules) = false ∧ ∃ vs, KV kvs vs ∧ h.DictOf (mixKind P w) a vs
  | .dT kvs => kvs.length ≤ sizeLine ∧ (a == sysModules) = false ∧ ∃ xs : List (List Key × Addr × Value),
      Paired (fun (p : List Key × V) (q : List Key × Addr × Value) => p.1 = q.1 ∧ H q.2.1 = some (.tup (p.1.map kV)) ∧ RelV p.2 q.2.2) kvs xs ∧
      ∃ o es ep, h.get? a = some o ∧ o.ExactDict ∧ o.data = .dict es ep ∧ es.toList = xs.map (entryOfKey (tupleKind (mixKind P w))) ∧ (xs.map (·.1)).Nodup
  | .set S n => h.SetOf (intKind P w) a S n
  | .ins C dx fs => H dx = some (.own a) ∧ fs.length ≤ 1000 ∧ dx ≠ a ∧ h.get? a = some (PySem.W.instObj C dx) ∧
      ∃ mA, h.Ns1 dx mA ∧ (∀ f, RelO (fs.lookup f) (mA f)) ∧ PySem.Within mA (fs.map (·.1))
  | .own _ => ∃ o, h.get? a = some o
  | .xd fs => ∃ mA, h.Ns1 a mA ∧ ∀ f, RelO (fs.lookup f) (mA f)
  | .rng lo hi => ∃ t u v, h.get? a = some { cls := .type "range", data := .fields #[.int lo t, .int hi u, .int 1 v] }
  | .frz o u => h.get? a = some o ∧ ObjOk H h a u
  | .tbl ps => h.get? a = some { cls := .none, data := .fields ps }
  | .met f x => h.get? a = some (PySem.W.methodObj (.ref f) (.ref x))
  | .ext φ => φ h ∧ (∃ o, h.get? a = some o) ∧ ∀ h1 h2 : Heap, φ h1 → (∀ o, h1.get? a = some o → h2.get? a = some o) → φ h2
/-- the abstract heap is held -/
def HOk (H : Hp) (h : Heap) : Prop := ∀ a o, H a = some o → ObjOk P w H h a o
end
section
variable {P : Program} {w : World} {H H' : Hp} {h h' : Heap} {a : Addr} {o : HO}
theorem ObjOk.lt (x : ObjOk P w H h a o) : a < h.objs.size := by
  cases o with
  | lst xs => obtain ⟨_, _, _, _, e⟩ := x; exact Heap.lt_size e
  | tup xs => obtain ⟨_, _, _, p⟩ := x; exact p.lt
  | dK kvs => obtain ⟨_, _, _, _, o, _, _, e, _⟩ := x; exact Heap.lt_size e
  | dT kvs => obtain ⟨_, _, _, _, o, _, _, e, _⟩ := x; exact Heap.lt_size e
  | set S n => obtain ⟨o, _, _, _, e, _⟩ := x; exact Heap.lt_size e
  | ins C dx fs => obtain ⟨_, _, _, e, _⟩ := x; exact Heap.lt_size e
  | own y => obtain ⟨_, e⟩ := x; exact Heap.lt_size e
  | xd fs => obtain ⟨_, ⟨_, _, _, e, _⟩, _⟩ := x; exact Heap.lt_size e
  | rng lo hi => obtain ⟨_, _, _, e⟩ := x; exact Heap.lt_size e
  | frz ob u => obtain ⟨e, _⟩ := x; exact Heap.lt_size e
  | tbl ps => exact Heap.lt_size (show h.get? a = some _ from x)
  | met f y => exact Heap.lt_size (show h.get? a = some _ from x)
  | ext φ => obtain ⟨_, ⟨_, e⟩, _⟩ := x; exact Heap.lt_size e
theorem Paired.mapP {α β : Type} {F G : α → β → Prop} : ∀ {l₁ : List α} {l₂ : List β}, Paired F l₁ l₂ → (∀ a b, F a b → G a b) → Paired G l₁ l₂
  | _, _, .nil, _ => .nil
  | _, _, .cons r t, f => .cons (f _ _ r) (Paired.mapP t f)
/-- what an object's description leans on: its own object, its own dict, the tuples -/
theorem ObjOk.stay (x : ObjOk P w H h a o) (k : ∀ b u, (b = a ∨ H b = some (.own a)) → h.get? b = some u → h'.get? b = some u)
    (ho : ∀ b, H b = some (.own a) → H' b = some (.own a)) (ht : ∀ b xs, H b = some (.tup xs) → H' b = some (.tup xs)) : ObjOk P w H' h' a o := by
  induction o with
  | lst xs => obtain ⟨z, its, n, r, e⟩ := x; exact ⟨z, its, n, r, k _ _ (.inl rfl) e⟩
  | tup xs => obtain ⟨z, its, r, ob, e, c⟩ := x; exact ⟨z, its, r, ob, k _ _ (.inl rfl) e, c⟩
  | dK kvs => obtain ⟨z, y, vs, r, ob, es, ep, e, c⟩ := x; exact ⟨z, y, vs, r, ob, es, ep, k _ _ (.inl rfl) e, c⟩
  | dT kvs =>
    obtain ⟨z, y, xs, r, ob, es, ep, e, c⟩ := x
    exact ⟨z, y, xs, Paired.mapP r fun p q z => ⟨z.1, ht _ _ z.2.1, z.2.2⟩, ob, es, ep, k _ _ (.inl rfl) e, c⟩
  | set S n => obtain ⟨ob, es, ep, t, e, c⟩ := x; exact ⟨ob, es, ep, t, k _ _ (.inl rfl) e, c⟩
  | ins C dx fs =>
    obtain ⟨d, z, ne, e, mA, ⟨od, es, ep, e2, c⟩, r⟩ := x
    exact ⟨ho _ d, z, ne, k _ _ (.inl rfl) e, mA, ⟨od, es, ep, k _ _ (.inr d) e2, c⟩, r⟩
  | own y => obtain ⟨ob, e⟩ := x; exact ⟨ob, k _ _ (.inl rfl) e⟩
  | xd fs => obtain ⟨mA, ⟨od, es, ep, e, c⟩, r⟩ := x; exact ⟨mA, ⟨od, es, ep, k _ _ (.inl rfl) e, c⟩, r⟩
  | rng lo hi => obtain ⟨t, u, v, e⟩ := x; exact ⟨t, u, v, k _ _ (.inl rfl) e⟩
  | frz ob u ih => obtain ⟨e, q⟩ := x; exact ⟨k _ _ (.inl rfl) e, ih q⟩
  | tbl ps =>
    have e : h.get? a = some { cls := .none, data := .fields ps } := x
    show h'.get? a = some { cls := .none, data := .fields ps }
    exact k a _ (.inl rfl) e
  | met f y =>
    have e : h.get? a = some (PySem.W.methodObj (.ref f) (.ref y)) := x
    show h'.get? a = some (PySem.W.methodObj (.ref f) (.ref y))
    exact k a _ (.inl rfl) e
  | ext φ => obtain ⟨p, ⟨o, e⟩, st⟩ := x; exact ⟨st _ _ p fun o q => k _ _ (.inl rfl) q, ⟨o, k _ _ (.inl rfl) e⟩, st⟩
theorem HOk.lt (x : HOk P w H h) (e : H a = some o) : a < h.objs.size := (x a o e).lt
theorem HOk.fresh (x : HOk P w H h) (e : h.objs.size ≤ a) : H a = none := by
  cases q : H a with
  | none => rfl
  | some u => exact absurd (Nat.lt_of_lt_of_le (x.lt q) e) (Nat.lt_irrefl _)
/-- every object of the heap is kept -/
theorem HOk.kept (x : HOk P w H h) (k : ∀ b u, h.get? b = some u → h'.get? b = some u) : HOk P w H h' := fun a o e =>
  (x a o e).stay (fun b u _ q => k b u q) (fun _ q => q) fun _ _ q => q
/-- a new object is laid and tracked -/
theorem HOk.laid (x : HOk P w H h) (k : ∀ b u, h.get? b = some u → h'.get? b = some u) (hp : h.objs.size ≤ a) (new : ObjOk P w (upd H a o) h' a o) : HOk P w (upd H a o) h' := fun b u e => by
  have hn := x.fresh hp
  by_cases hb : b = a
  · subst hb; rw [upd_same] at e; cases e; exact new
  · rw [upd_ne hb] at e
    exact (x b u e).stay (fun c v _ q => k c v q) (fun c q => by rw [upd_ne (ne_of_none q hn)]; exact q) fun c xs q => by rw [upd_ne (ne_of_none q hn)]; exact q
end
/-- what may be read as u: it is u, or a known u -/
def Rd (H : Hp) (a : Addr) (u : HO) : Prop := H a = some u ∨ ∃ o, H a = some (.frz o u)
theorem Rd.ok {P : Program} {w : World} {H : Hp} {h : Heap} {a : Addr} {u : HO} (r : Rd H a u) (x : HOk P w H h) : ObjOk P w H h a u := by
  rcases r with r | ⟨o, r⟩
  · exact x a u r
  · obtain ⟨_, q⟩ := x a _ r
    exact q
/-- what may be written -/
def Mut : Option HO → Prop
  | some (.lst _) => True
  | some (.dK _) => True
  | some (.dT _) => True
  | some (.set _ _) => True
  | some (.ins _ _ _) => True
  | some (.ext _) => True
  | _ => False
section
variable {P : Program} {w : World} {H : Hp} {h h' : Heap} {x e : Addr} {o' : HO}
/-- the object at e is changed: x itself, or the dict of the instance x -/
theorem HOk.write (ok : HOk P w H h) (mu : Mut (H x)) (he : e = x ∨ H e = some (.own x)) (k : ∀ b u, b ≠ e → h.get? b = some u → h'.get? b = some u) (heo : ∃ u, h'.get? e = some u)
    (new : ObjOk P w (upd H x o') h' x o') : HOk P w (upd H x o') h' := fun b u q => by
  have nown : ∀ c y, H c = some (.own y) → c ≠ x := fun c y r z => by subst z; rw [r] at mu; exact mu
  have ntup : ∀ c xs, H c = some (.tup xs) → c ≠ x := fun c xs r z => by subst z; rw [r] at mu; exact mu
  by_cases hb : b = x
  · subst hb; rw [upd_same] at q; cases q; exact new
  · rw [upd_ne hb] at q
    by_cases hbe : b = e
    · have q' : H b = some (.own x) := by
        rcases he with z | z
        · exact absurd (hbe.trans z) hb
        · rw [hbe]; exact z
      rw [q] at q'; cases q'
      obtain ⟨v, hv⟩ := heo
      exact ⟨v, by rw [hbe]; exact hv⟩
    · refine (ok b u q).stay (fun c v hc r => k c v ?_ r) (fun c r => by rw [upd_ne (nown c b r)]; exact r) fun c xs r => by rw [upd_ne (ntup c xs r)]; exact r
      rcases hc with rfl | hc
      · exact hbe
      · rintro rfl
        rcases he with z | z
        · exact nown c b hc z
        · rw [hc] at z; cases z; exact hb rfl
end
/-! ### kept unless tracked; of the frames at fs (the callers') the slots may change (an exception that passes writes there); of the records at ex (iterators) nothing is said -/
structure Un (fs ex : List Addr) (H H' : Hp) (h h' : Heap) : Prop where
  keep : ∀ b o, h.get? b = some o → H b = none → b ∉ fs → b ∉ ex → h'.get? b = some o
  slot : ∀ b o, h.get? b = some o → H b = none → b ∈ fs → b ∉ ex → ∃ sl, h'.get? b = some { o with slots := sl }
  free : ∀ b o, h.get? b = some o → H b = none → b ∉ ex → H' b = none
  there : ∀ b o, h.get? b = some o → b ∉ ex → ∃ o', h'.get? b = some o'
  tups : ∀ b xs, H b = some (.tup xs) → H' b = some (.tup xs)
  frzs : ∀ b o u, H b = some (.frz o u) → H' b = some (.frz o u)
  tbls : ∀ b ps, H b = some (.tbl ps) → ∃ more, H' b = some (.tbl (ps ++ more))
section
variable {fs fs' ex ex' : List Addr} {H H1 H2 : Hp} {h h1 h2 h' : Heap} {a x e : Addr} {o : HO}
theorem Un.any (u : Un fs ex H H1 h h1) {b : Addr} {ob : Obj} (q : h.get? b = some ob) (n : H b = none) (hx : b ∉ ex) : ∃ sl, h1.get? b = some { ob with slots := sl } := by
  by_cases hb : b ∈ fs
  · exact u.slot b ob q n hb hx
  · exact ⟨ob.slots, u.keep b ob q n hb hx⟩
theorem Un.trans (a : Un fs ex H H1 h h1) (b : Un fs ex H1 H2 h1 h2) : Un fs ex H H2 h h2 where
  keep := fun c ob q n hc hx => b.keep c ob (a.keep c ob q n hc hx) (a.free c ob q n hx) hc hx
  slot := fun c ob q n hc hx => by
    obtain ⟨sl, e1⟩ := a.slot c ob q n hc hx
    obtain ⟨sl', e2⟩ := b.slot c _ e1 (a.free c ob q n hx) hc hx
    exact ⟨sl', e2⟩
  free := fun c ob q n hx => by
    obtain ⟨o', e1⟩ := a.there c ob q hx
    exact b.free c o' e1 (a.free c ob q n hx) hx
  there := fun c ob q hx => by
    obtain ⟨o', e1⟩ := a.there c ob q hx
    exact b.there c o' e1 hx
  tups := fun c xs q => b.tups c xs (a.tups c xs q)
  frzs := fun c ob xs q => b.frzs c ob xs (a.frzs c ob xs q)
  tbls := fun c ps q => by
    obtain ⟨m1, e1⟩ := a.tbls c ps q
    obtain ⟨m2, e2⟩ := b.tbls c _ e1
    exact ⟨m1 ++ m2, by rw [e2, Array.append_assoc]⟩
theorem Un.kept (k : ∀ b u, h.get? b = some u → h'.get? b = some u) : Un fs ex H H h h' :=
  ⟨fun b ob q _ _ _ => k b ob q, fun b ob q _ _ _ => ⟨ob.slots, k b ob q⟩, fun _ _ _ n _ => n, fun b ob q _ => ⟨ob, k b ob q⟩, fun _ _ q => q, fun _ _ _ q => q, fun _ ps q => ⟨#[], by rw [q]; simp⟩⟩
theorem Un.refl : Un fs ex H H h h := Un.kept fun _ _ q => q
theorem Un.laid (k : ∀ b u, h.get? b = some u → h'.get? b = some u) (hp : h.objs.size ≤ a) (hn : H a = none) : Un fs ex H (upd H a o) h h' where
  keep := fun b u q _ _ _ => k b u q
  slot := fun b u q _ _ _ => ⟨u.slots, k b u q⟩
  free := fun b u q n _ => by rw [upd_ne (Nat.ne_of_lt (Nat.lt_of_lt_of_le (Heap.lt_size q) hp))]; exact n
  there := fun b u q _ => ⟨u, k b u q⟩
  tups := fun b xs q => by rw [upd_ne (ne_of_none q hn)]; exact q
  frzs := fun b u xs q => by rw [upd_ne (ne_of_none q hn)]; exact q
  tbls := fun b ps q => ⟨#[], by rw [upd_ne (ne_of_none q hn), q]; simp⟩
theorem Un.write (mu : Mut (H x)) (he : e = x ∨ H e = some (.own x)) (k : ∀ b u, b ≠ e → h.get? b = some u → h'.get? b = some u) (heo : ∃ u, h'.get? e = some u) : Un fs ex H (upd H x o) h h' := by
  have hx : ∀ b, H b = none → b ≠ x := fun b n z => by subst z; rw [n] at mu; exact mu
  have hb : ∀ b, H b = none → b ≠ e := fun b n z => by
    subst z
    rcases he with r | r
    · exact hx b n r
    · rw [n] at r; cases r
  have hm : ∀ b u, H b = some u → ¬ Mut (some u) → b ≠ x := fun b u q nm z => by subst z; rw [q] at mu; exact nm mu
  refine ⟨fun b u q n _ _ => k b u (hb b n) q, fun b u q n _ _ => ⟨u.slots, k b u (hb b n) q⟩, fun b u q n _ => by rw [upd_ne (hx b n)]; exact n, fun b u q _ => ?_,
    fun b xs q => by rw [upd_ne (hm b _ q fun z => z)]; exact q, fun b u xs q => by rw [upd_ne (hm b _ q fun z => z)]; exact q, fun b ps q => ⟨#[], by rw [upd_ne (hm b _ q fun z => z), q]; simp⟩⟩
  by_cases hbe : b = e
  · subst hbe; exact heo
  · exact ⟨u, k b u hbe q⟩
end
/-! ### the heap without what is tracked -/
def trk (h : Heap) (H : Hp) : List Addr := (List.range h.objs.size).filter fun a => (H a).isSome
def hidT (h : Heap) (H : Hp) : Heap := PySem.W.hideAll h (trk h H)
theorem hidT_size (h : Heap) (H : Hp) : (hidT h H).objs.size = h.objs.size := PySem.W.hideAll_size _ _
theorem hidT_get {h : Heap} {H : Hp} {b : Addr} {o : Obj} (e : h.get? b = some o) (n : H b = none) : (hidT h H).get? b = some o :=
  PySem.W.hideAll_get _ e fun hm => by
    have q : (H b).isSome = true := (List.mem_filter.mp hm).2
    rw [n] at q; simp at q
theorem of_hidT {h : Heap} {H : Hp} {b : Addr} {o : Obj} (e : (hidT h H).get? b = some o) : h.get? b = some o ∧ H b = none := by
  have e' : h.get? b = some o := PySem.W.of_hideAll (trk h H) e
  refine ⟨e', ?_⟩
  cases q : H b with
  | none => rfl
  | some x =>
    have hm : b ∈ trk h H := List.mem_filter.mpr ⟨List.mem_range.mpr (Heap.lt_size e'), by simp [q]⟩
    have z : (hidT h H).get? b = none := PySem.W.hideAll_none (trk h H) hm
    rw [z] at e; cases e
/-! ### OpenK's ledger, filled with every new object but one -/
end L2
namespace L2
open PySem PySem.Spec PyProof.Rows
/-- the module's facts, over the base: the heap at the law's entry without what is tracked there -/
structure Mod (K : PySem.W.Frag) (mg : Str → Option Value) (base : Heap) : Prop where
  kin : K.In base
  glob : base.Ns mainGlobals mg
  blt : ∃ mb, base.Ns builtinsNs mb ∧ ∀ x : Str, x ≠ "__name__" → mb x = bootBuiltins x
  nolimit : base.NoLimit
/-- the context: a def's body (or a comprehension's block) running. base: fixed through the whole law; s₀, H₀: the entry; outer: the frames whose slots others may change (a def's callers); stack: all frames that run;
   ex: iterators that were made ahead of the entry and are walked here (a comprehension's); fn: the names whose cells were made at the entry (a def: all; a comprehension's block: its own); calm: not within an except suite; pn: pins that every state bears; xe: what is wanted of an exception that leaves the code -/
structure Cx where
  prog : Program
  w : World
  K : PySem.W.Frag
  mg : Str → Option Value
  base : Heap
  A : Around
  N : List Str
  s_0 : Shared
  H_0 : Hp
  env : Env
  outer : List Env
  stack : List Env
  ex : List Addr
  fn : Str → Bool
  calm : Bool
  pn : List (Addr × Obj)
  xe : Value → Shared → Prop
/-- the callers' frames -/
def frs (l : List Env) : List Addr := l.filterMap (·.frame)
abbrev Cx.fs (X : Cx) : List Addr := frs X.outer
def Vis (sc : Scope) (x : Str) : Prop := sc.names.lookup x = some .local ∨ sc.names.lookup x = some .cell ∨ sc.names.lookup x = some .free
def Loc (sc : Scope) (x : Str) : Prop := sc.names.lookup x = some .local ∨ sc.names.lookup x = some .cell
def Look (env : Env) (h : Heap) (m : Str → Option Value) (x : Str) (u : Value) : Prop :=
  (env.kindOf x = some .local ∧ m x = some u) ∨ ((env.kindOf x = some .cell ∨ env.kindOf x = some .free) ∧ ∃ c, env.cells.lookup x = some c ∧ h.IsCell c (some u))
structure Cx.Ok (X : Cx) : Prop where
  mod : Mod X.K X.mg X.base
  kind : X.env.scope.kind = .function
  glob : X.env.globals = mainGlobals
  blt : X.env.builtins = builtinsNs
  above : X.s_0.heap.objs.size ≤ X.env.locals
  inj : ∀ x y c, X.env.cells.lookup x = some c → X.env.cells.lookup y = some c → x = y
  has : ∀ x, (X.env.kindOf x = some .cell ∨ X.env.kindOf x = some .free) → ∃ c, X.env.cells.lookup x = some c
  cab : ∀ x c, X.fn x = true → X.env.cells.lookup x = some c → X.s_0.heap.objs.size ≤ c
  hd : X.calm = true → X.A.handled = none
  frames : X.A.frames = some X.stack
  stk : X.stack = X.outer ∨ (X.stack = X.env :: X.outer ∧ X.env.frame = some X.env.locals)
  exf : ∀ b ∈ X.ex, b ≠ X.env.locals ∧ ∀ x c, X.env.cells.lookup x = some c → c ≠ b
  bs : ∀ b o, X.base.get? b = some o → X.s_0.heap.get? b = some o ∧ X.H_0 b = none
  bsz : X.base.objs.size ≤ X.s_0.heap.objs.size
  noex : ∀ b o, X.base.get? b = some o → b ∉ X.ex
  exfs : ∀ b ∈ X.ex, b ∉ X.fs
  funs : X.s_0.heap.FunFrames X.base X.outer
  frf : ∀ b ∈ X.fs, X.H_0 b = none
structure Inv (X : Cx) (pins : List (Addr × Obj)) (σ : List (Option V)) (H : Hp) (s : Shared) : Prop where
  ok : X.Ok
  os : s.os = X.s_0.os
  bare : AllBare s.gens
  base : Un X.fs X.ex X.H_0 H X.s_0.heap s.heap
  loc : ∃ m, s.heap.Ns X.env.locals m ∧ ∀ (i : Nat) (x : Str) (v : V), X.N[i]? = some x → σ[i]? = some (some v) → Vis X.env.scope x → ∃ u, RelV v u ∧ Look X.env s.heap m x u
  cell : ∀ x c, X.env.cells.lookup x = some c → ∃ v, s.heap.IsCell c v
  free : H X.env.locals = none
  freeC : ∀ x c, X.env.cells.lookup x = some c → H c = none
  pin : ∀ p ∈ X.pn ++ pins, s.heap.get? p.1 = some p.2 ∧ H p.1 = none ∧ p.1 ≠ X.env.locals ∧ p.1 ∉ X.fs ∧ ∀ v, p.2.data ≠ .cell v
  hok : HOk X.prog X.w H s.heap
  len : σ.length = X.N.length
section
variable {X : Cx} {pins : List (Addr × Obj)} {σ : List (Option V)} {H H' : Hp} {s : Shared} {h' : Heap}
theorem Cx.Ok.nofr (ok : X.Ok) {b : Addr} {o : Obj} (e : X.base.get? b = some o) : b ∉ X.fs := fun hb => by
  have := (ok.funs.mem hb).1
  rw [e] at this; cases this
theorem Inv.bs (I : Inv X pins σ H s) : ∀ b o, X.base.get? b = some o → s.heap.get? b = some o ∧ H b = none := fun b o e =>
  ⟨I.base.keep b o (I.ok.bs b o e).1 (I.ok.bs b o e).2 (I.ok.nofr e) (I.ok.noex b o e), I.base.free b o (I.ok.bs b o e).1 (I.ok.bs b o e).2 (I.ok.noex b o e)⟩
theorem Inv.bk (I : Inv X pins σ H s) : ∀ b o, X.base.get? b = some o → s.heap.get? b = some o := fun b o e => (I.bs b o e).1
theorem Inv.mod (I : Inv X pins σ H s) : Mod X.K X.mg X.base := I.ok.mod
theorem Inv.kIn (I : Inv X pins σ H s) : X.K.In s.heap := I.ok.mod.kin.keeps I.bk
theorem Inv.lt (I : Inv X pins σ H s) : X.env.locals < s.heap.objs.size := let ⟨_, hn, _⟩ := I.loc; hn.lt
theorem Inv.sz (I : Inv X pins σ H s) : X.s_0.heap.objs.size ≤ s.heap.objs.size := Nat.le_trans I.ok.above (Nat.le_of_lt I.lt)
theorem Inv.nofs (I : Inv X pins σ H s) {a : Addr} (h : s.heap.objs.size ≤ a) : a ∉ X.fs := fun hb => by
  obtain ⟨_, o, ho, _⟩ := I.ok.funs.mem hb
  exact absurd (Nat.lt_of_lt_of_le (Heap.lt_size ho) (Nat.le_trans I.sz h)) (Nat.lt_irrefl _)
theorem Inv.cne (I : Inv X pins σ H s) : ∀ x c, X.env.cells.lookup x = some c → c ≠ X.env.locals := fun x c e z => by
  obtain ⟨v, o, ho, hd⟩ := I.cell x c e
  obtain ⟨m, ⟨o', es, ep, ho', hd', _⟩, _⟩ := I.loc
  rw [z, ho'] at ho; cases ho; rw [hd'] at hd; cases hd
theorem Inv.funs (I : Inv X pins σ H s) : s.heap.FunFrames X.base X.outer := by
  have all : ∀ (l : List Env), (∀ b ∈ frs l, b ∈ X.fs) → X.s_0.heap.FunFrames X.base l → s.heap.FunFrames X.base l := by
    intro l
    induction l with
    | nil => intro _ _; trivial
    | cons env r ih =>
      intro hs hl
      obtain ⟨hk, ⟨L, o, hf, hn, ho, hd⟩, hr⟩ := hl
      have hL : L ∈ X.fs := hs L (by unfold frs; rw [List.filterMap_cons, hf]; exact List.mem_cons_self)
      obtain ⟨sl, e⟩ := I.base.slot L o ho (I.ok.frf L hL) hL fun z => I.ok.exfs L z hL
      exact ⟨hk, ⟨L, _, hf, hn, e, hd⟩, ih (fun b hb => hs b (by unfold frs; rw [List.filterMap_cons, hf]; exact List.mem_cons_of_mem _ hb)) hr⟩
  exact all X.outer (fun _ hb => hb) I.ok.funs
/-- the frames that run, for a call -/
theorem Inv.stack (I : Inv X pins σ H s) : s.heap.FunFrames X.base X.stack := by
  rcases I.ok.stk with e | ⟨e, hf⟩
  · rw [e]; exact I.funs
  · rw [e]
    obtain ⟨m, hn, _⟩ := I.loc
    refine .cons (by rw [I.ok.kind]; decide) hf hn ?_ I.funs
    exact Heap.get?_none_of_le (Nat.le_trans I.ok.bsz I.ok.above)
theorem Inv.stkSub (I : Inv X pins σ H s) : ∀ b ∈ frs X.stack, b ∈ X.env.locals :: X.fs := fun b hb => by
  rcases I.ok.stk with e | ⟨e, hf⟩
  · rw [e] at hb; exact List.mem_cons_of_mem _ hb
  · rw [e] at hb
    unfold frs at hb
    rw [List.filterMap_cons, hf] at hb
    exact hb
theorem Inv.stkFree (I : Inv X pins σ H s) : ∀ b ∈ frs X.stack, H b = none := fun b hb => by
  rcases List.mem_cons.mp (I.stkSub b hb) with e | hb
  · rw [e]; exact I.free
  · obtain ⟨_, o, ho, _⟩ := I.ok.funs.mem hb
    exact I.base.free b o ho (I.ok.frf b hb) fun z => I.ok.exfs b z hb
/-- THE STEP: the untracked objects but the frame and the records at ch are kept (the callers' frames up to slots), the frame's map is kept, the new abstract heap is held -/
theorem Inv.step {g' : Array GenState} {t' : Nat} {d' : Drawn} {ch : List Addr} (I : Inv X pins σ H s)
    (hch : ∀ b ∈ ch, (b ∈ X.ex ∨ X.s_0.heap.objs.size ≤ b) ∧ b ≠ X.env.locals ∧ (∀ x c, X.env.cells.lookup x = some c → c ≠ b) ∧ ∀ p ∈ X.pn ++ pins, p.1 ≠ b)
    (keep : ∀ b o, b ≠ X.env.locals → b ∉ X.fs → b ∉ ch → s.heap.get? b = some o → H b = none → h'.get? b = some o)
    (slot : ∀ b o, b ≠ X.env.locals → b ∈ X.fs → b ∉ ch → s.heap.get? b = some o → H b = none → ∃ sl, h'.get? b = some { o with slots := sl }) (free : ∀ b o, b ∉ ch → s.heap.get? b = some o → H b = none → H' b = none)
    (there : ∀ b o, b ∉ ch → s.heap.get? b = some o → ∃ o', h'.get? b = some o')
    (tups : ∀ b xs, H b = some (.tup xs) → H' b = some (.tup xs)) (frzs : ∀ b o u, H b = some (.frz o u) → H' b = some (.frz o u)) (tbls : ∀ b ps, H b = some (.tbl ps) → ∃ more, H' b = some (.tbl (ps ++ more)))
    (ns : ∀ m, s.heap.Ns X.env.locals m → h'.Ns X.env.locals m) (hok : HOk X.prog X.w H' h') (hg : AllBare g') :
    Inv X pins σ H' { s with heap := h', gens := g', drawn := d', toks := t' } := by
  have neL : ∀ b o, X.s_0.heap.get? b = some o → b ≠ X.env.locals := fun b o e => Nat.ne_of_lt (Nat.lt_of_lt_of_le (Heap.lt_size e) I.ok.above)
  have neC : ∀ b o, X.s_0.heap.get? b = some o → b ∉ X.ex → b ∉ ch := fun b o e hx hb => by
    rcases (hch b hb).1 with z | z
    · exact hx z
    · exact absurd (Nat.lt_of_lt_of_le (Heap.lt_size e) z) (Nat.lt_irrefl _)
  have cellK : ∀ x c, X.env.cells.lookup x = some c → ∀ v, s.heap.IsCell c v → h'.IsCell c v := fun x c e v ⟨o, ho, hd⟩ => by
    have nch : c ∉ ch := fun z => (hch c z).2.2.1 x c e rfl
    by_cases hc : c ∈ X.fs
    · obtain ⟨sl, q⟩ := slot c o (I.cne x c e) hc nch ho (I.freeC x c e)
      exact ⟨_, q, hd⟩
    · exact ⟨o, keep c o (I.cne x c e) hc nch ho (I.freeC x c e), hd⟩
  refine ⟨I.ok, I.os, hg, ⟨fun b o e n hb hx => ?_, fun b o e n hb hx => ?_, fun b o e n hx => ?_, fun b o e hx => ?_, fun b xs e => tups b xs (I.base.tups b xs e), fun b o xs e => frzs b o xs (I.base.frzs b o xs e), fun b ps e => ?_⟩, ?_, fun x c e => ?_, ?_, fun x c e => ?_, fun p hp => ?_, hok, I.len⟩
  · exact keep b o (neL b o e) hb (neC b o e hx) (I.base.keep b o e n hb hx) (I.base.free b o e n hx)
  · obtain ⟨sl, e1⟩ := I.base.slot b o e n hb hx
    obtain ⟨sl', e2⟩ := slot b _ (neL b o e) hb (neC b o e hx) e1 (I.base.free b o e n hx)
    exact ⟨sl', e2⟩
  · obtain ⟨o', e1⟩ := I.base.there b o e hx
    exact free b o' (neC b o e hx) e1 (I.base.free b o e n hx)
  · obtain ⟨o', e1⟩ := I.base.there b o e hx
    exact there b o' (neC b o e hx) e1
  · obtain ⟨m1, e1⟩ := I.base.tbls b ps e
    obtain ⟨m2, e2⟩ := tbls b _ e1
    exact ⟨m1 ++ m2, by rw [e2, Array.append_assoc]⟩
  · obtain ⟨m, hn, hl⟩ := I.loc
    refine ⟨m, ns m hn, fun i x v e1 e2 e3 => ?_⟩
    obtain ⟨u, r, l⟩ := hl i x v e1 e2 e3
    refine ⟨u, r, ?_⟩
    rcases l with l | ⟨k, c, e, z⟩
    · exact .inl l
    · exact .inr ⟨k, c, e, cellK x c e _ z⟩
  · obtain ⟨v, z⟩ := I.cell x c e
    exact ⟨v, cellK x c e v z⟩
  · obtain ⟨m, ⟨o, _, _, ho, _⟩, _⟩ := I.loc
    exact free _ o (fun z => (hch _ z).2.1 rfl) ho I.free
  · obtain ⟨v, o, ho, hd⟩ := I.cell x c e
    exact free c o (fun z => (hch c z).2.2.1 x c e rfl) ho (I.freeC x c e)
  · obtain ⟨e, n, ne, nf, d⟩ := I.pin p hp
    have nch : p.1 ∉ ch := fun z => (hch p.1 z).2.2.2 p hp rfl
    exact ⟨keep p.1 p.2 ne nf nch e n, free p.1 p.2 nch e n, ne, nf, d⟩
/-- .. where the frame's own object is kept too -/
theorem Inv.un {t' : Nat} (I : Inv X pins σ H s) (u : Un X.fs [] H H' s.heap h') (hok : HOk X.prog X.w H' h') : Inv X pins σ H' { s with heap := h', toks := t' } := by
  obtain ⟨m, ⟨o, es, ep, ho, r⟩, _⟩ := id I.loc
  obtain ⟨sl, hL⟩ := u.any ho I.free (by simp)
  exact I.step (g' := s.gens) (d' := s.drawn) (ch := []) (fun _ z => nomatch z) (fun b o _ hb _ e n => u.keep b o e n hb (by simp)) (fun b o _ hb _ e n => u.slot b o e n hb (by simp)) (fun b o _ e n => u.free b o e n (by simp)) (fun b o _ e => u.there b o e (by simp)) u.tups u.frzs u.tbls (fun m' hm => by
    obtain ⟨o', es', ep', ho', r'⟩ := hm
    rw [ho] at ho'; cases ho'
    exact ⟨_, es', ep', hL, r'⟩) hok I.bare
/-- behind a call (or a comprehension's block): the slots of this frame may have changed too, the records at ch may have turned -/
theorem Inv.call {g' : Array GenState} {t' : Nat} {d' : Drawn} {ch : List Addr} (I : Inv X pins σ H s) (u : Un (frs X.stack) ch H H' s.heap h') (hok : HOk X.prog X.w H' h') (hg : AllBare g')
    (hch : ∀ b ∈ ch, (b ∈ X.ex ∨ X.s_0.heap.objs.size ≤ b) ∧ b ≠ X.env.locals ∧ (∀ x c, X.env.cells.lookup x = some c → c ≠ b) ∧ ∀ p ∈ X.pn ++ pins, p.1 ≠ b) :
    Inv X pins σ H' { s with heap := h', gens := g', drawn := d', toks := t' } := by
  obtain ⟨m, ⟨o, es, ep, ho, r⟩, _⟩ := id I.loc
  obtain ⟨sl, hL⟩ := u.any ho I.free fun z => (hch _ z).2.1 rfl
  exact I.step (ch := ch) hch (fun b o hL hb hc e n => u.keep b o e n (fun z => (List.mem_cons.mp (I.stkSub b z)).elim hL hb) hc) (fun b o _ _ hc e n => u.any e n hc) (fun b o hc e n => u.free b o e n hc) (fun b o hc e => u.there b o e hc) u.tups u.frzs u.tbls (fun m' hm => by
    obtain ⟨o', es', ep', ho', r'⟩ := hm
    rw [ho] at ho'; cases ho'
    exact ⟨_, es', ep', hL, r'⟩) hok hg
/-- an untracked record of ours (an iterator) has turned -/
theorem Inv.turned {t' : Nat} {it : Addr} (I : Inv X pins σ H s) (k : ∀ b o, b ≠ it → s.heap.get? b = some o → h'.get? b = some o) (hn : H it = none) (hL : it ≠ X.env.locals)
    (h1 : it ∈ X.ex ∨ X.s_0.heap.objs.size ≤ it) (h2 : ∀ x c, X.env.cells.lookup x = some c → c ≠ it) (h3 : ∀ p ∈ X.pn ++ pins, p.1 ≠ it) : Inv X pins σ H { s with heap := h', toks := t' } := by
  have nit : ∀ b u, H b = some u → b ≠ it := fun b u e z => by rw [z, hn] at e; cases e
  refine I.step (g' := s.gens) (d' := s.drawn) (ch := [it]) (fun b hb => ?_) (fun b o _ _ hc e _ => k b o (fun z => hc (by simp [z])) e) (fun b o _ _ hc e _ => ⟨o.slots, k b o (fun z => hc (by simp [z])) e⟩) (fun _ _ _ _ n => n)
    (fun b o hc e => ⟨o, k b o (fun z => hc (by simp [z])) e⟩) (fun _ _ e => e) (fun _ _ _ e => e) (fun b ps e => ⟨#[], by rw [e]; simp⟩) (fun m hm => ?_) (fun b u e => ?_) I.bare
  · have e : b = it := by simpa using hb
    subst e
    exact ⟨h1, hL, h2, h3⟩
  · obtain ⟨o, es, ep, ho, r⟩ := hm
    exact ⟨o, es, ep, k _ o (Ne.symm hL) ho, r⟩
  · refine (I.hok b u e).stay (fun c v hc q => k c v ?_ q) (fun _ q => q) fun _ _ q => q
    rcases hc with z | z
    · rw [z]; exact nit b u e
    · exact nit c _ z
theorem Inv.tok (I : Inv X pins σ H s) (t : Nat) : Inv X pins σ H { s with toks := t } := I.un (h' := s.heap) (t' := t) Un.refl I.hok
/-- all objects kept -/
theorem Inv.kept {t' : Nat} (I : Inv X pins σ H s) (k : ∀ b u, s.heap.get? b = some u → h'.get? b = some u) : Inv X pins σ H { s with heap := h', toks := t' } := I.un (Un.kept k) (I.hok.kept k)
/-- a new object laid and tracked -/
theorem Inv.laid {a : Addr} {o : HO} {t' : Nat} (I : Inv X pins σ H s) (k : ∀ b u, s.heap.get? b = some u → h'.get? b = some u) (hp : s.heap.objs.size ≤ a) (new : ObjOk X.prog X.w (upd H a o) h' a o) :
    Inv X pins σ (upd H a o) { s with heap := h', toks := t' } := I.un (Un.laid k hp (I.hok.fresh hp)) (I.hok.laid k hp new)
/-- an object written -/
theorem Inv.write {x e : Addr} {o : HO} {t' : Nat} (I : Inv X pins σ H s) (mu : Mut (H x)) (he : e = x ∨ H e = some (.own x)) (k : ∀ b u, b ≠ e → s.heap.get? b = some u → h'.get? b = some u) (heo : ∃ u, h'.get? e = some u)
    (new : ObjOk X.prog X.w (upd H x o) h' x o) : Inv X pins σ (upd H x o) { s with heap := h', toks := t' } := I.un (Un.write mu he k heo) (I.hok.write mu he k heo new)
/-- forgetting slots, pins -/
theorem Inv.weak {σ' : List (Option V)} (I : Inv X pins σ H s) (hl : σ'.length = σ.length) (w : ∀ (i : Nat) v, σ'[i]? = some (some v) → σ[i]? = some (some v)) : Inv X pins σ' H s :=
  ⟨I.ok, I.os, I.bare, I.base, let ⟨m, hn, hl'⟩ := I.loc; ⟨m, hn, fun i x v e1 e2 e3 => hl' i x v e1 (w i v e2) e3⟩, I.cell, I.free, I.freeC, I.pin, I.hok, hl.trans I.len⟩
theorem Inv.pins_of {pins' : List (Addr × Obj)} (I : Inv X pins σ H s) (h : ∀ p ∈ pins', s.heap.get? p.1 = some p.2 ∧ H p.1 = none ∧ p.1 ≠ X.env.locals ∧ p.1 ∉ X.fs ∧ ∀ v, p.2.data ≠ .cell v) : Inv X pins' σ H s :=
  ⟨I.ok, I.os, I.bare, I.base, I.loc, I.cell, I.free, I.freeC, fun p hp => (List.mem_append.mp hp).elim (fun z => I.pin p (List.mem_append_left _ z)) (h p), I.hok, I.len⟩
theorem nodup_ix {N : List Str} (hN : N.Nodup) {i j : Nat} {x : Str} (a : N[i]? = some x) (b : N[j]? = some x) : i = j := by
  obtain ⟨h1, e1⟩ := List.getElem?_eq_some_iff.mp a
  obtain ⟨h2, e2⟩ := List.getElem?_eq_some_iff.mp b
  exact (List.getElem_inj hN).mp (e1.trans e2.symm)
/-- a name is stored; what changed -/
theorem store_ok2 {M : Model} {A : Around} {E : Value → Shared → Prop} {i : Nat} {x : Str} {v : V} {u : Value} {Q : Unit → Shared → Prop} (I : Inv X pins σ H s) (hN : X.N.Nodup) (hi : X.N[i]? = some x) (hx : Loc X.env.scope x) (r : RelV v u)
    (h : ∀ s', Inv X pins (σ.set i (some v)) H s' → (∃ a, Heap.SameBut a s.heap s'.heap ∧ (a = X.env.locals ∨ X.env.cells.lookup x = some a)) → Q () s') (hf : X.fn x = true ∨ X.env.scope.names.lookup x = some .local := by first | exact .inl rfl | exact .inr rfl | assumption) : wpAny M A (storeName X.env x u) Q E s := by
  obtain ⟨m, hn, hl⟩ := id I.loc
  have hcls : (X.env.scope.kind == .class || (X.env.scope.kind == .module && X.env.locals != X.env.globals)) = false := by rw [I.ok.kind]; rfl
  have hiσ : i < σ.length := by rw [I.len]; exact (List.getElem?_eq_some_iff.mp hi).1
  have cne := I.cne
  have tracked : ∀ {a : Addr} {h' : Heap}, (∃ o, s.heap.get? a = some o ∧ H a = none) → Heap.SameBut a s.heap h' → HOk X.prog X.w H h' := fun {a h'} ha hs b ob e => by
    obtain ⟨_, _, hfree⟩ := ha
    refine (I.hok b ob e).stay (fun c w' hc q => (hs.2 c ?_).trans q) (fun _ q => q) fun _ _ q => q
    rintro rfl
    rcases hc with rfl | hc
    · rw [hfree] at e; cases e
    · rw [hfree] at hc; cases hc
  rcases hx with hk | hk
  · refine wpAny_storeName_local hk hn (fun h' hn' hs => ?_) hcls
    obtain ⟨oL, _, _, hoL, _⟩ := id hn
    refine h _ ⟨I.ok, I.os, I.bare, ⟨fun b o e n hb hx => ?_, fun b o e n hb hx => ?_, I.base.free, fun b o e hx => ?_, I.base.tups, I.base.frzs, I.base.tbls⟩, ⟨_, hn', fun j y v' e1 e2 e3 => ?_⟩, fun y c e => ?_, I.free, I.freeC, fun p hp => ?_, tracked ⟨oL, hoL, I.free⟩ hs, by simpa using I.len⟩ ⟨_, hs, .inl rfl⟩
    · exact (hs.2 b (Nat.ne_of_lt (Nat.lt_of_lt_of_le (Heap.lt_size e) I.ok.above))).trans (I.base.keep b o e n hb hx)
    · obtain ⟨sl, e1⟩ := I.base.slot b o e n hb hx
      exact ⟨sl, (hs.2 b (Nat.ne_of_lt (Nat.lt_of_lt_of_le (Heap.lt_size e) I.ok.above))).trans e1⟩
    · obtain ⟨o', e1⟩ := I.base.there b o e hx
      exact ⟨o', (hs.2 b (Nat.ne_of_lt (Nat.lt_of_lt_of_le (Heap.lt_size e) I.ok.above))).trans e1⟩
    · by_cases hj : j = i
      · subst hj
        rw [hi] at e1; cases e1
        rw [List.getElem?_set_self hiσ] at e2
        cases e2
        exact ⟨u, r, .inl ⟨hk, by simp⟩⟩
      · rw [List.getElem?_set_ne (Ne.symm hj)] at e2
        obtain ⟨u', r', q⟩ := hl j y v' e1 e2 e3
        refine ⟨u', r', ?_⟩
        rcases q with ⟨k, e⟩ | ⟨k, c, e, z⟩
        · refine .inl ⟨k, ?_⟩
          have : y ≠ x := fun e => hj (nodup_ix hN e1 (e ▸ hi))
          simp [this, e]
        · exact .inr ⟨k, c, e, z.sameBut hs (cne y c e)⟩
    · obtain ⟨w', z⟩ := I.cell y c e
      exact ⟨w', z.sameBut hs (cne y c e)⟩
    · obtain ⟨e, n, ne, nf, d⟩ := I.pin p hp
      exact ⟨(hs.2 p.1 ne).trans e, n, ne, nf, d⟩
  · have hfn : X.fn x = true := by
      rcases hf with z | z
      · exact z
      · rw [z] at hk; cases hk
    obtain ⟨c, hc⟩ := I.ok.has x (.inl hk)
    obtain ⟨w', z⟩ := I.cell x c hc
    refine wpAny_storeName_cell I.ok.kind hk hc z (fun h' hc' hs => ?_)
    obtain ⟨oc, hoc, hocd⟩ := id z
    refine h { s with heap := h' } ⟨I.ok, I.os, I.bare, ⟨fun b o e n hb hx => ?_, fun b o e n hb hx => ?_, I.base.free, fun b o e hx => ?_, I.base.tups, I.base.frzs, I.base.tbls⟩, ⟨m, hn.sameBut hs (Ne.symm (cne x c hc)), fun j y v' e1 e2 e3 => ?_⟩, fun y c' e => ?_, I.free, I.freeC, fun p hp => ?_, tracked ⟨oc, hoc, I.freeC x c hc⟩ hs, by simpa using I.len⟩ ⟨c, hs, .inr hc⟩
    · exact (hs.2 b (Nat.ne_of_lt (Nat.lt_of_lt_of_le (Heap.lt_size e) (I.ok.cab x c hfn hc)))).trans (I.base.keep b o e n hb hx)
    · obtain ⟨sl, e1⟩ := I.base.slot b o e n hb hx
      exact ⟨sl, (hs.2 b (Nat.ne_of_lt (Nat.lt_of_lt_of_le (Heap.lt_size e) (I.ok.cab x c hfn hc)))).trans e1⟩
    · obtain ⟨o', e1⟩ := I.base.there b o e hx
      exact ⟨o', (hs.2 b (Nat.ne_of_lt (Nat.lt_of_lt_of_le (Heap.lt_size e) (I.ok.cab x c hfn hc)))).trans e1⟩
    · by_cases hj : j = i
      · subst hj
        rw [hi] at e1; cases e1
        rw [List.getElem?_set_self hiσ] at e2
        cases e2
        exact ⟨u, r, .inr ⟨.inl hk, c, hc, hc'⟩⟩
      · rw [List.getElem?_set_ne (Ne.symm hj)] at e2
        obtain ⟨u', r', q⟩ := hl j y v' e1 e2 e3
        refine ⟨u', r', ?_⟩
        rcases q with q | ⟨k, c', e, z'⟩
        · exact .inl q
        · refine .inr ⟨k, c', e, z'.sameBut hs ?_⟩
          rintro rfl
          exact hj (nodup_ix hN e1 (I.ok.inj _ _ _ e hc ▸ hi))
    · by_cases hcc : c' = c
      · subst hcc; exact ⟨_, hc'⟩
      · obtain ⟨w2, z2⟩ := I.cell y c' e
        exact ⟨w2, z2.sameBut hs hcc⟩
    · obtain ⟨e, n, ne, nf, d⟩ := I.pin p hp
      refine ⟨(hs.2 p.1 ?_).trans e, n, ne, nf, d⟩
      intro q
      rw [q, hoc] at e
      have q' : oc = p.2 := Option.some.inj e
      exact d w' (by rw [← q']; exact hocd)
theorem store_ok {M : Model} {A : Around} {E : Value → Shared → Prop} {i : Nat} {x : Str} {v : V} {u : Value} {Q : Unit → Shared → Prop} (I : Inv X pins σ H s) (hN : X.N.Nodup) (hi : X.N[i]? = some x) (hx : Loc X.env.scope x) (r : RelV v u)
    (h : ∀ s', Inv X pins (σ.set i (some v)) H s' → Q () s') (hf : X.fn x = true ∨ X.env.scope.names.lookup x = some .local := by first | exact .inl rfl | exact .inr rfl | assumption) : wpAny M A (storeName X.env x u) Q E s :=
  store_ok2 I hN hi hx r (fun s' I' _ => h s' I') hf
/-- behind a call or a block, the state as it is -/
theorem Inv.call' {s' : Shared} {ch : List Addr} (I : Inv X pins σ H s) (ho : s'.os = s.os) (u : Un (frs X.stack) ch H H' s.heap s'.heap) (hok : HOk X.prog X.w H' s'.heap) (hg : AllBare s'.gens)
    (hch : ∀ b ∈ ch, (b ∈ X.ex ∨ X.s_0.heap.objs.size ≤ b) ∧ b ≠ X.env.locals ∧ (∀ x c, X.env.cells.lookup x = some c → c ≠ b) ∧ ∀ p ∈ X.pn ++ pins, p.1 ≠ b) : Inv X pins σ H' s' := by
  obtain ⟨h', g', d', t', o'⟩ := s'
  have e : o' = s.os := ho
  subst e
  exact I.call (g' := g') (t' := t') (d' := d') u hok hg hch
end
/-! ### the judgements -/
/-- an exception: its class, its own dict's address (where it has one), the abstract heap behind it -/
abbrev XK := Value → Option Addr → Hp → Prop
abbrev St := List (Option V)
abbrev VK := V → Hp → Prop
/-- an expression's reading; a test's; an argument list's -/
abbrev TE := St → Hp → VK → Prop
abbrev TT := St → Hp → (Bool → Hp → Prop) → Prop
abbrev TA := St → Hp → (List V → Hp → Prop) → Prop
/-- what is wanted behind a statement -/
structure Ends where
  nx : St → Hp → Prop
  rt : VK
  bk : St → Hp → Prop := fun _ _ => False
  ct : St → Hp → Prop := fun _ _ => False
abbrev TS := Ends → St → Hp → Prop
def EP (X : Cx) (pins : List (Addr × Obj)) (σ : St) (Q : VK) (u : Value) (s' : Shared) : Prop := ∃ v H', Inv X pins σ H' s' ∧ RelV v u ∧ Q v H'
def TP (X : Cx) (pins : List (Addr × Obj)) (σ : St) (Q : Bool → Hp → Prop) (b : Bool) (s' : Shared) : Prop := ∃ H', Inv X pins σ H' s' ∧ Q b H'
def AP (X : Cx) (pins : List (Addr × Obj)) (σ : St) (Q : List V → Hp → Prop) (us : List Value) (s' : Shared) : Prop := ∃ vs H', Inv X pins σ H' s' ∧ Vals vs us ∧ Q vs H'
def SP (X : Cx) (pins : List (Addr × Obj)) (D : Ends) (f : Flow) (s' : Shared) : Prop :=
  match f with
  | .next => ∃ σ' H', Inv X pins σ' H' s' ∧ D.nx σ' H'
  | .brk => ∃ σ' H', Inv X pins σ' H' s' ∧ D.bk σ' H'
  | .cont => ∃ σ' H', Inv X pins σ' H' s' ∧ D.ct σ' H'
  | .ret u => ∃ v σ' H', Inv X pins σ' H' s' ∧ RelV v u ∧ D.rt v H'
def PE (X : Cx) (e : Expr) (t : TE) : Prop :=
  ∀ (pins : List (Addr × Obj)) (s : Shared) (σ : St) (H : Hp) (Q : VK), Inv X pins σ H s → t σ H Q → wpAny (model X.prog X.w) X.A (eval e X.env) (EP X pins σ Q) X.xe s
def PT (X : Cx) (e : Expr) (t : TT) : Prop :=
  ∀ (pins : List (Addr × Obj)) (s : Shared) (σ : St) (H : Hp) (Q : Bool → Hp → Prop), Inv X pins σ H s → t σ H Q → wpAny (model X.prog X.w) X.A (isTrue e X.env (eval e X.env)) (TP X pins σ Q) X.xe s
/-- a test whatever its 'whole' is (and, or) -/
def PW (X : Cx) (e : Expr) (t : TT) : Prop :=
  ∀ (whole : Sem Value) (pins : List (Addr × Obj)) (s : Shared) (σ : St) (H : Hp) (Q : Bool → Hp → Prop), Inv X pins σ H s → t σ H Q → wpAny (model X.prog X.w) X.A (isTrue e X.env whole) (TP X pins σ Q) X.xe s
theorem PW.pt {X : Cx} {e : Expr} {t : TT} (h : PW X e t) : PT X e t := h _
/-- an argument list (no star), from the left -/
def PA (X : Cx) (es : List Expr) (t : TA) : Prop :=
  ∀ (pos : Pos) (pins : List (Addr × Obj)) (s : Shared) (σ : St) (H : Hp) (Q : List V → Hp → Prop), Inv X pins σ H s → t σ H Q → wpAny (model X.prog X.w) X.A (spliced (backTo pos (starEach es X.env))) (AP X pins σ Q) X.xe s
def PS (X : Cx) (st : Stmt) (t : TS) : Prop :=
  ∀ (pins : List (Addr × Obj)) (s : Shared) (σ : St) (H : Hp) (D : Ends), Inv X pins σ H s → t D σ H → wpAny (model X.prog X.w) X.A (exec st X.env) (SP X pins D) X.xe s
def PSs (X : Cx) (st : List Stmt) (t : TS) : Prop :=
  ∀ (pins : List (Addr × Obj)) (s : Shared) (σ : St) (H : Hp) (D : Ends), Inv X pins σ H s → t D σ H → wpAny (model X.prog X.w) X.A (execs st X.env) (SP X pins D) X.xe s
/-- weaken the end -/
theorem thn {α : Type} {t : Sem α} {Q Q' : α → Shared → Prop} {M : Model} {A : Around} {E : Value → Shared → Prop} {s : Shared} (h : wpAny M A t Q E s) (hQ : ∀ a s, Q a s → Q' a s) : wpAny M A t Q' E s := wpAny_mono h hQ fun _ _ x => x
end L2
namespace L2
open PySem PySem.Spec PyProof.Rows
section
variable {X : Cx}
/-! ### names and constants -/
def tVar (i : Nat) : TE := fun σ H Q => ∃ v, σ[i]? = some (some v) ∧ Q v H
def tC (v : V) : TE := fun _ H Q => Q v H
theorem pe_var {i : Nat} {x : Str} {pos : Pos} (hN : X.N[i]? = some x) (hv : Vis X.env.scope x) (hd : (x == ("__debug__" : Str)) = false := by decide) (hcd : (x == ("__classdict__" : Str)) = false := by decide) : PE X (.Name x pos) (tVar i) := by
  intro pins s σ H Q I h
  obtain ⟨v, e, h⟩ := h
  obtain ⟨m, hn, hl⟩ := I.loc
  obtain ⟨u, r, l⟩ := hl i x v hN e hv
  have fin : EP X pins σ Q u s := ⟨v, H, I, r, h⟩
  rcases l with ⟨hk, hm⟩ | ⟨hk, c, hc, hcell⟩
  · exact wpAny_Name (wpAny_loadName_local I.ok.kind hk hn hm fin) hd
  · rcases hk with hk | hk
    · exact wpAny_Name (wpAny_loadName_cell I.ok.kind hk hc hcell fin) hd
    · exact wpAny_Name (wpAny_loadName_free I.ok.kind hk hc hcell fin hcd) hd
theorem pe_int {i j pos} : PE X (.Constant (.int i) j pos) (tC (.int i)) := fun _ _ _ H _ I h => wpAny_Constant_int ⟨.int i, H, I.tok _, ⟨_, rfl⟩, h⟩
theorem pe_bl {b j pos} : PE X (.Constant (.bool b) j pos) (tC (.bl b)) := fun _ _ _ H _ I h => Constant_bool ⟨.bl b, H, I, rfl, h⟩
/-- a global name of the def -/
def Gl (X : Cx) (x : Str) : Prop := X.env.kindOf x = some .globalImplicit
theorem ld_glob {E : Value → Shared → Prop} {pins : List (Addr × Obj)} {s : Shared} {σ : St} {H : Hp} {x : Str} {u : Value} {pos : Pos} {Q : Value → Shared → Prop} (I : Inv X pins σ H s) (hg : Gl X x) (hm : X.mg x = some u) (h : Q u s)
    (hd : (x == ("__debug__" : Str)) = false := by decide) : wpAny (model X.prog X.w) X.A (eval (.Name x pos) X.env) Q E s :=
  Calls.Name_function_global I.ok.kind hg (Calls.loadGlobal_global (by rw [I.ok.glob]; exact I.mod.glob.keeps I.bk) hm h) hd
theorem ld_blt {E : Value → Shared → Prop} {pins : List (Addr × Obj)} {s : Shared} {σ : St} {H : Hp} {x : Str} {u : Value} {pos : Pos} {Q : Value → Shared → Prop} (I : Inv X pins σ H s) (hg : Gl X x) (hm : X.mg x = none) (hv : bootBuiltins x = some u) (h : Q u s)
    (hn : x ≠ "__name__" := by decide) (hd : (x == ("__debug__" : Str)) = false := by decide) : wpAny (model X.prog X.w) X.A (eval (.Name x pos) X.env) Q E s := by
  obtain ⟨mb, h1, h2⟩ := I.mod.blt
  exact Calls.Name_function_global I.ok.kind hg (Calls.loadGlobal_builtin (by rw [I.ok.glob]; exact I.mod.glob.keeps I.bk) hm (by rw [I.ok.blt]; exact h1.keeps I.bk) ((h2 x hn).trans hv) h) hd
/-- a module's constant, a class, a function, as a value -/
theorem pe_glob {x : Str} {v : V} {u : Value} {pos : Pos} (hg : Gl X x) (hm : X.mg x = some u) (r : RelV v u) (hd : (x == ("__debug__" : Str)) = false := by decide) : PE X (.Name x pos) (tC v) :=
  fun _ _ _ H _ I h => ld_glob I hg hm ⟨v, H, I, r, h⟩ hd
/-! ### arithmetic -/
variable {a b : Expr} {ta tb : TE} {pos : Pos}
/-! ### comparisons -/
def PC (X : Cx) (op : CmpOp) (a b : Expr) (t : TE) : Prop :=
  ∀ (pins : List (Addr × Obj)) (s : Shared) (σ : St) (H : Hp) (Q : VK), Inv X pins σ H s → t σ H Q →
    wpAny (model X.prog X.w) X.A (eval a X.env) (fun v s₁ => wpAny (model X.prog X.w) X.A (eval b X.env) (fun u s₂ => wpAny (model X.prog X.w) X.A (compareOp op v u) (EP X pins σ Q) X.xe s₂) X.xe s₁) X.xe s
/-- a comparison as a value, as a test -/
def tB (t : TE) : TT := fun σ H Q => t σ H fun x H1 => ∃ c, x = .bl c ∧ Q c H1
theorem pe_cmp {op : CmpOp} {t : TE} (h : PC X op a b t) (h1 : behindInMarks op b = false := by first | exact nobehind _ (by decide) (by decide) | rfl) : PE X (.Compare a [op] [b] pos) t := fun pins s σ H Q I hw => wpAny_Compare1 (h pins s σ H Q I hw) h1
theorem pt_cmp {op : CmpOp} {t : TE} (h : PC X op a b t) (h1 : behindInMarks op b = false := by first | exact nobehind _ (by decide) (by decide) | rfl) : PT X (.Compare a [op] [b] pos) (tB t) := by
  intro pins s σ H Q I hw
  refine wpAny_isTrue_Compare1 (thn (h pins s σ H _ I hw) fun v s1 h1 => thn h1 fun u s2 h2 => thn h2 fun c s3 ⟨x, H1, I1, r1, q1⟩ => ?_) h1
  obtain ⟨d, rfl, q⟩ := q1
  cases r1
  exact wpAny_truthy_bool ⟨H1, I1, q⟩
/-- an expression whose value is a bool, as a test -/
theorem pt_val {e : Expr} {t : TE} (h : PE X e t) (he : ∀ whole, isTrue e X.env whole = (do let v ← whole; standAt e.pos; holding [v] (truthy v)) := by intro _; rfl) : PT X e (tB t) := by
  intro pins s σ H Q I hw
  refine isTrue_plain (thn (h pins s σ H _ I hw) fun v s1 ⟨x, H1, I1, r1, q1⟩ => ?_) (he _)
  obtain ⟨d, rfl, q⟩ := q1
  cases r1
  exact wpAny_truthy_bool ⟨H1, I1, q⟩
/-! ### and, or, not -/
variable {tA tB' : TT} {rest : List Expr}
def tAnd (t u : TT) : TT := fun σ H Q => t σ H fun c H1 => if c = true then u σ H1 Q else Q false H1
def tOr (t u : TT) : TT := fun σ H Q => t σ H fun c H1 => if c = true then Q true H1 else u σ H1 Q
def tNot (t : TT) : TT := fun σ H Q => t σ H fun c H1 => Q (!c) H1
theorem pw_and1 (ha : PT X a tA) : PW X (.BoolOp .And [a] pos) tA := by
  intro wh pins s σ H Q I h
  refine isTrue_and (thn (ha pins s σ H Q I h) fun c s1 e => ?_)
  cases c with
  | true => exact isTrue_and_nil e
  | false => exact e
theorem pw_or1 (ha : PT X a tA) : PW X (.BoolOp .Or [a] pos) tA := by
  intro wh pins s σ H Q I h
  refine isTrue_or (thn (ha pins s σ H Q I h) fun c s1 e => ?_)
  cases c with
  | false => exact isTrue_or_nil e
  | true => exact e
theorem pw_and (ha : PT X a tA) (hb : PW X (.BoolOp .And (b :: rest) pos) tB') : PW X (.BoolOp .And (a :: b :: rest) pos) (tAnd tA tB') := by
  intro wh pins s σ H Q I h
  refine isTrue_and (thn (ha pins s σ H _ I h) fun c s1 ⟨H1, I1, q1⟩ => ?_)
  cases c with
  | true => exact hb wh pins s1 σ H1 Q I1 q1
  | false => exact ⟨H1, I1, q1⟩
theorem pw_or (ha : PT X a tA) (hb : PW X (.BoolOp .Or (b :: rest) pos) tB') : PW X (.BoolOp .Or (a :: b :: rest) pos) (tOr tA tB') := by
  intro wh pins s σ H Q I h
  refine isTrue_or (thn (ha pins s σ H _ I h) fun c s1 ⟨H1, I1, q1⟩ => ?_)
  cases c with
  | true => exact ⟨H1, I1, q1⟩
  | false => exact hb wh pins s1 σ H1 Q I1 q1
theorem pt_not (ha : PT X a tA) : PT X (.UnaryOp .Not a pos) (tNot tA) := by
  intro pins s σ H Q I h
  exact isTrue_not (ha pins s σ H (fun c H1 => Q (!c) H1) I h)
/-- .. as values (bools) -/
def tAndV (ta tb : TE) : TE := fun σ H Q => ta σ H fun x H1 => ∃ c, x = .bl c ∧ if c = true then tb σ H1 Q else Q (.bl false) H1
def tOrV (ta tb : TE) : TE := fun σ H Q => ta σ H fun x H1 => ∃ c, x = .bl c ∧ if c = true then Q (.bl true) H1 else tb σ H1 Q
def tNotV (ta : TE) : TE := fun σ H Q => ta σ H fun x H1 => ∃ c, x = .bl c ∧ Q (.bl (!c)) H1
theorem pe_one {op} {t : TE} (h : PE X a t) : PE X (.BoolOp op [a] pos) t := fun pins s σ H Q I hw => BoolOp_one (h pins s σ H Q I hw)
theorem pe_and (ha : PE X a ta) (hb : PE X (.BoolOp .And (b :: rest) pos) tb) : PE X (.BoolOp .And (a :: b :: rest) pos) (tAndV ta tb) := by
  intro pins s σ H Q I h
  refine BoolOp_and (thn (ha pins s σ H _ I h) fun v s1 ⟨x, H1, I1, r1, q1⟩ => ?_)
  obtain ⟨c, rfl, q1⟩ := q1
  cases r1
  refine wpAny_truthy_bool ?_
  cases c with
  | true => exact hb pins s1 σ H1 Q I1 q1
  | false => exact ⟨.bl false, H1, I1, rfl, q1⟩
theorem pe_or (ha : PE X a ta) (hb : PE X (.BoolOp .Or (b :: rest) pos) tb) : PE X (.BoolOp .Or (a :: b :: rest) pos) (tOrV ta tb) := by
  intro pins s σ H Q I h
  refine BoolOp_or (thn (ha pins s σ H _ I h) fun v s1 ⟨x, H1, I1, r1, q1⟩ => ?_)
  obtain ⟨c, rfl, q1⟩ := q1
  cases r1
  refine wpAny_truthy_bool ?_
  cases c with
  | false => exact hb pins s1 σ H1 Q I1 q1
  | true => exact ⟨.bl true, H1, I1, rfl, q1⟩
theorem pe_not (ha : PE X a ta) : PE X (.UnaryOp .Not a pos) (tNotV ta) := by
  intro pins s σ H Q I h
  refine UnaryOp_ (thn (ha pins s σ H _ I h) fun v s1 ⟨x, H1, I1, r1, q1⟩ => ?_)
  obtain ⟨c, rfl, q1⟩ := q1
  cases r1
  exact not_of (wpAny_truthy_bool ⟨.bl (!c), H1, I1, rfl, q1⟩)
end
end L2
namespace L2
open PySem PySem.Spec PyProof.Rows
/-! ### a list, a tuple that is read: tracked, frozen, or an object of the module -/
def SqL (K : PySem.W.Frag) (H : Hp) (a : Addr) (xs : List V) : Prop :=
  Rd H a (.lst xs) ∨
    ∃ (o : Obj) (its : Array Value) (n : Nat), K.lookup a = some o ∧ o.cls = .type "list" ∧ o.dict = none ∧ o.data = .seq its n ∧ its.size ≤ sizeLine ∧ Vals xs its.toList
def SqT (K : PySem.W.Frag) (H : Hp) (a : Addr) (xs : List V) : Prop :=
  Rd H a (.tup xs) ∨
    ∃ (o : Obj) (its : Array Value) (n : Nat), K.lookup a = some o ∧ o.cls = .type "tuple" ∧ o.data = .seq its n ∧ its.size ≤ sizeLine ∧ Vals xs its.toList
def absV : Value → Option V
  | .none => some .non
  | .bool b => some (.bl b)
  | .int i _ => some (.int i)
  | .str x _ => some (.str x)
  | .bytes b _ => some (.byt b)
  | .float b _ => some (.flt b)
  | .ref a => some (.ref a)
  | .type n => some (.ty n)
  | _ => none
theorem RelV.abs {x : V} {u : Value} (r : RelV x u) : absV u = some x := by
  cases x with
  | non => cases r; rfl
  | bl _ => cases r; rfl
  | int _ => obtain ⟨t, rfl⟩ := r; rfl
  | str _ => obtain ⟨t, rfl⟩ := r; rfl
  | byt _ => obtain ⟨t, rfl⟩ := r; rfl
  | flt _ => obtain ⟨t, rfl⟩ := r; rfl
  | ref _ => cases r; rfl
  | ty _ => cases r; rfl
theorem RelV.inj {x y : V} {u : Value} (r : RelV x u) (q : RelV y u) : x = y := Option.some.inj (r.abs.symm.trans q.abs)
theorem Vals.inj : ∀ {xs ys : List V} {us : List Value}, Vals xs us → Vals ys us → xs = ys
  | _, _, _, .nil, .nil => rfl
  | _, _, _, .cons r t, .cons r' t' => by rw [r.inj r', Vals.inj t t']
section
variable {X : Cx} {pins : List (Addr × Obj)} {σ : St} {H : Hp} {s : Shared} {a : Addr} {xs ys : List V}
theorem SqL.of {K : PySem.W.Frag} (h : H a = some (.lst xs)) : SqL K H a xs := .inl (.inl h)
theorem Inv.list (I : Inv X pins σ H s) (h : SqL X.K H a xs) : ∃ its : List Value, Vals xs its ∧ PlainL s.heap a its.toArray ∧ xs.length ≤ sizeLine := by
  rcases h with h | ⟨o, its, n, hk, hc, hd, hs, hz, r⟩
  · obtain ⟨z, its, n, r, e⟩ := h.ok I.hok
    exact ⟨its, r, ⟨_, n, e, rfl, rfl, rfl⟩, z⟩
  · refine ⟨its.toList, r, ⟨o, n, I.kIn a o hk, hc, hd, by simpa using hs⟩, ?_⟩
    have e := r.length
    simp only [Array.length_toList] at e
    omega
theorem Inv.tuple (I : Inv X pins σ H s) (h : SqT X.K H a xs) : ∃ its : List Value, Vals xs its ∧ IsTup s.heap a its.toArray ∧ xs.length ≤ sizeLine := by
  rcases h with h | ⟨o, its, n, hk, hc, hs, hz, r⟩
  · obtain ⟨z, its, r, p⟩ := h.ok I.hok
    exact ⟨its, r, p, z⟩
  · refine ⟨its.toList, r, ⟨o, I.kIn a o hk, hc, n, by simpa using hs⟩, ?_⟩
    have e := r.length
    simp only [Array.length_toList] at e
    omega
theorem Inv.list_inj (I : Inv X pins σ H s) (h : SqL X.K H a xs) (h' : SqL X.K H a ys) : xs = ys := by
  obtain ⟨its, r, ⟨o, n, e, _, _, d⟩, _⟩ := I.list h
  obtain ⟨its', r', ⟨o', n', e', _, _, d'⟩, _⟩ := I.list h'
  rw [e] at e'; cases e'
  rw [d] at d'
  injection d' with d1 _
  have : its = its' := by simpa using congrArg Array.toList d1
  subst this
  exact r.inj r'
end
/-! ### another wish about exceptions -/
abbrev Cx.wish (X : Cx) (E : Value → Shared → Prop) : Cx := { X with xe := E }
/-- no exception leaves -/
abbrev Cx.nox (X : Cx) : Cx := X.wish fun _ _ => False
theorem Cx.Ok.wish {X : Cx} (ok : X.Ok) (E : Value → Shared → Prop) : (X.wish E).Ok :=
  ⟨ok.mod, ok.kind, ok.glob, ok.blt, ok.above, ok.inj, ok.has, ok.cab, ok.hd, ok.frames, ok.stk, ok.exf, ok.bs, ok.bsz, ok.noex, ok.exfs, ok.funs, ok.frf⟩
theorem Cx.Ok.unwish {X : Cx} {E : Value → Shared → Prop} (ok : (X.wish E).Ok) : X.Ok :=
  ⟨ok.mod, ok.kind, ok.glob, ok.blt, ok.above, ok.inj, ok.has, ok.cab, ok.hd, ok.frames, ok.stk, ok.exf, ok.bs, ok.bsz, ok.noex, ok.exfs, ok.funs, ok.frf⟩
section
variable {X : Cx} {pins : List (Addr × Obj)} {σ : St} {H : Hp} {s : Shared} {E : Value → Shared → Prop}
theorem Inv.wish (I : Inv X pins σ H s) (E : Value → Shared → Prop) : Inv (X.wish E) pins σ H s := ⟨I.ok.wish E, I.os, I.bare, I.base, I.loc, I.cell, I.free, I.freeC, I.pin, I.hok, I.len⟩
theorem Inv.unwish (I : Inv (X.wish E) pins σ H s) : Inv X pins σ H s := ⟨I.ok.unwish, I.os, I.bare, I.base, I.loc, I.cell, I.free, I.freeC, I.pin, I.hok, I.len⟩
theorem SP.unwish {D : Ends} {f : Flow} {s' : Shared} (h : SP (X.wish E) pins D f s') : SP X pins D f s' := by
  cases f with
  | next => obtain ⟨σ', H', I, q⟩ := h; exact ⟨σ', H', I.unwish, q⟩
  | brk => obtain ⟨σ', H', I, q⟩ := h; exact ⟨σ', H', I.unwish, q⟩
  | cont => obtain ⟨σ', H', I, q⟩ := h; exact ⟨σ', H', I.unwish, q⟩
  | ret u => obtain ⟨v, σ', H', I, r, q⟩ := h; exact ⟨v, σ', H', I.unwish, r, q⟩
theorem PSs.nox {st : List Stmt} {t : TS} (h : PSs X.nox st t) : PSs X st t := fun pins s σ H D I hw =>
  wpAny_mono (h pins s σ H D (I.wish _) hw) (fun _ _ q => q.unwish) fun _ _ z => False.elim z
end
/-! ### blocks and small statements -/
section
variable {X : Cx} {st : Stmt} {rest : List Stmt} {t u : TS} {e : Expr} {te : TE} {pos : Pos}
def tNext : TS := fun D σ H => D.nx σ H
def tSeq (t u : TS) : TS := fun D σ H => t { D with nx := u D } σ H
theorem pss_nil : PSs X [] tNext := fun _ _ σ H _ I h => wpAny_execs_nil ⟨σ, H, I, h⟩
theorem pss_cons (h1 : PS X st t) (h2 : PSs X rest u) : PSs X (st :: rest) (tSeq t u) := by
  intro pins s σ H D I h
  refine wpAny_execs_cons (thn (h1 pins s σ H { D with nx := u D } I h) fun f s1 q => ?_)
  cases f with
  | next =>
    obtain ⟨σ', H', I', q⟩ := q
    exact h2 pins s1 σ' H' D I' q
  | ret v => exact q
  | brk => exact q
  | cont => exact q
theorem pss_one (h1 : PS X st t) : PSs X [st] t := by
  intro pins s σ H D I h
  refine wpAny_execs_cons (thn (h1 pins s σ H D I h) fun f s1 q => ?_)
  cases f with
  | next => exact wpAny_execs_nil q
  | ret v => exact q
  | brk => exact q
  | cont => exact q
/-- in a def's body nothing is shown -/
theorem Inv.quiet {pins : List (Addr × Obj)} {σ : St} {H : Hp} {s : Shared} (I : Inv X pins σ H s) : interactive X.env = false := by simp [interactive, I.ok.kind]
/-- an expression whose value is dropped -/
def tDrop (te : TE) : TS := fun D σ H => te σ H fun _ H1 => D.nx σ H1
theorem ps_expr (he : PE X e te) (hs : swapsWith e none pos.line X.env = pure false := by rfl) : PS X (.Expr e pos) (tDrop te) := by
  intro pins s σ H D I h
  exact wpAny_Expr_any (thn (he pins s σ H _ I h) fun v s1 ⟨x, H1, I1, r1, q1⟩ => ⟨σ, H1, I1, q1⟩) I.quiet hs
def tRet (te : TE) : TS := fun D σ H => te σ H D.rt
theorem ps_ret (he : PE X e te) : PS X (.Return (some e) pos) (tRet te) := by
  intro pins s σ H D I h
  exact wpAny_Return_some (thn (he pins s σ H _ I h) fun v s1 ⟨x, H1, I1, r1, q1⟩ => ⟨x, σ, H1, I1, r1, q1⟩)
def tIfS (c : TT) (t u : TS) : TS := fun D σ H => c σ H fun b H1 => if b = true then t D σ H1 else u D σ H1
theorem ps_if {c : Expr} {a b : List Stmt} {tc : TT} (hc : PT X c tc) (ha : PSs X a t) (hb : PSs X b u) : PS X (.If c a b pos) (tIfS tc t u) := by
  intro pins s σ H D I h
  refine wpAny_If (thn (hc pins s σ H _ I h) fun d s1 ⟨H1, I1, q1⟩ => ?_)
  cases d with
  | true => exact ha pins s1 σ H1 D I1 q1
  | false => exact hb pins s1 σ H1 D I1 q1
/-- code that the proof never comes to -/
def tNever : TS := fun _ _ _ => False
theorem ps_never : PS X st tNever := fun _ _ _ _ _ _ h => h.elim
end
/-! ### targets -/
abbrev TG := V → St → Hp → (St → Hp → Prop) → Prop
def PG (X : Cx) (target : Expr) (t : TG) : Prop :=
  ∀ (pins : List (Addr × Obj)) (s : Shared) (σ : St) (H : Hp) (v : V) (u : Value) (Q : St → Hp → Prop), Inv X pins σ H s → RelV v u → t v σ H Q →
    wpAny (model X.prog X.w) X.A (assign target X.env u) (fun _ s' => ∃ σ' H', Inv X pins σ' H' s' ∧ Q σ' H') X.xe s
/-- a op= b, by values -/
abbrev TIp := V → V → Hp → VK → Prop
def PIp (X : Cx) (op : Operator) (t : TIp) : Prop :=
  ∀ (pins : List (Addr × Obj)) (s : Shared) (σ : St) (H : Hp) (x y : V) (v u : Value) (Q : VK), Inv X pins σ H s → RelV x v → RelV y u → t x y H Q →
    wpAny (model X.prog X.w) X.A (inplaceOp op v u) (EP X pins σ Q) X.xe s
section
variable {X : Cx} {pos : Pos}
def gName (i : Nat) : TG := fun v σ H Q => Q (σ.set i (some v)) H
theorem pg_name {i : Nat} {x : Str} (hN : X.N.Nodup) (hi : X.N[i]? = some x) (hx : Loc X.env.scope x) (hf : X.fn x = true ∨ X.env.scope.names.lookup x = some .local := by first | exact .inl rfl | exact .inr rfl | assumption) : PG X (.Name x pos) (gName i) := by
  intro pins s σ H v u Q I r h
  exact wpAny_assign_Name (store_ok I hN hi hx r (fun s' I' => ⟨_, H, I', h⟩) hf)
/-- target = value -/
def tAsg (te : TE) (g : TG) : TS := fun D σ H => te σ H fun x H1 => g x σ H1 D.nx
/-- name = value -/
theorem ps_set {i : Nat} {x : Str} {e : Expr} {te : TE} {pos' : Pos} (hN : X.N.Nodup) (hi : X.N[i]? = some x) (hx : Loc X.env.scope x) (he : PE X e te) (hs : swapsWith e (some (.Name x pos')) pos.line X.env = pure false := by rfl) (hf : X.fn x = true ∨ X.env.scope.names.lookup x = some .local := by first | exact .inl rfl | exact .inr rfl | assumption) :
    PS X (.Assign [.Name x pos'] e pos) (tAsg te (gName i)) := by
  intro pins s σ H D I h
  refine wpAny_Assign_Name (thn (he pins s σ H _ I h) fun v s1 ⟨y, H1, I1, r1, q1⟩ => ?_) hs
  exact store_ok I1 hN hi hx r1 (fun s2 I2 => ⟨_, H1, I2, q1⟩) hf
/-- name op= e -/
def tAug (i : Nat) (te : TE) (ti : TIp) : TS := fun D σ H => ∃ x, σ[i]? = some (some x) ∧ te σ H fun y H1 => ti x y H1 fun z H2 => D.nx (σ.set i (some z)) H2
theorem ps_aug {i : Nat} {x : Str} {e : Expr} {te : TE} {op : Operator} {ti : TIp} {pos' : Pos} (hN : X.N.Nodup) (hi : X.N[i]? = some x) (hx : Loc X.env.scope x) (he : PE X e te) (ho : PIp X op ti) (hf : X.fn x = true ∨ X.env.scope.names.lookup x = some .local := by first | exact .inl rfl | exact .inr rfl | assumption) :
    PS X (.AugAssign (.Name x pos') op e pos) (tAug i te ti) := by
  intro pins s σ H D I h
  obtain ⟨v, e1, h⟩ := h
  obtain ⟨m, hn, hl⟩ := I.loc
  have vis : Vis X.env.scope x := by rcases hx with k | k; exact .inl k; exact .inr (.inl k)
  obtain ⟨u, r, l⟩ := hl i x v hi e1 vis
  refine wpAny_AugAssign_Name ?_
  have go : wpAny (model X.prog X.w) X.A (eval e X.env) (fun w s₂ => wpAny (model X.prog X.w) X.A (inplaceOp op u w) (fun r s₃ => wpAny (model X.prog X.w) X.A (storeName X.env x r) (fun _ => SP X pins D .next) X.xe s₃) X.xe s₂) X.xe s := by
    refine thn (he pins s σ H _ I h) fun w s1 ⟨y, H1, I1, r1, q1⟩ => ?_
    refine thn (ho pins s1 σ H1 v y u w _ I1 r r1 q1) fun z s2 ⟨zv, H2, I2, r2, q2⟩ => ?_
    exact store_ok I2 hN hi hx r2 (fun s3 I3 => ⟨_, H2, I3, q2⟩) hf
  rcases l with ⟨hk, hm⟩ | ⟨hk, c, hc, hcell⟩
  · exact wpAny_loadName_local I.ok.kind hk hn hm go
  · rcases hk with hk | hk
    · exact wpAny_loadName_cell I.ok.kind hk hc hcell go
    · rcases hx with k | k
      · have : X.env.scope.names.lookup x = some .free := hk
        rw [k] at this; cases this
      · have : X.env.scope.names.lookup x = some .free := hk
        rw [k] at this; cases this
/-- ints -/
def ipI (f : Int → Int → Int) : TIp := fun x y H Q => ∃ i j, x = .int i ∧ y = .int j ∧ Q (.int (f i j)) H
theorem ip_add : PIp X .Add (ipI fun i j => i + j) := by
  intro pins s σ H x y v u Q I r1 r2 h
  obtain ⟨i, j, e1, e2, q⟩ := h
  subst e1; subst e2
  obtain ⟨t, rfl⟩ := r1
  obtain ⟨t', rfl⟩ := r2
  exact iadd_int ⟨.int _, H, I.tok _, ⟨_, rfl⟩, q⟩
end
/-! ### while -/
section
variable {X : Cx} {pos : Pos}
/-- the invariant W with its measure -/
def tWhile (c : TT) (tb : TS) : TS := fun D σ H => ∃ W : Nat → St → Hp → Prop, (∃ m, W m σ H) ∧ ∀ m σ H, W m σ H →
  c σ H fun b H1 => if b = true then ∃ N : St → Hp → Prop, (∀ σ' H', N σ' H' → ∃ m', m' < m ∧ W m' σ' H') ∧ tb { D with nx := N, ct := N, bk := D.nx } σ H1 else D.nx σ H1
theorem ps_while {c : Expr} {body : List Stmt} {tc : TT} {tb : TS} (hp : PassesOwn (model X.prog X.w) X.A X.env X.xe) (hc : PT X c tc) (hb : PSs X body tb) : PS X (.While c body [] pos) (tWhile tc tb) := by
  intro pins s σ H D I h
  obtain ⟨W, ⟨m0, w0⟩, turn⟩ := h
  refine wpAny_While (codeAny_whileLoop (fun n s' => ∃ σ' H', Inv X pins σ' H' s' ∧ W n σ' H') ?_ m0 ⟨σ, H, I, w0⟩)
  rintro n s1 ⟨σ1, H1, I1, w1⟩
  refine wpAny_passesOwn hp (thn (hc pins s1 σ1 H1 _ I1 (turn n σ1 H1 w1)) fun b s2 ⟨H2, I2, q2⟩ => ?_)
  cases b with
  | true =>
    obtain ⟨N, hN, q2⟩ := q2
    rw [if_pos rfl]
    refine wpAny_passesOwn hp (thn (hb pins s2 σ1 H2 _ I2 q2) fun f s3 q3 => ?_)
    cases f with
    | next =>
      obtain ⟨σ3, H3, I3, n3⟩ := q3
      obtain ⟨m', hm, w3⟩ := hN σ3 H3 n3
      exact ⟨m', hm, σ3, H3, I3, w3⟩
    | cont =>
      obtain ⟨σ3, H3, I3, n3⟩ := q3
      obtain ⟨m', hm, w3⟩ := hN σ3 H3 n3
      exact ⟨m', hm, σ3, H3, I3, w3⟩
    | brk => exact q3
    | ret v => exact q3
  | false =>
    rw [if_neg Bool.false_ne_true]
    exact wpAny_execs_nil ⟨σ1, H2, I2, q2⟩
end
/-! ### what a loop or a comprehension walks -/
/-- at turn i: it yields x (the heap may grow), or it stops -/
structure It where
  go : Nat → Hp → Prop
  yld : Nat → Hp → V → Hp → Prop
  stop : Nat → Hp → Prop
/-- the iterator's own objects may turn: they are not the frame's, not pinned, younger than the entry (or a comprehension's own) -/
def FpOk (X : Cx) (pins : List (Addr × Obj)) (H : Hp) (b : Addr) : Prop :=
  H b = none ∧ b ≠ X.env.locals ∧ b ∉ X.fs ∧ (b ∈ X.ex ∨ X.s_0.heap.objs.size ≤ b) ∧ (∀ x c, X.env.cells.lookup x = some c → c ≠ b) ∧ ∀ p ∈ X.pn ++ pins, p.1 ≠ b
theorem Inv.fpOk {X : Cx} {pins : List (Addr × Obj)} {σ : St} {H H' : Hp} {s : Shared} {b : Addr} (I : Inv X pins σ H s) (hb : s.heap.objs.size ≤ b) (hn : H' b = none) : FpOk X pins H' b := by
  refine ⟨hn, Nat.ne_of_gt (Nat.lt_of_lt_of_le I.lt hb), I.nofs hb, .inr (Nat.le_trans I.sz hb), fun x c e z => ?_, fun p hp z => ?_⟩
  · obtain ⟨v, q⟩ := I.cell x c e
    exact absurd (Nat.lt_of_lt_of_le q.lt (by rw [z]; exact hb)) (Nat.lt_irrefl _)
  · exact absurd (Nat.lt_of_lt_of_le (Heap.lt_size (I.pin p hp).1) (by rw [z]; exact hb)) (Nat.lt_irrefl _)
structure Turn (P : Program) (w : World) (K : PySem.W.Frag) (tg : Expr) (J : It) (fp : List Addr) (it : Addr) (tn : Nat → Heap → Prop) : Prop where
  mem : it ∈ fp
  obj : ∀ i h, tn i h → ∀ b ∈ fp, ∃ o, h.get? b = some o ∧ ∀ v, o.data ≠ .cell v
  keep : ∀ i h h', tn i h → (∀ b ∈ fp, ∀ o, h.get? b = some o → h'.get? b = some o) → tn i h'
  item : ∀ (X : Cx), X.prog = P → X.w = w → X.K = K → X.calm = true → ∀ (i : Nat) (pins : List (Addr × Obj)) (s : Shared) (σ : St) (H : Hp) (E : Value → Shared → Prop), Inv X pins σ H s → (∀ b ∈ fp, FpOk X pins H b) → tn i s.heap → J.go i H →
    wpAny (model P w) X.A (pyNext (.ref it)) (fun r s1 => ∃ u, r = some u ∧
      wpAny (model P w) X.A (letOwnedTupleGo tg (.ref it) u) (fun _ s2 => ∃ x H', Inv X pins σ H' s2 ∧ RelV x u ∧ J.yld i H x H' ∧ tn (i + 1) s2.heap ∧ ∀ b ∈ fp, H' b = none) E s1) E s
  done : ∀ (X : Cx), X.prog = P → X.w = w → X.K = K → X.calm = true → ∀ (i : Nat) (pins : List (Addr × Obj)) (s : Shared) (σ : St) (H : Hp) (E : Value → Shared → Prop), Inv X pins σ H s → (∀ b ∈ fp, FpOk X pins H b) → tn i s.heap → J.stop i H →
    wpAny (model P w) X.A (pyNext (.ref it)) (fun r s1 => r = none ∧ Inv X pins σ H s1) E s
  self : ∀ (A : Around) (i : Nat) (s : Shared) (Q : Value → Shared → Prop) (E : Value → Shared → Prop), tn i s.heap → Q (.ref it) s → wpAny (model P w) A (pyIter (.ref it)) Q E s
abbrev TI := St → Hp → (It → Hp → Prop) → Prop
/-- an iterator has come -/
def PIE (X : Cx) (pins : List (Addr × Obj)) (σ : St) (tg : Expr) (R : It → Hp → Prop) (itv : Value) (s2 : Shared) : Prop :=
  ∃ (it : Addr) (fp : List Addr) (tn : Nat → Heap → Prop) (J : It) (H' : Hp), itv = .ref it ∧ Inv X pins σ H' s2 ∧ Turn X.prog X.w X.K tg J fp it tn ∧ tn 0 s2.heap ∧ (∀ b ∈ fp, FpOk X pins H' b) ∧ R J H'
def PI (X : Cx) (tg iter : Expr) (wi : TI) : Prop :=
  ∀ (pins : List (Addr × Obj)) (s : Shared) (σ : St) (H : Hp) (R : It → Hp → Prop), Inv X pins σ H s → wi σ H R →
    wpAny (model X.prog X.w) X.A (eval iter X.env) (fun v s1 => wpAny (model X.prog X.w) X.A (pyIter v) (PIE X pins σ tg R) X.xe s1) X.xe s
/-- the step ahead of the store is nothing for an iterator that keeps no tuple -/
theorem go_of {M : Model} {A : Around} {E : Value → Shared → Prop} {s : Shared} {tg : Expr} {it : Addr} {u : Value} {o : Obj} {n : String} {vs : Array Value} {Q : Unit → Shared → Prop} (ho : s.heap.get? it = some o) (hc : o.cls = .type n) (hd : o.data = .fields vs)
    (hn : ["enumerate", "zip", "dict_itemiterator", "dict_reverseitemiterator", "odict_iterator", "itertools.zip_longest", "itertools.pairwise"].contains n = false) (hQ : Q () s) : wpAny M A (letOwnedTupleGo tg (.ref it) u) Q E s := by
  unfold letOwnedTupleGo
  cases tg <;> first
    | exact wpAny_pure hQ
    | (cases u <;> first
        | exact wpAny_pure hQ
        | (refine wpAny_bind (wpAny_load ho ?_)
           rw [hc, hd]
           show wpAny M A (if (["enumerate", "zip", "dict_itemiterator", "dict_reverseitemiterator", "odict_iterator", "itertools.zip_longest", "itertools.pairwise"].contains n && vs[0]? == some (rawInt _)) = true then _ else _) Q E s
           rw [if_neg (by intro h; rw [hn, Bool.false_and] at h; cases h)]
           exact wpAny_pure hQ))
/-- the list at a, as it stands at each turn (a loop may append to it) -/
def Itl (K : PySem.W.Frag) (a : Addr) : It :=
  ⟨fun i H => ∃ xs x, SqL K H a xs ∧ xs[i]? = some x, fun i H x H' => H' = H ∧ ∀ xs, SqL K H a xs → xs[i]? = some x, fun i H => ∃ xs, SqL K H a xs ∧ xs.length ≤ i⟩
/-- lo, lo + 1, .. (n of them) -/
def Itr (lo : Int) (n : Nat) : It := ⟨fun i _ => i < n, fun i H x H' => H' = H ∧ x = .int (lo + i), fun i _ => n ≤ i⟩
theorem turn_list {P : Program} {w : World} {K : PySem.W.Frag} {tg : Expr} (a it : Addr) : Turn P w K tg (Itl K a) [it] it (fun i h => h.IsListIter it a i) where
  mem := by simp
  obj := fun i h st b hb => by
    have e : b = it := by simpa using hb
    subst e
    obtain ⟨o, e, c, d⟩ := st
    exact ⟨o, e, fun v z => by rw [d] at z; cases z⟩
  keep := fun i h h' st k => st.at fun o e => k it (by simp) o e
  item := by
    intro X hP hw hK hc i pins s σ H E I hf st hg
    subst hP hw hK
    obtain ⟨xs, x, hq, hx⟩ := hg
    obtain ⟨its, rv, p, hz⟩ := I.list hq
    obtain ⟨u, hu, ru⟩ := rv.get hx
    obtain ⟨f0, f1, f2, f3, f4, f5⟩ := hf it (by simp)
    refine wpAny_pyNext_list_item st p.isList (x := u) (by simpa using hu) fun h' st' sb => ?_
    have I1 : Inv X pins σ H { s with heap := h' } := I.turned (t' := s.toks) (fun b o hb e => (sb.2 b hb).trans e) f0 f1 f3 f4 f5
    obtain ⟨o, e, c, d⟩ := id st'
    exact ⟨u, rfl, go_of (s := { s with heap := h' }) e c d (by decide) ⟨x, H, I1, ru, ⟨rfl, fun ys hy => by rw [I.list_inj hy hq]; exact hx⟩, st', fun b hb => (hf b hb).1⟩⟩
  done := by
    intro X hP hw hK hc i pins s σ H E I hf st hg
    subst hP hw hK
    obtain ⟨xs, hq, hx⟩ := hg
    obtain ⟨its, rv, p, hz⟩ := I.list hq
    obtain ⟨f0, f1, f2, f3, f4, f5⟩ := hf it (by simp)
    have hl := rv.length
    exact wpAny_pyNext_list_end (I.ok.hd hc) st p.isList (by simp; omega) fun h' eb => ⟨rfl, I.turned (t' := s.toks) (fun b o hb e => eb b o hb e) f0 f1 f3 f4 f5⟩
  self := fun _ _ _ _ _ st h => wpAny_pyIter_listiter st h
theorem turn_range {P : Program} {w : World} {K : PySem.W.Frag} {tg : Expr} (it : Addr) (lo : Int) (n : Nat) : Turn P w K tg (Itr lo n) [it] it (fun i h => IsRangeIter h it (lo + (i : Nat) * 1) ((n : Int) - (i : Nat)) 1) where
  mem := by simp
  obj := fun i h st b hb => by
    have e : b = it := by simpa using hb
    subst e
    exact ⟨_, st, fun v z => by
      have z' : Data.fields _ = Data.cell v := z
      cases z'⟩
  keep := fun i h h' st k => k it (by simp) _ st
  item := by
    intro X hP hw hK hc i pins s σ H E I hf st hg
    subst hP hw hK
    obtain ⟨f0, f1, f2, f3, f4, f5⟩ := hf it (by simp)
    have W := Walks.range (prog := X.prog) (w := X.w) (I.ok.hd hc) it lo 1 n
    refine W.item i s _ _ hg st fun v h' tk hv st' kk => ?_
    obtain ⟨t, rfl⟩ := hv
    have I1 : Inv X pins σ H { s with heap := h', toks := tk } := I.turned (fun b o hb e => kk b o (by simpa using hb) e) f0 f1 f3 f4 f5
    refine ⟨_, rfl, go_of (s := { s with heap := h', toks := tk }) (n := "range_iterator") st' rfl rfl (by decide) ⟨.int (lo + i), H, I1, ⟨t, ?_⟩, ⟨rfl, rfl⟩, st', fun b hb => (hf b hb).1⟩⟩
    rw [Int.mul_one]
  done := by
    intro X hP hw hK hc i pins s σ H E I hf st hg
    subst hP hw hK
    obtain ⟨f0, f1, f2, f3, f4, f5⟩ := hf it (by simp)
    exact wpAny_pyNext_range_end (I.ok.hd hc) st (by have : n ≤ i := hg; omega) fun h' eb => ⟨rfl, I.turned (t' := s.toks) (fun b o hb e => eb b o hb e) f0 f1 f3 f4 f5⟩
  self := fun _ _ _ _ _ st h => wpAny_pyIter_rangeiter st h
end L2
namespace L2
open PySem PySem.Spec PyProof.Rows
section
variable {X : Cx} {tg : Expr}
def iList (K : PySem.W.Frag) (tl : TE) : TI := fun σ H R => tl σ H fun x H1 => ∃ a, x = .ref a ∧ (∃ xs, SqL K H1 a xs) ∧ R (Itl K a) H1
theorem pi_list {l : Expr} {tl : TE} (hl : PE X l tl) : PI X tg l (iList X.K tl) := by
  intro pins s σ H R I h
  refine thn (hl pins s σ H _ I h) fun v s1 ⟨x, H1, I1, r1, q1⟩ => ?_
  obtain ⟨a, e, ⟨xs, hq⟩, q⟩ := q1
  subst e
  cases r1
  obtain ⟨its, rv, p, hz⟩ := I1.list hq
  refine wpAny_pyIter_list p.isList ?_
  refine ⟨s1.heap.objs.size, [s1.heap.objs.size], _, _, H1, rfl, I1.kept (t' := s1.toks) fun b o e => Heap.get?_push_of_some _ e, turn_list a _, ⟨_, Heap.get?_push_size _ rfl, rfl, rfl⟩, fun b hb => ?_, q⟩
  have e : b = s1.heap.objs.size := by simpa using hb
  subst e
  exact I1.fpOk (Nat.le_refl _) (I1.hok.fresh (Nat.le_refl _))
/-- a range object just made, walked -/
theorem range_it {pins : List (Addr × Obj)} {σ : St} {H : Hp} {s : Shared} {R : It → Hp → Prop} {E : Value → Shared → Prop} {lo hi : Int} {t u v : Tok} {tk : Nat} (I : Inv X pins σ H s) (h1 : -(2 ^ 62) ≤ lo) (h2 : lo < 2 ^ 62) (h3 : -(2 ^ 62) ≤ hi) (h4 : hi < 2 ^ 62)
    (q : R (Itr lo (hi - lo).toNat) H) : wpAny (model X.prog X.w) X.A (pyIter (.ref s.heap.objs.size)) (PIE X pins σ tg R) E { s with heap := s.heap.push { cls := .type "range", data := .fields #[.int lo t, .int hi u, .int 1 v] }, toks := tk } := by
  refine wpAny_pyIter_range (IsRange.new ..) (small_one h1 h2 h3 h4) ?_
  have I1 : Inv X pins σ H { s with heap := s.heap.push { cls := .type "range", data := .fields #[.int lo t, .int hi u, .int 1 v] }, toks := tk } := I.kept fun b o e => Heap.get?_push_of_some _ e
  refine ⟨(s.heap.push { cls := .type "range", data := .fields #[.int lo t, .int hi u, .int 1 v] }).objs.size, [(s.heap.push { cls := .type "range", data := .fields #[.int lo t, .int hi u, .int 1 v] }).objs.size], _, _, H, rfl,
    I1.kept (t' := tk) fun b o e => Heap.get?_push_of_some _ e, turn_range _ lo (hi - lo).toNat, ?_, fun b hb => ?_, q⟩
  · have e1 : lo + ((0 : Nat) : Int) * 1 = lo := by simp
    have e2 : (((hi - lo).toNat : Nat) : Int) - ((0 : Nat) : Int) = Builtin.Range.rangeSize lo hi 1 := by rw [rangeSize_one]; split <;> omega
    show IsRangeIter _ _ (lo + ((0 : Nat) : Int) * 1) ((((hi - lo).toNat : Nat) : Int) - ((0 : Nat) : Int)) 1
    rw [e1, e2]
    exact Heap.get?_push_size _ rfl
  · have e : b = (s.heap.push { cls := .type "range", data := .fields #[.int lo t, .int hi u, .int 1 v] }).objs.size := by simpa using hb
    subst e
    exact I1.fpOk (Nat.le_refl _) (I1.hok.fresh (Nat.le_refl _))
def iRng1 (ta : TA) : TI := fun σ H R => ta σ H fun vs H1 => ∃ j : Int, vs = [.int j] ∧ -(2 ^ 62) ≤ j ∧ j < 2 ^ 62 ∧ R (Itr 0 j.toNat) H1
def iRng2 (ta : TA) : TI := fun σ H R => ta σ H fun vs H1 => ∃ i j : Int, vs = [.int i, .int j] ∧ (-(2 ^ 62) ≤ i ∧ i < 2 ^ 62 ∧ -(2 ^ 62) ≤ j ∧ j < 2 ^ 62) ∧ R (Itr i (j - i).toNat) H1
theorem pi_range1 {a : Expr} {ta : TA} {p pos : Pos} (hg : Gl X "range") (hm : X.mg "range" = none) (ha : PA X [a] ta) (hs : starEach [a] X.env = [(false, eval a X.env)] := by rfl) : PI X tg (.Call (.Name "range" p) [a] [] pos) (iRng1 ta) := by
  intro pins s σ H R I h
  refine Call_ (ld_blt I hg hm boot_range (PyProof.Rows.callWith_type1 (thn (ha pos pins s σ H _ I h) fun us s1 ⟨vs, H1, I1, r1, q1⟩ => ?_) hs rfl))
  obtain ⟨j, e, q1, q2, q⟩ := q1
  subst e
  cases r1 with
  | cons r rr =>
    cases rr
    obtain ⟨t, rfl⟩ := r
    exact call_range_1 (range_it I1 (by omega) (by omega) q1 q2 (by simpa using q))
theorem pi_range2 {a b : Expr} {ta : TA} {p pos : Pos} (hg : Gl X "range") (hm : X.mg "range" = none) (ha : PA X [a, b] ta) (hs : starEach [a, b] X.env = [(false, eval a X.env), (false, eval b X.env)] := by rfl) (hs2 : starEach [b] X.env = [(false, eval b X.env)] := by rfl) :
    PI X tg (.Call (.Name "range" p) [a, b] [] pos) (iRng2 ta) := by
  intro pins s σ H R I h
  refine Call_ (ld_blt I hg hm boot_range (PyProof.Rows.callWith_type1 (thn (ha pos pins s σ H _ I h) fun us s1 ⟨vs, H1, I1, r1, q1⟩ => ?_) (by rw [hs, hs2]) (by rw [hs2]; rfl)))
  obtain ⟨i, j, e, ⟨q1, q2, q3, q4⟩, q⟩ := q1
  subst e
  cases r1 with
  | cons r rr =>
    cases rr with
    | cons r' rr =>
      cases rr
      obtain ⟨t, rfl⟩ := r
      obtain ⟨t', rfl⟩ := r'
      exact call_range_2 (range_it I1 q1 q2 q3 q4 q)
/-! ### for -/
/-- W: the invariant by the turn and a measure; N: what the body is to reach -/
def tFor (wi : TI) (g : TG) (tb : TS) : TS := fun D σ H => wi σ H fun J H1 => ∃ W : Nat → Nat → St → Hp → Prop, (∃ m, W 0 m σ H1) ∧ ∀ i m σ H, W i m σ H →
  (J.stop i H ∧ D.nx σ H) ∨ (J.go i H ∧ ∃ N : St → Hp → Prop, (∀ σ' H', N σ' H' → ∃ m', m' < m ∧ W (i + 1) m' σ' H') ∧ ∀ x H', J.yld i H x H' → g x σ H' fun σ2 H2 => tb { D with nx := N, ct := N, bk := D.nx } σ2 H2)
/-- the records at fp as they stand -/
def pinsAt (fp : List Addr) (h : Heap) : List (Addr × Obj) := fp.filterMap fun b => (h.get? b).map fun o => (b, o)
theorem mem_pinsAt {fp : List Addr} {h : Heap} {b : Addr} {o : Obj} (hb : b ∈ fp) (e : h.get? b = some o) : (b, o) ∈ pinsAt fp h := List.mem_filterMap.mpr ⟨b, hb, by rw [e]; rfl⟩
theorem of_pinsAt {fp : List Addr} {h : Heap} {p : Addr × Obj} (hp : p ∈ pinsAt fp h) : p.1 ∈ fp ∧ h.get? p.1 = some p.2 := by
  obtain ⟨b, hb, e⟩ := List.mem_filterMap.mp hp
  cases q : h.get? b with
  | none => rw [q] at e; cases e
  | some o =>
    rw [q] at e
    have e' : (b, o) = p := Option.some.inj e
    subst e'
    exact ⟨hb, q⟩
theorem Inv.pinned {pins : List (Addr × Obj)} {σ : St} {H : Hp} {s : Shared} {fp : List Addr} (I : Inv X pins σ H s) (hf : ∀ b ∈ fp, FpOk X pins H b) (ho : ∀ b ∈ fp, ∃ o, s.heap.get? b = some o ∧ ∀ v, o.data ≠ .cell v) : Inv X (pins ++ pinsAt fp s.heap) σ H s :=
  I.pins_of fun p hp => (List.mem_append.mp hp).elim (fun z => I.pin p (List.mem_append_right _ z)) fun z => by
    obtain ⟨hb, e⟩ := of_pinsAt z
    obtain ⟨f0, f1, f2, _⟩ := hf p.1 hb
    obtain ⟨o, e', d⟩ := ho p.1 hb
    rw [e] at e'; cases e'
    exact ⟨e, f0, f1, f2, d⟩
theorem Inv.unpinned {pins pl : List (Addr × Obj)} {σ : St} {H : Hp} {s : Shared} (I : Inv X (pins ++ pl) σ H s) : Inv X pins σ H s := I.pins_of fun p hp => I.pin p (List.mem_append_right _ (List.mem_append_left _ hp))
theorem ps_for {iter : Expr} {body : List Stmt} {wi : TI} {g : TG} {tb : TS} {pos : Pos} (hp : PassesOwn (model X.prog X.w) X.A X.env X.xe) (hc : X.calm = true) (hi : PI X tg iter wi) (hg : PG X tg g) (hb : PSs X body tb)
    (hs : ∀ x, foldedSetIterable iter X.env x = pure x := by intro _; rfl) : PS X (.For tg iter body [] pos) (tFor wi g tb) := by
  intro pins s σ H D I h
  refine wpAny_For (thn (hi pins s σ H _ I h) fun v s1 h1 => thn h1 fun itv s2 h2 => ?_) hs
  obtain ⟨it, fp, tn, J, H2, e, I2, T, st2, f2, W, ⟨m0, w0⟩, turn⟩ := h2
  subst e
  -- what stays true of the iterator's objects through the loop
  have stat : ∀ {H' : Hp}, (∀ b ∈ fp, H' b = none) → ∀ b ∈ fp, FpOk X pins H' b := fun hn b hb => ⟨hn b hb, (f2 b hb).2⟩
  refine codeAny_forLoop_any (fun n s' => ∃ i σ' H', Inv X pins σ' H' s' ∧ tn i s'.heap ∧ (∀ b ∈ fp, H' b = none) ∧ W i n σ' H') ?_ m0 ⟨0, σ, H2, I2, st2, fun b hb => (f2 b hb).1, w0⟩
  rintro n s3 ⟨i, σ3, H3, I3, st3, fr3, w3⟩
  rcases turn i n σ3 H3 w3 with ⟨stop, qn⟩ | ⟨go, N, hN, step⟩
  · refine wpAny_passesOwn hp (thn (T.done X rfl rfl rfl hc i pins s3 σ3 H3 X.xe I3 (stat fr3) st3 stop) fun r s4 ⟨hr, I4⟩ => ?_)
    subst hr
    exact wpAny_execs_nil ⟨σ3, H3, I4, qn⟩
  · refine wpAny_passesOwn hp (thn (T.item X rfl rfl rfl hc i pins s3 σ3 H3 X.xe I3 (stat fr3) st3 go) fun r s4 ⟨u, hr, h4⟩ => ?_)
    subst hr
    refine wpAny_passesOwn hp (thn h4 fun _ s5 ⟨x, H5, I5, r5, y5, st5, fr5⟩ => ?_)
    have I5' := I5.pinned (stat fr5) (T.obj _ _ st5)
    refine wpAny_passesOwn hp (thn (hg _ s5 σ3 H5 x u _ I5' r5 (step x H5 y5)) fun _ s6 ⟨σ6, H6, I6, q6⟩ => ?_)
    refine wpAny_passesOwn hp (thn (hb _ s6 σ6 H6 _ I6 q6) fun f s7 q7 => ?_)
    have again : ∀ {σ7 : St} {H7 : Hp}, Inv X (pins ++ pinsAt fp s5.heap) σ7 H7 s7 → N σ7 H7 → ∃ m, m < n ∧ ∃ i σ' H', Inv X pins σ' H' s7 ∧ tn i s7.heap ∧ (∀ b ∈ fp, H' b = none) ∧ W i m σ' H' := fun {σ7 H7} I7 n7 => by
      obtain ⟨m', hm, w7⟩ := hN σ7 H7 n7
      refine ⟨m', hm, i + 1, σ7, H7, I7.unpinned, T.keep _ _ _ st5 fun b hb o e => (I7.pin (b, o) (List.mem_append_right _ (List.mem_append_right _ (mem_pinsAt hb e)))).1, fun b hb => ?_, w7⟩
      obtain ⟨o, e, d⟩ := T.obj _ _ st5 b hb
      exact (I7.pin (b, o) (List.mem_append_right _ (List.mem_append_right _ (mem_pinsAt hb e)))).2.1
    cases f with
    | next => obtain ⟨σ7, H7, I7, n7⟩ := q7; exact again I7 n7
    | cont => obtain ⟨σ7, H7, I7, n7⟩ := q7; exact again I7 n7
    | brk => obtain ⟨σ7, H7, I7, q7⟩ := q7; exact ⟨σ7, H7, I7.unpinned, q7⟩
    | ret v => obtain ⟨x7, σ7, H7, I7, r7, q7⟩ := q7; exact ⟨x7, σ7, H7, I7.unpinned, r7, q7⟩
end
/-! ### the forms one uses -/
/-- over a list that the body leaves as it is -/
theorem for_list {K : PySem.W.Frag} {a : Addr} {xs : List V} {g : TG} {tb : TS} {D : Ends} {σ : St} {H : Hp} (Pv : Nat → St → Hp → Prop) (h0 : Pv 0 σ H) (hl : ∀ i σ H, i ≤ xs.length → Pv i σ H → SqL K H a xs)
    (hs : ∀ i x σ H, xs[i]? = some x → Pv i σ H → g x σ H fun σ2 H2 => tb { D with nx := Pv (i + 1), ct := Pv (i + 1), bk := D.nx } σ2 H2) (hd : ∀ σ H, Pv xs.length σ H → D.nx σ H) :
    ∃ W : Nat → Nat → St → Hp → Prop, (∃ m, W 0 m σ H) ∧ ∀ i m σ H, W i m σ H →
      ((Itl K a).stop i H ∧ D.nx σ H) ∨ ((Itl K a).go i H ∧ ∃ N : St → Hp → Prop, (∀ σ' H', N σ' H' → ∃ m', m' < m ∧ W (i + 1) m' σ' H') ∧ ∀ x H', (Itl K a).yld i H x H' → g x σ H' fun σ2 H2 => tb { D with nx := N, ct := N, bk := D.nx } σ2 H2) := by
  refine ⟨fun i m σ H => m = xs.length - i ∧ i ≤ xs.length ∧ Pv i σ H, ⟨xs.length, by simp, Nat.zero_le _, h0⟩, ?_⟩
  rintro i m σ H ⟨rfl, hi, p⟩
  have q := hl i σ H hi p
  by_cases hlt : i < xs.length
  · refine .inr ⟨⟨xs, xs[i], q, by simp [hlt]⟩, Pv (i + 1), fun σ' H' p' => ⟨xs.length - (i + 1), by omega, rfl, hlt, p'⟩, fun x H' y => ?_⟩
    obtain ⟨e, y⟩ := y
    subst e
    exact hs i x σ _ (y xs q) p
  · have e : i = xs.length := by omega
    subst e
    exact .inl ⟨⟨xs, q, Nat.le_refl _⟩, hd σ H p⟩
theorem for_range {lo : Int} {n : Nat} {g : TG} {tb : TS} {D : Ends} {σ : St} {H : Hp} (Pv : Nat → St → Hp → Prop) (h0 : Pv 0 σ H)
    (hs : ∀ i σ H, i < n → Pv i σ H → g (.int (lo + i)) σ H fun σ2 H2 => tb { D with nx := Pv (i + 1), ct := Pv (i + 1), bk := D.nx } σ2 H2) (hd : ∀ σ H, Pv n σ H → D.nx σ H) :
    ∃ W : Nat → Nat → St → Hp → Prop, (∃ m, W 0 m σ H) ∧ ∀ i m σ H, W i m σ H →
      ((Itr lo n).stop i H ∧ D.nx σ H) ∨ ((Itr lo n).go i H ∧ ∃ N : St → Hp → Prop, (∀ σ' H', N σ' H' → ∃ m', m' < m ∧ W (i + 1) m' σ' H') ∧ ∀ x H', (Itr lo n).yld i H x H' → g x σ H' fun σ2 H2 => tb { D with nx := N, ct := N, bk := D.nx } σ2 H2) := by
  refine ⟨fun i m σ H => m = n - i ∧ i ≤ n ∧ Pv i σ H, ⟨n, by simp, Nat.zero_le _, h0⟩, ?_⟩
  rintro i m σ H ⟨rfl, hi, p⟩
  by_cases hlt : i < n
  · refine .inr ⟨hlt, Pv (i + 1), fun σ' H' p' => ⟨n - (i + 1), by omega, rfl, hlt, p'⟩, fun x H' y => ?_⟩
    obtain ⟨e, y⟩ := y
    subst e y
    exact hs i σ _ hlt p
  · have e : i = n := by omega
    subst e
    exact .inl ⟨Nat.le_refl _, hd σ H p⟩
end L2
namespace L2
open PySem PySem.Spec PyProof.Rows
abbrev R2 := V → V → Hp → VK → Prop
/-- a two-place operation on values: f is binaryOp op, inplaceOp op or compareOp op -/
def OpR (X : Cx) (f : Value → Value → Sem Value) (r : R2) : Prop :=
  ∀ (pins : List (Addr × Obj)) (s : Shared) (σ : St) (H : Hp) (x y : V) (v u : Value) (Q : VK), Inv X pins σ H s → RelV x v → RelV y u → r x y H Q →
    wpAny (model X.prog X.w) X.A (f v u) (EP X pins σ Q) X.xe s
/-- a call of a value that is known (a builtin, a type) with values -/
def CallR (X : Cx) (f : Value) (r : List V → Hp → VK → Prop) : Prop :=
  ∀ (pins : List (Addr × Obj)) (s : Shared) (σ : St) (H : Hp) (xs : List V) (us : List Value) (Q : VK), Inv X pins σ H s → Vals xs us → r xs H Q →
    wpAny (model X.prog X.w) X.A (call f us) (EP X pins σ Q) X.xe s
/-- a value's truth -/
def TruR (X : Cx) (r : V → Hp → (Bool → Hp → Prop) → Prop) : Prop :=
  ∀ (pins : List (Addr × Obj)) (s : Shared) (σ : St) (H : Hp) (x : V) (v : Value) (Q : Bool → Hp → Prop), Inv X pins σ H s → RelV x v → r x H Q →
    wpAny (model X.prog X.w) X.A (truthy v) (TP X pins σ Q) X.xe s
def tOp (r : R2) (ta tb : TE) : TE := fun σ H Q => ta σ H fun x H1 => tb σ H1 fun y H2 => r x y H2 Q
def rI0 (g : Int → Int → V) : R2 := fun x y H Q => ∃ i j, x = .int i ∧ y = .int j ∧ Q (g i j) H
section
variable {X : Cx} {a b c : Expr} {ta tb tc : TE} {pos : Pos}
theorem binT (ha : PE X a ta) (hb : PE X b tb) {pins : List (Addr × Obj)} {s : Shared} {σ : St} {H : Hp} {R : V → V → Hp → Prop} (I : Inv X pins σ H s)
    (h : ta σ H fun x H1 => tb σ H1 fun y H2 => R x y H2) {Q : Value → Shared → Prop} {f : Value → Value → Sem Value}
    (hf : ∀ v u s2 x y H2, Inv X pins σ H2 s2 → RelV x v → RelV y u → R x y H2 → wpAny (model X.prog X.w) X.A (f v u) Q X.xe s2) :
    wpAny (model X.prog X.w) X.A (eval a X.env) (fun v s₁ => wpAny (model X.prog X.w) X.A (eval b X.env) (fun u s₂ => wpAny (model X.prog X.w) X.A (f v u) Q X.xe s₂) X.xe s₁) X.xe s := by
  refine thn (ha pins s σ H _ I h) fun v s1 ⟨x, H1, I1, r1, q1⟩ => ?_
  refine thn (hb pins s1 σ H1 _ I1 q1) fun u s2 ⟨y, H2, I2, r2, q2⟩ => ?_
  exact hf v u s2 x y H2 I2 r1 r2 q2
theorem pe_op {op : Operator} {r : R2} (ho : OpR X (binaryOp op) r) (ha : PE X a ta) (hb : PE X b tb) : PE X (.BinOp a op b pos) (tOp r ta tb) := by
  intro pins s σ H Q I h
  exact wpAny_BinOp (binT ha hb I h fun v u s2 x y H2 I2 rx ry q => ho pins s2 σ H2 x y v u Q I2 rx ry q)
/-! ### ints -/
theorem opI0 {f : Value → Value → Sem Value} {g : Int → Int → Int}
    (rule : ∀ (i j : Int) (t u : Tok) (s : Shared) (Q : Value → Shared → Prop) (E : Value → Shared → Prop), Q (.int (g i j) s.toks) { s with toks := s.toks + 1 } → wpAny (model X.prog X.w) X.A (f (.int i t) (.int j u)) Q E s) :
    OpR X f (rI0 fun i j => .int (g i j)) := by
  intro pins s σ H x y v u Q I rx ry h
  obtain ⟨i, j, rfl, rfl, q⟩ := h
  obtain ⟨t, rfl⟩ := rx
  obtain ⟨t', rfl⟩ := ry
  exact rule i j t t' s _ _ ⟨.int (g i j), H, I.tok _, ⟨_, rfl⟩, q⟩
theorem opB0 {f : Value → Value → Sem Value} {g : Int → Int → Bool}
    (rule : ∀ (i j : Int) (t u : Tok) (s : Shared) (Q : Value → Shared → Prop) (E : Value → Shared → Prop), Q (.bool (g i j)) s → wpAny (model X.prog X.w) X.A (f (.int i t) (.int j u)) Q E s) :
    OpR X f (rI0 fun i j => .bl (g i j)) := by
  intro pins s σ H x y v u Q I rx ry h
  obtain ⟨i, j, rfl, rfl, q⟩ := h
  obtain ⟨t, rfl⟩ := rx
  obtain ⟨t', rfl⟩ := ry
  exact rule i j t t' s _ _ ⟨.bl (g i j), H, I, rfl, q⟩
theorem op_add : OpR X (binaryOp .Add) (rI0 fun i j => .int (i + j)) := opI0 fun _ _ _ _ _ _ _ q => add_int q
theorem op_sub : OpR X (binaryOp .Sub) (rI0 fun i j => .int (i - j)) := opI0 fun _ _ _ _ _ _ _ q => sub_int q
/-! ### bools among ints: n += (a < b) -/
end
/-! ### comparisons -/
/-- the scalars that == tells apart as data does -/
def scal : V → V → Bool
  | .non, .non => true | .non, .int _ => true | .int _, .non => true | .non, .bl _ => true | .bl _, .non => true | .non, .str _ => true | .str _, .non => true
  | .int _, .int _ => true | .bl _, .bl _ => true | .str _, .str _ => true | .byt _, .byt _ => true
  | .int _, .str _ => true | .str _, .int _ => true | .bl _, .str _ => true | .str _, .bl _ => true
  | _, _ => false
def rEq : R2 := fun x y H Q => scal x y = true ∧ Q (.bl (decide (x = y))) H
theorem dec_int {i j : Int} : decide (V.int i = V.int j) = (i == j) := by
  rw [Bool.eq_iff_iff]
  simp
theorem dec_bl {i j : Bool} : decide (V.bl i = V.bl j) = (i == j) := by
  rw [Bool.eq_iff_iff]
  simp
theorem dec_str {i j : Str} : decide (V.str i = V.str j) = (i == j) := by
  rw [Bool.eq_iff_iff]
  simp
theorem dec_byt {i j : Array UInt8} : decide (V.byt i = V.byt j) = (i.toList == j.toList) := by
  rw [Bool.eq_iff_iff]
  cases i
  cases j
  simp
section
variable {X : Cx} {a b c : Expr} {ta tb tc : TE} {pos : Pos}
theorem fin_bl {pins : List (Addr × Obj)} {σ : St} {H : Hp} {s : Shared} {Q : VK} {k k' : Bool} (I : Inv X pins σ H s) (q : Q (.bl k) H) (e : k = k') : EP X pins σ Q (.bool k') s := by
  subst e
  exact ⟨.bl k, H, I, rfl, q⟩
theorem op_eq : OpR X (compareOp .Eq) rEq := by
  intro pins s σ H x y v u Q I rx ry h
  obtain ⟨hs, q⟩ := h
  cases x with
  | non =>
    cases rx
    cases y with
    | non => cases ry; exact PySem.EqNone.eq_none_none (fin_bl I q (by simp))
    | bl j => cases ry; exact PySem.EqNone.eq_none_bool (fin_bl I q (by simp))
    | int j => obtain ⟨t', rfl⟩ := ry; exact PySem.EqNone.eq_none_int (fin_bl I q (by simp))
    | str j => obtain ⟨t', rfl⟩ := ry; exact PySem.EqNone.eq_none_str (fin_bl I q (by simp))
    | _ => exact absurd (show false = true from hs) Bool.false_ne_true
  | bl i =>
    cases rx
    cases y with
    | non => cases ry; exact PySem.EqNone.eq_bool_none (fin_bl I q (by simp))
    | bl j => cases ry; exact eq_bool (fin_bl I q dec_bl)
    | str j => obtain ⟨t', rfl⟩ := ry; exact PySem.EqMixed.eq_bool_str (fin_bl I q (by simp))
    | _ => exact absurd (show false = true from hs) Bool.false_ne_true
  | int i =>
    obtain ⟨t, rfl⟩ := rx
    cases y with
    | non => cases ry; exact PySem.EqNone.eq_int_none (fin_bl I q (by simp))
    | int j => obtain ⟨t', rfl⟩ := ry; exact eq_int (fin_bl I q dec_int)
    | str j => obtain ⟨t', rfl⟩ := ry; exact PySem.EqMixed.eq_int_str (fin_bl I q (by simp))
    | _ => exact absurd (show false = true from hs) Bool.false_ne_true
  | str i =>
    obtain ⟨t, rfl⟩ := rx
    cases y with
    | non => cases ry; exact PySem.EqNone.eq_str_none (fin_bl I q (by simp))
    | bl j => cases ry; exact PySem.EqMixed.eq_str_bool (fin_bl I q (by simp))
    | int j => obtain ⟨t', rfl⟩ := ry; exact PySem.EqMixed.eq_str_int (fin_bl I q (by simp))
    | str j => obtain ⟨t', rfl⟩ := ry; exact eq_str (fin_bl I q dec_str)
    | _ => exact absurd (show false = true from hs) Bool.false_ne_true
  | byt i =>
    obtain ⟨t, rfl⟩ := rx
    cases y with
    | byt j => obtain ⟨t', rfl⟩ := ry; exact PySem.W.eq_bytes (fin_bl I q dec_byt)
    | _ => exact absurd (show false = true from hs) Bool.false_ne_true
  | _ => cases y <;> exact absurd (show false = true from hs) Bool.false_ne_true
theorem op_lt : OpR X (compareOp .Lt) (rI0 fun i j => .bl (decide (i < j))) := opB0 fun _ _ _ _ _ _ _ q => lt_int q
theorem op_le : OpR X (compareOp .LtE) (rI0 fun i j => .bl (decide (i ≤ j))) := opB0 fun _ _ _ _ _ _ _ q => le_int q
theorem op_gt : OpR X (compareOp .Gt) (rI0 fun i j => .bl (decide (j < i))) := opB0 fun _ _ _ _ _ _ _ q => gt_int q
theorem op_ge : OpR X (compareOp .GtE) (rI0 fun i j => .bl (decide (j ≤ i))) := opB0 fun _ _ _ _ _ _ _ q => ge_int q
theorem nomark (b : Expr) {op : CmpOp} (h : op ≠ .In := by decide) (h2 : op ≠ .NotIn := by decide) : behindInMarks op b = false := by
  have e1 : (op == CmpOp.In) = false := by cases op <;> first | rfl | exact absurd rfl h
  have e2 : (op == CmpOp.NotIn) = false := by cases op <;> first | rfl | exact absurd rfl h2
  cases b <;> simp [behindInMarks, e1, e2]
/-- a comparison as a value; hm: nomark b, or (for in, not in) by with_unfolding_all rfl -/
theorem pe_cmpR {op : CmpOp} {r : R2} (ho : OpR X (compareOp op) r) (ha : PE X a ta) (hb : PE X b tb) (hm : behindInMarks op b = false) : PE X (.Compare a [op] [b] pos) (tOp r ta tb) := by
  intro pins s σ H Q I h
  exact wpAny_Compare1 (binT ha hb I h fun v u s2 x y H2 I2 rx ry q => ho pins s2 σ H2 x y v u Q I2 rx ry q) hm
/-- a reading of a value as a test -/
def tTest (t : TE) : TT := fun σ H Q => t σ H fun x H' => ∃ k, x = .bl k ∧ Q k H'
theorem pt_cmpR {op : CmpOp} {r : R2} (ho : OpR X (compareOp op) r) (ha : PE X a ta) (hb : PE X b tb) (hm : behindInMarks op b = false) : PT X (.Compare a [op] [b] pos) (tTest (tOp r ta tb)) := by
  intro pins s σ H Q I h
  refine wpAny_isTrue_Compare1 (thn (ha pins s σ H _ I h) fun v s1 ⟨x, H1, I1, r1, q1⟩ => thn (hb pins s1 σ H1 _ I1 q1) fun u s2 ⟨y, H2, I2, r2, q2⟩ =>
    thn (ho pins s2 σ H2 x y v u _ I2 r1 r2 q2) fun c s3 ⟨z, H3, I3, r3, k, e, q3⟩ => ?_) hm
  subst e
  cases r3
  exact wpAny_truthy_bool ⟨H3, I3, q3⟩
/-- a op1 b op2 c -/
def tChain (r r' : R2) (ta tb tc : TE) : TE := fun σ H Q => ta σ H fun x H1 => tb σ H1 fun y H2 => r x y H2 fun z H3 => ∃ k, z = .bl k ∧
  (if k = true then tc σ H3 fun w' H4 => r' y w' H4 Q else Q (.bl false) H3)
theorem pt_chain {op op' : CmpOp} {r r' : R2} (ho : OpR X (compareOp op) r) (ho' : OpR X (compareOp op') r') (ha : PE X a ta) (hb : PE X b tb) (hc : PE X c tc)
    (hm : lastMarks [op, op'] [b, c] = false := by with_unfolding_all rfl) : PT X (.Compare a [op, op'] [b, c] pos) (tTest (tChain r r' ta tb tc)) := by
  intro pins s σ H Q I h
  refine isTrue_chain (thn (ha pins s σ H _ I h) fun v s1 ⟨x, H1, I1, r1, q1⟩ => test_link (thn (hb pins s1 σ H1 _ I1 q1) fun u s2 ⟨y, H2, I2, r2, q2⟩ =>
    thn (ho pins s2 σ H2 x y v u _ I2 r1 r2 q2) fun d s3 ⟨z, H3, I3, r3, k, e, q3⟩ => ?_)) hm
  subst e
  cases r3
  refine wpAny_truthy_bool ?_
  cases k with
  | false =>
    obtain ⟨k', e', q'⟩ := q3
    cases e'
    exact ite_ff ⟨H3, I3, q'⟩
  | true =>
    refine ite_tt (test_last (thn (hc pins s3 σ H3 _ I3 q3) fun w' s4 ⟨z', H4, I4, r4, q4⟩ => thn (ho' pins s4 σ H4 y z' u w' _ I4 r2 r4 q4) fun d' s5 ⟨z2, H5, I5, r5, k2, e2, q5⟩ => ?_))
    subst e2
    cases r5
    exact wpAny_truthy_bool ⟨H5, I5, q5⟩
/-! ### truth -/
/-- a value's truth by the abstract heap -/
def TruV (K : PySem.W.Frag) (x : V) (H : Hp) (k : Bool) : Prop :=
  match x with
  | .non => k = false
  | .bl b => k = b
  | .int i => k = (i != 0)
  | .str y => y.length ≤ sizeLine ∧ k = ((y.length : Int) != 0)
  | .byt y => y.size ≤ sizeLine ∧ k = ((y.size : Int) != 0)
  | .ref p => (∃ xs, SqL K H p xs ∧ k = !xs.isEmpty) ∨ (∃ xs, SqT K H p xs ∧ k = !xs.isEmpty) ∨ ∃ kvs, H p = some (.dK kvs) ∧ k = !kvs.isEmpty
  | _ => False
theorem isEmpty_kv {κ : Type} {kvs : List (κ × V)} {vs : List (κ × Value)} (r : KV kvs vs) : (!vs.isEmpty) = !kvs.isEmpty := by
  cases r <;> rfl
theorem isEmpty_of {xs : List V} {its : List Value} (r : Vals xs its) : (!its.toArray.isEmpty) = !xs.isEmpty := by
  cases r <;> simp
theorem line63 : (sizeLine : Nat) < 2 ^ 63 := by rw [sizeLine_eq]; decide
theorem tru_ok : TruR X (fun x H Q => ∃ k, TruV X.K x H k ∧ Q k H) := by
  intro pins s σ H x v Q I rx h
  obtain ⟨k, e, q⟩ := h
  have hl := line63
  have hs : sizeLine = 16777216 := sizeLine_eq
  cases x with
  | non =>
    cases rx
    have e' : k = false := e
    subst e'
    exact truthy_none ⟨H, I, q⟩
  | bl b =>
    cases rx
    have e' : k = b := e
    subst e'
    exact wpAny_truthy_bool ⟨H, I, q⟩
  | int i =>
    obtain ⟨t, rfl⟩ := rx
    have e' : k = (i != 0) := e
    subst e'
    exact PySem.P.truthy_int ⟨H, I, q⟩
  | str y =>
    obtain ⟨t, rfl⟩ := rx
    obtain ⟨hy, e'⟩ : y.length ≤ sizeLine ∧ k = ((y.length : Int) != 0) := e
    subst e'
    exact PySem.P.truthy_str (by omega) ⟨H, I.tok _, q⟩
  | byt y =>
    obtain ⟨t, rfl⟩ := rx
    obtain ⟨hy, e'⟩ : y.size ≤ sizeLine ∧ k = ((y.size : Int) != 0) := e
    subst e'
    exact PySem.W.truthy_bytes (by omega) ⟨H, I.tok _, q⟩
  | ref p =>
    cases rx
    have e' : (∃ xs, SqL X.K H p xs ∧ k = !xs.isEmpty) ∨ (∃ xs, SqT X.K H p xs ∧ k = !xs.isEmpty) ∨ ∃ kvs, H p = some (.dK kvs) ∧ k = !kvs.isEmpty := e
    rcases e' with ⟨xs, hx, e'⟩ | ⟨xs, hx, e'⟩ | ⟨kvs, hx, e'⟩
    · subst e'
      obtain ⟨its, r, pl, hz⟩ := I.list hx
      have hlen := r.length
      exact wpAny_truthy_list pl.isList (by simp only [List.size_toArray]; omega) ⟨H, I.tok _, by rw [isEmpty_of r]; exact q⟩
    · subst e'
      obtain ⟨its, r, pl, hz⟩ := I.tuple hx
      have hlen := r.length
      exact truthy_tuple pl (by simp only [List.size_toArray]; omega) ⟨H, I.tok _, by rw [isEmpty_of r]; exact q⟩
    · subst e'
      obtain ⟨hz, hS, vs, r, m⟩ : kvs.length ≤ sizeLine ∧ (p == sysModules) = false ∧ ∃ vs, KV kvs vs ∧ s.heap.DictOf (mixKind X.prog X.w) p vs := I.hok p _ hx
      have hlen : kvs.length = vs.length := Paired.length r
      exact wpAny_truthy_dict hS m (by omega) ⟨H, I.tok _, by rw [isEmpty_kv r]; exact q⟩
  | _ => exact (show False from e).elim
/-- any expression whose test is its value's truth (a name, a call, a subscript, a field ..: he by fun _ => rfl) -/
theorem pt_truth (ha : PE X a ta) (he : ∀ whole, isTrue a X.env whole = (do let v ← whole; standAt a.pos; holding [v] (truthy v))) :
    PT X a (fun σ H Q => ta σ H fun x H' => ∃ k, TruV X.K x H' k ∧ Q k H') := by
  intro pins s σ H Q I h
  exact isTrue_plain (thn (ha pins s σ H _ I h) fun v s1 ⟨x, H1, I1, r1, q1⟩ => tru_ok pins s1 σ H1 x v Q I1 r1 q1) (he _)
/-! ### strs and bytes -/
/-! ### scalar builtins, by CallR -/
theorem vals1 {x : V} {us : List Value} (r : Vals [x] us) : ∃ u, us = [u] ∧ RelV x u := by
  cases r with
  | cons r1 r2 => cases r2; exact ⟨_, rfl, r1⟩
end
end L2
namespace L2
open PySem PySem.Spec PyProof.Rows
/-! ### an instance, its attributes a map -/
structure ObjM (h : Heap) (x dx C : Addr) (mA : Str → Option Value) : Prop where
  obj : h.get? x = some (PySem.W.instObj C dx)
  ns : h.Ns1 dx mA
  ne : dx ≠ x
theorem lookIn_ns {h : Heap} {dx : Addr} {mA : Str → Option Value} (n : h.Ns1 dx mA) : ∃ od, h.get? dx = some od ∧ ∀ name, PySem.W.lookIn name od = some (mA name) := by
  obtain ⟨o, es, ep, ho, hd, hk, _, hm⟩ := n
  refine ⟨o, ho, fun name => ?_⟩
  have e := hm name
  unfold nsFind findBy at e
  rw [← Array.find?_toList] at e
  unfold PySem.W.lookIn
  rw [hd]
  dsimp only
  split
  · rename_i y q
    rw [q] at e
    exact congrArg some e
  · rename_i q
    rw [q] at e
    have a : es.toList.any (·.refKey) = false := by
      rw [List.any_eq_false]
      intro y hy
      obtain ⟨z, t, hkey⟩ := hk y (Array.mem_toList_iff.mp hy)
      simp [DictEntry.refKey, hkey]
    have a' : ¬ es.toList.any (·.refKey) = true := by rw [a]; exact Bool.false_ne_true
    rw [if_neg a']
    exact congrArg some e
theorem ObjM.look {h : Heap} {x dx C : Addr} {mA : Str → Option Value} (I : ObjM h x dx C mA) : ∃ od, PySem.W.InstAt h x (PySem.W.instObj C dx) C (some od) ∧ ∀ name, PySem.W.lookIn name od = some (mA name) :=
  let ⟨od, ho, hl⟩ := lookIn_ns I.ns
  ⟨od, ⟨I.obj, rfl, rfl, ho⟩, hl⟩
section
variable {prog : Program} {w : World} {A : Around} {E : Value → Shared → Prop} {s : Shared} {K : PySem.W.Frag} {x dx C f : Addr} {mA : Str → Option Value} {name : Str} {v : Value}
theorem get_map {expr : Bool} {Q : Value → Shared → Prop} (X : K.In s.heap) (I : ObjM s.heap x dx C mA) (hg : PySem.W.plainGet K C name = true) (hh : PySem.W.hasDictIn K C = true)
    (ha : PySem.W.findIn K (.ref C) name = some none) (hv : mA name = some v) (hv' : PySem.W.handedIn v = true) (h : Q v { s with toks := s.toks + 1 }) :
    wpAny (model prog w) A (getAttr (.ref x) name expr) Q E s := by
  obtain ⟨od, J, hl⟩ := I.look
  exact PySem.W.get_value X J (PySem.W.plainGet_of hg).1 (PySem.W.findObj_own hh ha rfl (by rw [hl, hv])) hv' h
theorem get_meth {pl : Sem Bool} {Q : Value × List Value → Shared → Prop} (X : K.In s.heap) (I : ObjM s.heap x dx C mA) (hg : PySem.W.plainGet K C name = true)
    (hf : PySem.W.findIn K (.ref C) name = some (some (.ref f))) (ht : PySem.W.isFn K (.ref f) = true) (hv : mA name = none) (h : Q (.ref f, [.ref x]) s) :
    wpAny (model prog w) A (getMethod (.ref x) name pl) Q E s := by
  obtain ⟨od, J, hl⟩ := I.look
  exact PySem.W.method_fn X J (PySem.W.plainGet_of hg).1 (PySem.W.plainGet_of hg).2 hf (beq_iff_eq.mp ht) (by show (PySem.W.lookIn name od).map (·.isSome) = some false; rw [hl, hv]; rfl) h
theorem set_map {ns : List Str} {Q : Unit → Shared → Prop} (X : K.In s.heap) (I : ObjM s.heap x dx C mA)
    (hs : PySem.W.findIn K (.ref C) "__setattr__" = some (some (.builtin "object.__setattr__"))) (hp : PySem.W.plainOver K C = true) (ht : PySem.W.takerIn K C name = some none) (hh : PySem.W.hasDictIn K C = true)
    (hw : PySem.Within mA ns) (hsz : ns.length ≤ sizeLine)
    (h : ∀ h', ObjM h' x dx C (fun y => if y = name then some v else mA y) → Heap.SameBut dx s.heap h' → Q () { s with heap := h', toks := s.toks + 2 }) :
    wpAny (model prog w) A (setAttr (.ref x) name v) Q E s := by
  obtain ⟨od, J, hl⟩ := I.look
  refine PySem.W.set_plain X J hs (PySem.W.osa_open (s := { s with toks := s.toks + 1 }) (r := none) X J hp ht fun b => ?_)
  obtain ⟨cd, hc, hd'⟩ := PySem.W.any_some hh
  have hx : s.heap.get? x = some ⟨.ref C, some dx, .plain, #[]⟩ := I.obj
  refine wpAny_bind (wpAny_pure (wpAny_bind (wpAny_bind (wpAny_loadPart hx (wpAny_bind (PySem.W.Looks.here (s := { s with toks := s.toks + 1 }) (PySem.W.looks_clsIn X hc) ?_))))))
  rw [hd']
  refine wpAny_pure (a := some dx) (wpAny_bind (wpAny_pure (wpAny_bind ?_)))
  refine wpAny_nsSet1 (s := { s with toks := s.toks + 1 }) I.ns fun h' hn2 hs2 => ?_
  obtain ⟨oD, esD, epD, hoD, hdD, hcD⟩ := hn2.count (PySem.Within.cons name v hw)
  refine wpAny_bind (wpAny_lookBehind hoD (by rw [hdD]; exact pastItsLine_dict (Nat.le_trans hcD (by rw [List.length_cons]; omega))) ?_)
  exact wpAny_pure (h _ ⟨(hs2.2 _ (Ne.symm I.ne)).trans I.obj, hn2, I.ne⟩ hs2)
/-- C(..): the dict at the heap's end, the instance behind it; then its __init__ -/
theorem make_map {R : Result → Shared → Prop} {vs : List Value} {kw : List (Str × Value)} (X : K.In s.heap) (hm : PySem.W.makesIn K C = true)
    (hi : PySem.W.findIn K (.ref C) "__init__" = some (some (.ref f))) (hf : PySem.W.typeIn K (.ref f) = some (.type "function"))
    (h : codeAny (model prog w) (A.under (.builtin "type.__call__" ⟨.ref C :: vs, kw⟩)) (.call (.ref f) ⟨.ref (s.heap.objs.size + 1) :: vs, kw⟩) (PySem.W.InitBack (s.heap.objs.size + 1) R)
      { s with heap := (s.heap.push PySem.W.emptyDict).push (PySem.W.instObj C s.heap.objs.size) }) :
    codeAny (model prog w) A (.call (.ref C) ⟨vs, kw⟩) R s := by
  obtain ⟨hh, g, d, t, os⟩ := s
  exact PySem.W.make_core (PySem.W.makes_of X hm) (PySem.W.looks_findIn X hi) (fun self => PySem.W.bind_fn X self hf) (.inl rfl) h
end
/-! ### the attributes as a list of pairs -/
def putF (f : Str) (v : V) : List (Str × V) → List (Str × V)
  | [] => [(f, v)]
  | (g, x) :: r => if g = f then (g, v) :: r else (g, x) :: putF f v r
theorem lookup_putF (f g : Str) (v : V) : ∀ fs : List (Str × V), (putF f v fs).lookup g = if g = f then some v else fs.lookup g
  | [] => by
    show List.lookup g [(f, v)] = _
    by_cases h : g = f
    · have hb : (g == f) = true := beq_iff_eq.mpr h
      simp only [List.lookup, hb, if_pos h]
    · have hb : (g == f) = false := beq_eq_false_iff_ne.mpr h
      simp only [List.lookup, hb, if_neg h]
  | (k, x) :: r => by
    have ih := lookup_putF f g v r
    rw [show putF f v ((k, x) :: r) = (if k = f then (k, v) :: r else (k, x) :: putF f v r) from rfl]
    by_cases hk : k = f
    · rw [if_pos hk]
      by_cases h : g = k
      · have hb : (g == k) = true := beq_iff_eq.mpr h
        simp only [List.lookup, hb, if_pos (h.trans hk)]
      · have hb : (g == k) = false := beq_eq_false_iff_ne.mpr h
        simp only [List.lookup, hb, if_neg (fun e : g = f => h (e.trans hk.symm))]
    · rw [if_neg hk]
      by_cases h : g = k
      · have hb : (g == k) = true := beq_iff_eq.mpr h
        simp only [List.lookup, hb, if_neg (fun e : g = f => hk (h.symm.trans e))]
      · have hb : (g == k) = false := beq_eq_false_iff_ne.mpr h
        simp only [List.lookup, hb]
        exact ih
theorem keys_putF (f : Str) (v : V) : ∀ fs : List (Str × V), f ∈ (putF f v fs).map (·.1) ∧ ∀ g, g ∈ fs.map (·.1) → g ∈ (putF f v fs).map (·.1)
  | [] => ⟨by simp [putF], fun g h => by simp at h⟩
  | (k, x) :: r => by
    obtain ⟨i1, i2⟩ := keys_putF f v r
    rw [show putF f v ((k, x) :: r) = (if k = f then (k, v) :: r else (k, x) :: putF f v r) from rfl]
    by_cases hk : k = f
    · rw [if_pos hk]
      subst hk
      exact ⟨by simp, fun g h => by simpa using h⟩
    · rw [if_neg hk]
      refine ⟨?_, fun g h => ?_⟩
      · rw [List.map_cons]
        exact List.mem_cons_of_mem _ i1
      · rw [List.map_cons] at h ⊢
        rcases List.mem_cons.mp h with e | e
        · exact List.mem_cons.mpr (.inl e)
        · exact List.mem_cons_of_mem _ (i2 g e)
theorem length_putF (f : Str) (v : V) : ∀ fs : List (Str × V), (putF f v fs).length ≤ fs.length + 1
  | [] => by simp [putF]
  | (k, x) :: r => by
    have ih := length_putF f v r
    rw [show putF f v ((k, x) :: r) = (if k = f then (k, v) :: r else (k, x) :: putF f v r) from rfl]
    by_cases hk : k = f
    · rw [if_pos hk, List.length_cons, List.length_cons]; omega
    · rw [if_neg hk, List.length_cons, List.length_cons]; omega
theorem RelO.some_of {v : V} {o : Option Value} (r : RelO (some v) o) : ∃ u, o = some u ∧ RelV v u := by
  cases o with
  | none => exact (show False from r).elim
  | some u => exact ⟨u, rfl, r⟩
theorem RelO.none_of {o : Option Value} (r : RelO none o) : o = none := by
  cases o with
  | none => rfl
  | some u => exact (show False from r).elim
theorem handed_of {v : V} {u : Value} (r : RelV v u) : PySem.W.handedIn u = true := by
  cases v with
  | non => cases (show u = Value.none from r); rfl
  | bl b => cases (show u = Value.bool b from r); rfl
  | int i => obtain ⟨t, e⟩ := (show ∃ t, u = Value.int i t from r); cases e; rfl
  | str x => obtain ⟨t, e⟩ := (show ∃ t, u = Value.str x t from r); cases e; rfl
  | byt b => obtain ⟨t, e⟩ := (show ∃ t, u = Value.bytes b t from r); cases e; rfl
  | flt b => obtain ⟨t, e⟩ := (show ∃ t, u = Value.float b t from r); cases e; rfl
  | ref a => cases (show u = Value.ref a from r); rfl
  | ty n => cases (show u = Value.type n from r); rfl
section
variable {P : Program} {w : World} {H H' : Hp} {h h' : Heap} {a C dx : Addr} {fs fs' : List (Str × V)}
theorem ins_get (hok : HOk P w H h) (e : H a = some (.ins C dx fs)) : ∃ mA, ObjM h a dx C mA ∧ (∀ f, RelO (fs.lookup f) (mA f)) ∧ PySem.Within mA (fs.map (·.1)) ∧ fs.length ≤ 1000 ∧ H dx = some (.own a) := by
  obtain ⟨d, z, ne, ob, mA, n, r, q⟩ := (show ObjOk P w H h a (.ins C dx fs) from hok a _ e)
  exact ⟨mA, ⟨ob, n, ne⟩, r, q, z, d⟩
end
/-! ### what of the text a class must have -/
structure Cls (K : PySem.W.Frag) (C : Addr) : Prop where
  pg : PySem.W.plainGet K C Str.empty = true
  hd : PySem.W.hasDictIn K C = true
  po : PySem.W.plainOver K C = true
  sa : PySem.W.findIn K (.ref C) "__setattr__" = some (some (.builtin "object.__setattr__"))
theorem Cls.get {K : PySem.W.Frag} {C : Addr} (c : Cls K C) (f : Str) : PySem.W.plainGet K C f = true := c.pg
/-- no class of it has the name -/
def NoAttr (K : PySem.W.Frag) (C : Addr) (f : Str) : Prop := PySem.W.findIn K (.ref C) f = some none
theorem NoAttr.taker {K : PySem.W.Frag} {C : Addr} {f : Str} (n : NoAttr K C f) : PySem.W.takerIn K C f = some none := by
  unfold PySem.W.takerIn
  rw [show PySem.W.findIn K (.ref C) f = some none from n]
  rfl
/-- a method: a plain def of the class or of one above it -/
structure Meth (K : PySem.W.Frag) (C : Addr) (m : Str) (f : Addr) : Prop where
  at_ : PySem.W.findIn K (.ref C) m = some (some (.ref f))
  fn : PySem.W.isFn K (.ref f) = true
  kp : PySem.W.keepIn K (.ref f) = true
section
variable {X : Cx} {pins : List (Addr × Obj)} {σ : St} {H : Hp} {s : Shared} {a C dx : Addr} {fs : List (Str × V)} {f : Str} {v : V} {A : Around} {E : Value → Shared → Prop}
theorem getattr_ok {b : Bool} {Q : Value → Shared → Prop} (I : Inv X pins σ H s) (e : H a = some (.ins C dx fs)) (c : Cls X.K C) (n : NoAttr X.K C f) (l : fs.lookup f = some v)
    (h : ∀ u s', Inv X pins σ H s' → RelV v u → Q u s') : wpAny (model X.prog X.w) A (getAttr (.ref a) f b) Q E s := by
  obtain ⟨mA, O, r, _, _, _⟩ := ins_get I.hok e
  obtain ⟨u, hu, ru⟩ := RelO.some_of (v := v) (o := mA f) (by rw [← l]; exact r f)
  exact get_map I.kIn O (c.get f) c.hd n hu (handed_of ru) (h u _ (I.tok _) ru)
theorem getmeth_ok {m : Str} {g : Addr} {pl : Sem Bool} {Q : Value × List Value → Shared → Prop} (I : Inv X pins σ H s) (e : H a = some (.ins C dx fs)) (c : Cls X.K C) (k : Meth X.K C m g) (l : fs.lookup m = none)
    (h : Q (.ref g, [.ref a]) s) : wpAny (model X.prog X.w) A (getMethod (.ref a) m pl) Q E s := by
  obtain ⟨mA, O, r, _, _, _⟩ := ins_get I.hok e
  have hn : mA m = none := RelO.none_of (by rw [← l]; exact r m)
  exact get_meth I.kIn O (c.get m) k.at_ k.fn hn h
theorem setattr_ok {y : V} {u : Value} {Q : Unit → Shared → Prop} (I : Inv X pins σ H s) (e : H a = some (.ins C dx fs)) (c : Cls X.K C) (n : NoAttr X.K C f) (hl : fs.length < 1000) (ry : RelV y u)
    (h : ∀ s', Inv X pins σ (upd H a (.ins C dx (putF f y fs))) s' → Q () s') : wpAny (model X.prog X.w) A (setAttr (.ref a) f u) Q E s := by
  obtain ⟨mA, O, r, wi, _, ho⟩ := ins_get I.hok e
  have hz : (fs.map (·.1)).length ≤ sizeLine := by rw [List.length_map, sizeLine_eq]; omega
  refine set_map I.kIn O c.sa c.po n.taker c.hd wi hz fun h' O' sb => h _ ?_
  have hd : ∃ o, h'.get? dx = some o := let ⟨o, _, _, e', _⟩ := O'.ns; ⟨o, e'⟩
  refine I.write (x := a) (e := dx) (by rw [e]; exact True.intro) (.inr ho) (fun b q hb z => (sb.2 b hb).trans z) hd ?_
  refine ⟨by rw [upd_ne O.ne]; exact ho, ?_, O.ne, O'.obj, _, O'.ns, fun g => ?_, fun g hg => ?_⟩
  · have := length_putF f y fs; omega
  · show RelO ((putF f y fs).lookup g) (if g = f then some u else mA g)
    rw [lookup_putF]
    by_cases q : g = f
    · rw [if_pos q, if_pos q]; exact ry
    · rw [if_neg q, if_neg q]; exact r g
  · by_cases q : g = f
    · rw [q]; exact (keys_putF f y fs).1
    · refine (keys_putF f y fs).2 g (wi g fun z => hg ?_)
      show (if g = f then some u else mA g) = none
      rw [if_neg q]; exact z
/-- a new instance, tracked, without attributes -/
theorem Inv.made (I : Inv X pins σ H s) : Inv X pins σ (upd (upd H s.heap.objs.size (.own (s.heap.objs.size + 1))) (s.heap.objs.size + 1) (.ins C s.heap.objs.size []))
    { s with heap := (s.heap.push PySem.W.emptyDict).push (PySem.W.instObj C s.heap.objs.size) } := by
  have e1 : (s.heap.push PySem.W.emptyDict).get? s.heap.objs.size = some PySem.W.emptyDict := Heap.get?_push_size s.heap rfl
  have e2 : ((s.heap.push PySem.W.emptyDict).push (PySem.W.instObj C s.heap.objs.size)).get? (s.heap.objs.size + 1) = some (PySem.W.instObj C s.heap.objs.size) := by
    have := Heap.get?_push_size (s.heap.push PySem.W.emptyDict) (o := PySem.W.instObj C s.heap.objs.size) rfl
    rwa [Heap.size_push] at this
  have e3 : (s.heap.push PySem.W.emptyDict).Ns s.heap.objs.size (fun _ => none) := ⟨PySem.W.emptyDict, #[], _, e1, rfl, (fun e he => absurd he (by simp)), fun _ => rfl⟩
  have I1 := I.laid (a := s.heap.objs.size) (o := .own (s.heap.objs.size + 1)) (h' := s.heap.push PySem.W.emptyDict) (t' := s.toks) (fun b u q => Heap.get?_push_of_some _ q) (Nat.le_refl _) ⟨_, e1⟩
  refine I1.laid (a := s.heap.objs.size + 1) (o := .ins C s.heap.objs.size []) (t' := s.toks) (fun b u q => Heap.get?_push_of_some _ q) (Nat.le_of_eq (Heap.size_push _ _)) ?_
  have ne : s.heap.objs.size ≠ s.heap.objs.size + 1 := Nat.ne_of_lt (Nat.lt_succ_self _)
  refine ⟨by rw [upd_ne ne, upd_same], Nat.zero_le _, ne, e2, fun _ => none, (Heap.Ns1.of_empty e3).at fun o q => Heap.get?_push_of_some _ q, fun _ => True.intro, fun y hy => absurd rfl hy⟩
/-- e.f where nothing but the object is asked: through attributeBase (super) and the last hold -/
theorem attr_of {prog : Program} {w : World} {env : Env} {e : Expr} {f : Str} {pos : Pos} {s : Shared} {Q : Value → Shared → Prop} (hb : attributeBase e f env (eval e env) = eval e env)
    (h : wpAny (model prog w) A (eval e env) (fun o s₁ => wpAny (model prog w) A (getAttr o f true) Q E s₁) E s) : wpAny (model prog w) A (eval (.Attribute e f pos) env) Q E s :=
  Attribute_any_ h (by rw [arm_eval_Attribute, hb])
end
/-! ### readings and rules -/
/-- e.f, an attribute of the instance -/
def tFld (K : PySem.W.Frag) (ta : TE) (f : Str) : TE := fun σ H Q => ta σ H fun x H1 => ∃ a C dx fs v, x = .ref a ∧ H1 a = some (.ins C dx fs) ∧ Cls K C ∧ NoAttr K C f ∧ fs.lookup f = some v ∧ Q v H1
/-- e.f = value -/
def sFld (K : PySem.W.Frag) (ta tv : TE) (f : Str) : TS := fun D σ H => tv σ H fun y H1 => ta σ H1 fun x H2 => ∃ a C dx fs, x = .ref a ∧ H2 a = some (.ins C dx fs) ∧ Cls K C ∧ NoAttr K C f ∧ fs.length < 1000 ∧
  D.nx σ (upd H2 a (.ins C dx (putF f y fs)))
section
variable {X : Cx} {o e value : Expr} {f : Str} {pos pos' tpos : Pos} {ta tv : TE}
theorem pe_fld (he : PE X e ta) (hb : attributeBase e f X.env (eval e X.env) = eval e X.env) : PE X (.Attribute e f pos) (tFld X.K ta f) := by
  intro pins s σ H Q I h
  refine attr_of hb (thn (he pins s σ H _ I h) fun u s1 ⟨x, H1, I1, rx, a, C, dx, fs, v, ex, ea, c, n, l, q⟩ => ?_)
  subst ex
  obtain rfl : u = Value.ref a := rx
  exact getattr_ok I1 ea c n l fun u' s2 I2 ru => ⟨v, H1, I2, ru, q⟩
theorem ps_fld (ha : PE X o ta) (hv : PE X value tv) (hs : swapsWith value (some (.Attribute o f pos')) pos.line X.env = pure false) : PS X (.Assign [.Attribute o f pos'] value pos) (sFld X.K ta tv f) := by
  intro pins s σ H D I h
  refine plainObj_wpAny_Assign_Attribute (thn (hv pins s σ H _ I h) fun u s1 ⟨y, H1, I1, ry, q⟩ => thn (ha pins s1 σ H1 _ I1 q) fun ov s2 ⟨x, H2, I2, rx, a, C, dx, fs, ex, ea, c, n, l, q2⟩ => ?_) hs
  subst ex
  obtain rfl : ov = Value.ref a := rx
  exact setattr_ok I2 ea c n l ry fun s3 I3 => ⟨σ, _, I3, q2⟩
end
/-! ### isinstance -/
section
variable {X : Cx} {pins : List (Addr × Obj)} {σ : St} {H : Hp} {s : Shared} {A : Around} {E : Value → Shared → Prop} {Q : Value → Shared → Prop} {c : Value} {b : Bool}
end
end L2
namespace L2
open PySem PySem.Spec PyProof.Rows
/-! ### room -/
structure Room (k : Nat) (A : Around) : Prop where
  hd : A.handled = none
  dp : A.depth + 3 * k + 5 < recursionLimit
  un : A.units + 16 * k + 200 < cLine
theorem Room.mono {j k : Nat} {A : Around} (r : Room k A) (h : j ≤ k) : Room j A := ⟨r.hd, by have := r.dp; omega, by have := r.un; omega⟩
theorem Room.deeper {k : Nat} {A : Around} (r : Room (k + 1) A) (env : Env) : Room k (A.deeper env) :=
  ⟨r.hd, by have := r.dp; show A.depth + 1 + 3 * k + 5 < _; omega, by have := r.un; show A.units + 3 + 16 * k + 200 < _; omega⟩
theorem Room.in1 {k : Nat} {A : Around} (r : Room (k + 1) A) : Room k A.in1 :=
  ⟨r.hd, by have := r.dp; show A.depth + 3 * k + 5 < _; omega, by have := r.un; show A.units + 1 + 16 * k + 200 < _; omega⟩
theorem make_depth {A : Around} {C : Addr} {us : List Value} {kw : List (Str × Value)} : (A.under (.builtin "type.__call__" ⟨.ref C :: us, kw⟩)).depth = A.depth + 1 := by
  first | rfl | simp [Around.under, Code.weight, Code.isCreation, Code.isGuard, Code.isCaller, Code.frames, Code.isFrame, guardIds]
theorem make_units {A : Around} {C : Addr} {us : List Value} {kw : List (Str × Value)} : (A.under (.builtin "type.__call__" ⟨.ref C :: us, kw⟩)).units = A.units + 1 := by
  first | rfl | simp [Around.under, Code.cUnits, Code.frames, Code.isFrame]
theorem Room.make {k : Nat} {A : Around} (r : Room (k + 1) A) (C : Addr) (us : List Value) (kw : List (Str × Value)) : Room k (A.under (.builtin "type.__call__" ⟨.ref C :: us, kw⟩)) :=
  ⟨r.hd, by have := r.dp; rw [make_depth]; omega, by have := r.un; rw [make_units]; omega⟩
theorem Room.depth {k : Nat} {A : Around} (r : Room k A) : A.depth < recursionLimit := by have := r.dp; omega
theorem Room.units {k : Nat} {A : Around} (r : Room k A) : A.units + 64 < cLine := by have := r.un; omega
/-! ### argument lists and displays -/
def tNil : TA := fun _ H Q => Q [] H
def tCons (ta : TE) (tr : TA) : TA := fun σ H Q => ta σ H fun x H1 => tr σ H1 fun xs H2 => Q (x :: xs) H2
section
variable {X : Cx} {e : Expr} {es : List Expr} {te : TE} {t : TA} {pos : Pos}
theorem pa_nil : PA X [] tNil := fun _ _ _ _ H Q I h => Calls.spliced_nil ⟨[], H, I, .nil, h⟩
theorem pa_cons (ha : PE X e te) (hr : PA X es t) (hs : starEach (e :: es) X.env = (false, eval e X.env) :: starEach es X.env := by rfl) : PA X (e :: es) (tCons te t) := by
  intro pos pins s σ H Q I h
  rw [hs]
  show wpAny _ _ (spliced ((false, eval e X.env) :: backTo pos (starEach es X.env))) _ _ s
  refine Calls.spliced_cons (thn (ha pins s σ H _ I h) fun u s1 ⟨x, H1, I1, r1, q1⟩ => ?_)
  exact thn (hr pos pins s1 σ H1 _ I1 q1) fun us s2 ⟨xs, H2, I2, r2, q2⟩ => ⟨x :: xs, H2, I2, .cons r1 r2, q2⟩
/-- a tuple, a list of written items -/
def tTup (t : TA) : TE := fun σ H Q => t σ H fun xs H1 => xs.length ≤ sizeLine ∧ ∀ p, H1 p = none → Q (.ref p) (upd H1 p (.tup xs))
def tLst (t : TA) : TE := fun σ H Q => t σ H fun xs H1 => xs.length ≤ sizeLine ∧ ∀ p, H1 p = none → Q (.ref p) (upd H1 p (.lst xs))
theorem pe_tup {x1} (h : PA X es t) : PE X (.Tuple es x1 pos) (tTup t) := by
  intro pins s σ H Q I hq
  refine wpAny_Tuple_spliced (thn (h pos pins s σ H _ I hq) fun us s1 ⟨xs, H1, I1, r, z, q⟩ => ⟨by rw [← r.length]; exact z, ?_⟩)
  have hf : H1 s1.heap.objs.size = none := I1.hok.fresh (Nat.le_refl _)
  refine ⟨.ref s1.heap.objs.size, upd H1 s1.heap.objs.size (.tup xs), I1.laid (t' := s1.toks) (fun b u e => Heap.get?_push_of_some _ e) (Nat.le_refl _) ?_, rfl, q _ hf⟩
  exact ⟨z, us, r, ⟨_, Heap.get?_push_size _ rfl, rfl, _, rfl⟩⟩
theorem pe_lst (h : PA X es t) : PE X (.List es pos) (tLst t) := by
  intro pins s σ H Q I hq
  refine wpAny_List_spliced (thn (h pos pins s σ H _ I hq) fun us s1 ⟨xs, H1, I1, r, z, q⟩ => ⟨by rw [← r.length]; exact z, ?_⟩)
  have hf : H1 s1.heap.objs.size = none := I1.hok.fresh (Nat.le_refl _)
  refine ⟨.ref s1.heap.objs.size, upd H1 s1.heap.objs.size (.lst xs), I1.laid (t' := s1.toks) (fun b u e => Heap.get?_push_of_some _ e) (Nat.le_refl _) ?_, rfl, q _ hf⟩
  exact ⟨z, us, 0, r, Heap.get?_push_size _ rfl⟩
end
/-! ### what a def promises -/
/-- a def's promise: the bound arguments in the parameters' order, the heap, the wanted end, the wanted exception -/
abbrev Sp := List V → Hp → VK → XK → Prop
/-- how an exception lies behind a call (file 08 gives it): the callers' frames, abstract heap and state ahead of the call, the wish, the exception, the state -/
abbrev CXT := List Env → Hp → Shared → XK → Value → Shared → Prop
/-- the state at a call -/
structure Env0 (P : Program) (w : World) (K : PySem.W.Frag) (mg : Str → Option Value) (base : Heap) (A : Around) (outer : List Env) (s : Shared) (H : Hp) : Prop where
  frames : A.frames = some outer
  mod : Mod K mg base
  bs : ∀ b o, base.get? b = some o → s.heap.get? b = some o ∧ H b = none
  bsz : base.objs.size ≤ s.heap.objs.size
  funs : s.heap.FunFrames base outer
  frf : ∀ b ∈ frs outer, H b = none
  hok : HOk P w H s.heap
  bare : AllBare s.gens
/-- a call's end -/
def CE (outer : List Env) (P : Program) (w : World) (H : Hp) (s : Shared) (Q : VK) (u : Value) (s' : Shared) : Prop :=
  ∃ v H', s'.os = s.os ∧ AllBare s'.gens ∧ Un (frs outer) [] H H' s.heap s'.heap ∧ HOk P w H' s'.heap ∧ RelV v u ∧ Q v H'
def CR (CX : CXT) (outer : List Env) (P : Program) (w : World) (H : Hp) (s : Shared) (Q : VK) (E : XK) (r : Result) (s' : Shared) : Prop :=
  match r with
  | .ok (.ret u) => CE outer P w H s Q u s'
  | .ok _ => False
  | .error e => CX outer H s E e s'
structure FnOk (P : Program) (w : World) (K : PySem.W.Frag) (mg : Str → Option Value) (base : Heap) (CX : CXT) (k : Nat) (f : Addr) (fd : FuncData) (ps : List Str) (sp : Sp) : Prop where
  len : ∀ vs H Q E, sp vs H Q E → vs.length = ps.length
  run : ∀ (A : Around) (outer : List Env) (s : Shared) (H : Hp) (args : Args) (us : List Value) (vs : List V) (Q : VK) (E : XK), Room k A → Env0 P w K mg base A outer s H → BindsTo s fd args (ps.zip us) → Vals vs us → sp vs H Q E →
    codeAny (model P w) A (.call (.ref f) args) (CR CX outer P w H s Q E) s
theorem Env0.make {P : Program} {w : World} {K : PySem.W.Frag} {mg : Str → Option Value} {base : Heap} {A : Around} {outer : List Env} {s : Shared} {H : Hp} (e : Env0 P w K mg base A outer s H) (C : Addr) (us : List Value) (kw : List (Str × Value)) :
    Env0 P w K mg base (A.under (.builtin "type.__call__" ⟨.ref C :: us, kw⟩)) outer s H := ⟨by first | exact e.frames | (simpa [Around.under, Code.envs, Code.isFrame, pushEnvs] using e.frames), e.mod, e.bs, e.bsz, e.funs, e.frf, e.hok, e.bare⟩
theorem Env0.in1 {P : Program} {w : World} {K : PySem.W.Frag} {mg : Str → Option Value} {base : Heap} {A : Around} {outer : List Env} {s : Shared} {H : Hp} (e : Env0 P w K mg base A outer s H) :
    Env0 P w K mg base A.in1 outer s H := ⟨e.frames, e.mod, e.bs, e.bsz, e.funs, e.frf, e.hok, e.bare⟩
section
variable {X : Cx} {pins : List (Addr × Obj)} {σ : St} {H : Hp} {s s' : Shared}
/-- from a body: what a callee wants -/
theorem Inv.env0 (I : Inv X pins σ H s) : Env0 X.prog X.w X.K X.mg X.base X.A X.stack s H :=
  ⟨I.ok.frames, I.ok.mod, I.bs, Nat.le_trans I.ok.bsz I.sz, I.stack, I.stkFree, I.hok, I.bare⟩
/-- behind a call -/
theorem Inv.after {Q : VK} {u : Value} (I : Inv X pins σ H s) (h : CE X.stack X.prog X.w H s Q u s') : EP X pins σ Q u s' := by
  obtain ⟨v, H', os, bare, un, hok, r, q⟩ := h
  obtain ⟨hh, g, d, t, os'⟩ := s'
  obtain rfl : os' = s.os := os
  exact ⟨v, H', I.call (h' := hh) (g' := g) (d' := d) (t' := t) (ch := []) un hok bare (fun b z => absurd z (by simp)), r, q⟩
end
/-! ### calls -/
/-- f(..): the written arguments, then the defaults dvs; E: what is wanted of an exception -/
def tCall (sp : Sp) (dvs : List V) (E : XK) (t : TA) : TE := fun σ H Q => t σ H fun vs H1 => sp (vs ++ dvs) H1 Q E
/-- o.m(..) of an instance of the class at C -/
def tMeth (C : Addr) (m : Str) (sp : Sp) (dvs : List V) (E : XK) (ta : TE) (t : TA) : TE := fun σ H Q => ta σ H fun x H1 => ∃ a dx fs, x = .ref a ∧ H1 a = some (.ins C dx fs) ∧ fs.lookup m = none ∧
  t σ H1 fun vs H2 => sp (x :: (vs ++ dvs)) H2 Q E
/-- C(..): a new instance and its dict, then __init__ -/
def tMake (C : Addr) (sp : Sp) (dvs : List V) (E : XK) (t : TA) : TE := fun σ H Q => t σ H fun vs H1 => ∀ x dx, H1 x = none → H1 dx = none → dx ≠ x →
  sp (.ref x :: (vs ++ dvs)) (upd (upd H1 dx (.own x)) x (.ins C dx [])) (fun v H2 => v = .non ∧ Q (.ref x) H2) E
/-- how the parameters are bound: us the positional arguments, kw the keywords' values by name, ds the defaults that fill up -/
def Binds (K : PySem.W.Frag) (fd : FuncData) (ps : List Str) (ds : List Value) : Prop :=
  ∀ (s : Shared) (us : List Value), K.In s.heap → (us ++ ds).length = ps.length → BindsTo s fd ⟨us, []⟩ (ps.zip (us ++ ds))
/-- every parameter is given -/
theorem Binds.all {K : PySem.W.Frag} {fd : FuncData} {ps : List Str} (h : ∀ us : List Value, us.length = ps.length → bindArgs fd ⟨us, []⟩ = pure (ps.zip us)) : Binds K fd ps [] := fun s us _ hl => by
  rw [List.append_nil] at hl ⊢
  exact .of_eq (h us hl)
/-- an exception of a callee reaches what this body wants of exceptions -/
def Passes (CX : CXT) (X : Cx) (E : XK) : Prop := ∀ (pins : List (Addr × Obj)) (σ : St) (H : Hp) (s : Shared) (e : Value) (s' : Shared), Inv X pins σ H s → CX X.stack H s E e s' → X.xe e s'
section
variable {X : Cx} {CX : CXT} {k : Nat} {f C : Addr} {fd : FuncData} {ps : List Str} {sp : Sp} {dvs : List V} {ds : List Value} {E : XK} {x m : Str} {p pos apos : Pos} {e o : Expr} {es : List Expr} {ta : TE} {t : TA}
/-- the callee runs -/
theorem run_fn {pins : List (Addr × Obj)} {σ : St} {H : Hp} {s : Shared} {Q : VK} {us : List Value} {vs : List V} (F : FnOk X.prog X.w X.K X.mg X.base CX k f fd ps sp) (hr : Room k X.A) (hb : Binds X.K fd ps ds) (hd : Vals dvs ds) (hx : Passes CX X E)
    (I : Inv X pins σ H s) (r : Vals vs us) (h : sp (vs ++ dvs) H Q E) : wpAny (model X.prog X.w) X.A (call (.ref f) us) (EP X pins σ Q) X.xe s := by
  have r2 : Vals (vs ++ dvs) (us ++ ds) := r.append hd
  have hl : (us ++ ds).length = ps.length := by rw [← r2.length]; exact F.len _ _ _ _ h
  refine wpAny_call (codeAny_mono (F.run X.A X.stack s H ⟨us, []⟩ (us ++ ds) (vs ++ dvs) Q E hr I.env0 (hb s us I.kIn hl) r2 h) fun r s' hq => ?_)
  cases r with
  | error e => exact hx pins σ H s e s' I hq
  | ok fl =>
    cases fl with
    | ret u => exact I.after hq
    | next => exact False.elim hq
    | brk => exact False.elim hq
    | cont => exact False.elim hq
theorem pe_call (F : FnOk X.prog X.w X.K X.mg X.base CX k f fd ps sp) (hr : Room k X.A) (hg : Gl X x) (hm : X.mg x = some (.ref f)) (hk : PySem.W.keepIn X.K (.ref f) = true) (hb : Binds X.K fd ps ds) (hd : Vals dvs ds) (hx : Passes CX X E)
    (ha : PA X (e :: es) t) (hdb : (x == ("__debug__" : Str)) = false := by decide) (he : starEach (e :: es) X.env = (false, eval e X.env) :: starEach es X.env := by rfl) (hpl : (backTo pos (starEach es X.env)).any (·.1) = false := by rfl) :
    PE X (.Call (.Name x p) (e :: es) [] pos) (tCall sp dvs E t) := by
  intro pins s σ H Q I h
  refine wpAny_Call_Name_kw (ld_glob I hg hm ?_ hdb)
  refine PySem.W.callWith_K (h₀ := X.base) I.ok.mod.kin hk (thn (ha pos pins s σ H _ I h) fun us s1 ⟨vs, H1, I1, r, q⟩ => ⟨I1.kIn, ?_⟩) he hpl
  exact run_fn F hr hb hd hx I1 r q
/-- o.m(e, ..) -/
theorem pe_meth {pl : Sem Bool} (he : PE X o ta) (c : Cls X.K C) (hm : Meth X.K C m f) (F : FnOk X.prog X.w X.K X.mg X.base CX k f fd ps sp) (hr : Room k X.A) (hb : Binds X.K fd ps ds) (hd : Vals dvs ds) (hx : Passes CX X E) (ha : PA X (e :: es) t)
    (hst : starEach (e :: es) X.env = (false, eval e X.env) :: starEach es X.env := by rfl) (hpl : (backTo pos (starEach es X.env)).any (·.1) = false := by rfl)
    (ht : eval (.Call (.Attribute o m apos) (e :: es) [] pos) X.env = (do
      let ov ← eval o X.env
      standAt apos.atName
      let (f, first) ← holding [ov] (getMethod ov m pl)
      callWith pos f first (backTo pos (starEach (e :: es) X.env)) (backToKw pos (keywordEach [] X.env))) := by rfl) :
    PE X (.Call (.Attribute o m apos) (e :: es) [] pos) (tMeth C m sp dvs E ta t) := by
  intro pins s σ H Q I h
  refine PySem.W.methodCall_KW (pl := pl) (thn (he pins s σ H _ I h) fun u s1 ⟨x, H1, I1, rx, a, dx, fs, ex, ea, l, q⟩ => ?_) ht
  subst ex
  obtain rfl : u = Value.ref a := rx
  refine getmeth_ok I1 ea c hm l ?_
  refine PySem.W.callWith_K (first := [.ref a]) (h₀ := X.base) I.ok.mod.kin hm.kp (thn (ha pos pins s1 σ H1 _ I1 q) fun us s2 ⟨vs, H2, I2, r, q2⟩ => ⟨I2.kIn, ?_⟩) hst hpl
  exact run_fn (us := .ref a :: us) (vs := .ref a :: vs) F hr hb hd hx I2 (.cons rfl r) q2
/-- o.m() -/
theorem pe_meth0 {pl : Sem Bool} (he : PE X o ta) (c : Cls X.K C) (hm : Meth X.K C m f) (F : FnOk X.prog X.w X.K X.mg X.base CX k f fd ps sp) (hr : Room k X.A) (hb : Binds X.K fd ps ds) (hd : Vals dvs ds) (hx : Passes CX X E)
    (ht : eval (.Call (.Attribute o m apos) [] [] pos) X.env = (do
      let ov ← eval o X.env
      standAt apos.atName
      let (f, first) ← holding [ov] (getMethod ov m pl)
      callWith pos f first (backTo pos (starEach [] X.env)) (backToKw pos (keywordEach [] X.env))) := by rfl) :
    PE X (.Call (.Attribute o m apos) [] [] pos) (tMeth C m sp dvs E ta tNil) := by
  intro pins s σ H Q I h
  refine PySem.W.methodCall_KW (pl := pl) (thn (he pins s σ H _ I h) fun u s1 ⟨x, H1, I1, rx, a, dx, fs, ex, ea, l, q⟩ => ?_) ht
  subst ex
  obtain rfl : u = Value.ref a := rx
  refine getmeth_ok I1 ea c hm l ?_
  exact PySem.W.callWith_K0 (first := [.ref a]) I1.kIn hm.kp (run_fn (us := [.ref a]) (vs := [.ref a]) F hr hb hd hx I1 (.cons rfl .nil) q)
/-- what a class must have to be made -/
structure Mk (K : PySem.W.Frag) (C f : Addr) : Prop where
  makes : PySem.W.makesIn K C = true
  init : PySem.W.findIn K (.ref C) "__init__" = some (some (.ref f))
  fn : PySem.W.isFn K (.ref f) = true
  kp : PySem.W.keepIn K (.ref C) = true
theorem run_make {pins : List (Addr × Obj)} {σ : St} {H : Hp} {s : Shared} {Q : VK} {us : List Value} {vs : List V} (M : Mk X.K C f) (F : FnOk X.prog X.w X.K X.mg X.base CX k f fd ps sp) (hr : Room (k + 1) X.A) (hb : Binds X.K fd ps ds) (hd : Vals dvs ds)
    (hx : Passes CX X E) (I : Inv X pins σ H s) (r : Vals vs us)
    (h : ∀ x dx, H x = none → H dx = none → dx ≠ x → sp (.ref x :: (vs ++ dvs)) (upd (upd H dx (.own x)) x (.ins C dx [])) (fun v H2 => v = .non ∧ Q (.ref x) H2) E) :
    wpAny (model X.prog X.w) X.A (call (.ref C) us) (EP X pins σ Q) X.xe s := by
  have hq := h (s.heap.objs.size + 1) s.heap.objs.size (I.hok.fresh (Nat.le_succ _)) (I.hok.fresh (Nat.le_refl _)) (Nat.ne_of_lt (Nat.lt_succ_self _))
  have I2 := Inv.made (C := C) I
  have r2 : Vals (V.ref (s.heap.objs.size + 1) :: (vs ++ dvs)) (Value.ref (s.heap.objs.size + 1) :: (us ++ ds)) := .cons rfl (r.append hd)
  have hl : (Value.ref (s.heap.objs.size + 1) :: us ++ ds).length = ps.length := by
    have e := r2.length
    rw [F.len _ _ _ _ hq] at e
    exact e.symm
  refine wpAny_call (make_map (f := f) I.kIn M.makes M.init (beq_iff_eq.mp M.fn) (codeAny_mono (F.run _ X.stack _ _ ⟨Value.ref (s.heap.objs.size + 1) :: us, []⟩ (Value.ref (s.heap.objs.size + 1) :: (us ++ ds)) _ _ E (hr.make C us [])
    (I2.env0.make C us []) (hb _ (Value.ref (s.heap.objs.size + 1) :: us) I2.kIn hl) r2 hq) fun r s' hq' => ?_))
  cases r with
  | error e => exact hx pins σ _ _ e s' I2 hq'
  | ok fl =>
    cases fl with
    | ret u =>
      obtain ⟨v, H', I3, rv, ev, q3⟩ := I2.after hq'
      subst ev
      exact ⟨rv, ⟨V.ref (s.heap.objs.size + 1), H', I3, rfl, q3⟩⟩
    | next => exact False.elim hq'
    | brk => exact False.elim hq'
    | cont => exact False.elim hq'
theorem pe_make (M : Mk X.K C f) (F : FnOk X.prog X.w X.K X.mg X.base CX k f fd ps sp) (hr : Room (k + 1) X.A) (hg : Gl X x) (hm : X.mg x = some (.ref C)) (hb : Binds X.K fd ps ds) (hd : Vals dvs ds) (hx : Passes CX X E)
    (ha : PA X (e :: es) t) (hdb : (x == ("__debug__" : Str)) = false := by decide) (he : starEach (e :: es) X.env = (false, eval e X.env) :: starEach es X.env := by rfl) (hpl : (backTo pos (starEach es X.env)).any (·.1) = false := by rfl) :
    PE X (.Call (.Name x p) (e :: es) [] pos) (tMake C sp dvs E t) := by
  intro pins s σ H Q I h
  refine wpAny_Call_Name_kw (ld_glob I hg hm ?_ hdb)
  refine PySem.W.callWith_K (h₀ := X.base) I.ok.mod.kin M.kp (thn (ha pos pins s σ H _ I h) fun us s1 ⟨vs, H1, I1, r, q⟩ => ⟨I1.kIn, ?_⟩) he hpl
  exact run_make M F hr hb hd hx I1 r q
theorem pe_make0 (M : Mk X.K C f) (F : FnOk X.prog X.w X.K X.mg X.base CX k f fd ps sp) (hr : Room (k + 1) X.A) (hg : Gl X x) (hm : X.mg x = some (.ref C)) (hb : Binds X.K fd ps ds) (hd : Vals dvs ds) (hx : Passes CX X E)
    (hdb : (x == ("__debug__" : Str)) = false := by decide) : PE X (.Call (.Name x p) [] [] pos) (tMake C sp dvs E tNil) := by
  intro pins s σ H Q I h
  refine wpAny_Call_Name_kw (ld_glob I hg hm ?_ hdb)
  exact PySem.W.callWith_K0 I.kIn M.kp (run_make (us := []) M F hr hb hd hx I .nil h)
end
/-! ### keywords -/
/-- the values of the keywords, from the left -/
def PK (X : Cx) (kws : List Keyword) (t : TA) : Prop :=
  ∀ (pos : Pos) (pins : List (Addr × Obj)) (s : Shared) (σ : St) (H : Hp) (Q : List V → Hp → Prop), Inv X pins σ H s → t σ H Q → wpAny (model X.prog X.w) X.A (evalAll ((backToKw pos (keywordEach kws X.env)).map (·.2))) (AP X pins σ Q) X.xe s
section
variable {X : Cx} {CX : CXT} {k : Nat} {f C : Addr} {fd : FuncData} {ps ks : List Str} {sp : Sp} {E : XK} {x m : Str} {p pos apos kpos : Pos} {e o : Expr} {es : List Expr} {kws : List Keyword} {te ta : TE} {t tk : TA} {nm : Option Str}
theorem pk_nil : PK X [] tNil := fun _ _ _ _ H Q I h => wpAny_evalAll_nil ⟨[], H, I, .nil, h⟩
theorem pk_cons (ha : PE X e te) (hr : PK X kws t) : PK X (⟨nm, e, kpos⟩ :: kws) (tCons te t) := by
  intro pos pins s σ H Q I h
  show wpAny _ _ (evalAll ((do let v ← eval e X.env; standAt pos; pure v) :: (backToKw pos (keywordEach kws X.env)).map (·.2))) _ _ s
  refine wpAny_evalAll_cons (wpAny_bind (thn (ha pins s σ H _ I h) fun u s1 ⟨x, H1, I1, r1, q1⟩ => wpAny_bind (wpAny_standAt (wpAny_pure ?_))))
  exact thn (hr pos pins s1 σ H1 _ I1 q1) fun us s2 ⟨xs, H2, I2, r2, q2⟩ => ⟨x :: xs, H2, I2, .cons r1 r2, q2⟩
variable {g : List Value → List Value → List Value} {gV : List V → List V → List V}
end
/-! ### a def's body keeps its promise -/
/-- names: the parameters first -/
structure FnScope (N P : List Str) (sc : Scope) : Prop where
  kind : sc.kind = .function
  co : sc.isCoroutine = false
  gen : sc.isGenerator = false
  nd : N.Nodup
  pre : N.take P.length = P
  par : ∀ x ∈ P, sc.names.lookup x = some .local ∨ sc.names.lookup x = some .cell
  nofree : ∀ y ∈ sc.names, y.2 ≠ .free
theorem bindL_out {kindOf : Str → Option NameKind} {x : Str} : ∀ {binds : List (Str × Value)} {m : Str → Option Value}, (∀ v, (x, v) ∉ binds) → bindL kindOf binds m x = m x
  | [], _, _ => rfl
  | (n, v) :: r, m, h => by
    unfold bindL
    rw [bindL_out fun w hw => h w (List.mem_cons_of_mem _ hw)]
    split
    · have : x ≠ n := by rintro rfl; exact h v List.mem_cons_self
      simp [this]
    · rfl
theorem bindC_out {kindOf : Str → Option NameKind} {x : Str} : ∀ {binds : List (Str × Value)} {m : Str → Option Value}, (∀ v, (x, v) ∉ binds) → bindC kindOf binds m x = m x
  | [], _, _ => rfl
  | (n, v) :: r, m, h => by
    unfold bindC
    rw [bindC_out fun w hw => h w (List.mem_cons_of_mem _ hw)]
    split
    · rfl
    · have : x ≠ n := by rintro rfl; exact h v List.mem_cons_self
      simp [this]
theorem bindL_get {kindOf : Str → Option NameKind} {x : Str} {v : Value} : ∀ {P : List Str} {vs : List Value} {i : Nat} {m : Str → Option Value}, P.Nodup → P[i]? = some x → vs[i]? = some v → kindOf x = some .local →
    bindL kindOf (P.zip vs) m x = some v
  | [], _, _, _, _, h, _, _ => by simp at h
  | _ :: _, [], _, _, _, _, h, _ => by simp at h
  | p :: P, w :: vs, 0, m, nd, h1, h2, hk => by
    simp at h1 h2; subst h1; subst h2
    show bindL kindOf ((p, w) :: P.zip vs) m p = _
    unfold bindL
    rw [bindL_out fun v hv => (List.nodup_cons.mp nd).1 (List.of_mem_zip hv).1, if_pos hk]
    simp
  | p :: P, w :: vs, i + 1, m, nd, h1, h2, hk => by
    show bindL kindOf ((p, w) :: P.zip vs) m x = _
    unfold bindL
    exact bindL_get (i := i) (List.nodup_cons.mp nd).2 (by simpa using h1) (by simpa using h2) hk
theorem bindC_get {kindOf : Str → Option NameKind} {x : Str} {v : Value} : ∀ {P : List Str} {vs : List Value} {i : Nat} {m : Str → Option Value}, P.Nodup → P[i]? = some x → vs[i]? = some v → kindOf x ≠ some .local →
    bindC kindOf (P.zip vs) m x = some v
  | [], _, _, _, _, h, _, _ => by simp at h
  | _ :: _, [], _, _, _, _, h, _ => by simp at h
  | p :: P, w :: vs, 0, m, nd, h1, h2, hk => by
    simp at h1 h2; subst h1; subst h2
    show bindC kindOf ((p, w) :: P.zip vs) m p = _
    unfold bindC
    rw [bindC_out fun v hv => (List.nodup_cons.mp nd).1 (List.of_mem_zip hv).1, if_neg hk]
    simp
  | p :: P, w :: vs, i + 1, m, nd, h1, h2, hk => by
    show bindC kindOf ((p, w) :: P.zip vs) m x = _
    unfold bindC
    exact bindC_get (i := i) (List.nodup_cons.mp nd).2 (by simpa using h1) (by simpa using h2) hk
/-- the names' values at the entry -/
def start (N : List Str) (vs : List V) : St := vs.map some ++ List.replicate (N.length - vs.length) none
/-- the context of a def's body, at its entry; an exception leaves the frame, then lies as CX says -/
def cxOf (CX : CXT) (P : Program) (w : World) (K : PySem.W.Frag) (mg : Str → Option Value) (base : Heap) (N : List Str) (qual : Str) (scope : Scope) (f : Addr) (cd : Value) (A : Around) (outer : List Env) (s : Shared) (H : Hp) (E : XK) : Cx where
  prog := P
  w := w
  K := K
  mg := mg
  base := base
  A := A.deeper (envOfC qual scope s.heap.objs.size f cd)
  N := N
  s_0 := s
  H_0 := H
  env := envOfC qual scope s.heap.objs.size f cd
  outer := outer
  stack := envOfC qual scope s.heap.objs.size f cd :: outer
  ex := []
  calm := true
  fn := fun _ => true
  pn := []
  xe := fun e s' => wpAny (model P w) (A.deeper (envOfC qual scope s.heap.objs.size f cd)) (leaving (envOfC qual scope s.heap.objs.size f cd) e) (fun _ s'' => CX outer H s E e s'') (fun e' s'' => CX outer H s E e' s'') s'
theorem cell_has {sc : Scope} {n : Nat} {x : Str} (h : sc.names.lookup x = some .cell) : ∃ c, (cellsFrom n sc.names []).lookup x = some c := by
  have q := PySem.W.cellsFrom_some sc.names n [] (.inl h)
  exact Option.isSome_iff_exists.mp q
theorem inv_start {CX : CXT} {P : Program} {w : World} {K : PySem.W.Frag} {mg : Str → Option Value} {base : Heap} {N ps : List Str} {qual : Str} {scope : Scope} {f : Addr} {cd : Value} {A : Around} {outer : List Env} {s s1 : Shared} {H : Hp} {E : XK} {us : List Value} {vs : List V}
    (S : FnScope N ps scope) (hd : A.handled = none) (e0 : Env0 P w K mg base A outer s H) (hl : vs.length = ps.length) (r : Vals vs us)
    (x : InCallC s s.heap.objs.size (bindL (envOfC qual scope s.heap.objs.size f cd).kindOf (ps.zip us) fun _ => none) (cellsFrom (s.heap.objs.size + 1) scope.names []) (bindC (envOfC qual scope s.heap.objs.size f cd).kindOf (ps.zip us) fun _ => none) s1) :
    Inv (cxOf CX P w K mg base N qual scope f cd A outer s H E) [] (start N vs) H s1 := by
  have hpl : ps.length ≤ N.length := by have := congrArg List.length S.pre; rw [List.length_take] at this; omega
  obtain ⟨h1, tk, rfl, hk⟩ := x.done
  have noA : ∀ b : Addr, b ∉ (cxOf CX P w K mg base N qual scope f cd A outer s H E).ex := fun b z => absurd (show b ∈ ([] : List Addr) from z) (by simp)
  refine ⟨⟨e0.mod, S.kind, rfl, rfl, Nat.le_refl _, fun y z c h1 h2 => ?_, fun y hy => ?_, fun y c _ h => ?_, fun _ => hd, Around.frames_deeper e0.frames, .inr ⟨rfl, rfl⟩, fun b z => absurd z (noA b), e0.bs, e0.bsz, fun b _ _ => noA b, fun b z => absurd z (noA b), e0.funs, e0.frf⟩,
    rfl, e0.bare, Un.kept hk, ⟨_, x.toInCall.ns, fun i y v h1 h2 h3 => ?_⟩, fun y c h => ⟨_, x.cell y c h⟩, e0.hok.fresh (Nat.le_refl _), fun y c h => ?_, fun p hp => absurd (show p ∈ ([] : List (Addr × Obj)) from hp) (by simp), e0.hok.kept hk, ?_⟩
  · exact name_of_addr x.apart (PySem.mem_of_lookup h1) (PySem.mem_of_lookup h2)
  · have hy : scope.names.lookup y = some .cell ∨ scope.names.lookup y = some .free := hy
    rcases hy with hy | hy
    · exact cell_has hy
    · exact absurd rfl (S.nofree _ (PySem.mem_of_lookup hy))
  · exact Nat.le_of_lt (x.above y c (PySem.mem_of_lookup h))
  · have hi : i < vs.length := by
      unfold start at h2
      by_cases hi : i < vs.length
      · exact hi
      · rw [List.getElem?_append_right (by simpa using hi)] at h2
        rw [List.getElem?_replicate] at h2
        split at h2 <;> cases h2
    have ha : vs[i]? = some v := by
      unfold start at h2
      rw [List.getElem?_append_left (by simpa using hi), List.getElem?_map] at h2
      cases e : vs[i]? with
      | none => rw [e] at h2; cases h2
      | some a => rw [e] at h2; cases h2; rfl
    obtain ⟨u, hu, rv⟩ := r.get ha
    have hp : ps[i]? = some y := by
      rw [← S.pre, List.getElem?_take_of_lt (by omega)]; exact h1
    have ndP : ps.Nodup := by rw [← S.pre]; exact S.nd.sublist (List.take_sublist _ _)
    refine ⟨u, rv, ?_⟩
    rcases S.par y (List.mem_of_getElem? hp) with k | k
    · exact .inl ⟨k, bindL_get ndP hp hu k⟩
    · obtain ⟨c, e⟩ := cell_has (n := s.heap.objs.size + 1) k
      refine .inr ⟨.inl k, c, e, ?_⟩
      have q := x.cell y c e
      rw [bindC_get ndP hp hu (by show scope.names.lookup y ≠ _; rw [k]; decide)] at q
      exact q
  · exact e0.hok.fresh (Nat.le_of_lt (x.above y c (PySem.mem_of_lookup h)))
  · unfold start
    show _ = N.length
    rw [List.length_append, List.length_map, List.length_replicate]
    omega
/-- THE RULE: a def (or a method) of the text, by its body. The body's reading t is chosen for each entry; it is run at the parameters' values -/
theorem fn_of {CX : CXT} {P : Program} {w : World} {K : PySem.W.Frag} {mg : Str → Option Value} {base : Heap} {k : Nat} {f : Addr} {name qual : Str} {params : Arguments} {body : List Stmt} {scope : Scope} {dV kV doc pm cdv ct oc : Value} {an od : Option Addr}
    {osl : Array (Option Value)} {N ps : List Str} {sp : Sp} (lk : K.lookup f = some ⟨oc, od, .func (PySem.W.fnOf name qual params body scope dV kV doc pm an cdv ct), osl⟩) (hcd : PySem.W.codeIn K cdv qual = true) (S : FnScope N ps scope)
    (len : ∀ vs H Q E, sp vs H Q E → vs.length = ps.length)
    (hbody : ∀ (A : Around) (outer : List Env) (s : Shared) (H : Hp) (vs : List V) (Q : VK) (E : XK), Room k (A.deeper (envOfC qual scope s.heap.objs.size f cdv)) → sp vs H Q E →
      ∃ t, PSs (cxOf CX P w K mg base N qual scope f cdv A outer s H E) body t ∧ t { nx := fun _ H' => Q .non H', rt := Q } (start N vs) H) :
    FnOk P w K mg base CX (k + 1) f (PySem.W.fnOf name qual params body scope dV kV doc pm an cdv ct) ps sp := by
  refine ⟨len, fun A outer s H args us vs Q E hr e0 hb r hsp => ?_⟩
  have hl := len _ _ _ _ hsp
  have KX : K.In s.heap := e0.mod.kin.keeps fun b o e => (e0.bs b o e).1
  have lim : s.heap.NoLimit := e0.mod.nolimit.keeps fun b o e => (e0.bs b o e).1
  have hkind : ∀ y ∈ ps.zip us, scope.names.lookup y.1 = some .local ∨ (scope.names.lookup y.1 = some .cell ∧ ((cellsFrom (s.heap.objs.size + 1) scope.names []).lookup y.1).isSome = true) := fun ⟨n, v⟩ hy => by
    rcases S.par n (List.of_mem_zip hy).1 with q | q
    · exact .inl q
    · exact .inr ⟨q, PySem.W.cellsFrom_some _ _ _ (.inl q)⟩
  refine codeAny_call_function hr.depth (KX _ _ lk) rfl S.co S.gen rfl (PySem.W.codeRec_of KX hcd) (hb _ _ _ _ ?_)
  refine wpAny_newFunctionEnv_cells S.kind hkind fun env he s1 x => ?_
  subst he
  refine ⟨lim.keeps x.toInCall.keep, codeAny_func ?_⟩
  obtain ⟨t, ht, hq⟩ := hbody A outer s H vs Q E (hr.deeper _) hsp
  have I : Inv (cxOf CX P w K mg base N qual scope f cdv A outer s H E) [] (start N vs) H s1 := inv_start S hr.hd e0 hl r x
  refine wpAny_mono (ht [] s1 (start N vs) H _ I hq) (fun fl s' hs => ?_) fun e s' hs => hs
  have fin : ∀ {σ' : St} {H' : Hp} {v : V} {u : Value}, Inv (cxOf CX P w K mg base N qual scope f cdv A outer s H E) [] σ' H' s' → RelV v u → Q v H' → CE outer P w H s Q u s' :=
    fun {σ' H' v u} J rv q => ⟨v, H', J.os, J.bare, J.base, J.hok, rv, q⟩
  cases fl with
  | ret u =>
    obtain ⟨v, σ', H', J, rv, q⟩ := hs
    exact fin J rv q
  | next =>
    obtain ⟨σ', H', J, q⟩ := hs
    exact fin (v := V.non) (u := Value.none) J rfl q
  | brk =>
    obtain ⟨_, _, _, q⟩ := hs
    exact False.elim q
  | cont =>
    obtain ⟨_, _, _, q⟩ := hs
    exact False.elim q
end L2
namespace L2
open PySem PySem.Spec PyProof.Rows
section
variable {X : Cx} {x : Str} {p pos : Pos} {e : Expr} {es : List Expr} {t : TA} {id T : String} {r : List V → Hp → VK → Prop}
def tCB (r : List V → Hp → VK → Prop) (t : TA) : TE := fun σ H Q => t σ H fun vs H1 => r vs H1 Q
/-- f(e, ..), f a built-in function -/
theorem pe_callB (hc : CallR X (.builtin id) r) (hg : Gl X x) (hm : X.mg x = none) (hv : bootBuiltins x = some (.builtin id)) (ha : PA X (e :: es) t) (hn : x ≠ "__name__" := by decide) (hdb : (x == ("__debug__" : Str)) = false := by decide)
    (he : starEach (e :: es) X.env = (false, eval e X.env) :: starEach es X.env := by rfl) (hpl : (backTo pos (starEach es X.env)).any (·.1) = false := by rfl) : PE X (.Call (.Name x p) (e :: es) [] pos) (tCB r t) := by
  intro pins s σ H Q I h
  refine wpAny_Call_Name_kw (ld_blt I hg hm hv ?_ hn hdb)
  exact PyProof.Rows.callWith_builtin1 (thn (ha pos pins s σ H _ I h) fun us s1 ⟨vs, H1, I1, r1, q1⟩ => hc pins s1 σ H1 vs us Q I1 r1 q1) he hpl
/-- T(e, ..), T a built-in type -/
theorem pe_callTy (hc : CallR X (.type T) r) (hg : Gl X x) (hm : X.mg x = none) (hv : bootBuiltins x = some (.type T)) (ha : PA X (e :: es) t) (hn : x ≠ "__name__" := by decide) (hdb : (x == ("__debug__" : Str)) = false := by decide)
    (he : starEach (e :: es) X.env = (false, eval e X.env) :: starEach es X.env := by rfl) (hpl : (backTo pos (starEach es X.env)).any (·.1) = false := by rfl) : PE X (.Call (.Name x p) (e :: es) [] pos) (tCB r t) := by
  intro pins s σ H Q I h
  refine wpAny_Call_Name_kw (ld_blt I hg hm hv ?_ hn hdb)
  exact PyProof.Rows.callWith_type1 (thn (ha pos pins s σ H _ I h) fun us s1 ⟨vs, H1, I1, r1, q1⟩ => hc pins s1 σ H1 vs us Q I1 r1 q1) he hpl
end
end L2
namespace HT
open PySem PyProof.Rows
/-- t < u of tuples of ints -/
def lexLt : List Int → List Int → Bool
  | [], [] => false
  | [], _ :: _ => true
  | _ :: _, [] => false
  | x :: xs, y :: ys => if x = y then lexLt xs ys else decide (x < y)
theorem lexLt_cons (x y : Int) (xs ys : List Int) : lexLt (x :: xs) (y :: ys) = if x = y then lexLt xs ys else decide (x < y) := rfl
theorem eqAt_int (A : Around) (s : Shared) (a : Int) (t : Tok) (c : Int) (u : Tok) : ∃ e, SeqAt.EqAt A s (.int a t) (.int c u) e ∧ (e = true ↔ a = c) :=
  ⟨(a == c), SeqAt.EqAt.int_int a t c u, by simp⟩
theorem rcLt_int (A : Around) (s : Shared) (a : Int) (t : Tok) (c : Int) (u : Tok) (prog : Program) (w : World) (E : Value → Shared → Prop) (Q : Value → Shared → Prop) (h : Q (.bool (decide (a < c))) s) :
    wpAny (model prog w) A (richCompare .Lt (.int a t) (.int c u)) Q E s :=
  (PyProof.Rows.lt_int h : wpAny (model prog w) A (compareOp .Lt (.int a t) (.int c u)) Q E s)
section
open PySem.SeqAt
open PySem.AutoSeq1 (wpAny_loadPart')
open PySem.MeetsSeq PySem.MeetsSeq2 PySem.MeetsSeq3
end
section
variable {prog : Program} {w : World} {A : Around} {E : Value → Shared → Prop} {s : Shared}
/-! ### t[a:b], not the whole -/
/-- a slice's bound as a place among n (d where it is left out) -/
def sIx (n d : Nat) : Option Int → Nat
  | none => d
  | some v => if v < 0 then (v + (n : Int)).toNat else min v.toNat n
theorem sIx_nat (n d k : Nat) : sIx n d (some (k : Int)) = min k n := by
  show (if (k : Int) < 0 then ((k : Int) + (n : Int)).toNat else min (k : Int).toNat n) = min k n
  rw [if_neg (by omega), Int.toNat_natCast]
end
end HT
namespace L2
open PySem PySem.Spec PyProof.Rows
/-! ### the parts of a slice -/
abbrev TO := St → Hp → (Option Int → Hp → Prop) → Prop
/-- a slice's part (left out, or an int) -/
def PO (X : Cx) (e : Option Expr) (t : TO) : Prop :=
  ∀ (pins : List (Addr × Obj)) (s : Shared) (σ : St) (H : Hp) (Q : Option Int → Hp → Prop), Inv X pins σ H s → t σ H Q →
    wpAny (model X.prog X.w) X.A (evalPart e X.env) (fun u s' => ∃ o H', Inv X pins σ H' s' ∧ IsPart u o ∧ Q o H') X.xe s
def tPart (t : TE) : TO := fun σ H Q => t σ H fun x H1 => ∃ i, x = .int i ∧ Q (some i) H1
section
variable {X : Cx} {e : Expr} {te : TE} {lo hi : Option Expr} {tl th : TO} {pos p2 : Pos}
theorem po_some (h : PE X e te) : PO X (some e) (tPart te) := by
  intro pins s σ H Q I hw
  rw [evalPart_some]
  refine thn (h pins s σ H _ I hw) fun u s1 ⟨x, H1, I1, r1, q1⟩ => ?_
  obtain ⟨i, rfl, q⟩ := q1
  obtain ⟨t, rfl⟩ := r1
  exact ⟨some i, H1, I1, .int i t, q⟩
/-- what a slice of a value is, by values: the slice object stands at sl -/
def SlR (X : Cx) (r : V → Option Int → Option Int → Hp → VK → Prop) : Prop :=
  ∀ (pins : List (Addr × Obj)) (s : Shared) (σ : St) (H : Hp) (x : V) (v vl vu : Value) (lo hi : Option Int) (sl : Addr) (Q : VK), Inv X pins σ H s → RelV x v → s.heap.IsSliceOf sl vl vu .none → IsPart vl lo → IsPart vu hi → r x lo hi H Q →
    ∃ T id, typeLookup (.type T) "__getitem__" = pure (some (.builtin id)) ∧ s.TypeIs v T ∧ wpAny (model X.prog X.w) X.A (getItem v (.ref sl)) (EP X pins σ Q) X.xe s
def tSl (r : V → Option Int → Option Int → Hp → VK → Prop) (te : TE) (tl th : TO) : TE := fun σ H Q => te σ H fun x H1 => tl σ H1 fun l H2 => th σ H2 fun u H3 => r x l u H3 Q
/-- a[lo:hi], any a -/
theorem pe_slice {r : V → Option Int → Option Int → Hp → VK → Prop} (hr : SlR X r) (he : PE X e te) (hl : PO X lo tl) (hu : PO X hi th) : PE X (.Subscript e (.Slice lo hi none p2) pos) (tSl r te tl th) := by
  intro pins s σ H Q I h
  refine Subscript_ (thn (he pins s σ H _ I h) fun v s1 ⟨x, H1, I1, r1, q1⟩ => ?_)
  refine wpAny_Slice (thn (hl pins s1 σ H1 _ I1 q1) fun vl s2 ⟨l, H2, I2, pl, q2⟩ => thn (hu pins s2 σ H2 _ I2 q2) fun vu s3 ⟨u, H3, I3, pu, q3⟩ => ?_)
  rw [evalPart_none]
  refine wpAny_pure ?_
  have I4 : Inv X pins σ H3 { s3 with heap := s3.heap.push { cls := .type "slice", data := .fields #[vl, vu, .none] } } := I3.kept (t' := s3.toks) fun b ob q => Heap.get?_push_of_some _ q
  obtain ⟨T, id, hT, ht, hg⟩ := hr pins { s3 with heap := s3.heap.push { cls := .type "slice", data := .fields #[vl, vu, .none] } } σ H3 x v vl vu l u s3.heap.objs.size Q I4 r1 (Heap.IsSliceOf.new ..) pl pu q3
  show wpAny (model X.prog X.w) X.A (subscriptTail e (.Slice lo hi none p2) v (.ref s3.heap.objs.size)) (EP X pins σ Q) X.xe { s3 with heap := s3.heap.push { cls := .type "slice", data := .fields #[vl, vu, .none] } }
  exact tail_any (ops := [.ref s3.heap.objs.size, v]) ht hT hg (by with_unfolding_all rfl)
/-- the items of xs[lo:hi] -/
def cutV (xs : List V) (lo hi : Option Int) : List V := (xs.drop (HT.sIx xs.length 0 lo)).take (HT.sIx xs.length xs.length hi - HT.sIx xs.length 0 lo)
theorem cutV_length (xs : List V) (lo hi : Option Int) : (cutV xs lo hi).length ≤ xs.length := by
  unfold cutV
  rw [List.length_take, List.length_drop]
  omega
/-! ### t < u, t + u -/
end
end L2
namespace L2
open PySem PySem.Spec PyProof.Rows
/-! ### places -/
/-- the place that an index of any sign means -/
def ixN (n : Nat) (i : Int) : Option Nat := if 0 ≤ i then (if i < n then some i.toNat else none) else if -(n : Int) ≤ i then some (i + n).toNat else none
def atI {α : Type} (xs : List α) (i : Int) : Option α := (ixN xs.length i).bind fun j => xs[j]?
theorem ixN_seq {n : Nat} {i : Int} {j : Nat} (h : ixN n i = some j) : seqIndex? i n = some j ∧ j < n ∧ -(n : Int) ≤ i ∧ i < n := by
  unfold ixN at h
  by_cases h0 : 0 ≤ i
  · rw [if_pos h0] at h
    by_cases h1 : i < n
    · rw [if_pos h1] at h
      have e : i.toNat = j := Option.some.inj h
      exact ⟨by rw [seqIndex_of h0 h1, e], by omega, by omega, h1⟩
    · rw [if_neg h1] at h; cases h
  · rw [if_neg h0] at h
    by_cases h1 : -(n : Int) ≤ i
    · rw [if_pos h1] at h
      have e : (i + n).toNat = j := Option.some.inj h
      exact ⟨by rw [seqIndex_neg (by omega) h1, e], by omega, h1, by omega⟩
    · rw [if_neg h1] at h; cases h
theorem atI_get {α : Type} {xs : List α} {i : Int} {v : α} (h : atI xs i = some v) : ∃ j, seqIndex? i xs.length = some j ∧ xs[j]? = some v ∧ j < xs.length ∧ -(xs.length : Int) ≤ i ∧ i < xs.length := by
  unfold atI at h
  cases e : ixN xs.length i with
  | none => rw [e] at h; cases h
  | some j =>
    rw [e] at h
    obtain ⟨h1, h2, h3, h4⟩ := ixN_seq e
    exact ⟨j, h1, h, h2, h3, h4⟩
theorem atI_nat {α : Type} {xs : List α} {j : Nat} {v : α} (h : xs[j]? = some v) : atI xs (j : Int) = some v := by
  have hj : j < xs.length := (List.getElem?_eq_some_iff.mp h).1
  have e : ixN xs.length (j : Int) = some j := by
    unfold ixN
    rw [if_pos (by omega), if_pos (by omega)]; simp
  unfold atI; rw [e]; exact h
/-! ### what may be subscripted -/
/-- what stands as an index of a plain subscript -/
def PlainIx (b : Expr) : Prop := ∀ o i, subscripted b false o i = operate [o, i] (getItem o i)
/-- a subscript by values -/
def IxR (X : Cx) (r : R2) : Prop :=
  ∀ (value slice : Expr) (pins : List (Addr × Obj)) (s : Shared) (σ : St) (H : Hp) (x y : V) (v u : Value) (Q : VK), Inv X pins σ H s → RelV x v → RelV y u → r x y H Q →
    subscripted slice false v u = operate [v, u] (getItem v u) → wpAny (model X.prog X.w) X.A (subscriptTail value slice v u) (EP X pins σ Q) X.xe s
/-- a call of a builtin's method by values: the receiver, the arguments -/
def MtR (X : Cx) (id : String) (r : V → List V → Hp → VK → Prop) : Prop :=
  ∀ (pins : List (Addr × Obj)) (s : Shared) (σ : St) (H : Hp) (x : V) (xs : List V) (v : Value) (us : List Value) (Q : VK), Inv X pins σ H s → RelV x v → Vals xs us → r x xs H Q →
    wpAny (model X.prog X.w) X.A (call (.builtin id) (v :: us)) (EP X pins σ Q) X.xe s
section
variable {X : Cx} {a b : Expr} {ta tb : TE} {pos : Pos}
/-- a[b] -/
theorem pe_ix {r : R2} (hr : IxR X r) (ha : PE X a ta) (hb : PE X b tb) (hs : PlainIx b) : PE X (.Subscript a b pos) (tOp r ta tb) := by
  intro pins s σ H Q I h
  exact Subscript_ (binT ha hb I h fun v u s2 x y H2 I2 rx ry q => hr a b pins s2 σ H2 x y v u Q I2 rx ry q (hs _ _))
def rIxL (K : PySem.W.Frag) : R2 := fun x y H Q => ∃ p xs i v, x = .ref p ∧ y = .int i ∧ SqL K H p xs ∧ atI xs i = some v ∧ Q v H
theorem ix_list : IxR X (rIxL X.K) := by
  intro value slice pins s σ H x y v u Q I rx ry h hs
  obtain ⟨p, xs, i, z, rfl, rfl, hq, he, q⟩ := h
  cases rx
  obtain ⟨t, rfl⟩ := ry
  obtain ⟨its, r, pl, hz⟩ := I.list hq
  obtain ⟨j, h1, h2, h3, h4, h5⟩ := atI_get he
  obtain ⟨w, ew, rw'⟩ := r.get h2
  have hl := r.length
  have hn := line63
  have fin : EP X pins σ Q w s := ⟨z, H, I, rw', q⟩
  by_cases h0 : 0 ≤ i
  · have hj : i.toNat = j := by
      rw [seqIndex_of h0 h5] at h1
      exact Option.some.inj h1
    exact item_listR pl.isList h0 (by omega) (by rw [hj]; simpa using ew) fin hs
  · have hj : (i + (its.toArray.size : Int)).toNat = j := by
      rw [seqIndex_neg (by omega) h4] at h1
      rw [List.size_toArray, ← hl]
      exact Option.some.inj h1
    exact subscriptTail_builtinR (x := w) pl.isList.typeIs slot_list_getitem.lookup
      (wpAny_getItem_list_neg (Q := fun r s' => r = w ∧ EP X pins σ Q r s') pl.isList (by omega) (by rw [List.size_toArray] <;> omega) (by omega) (by rw [hj]; simpa using ew) ⟨rfl, fin⟩) hs
/-! ### xs[i] = v, any sign -/
/-! ### slices -/
theorem slice_bounds (lo hi : Option Int) (n : Nat) : (sliceBounds lo hi none n).1 = ((HT.sIx n 0 lo : Nat) : Int) ∧ (sliceBounds lo hi none n).2.1 = ((HT.sIx n n hi : Nat) : Int) ∧ (sliceBounds lo hi none n).2.2 = 1 := by
  refine ⟨?_, ?_, rfl⟩
  · cases lo with
    | none => simp [sliceBounds, HT.sIx]
    | some i =>
      simp only [sliceBounds, HT.sIx, Option.getD_none, show (1 : Int) > 0 by decide, if_true]
      by_cases h : i < 0
      · simp only [h, if_true] <;> omega
      · simp only [h, if_false] <;> omega
  · cases hi with
    | none => simp [sliceBounds, HT.sIx]
    | some i =>
      simp only [sliceBounds, HT.sIx, Option.getD_none, show (1 : Int) > 0 by decide, if_true]
      by_cases h : i < 0
      · simp only [h, if_true] <;> omega
      · simp only [h, if_false] <;> omega
theorem slicePick_cut (its : List Value) (lo hi : Option Int) : slicePick its.toArray lo hi none = ((its.drop (HT.sIx its.length 0 lo)).take (HT.sIx its.length its.length hi - HT.sIx its.length 0 lo)).toArray := by
  obtain ⟨h1, h2, h3⟩ := slice_bounds lo hi its.toArray.size
  unfold slicePick
  rw [h1, h2, h3]
  simp only [sliceRange_one, pick_run, List.size_toArray] <;> rfl
/-- xs[lo:hi] of a list: a new list -/
def rSlL (K : PySem.W.Frag) : V → Option Int → Option Int → Hp → VK → Prop := fun x lo hi H Q => ∃ a xs, x = .ref a ∧ SqL K H a xs ∧ ∀ p, H p = none → Q (.ref p) (upd H p (.lst (cutV xs lo hi)))
theorem sl_list : SlR X (rSlL X.K) := by
  intro pins s σ H x v vl vu lo hi sl Q I rx hs pl pu h
  obtain ⟨a, xs, rfl, hx, q⟩ := h
  cases rx
  obtain ⟨its, r, ht, hz⟩ := I.list hx
  have hlen := r.length
  refine ⟨"list", _, slot_list_getitem.lookup, ht.isList.typeIs, ?_⟩
  refine wpAny_getItem_list_slice ht.isList hs pl pu .none (by simp) ?_ (by rw [List.size_toArray] <;> omega)
  rw [slicePick_cut, ← hlen]
  refine ⟨.ref s.heap.objs.size, _, I.laid (t' := s.toks) (o := .lst (cutV xs lo hi)) (fun b ob q => Heap.get?_push_of_some _ q) (Nat.le_refl _) ?_, rfl, q _ (I.hok.fresh (Nat.le_refl _))⟩
  exact ⟨Nat.le_trans (cutV_length xs lo hi) hz, _, 0, (r.drop (HT.sIx xs.length 0 lo)).take (HT.sIx xs.length xs.length hi - HT.sIx xs.length 0 lo), Heap.get?_push_size _ rfl⟩
/-! ### in, not in: flat items -/
def flatV : V → Bool
  | .non => true
  | .bl _ => true
  | .int _ => true
  | .str _ => true
  | _ => false
/-- == of flat values -/
def eqV : V → V → Bool
  | .non, .non => true
  | .bl a, .bl b => a == b
  | .bl a, .int b => (if a then 1 else 0) == b
  | .int a, .bl b => a == (if b then 1 else 0)
  | .int a, .int b => a == b
  | .str a, .str b => a == b
  | _, _ => false
theorem eqAt_V {A : Around} {s : Shared} {y x : V} {u v : Value} (ry : RelV y u) (rx : RelV x v) (fy : flatV y = true) (fx : flatV x = true) : SeqAt.EqAt A s u v (eqV y x) := by
  cases y with
  | non =>
    cases ry
    cases x with
    | non => cases rx; exact SeqAt.EqAt.same _
    | bl b => cases rx; exact SeqAt.EqAt.none_bool b
    | int b => obtain ⟨t, rfl⟩ := rx; exact SeqAt.EqAt.none_int b t
    | str b => obtain ⟨t, rfl⟩ := rx; exact SeqAt.EqAt.none_str b t
    | _ => exact absurd (show false = true from fx) Bool.false_ne_true
  | bl a =>
    cases ry
    cases x with
    | non => cases rx; exact SeqAt.EqAt.bool_none a
    | bl b => cases rx; exact SeqAt.EqAt.bool_bool a b
    | int b => obtain ⟨t, rfl⟩ := rx; exact SeqAt.EqAt.bool_int a b t
    | str b => obtain ⟨t, rfl⟩ := rx; exact SeqAt.EqAt.bool_str a b t
    | _ => exact absurd (show false = true from fx) Bool.false_ne_true
  | int a =>
    obtain ⟨t', rfl⟩ := ry
    cases x with
    | non => cases rx; exact SeqAt.EqAt.int_none a t'
    | bl b => cases rx; exact SeqAt.EqAt.int_bool a t' b
    | int b => obtain ⟨t, rfl⟩ := rx; exact SeqAt.EqAt.int_int a t' b t
    | str b => obtain ⟨t, rfl⟩ := rx; exact SeqAt.EqAt.int_str a t' b t
    | _ => exact absurd (show false = true from fx) Bool.false_ne_true
  | str a =>
    obtain ⟨t', rfl⟩ := ry
    cases x with
    | non => cases rx; exact SeqAt.EqAt.str_none a t'
    | bl b => cases rx; exact SeqAt.EqAt.str_bool a t' b
    | int b => obtain ⟨t, rfl⟩ := rx; exact SeqAt.EqAt.str_int a t' b t
    | str b => obtain ⟨t, rfl⟩ := rx; exact SeqAt.EqAt.str_str a t' b t
    | _ => exact absurd (show false = true from fx) Bool.false_ne_true
  | _ => exact absurd (show false = true from fy) Bool.false_ne_true
/-- the items' answers, read off the values (a value's own answer does not lean on its token) -/
def eqU (x : V) (u : Value) : Bool := match u with
  | .none => eqV .non x
  | .bool b => eqV (.bl b) x
  | .int i _ => eqV (.int i) x
  | .str z _ => eqV (.str z) x
  | _ => false
theorem eqU_of {x y : V} {u : Value} (r : RelV y u) (f : flatV y = true) : eqU x u = eqV y x := by
  cases y with
  | non => cases r; rfl
  | bl b => cases r; rfl
  | int i => obtain ⟨t, rfl⟩ := r; rfl
  | str z => obtain ⟨t, rfl⟩ := r; rfl
  | _ => exact absurd (show false = true from f) Bool.false_ne_true
theorem mem_eqAt {A : Around} {s : Shared} {x : V} {v : Value} (rx : RelV x v) (fx : flatV x = true) : ∀ {xs : List V} {us : List Value}, Vals xs us → xs.all flatV = true → ∀ u ∈ us, SeqAt.EqAt A s u v (eqU x u)
  | _, _, .nil, _ => fun u hu => by cases hu
  | y :: xs, u :: us, .cons r t, f => fun u' hu => by
    rw [List.all_cons, Bool.and_eq_true] at f
    rcases List.mem_cons.mp hu with rfl | hu
    · rw [eqU_of r f.1]; exact eqAt_V r rx f.1 fx
    · exact mem_eqAt rx fx t f.2 u' hu
/-! ### len, list(x), tuple(x) of any list or tuple that is read -/
theorem call_len_seq : CallR X (.builtin "len") (fun xs H Q => ∃ p ys, xs = [.ref p] ∧ (SqL X.K H p ys ∨ SqT X.K H p ys) ∧ Q (.int ys.length) H) := by
  intro pins s σ H xs us Q I r h
  obtain ⟨p, ys, rfl, hq, q⟩ := h
  obtain ⟨u, rfl, rx⟩ := vals1 r
  cases rx
  have hn := line63
  rcases hq with hq | hq
  · obtain ⟨its, r', pl, hz⟩ := I.list hq
    have hlen := r'.length
    exact Calls.call_len_list pl.isList (by simp only [List.size_toArray] <;> omega) ⟨.int ys.length, H, I.tok _, ⟨s.toks + 1, by rw [List.size_toArray, hlen]⟩, q⟩
  · obtain ⟨its, r', pl, hz⟩ := I.tuple hq
    have hlen := r'.length
    exact len_tuple pl (by simp only [List.size_toArray] <;> omega) ⟨.int ys.length, H, I.tok _, ⟨s.toks + 1, by rw [List.size_toArray, hlen]⟩, q⟩
/-! ### the call of a builtin's method: o.m(..) -/
/-- the value is of that builtin type -/
def tyV (K : PySem.W.Frag) (T : String) (x : V) (H : Hp) : Prop := match x with
  | .str _ => T = "str"
  | .int _ => T = "int"
  | .ref p => (T = "list" ∧ ∃ xs, SqL K H p xs) ∨ (T = "tuple" ∧ ∃ o, K.lookup p = some o ∧ o.cls = .type "tuple" ∧ o.dict = none) ∨
      (T = "dict" ∧ ((∃ kvs, H p = some (.dK kvs)) ∨ ∃ kvs, H p = some (.dT kvs))) ∨ (T = "set" ∧ ∃ S n, H p = some (.set S n))
  | _ => False
theorem tyV_is {pins : List (Addr × Obj)} {σ : St} {H : Hp} {s : Shared} {T : String} {x : V} {v : Value} (I : Inv X pins σ H s) (r : RelV x v) (ty : tyV X.K T x H) :
    s.TypeIs v T ∧ ∀ a, v = .ref a → ∃ ob, s.heap.get? a = some ob ∧ ob.dict = none := by
  cases x with
  | str z =>
    obtain ⟨t, rfl⟩ := r
    cases (show T = "str" from ty)
    exact ⟨typeIs_str s z t, fun _ e => nomatch e⟩
  | int i =>
    obtain ⟨t, rfl⟩ := r
    cases (show T = "int" from ty)
    exact ⟨typeIs_int s i t, fun _ e => nomatch e⟩
  | ref p =>
    cases r
    rcases ty with ⟨rfl, xs, hq⟩ | ⟨rfl, o, hk, hc, hd⟩ | ⟨rfl, hk⟩ | ⟨rfl, S, n, hk⟩
    · obtain ⟨its, _, pl, _⟩ := I.list hq
      refine ⟨pl.isList.typeIs, fun a e => ?_⟩
      cases e
      obtain ⟨o, n, e, c, hd, _⟩ := pl
      exact ⟨o, e, hd⟩
    · refine ⟨⟨o, I.kIn p o hk, hc⟩, fun a e => ?_⟩
      cases e
      exact ⟨o, I.kIn _ o hk, hd⟩
    · have z : ∃ o, s.heap.get? p = some o ∧ o.ExactDict := by
        rcases hk with ⟨kvs, hk⟩ | ⟨kvs, hk⟩
        · obtain ⟨_, _, _, _, o, _, _, e, ex, _⟩ := I.hok p _ hk
          exact ⟨o, e, ex⟩
        · obtain ⟨_, _, _, _, o, _, _, e, ex, _⟩ := I.hok p _ hk
          exact ⟨o, e, ex⟩
      obtain ⟨o, e, ex⟩ := z
      refine ⟨⟨o, e, ex.1⟩, fun a e2 => ?_⟩
      cases e2
      exact ⟨o, e, ex.2.1⟩
    · obtain ⟨o, _, _, _, e, ex, _⟩ := I.hok p _ hk
      refine ⟨⟨o, e, ex.1⟩, fun a e2 => ?_⟩
      cases e2
      exact ⟨o, e, ex.2.1⟩
  | _ => exact False.elim ty
def tBM (K : PySem.W.Frag) (T : String) (r : V → List V → Hp → VK → Prop) (to : TE) (t : TA) : TE := fun σ H Q => to σ H fun x H1 => tyV K T x H1 ∧ t σ H1 fun xs H2 => r x xs H2 Q
variable {o e : Expr} {es : List Expr} {to : TE} {t : TA} {name : Str} {apos cpos : Pos} {T id : String} {r : V → List V → Hp → VK → Prop}
theorem pe_bm (pa : PlainAttrs T) (slot : Slot T name id) (hty : typeOf (.builtin id) = pure (.type "method_descriptor")) (hm : MtR X id r) (ho : PE X o to) (ha : PA X (e :: es) t)
    (hbase : attributeBase o name X.env (eval o X.env) = eval o X.env := by rfl)
    (hfew : ((backTo cpos (starEach (e :: es) X.env)).all (fun x => !x.1) && (backToKw cpos (keywordEach [] X.env)).all (fun x => x.1.isSome)
      && decide ((e :: es).length + ([] : List Keyword).length + (if ([] : List Keyword).isEmpty then 0 else 1) < 30)) = true := by rfl)
    (hline : (apos.endLine == cpos.line) = true := by rfl) (hs : starEach (e :: es) X.env = (false, eval e X.env) :: starEach es X.env := by rfl) (hplain : (backTo cpos (starEach es X.env)).any (·.1) = false := by rfl) :
    PE X (.Call (.Attribute o name apos) (e :: es) [] cpos) (tBM X.K T r to t) := by
  intro pins s σ H Q I h
  refine wpAny_Call_method_late hbase hfew hline rfl (thn (ho pins s σ H _ I h) fun v s1 ⟨x, H1, I1, r1, ty, q1⟩ => ?_)
  obtain ⟨h1, h2⟩ := tyV_is I1 r1 ty
  refine ⟨T, id, pa, slot, hty, h1, h2, ?_⟩
  have hA := ha cpos pins s1 σ H1 _ I1 q1
  rw [hs] at hA ⊢
  refine Calls.callWith_builtin (by show (false || (backTo cpos (starEach es X.env)).any (·.1)) = false; rw [hplain] <;> rfl) (Calls.evalArgs_plain ?_)
  exact thn hA fun us s2 ⟨vs, H2, I2, r2, q2⟩ => hm pins s2 σ H2 x vs v us Q I2 r1 r2 q2
/- xs.append(e), list.index on a module's tuple .. are MtR facts of 06m -/
end
end L2
namespace L2
open PySem PySem.Spec PyProof.Rows
def MtM (X : Cx) (id : String) (r : V → List V → Hp → VK → Prop) : Prop :=
  ∀ (pins : List (Addr × Obj)) (s : Shared) (σ : St) (H : Hp) (x : V) (xs : List V) (v : Value) (us : List Value) (Q : VK), Inv X pins σ H s → RelV x v → Vals xs us → r x xs H Q →
    wpAny (model X.prog X.w) X.A (call (.builtin id) (v :: us)) (EP X pins σ Q) X.xe s
/-! ### lists of values -/
theorem Vals.one : ∀ {x : V} {us : List Value}, Vals [x] us → ∃ u, us = [u] ∧ RelV x u
  | _, _, .cons r .nil => ⟨_, rfl, r⟩
section
variable {X : Cx} {pins : List (Addr × Obj)} {σ : St} {H : Hp} {s : Shared} {l b : Addr} {xs ys zs : List V}
/-! ### the two steps: a tracked list is rewritten, a new list is laid -/
theorem Inv.lset {its its' : List Value} {n : Nat} {f : Array Value → Array Value} {t' : Nat} (I : Inv X pins σ H s) (hH : H l = some (.lst xs))
    (e : s.heap.get? l = some { cls := .type "list", data := .seq its.toArray n }) (hf : f its.toArray = its'.toArray) (hv : Vals ys its') (hz : ys.length ≤ sizeLine) :
    Inv X pins σ (upd H l (.lst ys)) { s with heap := s.heap.update l (Obj.mapSeq f), toks := t' } := by
  have q := PySem.IsL.update e f
  rw [hf] at q
  refine I.write (x := l) (e := l) (by rw [hH]; exact trivial) (.inl rfl) (fun b' u hb hu => (Heap.get?_update_other s.heap (Obj.mapSeq f) (Ne.symm hb)).trans hu) ⟨_, q⟩ ?_
  exact ⟨hz, its', _, hv, q⟩
theorem Inv.lnew {its : List Value} {t' : Nat} (I : Inv X pins σ H s) (hv : Vals ys its) (hz : ys.length ≤ sizeLine) :
    Inv X pins σ (upd H s.heap.objs.size (.lst ys)) { s with heap := s.heap.push { cls := .type "list", data := .seq its.toArray }, toks := t' } :=
  I.laid (fun _ _ q => Heap.get?_push_of_some _ q) (Nat.le_refl _) ⟨hz, its, 0, hv, Heap.get?_push_size _ rfl⟩
theorem Inv.fresh (I : Inv X pins σ H s) : H s.heap.objs.size = none := I.hok.fresh (Nat.le_refl _)
theorem Inv.lstM (I : Inv X pins σ H s) (hH : H l = some (.lst xs)) : xs.length ≤ sizeLine ∧ ∃ (its : List Value) (n : Nat), Vals xs its ∧ xs.length = its.length ∧ s.heap.get? l = some { cls := .type "list", data := .seq its.toArray n } := by
  obtain ⟨z, its, n, r, e⟩ := I.hok l _ hH
  exact ⟨z, its, n, r, r.length, e⟩
theorem notLongL {n : Nat} (h : n ≤ sizeLine) : Builtin.List.listTooLong n = false := by
  unfold Builtin.List.listTooLong
  exact decide_eq_false (by omega)
end
section
variable {X : Cx}
/-! ### methods -/
def rAppend : V → List V → Hp → VK → Prop := fun x vs H Q => ∃ l xs y, x = .ref l ∧ vs = [y] ∧ H l = some (.lst xs) ∧ xs.length < sizeLine ∧ Q .non (upd H l (.lst (xs ++ [y])))
theorem mt_append : MtM X "list.append" rAppend := by
  intro pins s σ H x vs v us Q I rx rv h
  obtain ⟨l, xs, y, rfl, rfl, hH, hz, q⟩ := h
  cases rx
  obtain ⟨u, rfl, ru⟩ := rv.one
  obtain ⟨z, its, n, r, hl, e⟩ := I.lstM hH
  refine call_meets F.slot_list_append ⟨_, e, rfl⟩ F.entry_list_append (F.args_list_append_2 _ _) (PySem.list_append l its.toArray n u (by rw [List.size_toArray]; omega)) ⟨e, ?_⟩
  refine ⟨.non, _, I.lset (its' := its ++ [u]) hH e (by simp) (r.append (.cons ru .nil)) ?_, rfl, q⟩
  rw [List.length_append, List.length_singleton]
  omega
def rExtend : V → List V → Hp → VK → Prop := fun x vs H Q => ∃ l b xs zs, x = .ref l ∧ vs = [.ref b] ∧ H l = some (.lst xs) ∧ H b = some (.lst zs) ∧ xs.length + zs.length ≤ sizeLine ∧ Q .non (upd H l (.lst (xs ++ zs)))
theorem mt_extend : MtM X "list.extend" rExtend := by
  intro pins s σ H x vs v us Q I rx rv h
  obtain ⟨l, b, xs, zs, rfl, rfl, hH, hB, hz, q⟩ := h
  cases rx
  obtain ⟨u, rfl, ru⟩ := rv.one
  cases ru
  obtain ⟨z, its, n, r, hl, e⟩ := I.lstM hH
  obtain ⟨z2, its2, n2, r2, hl2, e2⟩ := I.lstM hB
  have hsz : its.toArray.size + its2.toArray.size ≤ sizeLine := by rw [List.size_toArray, List.size_toArray]; omega
  have hlong : ¬ (!its.toArray.isEmpty && Builtin.List.listTooLong (its.toArray.size + its2.toArray.size)) = true := by
    rw [notLongL hsz, Bool.and_false]
    exact Bool.false_ne_true
  refine call_meets F.slot_list_extend ⟨_, e, rfl⟩ F.entry_list_extend (F.args_list_extend_2 _ _)
    (AutoSeq1.list_extend_list_list_0 l its.toArray n b its2.toArray n2 hlong (by rw [List.size_toArray]; omega) (by omega)) ⟨e, e2, ?_⟩
  refine ⟨.non, _, I.lset (its' := its ++ its2) hH e (by simp) (r.append r2) ?_, rfl, q⟩
  rw [List.length_append]
  omega
/-! ### list + list, list += list, list * int -/
def rCat : R2 := fun x y H Q => ∃ l b xs zs, x = .ref l ∧ y = .ref b ∧ H l = some (.lst xs) ∧ H b = some (.lst zs) ∧ xs.length + zs.length ≤ sizeLine ∧ ∀ p, H p = none → Q (.ref p) (upd H p (.lst (xs ++ zs)))
theorem op_cat : OpR X (binaryOp .Add) rCat := by
  intro pins s σ H x y v u Q I rx ry h
  obtain ⟨l, b, xs, zs, rfl, rfl, hH, hB, hz, q⟩ := h
  cases rx
  cases ry
  obtain ⟨z, its, n, r, hl, e⟩ := I.lstM hH
  obtain ⟨z2, its2, n2, r2, hl2, e2⟩ := I.lstM hB
  refine PySem.P.add_list e e2 ?_ (by rw [List.size_toArray, List.size_toArray]; omega)
  have ea : its.toArray ++ its2.toArray = (its ++ its2).toArray := by simp
  rw [ea]
  exact ⟨.ref _, _, I.lnew (t' := s.toks) (r.append r2) (by rw [List.length_append]; omega), rfl, q _ I.fresh⟩
/-! ### del xs[i] -/
end
/-! ### xs[a:b] = ys -/
section
variable {prog : Program} {w : World} {A : Around} {E : Value → Shared → Prop} {s : Shared}
end
section
variable {X : Cx}
end
end L2
namespace L2
open PySem PySem.Spec PyProof.Rows
theorem Vals.ints : ∀ {ns : List Int} {us : List Value}, Vals (ns.map V.int) us → IntsAre us ns
  | [], us, h => by
    rw [List.map_nil] at h
    cases h
    exact IntsAre.nil
  | n :: ns, us, h => by
    rw [List.map_cons] at h
    cases h with
    | cons r t =>
      obtain ⟨k, rfl⟩ := r
      exact IntsAre.cons n k (Vals.ints t)
theorem Vals.bls : ∀ {bs : List Bool} {us : List Value}, Vals (bs.map V.bl) us → us = bs.map Value.bool
  | [], us, h => by
    rw [List.map_nil] at h
    cases h
    rfl
  | b :: bs, us, h => by
    rw [List.map_cons] at h
    cases h with
    | cons r t =>
      cases r
      rw [Vals.bls t, List.map_cons]
theorem Vals.ref1 {a : Addr} {us : List Value} (r : Vals [V.ref a] us) : us = [Value.ref a] := by
  cases r with
  | cons r t =>
    cases t
    cases r
    rfl
/-! ### the library's walks over a list of ints, kept objects alone -/
section
variable {prog : Program} {w : World} {A : Around} {E : Value → Shared → Prop} {s : Shared} {l : Addr} {its : List Value} {ns : List Int} {Q : Value → Shared → Prop}
end
/-! ### the calls, by values (CallR of 03t; MtR of 06l) -/
section
variable {X : Cx}
/-! sorted, sort (fewer than 64 items: the library's own bound) -/
theorem small64 {n : Nat} (h : n < 64) : n ≤ sizeLine := by rw [sizeLine_eq]; omega
end
/-! ### list.index, flat items -/
section
variable {X : Cx}
end
/-! ### type(x) of an own instance; is, is not of a module's class -/
section
variable {X : Cx}
end
/-! ### any(xs), all(xs) of a list of bools -/
theorem iter_any {prog : Program} {w : World} {A : Around} {E : Value → Shared → Prop} {s : Shared} {l : Addr} {items : Array Value} {Q : Value → Shared → Prop} (hl : s.heap.IsList l items)
    (h : ∀ s₂ : Shared, s₂ = { s with heap := s.heap.push { cls := .type "list_iterator", data := .fields #[.ref l, .int 0 0] } } →
      (s₂.heap.IsListIter s.heap.objs.size l 0 ∧ s₂.heap.IsList l items) → l ≠ s.heap.objs.size → Q (.ref s.heap.objs.size) s₂) : wpAny (model prog w) A (pyIter (.ref l)) Q E s := by
  have hlt : l < s.heap.objs.size := by obtain ⟨_, e, _⟩ := hl; exact Heap.lt_size e
  exact wpAny_pyIter_list hl (h _ rfl ⟨⟨_, Heap.get?_push_size _ rfl, rfl, rfl⟩, hl.push _⟩ (Nat.ne_of_lt hlt))
theorem truth_bools {prog : Program} {w : World} {A : Around} {bs : List Bool} {its : List Value} (e : its = bs.map Value.bool) :
    TruthOf prog w A (fun i v => its.toArray[i]? = some v) (fun i => bs.getD i false) := fun i v s Q E hv hq => by
  have hv' : its[i]? = some v := by simpa using hv
  rw [e, List.getElem?_map] at hv'
  obtain ⟨b, hb, rfl⟩ := Option.map_eq_some_iff.mp hv'
  have hg : bs.getD i false = b := by rw [List.getD_eq_getElem?_getD, hb] <;> rfl
  have hq' : Q (bs.getD i false) s := hq
  rw [hg] at hq'
  exact wpAny_truthy_bool hq'
theorem all_range : ∀ bs : List Bool, (List.range bs.length).all (fun i => bs.getD i false) = bs.all id
  | [] => rfl
  | b :: bs => by
    rw [List.length_cons, List.range_succ_eq_map, List.all_cons, List.all_map, List.all_cons, ← all_range bs]
    all_goals rfl
section
variable {X : Cx}
def rAll (K : PySem.W.Frag) : List V → Hp → VK → Prop := fun vs H Q => ∃ (a : Addr) (bs : List Bool), vs = [V.ref a] ∧ SqL K H a (bs.map V.bl) ∧ Q (.bl (bs.all id)) H
theorem cr_all (hc : X.calm = true) : CallR X (.builtin "all") (rAll X.K) := by
  intro pins s σ H vs us Q I r h
  obtain ⟨a, bs, rfl, hs, q⟩ := h
  obtain ⟨its, rv, hl, _⟩ := I.list hs
  rw [Vals.ref1 r]
  have hb := rv.bls
  refine call_all_walk (iter_any hl.isList fun s₂ e2 st hne => ?_)
  subst e2
  refine ⟨_, _, _, _, _, _, _, rfl, Walks.list (A := X.A.in1) (I.ok.hd hc) _ a hne its.toArray, st, truth_bools hb, fun h' tk hk => ?_⟩
  refine ⟨.bl _, H, I.kept fun b o eo => hk b o (fun hmem => ?_) (Heap.get?_push_of_some _ eo), ?_, q⟩
  · rcases List.mem_cons.mp hmem with e1 | hmem
    · exact absurd (e1 ▸ Heap.lt_size eo) (Nat.lt_irrefl _)
    · cases hmem
  · show Value.bool _ = Value.bool _
    rw [← all_range, hb, List.size_toArray, List.length_map]
end
/-! ### == and != of data at any depth: none, bools, ints, texts, lists, tuples -/
mutual
inductive Dp (K : PySem.W.Frag) (H : Hp) : V → PyData → Prop
  | non : Dp K H .non .none
  | bl (b : Bool) : Dp K H (.bl b) (.bool b)
  | int (i : Int) : Dp K H (.int i) (.int i)
  | str (x : Str) : Dp K H (.str x) (.str x)
  | lst {a : Addr} {xs : List V} {ds : List PyData} : SqL K H a xs → DpAll K H xs ds → Dp K H (.ref a) (.list ds)
  | tup {a : Addr} {xs : List V} {ds : List PyData} : SqT K H a xs → DpAll K H xs ds → Dp K H (.ref a) (.tuple ds)
inductive DpAll (K : PySem.W.Frag) (H : Hp) : List V → List PyData → Prop
  | nil : DpAll K H [] []
  | cons {v : V} {vs : List V} {d : PyData} {ds : List PyData} : Dp K H v d → DpAll K H vs ds → DpAll K H (v :: vs) (d :: ds)
end
section
variable {X : Cx} {pins : List (Addr × Obj)} {σ : St} {H : Hp} {s : Shared}
mutual
theorem Dp.reads (I : Inv X pins σ H s) : ∀ (d : PyData) (v : V) (u : Value), Dp X.K H v d → RelV v u → ∃ as, Reads s.heap u d as
  | .none, _, _, h, r => by
    cases h
    cases r
    exact ⟨_, Reads.none⟩
  | .bool b, _, _, h, r => by
    cases h
    cases r
    exact ⟨_, Reads.bool b⟩
  | .int i, _, _, h, r => by
    cases h
    obtain ⟨t, rfl⟩ := r
    exact ⟨_, Reads.int i t⟩
  | .str x, _, _, h, r => by
    cases h
    obtain ⟨t, rfl⟩ := r
    exact ⟨_, Reads.str x t⟩
  | .list ds, _, _, h, r => by
    cases h with
    | lst hs ha =>
      cases r
      obtain ⟨its, rv, ⟨o, n, ho, hc, _, hd⟩, _⟩ := I.list hs
      obtain ⟨as, hr⟩ := Dp.readsAll I ds _ its ha rv
      exact ⟨_, Reads.list ho hc hd hr⟩
  | .tuple ds, _, _, h, r => by
    cases h with
    | tup hs ha =>
      cases r
      obtain ⟨its, rv, ⟨o, ho, hc, n, hd⟩, _⟩ := I.tuple hs
      obtain ⟨as, hr⟩ := Dp.readsAll I ds _ its ha rv
      exact ⟨_, Reads.tuple ho hc hd hr⟩
  | .dict _, _, _, h, _ => by cases h
theorem Dp.readsAll (I : Inv X pins σ H s) : ∀ (ds : List PyData) (vs : List V) (us : List Value), DpAll X.K H vs ds → Vals vs us → ∃ as, ReadsAll s.heap us ds as
  | [], _, _, h, r => by
    cases h
    cases r
    exact ⟨_, ReadsAll.nil⟩
  | d :: ds, _, _, h, r => by
    cases h with
    | cons h1 h2 =>
      cases r with
      | cons r1 r2 =>
        obtain ⟨as, q1⟩ := Dp.reads I d _ _ h1 r1
        obtain ⟨bs, q2⟩ := Dp.readsAll I ds _ _ h2 r2
        exact ⟨_, ReadsAll.cons q1 q2⟩
end
end
section
variable {X : Cx}
end
end L2
namespace L2
open PySem PySem.Spec PyProof.Rows
abbrev CellAt (h : Heap) (c : Addr) (v : Option Value) : Prop := h.IsCell c v
def relS (scope sc : Scope) : Scope :=
  { scope with names := scope.names.map fun (n, k) => if (k == .free && sc.kind == .function && sc.names.lookup n == some .cell) then (n, .cell) else (n, k) }
def cloFrom (cells : List (Str × Addr)) : List (Str × NameKind) → List (Str × Addr) → List (Str × Addr)
  | [], acc => acc
  | (n, k) :: r, acc => if k == .free then cloFrom cells r ((n, (cells.lookup n).getD 0) :: acc) else cloFrom cells r acc
theorem closure_loop (env : Env) (f : Str × NameKind → List (Str × Addr) → Sem (ForInStep (List (Str × Addr))))
    (hf : ∀ n k c, f (n, k) c = if k == .free then (do let a ← cellOf env n; pure (.yield ((n, a) :: c))) else pure (.yield c)) :
    ∀ (names : List (Str × NameKind)) (acc : List (Str × Addr)), (∀ y ∈ names, y.2 = .free → ∃ c, env.cells.lookup y.1 = some c) → forIn names acc f = pure (cloFrom env.cells names acc)
  | [], acc, _ => by rw [List.forIn_nil]; rfl
  | (n, k) :: r, acc, h => by
    rw [List.forIn_cons, hf]
    have ih := fun acc => closure_loop env f hf r acc fun y hy => h y (List.mem_cons_of_mem _ hy)
    unfold cloFrom
    by_cases hk : (k == NameKind.free) = true
    · rw [if_pos hk, if_pos hk]
      obtain ⟨c, hc⟩ := h (n, k) List.mem_cons_self (by simpa using hk)
      have e : cellOf env n = pure c := by unfold cellOf; rw [hc]
      rw [e]
      have e2 : (env.cells.lookup n).getD 0 = c := by rw [hc]; rfl
      rw [e2]
      exact ih _
    · rw [if_neg hk, if_neg hk]
      exact ih _
theorem closure_ok {scope : Scope} {env : Env} (h : ∀ y ∈ scope.names, y.2 = .free → ∃ c, env.cells.lookup y.1 = some c) : closureFor scope env = pure (cloFrom env.cells scope.names []) := by
  simp only [closureFor]
  rw [closure_loop env _ (fun n k c => rfl) scope.names [] h]
  rfl
theorem mem_lookup {α : Type} : ∀ {l : List (Str × α)} {n : Str} {c : α}, (n, c) ∈ l → ∃ c', l.lookup n = some c'
  | (k, v) :: r, n, c, h => by
    rw [List.lookup_cons]
    cases hb : n == k with
    | true => exact ⟨_, rfl⟩
    | false =>
      rcases List.mem_cons.mp h with e | h
      · cases e; simp at hb
      · exact mem_lookup h
theorem cloFrom_mem {cells : List (Str × Addr)} : ∀ {names : List (Str × NameKind)} {acc : List (Str × Addr)} {n : Str} {c : Addr}, (n, c) ∈ cloFrom cells names acc → (n, c) ∈ acc ∨ ((n, .free) ∈ names ∧ c = (cells.lookup n).getD 0)
  | [], _, _, _, h => .inl h
  | (m, k) :: r, acc, n, c, h => by
    unfold cloFrom at h
    split at h
    · rename_i hk
      have hk : k = .free := by simpa using hk
      rcases cloFrom_mem h with h | ⟨h1, h2⟩
      · rcases List.mem_cons.mp h with e | h
        · cases e; exact .inr ⟨hk ▸ List.mem_cons_self, rfl⟩
        · exact .inl h
      · exact .inr ⟨List.mem_cons_of_mem _ h1, h2⟩
    · rcases cloFrom_mem h with h | ⟨h1, h2⟩
      · exact .inl h
      · exact .inr ⟨List.mem_cons_of_mem _ h1, h2⟩
theorem cloFrom_acc {cells : List (Str × Addr)} : ∀ {names : List (Str × NameKind)} {acc : List (Str × Addr)} {p : Str × Addr}, p ∈ acc → p ∈ cloFrom cells names acc
  | [], _, _, h => h
  | (m, k) :: r, acc, p, h => by
    unfold cloFrom
    split
    · exact cloFrom_acc (List.mem_cons_of_mem _ h)
    · exact cloFrom_acc h
theorem cloFrom_has {cells : List (Str × Addr)} : ∀ {names : List (Str × NameKind)} {acc : List (Str × Addr)} {n : Str}, (n, .free) ∈ names → (n, (cells.lookup n).getD 0) ∈ cloFrom cells names acc
  | (m, k) :: r, acc, n, h => by
    unfold cloFrom
    rcases List.mem_cons.mp h with e | h
    · cases e
      exact cloFrom_acc List.mem_cons_self
    · split
      · exact cloFrom_has h
      · exact cloFrom_has h
theorem cells_mem : ∀ {names : List (Str × NameKind)} {h : Heap} {acc : List (Str × Addr)} {x : Str} {c : Addr}, (x, c) ∈ cellsFrom h.objs.size names acc →
    (x, c) ∈ acc ∨ ((x, .cell) ∈ names ∧ h.objs.size ≤ c ∧ CellAt (pushCells h names) c none)
  | [], _, _, _, _, h => .inl h
  | (n, k) :: r, h, acc, x, c, hm => by
    unfold cellsFrom at hm
    unfold pushCells
    split at hm
    · rename_i hk
      rw [if_pos hk]
      have hk : k = .cell := by simpa using hk
      rw [← Heap.size_push h { cls := .type "cell", data := .cell none }] at hm
      rcases cells_mem hm with hm | ⟨h1, h2, h3⟩
      · rcases List.mem_cons.mp hm with e | hm
        · cases e
          exact .inr ⟨hk ▸ List.mem_cons_self, Nat.le_refl _, _, pushCells_keeps r _ _ _ (Heap.get?_push_size _ rfl), rfl⟩
        · exact .inl hm
      · rw [Heap.size_push] at h2
        exact .inr ⟨List.mem_cons_of_mem _ h1, Nat.le_of_succ_le h2, h3⟩
    · rename_i hk
      rw [if_neg hk]
      rcases cells_mem hm with hm | ⟨h1, h2, h3⟩
      · exact .inl hm
      · exact .inr ⟨List.mem_cons_of_mem _ h1, h2, h3⟩
theorem cells_acc : ∀ {names : List (Str × NameKind)} {n : Nat} {acc : List (Str × Addr)} {p : Str × Addr}, p ∈ acc → p ∈ cellsFrom n names acc
  | [], _, _, _, h => h
  | (m, k) :: r, n, acc, p, h => by
    unfold cellsFrom
    split
    · exact cells_acc (List.mem_cons_of_mem _ h)
    · exact cells_acc h
theorem cells_has : ∀ {names : List (Str × NameKind)} {n : Nat} {acc : List (Str × Addr)} {x : Str}, (x, .cell) ∈ names → ∃ c, (x, c) ∈ cellsFrom n names acc
  | (m, k) :: r, n, acc, x, h => by
    unfold cellsFrom
    rcases List.mem_cons.mp h with e | h
    · cases e
      exact ⟨n, cells_acc List.mem_cons_self⟩
    · split
      · exact cells_has h
      · exact cells_has h
theorem cells_inj : ∀ {names : List (Str × NameKind)} {h : Heap} {acc : List (Str × Addr)} {x y : Str} {c : Addr}, (∀ p ∈ acc, p.2 < h.objs.size) → (∀ x y c, (x, c) ∈ acc → (y, c) ∈ acc → x = y) →
    (x, c) ∈ cellsFrom h.objs.size names acc → (y, c) ∈ cellsFrom h.objs.size names acc → x = y
  | [], _, _, _, _, _, _, hi, h1, h2 => hi _ _ _ h1 h2
  | (n, k) :: r, h, acc, x, y, c, hl, hi, h1, h2 => by
    unfold cellsFrom at h1 h2
    split at h1
    · rename_i hk
      rw [if_pos hk] at h2
      rw [← Heap.size_push h { cls := .type "cell", data := .cell none }] at h1 h2
      refine cells_inj (h := h.push _) (fun p hp => ?_) (fun x y c a b => ?_) h1 h2
      · rw [Heap.size_push]
        rcases List.mem_cons.mp hp with rfl | hp
        · exact Nat.lt_succ_self _
        · exact Nat.lt_succ_of_lt (hl p hp)
      · rcases List.mem_cons.mp a with e | a <;> rcases List.mem_cons.mp b with e' | b
        · cases e; cases e'; rfl
        · cases e; exact absurd (hl _ b) (Nat.lt_irrefl _)
        · cases e'; exact absurd (hl _ a) (Nat.lt_irrefl _)
        · exact hi _ _ _ a b
    · rename_i hk
      rw [if_neg hk] at h2
      exact cells_inj hl hi h1 h2
theorem newEnv_comp {M : Model} {A : Around} {E : Value → Shared → Prop} {s : Shared} {scope : Scope} {globals : Addr} {closure : List (Str × Addr)} {qual : Str} {func : Option Addr} {code : Value} {around : Env} {builtins : Addr} {Q : Env → Shared → Prop}
    (h : Q (newEnv scope s.heap.objs.size globals (cellsFrom (s.heap.objs.size + 1) scope.names closure) qual func code (some around) builtins)
      { s with heap := pushCells (s.heap.push { cls := .type "dict", data := .dict #[] }) scope.names }) :
    wpAny M A (newFunctionEnv scope globals closure [] qual func code (some around) builtins) Q E s := by
  simp only [newFunctionEnv, Option.isSome_some, if_true]
  refine wpAny_bind (wpAny_alloc ?_)
  refine wpAny_bind (wpAny_layCells _ (fun n k c => rfl) scope.names closure _ _ ?_)
  rw [show ({ s with heap := s.heap.push { cls := .type "dict", data := .dict #[] } } : Shared).heap.objs.size = s.heap.objs.size + 1 from Heap.size_push ..]
  rw [List.forIn_nil]
  exact wpAny_bind (wpAny_pure (wpAny_pure h))
/-- every name of the written scope, in the scope that runs -/
theorem lookup_relS {sc : Scope} : ∀ {names : List (Str × NameKind)} {x : Str} {k : NameKind},
    (names.map fun (n, k) => if (k == NameKind.free && sc.kind == .function && sc.names.lookup n == some .cell) then (n, NameKind.cell) else (n, k)).lookup x = some k →
    ∃ k', names.lookup x = some k' ∧ (k = k' ∨ (k' = .free ∧ k = .cell))
  | [], _, _, h => by simp at h
  | (n, k₀) :: r, x, k, h => by
    have ih := @lookup_relS sc r x k
    have h' : List.lookup x ((if (k₀ == NameKind.free && sc.kind == .function && sc.names.lookup n == some .cell) = true then (n, NameKind.cell) else (n, k₀)) :: (r.map _)) = some k := h
    cases hx : x == n with
    | true =>
      simp only [List.lookup_cons, hx]
      by_cases hc : (k₀ == NameKind.free && sc.kind == .function && sc.names.lookup n == some .cell) = true
      · rw [if_pos hc] at h'
        simp only [List.lookup_cons, hx] at h'
        cases h'
        simp only [Bool.and_eq_true, beq_iff_eq] at hc
        exact ⟨k₀, rfl, .inr ⟨hc.1.1, rfl⟩⟩
      · rw [if_neg hc] at h'
        simp only [List.lookup_cons, hx] at h'
        cases h'
        exact ⟨_, rfl, .inl rfl⟩
    | false =>
      simp only [List.lookup_cons, hx]
      by_cases hc : (k₀ == NameKind.free && sc.kind == .function && sc.names.lookup n == some .cell) = true
      · rw [if_pos hc] at h'
        simp only [List.lookup_cons, hx] at h'
        exact ih h'
      · rw [if_neg hc] at h'
        simp only [List.lookup_cons, hx] at h'
        exact ih h'
/-- the names of a comprehension's block: its own (with their places in N), or captured -/
structure BlkOk (N : List Str) (sc scope : Scope) (own : List (Str × Nat)) : Prop where
  kind : scope.kind = .function
  uniq : ∀ y ∈ scope.names, scope.names.lookup y.1 = some y.2
  ix : ∀ p ∈ own, N[p.2]? = some p.1
  free : ∀ y ∈ scope.names, y.2 = .free → sc.names.lookup y.1 = some .cell ∨ sc.names.lookup y.1 = some .free
  own : ∀ y ∈ scope.names, y.2 = .local ∨ y.2 = .cell → y.1 ∈ own.map (·.1) ∨ y.1 ∉ N
/-- the slots of the block's own names forgotten -/
def wipe (σ : St) : List Nat → St
  | [] => σ
  | v :: vs => (wipe σ vs).set v none
theorem wipe_length (σ : St) : ∀ vs : List Nat, (wipe σ vs).length = σ.length
  | [] => rfl
  | v :: vs => by unfold wipe; rw [List.length_set, wipe_length σ vs]
theorem wipe_some {σ : St} {i : Nat} {x : V} : ∀ {vs : List Nat}, (wipe σ vs)[i]? = some (some x) → σ[i]? = some (some x) ∧ i ∉ vs
  | [], h => ⟨h, by simp⟩
  | v :: vs, h => by
    unfold wipe at h
    by_cases hi : v = i
    · subst hi
      by_cases hv : v < (wipe σ vs).length
      · rw [List.getElem?_set_self hv] at h; cases h
      · rw [List.getElem?_eq_none (by simpa using hv)] at h; cases h
    · rw [List.getElem?_set_ne hi] at h
      obtain ⟨h1, h2⟩ := wipe_some h
      exact ⟨h1, by simp only [List.mem_cons, not_or]; exact ⟨fun e => hi e.symm, h2⟩⟩
/-- the context of a block that starts at s, its iterator's objects at fp -/
abbrev Cx.blk (X : Cx) (s : Shared) (H : Hp) (scope : Scope) (cenv : Env) (fp : List Addr) : Cx := { X with s_0 := s, H_0 := H, env := cenv, outer := X.stack, ex := fp, fn := fun x => scope.names.lookup x == some .cell, pn := [], xe := fun _ _ => False }
section
variable {X : Cx} {pins : List (Addr × Obj)} {σ : St} {H : Hp} {s : Shared}
theorem block_start {scope : Scope} {own : List (Str × Nat)} {fp : List Addr} (I : Inv X pins σ H s) (ok : BlkOk X.N X.env.scope scope own) (hN : X.N.Nodup) (hfp : ∀ b ∈ fp, FpOk X pins H b ∧ b < s.heap.objs.size) :
    Inv (X.blk s H scope (compEnvC scope (cellsFrom (s.heap.objs.size + 1) scope.names (cloFrom X.env.cells scope.names [])) s.heap.objs.size X.env) fp) [] (wipe σ (own.map (·.2))) H { s with heap := pushCells (s.heap.push { cls := .type "dict", data := .dict #[] }) scope.names } := by
  have hfree : ∀ y ∈ scope.names, y.2 = .free → ∃ c, X.env.cells.lookup y.1 = some c := fun y hy e => by
    rcases ok.free y hy e with k | k
    · exact I.ok.has _ (.inl k)
    · exact I.ok.has _ (.inr k)
  generalize hcenv : compEnvC scope (cellsFrom (s.heap.objs.size + 1) scope.names (cloFrom X.env.cells scope.names [])) s.heap.objs.size X.env = cenv
  have kp : ∀ b o, s.heap.get? b = some o → (pushCells (s.heap.push { cls := .type "dict", data := .dict #[] }) scope.names).get? b = some o := fun b o e => pushCells_keeps _ _ _ _ (Heap.get?_push_of_some _ e)
  have hL : cenv.locals = s.heap.objs.size := by rw [← hcenv]; rfl
  have hcl : cenv.cells = cellsFrom (s.heap.objs.size + 1) scope.names (cloFrom X.env.cells scope.names []) := by rw [← hcenv]; rfl
  have hsc : cenv.scope = relS scope X.env.scope := by rw [← hcenv]; rfl
  rw [← Heap.size_push s.heap { cls := .type "dict", data := .dict #[] }] at hcl
  have cm : ∀ {y c}, (y, c) ∈ cloFrom X.env.cells scope.names [] → X.env.cells.lookup y = some c ∧ c < s.heap.objs.size := fun {y c} hm => by
    rcases cloFrom_mem hm with hm | ⟨h1, rfl⟩
    · cases hm
    · obtain ⟨c, hc⟩ := hfree _ h1 rfl
      rw [hc]
      obtain ⟨w, z⟩ := I.cell _ _ hc
      exact ⟨rfl, z.lt⟩
  have mem : ∀ {y c}, cenv.cells.lookup y = some c → (X.env.cells.lookup y = some c ∧ c < s.heap.objs.size) ∨ (s.heap.objs.size + 1 ≤ c ∧ CellAt (pushCells (s.heap.push { cls := .type "dict", data := .dict #[] }) scope.names) c none) := fun {y c} e => by
    rw [hcl] at e
    rcases cells_mem (PySem.mem_of_lookup e) with hm | ⟨_, h2, h3⟩
    · exact .inl (cm hm)
    · rw [Heap.size_push] at h2; exact .inr ⟨h2, h3⟩
  have look : ∀ {y}, scope.names.lookup y = some .free → ∃ c, cenv.cells.lookup y = some c ∧ X.env.cells.lookup y = some c := fun {y} hl => by
    have hy : (y, NameKind.free) ∈ scope.names := PySem.mem_of_lookup hl
    obtain ⟨c', e'⟩ := mem_lookup (cells_acc (names := scope.names) (n := (s.heap.push { cls := .type "dict", data := .dict #[] }).objs.size) (cloFrom_has (cells := X.env.cells) (acc := []) hy))
    rw [← hcl] at e'
    refine ⟨c', e', ?_⟩
    rw [hcl] at e'
    rcases cells_mem (PySem.mem_of_lookup e') with hm | ⟨h1, _, _⟩
    · exact (cm hm).1
    · have := ok.uniq _ h1
      rw [hl] at this; cases this
  have okB : (X.blk s H scope cenv fp).Ok := by
    refine ⟨I.ok.mod, by show cenv.scope.kind = _; rw [hsc]; exact ok.kind, by show cenv.globals = _; rw [← hcenv]; exact I.ok.glob, by show cenv.builtins = _; rw [← hcenv]; exact I.ok.blt, by show s.heap.objs.size ≤ cenv.locals; rw [hL]; exact Nat.le_refl _,
      fun y z c e1 e2 => ?_, fun y hy => ?_, fun y c z e => ?_, I.ok.hd, I.ok.frames, .inl rfl, fun b hb => ⟨?_, fun y c e z => ?_⟩, I.bs, Nat.le_trans I.ok.bsz I.sz, fun b o e hb => ?_, fun b hb z => ?_, I.stack, I.stkFree⟩
    · have e1 : cenv.cells.lookup y = some c := e1
      have e2 : cenv.cells.lookup z = some c := e2
      rw [hcl] at e1 e2
      refine cells_inj (fun p hp => ?_) (fun y z c a b => I.ok.inj y z c (cm a).1 (cm b).1) (PySem.mem_of_lookup e1) (PySem.mem_of_lookup e2)
      rw [Heap.size_push]
      exact Nat.lt_succ_of_lt (cm (y := p.1) (c := p.2) hp).2
    · show ∃ c, cenv.cells.lookup y = some c
      have key : ∀ k, cenv.kindOf y = some k → (k = .cell ∨ k = .free) → ∃ c, cenv.cells.lookup y = some c := fun k hk hk' => by
        unfold Env.kindOf at hk
        rw [hsc] at hk
        obtain ⟨k', e, r⟩ := lookup_relS hk
        have : k' = .cell ∨ k' = .free := by
          rcases r with rfl | ⟨rfl, _⟩
          · exact hk'
          · exact .inr rfl
        rcases this with rfl | rfl
        · obtain ⟨c, hm⟩ := cells_has (n := (s.heap.push { cls := .type "dict", data := .dict #[] }).objs.size) (acc := cloFrom X.env.cells scope.names []) (PySem.mem_of_lookup e)
          obtain ⟨c', e'⟩ := mem_lookup hm
          exact ⟨c', by rw [hcl]; exact e'⟩
        · obtain ⟨c, h1, _⟩ := look e
          exact ⟨c, h1⟩
      rcases hy with hy | hy
      · exact key _ hy (.inl rfl)
      · exact key _ hy (.inr rfl)
    · have z : (scope.names.lookup y == some NameKind.cell) = true := z
      have z : scope.names.lookup y = some .cell := by simpa using z
      have e : cenv.cells.lookup y = some c := e
      rw [hcl] at e
      rcases cells_mem (PySem.mem_of_lookup e) with hm | ⟨_, h2, _⟩
      · rcases cloFrom_mem hm with hm | ⟨h1, _⟩
        · cases hm
        · have q := ok.uniq _ h1
          rw [z] at q; cases q
      · rw [Heap.size_push] at h2
        exact Nat.le_of_succ_le h2
    · show b ≠ cenv.locals
      rw [hL]; exact Nat.ne_of_lt (hfp b hb).2
    · have e : cenv.cells.lookup y = some c := e
      rcases mem e with ⟨h1, _⟩ | ⟨h1, _⟩
      · exact (hfp b hb).1.2.2.2.2.1 y c h1 z
      · have h2 : s.heap.objs.size + 1 ≤ b := by rw [← z]; exact h1
        exact absurd (Nat.lt_of_lt_of_le (hfp b hb).2 (Nat.le_of_succ_le h2)) (Nat.lt_irrefl _)
    · rcases (hfp b hb).1.2.2.2.1 with z | z
      · exact I.ok.noex b o e z
      · exact absurd (Nat.lt_of_lt_of_le (Heap.lt_size e) (Nat.le_trans I.ok.bsz z)) (Nat.lt_irrefl _)
    · rcases List.mem_cons.mp (I.stkSub b z) with z | z
      · exact (hfp b hb).1.2.1 z
      · exact (hfp b hb).1.2.2.1 z
  refine ⟨okB, rfl, I.bare, Un.kept kp, ⟨fun _ => none, ?_, fun i y av e1 e2 e3 => ?_⟩, fun y c e => ?_, ?_, fun y c e => ?_, fun p hp => ?_, I.hok.kept kp, by rw [wipe_length]; exact I.len⟩
  · show Heap.Ns _ cenv.locals _
    rw [hL]
    exact Heap.Ns.keeps (Heap.Ns.new ..) fun b o e => pushCells_keeps _ _ _ _ e
  · obtain ⟨e2, hne⟩ := wipe_some e2
    have hfr : scope.names.lookup y = some .free ∧ (cenv.kindOf y = some .cell ∨ cenv.kindOf y = some .free) := by
      have key : ∀ k, cenv.scope.names.lookup y = some k → k = .local ∨ k = .cell ∨ k = .free → scope.names.lookup y = some .free ∧ (cenv.kindOf y = some .cell ∨ cenv.kindOf y = some .free) := fun k hk hk' => by
        have hk0 := hk
        rw [hsc] at hk
        obtain ⟨k', e, r⟩ := lookup_relS hk
        have no : ¬ (k' = .local ∨ k' = .cell) := fun hh => by
          rcases ok.own _ (PySem.mem_of_lookup e) hh with e' | e'
          · obtain ⟨p, hp, hpy⟩ := List.mem_map.mp e'
            have e3 := ok.ix p hp
            have : p.1 = y := hpy
            rw [this] at e3
            exact hne (List.mem_map.mpr ⟨p, hp, nodup_ix hN e3 e1⟩)
          · exact e' (List.mem_of_getElem? e1)
        rcases r with rfl | ⟨rfl, rfl⟩
        · rcases hk' with rfl | rfl | rfl
          · exact absurd (.inl rfl) no
          · exact absurd (.inr rfl) no
          · exact ⟨e, .inr hk0⟩
        · exact ⟨e, .inl hk0⟩
      have e3 : Vis cenv.scope y := e3
      rcases e3 with e3 | e3 | e3
      · exact key _ e3 (.inl rfl)
      · exact key _ e3 (.inr (.inl rfl))
      · exact key _ e3 (.inr (.inr rfl))
    obtain ⟨m, hn, hl⟩ := I.loc
    have hvis : Vis X.env.scope y := (ok.free _ (PySem.mem_of_lookup hfr.1) rfl).elim (fun k => .inr (.inl k)) (fun k => .inr (.inr k))
    obtain ⟨w, r, q⟩ := hl i y av e1 e2 hvis
    refine ⟨w, r, .inr ⟨hfr.2, ?_⟩⟩
    obtain ⟨c, h1, h2⟩ := look hfr.1
    rcases q with ⟨k, _⟩ | ⟨_, c', e', z⟩
    · have k : X.env.scope.names.lookup y = some .local := k
      rcases ok.free _ (PySem.mem_of_lookup hfr.1) rfl with k' | k' <;> rw [show X.env.scope.names.lookup y = _ from k'] at k <;> cases k
    · rw [h2] at e'; cases e'
      exact ⟨c, h1, z.keeps kp⟩
  · have e : cenv.cells.lookup y = some c := e
    rcases mem e with ⟨h1, _⟩ | ⟨_, z⟩
    · obtain ⟨w, z⟩ := I.cell y c h1
      exact ⟨w, z.keeps kp⟩
    · exact ⟨_, z⟩
  · show H cenv.locals = none
    rw [hL]; exact I.hok.fresh (Nat.le_refl _)
  · have e : cenv.cells.lookup y = some c := e
    rcases mem e with ⟨h1, _⟩ | ⟨h1, _⟩
    · exact I.freeC y c h1
    · exact I.hok.fresh (Nat.le_of_succ_le h1)
  · exact absurd (show p ∈ ([] : List (Addr × Obj)) ++ [] from hp) (by simp)
/-- an item appended to a tracked list -/
theorem app_ok {E : Value → Shared → Prop} {D : Addr} {xs : List V} {y : V} {v : Value} {Q : Value → Shared → Prop} (I : Inv X pins σ H s) (hD : H D = some (.lst xs)) (hz : xs.length < sizeLine) (r : RelV y v)
    (h : ∀ s', Inv X pins σ (upd H D (.lst (xs ++ [y]))) s' → Q .none s') : wpAny (model X.prog X.w) X.A (call (.builtin "list.append") [.ref D, v]) Q E s := by
  obtain ⟨hz', its, n, ri, e⟩ := I.hok D _ hD
  have hl := ri.length
  refine append_at (hsz := by rw [List.size_toArray]; omega) e fun h' sb ho' => ?_
  refine h { s with heap := h' } (I.write (t' := s.toks) (by rw [hD]; trivial) (.inl rfl) (fun b u hb q => (sb.2 b hb).trans q) ⟨_, ho'⟩ ⟨by rw [List.length_append]; exact hz, its ++ [v], n + 1, ri.append (.cons r .nil), ?_⟩)
  rw [ho']
  simp
/-- a clause's tests -/
def PTs (X : Cx) (ifs : List Expr) (t : TT) : Prop :=
  ∀ (pins : List (Addr × Obj)) (s : Shared) (σ : St) (H : Hp) (Q : Bool → Hp → Prop), Inv X pins σ H s → t σ H Q →
    wpAny (model X.prog X.w) X.A (forIn ifs true fun c r => if r = true then do let ok ← isTrue c X.env (eval c X.env); pure (ForInStep.yield ok) else pure (ForInStep.yield r)) (TP X pins σ Q) X.xe s
def tYes : TT := fun _ H Q => Q true H
theorem pts_nil : PTs X [] tYes := fun _ _ _ H _ I h => wpAny_tests_nil ⟨H, I, h⟩
theorem pts_one {c : Expr} {t : TT} (h : PT X c t) : PTs X [c] t := fun pins s σ H Q I hw => wpAny_tests_one (h pins s σ H Q I hw)
end
theorem thnF {α : Type} {t : Sem α} {Q Q' : α → Shared → Prop} {M : Model} {A : Around} {E : Value → Shared → Prop} {s : Shared} (h : wpAny M A t Q (fun _ _ => False) s) (hQ : ∀ a s, Q a s → Q' a s) : wpAny M A t Q' E s := wpAny_mono h hQ fun _ _ z => False.elim z
/-- the loop of a list comprehension's block, the target of any form (codeAny_compLoop_tests asks a target that no tuple goes to; statement and proof follow it, PyProof/CompMap.lean:41-61, with the step letOwnedTupleGo kept) -/
theorem compLoop_any {prog : Program} {w : World} {A : Around} {R : Result → Shared → Prop} {s : Shared} {elt target iter : Expr} {ifs : List Expr} {scope : Scope} {pos : Pos} {it acc : Value} {env : Env} (I : Nat → Shared → Prop)
    (turn : ∀ n s, I n s → wpAny (model prog w) A (pyNext it) (fun r s₁ => match r with
      | none => R (.ok .next) s₁
      | some v => wpAny (model prog w) A (letOwnedTupleGo target it v) (fun _ s₁' => wpAny (model prog w) A (assign target env v) (fun _ s₂ =>
          wpAny (model prog w) A (forIn ifs true fun c r => if r = true then do let ok ← isTrue c env (eval c env); pure (ForInStep.yield ok) else pure (ForInStep.yield r)) (fun ok s₃ =>
            if ok = true then wpAny (model prog w) A (eval elt env) (fun x s₄ =>
              wpAny (model prog w) A (call (.builtin "list.append") [acc, x]) (fun _ s₅ => ∃ m, m < n ∧ I m s₅) (notedBy (model prog w) A env fun e s' => R (.error e) s') s₄) (notedBy (model prog w) A env fun e s' => R (.error e) s') s₃
            else ∃ m, m < n ∧ I m s₃) (notedBy (model prog w) A env fun e s' => R (.error e) s') s₂) (notedBy (model prog w) A env fun e s' => R (.error e) s') s₁') (notedBy (model prog w) A env fun e s' => R (.error e) s') s₁) (notedBy (model prog w) A env fun e s' => R (.error e) s') s)
    (n : Nat) (h : I n s) :
    codeAny (model prog w) A (.compLoop (.ListComp elt [⟨target, iter, ifs, 0⟩] scope pos) 0 it acc env) R s := by
  refine codeAny_loop rfl I (fun n s hI => ?_) n h
  show wpAny _ A ((compTurn (.ListComp elt [⟨target, iter, ifs, 0⟩] scope pos) 0 it acc env).onRaise (fun x => do noteFrame x env; theTreesLotGoes x)) _ _ s
  refine wpAny_noted ?_
  rw [compTurn_list]
  refine wpAny_bind (wpAny_standAt (wpAny_bind (wpAny_mono (turn n s hI) (fun r s₁ h₁ => ?_) fun _ _ h' => h')))
  cases r with
  | none => exact wpAny_pure h₁
  | some v =>
    refine wpAny_bind (wpAny_mono h₁ (fun _ s₁' h₁' => ?_) fun _ _ h' => h')
    refine wpAny_bind (wpAny_mono h₁' (fun _ s₂ h₂ => wpAny_bind (wpAny_mono h₂ (fun ok s₃ h₃ => ?_) fun _ _ h' => h')) fun _ _ h' => h')
    cases ok with
    | false => exact wpAny_pure ⟨rfl, h₃⟩
    | true =>
      exact wpAny_bind (wpAny_bind (wpAny_mono h₃ (fun x s₄ h₄ => wpAny_bind (wpAny_mono h₄ (fun _ s₅ h₅ => wpAny_pure (wpAny_pure ⟨rfl, h₅⟩)) fun _ _ h' => h')) fun _ _ h' => h'))
section
variable {X : Cx}
/-- [elt for target in iter if ..]: D the new list; W by the turn and a measure, Nx what a turn is to reach -/
def tLc (wi : TI) (g : TG) (tt : TT) (te : TE) (vs : List Nat) : TE := fun σ H Q => wi σ H fun J H1 => ∀ D, H1 D = none → ∃ W : Nat → Nat → Hp → Prop, (∃ m, W 0 m (upd H1 D (.lst []))) ∧ ∀ i m H, W i m H →
  (J.stop i H ∧ Q (.ref D) H) ∨ (J.go i H ∧ ∃ Nx : Hp → Prop, (∀ H', Nx H' → ∃ m', m' < m ∧ W (i + 1) m' H') ∧ ∀ x H', J.yld i H x H' → g x (wipe σ vs) H' fun σ2 H2 => wipe σ2 vs = wipe σ vs ∧ tt σ2 H2 fun b H3 =>
    if b = true then te σ2 H3 fun y H4 => ∃ acc, H4 D = some (.lst acc) ∧ acc.length < sizeLine ∧ Nx (upd H4 D (.lst (acc ++ [y]))) else Nx H3)
theorem lc_core {pins : List (Addr × Obj)} {s : Shared} {σ : St} {H : Hp} {Q : VK} {elt tg iter : Expr} {ifs : List Expr} {scope : Scope} {own : List (Str × Nat)} {pos pos' : Pos} {wi : TI} {g : TG} {tt : TT} {te : TE} {use : Option (Value → Sem Unit)} {Qf : Value → Shared → Prop}
    (hc : X.calm = true) (hN : X.N.Nodup) (I : Inv X pins σ H s) (hi : PI X tg iter wi) (ok : BlkOk X.N X.env.scope scope own)
    (hg : ∀ (s : Shared) (H : Hp) (C : Addr) (cl : List (Str × Addr)) (fp : List Addr), PG (X.blk s H scope (compEnvC scope cl C X.env) fp) tg g) (ht : ∀ (s : Shared) (H : Hp) (C : Addr) (cl : List (Str × Addr)) (fp : List Addr), PTs (X.blk s H scope (compEnvC scope cl C X.env) fp) ifs tt)
    (he : ∀ (s : Shared) (H : Hp) (C : Addr) (cl : List (Str × Addr)) (fp : List Addr), PE (X.blk s H scope (compEnvC scope cl C X.env) fp) elt te) (hs : ∀ x, foldedSetIterable iter X.env x = pure x)
    (h : tLc wi g tt te (own.map (·.2)) σ H Q)
    (hRR : ∀ D C s' m H', Inv X pins σ H' s' → Q (.ref D) H' → s'.heap.Ns C m → FpOk X pins H' C → compPost (model X.prog X.w) X.A X.xe use Qf (.ref D) C (.ok .next) s') :
    wpAny (model X.prog X.w) X.A (comprehension (.ListComp elt [⟨tg, iter, ifs, 0⟩] scope pos) scope X.env pos' (newList []) false (eval iter X.env) use) Qf X.xe s := by
  have hfree : ∀ y ∈ scope.names, y.2 = .free → ∃ c, X.env.cells.lookup y.1 = some c := fun y hy e => by
    rcases ok.free y hy e with k | k
    · exact I.ok.has _ (.inl k)
    · exact I.ok.has _ (.inr k)
  refine wpAny_comprehension_free (use := use) rfl hs (closure_ok hfree) ok.kind (fun y hy e => by rw [ok.uniq y hy, e])
    (thn (hi pins s σ H _ I h) fun xv s1 hx => thn hx fun itv s2 h2 => ?_)
  obtain ⟨it, fp, tn, J, H2, e, I2, T, st2, f2, q⟩ := h2
  subst e
  refine wpAny_newObj_type (newEnv_comp ?_) (by show 0 ≤ sizeLine; decide)
  generalize hD : s2.heap.objs.size = D
  have hDn : H2 D = none := I2.hok.fresh (Nat.le_of_eq hD)
  obtain ⟨W, ⟨m0, w0⟩, turn⟩ := q D hDn
  -- the new list
  generalize hs3 : ({ s2 with heap := s2.heap.push { cls := .type "list", data := .seq ([] : List Value).toArray } } : Shared) = s3
  have I3 : Inv X pins σ (upd H2 D (.lst [])) s3 := by
    rw [← hs3]
    refine I2.laid (t' := s2.toks) (fun b o e => Heap.get?_push_of_some _ e) (Nat.le_of_eq hD) ⟨Nat.zero_le _, [], 0, .nil, ?_⟩
    rw [← hD]
    exact Heap.get?_push_size _ rfl
  have h3 : s3.heap = s2.heap.push { cls := .type "list", data := .seq ([] : List Value).toArray } := by rw [← hs3]
  have sz : ∀ b ∈ fp, b < s2.heap.objs.size := fun b hb => by
    obtain ⟨o, e, _⟩ := T.obj _ _ st2 b hb
    exact Heap.lt_size e
  have f3 : ∀ b ∈ fp, FpOk X pins (upd H2 D (.lst [])) b ∧ b < s3.heap.objs.size := fun b hb => by
    have hlt := sz b hb
    refine ⟨⟨?_, (f2 b hb).2⟩, by rw [h3, Heap.size_push]; exact Nat.lt_succ_of_lt hlt⟩
    rw [upd_ne (by rw [← hD]; exact Nat.ne_of_lt hlt)]
    exact (f2 b hb).1
  have st3 : tn 0 s3.heap := T.keep _ _ _ st2 fun b _ o e => by rw [h3]; exact Heap.get?_push_of_some _ e
  have I4 := block_start I3 ok hN f3
  have pg := hg s3 (upd H2 D (.lst [])) s3.heap.objs.size (cellsFrom (s3.heap.objs.size + 1) scope.names (cloFrom X.env.cells scope.names [])) fp
  have pt := ht s3 (upd H2 D (.lst [])) s3.heap.objs.size (cellsFrom (s3.heap.objs.size + 1) scope.names (cloFrom X.env.cells scope.names [])) fp
  have pe := he s3 (upd H2 D (.lst [])) s3.heap.objs.size (cellsFrom (s3.heap.objs.size + 1) scope.names (cloFrom X.env.cells scope.names [])) fp
  show codeAny _ _ (.compStart (.ListComp elt [⟨tg, iter, ifs, 0⟩] scope pos) 0 (.ref it) (.ref D) (compEnvC scope (cellsFrom (s3.heap.objs.size + 1) scope.names (cloFrom X.env.cells scope.names [])) s3.heap.objs.size X.env)) (compPost (model X.prog X.w) X.A X.xe use Qf (.ref D) s3.heap.objs.size) { s3 with heap := pushCells (s3.heap.push { cls := .type "dict", data := .dict #[] }) scope.names }
  have nfp : ∀ b ∈ fp, (upd H2 D (.lst [])) b = none := fun b hb => (f3 b hb).1.1
  generalize hce : compEnvC scope (cellsFrom (s3.heap.objs.size + 1) scope.names (cloFrom X.env.cells scope.names [])) s3.heap.objs.size X.env = ce at I4 pg pt pe ⊢
  have cL : ce.locals = s3.heap.objs.size := by subst hce; rfl
  generalize hH3 : upd H2 D (.lst []) = H3 at I3 I4 pg pt pe w0 nfp f3
  generalize hs4 : ({ s3 with heap := pushCells (s3.heap.push { cls := .type "dict", data := .dict #[] }) scope.names } : Shared) = s4 at I4 ⊢
  have st4 : tn 0 s4.heap := T.keep _ _ _ st3 fun b _ o e => by rw [← hs4]; exact pushCells_keeps _ _ _ _ (Heap.get?_push_of_some _ e)
  have stat : ∀ {σ' : St} {H' : Hp} {s' : Shared}, Inv (X.blk s3 H3 scope ce fp) [] σ' H' s' → (∀ b ∈ fp, H' b = none) → ∀ b ∈ fp, FpOk (X.blk s3 H3 scope ce fp) [] H' b := fun {σ' H' s'} I' hn b hb =>
    ⟨hn b hb, (I'.ok.exf b hb).1, I'.ok.exfs b hb, .inl hb, fun x c e => (I'.ok.exf b hb).2 x c e, fun p hp => absurd (show p ∈ ([] : List (Addr × Obj)) ++ [] from hp) (by simp)⟩
  have loop : codeAny (model X.prog X.w) X.A (.compLoop (.ListComp elt [⟨tg, iter, ifs, 0⟩] scope pos) 0 (.ref it) (.ref D) ce) (compPost (model X.prog X.w) X.A X.xe use Qf (.ref D) s3.heap.objs.size) s4 := by
    refine compLoop_any (fun n s' => ∃ i H', Inv (X.blk s3 H3 scope ce fp) [] (wipe σ (own.map (·.2))) H' s' ∧ tn i s'.heap ∧ (∀ b ∈ fp, H' b = none) ∧ W i n H') ?_ m0 ⟨0, H3, I4, st4, nfp, w0⟩
    rintro n s5 ⟨i, H5, I5, st5, n5, w5⟩
    rcases turn i n H5 w5 with ⟨stop, qq⟩ | ⟨go, Nx, hNx, step⟩
    · have td := T.done (X.blk s3 H3 scope ce fp) rfl rfl rfl hc i [] s5 _ H5 (fun _ _ => False) I5 (stat I5 n5) st5 stop
      refine thnF td fun r s6 ⟨hr, I6⟩ => ?_
      subst hr
      -- back in the def's context
      have I7 : Inv X pins σ H5 s6 := I3.call' (ch := fp) I6.os I6.base I6.hok I6.bare fun b hb => ⟨(f3 b hb).1.2.2.2.1, (f3 b hb).1.2.1, (f3 b hb).1.2.2.2.2.1, (f3 b hb).1.2.2.2.2.2⟩
      have nC : H5 s3.heap.objs.size = none := by
        have z : H5 ce.locals = none := I6.free
        rw [cL] at z
        exact z
      obtain ⟨m, hn, _⟩ := I6.loc
      have hn : s6.heap.Ns ce.locals m := hn
      rw [cL] at hn
      exact hRR D s3.heap.objs.size s6 m H5 I7 qq hn (I3.fpOk (Nat.le_refl _) nC)
    · have ti := T.item (X.blk s3 H3 scope ce fp) rfl rfl rfl hc i [] s5 _ H5 (fun _ _ => False) I5 (stat I5 n5) st5 go
      refine thnF ti fun r s6 ⟨u, hr, h6⟩ => ?_
      subst hr
      refine thnF h6 fun _ s7 ⟨x, H7, I7, r7, y7, st7, n7⟩ => ?_
      have I7' := I7.pinned (stat I7 n7) (T.obj _ _ st7)
      refine thnF (pg _ s7 _ H7 x u _ I7' r7 (step x H7 y7)) fun _ s8 ⟨σ8, H8, I8, hw8, q8⟩ => ?_
      refine thnF (pt _ s8 σ8 H8 _ I8 q8) fun b s9 ⟨H9, I9, q9⟩ => ?_
      -- the turn's end
      have fin : ∀ {s' : Shared} {H' : Hp}, Inv (X.blk s3 H3 scope ce fp) ([] ++ pinsAt fp s7.heap) σ8 H' s' → Nx H' → ∃ m, m < n ∧ ∃ i H', Inv (X.blk s3 H3 scope ce fp) [] (wipe σ (own.map (·.2))) H' s' ∧ tn i s'.heap ∧ (∀ b ∈ fp, H' b = none) ∧ W i m H' := fun {s' H'} I' nx => by
        obtain ⟨m', hm, w'⟩ := hNx H' nx
        have pin' : ∀ b ∈ fp, ∀ o, s7.heap.get? b = some o → s'.heap.get? b = some o ∧ H' b = none := fun b hb o e =>
          let z := I'.pin (b, o) (List.mem_append_right _ (List.mem_append_right _ (mem_pinsAt hb e)))
          ⟨z.1, z.2.1⟩
        have hl : (wipe σ (own.map (·.2))).length = σ8.length := by rw [← hw8, wipe_length]
        refine ⟨m', hm, i + 1, H', (I'.unpinned (pins := [])).weak hl (fun j v e => ?_), T.keep _ _ _ st7 fun b hb o e => (pin' b hb o e).1, fun b hb => ?_, w'⟩
        · rw [← hw8] at e
          exact (wipe_some e).1
        · obtain ⟨o, e, _⟩ := T.obj _ _ st7 b hb
          exact (pin' b hb o e).2
      cases b with
      | false =>
        simp only [Bool.false_eq_true, if_false] at q9 ⊢
        exact fin I9 q9
      | true =>
        simp only [if_true] at q9 ⊢
        refine thnF (pe _ s9 σ8 H9 _ I9 q9) fun z s10 ⟨yv, H10, I10, r10, acc, hD10, hz10, nx⟩ => ?_
        exact app_ok (X := X.blk s3 H3 scope ce fp) I10 hD10 hz10 r10 fun s11 I11 => fin I11 nx
  exact codeAny_compStart_list loop (T.self X.A 0 _ _ _ st4 loop)
/-- as a value -/
theorem pe_lc {elt tg iter : Expr} {ifs : List Expr} {scope : Scope} {own : List (Str × Nat)} {pos : Pos} {wi : TI} {g : TG} {tt : TT} {te : TE} (hc : X.calm = true) (hN : X.N.Nodup) (hi : PI X tg iter wi) (ok : BlkOk X.N X.env.scope scope own)
    (hg : ∀ (s : Shared) (H : Hp) (C : Addr) (cl : List (Str × Addr)) (fp : List Addr), PG (X.blk s H scope (compEnvC scope cl C X.env) fp) tg g) (ht : ∀ (s : Shared) (H : Hp) (C : Addr) (cl : List (Str × Addr)) (fp : List Addr), PTs (X.blk s H scope (compEnvC scope cl C X.env) fp) ifs tt)
    (he : ∀ (s : Shared) (H : Hp) (C : Addr) (cl : List (Str × Addr)) (fp : List Addr), PE (X.blk s H scope (compEnvC scope cl C X.env) fp) elt te) (hs : ∀ x, foldedSetIterable iter X.env x = pure x := by intro _; rfl) :
    PE X (.ListComp elt [⟨tg, iter, ifs, 0⟩] scope pos) (tLc wi g tt te (own.map (·.2))) := by
  intro pins s σ H Q I h
  rw [eval_ListComp]
  refine lc_core hc hN I hi ok hg ht he hs h fun D C s' m H' I' q hn f => ⟨m, hn, fun h'' sb => ?_⟩
  obtain ⟨f0, f1, f2, f3, f4, f5⟩ := f
  exact ⟨.ref D, H', I'.turned (t' := s'.toks) (fun b o hb e => (sb.2 b hb).trans e) f0 f1 f3 f4 f5, rfl, q⟩
/-- name = [..] on one line, the name a local -/
theorem ps_setLc {i : Nat} {y : Str} {py : Pos} {elt tg iter : Expr} {ifs : List Expr} {scope : Scope} {own : List (Str × Nat)} {pos spos : Pos} {wi : TI} {g : TG} {tt : TT} {te : TE} (hc : X.calm = true) (hN : X.N.Nodup) (hy : X.N[i]? = some y) (hyl : X.env.scope.names.lookup y = some .local)
    (hsw : swapsWith (.ListComp elt [⟨tg, iter, ifs, 0⟩] scope pos) (some (.Name y py)) spos.line X.env = pure true) (hi : PI X tg iter wi) (ok : BlkOk X.N X.env.scope scope own)
    (hg : ∀ (s : Shared) (H : Hp) (C : Addr) (cl : List (Str × Addr)) (fp : List Addr), PG (X.blk s H scope (compEnvC scope cl C X.env) fp) tg g) (ht : ∀ (s : Shared) (H : Hp) (C : Addr) (cl : List (Str × Addr)) (fp : List Addr), PTs (X.blk s H scope (compEnvC scope cl C X.env) fp) ifs tt)
    (he : ∀ (s : Shared) (H : Hp) (C : Addr) (cl : List (Str × Addr)) (fp : List Addr), PE (X.blk s H scope (compEnvC scope cl C X.env) fp) elt te) (hs : ∀ x, foldedSetIterable iter X.env x = pure x := by intro _; rfl) :
    PS X (.Assign [.Name y py] (.ListComp elt [⟨tg, iter, ifs, 0⟩] scope pos) spos) (tAsg (tLc wi g tt te (own.map (·.2))) (gName i)) := by
  intro pins s σ H D I h
  rw [exec_Assign_Name_used _ _ _ _ hsw]
  refine wpAny_bind (wpAny_standAt (wpAny_bind ?_))
  show wpAny _ X.A (do let _ ← comprehension (.ListComp elt [⟨tg, iter, ifs, 0⟩] scope pos) scope X.env (firstIterPos [⟨tg, iter, ifs, 0⟩] pos) (newList []) false (eval iter X.env) (some (assign (.Name y py) X.env))) _ _ s
  have h : tLc wi g tt te (own.map (·.2)) σ H (fun x H1 => gName i x σ H1 D.nx) := h
  refine wpAny_bind (thn (lc_core (Qf := fun _ s' => SP X pins D .next s') hc hN I hi ok hg ht he hs h fun L C s' m H' I' q hn f => ?_) fun _ s' hq => wpAny_pure (wpAny_pure hq))
  show wpAny _ _ (assign (.Name y py) X.env (.ref L)) _ _ _
  refine wpAny_assign_Name (store_ok2 (v := V.ref L) I' hN hy (.inl hyl) rfl (fun s2 I2 ⟨a, sb, ha⟩ => ?_) (.inr hyl))
  obtain ⟨f0, f1, f2, f3, f4, f5⟩ := f
  have haC : C ≠ a := by
    rcases ha with z | z
    · rw [z]; exact f1
    · exact fun e => f4 y a z e.symm
  refine ⟨m, hn.sameBut sb haC, fun h3 sb3 => ?_⟩
  exact ⟨_, H', I2.turned (t' := s2.toks) (fun b o hb e => (sb3.2 b hb).trans e) f0 f1 f3 f4 f5, q⟩
theorem sw_true {elt : Expr} {gs : List Comprehension} {scope : Scope} {pos py : Pos} {y : Str} {l : Nat} {env : Env} (hk : env.scope.kind = .function) (hy : env.scope.names.lookup y = some .local) (hl : (py.line == pos.line) = true)
    (ha : (scope.names.any fun (n, k) => n == y && (k == .local || k == .cell)) = false) : swapsWith (.ListComp elt gs scope pos) (some (.Name y py)) l env = pure true := by
  have ky : env.kindOf y = some .local := hy
  have hb : env.blockKind = .function := by unfold Env.blockKind; rw [hk]; rfl
  unfold swapsWith
  simp only [hb, ky, ha, Expr.pos, hl]
  rfl
end
/-! ### the forms one uses -/
/-- over a range: Pv by the turn and the heap (the new list at D within) -/
theorem lc_range {lo : Int} {n : Nat} {g : TG} {tt : TT} {te : TE} {vs : List Nat} {σ : St} {H1 : Hp} {D : Addr} {Qd : Hp → Prop} (Pv : Nat → Hp → Prop) (h0 : Pv 0 (upd H1 D (.lst [])))
    (hs : ∀ i H, i < n → Pv i H → g (.int (lo + i)) (wipe σ vs) H fun σ2 H2 => wipe σ2 vs = wipe σ vs ∧ tt σ2 H2 fun b H3 =>
      if b = true then te σ2 H3 fun y H4 => ∃ acc, H4 D = some (.lst acc) ∧ acc.length < sizeLine ∧ Pv (i + 1) (upd H4 D (.lst (acc ++ [y]))) else Pv (i + 1) H3) (hd : ∀ H, Pv n H → Qd H) :
    ∃ W : Nat → Nat → Hp → Prop, (∃ m, W 0 m (upd H1 D (.lst []))) ∧ ∀ i m H, W i m H →
      ((Itr lo n).stop i H ∧ Qd H) ∨ ((Itr lo n).go i H ∧ ∃ Nx : Hp → Prop, (∀ H', Nx H' → ∃ m', m' < m ∧ W (i + 1) m' H') ∧ ∀ x H', (Itr lo n).yld i H x H' → g x (wipe σ vs) H' fun σ2 H2 => wipe σ2 vs = wipe σ vs ∧ tt σ2 H2 fun b H3 =>
        if b = true then te σ2 H3 fun y H4 => ∃ acc, H4 D = some (.lst acc) ∧ acc.length < sizeLine ∧ Nx (upd H4 D (.lst (acc ++ [y]))) else Nx H3) := by
  refine ⟨fun i m H => m = n - i ∧ i ≤ n ∧ Pv i H, ⟨n, by simp, Nat.zero_le _, h0⟩, ?_⟩
  rintro i m H ⟨rfl, hi, p⟩
  by_cases hlt : i < n
  · refine .inr ⟨hlt, Pv (i + 1), fun H' p' => ⟨n - (i + 1), by omega, rfl, hlt, p'⟩, fun x H' y => ?_⟩
    obtain ⟨e, y⟩ := y
    subst e y
    exact hs i _ hlt p
  · have e : i = n := by omega
    subst e
    exact .inl ⟨Nat.le_refl _, hd H p⟩
/-- over a list that the block leaves as it is -/
theorem lc_list {K : PySem.W.Frag} {a : Addr} {xs : List V} {g : TG} {tt : TT} {te : TE} {vs : List Nat} {σ : St} {H1 : Hp} {D : Addr} {Qd : Hp → Prop} (Pv : Nat → Hp → Prop) (h0 : Pv 0 (upd H1 D (.lst []))) (hl : ∀ i H, i ≤ xs.length → Pv i H → SqL K H a xs)
    (hs : ∀ i x H, xs[i]? = some x → Pv i H → g x (wipe σ vs) H fun σ2 H2 => wipe σ2 vs = wipe σ vs ∧ tt σ2 H2 fun b H3 =>
      if b = true then te σ2 H3 fun y H4 => ∃ acc, H4 D = some (.lst acc) ∧ acc.length < sizeLine ∧ Pv (i + 1) (upd H4 D (.lst (acc ++ [y]))) else Pv (i + 1) H3) (hd : ∀ H, Pv xs.length H → Qd H) :
    ∃ W : Nat → Nat → Hp → Prop, (∃ m, W 0 m (upd H1 D (.lst []))) ∧ ∀ i m H, W i m H →
      ((Itl K a).stop i H ∧ Qd H) ∨ ((Itl K a).go i H ∧ ∃ Nx : Hp → Prop, (∀ H', Nx H' → ∃ m', m' < m ∧ W (i + 1) m' H') ∧ ∀ x H', (Itl K a).yld i H x H' → g x (wipe σ vs) H' fun σ2 H2 => wipe σ2 vs = wipe σ vs ∧ tt σ2 H2 fun b H3 =>
        if b = true then te σ2 H3 fun y H4 => ∃ acc, H4 D = some (.lst acc) ∧ acc.length < sizeLine ∧ Nx (upd H4 D (.lst (acc ++ [y]))) else Nx H3) := by
  refine ⟨fun i m H => m = xs.length - i ∧ i ≤ xs.length ∧ Pv i H, ⟨xs.length, by simp, Nat.zero_le _, h0⟩, ?_⟩
  rintro i m H ⟨rfl, hi, p⟩
  have q := hl i H hi p
  by_cases hlt : i < xs.length
  · refine .inr ⟨⟨xs, xs[i], q, by simp [hlt]⟩, Pv (i + 1), fun H' p' => ⟨xs.length - (i + 1), by omega, rfl, hlt, p'⟩, fun x H' y => ?_⟩
    obtain ⟨e, y⟩ := y
    subst e
    exact hs i x _ (y xs q) p
  · have e : i = xs.length := by omega
    subst e
    exact .inl ⟨⟨xs, q, Nat.le_refl _⟩, hd H p⟩
def blkC (N : List Str) (sc scope : Scope) (own : List (Str × Nat)) : Bool :=
  (match scope.kind with | .function => true | _ => false) && (scope.names.all fun y => decide (scope.names.lookup y.1 = some y.2)) && (own.all fun p => decide (N[p.2]? = some p.1)) &&
    (scope.names.all fun y => match y.2 with
      | .free => (match sc.names.lookup y.1 with | some .cell => true | some .free => true | _ => false)
      | .local => decide (y.1 ∈ own.map (·.1)) || decide (y.1 ∉ N)
      | .cell => decide (y.1 ∈ own.map (·.1)) || decide (y.1 ∉ N)
      | _ => true)
theorem blkOk_by {N : List Str} {sc scope : Scope} {own : List (Str × Nat)} (h : blkC N sc scope own = true) : BlkOk N sc scope own := by
  unfold blkC at h
  simp only [Bool.and_eq_true, List.all_eq_true, decide_eq_true_eq] at h
  obtain ⟨⟨⟨h1, h2⟩, h3⟩, h4⟩ := h
  refine ⟨?_, h2, h3, fun y hy e => ?_, fun y hy e => ?_⟩
  · split at h1
    · assumption
    · cases h1
  · have q := h4 y hy
    simp only [e] at q
    split at q <;> first | exact .inl (by assumption) | exact .inr (by assumption) | cases q
  · have q := h4 y hy
    rcases e with e | e <;> (simp only [e, Bool.or_eq_true, decide_eq_true_eq] at q; exact q)
end L2
namespace L2
open PySem PySem.Spec PyProof.Rows
section
variable {prog : Program} {w : World} {A : Around} {R : Result → Shared → Prop} {s : Shared} {elt t0 i0 t1 i1 : Expr} {ifs0 ifs1 : List Expr} {scope : Scope} {pos : Pos} {it acc : Value} {env : Env}
end
section
variable {X : Cx}
end
end L2
namespace L2
open PySem PySem.Spec PyProof.Rows
/-! ### lists of pairs as tables -/
section
variable {κ : Type} [DecidableEq κ]
def valV (kvs : List (κ × V)) (k : κ) : Option V := (kvs.find? fun kv => decide (kv.1 = k)).map (·.2)
/-- in its place, or at the end -/
def putK (kvs : List (κ × V)) (k : κ) (v : V) : List (κ × V) :=
  if (kvs.any fun kv => decide (kv.1 = k)) = true then kvs.map (fun kv => if kv.1 = k then (kv.1, v) else kv) else kvs ++ [(k, v)]
theorem valV_pos {p : κ × V} {r : List (κ × V)} {k : κ} (e : p.1 = k) : valV (p :: r) k = some p.2 := by simp [valV, List.find?_cons, e]
theorem valV_neg {p : κ × V} {r : List (κ × V)} {k : κ} (e : ¬ p.1 = k) : valV (p :: r) k = valV r k := by simp [valV, List.find?_cons, e]
theorem valV_any (k : κ) : ∀ kvs : List (κ × V), (kvs.any fun kv => decide (kv.1 = k)) = (valV kvs k).isSome
  | [] => rfl
  | p :: r => by
    rw [List.any_cons]
    by_cases e : p.1 = k
    · simp only [valV_pos e, decide_eq_true e, Bool.true_or, Option.isSome_some]
    · rw [valV_neg e, decide_eq_false e, Bool.false_or]; exact valV_any k r
theorem valV_map (k j : κ) (y : V) : ∀ kvs : List (κ × V), valV (kvs.map fun kv => if kv.1 = k then (kv.1, y) else kv) j = (valV kvs j).map fun x => if j = k then y else x
  | [] => rfl
  | p :: r => by
    have ih := valV_map k j y r
    rw [List.map_cons]
    by_cases h : p.1 = k
    · rw [if_pos h]
      by_cases e : p.1 = j
      · rw [valV_pos (p := (p.1, y)) e, valV_pos e, Option.map_some, if_pos (e.symm.trans h)]
      · rw [valV_neg (p := (p.1, y)) e, valV_neg e, ih]
    · rw [if_neg h]
      by_cases e : p.1 = j
      · rw [valV_pos (p := p) e, valV_pos e, Option.map_some, if_neg (fun z => h (e.trans z))]
      · rw [valV_neg (p := p) e, valV_neg e, ih]
theorem valV_snoc (k j : κ) (y : V) : ∀ kvs : List (κ × V), valV kvs k = none → valV (kvs ++ [(k, y)]) j = if j = k then some y else valV kvs j
  | [], _ => by
    by_cases e : k = j
    · rw [if_pos e.symm]; exact valV_pos (p := (k, y)) e
    · rw [if_neg (fun z => e z.symm)]; exact valV_neg (p := (k, y)) e
  | p :: r, hn => by
    rw [List.cons_append]
    have hk : ¬ p.1 = k := fun z => by rw [valV_pos z] at hn; cases hn
    rw [valV_neg hk] at hn
    have ih := valV_snoc k j y r hn
    by_cases e : p.1 = j
    · rw [valV_pos e, valV_pos e, if_neg (fun z => hk (e.trans z))]
    · rw [valV_neg e, valV_neg e, ih]
theorem valV_put (kvs : List (κ × V)) (k j : κ) (y : V) : valV (putK kvs k y) j = if j = k then some y else valV kvs j := by
  unfold putK
  by_cases a : (kvs.any fun kv => decide (kv.1 = k)) = true
  · rw [if_pos a, valV_map]
    rw [valV_any] at a
    by_cases e : j = k
    · obtain ⟨x, hx⟩ := Option.isSome_iff_exists.mp a
      rw [if_pos e, e, hx, Option.map_some, if_pos rfl]
    · rw [if_neg e]
      cases valV kvs j with
      | none => rfl
      | some x => rw [Option.map_some, if_neg e]
  · rw [if_neg a]
    refine valV_snoc k j y kvs ?_
    rw [valV_any] at a
    cases q : valV kvs k with
    | none => rfl
    | some x => rw [q] at a; exact (a rfl).elim
theorem length_putK (kvs : List (κ × V)) (k : κ) (v : V) : (putK kvs k v).length ≤ kvs.length + 1 := by
  unfold putK
  split
  · rw [List.length_map]; omega
  · rw [List.length_append, List.length_cons, List.length_nil]; omega
theorem putK_new {kvs : List (κ × V)} {k : κ} (v : V) (h : valV kvs k = none) : putK kvs k v = kvs ++ [(k, v)] := by
  unfold putK
  rw [valV_any, h]
  exact if_neg (by decide)
theorem RelO.isSome_eq {o : Option V} {u : Option Value} (r : RelO o u) : o.isSome = u.isSome := by
  cases o with
  | none => cases u with
    | none => rfl
    | some _ => exact (show False from r).elim
  | some _ => cases u with
    | none => exact (show False from r).elim
    | some _ => rfl
theorem RelO.getD {o : Option V} {u : Option Value} {d : V} {d' : Value} (r : RelO o u) (rd : RelV d d') : RelV (o.getD d) (u.getD d') := by
  cases o with
  | none => cases u with
    | none => exact rd
    | some _ => exact (show False from r).elim
  | some _ => cases u with
    | none => exact (show False from r).elim
    | some _ => exact r
/-- raw tables of the same keys -/
theorem KV.val {kvs : List (κ × V)} {vs : List (κ × Value)} (r : KV kvs vs) (k : κ) : RelO (valV kvs k) (valueAt vs k) := by
  unfold KV at r
  induction r with
  | nil => exact True.intro
  | @cons p q ps qs h t ih =>
    obtain ⟨h1, h2⟩ := h
    by_cases e : p.1 = k
    · have e' : q.1 = k := h1.symm.trans e
      have b : valueAt (q :: qs) k = some q.2 := by simp [valueAt, List.find?_cons, e']
      rw [valV_pos e, b]; exact h2
    · have e' : ¬ q.1 = k := fun z => e (h1.trans z)
      have b : valueAt (q :: qs) k = valueAt qs k := by simp [valueAt, List.find?_cons, e']
      rw [valV_neg e, b]; exact ih
theorem KV.any {kvs : List (κ × V)} {vs : List (κ × Value)} (r : KV kvs vs) (k : κ) : (kvs.any fun kv => decide (kv.1 = k)) = vs.any fun kv => decide (kv.1 = k) := by
  unfold KV at r
  induction r with
  | nil => rfl
  | cons h t ih => rw [List.any_cons, List.any_cons, ih, h.1]
theorem KV.repl {kvs : List (κ × V)} {vs : List (κ × Value)} (r : KV kvs vs) (k : κ) {y : V} {u : Value} (ry : RelV y u) :
    KV (kvs.map fun kv => if kv.1 = k then (kv.1, y) else kv) (vs.map fun kv => if kv.1 = k then (kv.1, u) else kv) := by
  unfold KV at r ⊢
  induction r with
  | nil => exact .nil
  | @cons p q ps qs h t ih =>
    rw [List.map_cons, List.map_cons]
    refine .cons ?_ ih
    obtain ⟨h1, h2⟩ := h
    by_cases e : p.1 = k
    · rw [if_pos e, if_pos (h1.symm.trans e)]; exact ⟨h1, ry⟩
    · rw [if_neg e, if_neg (fun z => e (h1.trans z))]; exact ⟨h1, h2⟩
theorem KV.put {kvs : List (κ × V)} {vs : List (κ × Value)} (r : KV kvs vs) (k : κ) {y : V} {u : Value} (ry : RelV y u) : KV (putK kvs k y) (stored vs k u) := by
  unfold putK stored
  rw [r.any k]
  by_cases e : (vs.any fun kv => decide (kv.1 = k)) = true
  · rw [if_pos e, if_pos e]; exact r.repl k ry
  · rw [if_neg e, if_neg e]; exact Paired.snoc r ⟨rfl, ry⟩
theorem KV.length {kvs : List (κ × V)} {vs : List (κ × Value)} (r : KV kvs vs) : kvs.length = vs.length := Paired.length r
end
/-! ### a tracked dict, its keys ints and texts or tuples of these -/
theorem kV_is {P : Program} {w : World} {k : Key} {u : Value} (r : RelV (kV k) u) : (mixKind P w).is k u = true := by
  cases k with
  | inl i => obtain ⟨t, e⟩ := (show ∃ t, u = Value.int i t from r); subst e; exact mixKind_int P w i t
  | inr x => obtain ⟨t, e⟩ := (show ∃ t, u = Value.str x t from r); subst e; exact mixKind_str P w x t
theorem items_are {P : Program} {w : World} : ∀ {ks : List Key} {us : List Value}, Vals (ks.map kV) us → ItemsAre (mixKind P w) ks us
  | [], _, r => by rw [List.map_nil] at r; cases r; exact .nil
  | k :: ks, _, r => by
    rw [List.map_cons] at r
    cases r with
    | cons h t => exact .cons (kV_is h) (items_are t)
/-- raw entries of a dict with tuple keys -/
abbrev KT (H : Hp) : List (List Key × V) → List (List Key × Addr × Value) → Prop := Paired fun p q => p.1 = q.1 ∧ H q.2.1 = some (.tup (p.1.map kV)) ∧ RelV p.2 q.2.2
theorem KT.val {H : Hp} {kvs : List (List Key × V)} {xs : List (List Key × Addr × Value)} (r : KT H kvs xs) (k : List Key) : RelO (valV kvs k) ((atKey xs k).map (·.2)) := by
  induction r with
  | nil => exact True.intro
  | @cons p q ps qs h t ih =>
    obtain ⟨h1, _, h2⟩ := h
    by_cases e : p.1 = k
    · have e' : q.1 = k := h1.symm.trans e
      have b : atKey (q :: qs) k = some q.2 := by simp [atKey, List.find?_cons, e']
      rw [valV_pos e, b]; exact h2
    · have e' : ¬ q.1 = k := fun z => e (h1.trans z)
      have b : atKey (q :: qs) k = atKey qs k := by simp [atKey, List.find?_cons, e']
      rw [valV_neg e, b]; exact ih
theorem KT.repl {H : Hp} {kvs : List (List Key × V)} {xs : List (List Key × Addr × Value)} (r : KT H kvs xs) (k : List Key) {y : V} {u : Value} (ry : RelV y u) :
    KT H (kvs.map fun kv => if kv.1 = k then (kv.1, y) else kv) (xs.map (putAt k u)) := by
  induction r with
  | nil => exact .nil
  | @cons p q ps qs h t ih =>
    rw [List.map_cons, List.map_cons]
    refine .cons ?_ ih
    obtain ⟨h1, h2, h3⟩ := h
    unfold putAt
    by_cases e : p.1 = k
    · rw [if_pos e, if_pos (h1.symm.trans e)]; exact ⟨h1, h2, ry⟩
    · rw [if_neg e, if_neg (fun z => e (h1.trans z))]; exact ⟨h1, h2, h3⟩
theorem KT.put {H : Hp} {kvs : List (List Key × V)} {xs : List (List Key × Addr × Value)} (r : KT H kvs xs) (k : List Key) {b : Addr} {y : V} {u : Value} (hb : H b = some (.tup (k.map kV))) (ry : RelV y u) :
    KT H (putK kvs k y) (storedH xs k b u) := by
  have e : (kvs.any fun kv => decide (kv.1 = k)) = (atKey xs k).isSome := by
    rw [valV_any, (r.val k).isSome_eq, Option.isSome_map]
  unfold putK storedH
  rw [e]
  by_cases q : (atKey xs k).isSome = true
  · rw [if_pos q, if_pos q]; exact r.repl k ry
  · rw [if_neg q, if_neg q]; exact Paired.snoc r ⟨rfl, hb, ry⟩
theorem KT.keeps {H H' : Hp} {kvs : List (List Key × V)} {xs : List (List Key × Addr × Value)} (r : KT H kvs xs) (ht : ∀ b ys, H b = some (.tup ys) → H' b = some (.tup ys)) : KT H' kvs xs :=
  Paired.mapP r fun _ _ z => ⟨z.1, ht _ _ z.2.1, z.2.2⟩
section
variable {P : Program} {w : World} {H : Hp} {h : Heap} {a : Addr}
theorem rd_of {u : HO} (ok : HOk P w H h) (e : Rd H a u) : ObjOk P w H h a u := e.ok ok
theorem dk_rd {kvs : List (Key × V)} (ok : HOk P w H h) (e : Rd H a (.dK kvs)) : kvs.length ≤ sizeLine ∧ (a == sysModules) = false ∧ ∃ vs, KV kvs vs ∧ h.DictOf (mixKind P w) a vs :=
  show ObjOk P w H h a (.dK kvs) from rd_of ok e
theorem dk_of {kvs : List (Key × V)} (ok : HOk P w H h) (e : H a = some (.dK kvs)) : kvs.length ≤ sizeLine ∧ (a == sysModules) = false ∧ ∃ vs, KV kvs vs ∧ h.DictOf (mixKind P w) a vs := dk_rd ok (.inl e)
/-- a tracked tuple of ints and texts is a key -/
theorem key_of {ks : List Key} (ok : HOk P w H h) (e : H a = some (.tup (ks.map kV))) : (tupleKind (mixKind P w)).is h ks a := by
  obtain ⟨_, its, r, o, h1, h2, n, h3⟩ := (show ObjOk P w H h a (.tup (ks.map kV)) from ok a _ e)
  exact ⟨o, its.toArray, n, h1, h2, h3, by simpa using items_are r⟩
theorem dt_rd {kvs : List (List Key × V)} (ok : HOk P w H h) (e : Rd H a (.dT kvs)) : kvs.length ≤ sizeLine ∧ (a == sysModules) = false ∧
    ∃ xs, KT H kvs xs ∧ h.DictOfH (tupleKind (mixKind P w)) a xs := by
  obtain ⟨z, y, xs, r, o, es, ep, h1, h2, h3, h4, h5⟩ := (show ObjOk P w H h a (.dT kvs) from rd_of ok e)
  refine ⟨z, y, xs, r, o, es, ep, h1, h2, h3, h4, fun x hx => ?_, h5⟩
  have all : ∀ {l : List (List Key × V)} {m : List (List Key × Addr × Value)}, KT H l m → ∀ x ∈ m, (tupleKind (mixKind P w)).is h x.1 x.2.1 := by
    intro l m q
    induction q with
    | nil => intro x hx; exact nomatch hx
    | @cons p q ps qs hq t ih =>
      intro x hx
      rcases List.mem_cons.mp hx with e | hx
      · subst e
        exact key_of ok (by rw [← hq.1]; exact hq.2.1)
      · exact ih x hx
  exact all r x hx
theorem dt_of {kvs : List (List Key × V)} (ok : HOk P w H h) (e : H a = some (.dT kvs)) : kvs.length ≤ sizeLine ∧ (a == sysModules) = false ∧
    ∃ xs, KT H kvs xs ∧ h.DictOfH (tupleKind (mixKind P w)) a xs := dt_rd ok (.inl e)
end
/-- what the dict at a holds at the key y -/
def DGet (H : Hp) (a : Addr) (y : V) (r : Option V) : Prop :=
  (∃ kvs k, Rd H a (.dK kvs) ∧ y = kV k ∧ r = valV kvs k) ∨ ∃ kvs k b, Rd H a (.dT kvs) ∧ y = .ref b ∧ H b = some (.tup (k.map kV)) ∧ r = valV kvs k
/-- the heap behind a[y] = v -/
def DPut (H : Hp) (a : Addr) (y v : V) (H' : Hp) : Prop :=
  (∃ kvs k, H a = some (.dK kvs) ∧ y = kV k ∧ kvs.length < sizeLine ∧ H' = upd H a (.dK (putK kvs k v))) ∨
  ∃ kvs k b, H a = some (.dT kvs) ∧ y = .ref b ∧ H b = some (.tup (k.map kV)) ∧ kvs.length < sizeLine ∧ H' = upd H a (.dT (putK kvs k v))
theorem DGet.k {H : Hp} {a : Addr} {kvs : List (Key × V)} {k : Key} (e : H a = some (.dK kvs)) : DGet H a (kV k) (valV kvs k) := .inl ⟨kvs, k, .inl e, rfl, rfl⟩
theorem DGet.t {H : Hp} {a b : Addr} {kvs : List (List Key × V)} {k : List Key} (e : H a = some (.dT kvs)) (eb : H b = some (.tup (k.map kV))) : DGet H a (.ref b) (valV kvs k) := .inr ⟨kvs, k, b, .inl e, rfl, eb, rfl⟩
theorem DPut.k {H : Hp} {a : Addr} {kvs : List (Key × V)} {k : Key} {v : V} (e : H a = some (.dK kvs)) (hl : kvs.length < sizeLine) : DPut H a (kV k) v (upd H a (.dK (putK kvs k v))) := .inl ⟨kvs, k, e, rfl, hl, rfl⟩
theorem DPut.t {H : Hp} {a b : Addr} {kvs : List (List Key × V)} {k : List Key} {v : V} (e : H a = some (.dT kvs)) (eb : H b = some (.tup (k.map kV))) (hl : kvs.length < sizeLine) :
    DPut H a (.ref b) v (upd H a (.dT (putK kvs k v))) := .inr ⟨kvs, k, b, e, rfl, eb, hl, rfl⟩
section
variable {X : Cx} {pins : List (Addr × Obj)} {σ : St} {H : Hp} {s : Shared} {a : Addr} {y v : V} {u r : Value} {o : Option V} {A : Around} {E : Value → Shared → Prop}
theorem Inv.big (I : Inv X pins σ H s) : sysModules < s.heap.objs.size := by
  have h : mainGlobals < s.heap.objs.size := (I.mod.glob.keeps I.bk).lt
  exact Nat.lt_trans (by decide) h
/-- y in d -/
theorem d_in {Q : Value → Shared → Prop} (hu : A.units + 1 < cLine) (I : Inv X pins σ H s) (g : DGet H a y o) (ry : RelV y u) (h : ∀ s', Inv X pins σ H s' → Q (.bool o.isSome) s') :
    wpAny (model X.prog X.w) A (compareOp .In u (.ref a)) Q E s := by
  rcases g with ⟨kvs, k, e, ey, l⟩ | ⟨kvs, k, b, e, ey, eb, l⟩
  · subst ey
    obtain ⟨z, hd, vs, rel, dd⟩ := dk_rd I.hok e
    refine wpAny_in_of (kV_is ry) hd dd.mapOf ?_
    rw [← (rel.val k).isSome_eq, ← l]
    exact h _ (I.tok _)
  · subst ey
    cases (show u = Value.ref b from ry)
    obtain ⟨z, hd, xs, rel, dd⟩ := dt_rd I.hok e
    refine wpAny_in_heap (tupleKind_room_in1 hu) (key_of I.hok eb) hd dd ?_
    have q := (rel.val k).isSome_eq
    rw [Option.isSome_map] at q
    rw [← q, ← l]
    exact h _ (I.tok _)
/-- a dict's object is replaced -/
theorem d_write {h' : Heap} {t' : Nat} {ob : HO} (I : Inv X pins σ H s) (mu : Mut (H a)) (hs : Heap.SameBut a s.heap h') (he : ∃ q, h'.get? a = some q) (new : ObjOk X.prog X.w (upd H a ob) h' a ob) :
    Inv X pins σ (upd H a ob) { s with heap := h', toks := t' } :=
  I.write (x := a) (e := a) mu (.inl rfl) (fun b q hb z => (hs.2 b hb).trans z) he new
theorem dk_new {P : Program} {w : World} {H' : Hp} {h' : Heap} {kvs : List (Key × V)} {vs : List (Key × Value)} (z : kvs.length ≤ sizeLine) (hd : (a == sysModules) = false) (rel : KV kvs vs) (dd : h'.DictOf (mixKind P w) a vs) :
    ObjOk P w H' h' a (.dK kvs) := ⟨z, hd, vs, rel, dd⟩
/-- d[y] = v -/
theorem d_setItem {H' : Hp} {Q : Unit → Shared → Prop} (hu : A.units + 1 < cLine) (I : Inv X pins σ H s) (g : DPut H a y v H') (ry : RelV y u) (rv : RelV v r) (h : ∀ s', Inv X pins σ H' s' → Q () s') :
    wpAny (model X.prog X.w) A (setItem (.ref a) u r) Q E s := by
  rcases g with ⟨kvs, k, e, ey, l, eH⟩ | ⟨kvs, k, b, e, ey, eb, l, eH⟩
  · subst ey eH
    obtain ⟨z, hd, vs, rel, dd⟩ := dk_of I.hok e
    have hz : vs.length ≤ sizeLine := by rw [← rel.length]; exact z
    have hl : (putK kvs k v).length ≤ sizeLine := by have := length_putK kvs k v; omega
    refine wpAny_setItem_pairs (hsz := hz) (kV_is ry) dd fun h' dd' hs => h _ ?_
    have he : ∃ q, h'.get? a = some q := let ⟨q, _, _, hq, _⟩ := dd'; ⟨q, hq⟩
    exact d_write I (by rw [e]; exact True.intro) hs he (dk_new hl hd (rel.put k rv) dd')
  · subst ey eH
    cases (show u = Value.ref b from ry)
    obtain ⟨z, hd, xs, rel, dd⟩ := dt_of I.hok e
    have hz : xs.length ≤ sizeLine := by rw [← Paired.length rel]; exact z
    have hl : (putK kvs k v).length ≤ sizeLine := by have := length_putK kvs k v; omega
    refine wpAny_setItem_heap (hsz := hz) (tupleKind_room_in1 hu) (key_of I.hok eb) dd fun h' dd' hs => h _ ?_
    obtain ⟨q, es, ep, hq, h2, h3, h4, _, h5⟩ := dd'
    refine d_write I (by rw [e]; exact True.intro) hs ⟨q, hq⟩ ⟨hl, hd, _, (rel.put k eb rv).keeps fun c ys ec => ?_, q, es, ep, hq, h2, h3, h4, h5⟩
    rw [upd_ne (ne_of ec e (fun z => nomatch z))]
    exact ec
end
section
variable {X : Cx} {pins : List (Addr × Obj)} {σ : St} {H : Hp} {s : Shared} {a : Addr} {kvs : List (Key × V)} {k : Key} {u : Value} {A : Around} {E : Value → Shared → Prop}
end
/-! ### readings and rules -/
/-- y in d, y not in d -/
def tDIn (ty td : TE) : TE := fun σ H Q => ty σ H fun y H1 => td σ H1 fun x H2 => ∃ a o, x = .ref a ∧ DGet H2 a y o ∧ Q (.bl o.isSome) H2
/-- d[y] = v -/
def sDPut (td ty tv : TE) : TS := fun D σ H => tv σ H fun v H1 => td σ H1 fun x H2 => ty σ H2 fun y H3 => ∃ a H4, x = .ref a ∧ DPut H3 a y v H4 ∧ D.nx σ H4
section
variable {X : Cx} {o i e value : Expr} {pos pos' tpos : Pos} {td ty tv : TE}
theorem pc_din (hu : X.A.units + 1 < cLine) (hi : PE X i ty) (ho : PE X o td) : PC X .In i o (tDIn ty td) := by
  intro pins s σ H Q I h
  refine thn (hi pins s σ H _ I h) fun iv s1 ⟨y, H1, I1, ry, q1⟩ => thn (ho pins s1 σ H1 _ I1 q1) fun u s2 ⟨x, H2, I2, rx, a, ov, ex, g, q2⟩ => ?_
  subst ex
  obtain rfl : u = Value.ref a := rx
  exact d_in hu I2 g ry fun s3 I3 => ⟨.bl ov.isSome, H2, I3, rfl, q2⟩
theorem ps_dput (hu : X.A.units + 1 < cLine) (ho : PE X o td) (hi : PE X i ty) (hv : PE X value tv) (hs : swapsWith value (some (.Subscript o i pos')) pos.line X.env = pure false) :
    PS X (.Assign [.Subscript o i pos'] value pos) (sDPut td ty tv) := by
  intro pins s σ H D I h
  refine wpAny_Assign_Subscript (thn (hv pins s σ H _ I h) fun r s1 ⟨v, H1, I1, rv, q1⟩ => thn (ho pins s1 σ H1 _ I1 q1) fun u s2 ⟨x, H2, I2, rx, q2⟩ => thn (hi pins s2 σ H2 _ I2 q2) fun iv s3 ⟨y, H3, I3, ry, a, H4, ex, g, q3⟩ => ?_) hs
  subst ex
  obtain rfl : u = Value.ref a := rx
  exact d_setItem hu I3 g ry rv fun s4 I4 => ⟨σ, H4, I4, q3⟩
end
/-! ### displays -/
theorem dk_empty {P : Program} {w : World} {H : Hp} (h : Heap) (hb : sysModules < h.objs.size) : ObjOk P w H (h.push { cls := .type "dict", data := .dict #[] }) h.objs.size (.dK []) :=
  ⟨Nat.zero_le _, beq_eq_false_iff_ne.mpr (Ne.symm (Nat.ne_of_lt hb)), [], .nil, Heap.DictOf.new h⟩
theorem dt_empty {P : Program} {w : World} {H : Hp} (h : Heap) (hb : sysModules < h.objs.size) : ObjOk P w H (h.push { cls := .type "dict", data := .dict #[] }) h.objs.size (.dT []) :=
  ⟨Nat.zero_le _, beq_eq_false_iff_ne.mpr (Ne.symm (Nat.ne_of_lt hb)), [], .nil, _, #[], 0, Heap.get?_push_size _ rfl, ⟨rfl, rfl, rfl⟩, rfl, rfl, List.nodup_nil⟩
/-- {}, to be a dict of the kind that is wanted -/
def tDNewK : TE := fun _ H Q => ∀ p, H p = none → Q (.ref p) (upd H p (.dK []))
def tDNewT : TE := fun _ H Q => ∀ p, H p = none → Q (.ref p) (upd H p (.dT []))
section
variable {X : Cx} {pos : Pos}
theorem pe_dnewK : PE X (.Dict [] [] pos) tDNewK := fun pins s σ H Q I h =>
  wpAny_Dict_empty ⟨.ref s.heap.objs.size, _, I.laid (a := s.heap.objs.size) (o := .dK []) (t' := s.toks) (fun _ _ q => Heap.get?_push_of_some _ q) (Nat.le_refl _) (dk_empty s.heap I.big), rfl, h _ (I.hok.fresh (Nat.le_refl _))⟩
theorem pe_dnewT : PE X (.Dict [] [] pos) tDNewT := fun pins s σ H Q I h =>
  wpAny_Dict_empty ⟨.ref s.heap.objs.size, _, I.laid (a := s.heap.objs.size) (o := .dT []) (t' := s.toks) (fun _ _ q => Heap.get?_push_of_some _ q) (Nat.le_refl _) (dt_empty s.heap I.big), rfl, h _ (I.hok.fresh (Nat.le_refl _))⟩
end
/-! ### methods -/
structure M2 (X : Cx) (o : Expr) (m : Str) (apos : Pos) (e f : Expr) (cpos : Pos) : Prop where
  base : attributeBase o m X.env (eval o X.env) = eval o X.env
  few : ((backTo cpos (starEach [e, f] X.env)).all (fun x => !x.1) && (backToKw cpos (keywordEach [] X.env)).all (fun x => x.1.isSome)
    && decide (([e, f] : List Expr).length + ([] : List Keyword).length + (if ([] : List Keyword).isEmpty then 0 else 1) < 30)) = true
  line : (apos.endLine == cpos.line) = true
  trees : backTo cpos (starEach [e, f] X.env) = [(false, eval e X.env), (false, eval f X.env)]
/-- a is a dict, whatever its keys -/
def IsD (H : Hp) (a : Addr) : Prop := (∃ kvs, Rd H a (.dK kvs)) ∨ ∃ kvs, Rd H a (.dT kvs)
theorem isD_at {X : Cx} {pins : List (Addr × Obj)} {σ : St} {H : Hp} {s : Shared} {a : Addr} (I : Inv X pins σ H s) (d : IsD H a) :
    s.TypeIs (.ref a) "dict" ∧ (∀ b, Value.ref a = .ref b → ∃ ob, s.heap.get? b = some ob ∧ ob.dict = none) ∧ (a == sysModules) = false := by
  rcases d with ⟨kvs, e⟩ | ⟨kvs, e⟩
  · obtain ⟨_, hd, vs, _, dd⟩ := dk_rd I.hok e
    refine ⟨dd.typeIs, fun b q => ?_, hd⟩
    cases q
    obtain ⟨ob, _, _, h1, h2, _⟩ := dd
    exact ⟨ob, h1, h2.2.1⟩
  · obtain ⟨_, hd, xs, _, dd⟩ := dt_rd I.hok e
    refine ⟨dd.typeIs, fun b q => ?_, hd⟩
    cases q
    obtain ⟨ob, _, _, h1, h2, _⟩ := dd
    exact ⟨ob, h1, h2.2.1⟩
section
variable {X : Cx} {pins : List (Addr × Obj)} {σ : St} {H : Hp} {s : Shared} {a : Addr} {y d : V} {u r : Value} {o : Option V} {A : Around} {E : Value → Shared → Prop}
/-- d.get(y, x) -/
theorem d_get2 {Q : Value → Shared → Prop} (hu : A.units + 1 < cLine) (I : Inv X pins σ H s) (g : DGet H a y o) (ry : RelV y u) (rd : RelV d r) (h : ∀ w' s', Inv X pins σ H s' → RelV (o.getD d) w' → Q w' s') :
    wpAny (model X.prog X.w) A (call (.builtin "dict.get") [.ref a, u, r]) Q E s := by
  rcases g with ⟨kvs, k, e, ey, l⟩ | ⟨kvs, k, b, e, ey, eb, l⟩
  · subst ey
    obtain ⟨z, hd, vs, rel, dd⟩ := dk_rd I.hok e
    refine call_meetsIn PySem.F.slot_dict_get dd.typeIs PySem.F.entry_dict_get (PySem.F.args_dict_get_3 _ _ _) (meets_dict_get_default (mixKind X.prog X.w) a (kV_is ry) hd r) ⟨_, dd.mapOf, h _ _ (I.tok _) ?_⟩
    rw [l]
    exact (rel.val k).getD rd
  · subst ey
    cases (show u = Value.ref b from ry)
    obtain ⟨z, hd, xs, rel, dd⟩ := dt_rd I.hok e
    refine call_meetsIn PySem.F.slot_dict_get dd.typeIs PySem.F.entry_dict_get (PySem.F.args_dict_get_3 _ _ _) (meetsH_dict_get_default (tupleKind (mixKind X.prog X.w)) a b hd r) ⟨tupleKind_room_in1 hu, k, xs, key_of I.hok eb, dd, h _ _ (I.tok _) ?_⟩
    rw [l]
    exact (rel.val k).getD rd
end
def tDGet2 (td ty tx : TE) : TE := fun σ H Q => td σ H fun x H1 => ∃ a, x = .ref a ∧ IsD H1 a ∧ ty σ H1 fun y H2 => tx σ H2 fun z H3 => ∃ o, DGet H3 a y o ∧ Q (o.getD z) H3
section
variable {X : Cx} {o e f : Expr} {apos cpos : Pos} {td ty tx : TE}
theorem pe_dget2 (hu : X.A.units + 1 < cLine) (ho : PE X o td) (he : PE X e ty) (hf : PE X f tx) (m : M2 X o "get" apos e f cpos) : PE X (.Call (.Attribute o "get" apos) [e, f] [] cpos) (tDGet2 td ty tx) := by
  intro pins s σ H Q I h
  refine wpAny_Call_method m.base m.few m.line PySem.F.plainAttrs_dict PySem.F.slot_dict_get PySem.F.type_dict_get (thn (ho pins s σ H _ I h) fun u s1 ⟨x, H1, I1, rx, a, ex, d, q1⟩ => ?_)
  subst ex
  obtain rfl : u = Value.ref a := rx
  obtain ⟨t1, t2, _⟩ := isD_at I1 d
  refine ⟨t1, t2, ?_⟩
  rw [m.trees]
  refine Calls.callWith_builtin rfl (Calls.evalArgs_plain (Calls.spliced_cons (thn (he pins s1 σ H1 _ I1 q1) fun iv s2 ⟨y, H2, I2, ry, q2⟩ =>
    Calls.spliced_cons (thn (hf pins s2 σ H2 _ I2 q2) fun fv s3 ⟨z, H3, I3, rz, ov, g, q3⟩ => Calls.spliced_nil ?_))))
  exact d_get2 hu I3 g ry rz fun w' s4 I4 rw' => ⟨_, H3, I4, rw', q3⟩
end
/-! ### dict(d): a copy -/
section
variable {X : Cx} {pins : List (Addr × Obj)} {σ : St} {H : Hp} {s : Shared} {a : Addr} {kvs : List (Key × V)} {A : Around} {E : Value → Shared → Prop}
end
section
variable {X : Cx} {pins : List (Addr × Obj)} {σ : St} {H : Hp} {s : Shared} {a : Addr} {y : V} {u : Value} {A : Around} {E : Value → Shared → Prop}
end
end L2
namespace L2
open PySem PySem.Spec PyProof.Rows
section
variable {prog : Program} {w : World} {A : Around} {E : Value → Shared → Prop}
end
section
variable {X : Cx}
end
end L2
namespace L2
open PySem PySem.Spec PyProof.Rows
section
variable {X : Cx} {pins : List (Addr × Obj)} {σ : St} {H : Hp} {s : Shared} {h' : Heap}
/-! ### locking a thing while a statement runs -/
end
section
variable {X : Cx}
/-! ### one iterator just laid -/
end
/-! ### range with a step -/
section
variable {X : Cx} {tg : Expr}
end
/-! ### reversed(list) -/
section
variable {X : Cx} {tg : Expr}
end
/-! ### a str -/
/-! ### a dict's keys: any dict's entries -/
section
variable {prog : Program} {w : World} {A : Around} {E : Value → Shared → Prop} {s : Shared}
end
/-! ### a locked dict -/
section
variable {X : Cx} {pins : List (Addr × Obj)} {σ : St} {H : Hp} {s : Shared} {d : Addr} {o : Obj}
end
section
variable {P : Program} {w : World} {K : PySem.W.Frag} {tg : Expr} {d : Addr} {o : Obj} {es : Array DictEntry} {ep : Nat}
end
/-! ### for k in d, d.keys(), d.values(), d.items() -/
section
variable {X : Cx} {tg e : Expr} {td : TE} {apos cpos : Pos}
end
/-! ### enumerate(list) -/
/-! ### zip(list, list) -/
end L2
section 
namespace Bits
open PySem PyProof.Rows
end Bits
end 
section 
namespace TL
open PySem PySem.Builtin PySem.Builtin.Str PySem.StrLaws
/-! ### the list functions -/
/-! ### the model's split and partition are these -/
/-! ### computing spl and par -/
/-! ### digits -/
/-! ### words: x.split() -/
end TL
end 
namespace L2
open PySem PySem.Spec PyProof.Rows
section
variable {X : Cx} {pins : List (Addr × Obj)} {σ : St} {H : Hp} {s : Shared} {Q : VK}
end
section
variable {X : Cx}
/-! ### of a text alone -/
/-! ### of a text and a text -/
end
section
variable {X : Cx} {o e : Expr} {to te : TE}
end
end L2
namespace L2
open PySem PySem.Spec PyProof.Rows
section
variable {X : Cx}
end
/-! ### slices of a text -/
end L2
namespace Att
open PySem PySem.W PySem.Calls PyProof.Rows
/-! ### the script -/
/-! ### the attachment: holds_open's last premise (the goal 'hc' behind k_head) from a wpAny of the law's body -/
/-! ### rules over ANY heap (no ledger) from facts about the written part K: the library's own take a ledger (News) for what they write -/
section
variable {prog : Program} {w : World} {A : Around} {E : Value → Shared → Prop} {s : Shared} {K : Frag}
/-! the whole heap as the ledger: makes every rule that writes through a ledger a rule over any heap -/
end
end Att
namespace L2
open PySem PySem.Spec PyProof.Rows
end L2
namespace L2
open PySem PySem.Spec PyProof.Rows
end L2
/- THE LAST THEOREM (shape; LID, My.* are yours):
   My.Adr: a structure of the addresses that your layer names (classes, functions); My.Txt K t: a structure (Prop) of the equations over K;
   My.txt_mk : {K} {implicit addresses ..} (e1 : nsIn K mainGlobals "law" = some (some (.ref f))) (e2 : K.lookup f = some ⟨oc, od, .func (fnOf "law" "law" params body scope dV kV doc pm an cdv ct), sl⟩) (e3 : codeIn K cdv "law" = true) .. : ∃ t, My.Txt K t
set_option maxRecDepth 100000 in
set_option maxHeartbeats 0 in
theorem PySem.Challenge.cw_LID_holds : PySem.Challenge.rw_LID.Holds := by
  w_on; o_law; k_head; (case hw => w_witness2)
  k_fill
  refine L2.walk_of (l := PySem.Challenge.rw_LID) (n := 63) (k := 40) (x := "script") (CX := fun w => ..) (sp := fun _ => My.sp_law) rfl (by decide) rfl ⟨rfl, by decide, by decide⟩ (fun w h Y => PySem.W.kIn_of Y) ?F ?S ?C
  case F =>
    intro w mg fa h KX G hmg
    have T : ∃ t, My.Txt (L2.KOf KX) t := by
      dsimp only [L2.KOf]                          -- K must stand as «<heap const> w.params» for k_is
      refine' My.txt_mk ?e1 ?e2 ?e3 ..
      (case e1 => PySem.W.k_is)                    -- in the order: a name -> its address -> its object -> its parts
      (case e2 => PySem.W.k_is)
      ..
    obtain ⟨t, T⟩ := T
    have e0 := hmg.symm.trans (PySem.W.mg_of KX G T.law)
    cases e0                                       -- fa is the law's own address
    exact ⟨_, fun s u => .of_eq rfl, fun base kb nb => My.law_fn T kb nb⟩     -- if «.of_eq rfl» comes too early: refine' ⟨_, ?b, fun base kb nb => My.law_fn T kb nb⟩; exact fun s u => .of_eq rfl
  case S => exact fun w H a ns hl hO hS => ..
  case C => exact ..
(the tactic k_is has no namespace: write k_is) -/
/-! SHORT WORDS over the layer: a def of the text, its body, what a loop and a test want. -/
namespace L2
open PySem PySem.Spec PyProof.Rows
/-! ### the text by places -/
/-- the j-th statement of a class's body -/
def inClass (s : Stmt) (j : Nat) : Stmt := match s with
  | .ClassDef _ _ _ body _ _ _ _ _ _ _ => body.getD j (.Pass ⟨0, 0, 0, 0⟩)
  | _ => .Pass ⟨0, 0, 0, 0⟩
def defArgs (s : Stmt) : Arguments := match s with
  | .FunctionDef _ a _ _ _ _ _ _ _ _ => a
  | _ => { posonlyargs := [], args := [], vararg := none, kwonlyargs := [], kw_defaults := [], kwarg := none, defaults := [] }
def defBody (s : Stmt) : List Stmt := match s with
  | .FunctionDef _ _ b _ _ _ _ _ _ _ => b
  | _ => []
def defScope (s : Stmt) : Scope := match s with
  | .FunctionDef _ _ _ _ _ _ sc _ _ _ => sc
  | _ => { kind := .function, names := [], isGenerator := false, isCoroutine := false }
/-! ### no exception leaves a def -/
abbrev CX0 : CXT := fun _ _ _ _ _ _ => False
abbrev E0 : XK := fun _ _ _ => False
theorem pass0 {X : Cx} : Passes CX0 X E0 := fun _ _ _ _ _ _ _ h => h.elim
/-! ### a def (or method) of the text as it stands behind the top -/
structure Fun (K : PySem.W.Frag) (x qual : Str) (st : Stmt) (f : Addr) (fd : FuncData) : Prop where
  ex : ∃ (oc : Value) (od : Option Addr) (kV doc pm : Value) (an : Option Addr) (cdv ct : Value) (osl : Array (Option Value)),
    fd = PySem.W.fnOf x qual (defArgs st) (defBody st) (defScope st) .none kV doc pm an cdv ct ∧ K.lookup f = some ⟨oc, od, .func fd, osl⟩ ∧ PySem.W.codeIn K cdv qual = true
  kp : PySem.W.keepIn K (.ref f) = true
section
variable {P : Program} {w : World} {K : PySem.W.Frag} {mg : Str → Option Value} {base : Heap}
/-- THE RULE for a def: its body as a term of rules, and the reading of that term -/
theorem Fun.ok {x qual : Str} {st : Stmt} {f : Addr} {fd : FuncData} {N ps : List Str} {k : Nat} {sp : Sp} (F : Fun K x qual st f fd) (S : FnScope N ps (defScope st)) (len : ∀ vs H Q E, sp vs H Q E → vs.length = ps.length)
    (hbody : ∀ (cdv : Value) (A : Around) (outer : List Env) (s : Shared) (H : Hp) (vs : List V) (Q : VK) (E : XK), Room k (A.deeper (envOfC qual (defScope st) s.heap.objs.size f cdv)) → sp vs H Q E →
      ∃ t, PSs (cxOf CX0 P w K mg base N qual (defScope st) f cdv A outer s H E).nox (defBody st) t ∧ t { nx := fun _ H' => Q .non H', rt := Q } (start N vs) H) : FnOk P w K mg base CX0 (k + 1) f fd ps sp := by
  obtain ⟨oc, od, kV, doc, pm, an, cdv, ct, osl, rfl, lk, hcd⟩ := F.ex
  refine fn_of lk hcd S len fun A outer s H vs Q E hr hsp => ?_
  obtain ⟨t, h, q⟩ := hbody cdv A outer s H vs Q E hr hsp
  exact ⟨t, h.nox, q⟩
/-- how its arguments bind (no defaults): h is «fun _ _ _ _ _ _ us hl => match us, hl with | [_, _], _ => rfl», one _ a parameter -/
theorem Fun.binds {x qual : Str} {st : Stmt} {f : Addr} {fd : FuncData} {ps : List Str} (F : Fun K x qual st f fd)
    (h : ∀ (kV doc pm : Value) (an : Option Addr) (cdv ct : Value) (us : List Value), us.length = ps.length → bindArgs (PySem.W.fnOf x qual (defArgs st) (defBody st) (defScope st) .none kV doc pm an cdv ct) ⟨us, []⟩ = pure (ps.zip us)) : Binds K fd ps [] := by
  obtain ⟨oc, od, kV, doc, pm, an, cdv, ct, osl, rfl, lk, hcd⟩ := F.ex
  exact .all (h kV doc pm an cdv ct)
theorem fun_mk {x qual : Str} {st : Stmt} {f : Addr} {oc : Value} {od an : Option Addr} {osl : Array (Option Value)} {kV doc pm cdv ct : Value} (l : K.lookup f = some ⟨oc, od, .func (PySem.W.fnOf x qual (defArgs st) (defBody st) (defScope st) .none kV doc pm an cdv ct), osl⟩)
    (c : PySem.W.codeIn K cdv qual = true) (k : PySem.W.keepIn K (.ref f) = true) : Fun K x qual st f (PySem.W.fnOf x qual (defArgs st) (defBody st) (defScope st) .none kV doc pm an cdv ct) := ⟨⟨oc, od, kV, doc, pm, an, cdv, ct, osl, rfl, l, c⟩, k⟩
end
theorem hu_of {A : Around} {k : Nat} (hr : Room k A) : A.units + 1 < cLine := Nat.lt_of_le_of_lt (Nat.add_le_add_left (by decide : 1 ≤ 64) _) hr.units
theorem small1000 {n : Nat} (h : n ≤ 1000) : n < sizeLine := Nat.lt_of_le_of_lt h (by decide)
/-! ### expressions in short: the name that stands in the i-th slot -/
section
variable {X : Cx}
theorem pv (i : Nat) {x : Str} {pos : Pos} (hN : X.N[i]? = some x := by rfl) (hv : Vis X.env.scope x := by first | exact Or.inl rfl | exact Or.inr (Or.inl rfl) | exact Or.inr (Or.inr rfl)) (hd : (x == ("__debug__" : Str)) = false := by decide)
    (hcd : (x == ("__classdict__" : Str)) = false := by decide) : PE X (.Name x pos) (tVar i) := pe_var hN hv hd hcd
end
/-! ### tests -/
theorem iteF {A B : Prop} (h : B) : if false = true then A else B := by
  rw [if_neg Bool.false_ne_true]
  exact h
theorem iteT {A B : Prop} (h : A) : if true = true then A else B := by
  rw [if_pos rfl]
  exact h
theorem ite2 {c A B : Prop} [Decidable c] (h1 : c → A) (h2 : ¬ c → B) : if c then A else B := by
  by_cases h : c
  · rw [if_pos h]
    exact h1 h
  · rw [if_neg h]
    exact h2 h
/-! ### heaps -/
/-- all that was tracked is as it was -/
def Same (H H' : Hp) : Prop := ∀ b o, H b = some o → H' b = some o
theorem Same.refl (H : Hp) : Same H H := fun _ _ h => h
theorem Same.trans {H H1 H2 : Hp} (a : Same H H1) (b : Same H1 H2) : Same H H2 := fun c o h => b c o (a c o h)
theorem Same.free {H H' : Hp} (e : Same H H') {l : Addr} (h : H' l = Option.none) : H l = Option.none := by
  cases q : H l with
  | none => rfl
  | some o =>
    rw [e l o q] at h
    cases h
theorem Same.seq {K : PySem.W.Frag} {H H' : Hp} {a : Addr} {xs : List V} (e : Same H H') (h : SqL K H a xs) : SqL K H' a xs := by
  rcases h with (h | ⟨o, h⟩) | h
  · exact .inl (.inl (e _ _ h))
  · exact .inl (.inr ⟨o, e _ _ h⟩)
  · exact .inr h
/-! ### a dict's pairs: keys that differ -/
section
variable {κ : Type} [DecidableEq κ]
end
/-! ### lists -/
theorem at_of {xs : List V} {z : Int} {j : Nat} {v : V} (e : z = (j : Int)) (h : xs[j]? = some v) : atI xs z = some v := by
  rw [e]
  exact atI_nat h
/-- a new instance and its __init__ leave all that was tracked as it was -/
theorem Same.made {H H1 : Hp} {x dx C : Addr} (nx : H x = Option.none) (nd : H dx = Option.none) (k : ∀ b o, (upd (upd H dx (.own x)) x (.ins C dx [])) b = some o → b ≠ x → H1 b = some o) : Same H H1 := fun b o e =>
  k b o (by rw [upd_ne (ne_of_none e nx), upd_ne (ne_of_none e nd)]; exact e) (ne_of_none e nx)
end L2
section
set_option Elab.async false
set_option linter.all false
set_option maxRecDepth 100000
set_option maxHeartbeats 2000000
namespace L2
open PySem PySem.Spec PyProof.Rows
open PySem.W (WData Codec OpenSpec Well WellAll ReadsW ReadsAllW)
/-! ### an answer as data -/
mutual
/-- x stands for the datum d, lists and tuples all the way -/
inductive Dw (K : PySem.W.Frag) (H : Hp) : V → WData → Prop
  | non : Dw K H .non .none
  | bl (b : Bool) : Dw K H (.bl b) (.bool b)
  | int (i : Int) : Dw K H (.int i) (.int i)
  | str (x : Str) : Dw K H (.str x) (.str x)
  | byt (b : Array UInt8) : Dw K H (.byt b) (.bytes b.toList)
  | lst {a : Addr} {xs : List V} {ds : List WData} : SqL K H a xs → DwAll K H xs ds → Dw K H (.ref a) (.list ds)
  | tup {a : Addr} {xs : List V} {ds : List WData} : SqT K H a xs → DwAll K H xs ds → Dw K H (.ref a) (.tuple ds)
inductive DwAll (K : PySem.W.Frag) (H : Hp) : List V → List WData → Prop
  | nil : DwAll K H [] []
  | cons {v : V} {vs : List V} {d : WData} {ds : List WData} : Dw K H v d → DwAll K H vs ds → DwAll K H (v :: vs) (d :: ds)
end
theorem dw_ints {K : PySem.W.Frag} {H : Hp} : ∀ ns : List Int, DwAll K H (ns.map V.int) (ns.map WData.int)
  | [] => .nil
  | n :: r => .cons (.int n) (dw_ints r)
theorem ints_dw {K : PySem.W.Frag} {H : Hp} : ∀ (ns : List Int) (xs : List V), DwAll K H xs (ns.map WData.int) → xs = ns.map V.int
  | [], xs, h => by
    cases h
    rfl
  | n :: r, xs, h => by
    cases h with
    | cons h1 h2 =>
      cases h1
      rw [ints_dw r _ h2] <;> rfl
section
variable {P : Program} {w : World} {K : PySem.W.Frag} {H : Hp} {h : Heap} {R : PySem.W.WRecords} {cl : Str → Option Addr}
theorem sqL_at {a : Addr} {xs : List V} (hok : HOk P w H h) (KX : K.In h) (q : SqL K H a xs) : ∃ (its : List Value) (o : Obj) (n : Nat), Vals xs its ∧ h.get? a = some o ∧ o.cls = .type "list" ∧ o.data = .seq its.toArray n := by
  rcases q with q | ⟨o, its, n, e, hc, _, hd, _, hv⟩
  · obtain ⟨_, its, n, hv, e⟩ := (show ObjOk P w H h a (.lst xs) from q.ok hok)
    exact ⟨its, _, n, hv, e, rfl, rfl⟩
  · exact ⟨its.toList, o, n, hv, KX _ _ e, hc, by simp [hd]⟩
theorem sqT_at {a : Addr} {xs : List V} (hok : HOk P w H h) (KX : K.In h) (q : SqT K H a xs) : ∃ (its : List Value) (o : Obj) (n : Nat), Vals xs its ∧ h.get? a = some o ∧ o.cls = .type "tuple" ∧ o.data = .seq its.toArray n := by
  rcases q with q | ⟨o, its, n, e, hc, hd, _, hv⟩
  · obtain ⟨_, its, hv, o, e, hc, n, hd⟩ := (show ObjOk P w H h a (.tup xs) from q.ok hok)
    exact ⟨its, o, n, hv, e, hc, hd⟩
  · exact ⟨its.toList, o, n, hv, KX _ _ e, hc, by simp [hd]⟩
mutual
theorem Dw.reads (hok : HOk P w H h) (KX : K.In h) : ∀ (d : WData) (v : V) (u : Value), Dw K H v d → RelV v u → ∃ as, ReadsW R cl h u d as
  | .none, _, _, x, r => by
    cases x
    cases r
    exact ⟨_, ReadsW.none⟩
  | .bool b, _, _, x, r => by
    cases x
    cases r
    exact ⟨_, ReadsW.bool b⟩
  | .int i, _, _, x, r => by
    cases x
    obtain ⟨t, rfl⟩ := r
    exact ⟨_, ReadsW.int i t⟩
  | .str s, _, _, x, r => by
    cases x
    obtain ⟨t, rfl⟩ := r
    exact ⟨_, ReadsW.str s t⟩
  | .bytes b, _, _, x, r => by
    cases x
    obtain ⟨t, rfl⟩ := r
    exact ⟨_, ReadsW.bytes _ t⟩
  | .list ds, _, _, x, r => by
    cases x with
    | lst hs ha =>
      cases r
      obtain ⟨its, o, n, rv, ho, hc, hd⟩ := sqL_at hok KX hs
      obtain ⟨as, hr⟩ := Dw.readsAll hok KX ds _ its ha rv
      exact ⟨_, ReadsW.list ho hc hd hr⟩
  | .tuple ds, _, _, x, r => by
    cases x with
    | tup hs ha =>
      cases r
      obtain ⟨its, o, n, rv, ho, hc, hd⟩ := sqT_at hok KX hs
      obtain ⟨as, hr⟩ := Dw.readsAll hok KX ds _ its ha rv
      exact ⟨_, ReadsW.tuple ho hc hd hr⟩
  | .float _, _, _, x, _ => by cases x
  | .dict _, _, _, x, _ => by cases x
  | .bytearray _, _, _, x, _ => by cases x
  | .set _, _, _, x, _ => by cases x
  | .frozenset _, _, _, x, _ => by cases x
  | .obj _ _, _, _, x, _ => by cases x
theorem Dw.readsAll (hok : HOk P w H h) (KX : K.In h) : ∀ (ds : List WData) (vs : List V) (us : List Value), DwAll K H vs ds → Vals vs us → ∃ as, ReadsAllW R cl h us ds as
  | [], _, _, x, r => by
    cases x
    cases r
    exact ⟨_, ReadsAllW.nil⟩
  | d :: ds, _, _, x, r => by
    cases x with
    | cons h1 h2 =>
      cases r with
      | cons r1 r2 =>
        obtain ⟨as, q1⟩ := Dw.reads hok KX d _ _ h1 r1
        obtain ⟨bs, q2⟩ := Dw.readsAll hok KX ds _ _ h2 r2
        exact ⟨_, ReadsAllW.cons q1 q2⟩
end
end
/-! ### the arguments -/
mutual
/-- data that a codec tells -/
def plW : WData → Bool
  | .none => true
  | .bool _ => true
  | .int _ => true
  | .str _ => true
  | .bytes _ => true
  | .list xs => plWs xs
  | .tuple xs => plWs xs
  | _ => false
def plWs : List WData → Bool
  | [] => true
  | x :: r => plW x && plWs r
end
theorem plWs_map {α : Type} {f : α → WData} (h : ∀ a, plW (f a) = true) : ∀ l : List α, plWs (l.map f) = true
  | [] => rfl
  | x :: r => by
    show (plW (f x) && plWs (r.map f)) = true
    rw [h x, plWs_map h r] <;> rfl
theorem pl_enc : ∀ (c : Codec) (a : c.denote), plW (c.enc a) = true
  | .unit, _ => rfl
  | .bool, _ => rfl
  | .int _ _, _ => rfl
  | .nat _ _, _ => rfl
  | .u8, _ => rfl
  | .bytes _ _, _ => rfl
  | .text _ _ _ _, _ => rfl
  | .list _ _ c, a => plWs_map (fun x => pl_enc c x) a
  | .pair c d, a => by
    show (plW (c.enc a.1) && (plW (d.enc a.2) && true)) = true
    rw [pl_enc c a.1, pl_enc d a.2] <;> rfl
  | .triple c d e, a => by
    show (plW (c.enc a.1) && (plW (d.enc a.2.1) && (plW (e.enc a.2.2) && true))) = true
    rw [pl_enc c a.1, pl_enc d a.2.1, pl_enc e a.2.2] <;> rfl
  | .option c, none => rfl
  | .option c, some x => pl_enc c x
theorem pl_encAll : ∀ (cs : List Codec) (a : Codec.denoteAll cs), plWs (Codec.encAll cs a) = true
  | [], _ => rfl
  | c :: cs, a => by
    show (plW (c.enc a.1) && plWs (Codec.encAll cs a.2)) = true
    rw [pl_enc c a.1, pl_encAll cs a.2] <;> rfl
theorem weight_mem : ∀ {xs : List WData} {d : WData}, d ∈ xs → d.weight ≤ WData.weightAll xs
  | [], d, h => absurd h (by simp)
  | x :: r, d, h => by
    show d.weight ≤ x.weight + 1 + WData.weightAll r
    rcases List.mem_cons.mp h with e | m
    · rw [e]
      omega
    · have z := weight_mem m
      omega
def toV : Value → V
  | .none => .non
  | .bool b => .bl b
  | .int i _ => .int i
  | .str x _ => .str x
  | .bytes b _ => .byt b
  | .ref a => .ref a
  | _ => .non
/-- a value of the arguments, its objects among A -/
def OkU (A : List Addr) : Value → Prop
  | .none => True
  | .bool _ => True
  | .int _ _ => True
  | .str _ _ => True
  | .bytes _ _ => True
  | .ref a => a ∈ A
  | _ => False
theorem OkU.mono {A B : List Addr} (h : ∀ a ∈ A, a ∈ B) : ∀ {u : Value}, OkU A u → OkU B u := fun {u} x => by
  cases u with
  | ref a => exact h a x
  | none => trivial
  | bool b => trivial
  | int i t => trivial
  | str s t => trivial
  | bytes b t => trivial
  | _ => exact False.elim x
theorem relV_toV {A : List Addr} {u : Value} (x : OkU A u) : RelV (toV u) u := by
  cases u with
  | ref a => rfl
  | none => rfl
  | bool b => rfl
  | int i t => exact ⟨t, rfl⟩
  | str s t => exact ⟨t, rfl⟩
  | bytes b t => exact ⟨t, rfl⟩
  | _ => exact False.elim x
theorem vals_toV {A : List Addr} : ∀ {vs : List Value}, (∀ u ∈ vs, OkU A u) → Vals (vs.map toV) vs
  | [], _ => .nil
  | u :: r, h => .cons (relV_toV (h u (List.mem_cons_self ..))) (vals_toV fun x hx => h x (List.mem_cons_of_mem _ hx))
/-- an object of the arguments -/
def ArgOb (h : Heap) (A : List Addr) (a : Addr) : Prop := ∃ vs : List Value, vs.length ≤ sizeLine ∧ (∀ u ∈ vs, OkU A u) ∧
  (h.get? a = some { cls := .type "list", data := .seq vs.toArray } ∨ h.get? a = some { cls := .type "tuple", data := .seq vs.toArray })
theorem ArgOb.mono {h : Heap} {A B : List Addr} {a : Addr} (k : ∀ a ∈ A, a ∈ B) (x : ArgOb h A a) : ArgOb h B a := by
  obtain ⟨vs, h1, h2, h3⟩ := x
  exact ⟨vs, h1, fun u hu => (h2 u hu).mono k, h3⟩
theorem wellAll_len {P : Params} {h : Heap} : ∀ {vs : List Value} {ds : List WData}, WellAll P h vs ds → vs.length = ds.length
  | _, _, .nil => rfl
  | _, _, .cons _ b => by
    show _ + 1 = _ + 1
    rw [wellAll_len b]
theorem well_list {P : Params} {h : Heap} {v : Value} {ds : List WData} (x : Well P h v (.list ds)) : ∃ (a : Addr) (vs : List Value), v = .ref a ∧ h.get? a = some { cls := .type "list", data := .seq vs.toArray } ∧ WellAll P h vs ds := by
  cases x with
  | list ho hall => exact ⟨_, _, rfl, ho, hall⟩
theorem well_tuple {P : Params} {h : Heap} {v : Value} {ds : List WData} (x : Well P h v (.tuple ds)) : ∃ (a : Addr) (vs : List Value), v = .ref a ∧ h.get? a = some { cls := .type "tuple", data := .seq vs.toArray } ∧ WellAll P h vs ds := by
  cases x with
  | tuple ho hall => exact ⟨_, _, rfl, ho, hall⟩
theorem well_cons {P : Params} {h : Heap} {us : List Value} {d : WData} {ds : List WData} (x : WellAll P h us (d :: ds)) : ∃ (v : Value) (vs : List Value), us = v :: vs ∧ Well P h v d ∧ WellAll P h vs ds := by
  cases x with
  | cons a b => exact ⟨_, _, rfl, a, b⟩
theorem line_of {n : Nat} (h : n ≤ 1048576) : n ≤ sizeLine := Nat.le_trans h (by decide)
section
variable {P : Params} {h : Heap}
mutual
theorem area_one : ∀ (d : WData) (v : Value), Well P h v d → plW d = true → d.weight ≤ 1048576 → ∃ A : List Addr, OkU A v ∧ ∀ a ∈ A, ArgOb h A a
  | .none, _, x, _, _ => by
    cases x
    exact ⟨[], trivial, fun a m => absurd m (by simp)⟩
  | .bool b, _, x, _, _ => by
    cases x
    exact ⟨[], trivial, fun a m => absurd m (by simp)⟩
  | .int i, _, x, _, _ => by
    cases x
    exact ⟨[], trivial, fun a m => absurd m (by simp)⟩
  | .str s, _, x, _, _ => by
    cases x
    exact ⟨[], trivial, fun a m => absurd m (by simp)⟩
  | .bytes b, _, x, _, _ => by
    cases x
    exact ⟨[], trivial, fun a m => absurd m (by simp)⟩
  | .list ds, _, x, p, z => by
    obtain ⟨a, vs, rfl, ho, hall⟩ := well_list x
    have z2 : WData.weightAll ds ≤ 1048576 := z
    obtain ⟨A, h1, h2⟩ := area_all ds _ hall p fun d hd => Nat.le_trans (weight_mem hd) z2
    have k : ∀ b ∈ A, b ∈ a :: A := fun b hb => List.mem_cons_of_mem _ hb
    refine ⟨a :: A, List.mem_cons_self .., fun b hb => ?_⟩
    rcases List.mem_cons.mp hb with e | m
    · rw [e]
      exact ⟨vs, line_of (by rw [wellAll_len hall]; exact Nat.le_trans (PySem.W.length_le_weightAllW ds) z2), fun u hu => (h1 u hu).mono k, .inl ho⟩
    · exact (h2 b m).mono k
  | .tuple ds, _, x, p, z => by
    obtain ⟨a, vs, rfl, ho, hall⟩ := well_tuple x
    have z2 : WData.weightAll ds ≤ 1048576 := z
    obtain ⟨A, h1, h2⟩ := area_all ds _ hall p fun d hd => Nat.le_trans (weight_mem hd) z2
    have k : ∀ b ∈ A, b ∈ a :: A := fun b hb => List.mem_cons_of_mem _ hb
    refine ⟨a :: A, List.mem_cons_self .., fun b hb => ?_⟩
    rcases List.mem_cons.mp hb with e | m
    · rw [e]
      exact ⟨vs, line_of (by rw [wellAll_len hall]; exact Nat.le_trans (PySem.W.length_le_weightAllW ds) z2), fun u hu => (h1 u hu).mono k, .inr ho⟩
    · exact (h2 b m).mono k
  | .float _, _, _, p, _ => Bool.noConfusion (show false = true from p)
  | .dict _, _, _, p, _ => Bool.noConfusion (show false = true from p)
  | .bytearray _, _, _, p, _ => Bool.noConfusion (show false = true from p)
  | .set _, _, _, p, _ => Bool.noConfusion (show false = true from p)
  | .frozenset _, _, _, p, _ => Bool.noConfusion (show false = true from p)
  | .obj _ _, _, _, p, _ => Bool.noConfusion (show false = true from p)
theorem area_all : ∀ (ds : List WData) (vs : List Value), WellAll P h vs ds → plWs ds = true → (∀ d ∈ ds, d.weight ≤ 1048576) → ∃ A : List Addr, (∀ u ∈ vs, OkU A u) ∧ ∀ a ∈ A, ArgOb h A a
  | [], _, x, _, _ => by
    cases x
    exact ⟨[], fun u m => absurd m (by simp), fun a m => absurd m (by simp)⟩
  | d :: ds, _, x, p, z => by
    obtain ⟨v, vs, rfl, x1, x2⟩ := well_cons x
    have q : plW d = true ∧ plWs ds = true := Bool.and_eq_true_iff.mp p
    obtain ⟨A, a1, a2⟩ := area_one d v x1 q.1 (z d (List.mem_cons_self ..))
    obtain ⟨B, b1, b2⟩ := area_all ds vs x2 q.2 fun e he => z e (List.mem_cons_of_mem _ he)
    have kA : ∀ b ∈ A, b ∈ A ++ B := fun b hb => List.mem_append.mpr (.inl hb)
    have kB : ∀ b ∈ B, b ∈ A ++ B := fun b hb => List.mem_append.mpr (.inr hb)
    refine ⟨A ++ B, fun u hu => ?_, fun b hb => ?_⟩
    · rcases List.mem_cons.mp hu with e | m
      · rw [e]
        exact a1.mono kA
      · exact (b1 u m).mono kB
    · rcases List.mem_append.mp hb with m | m
      · exact (a2 b m).mono kA
      · exact (b2 b m).mono kB
end
end
/-- what is tracked of an argument's object -/
def hoOf (o : Obj) : Option HO := match o.data with
  | .seq vs _ => if (o.cls == Value.type "list") = true then some (.frz o (.lst (vs.toList.map toV))) else some (.frz o (.tup (vs.toList.map toV)))
  | _ => none
def argH (K : PySem.W.Frag) (h : Heap) (A : List Addr) : Hp := fun b => if b ∈ A then (if (K.lookup b).isNone = true then (h.get? b).bind hoOf else none) else none
/-- nothing is tracked but what is known to the object -/
def OnlyF (H : Hp) : Prop := ∀ b, H b = none ∨ ∃ o u, H b = some (.frz o u)
theorem hoOf_lst (vs : List Value) : hoOf { cls := .type "list", data := .seq vs.toArray } = some (.frz { cls := .type "list", data := .seq vs.toArray } (.lst (vs.map toV))) := by
  show (if (Value.type "list" == Value.type "list") = true then some (HO.frz { cls := .type "list", data := .seq vs.toArray } (.lst (vs.toArray.toList.map toV))) else some (HO.frz { cls := .type "list", data := .seq vs.toArray } (.tup (vs.toArray.toList.map toV)))) = _
  rw [if_pos (beq_self_eq_true _)]
theorem hoOf_tup (vs : List Value) : hoOf { cls := .type "tuple", data := .seq vs.toArray } = some (.frz { cls := .type "tuple", data := .seq vs.toArray } (.tup (vs.map toV))) := by
  show (if (Value.type "tuple" == Value.type "list") = true then some (HO.frz { cls := .type "tuple", data := .seq vs.toArray } (.lst (vs.toArray.toList.map toV))) else some (HO.frz { cls := .type "tuple", data := .seq vs.toArray } (.tup (vs.toArray.toList.map toV)))) = _
  rw [if_neg (by decide)]
section
variable {P : Program} {w : World} {K : PySem.W.Frag} {h : Heap} {A : List Addr}
theorem argH_at {b : Addr} {o : Obj} (hb : b ∈ A) (hk : K.lookup b = none) (e : h.get? b = some o) : argH K h A b = hoOf o := by
  unfold argH
  rw [if_pos hb, hk, if_pos (show (none : Option Obj).isNone = true from rfl), e] <;> rfl
theorem of_argH {b : Addr} {u : HO} (q : argH K h A b = some u) : b ∈ A ∧ K.lookup b = none := by
  unfold argH at q
  by_cases hb : b ∈ A
  · rw [if_pos hb] at q
    cases hk : K.lookup b with
    | none => exact ⟨hb, rfl⟩
    | some o =>
      rw [hk, if_neg (by simp)] at q
      cases q
  · rw [if_neg hb] at q
    cases q
/-- what stands tracked -/
theorem argH_is (ar : ∀ a ∈ A, ArgOb h A a) {b : Addr} {u : HO} (q : argH K h A b = some u) : K.lookup b = none ∧ ∃ vs : List Value, vs.length ≤ sizeLine ∧ (∀ u ∈ vs, OkU A u) ∧
    ((h.get? b = some { cls := .type "list", data := .seq vs.toArray } ∧ u = .frz { cls := .type "list", data := .seq vs.toArray } (.lst (vs.map toV))) ∨
     (h.get? b = some { cls := .type "tuple", data := .seq vs.toArray } ∧ u = .frz { cls := .type "tuple", data := .seq vs.toArray } (.tup (vs.map toV)))) := by
  obtain ⟨hb, hk⟩ := of_argH q
  obtain ⟨vs, h1, h2, h3⟩ := ar b hb
  refine ⟨hk, vs, h1, h2, ?_⟩
  rcases h3 with e | e
  · rw [argH_at hb hk e, hoOf_lst] at q
    exact .inl ⟨e, (Option.some.inj q).symm⟩
  · rw [argH_at hb hk e, hoOf_tup] at q
    exact .inr ⟨e, (Option.some.inj q).symm⟩
theorem argH_only (ar : ∀ a ∈ A, ArgOb h A a) : OnlyF (argH K h A) := fun b => by
  cases q : argH K h A b with
  | none => exact .inl rfl
  | some u =>
    obtain ⟨_, vs, _, _, ⟨_, e⟩ | ⟨_, e⟩⟩ := argH_is ar q
    · exact .inr ⟨_, _, by rw [e]⟩
    · exact .inr ⟨_, _, by rw [e]⟩
theorem seq_inj {c c' : Value} {vs us : List Value} (e : (some { cls := c, data := .seq vs.toArray } : Option Obj) = some { cls := c', data := .seq us.toArray }) : c = c' ∧ vs = us := by
  have e1 := Option.some.inj e
  have e2 : c = c' := congrArg Obj.cls e1
  have e3 : Data.seq vs.toArray = Data.seq us.toArray := congrArg Obj.data e1
  injection e3 with e4
  refine ⟨e2, ?_⟩
  have e5 := congrArg Array.toList e4
  simpa using e5
/-- a list argument -/
theorem argL (KX : K.In h) (ar : ∀ a ∈ A, ArgOb h A a) {a : Addr} {vs : List Value} (ha : a ∈ A) (e : h.get? a = some { cls := .type "list", data := .seq vs.toArray }) : (∀ u ∈ vs, OkU A u) ∧ SqL K (argH K h A) a (vs.map toV) := by
  obtain ⟨us, h1, h2, h3⟩ := ar a ha
  have hu : us = vs := by
    rcases h3 with q | q
    · rw [e] at q
      exact (seq_inj q).2.symm
    · rw [e] at q
      exact absurd (Value.type.inj (seq_inj q).1) (by decide)
  subst hu
  refine ⟨h2, ?_⟩
  cases hk : K.lookup a with
  | none => exact .inl (.inr ⟨_, by rw [argH_at ha hk e, hoOf_lst]⟩)
  | some o =>
    have e2 := KX a o hk
    rw [e] at e2
    obtain rfl := Option.some.inj e2
    exact .inr ⟨_, us.toArray, _, hk, rfl, rfl, rfl, by rw [List.size_toArray]; exact h1, by simpa using vals_toV h2⟩
theorem argT (KX : K.In h) (ar : ∀ a ∈ A, ArgOb h A a) {a : Addr} {vs : List Value} (ha : a ∈ A) (e : h.get? a = some { cls := .type "tuple", data := .seq vs.toArray }) : (∀ u ∈ vs, OkU A u) ∧ SqT K (argH K h A) a (vs.map toV) := by
  obtain ⟨us, h1, h2, h3⟩ := ar a ha
  have hu : us = vs := by
    rcases h3 with q | q
    · rw [e] at q
      exact absurd (Value.type.inj (seq_inj q).1) (by decide)
    · rw [e] at q
      exact (seq_inj q).2.symm
  subst hu
  refine ⟨h2, ?_⟩
  cases hk : K.lookup a with
  | none => exact .inl (.inr ⟨_, by rw [argH_at ha hk e, hoOf_tup]⟩)
  | some o =>
    have e2 := KX a o hk
    rw [e] at e2
    obtain rfl := Option.some.inj e2
    exact .inr ⟨_, us.toArray, _, hk, rfl, rfl, by rw [List.size_toArray]; exact h1, by simpa using vals_toV h2⟩
mutual
theorem dw_one {Pm : Params} (KX : K.In h) (ar : ∀ a ∈ A, ArgOb h A a) : ∀ (d : WData) (v : Value), Well Pm h v d → plW d = true → OkU A v → Dw K (argH K h A) (toV v) d
  | .none, _, x, _, _ => by
    cases x
    exact .non
  | .bool b, _, x, _, _ => by
    cases x
    exact .bl b
  | .int i, _, x, _, _ => by
    cases x
    exact .int i
  | .str s, _, x, _, _ => by
    cases x
    exact .str s
  | .bytes b, _, x, _, _ => by
    cases x
    have z := Dw.byt (K := K) (H := argH K h A) b.toArray
    exact z
  | .list ds, _, x, p, hu => by
    obtain ⟨a, vs, rfl, ho, hall⟩ := well_list x
    obtain ⟨h2, hs⟩ := argL KX ar hu ho
    exact .lst hs (dw_all KX ar ds _ hall p h2)
  | .tuple ds, _, x, p, hu => by
    obtain ⟨a, vs, rfl, ho, hall⟩ := well_tuple x
    obtain ⟨h2, hs⟩ := argT KX ar hu ho
    exact .tup hs (dw_all KX ar ds _ hall p h2)
  | .float _, _, _, p, _ => Bool.noConfusion (show false = true from p)
  | .dict _, _, _, p, _ => Bool.noConfusion (show false = true from p)
  | .bytearray _, _, _, p, _ => Bool.noConfusion (show false = true from p)
  | .set _, _, _, p, _ => Bool.noConfusion (show false = true from p)
  | .frozenset _, _, _, p, _ => Bool.noConfusion (show false = true from p)
  | .obj _ _, _, _, p, _ => Bool.noConfusion (show false = true from p)
theorem dw_all {Pm : Params} (KX : K.In h) (ar : ∀ a ∈ A, ArgOb h A a) : ∀ (ds : List WData) (vs : List Value), WellAll Pm h vs ds → plWs ds = true → (∀ u ∈ vs, OkU A u) → DwAll K (argH K h A) (vs.map toV) ds
  | [], _, x, _, _ => by
    cases x
    exact .nil
  | d :: ds, _, x, p, hu => by
    obtain ⟨v, vs, rfl, x1, x2⟩ := well_cons x
    have q : plW d = true ∧ plWs ds = true := Bool.and_eq_true_iff.mp p
    exact .cons (dw_one KX ar d v x1 q.1 (hu _ (List.mem_cons_self ..))) (dw_all KX ar ds vs x2 q.2 fun u m => hu u (List.mem_cons_of_mem _ m))
end
end
/-! ### the call -/
/-! ### the row -/
theorem layable_weight {ds : List WData} (h : WData.layableAll ds = true) : ∀ d ∈ ds, d.weight ≤ 1048576 := fun d hd =>
  (PySem.W.layableW_iff.mp (List.all_eq_true.mp h d hd)).2.2
theorem encAll_len : ∀ (cs : List Codec) (a : Codec.denoteAll cs), (Codec.encAll cs a).length = cs.length
  | [], _ => rfl
  | c :: cs, a => by
    show (Codec.encAll cs a.2).length + 1 = cs.length + 1
    rw [encAll_len cs a.2]
end L2
end
section
set_option Elab.async false
set_option linter.all false
set_option maxRecDepth 100000
set_option maxHeartbeats 2000000
/-! More of the layer: len of a dict with tuple keys; a module's ints by name; steps between heaps. -/
namespace L2
open PySem PySem.Spec PyProof.Rows
theorem len_heapDict {prog : Program} {w : World} {κ : Type} [DecidableEq κ] {knd : PySem.HeapKind prog w κ} {d : Addr} (hd : (d == sysModules) = false) :
    MeetsIn prog w (Builtin.«dict.__len__» ⟨[.ref d], []⟩) (fun _ R s => ∃ xs, s.heap.DictOfH knd d xs ∧ R (.ok (.ret (.int xs.length s.toks))) { s with toks := s.toks + 1 }) :=
  .of_wp fun A R s ⟨xs, hm, h⟩ => by
    obtain ⟨o, es, ep, ho, hc, hdat, he, _, _⟩ := hm
    show wpAny _ _ (dictSize d >>= _) _ _ s
    unfold dictSize
    refine wpAny_bind (wpAny_bind (wpAny_dictEntries ho hdat (wpAny_pure ?_)))
    show wpAny _ _ (Builtin.Dict.pendingCount d >>= _) _ _ s
    refine wpAny_bind (wpAny_pendingCount_other hd ?_)
    refine wpAny_ret_mkInt ?_
    have e : es.size = xs.length := by rw [← Array.length_toList, he, List.length_map]
    rw [Nat.add_zero, e]
    exact h
section
variable {X : Cx}
/-- len of a dict whose keys are tuples -/
theorem call_lenT : CallR X (.builtin "len") (fun xs H Q => ∃ a kvs, xs = [V.ref a] ∧ H a = some (.dT kvs) ∧ Q (.int kvs.length) H) := by
  intro pins s σ H xs us Q I r h
  obtain ⟨a, kvs, rfl, ha, q⟩ := h
  obtain ⟨u, rfl, ru⟩ := vals1 r
  cases ru
  obtain ⟨z, hd, vs, rel, dd⟩ := dt_of I.hok ha
  have hl : kvs.length = vs.length := Paired.length rel
  have z' : ¬ ((vs.length : Nat) : Int) ≥ 2 ^ 63 := by rw [sizeLine_eq] at z; omega
  refine call_len_slot dd.typeIs PySem.F.slot_dict_len (n := (vs.length : Nat)) (fun Q' hQ => ?_) (by omega) z' ?_
  · exact call_meetsIn PySem.F.slot_dict_len dd.typeIs PySem.F.entry_dict_len (PySem.F.args_dict_len_1 _) (len_heapDict hd) ⟨vs, dd, hQ⟩
  · exact ⟨.int kvs.length, H, I.tok _, ⟨_, by rw [hl]⟩, q⟩
/-- a module's int by its name -/
theorem pe_gint {x : Str} {i : Int} {pos : Pos} (hm : ∃ t, X.mg x = some (.int i t)) (hg : Gl X x := by rfl) (hd : (x == ("__debug__" : Str)) = false := by decide) : PE X (.Name x pos) (tC (.int i)) := by
  obtain ⟨t, e⟩ := hm
  exact pe_glob hg e ⟨t, rfl⟩ hd
end
end L2
end
section
set_option Elab.async false
set_option linter.all false
set_option maxRecDepth 100000
set_option maxHeartbeats 2000000
/-! Things known to the object, laid into and taken out of what is tracked; a call while a cell is tracked. -/
namespace L2
open PySem PySem.Spec PyProof.Rows
/-- a thing known to its object alone -/
abbrev kno (o : Obj) : HO := .frz o (.own 0)
def del (H : Hp) (c : Addr) : Hp := fun b => if b = c then none else H b
theorem del_same {H : Hp} {c : Addr} : del H c c = none := if_pos rfl
theorem del_ne {H : Hp} {b c : Addr} (h : b ≠ c) : del H c b = H b := if_neg h
theorem of_del {H : Hp} {b c : Addr} {u : HO} (h : del H c b = some u) : b ≠ c ∧ H b = some u := by
  by_cases e : b = c
  · rw [e, del_same] at h
    cases h
  · rw [del_ne e] at h
    exact ⟨e, h⟩
theorem upd_del {H : Hp} {c : Addr} {o : HO} (h : H c = some o) : upd (del H c) c o = H := by
  funext b
  by_cases e : b = c
  · rw [e, upd_same, h]
  · rw [upd_ne e, del_ne e]
section
variable {P : Program} {w : World} {H H' : Hp} {h h' : Heap} {c : Addr} {oc : Obj} {fs : List Addr}
theorem kno_ok {a : Addr} {o : Obj} (e : h.get? a = some o) : ObjOk P w H h a (kno o) := ⟨e, o, e⟩
theorem kno_at {a : Addr} {o : Obj} (x : HOk P w H h) (e : H a = some (kno o)) : h.get? a = some o := (x a _ e).1
/-- taken out of what is tracked -/
theorem HOk.del (x : HOk P w H h) (e : H c = some (kno oc)) : HOk P w (del H c) h := fun a o q => by
  obtain ⟨ne, q⟩ := of_del q
  refine (x a o q).stay (fun _ _ _ z => z) (fun b z => ?_) fun b xs z => ?_
  · rw [del_ne (ne_of z e (by intro y; cases y))]
    exact z
  · rw [del_ne (ne_of z e (by intro y; cases y))]
    exact z
/-- laid into it -/
theorem HOk.put (x : HOk P w H h) (n : H c = none) (e : h.get? c = some oc) : HOk P w (upd H c (kno oc)) h := fun a o q => by
  by_cases z : a = c
  · subst z
    rw [upd_same] at q
    cases q
    exact kno_ok e
  · rw [upd_ne z] at q
    refine (x a o q).stay (fun _ _ _ z => z) (fun b z => ?_) fun b xs z => ?_
    · rw [upd_ne (ne_of_none z n)]
      exact z
    · rw [upd_ne (ne_of_none z n)]
      exact z
/-- what is done while it is tracked, without it -/
theorem Un.without (u : Un fs [] (upd H c (kno oc)) H' h h') (n : H c = none) (hc : h.get? c = some oc) (x : HOk P w H' h') (hfs : c ∉ fs) : Un fs [] H (L2.del H' c) h h' where
  keep := fun b o e q hb _ => by
    by_cases z : b = c
    · subst z
      rw [hc] at e
      cases e
      exact kno_at x (u.frzs b _ _ upd_same)
    · exact u.keep b o e (by rw [upd_ne z]; exact q) hb (by simp)
  slot := fun b o e q hb _ => by
    have z : b ≠ c := fun z => hfs (z ▸ hb)
    exact u.slot b o e (by rw [upd_ne z]; exact q) hb (by simp)
  free := fun b o e q _ => by
    by_cases z : b = c
    · rw [z, del_same]
    · rw [del_ne z]
      exact u.free b o e (by rw [upd_ne z]; exact q) (by simp)
  there := fun b o e _ => u.there b o e (by simp)
  tups := fun b xs q => by
    have z := ne_of_none q n
    rw [del_ne z]
    exact u.tups b xs (by rw [upd_ne z]; exact q)
  frzs := fun b o v q => by
    have z := ne_of_none q n
    rw [del_ne z]
    exact u.frzs b o v (by rw [upd_ne z]; exact q)
  tbls := fun b ps q => by
    have z := ne_of_none q n
    rw [del_ne z]
    exact u.tbls b ps (by rw [upd_ne z]; exact q)
/-- what is done while it is not tracked, with it -/
theorem Un.within (u : Un fs [] (L2.del H c) H' h h') (e : H c = some (kno oc)) : Un fs [] H (upd H' c (kno oc)) h h' where
  keep := fun b o q n hb _ => u.keep b o q (by rw [del_ne (ne_of_none e n).symm]; exact n) hb (by simp)
  slot := fun b o q n hb _ => u.slot b o q (by rw [del_ne (ne_of_none e n).symm]; exact n) hb (by simp)
  free := fun b o q n _ => by
    have z := (ne_of_none e n).symm
    rw [upd_ne z]
    exact u.free b o q (by rw [del_ne z]; exact n) (by simp)
  there := fun b o q _ => u.there b o q (by simp)
  tups := fun b xs q => by
    have z : b ≠ c := ne_of q e (by intro y; cases y)
    rw [upd_ne z]
    exact u.tups b xs (by rw [del_ne z]; exact q)
  frzs := fun b o v q => by
    by_cases z : b = c
    · subst z
      rw [e] at q
      cases q
      exact upd_same
    · rw [upd_ne z]
      exact u.frzs b o v (by rw [del_ne z]; exact q)
  tbls := fun b ps q => by
    have z : b ≠ c := ne_of q e (by intro y; cases y)
    rw [upd_ne z]
    exact u.tbls b ps (by rw [del_ne z]; exact q)
end
section
variable {P : Program} {w : World} {K : PySem.W.Frag} {mg : Str → Option Value} {base : Heap} {A : Around} {outer : List Env} {s s' : Shared} {H H' : Hp}
/-- the state at a later call -/
theorem Env0.next (e : Env0 P w K mg base A outer s H) (u : Un (frs outer) [] H H' s.heap s'.heap) (ok : HOk P w H' s'.heap) (hb : AllBare s'.gens) (hz : base.objs.size ≤ s'.heap.objs.size) : Env0 P w K mg base A outer s' H' := by
  have nofr : ∀ b o, base.get? b = some o → b ∉ frs outer := fun b o q z => by
    have := (e.funs.mem z).1
    rw [q] at this
    cases this
  refine ⟨e.frames, e.mod, fun b o q => ?_, hz, ?_, fun b hb => ?_, ok, hb⟩
  · obtain ⟨h1, h2⟩ := e.bs b o q
    exact ⟨u.keep b o h1 h2 (nofr b o q) (by simp), u.free b o h1 h2 (by simp)⟩
  · have all : ∀ (l : List Env), (∀ b ∈ frs l, b ∈ frs outer) → s.heap.FunFrames base l → s'.heap.FunFrames base l := by
      intro l
      induction l with
      | nil => intro _ _; trivial
      | cons env r ih =>
        intro hs hl
        obtain ⟨hk, ⟨L, o, hf, hn, ho, hd⟩, hr⟩ := hl
        have hL : L ∈ frs outer := hs L (by unfold frs; rw [List.filterMap_cons, hf]; exact List.mem_cons_self)
        obtain ⟨sl, q⟩ := u.slot L o ho (e.frf L hL) hL (by simp)
        exact ⟨hk, ⟨L, _, hf, hn, q, hd⟩, ih (fun b hb => hs b (by unfold frs; rw [List.filterMap_cons, hf]; exact List.mem_cons_of_mem _ hb)) hr⟩
    exact all outer (fun _ hb => hb) e.funs
  · obtain ⟨_, o, ho, _⟩ := e.funs.mem hb
    exact u.free b o ho (e.frf b hb) (by simp)
end
end L2
end
section
set_option Elab.async false
set_option linter.all false
set_option maxRecDepth 100000
set_option maxHeartbeats 2000000
/-! A lambda as a value: its function, its code, the table of the code that makes it. -/
namespace L2
open PySem PySem.Spec PyProof.Rows
/-- where the module's built-in names stand -/
def BMain (mg : Str → Option Value) (base : Heap) : Prop := ∃ bm ob, mg "__builtins__" = some (.ref bm) ∧ bm ≠ builtinsNs ∧ base.get? bm = some ob ∧ ob.cls = .type "module" ∧ ob.dict = some builtinsNs ∧ ob.data = .plain
def CodeOb (qual : Str) (o : Obj) : Prop := ∃ (vs : Array Value) (t : Tok), o.data = .fields vs ∧ vs[1]? = some (.str qual t)
/-- the table P of the code that makes the lambda at pos: empty of it, or it holds its code -/
structure Site (H : Hp) (P : Addr) (pos : Pos) (qual : Str) : Prop where
  ex : ∃ ps, H P = some (.tbl ps) ∧ TriplesOk ps.toList ∧ (codeAmong pos ps.toList = none ∨ ∃ c o, codeAmong pos ps.toList = some (.ref c) ∧ H c = some (kno o) ∧ CodeOb qual o)
abbrev lamFd (qual : Str) (params : Arguments) (body : Expr) (scope : Scope) (clos : List (Str × Addr)) (pm cv ctv : Value) : FuncData := PySem.W.kla_fn "<lambda>" qual params body scope clos pm cv ctv
abbrev lamOb (qual : Str) (params : Arguments) (body : Expr) (scope : Scope) (clos : List (Str × Addr)) (pm cv ctv : Value) : Obj := { cls := .type "function", data := .func (lamFd qual params body scope clos pm cv ctv) }
/-- the function of a lambda stands at f -/
def LamAt (H : Hp) (f : Addr) (fd : FuncData) (qual : Str) (params : Arguments) (body : Expr) (scope : Scope) (clos : List (Str × Addr)) : Prop :=
  ∃ (pm ctv : Value) (cc : Addr) (oc : Obj), fd = lamFd qual params body scope clos pm (.ref cc) ctv ∧ H f = some (kno (lamOb qual params body scope clos pm (.ref cc) ctv)) ∧ H cc = some (kno oc) ∧ CodeOb qual oc
def tLam (P : Addr) (pos : Pos) (qual : Str) (params : Arguments) (body : Expr) (scope : Scope) (clos : List (Str × Addr)) : TE := fun σ H Q => Site H P pos qual ∧
  ∀ (f : Addr) (fd : FuncData) (H' : Hp), H f = none → (∀ b o, H b = some o → b ≠ P → H' b = some o) → Site H' P pos qual → LamAt H' f fd qual params body scope clos → Q (.ref f) H'
section
variable {X : Cx}
theorem pe_lam {params : Arguments} {body : Expr} {scope : Scope} {pos : Pos} {c P : Addr} {qual : Str} (hcode : X.env.code = .ref c) (hK : PySem.W.codeHdIn X.K c P = true) (hbm : BMain X.mg X.base) (hq : X.env.qual ++ "<lambda>" = qual)
    (hfree : ∀ y ∈ scope.names, y.2 = .free → ∃ c, X.env.cells.lookup y.1 = some c) (hdef : defaultsOf params X.env = ([], []) := by rfl) :
    PE X (.Lambda params body scope pos) (tLam P pos qual params body scope (cloFrom X.env.cells scope.names [])) := by
  subst hq
  intro pins s σ H Q I ⟨S, k⟩
  obtain ⟨ps, hHP, ht, hh⟩ := S.ex
  obtain ⟨bm, ob, b1, b2, b3, b4, b5, b6⟩ := hbm
  have hP : s.heap.get? P = some (PySem.W.tabObj ps) := I.hok P _ hHP
  have hgs : s.heap.Ns mainGlobals X.mg := I.mod.glob.keeps I.bk
  have hgP : mainGlobals ≠ P := fun q => by
    obtain ⟨o, es, ep, e, hd, _⟩ := hgs
    rw [q, hP] at e; cases e; cases hd
  have hbo := I.bk _ _ b3
  have hbP : bm ≠ P := fun q => by
    rw [q, hP] at hbo; cases hbo; cases b4
  have hbG : bm ≠ mainGlobals := fun q => by
    obtain ⟨o, es, ep, e, hd, _⟩ := hgs
    rw [q, e] at hbo; cases hbo; rw [hd] at b6; cases b6
  refine PySem.W.kla_eval hdef ?_
  rcases hh with hnf | ⟨c', oc, hf, hc', hco⟩
  · refine PySem.W.kla_makeFunction (mg := X.mg) (closure_ok hfree) I.ok.glob hgs hcode (PySem.W.codeHd_of_K I.kIn hK) hP ht hnf hgP ⟨bm, ob, b1, b2, hbG, hbP, hbo, b4, b5, b6⟩ fun c' ctv h' tk hx hge hlt hrec htb => ?_
    obtain ⟨c2, oc, vs, t, e2, hoc, hd, hv⟩ := hrec
    cases e2
    generalize hfo : lamOb (X.env.qual ++ "<lambda>") params body scope (cloFrom X.env.cells scope.names []) ((X.mg "__name__").getD .none) (.ref c') ctv = fo
    show EP X pins σ Q (.ref h'.objs.size) { s with heap := h'.push (lamOb (X.env.qual ++ "<lambda>") params body scope (cloFrom X.env.cells scope.names []) ((X.mg "__name__").getD .none) (.ref c') ctv), toks := tk }
    rw [hfo]
    have hHc : H c' = none := I.hok.fresh hge
    have hHf : H h'.objs.size = none := I.hok.fresh (Nat.le_trans hge (Nat.le_of_lt hlt))
    have nPc : P ≠ c' := ne_of_none hHP hHc
    have nPf : P ≠ h'.objs.size := ne_of_none hHP hHf
    have ncf : c' ≠ h'.objs.size := Nat.ne_of_lt hlt
    have ps' : ∃ ps', ps' = ps ++ #[rawInt pos.line, rawInt pos.col, .ref c'] := ⟨_, rfl⟩
    obtain ⟨ps', eps⟩ := ps'
    rw [← eps] at htb
    have at_ : ∀ b o, H b = some o → b ≠ P → (upd (upd (upd H P (.tbl ps')) c' (kno oc)) h'.objs.size (kno fo)) b = some o := fun b o e z => by
      rw [upd_ne (ne_of_none e hHf), upd_ne (ne_of_none e hHc), upd_ne z]
      exact e
    have no_ : ∀ b o, s.heap.get? b = some o → H b = none → (upd (upd (upd H P (.tbl ps')) c' (kno oc)) h'.objs.size (kno fo)) b = none := fun b o e z => by
      have l := Heap.lt_size e
      rw [upd_ne (Nat.ne_of_lt (Nat.lt_trans (Nat.lt_of_lt_of_le l hge) hlt)), upd_ne (Nat.ne_of_lt (Nat.lt_of_lt_of_le l hge)), upd_ne (ne_of_none hHP z).symm]
      exact z
    have atP : (upd (upd (upd H P (.tbl ps')) c' (kno oc)) h'.objs.size (kno fo)) P = some (.tbl ps') := by rw [upd_ne nPf, upd_ne nPc, upd_same]
    have atc : (upd (upd (upd H P (.tbl ps')) c' (kno oc)) h'.objs.size (kno fo)) c' = some (kno oc) := by rw [upd_ne ncf, upd_same]
    have kp : ∀ b o, b ≠ P → s.heap.get? b = some o → (h'.push fo).get? b = some o := fun b o z e => Heap.get?_push_of_some _ (hx b o z e)
    have un : Un X.fs [] H (upd (upd (upd H P (.tbl ps')) c' (kno oc)) h'.objs.size (kno fo)) s.heap (h'.push fo) := by
      refine ⟨fun b o e n _ _ => kp b o (ne_of_none hHP n).symm e, fun b o e n _ _ => ⟨o.slots, kp b o (ne_of_none hHP n).symm e⟩, fun b o e n _ => no_ b o e n, fun b o e _ => ?_, fun b xs q => at_ b _ q (ne_of q hHP (by intro y; cases y)), fun b o u q => at_ b _ q (ne_of q hHP (by intro y; cases y)), fun b qs q => ?_⟩
      · by_cases z : b = P
        · exact ⟨_, z ▸ Heap.get?_push_of_some _ htb⟩
        · exact ⟨o, kp b o z e⟩
      · by_cases z : b = P
        · subst z
          rw [hHP] at q
          cases q
          exact ⟨_, by rw [atP, eps]⟩
        · exact ⟨#[], by rw [at_ b _ q z]; simp⟩
    have ok : HOk X.prog X.w (upd (upd (upd H P (.tbl ps')) c' (kno oc)) h'.objs.size (kno fo)) (h'.push fo) := fun a o q => by
      by_cases z1 : a = h'.objs.size
      · subst z1
        rw [upd_same] at q
        cases q
        exact kno_ok (Heap.get?_push_size _ (by rw [← hfo]; rfl))
      · rw [upd_ne z1] at q
        by_cases z2 : a = c'
        · subst z2
          rw [upd_same] at q
          cases q
          exact kno_ok (Heap.get?_push_of_some _ hoc)
        · rw [upd_ne z2] at q
          by_cases z3 : a = P
          · subst z3
            rw [upd_same] at q
            cases q
            exact Heap.get?_push_of_some _ htb
          · rw [upd_ne z3] at q
            refine (I.hok a o q).stay (fun b u hb e => kp b u ?_ e) (fun b z => at_ b _ z (ne_of z hHP (by intro y; cases y))) fun b xs z => at_ b _ z (ne_of z hHP (by intro y; cases y))
            rcases hb with hb | hb
            · rw [hb]; exact z3
            · exact ne_of hb hHP (by intro y; cases y)
    have hco : CodeOb (X.env.qual ++ "<lambda>") oc := ⟨vs, t, hd, hv⟩
    refine ⟨.ref h'.objs.size, _, I.un (t' := tk) un ok, rfl, k _ (lamFd (X.env.qual ++ "<lambda>") params body scope (cloFrom X.env.cells scope.names []) ((X.mg "__name__").getD .none) (.ref c') ctv) _ hHf at_ ⟨ps', atP, ?_, .inr ⟨c', oc, ?_, atc, hco⟩⟩ ⟨_, ctv, c', oc, rfl, by rw [upd_same, ← hfo], atc, hco⟩⟩
    · rw [eps, Array.toList_append]
      exact TriplesOk_snoc _ _ _ _ ht
    · rw [eps, Array.toList_append]
      exact codeAmong_snoc _ ht hnf
  · refine PySem.W.kla_makeFunctionHit (mg := X.mg) (closure_ok hfree) I.ok.glob hgs hcode (PySem.W.codeHd_of_K I.kIn hK) hP ht hf ⟨bm, ob, b1, b2, hbG, hbP, hbo, b4, b5, b6⟩ fun ctv h' tk hk hsz => ?_
    have hHf : H h'.objs.size = none := I.hok.fresh hsz
    have kp : ∀ b o, s.heap.get? b = some o → (h'.push (lamOb (X.env.qual ++ "<lambda>") params body scope (cloFrom X.env.cells scope.names []) ((X.mg "__name__").getD .none) (.ref c') ctv)).get? b = some o := fun b o e => Heap.get?_push_of_some _ (hk b o e)
    have at_ : ∀ b o, H b = some o → (upd H h'.objs.size (kno (lamOb (X.env.qual ++ "<lambda>") params body scope (cloFrom X.env.cells scope.names []) ((X.mg "__name__").getD .none) (.ref c') ctv))) b = some o := fun b o e => by
      rw [upd_ne (ne_of_none e hHf)]
      exact e
    refine ⟨.ref h'.objs.size, _, I.laid (t' := tk) kp hsz (kno_ok (Heap.get?_push_size _ rfl)), rfl, k _ (lamFd (X.env.qual ++ "<lambda>") params body scope (cloFrom X.env.cells scope.names []) ((X.mg "__name__").getD .none) (.ref c') ctv) _ hHf (fun b o e _ => at_ b o e) ⟨ps, at_ _ _ hHP, ht, .inr ⟨c', oc, hf, at_ _ _ hc', hco⟩⟩ ⟨_, ctv, c', oc, rfl, upd_same, at_ _ _ hc', hco⟩⟩
end
end L2
end
section
set_option Elab.async false
set_option linter.all false
set_option maxRecDepth 100000
set_option maxHeartbeats 2000000
/-! The call of a lambda of one parameter y that captures one name x. -/
namespace L2
open PySem PySem.Spec PyProof.Rows
/-- the scope of such a lambda -/
structure LamScope (y x : Str) (sc : Scope) : Prop where
  kind : sc.kind = .function
  co : sc.isCoroutine = false
  gen : sc.isGenerator = false
  ne : y ≠ x
  par : sc.names.lookup y = some .local
  cap : sc.names.lookup x = some .free
  nocell : ∀ z ∈ sc.names, z.2 ≠ .cell
  only : ∀ z ∈ sc.names, z.2 = .free → z.1 = x
def cxLam (P : Program) (w : World) (K : PySem.W.Frag) (mg : Str → Option Value) (base : Heap) (y x qual : Str) (scope : Scope) (f : Addr) (cd : Value) (c : Addr) (A : Around) (outer : List Env) (s : Shared) (H0 : Hp) : Cx where
  prog := P
  w := w
  K := K
  mg := mg
  base := base
  A := A.deeper (PySem.W.envX qual scope s.heap.objs.size f cd [(x, c)])
  N := [y, x]
  s_0 := s
  H_0 := H0
  env := PySem.W.envX qual scope s.heap.objs.size f cd [(x, c)]
  outer := outer
  stack := PySem.W.envX qual scope s.heap.objs.size f cd [(x, c)] :: outer
  ex := []
  calm := true
  fn := fun _ => false
  pn := []
  xe := fun _ _ => False
theorem lookup_one {α : Type} {x z : Str} {c d : α} (e : ([(x, c)] : List (Str × α)).lookup z = some d) : z = x ∧ d = c := by
  rw [List.lookup_cons] at e
  cases hb : z == x with
  | true =>
    rw [hb] at e
    cases e
    exact ⟨beq_iff_eq.mp hb, rfl⟩
  | false =>
    rw [hb] at e
    cases e
theorem lookup_one_self {α : Type} (x : Str) (c : α) : ([(x, c)] : List (Str × α)).lookup x = some c := by
  rw [List.lookup_cons, beq_self_eq_true]
section
variable {P : Program} {w : World} {K : PySem.W.Frag} {mg : Str → Option Value} {base : Heap}
theorem lam_start {y x qual : Str} {scope : Scope} {f c : Addr} {cd : Value} {A : Around} {outer : List Env} {s : Shared} {H : Hp} {o : Obj} {u u1 : Value} {v v1 : V} {h1 : Heap}
    (S : LamScope y x scope) (hd : A.handled = none) (e0 : Env0 P w K mg base A outer s H) (hc : H c = some (kno o)) (hod : o.data = .cell (some u)) (rv : RelV v u) (rv1 : RelV v1 u1)
    (hns : h1.Ns s.heap.objs.size (fun z => ([(y, u1)] : List (Str × Value)).reverse.lookup z)) (hk : ∀ b o, s.heap.get? b = some o → h1.get? b = some o) (tk : Nat) :
    Inv (cxLam P w K mg base y x qual scope f cd c A outer s (del H c)) [] [some v1, some v] (del H c) { s with heap := h1, toks := tk } := by
  have hoc := kno_at e0.hok hc
  have noA : ∀ b : Addr, b ∉ (cxLam P w K mg base y x qual scope f cd c A outer s (del H c)).ex := fun b z => absurd (show b ∈ ([] : List Addr) from z) (by simp)
  have dn : ∀ {b : Addr}, H b = none → del H c b = none := fun {b} e => by
    by_cases z : b = c
    · rw [z, del_same]
    · rw [del_ne z]; exact e
  have cl : ∀ z d, (PySem.W.envX qual scope s.heap.objs.size f cd [(x, c)]).cells.lookup z = some d → z = x ∧ d = c := fun z d e => lookup_one e
  refine ⟨⟨e0.mod, S.kind, rfl, rfl, Nat.le_refl _, fun z z' d h1 h2 => ?_, fun z hz => ?_, fun z d h => Bool.noConfusion (show false = true from h), fun _ => hd, Around.frames_deeper e0.frames, .inr ⟨rfl, rfl⟩, fun b z => absurd z (noA b), fun b o e => ⟨(e0.bs b o e).1, dn (e0.bs b o e).2⟩, e0.bsz, fun b _ _ => noA b, fun b z => absurd z (noA b), e0.funs, fun b hb => dn (e0.frf b hb)⟩,
    rfl, e0.bare, Un.kept hk, ⟨_, hns, fun i z d h1 h2 h3 => ?_⟩, fun z d h => ?_, dn (e0.hok.fresh (Nat.le_refl _)), fun z d h => ?_, fun p hp => absurd (show p ∈ ([] : List (Addr × Obj)) from hp) (by simp), (e0.hok.del hc).kept hk, rfl⟩
  · exact (cl z d h1).1.trans (cl z' d h2).1.symm
  · have hz : scope.names.lookup z = some .cell ∨ scope.names.lookup z = some .free := hz
    rcases hz with q | q
    · exact absurd rfl (S.nocell _ (PySem.mem_of_lookup q))
    · have e := S.only _ (PySem.mem_of_lookup q) rfl
      have e : z = x := e
      subst e
      exact ⟨c, lookup_one_self _ _⟩
  · have h1 : [y, x][i]? = some z := h1
    have h2 : [some v1, some v][i]? = some (some d) := h2
    match i, h1, h2 with
    | 0, h1, h2 =>
      cases h1
      cases h2
      exact ⟨u1, rv1, .inl ⟨S.par, lookup_one_self _ _⟩⟩
    | 1, h1, h2 =>
      cases h1
      cases h2
      exact ⟨u, rv, .inr ⟨.inr S.cap, c, lookup_one_self _ _, o, hk _ _ hoc, hod⟩⟩
    | i + 2, h1, _ => simp at h1
  · obtain ⟨rfl, rfl⟩ := cl z d h
    exact ⟨_, o, hk _ _ hoc, hod⟩
  · obtain ⟨rfl, rfl⟩ := cl z d h
    exact del_same
/-- THE RULE for a lambda: its body as a term of rules, and the reading of that term, without the cell -/
theorem lam_of {y x qual : Str} {params : Arguments} {body : Expr} {scope : Scope} {pm ctv : Value} {cc c f : Addr} {k : Nat} {sp : Sp} (S : LamScope y x scope)
    (len : ∀ vs H Q E, sp vs H Q E → vs.length = 1)
    (at_ : ∀ vs H Q E, sp vs H Q E → H f = some (kno (lamOb qual params body scope [(x, c)] pm (.ref cc) ctv)) ∧ (∃ oc, H cc = some (kno oc) ∧ CodeOb qual oc) ∧ ∃ o v u, H c = some (kno o) ∧ o.data = .cell (some u) ∧ RelV v u)
    (hbody : ∀ (A : Around) (outer : List Env) (s : Shared) (H : Hp) (v1 : V) (Q : VK) (E : XK), Room k (A.deeper (PySem.W.envX qual scope s.heap.objs.size f (.ref cc) [(x, c)])) → sp [v1] H Q E → ∀ o v u, H c = some (kno o) → o.data = .cell (some u) → RelV v u →
      ∃ t, PE (cxLam P w K mg base y x qual scope f (.ref cc) c A outer s (del H c)) body t ∧ t [some v1, some v] (del H c) (fun z H' => H' c = none → Q z (upd H' c (kno o)))) :
    FnOk P w K mg base CX0 (k + 1) f (lamFd qual params body scope [(x, c)] pm (.ref cc) ctv) [y] sp := by
  refine ⟨len, fun A outer s H args us vs Q E hr e0 hb r hsp => ?_⟩
  have hl := len _ _ _ _ hsp
  obtain ⟨v1, rfl⟩ : ∃ v1, vs = [v1] := by
    match vs, hl with
    | [v1], _ => exact ⟨v1, rfl⟩
  obtain ⟨u1, rfl, rv1⟩ := vals1 r
  obtain ⟨hf, ⟨oc, hcc, vs', t', hd', hv'⟩, o, v, u, hc, hod, rv⟩ := at_ _ _ _ _ hsp
  have lim : s.heap.NoLimit := e0.mod.nolimit.keeps fun b o e => (e0.bs b o e).1
  refine PySem.W.kla_callFunE hr.depth (kno_at e0.hok hf) rfl S.co S.gen rfl ⟨cc, oc, vs', t', rfl, kno_at e0.hok hcc, hd', hv'⟩ (hb _ _ _ _ ?_)
  refine wpAny_newFunctionEnv S.nocell (fun z hz => ?_) (fun h1 hns hsb => ⟨lim.fresh _ hsb, ?_⟩) S.kind
  · have hz : z ∈ [(y, u1)] := hz
    rw [List.mem_singleton.mp hz]
    exact S.par
  show codeAny _ _ (.expr body (PySem.W.envX qual scope s.heap.objs.size f (.ref cc) [(x, c)])) _ _
  have hk : ∀ b o, s.heap.get? b = some o → h1.get? b = some o := fun b o e => hsb.extBut b o (Nat.ne_of_lt (Heap.lt_size e)) (Heap.get?_push_of_some _ e)
  obtain ⟨t, ht, hq⟩ := hbody A outer s H v1 Q E (hr.deeper _) hsp o v u hc hod rv
  have I := lam_start (qual := qual) (f := f) (cd := .ref cc) S hr.hd e0 hc hod rv rv1 hns hk (s.toks + [(y, u1)].length)
  have hcfs : c ∉ frs outer := fun z => by
    have := e0.frf c z
    rw [hc] at this
    cases this
  refine PySem.W.kla_codeExpr (wpAny_mono (ht [] _ _ _ _ I hq) (fun v' s' hs => ?_) fun e s' hs => False.elim hs)
  obtain ⟨z, H', J, rz, q⟩ := hs
  have jb : Un (frs outer) [] (del H c) H' s.heap s'.heap := J.base
  have hoc := kno_at e0.hok hc
  exact ⟨z, upd H' c (kno o), J.os, J.bare, jb.within hc, J.hok.put (jb.free c o hoc del_same (by simp)) (jb.keep c o hoc del_same hcfs (by simp)), rz, q (jb.free c o hoc del_same (by simp))⟩
end
end L2
end
section
set_option Elab.async false
set_option linter.all false
set_option maxRecDepth 100000
set_option maxHeartbeats 2000000
/-! Calls while the cell of a captured name is tracked; the call of a name's value. -/
namespace L2
open PySem PySem.Spec PyProof.Rows
/-- the cell of a name -/
abbrev Cx.cl (X : Cx) (x : Str) : Addr := (X.env.cells.lookup x).getD 0
section
variable {X : Cx} {k : Nat} {f C : Addr} {fd : FuncData} {ps : List Str} {sp : Sp} {x m : Str} {p pos apos : Pos} {e o : Expr} {es : List Expr} {ta : TE} {t : TA} {pins : List (Addr × Obj)} {σ : St} {H : Hp} {s : Shared}
theorem Inv.cellOut (I : Inv X pins σ H s) {c : Addr} (hc : X.env.cells.lookup x = some c) (hf : X.fn x = true) : c ∉ frs X.stack ∧ X.base.get? c = none := by
  have h1 := I.ok.cab x c hf hc
  refine ⟨fun z => ?_, Heap.get?_none_of_le (Nat.le_trans I.ok.bsz h1)⟩
  rcases List.mem_cons.mp (I.stkSub c z) with e | hb
  · exact I.cne x c hc e
  · obtain ⟨_, o, ho, _⟩ := I.ok.funs.mem hb
    exact absurd (Nat.lt_of_lt_of_le (Heap.lt_size ho) h1) (Nat.lt_irrefl _)
theorem Inv.env0C (I : Inv X pins σ H s) {c : Addr} {o : Obj} (hc : X.env.cells.lookup x = some c) (hf : X.fn x = true) (ho : s.heap.get? c = some o) : Env0 X.prog X.w X.K X.mg X.base X.A X.stack s (upd H c (kno o)) := by
  obtain ⟨h1, h2⟩ := I.cellOut hc hf
  have e := I.env0
  refine ⟨e.frames, e.mod, fun b u q => ⟨(e.bs b u q).1, ?_⟩, e.bsz, e.funs, fun b hb => ?_, I.hok.put (I.freeC x c hc) ho, e.bare⟩
  · rw [upd_ne (fun z => by rw [z, h2] at q; cases q)]
    exact (e.bs b u q).2
  · rw [upd_ne (fun z => h1 (by rw [← z]; exact hb))]
    exact e.frf b hb
/-- behind it -/
theorem Inv.afterC {Q : VK} {u : Value} {s' : Shared} {c : Addr} {o : Obj} (I : Inv X pins σ H s) (hc : X.env.cells.lookup x = some c) (hf : X.fn x = true) (ho : s.heap.get? c = some o) (h : CE X.stack X.prog X.w (upd H c (kno o)) s (fun v H' => Q v (del H' c)) u s') : EP X pins σ Q u s' := by
  obtain ⟨v, H', os, bare, un, hok, r, q⟩ := h
  exact I.after ⟨v, del H' c, os, bare, un.without (I.freeC x c hc) ho hok (I.cellOut hc hf).1, hok.del (un.frzs c _ _ upd_same), r, q⟩
theorem run_fnC {Q : VK} {us : List Value} {vs : List V} {c : Addr} {ob : Obj} (F : FnOk X.prog X.w X.K X.mg X.base CX0 k f fd ps sp) (hr : Room k X.A) (hb : Binds X.K fd ps []) (I : Inv X pins σ H s) (r : Vals vs us)
    (hc : X.env.cells.lookup x = some c) (hf : X.fn x = true) (ho : s.heap.get? c = some ob) (h : sp vs (upd H c (kno ob)) (fun v H' => Q v (del H' c)) E0) : wpAny (model X.prog X.w) X.A (call (.ref f) us) (EP X pins σ Q) X.xe s := by
  have hl : (us ++ []).length = ps.length := by rw [List.append_nil, ← r.length]; exact F.len _ _ _ _ h
  refine wpAny_call (codeAny_mono (F.run X.A X.stack s _ ⟨us, []⟩ us vs _ E0 hr (I.env0C hc hf ho) (by have := hb s us I.kIn hl; rw [List.append_nil] at this; exact this) r h) fun r s' hq => ?_)
  cases r with
  | error e => exact False.elim hq
  | ok fl =>
    cases fl with
    | ret u => exact I.afterC hc hf ho hq
    | next => exact False.elim hq
    | brk => exact False.elim hq
    | cont => exact False.elim hq
/-- the cell of a captured name holds the name's value -/
theorem Inv.cellIs (I : Inv X pins σ H s) {i : Nat} {v : V} (hN : X.N[i]? = some x) (hk : X.env.scope.names.lookup x = some .cell) (e : σ[i]? = some (some v)) : ∃ o u, X.env.cells.lookup x = some (X.cl x) ∧ s.heap.get? (X.cl x) = some o ∧ o.data = .cell (some u) ∧ RelV v u := by
  obtain ⟨mm, _, hl⟩ := I.loc
  obtain ⟨u, rv, l⟩ := hl i x v hN e (.inr (.inl hk))
  rcases l with ⟨q, _⟩ | ⟨_, c, hc, o, ho, hd⟩
  · have q : X.env.scope.names.lookup x = some .local := q
    rw [hk] at q
    cases q
  · have ec : X.cl x = c := by unfold Cx.cl; rw [hc]; rfl
    exact ⟨o, u, by rw [ec]; exact hc, by rw [ec]; exact ho, hd, rv⟩
/-- o.m(e, ..) while the cell of x (in slot i) is tracked -/
def tMethC (C : Addr) (m : Str) (sp : Sp) (c : Addr) (i : Nat) (ta : TE) (t : TA) : TE := fun σ H Q => ta σ H fun x H1 => ∃ a dx fs, x = .ref a ∧ H1 a = some (.ins C dx fs) ∧ fs.lookup m = none ∧
  t σ H1 fun vs H2 => ∃ v, σ[i]? = some (some v) ∧ ∀ (o : Obj) (u : Value), o.data = .cell (some u) → RelV v u → H2 c = none → sp (x :: vs) (upd H2 c (kno o)) (fun z H' => Q z (del H' c)) E0
theorem pe_methC {pl : Sem Bool} {i : Nat} (hN : X.N[i]? = some x) (hk : X.env.scope.names.lookup x = some .cell) (hf : X.fn x = true) (he : PE X o ta) (c : Cls X.K C) (hm : Meth X.K C m f) (F : FnOk X.prog X.w X.K X.mg X.base CX0 k f fd ps sp) (hr : Room k X.A) (hb : Binds X.K fd ps []) (ha : PA X (e :: es) t)
    (hst : starEach (e :: es) X.env = (false, eval e X.env) :: starEach es X.env := by rfl) (hpl : (backTo pos (starEach es X.env)).any (·.1) = false := by rfl)
    (ht : eval (.Call (.Attribute o m apos) (e :: es) [] pos) X.env = (do
      let ov ← eval o X.env
      standAt apos.atName
      let (f, first) ← holding [ov] (getMethod ov m pl)
      callWith pos f first (backTo pos (starEach (e :: es) X.env)) (backToKw pos (keywordEach [] X.env))) := by rfl) :
    PE X (.Call (.Attribute o m apos) (e :: es) [] pos) (tMethC C m sp (X.cl x) i ta t) := by
  intro pins s σ H Q I h
  refine PySem.W.methodCall_KW (pl := pl) (thn (he pins s σ H _ I h) fun u s1 ⟨z, H1, I1, rx, a, dx, fs, ex, ea, l, q⟩ => ?_) ht
  subst ex
  obtain rfl : u = Value.ref a := rx
  refine getmeth_ok I1 ea c hm l ?_
  refine PySem.W.callWith_K (first := [.ref a]) (h₀ := X.base) I.ok.mod.kin hm.kp (thn (ha pos pins s1 σ H1 _ I1 q) fun us s2 ⟨vs, H2, I2, r, v, e2, q2⟩ => ⟨I2.kIn, ?_⟩) hst hpl
  obtain ⟨oc, uc, h1, h2, h3, h4⟩ := I2.cellIs hN hk e2
  exact run_fnC (us := .ref a :: us) (vs := .ref a :: vs) F hr hb I2 (.cons rfl r) h1 hf h2 (q2 oc uc h3 h4 (I2.freeC x _ h1))
/-- f(e, ..), f the value of the name in slot i: a function that is known -/
def tCallV (P : Program) (w : World) (K : PySem.W.Frag) (mg : Str → Option Value) (base : Heap) (k : Nat) (i : Nat) (t : TA) : TE := fun σ H Q => ∃ f, σ[i]? = some (some (.ref f)) ∧ t σ H fun vs H1 => ∃ (ob : Obj) (fd0 fd : FuncData) (ps : List Str) (sp : Sp), H1 f = some (kno ob) ∧ ob.data = .func fd0 ∧
  FnOk P w K mg base CX0 k f fd ps sp ∧ Binds K fd ps [] ∧ sp vs H1 Q E0
theorem pe_callV {i : Nat} (hv : PE X (.Name x p) (tVar i)) (hr : Room k X.A) (ha : PA X (e :: es) t)
    (hst : starEach (e :: es) X.env = (false, eval e X.env) :: starEach es X.env := by rfl) (hpl : (backTo pos (starEach es X.env)).any (·.1) = false := by rfl) :
    PE X (.Call (.Name x p) (e :: es) [] pos) (tCallV X.prog X.w X.K X.mg X.base k i t) := by
  intro pins s σ H Q I h
  obtain ⟨f, ef, h⟩ := h
  refine wpAny_Call_Name_kw (thn (hv pins s σ H (fun z H' => z = .ref f ∧ H' = H) I ⟨_, ef, rfl, rfl⟩) fun u s1 ⟨z, H1, I1, rz, ez, eH⟩ => ?_)
  subst ez eH
  obtain rfl : u = Value.ref f := rz
  show wpAny _ _ (callWith pos (.ref f) [] (backTo pos (starEach (e :: es) X.env)) []) _ _ _
  rw [hst]
  refine PySem.W.callWith_of (P := fun hh => ∃ ob fd0, hh.get? f = some ob ∧ ob.data = .func fd0) (first := []) (by show ((false || (backTo pos (starEach es X.env)).any (·.1)) || false) = false; rw [hpl]; rfl) (fun hh ⟨ob, fd0, e1, e2⟩ => ?_) (Calls.evalArgs_plain (by
    have hha := ha pos pins s1 σ H1 _ I1 h
    rw [hst] at hha
    exact thn hha fun us s2 ⟨vs, H2, I2, r, ob, fd0, fd, ps, sp, q1, q2, F, hb, q3⟩ => ⟨⟨ob, fd0, kno_at I2.hok q1, q2⟩, run_fn (E := E0) (dvs := []) (ds := []) F hr hb .nil pass0 I2 r (by rw [List.append_nil]; exact q3)⟩))
  obtain ⟨a1, a2, a3, a4⟩ := ob
  cases e2
  exact ⟨.frame, .inl rfl, (PySem.W.Looks.ld (part := none) e1).andThen .now⟩
end
end L2
end
section
set_option Elab.async false
set_option linter.all false
set_option maxRecDepth 100000
set_option maxHeartbeats 2000000
/-! sorted(range(n), key=f): over any heap, the key a function of the text. -/
namespace L2
open PySem PySem.Spec PyProof.Rows
theorem paired_of_get {α β : Type} {F : α → β → Prop} : ∀ {l₁ : List α} {l₂ : List β}, l₁.length = l₂.length → (∀ (i : Nat) (a : α) (b : β), l₁[i]? = some a → l₂[i]? = some b → F a b) → Paired F l₁ l₂
  | [], [], _, _ => .nil
  | a :: l₁, b :: l₂, hl, h => .cons (h 0 a b rfl rfl) (paired_of_get (by simpa using hl) fun i x y e1 e2 => h (i + 1) x y (by simpa using e1) (by simpa using e2))
def natI (n : Nat) : List Int := (List.range n).map fun (i : Nat) => (i : Int)
theorem natI_at {n i : Nat} (h : i < n) : (natI n)[i]? = some (i : Int) := by
  unfold natI
  rw [List.getElem?_map, List.getElem?_range h]
  rfl
theorem natI_len (n : Nat) : (natI n).length = n := by unfold natI; rw [List.length_map, List.length_range]
section
variable {prog : Program} {w : World} {A : Around} {E : Value → Shared → Prop} {s : Shared}
theorem collect_range {r : Addr} {n : Nat} {t u v : Tok} {Q : List Value → Shared → Prop} (hh : A.handled = none) (hr : IsRange s.heap r 0 (n : Int) 1 t u v) (hn : n ≤ 1000)
    (hQ : ∀ h' tk vs, (∀ b o, s.heap.get? b = some o → h'.get? b = some o) → s.heap.objs.size ≤ h'.objs.size → IntsAre vs (natI n) → Q vs { s with heap := h', toks := tk }) : wpAny (model prog w) A (collect (.ref r)) Q E s := by
  unfold collect
  refine wpAny_bind (wpAny_runValue (codeAny_builtin F.entry_proto_collect ?_))
  rw [Around.under_plainId F.plain_proto_collect _]
  show wpAny _ A.in1 (newList [] >>= fun l => again (.builtin "list.__iadd__" ⟨[l, .ref r], []⟩)) _ _ s
  refine wpAny_bind (wpAny_newObj_type ?_)
  refine wpAny_pure ⟨plainId_quiet F.plain_list_iadd _, codeAny_builtin F.entry_list_iadd ?_⟩
  rw [Around.under_plainId F.plain_list_iadd _]
  show wpAny _ A.in1 (Builtin.List.listExtendWith (.ref s.heap.objs.size) (.ref r) (.ref s.heap.objs.size)) _ _ _
  have e2 : Builtin.Range.rangeSize 0 (n : Int) 1 = ((n : Nat) : Int) := by rw [rangeSize_one]; split <;> omega
  have hS : (s.heap.push { cls := .type "list", data := .seq ([] : List Value).toArray }).get? s.heap.objs.size = some { cls := .type "list", data := .seq #[] 0 } := Heap.get?_push_size _ rfl
  have fin : ∀ h' tk acc' c', (∀ b o, b ≠ s.heap.objs.size → (s.heap.push { cls := .type "list", data := .seq ([] : List Value).toArray }).get? b = some o → h'.get? b = some o) → h'.get? s.heap.objs.size = some { cls := .type "list", dict := none, data := .seq acc' c', slots := #[] } →
      ItemsOf (fun i v => ∃ t, v = .int (0 + i * 1) t) acc' n → wpAny (model prog w) A (load s.heap.objs.size >>= fun o => match o.data with
        | .seq xs _ => pure xs.toList
        | _ => unsupported "internal:collect") Q E { s with heap := h', toks := tk } := fun h' tk acc' c' hk hS' hacc => by
    refine wpAny_bind (wpAny_load hS' ?_)
    refine wpAny_pure (hQ h' tk acc'.toList (fun b o e => hk b o (Nat.ne_of_lt (Heap.lt_size e)) (Heap.get?_push_of_some _ e)) (Nat.le_of_lt (Heap.lt_size hS')) (Vals.ints (paired_of_get ?_ fun i a b ea eb => ?_)))
    · rw [List.length_map, natI_len, Array.length_toList, hacc.1]
    · rw [Array.getElem?_toList] at eb
      obtain ⟨tt, rfl⟩ := hacc.2 i b eb
      have hi : i < n := by
        have := (Array.getElem?_eq_some_iff.mp eb).1
        rw [hacc.1] at this; exact this
      rw [List.getElem?_map, natI_at hi] at ea
      cases ea
      refine ⟨tt, ?_⟩
      congr 1
      omega
  refine wpAny_mono (wpAny_extend_range (R := fun r s' => r = .ok (.ret (.ref s.heap.objs.size)) ∧ wpAny (model prog w) A (load s.heap.objs.size >>= fun o => match o.data with
        | .seq xs _ => pure xs.toList
        | _ => unsupported "internal:collect") Q E s') (s := { s with heap := s.heap.push { cls := .type "list", data := .seq ([] : List Value).toArray } }) (A := A) (n := n) hh (Heap.get?_push_of_some _ hr) (small_one (by omega) (by omega) (by omega) (by omega)) e2 (by omega) _ _ 0 hS fun h' tk acc' c' hk hS' hacc => ⟨rfl, fin h' tk acc' c' hk hS' hacc⟩) (fun fi s' q => ?_) fun e s' q => by cases q.1
  cases fi with
  | done f =>
    obtain ⟨q1, q2⟩ := q
    cases q1
    exact q2
  | again c' =>
    refine ⟨q.1, codeAny_mono q.2 fun r s'' q' => ?_⟩
    obtain ⟨q1, q2⟩ := q'
    subst q1
    exact q2
end
/-- what a part of a built-in leaves: all that was there, its own new things apart -/
structure Mid (P : Program) (w : World) (outer : List Env) (H : Hp) (s s' : Shared) : Prop where
  os : s'.os = s.os
  bare : AllBare s'.gens
  un : Un (frs outer) [] H H s.heap s'.heap
  ok : HOk P w H s'.heap
section
variable {P : Program} {w : World} {K : PySem.W.Frag} {mg : Str → Option Value} {base : Heap} {A : Around} {outer : List Env} {s s' s'' : Shared} {H : Hp} {h'' : Heap}
theorem Mid.start (e : Env0 P w K mg base A outer s H) : Mid P w outer H s s := ⟨rfl, e.bare, Un.refl, e.hok⟩
theorem Mid.kept (m : Mid P w outer H s s') (k : ∀ b o, s'.heap.get? b = some o → h''.get? b = some o) {tk : Nat} : Mid P w outer H s { s' with heap := h'', toks := tk } := ⟨m.os, m.bare, m.un.trans (Un.kept k), m.ok.kept k⟩
/-- a new thing of its own, at a, is changed -/
theorem Mid.own (m : Mid P w outer H s s') {a : Addr} (ha : s.heap.objs.size ≤ a) (hH : H a = none) (k : ∀ b o, b ≠ a → s'.heap.get? b = some o → h''.get? b = some o) {tk : Nat} : Mid P w outer H s { s' with heap := h'', toks := tk } := by
  have ne : ∀ b o, s.heap.get? b = some o → b ≠ a := fun b o e => Nat.ne_of_lt (Nat.lt_of_lt_of_le (Heap.lt_size e) ha)
  refine ⟨m.os, m.bare, ⟨fun b o e n hb _ => k b o (ne b o e) (m.un.keep b o e n hb (by simp)), fun b o e n hb _ => ?_, m.un.free, fun b o e _ => ?_, m.un.tups, m.un.frzs, m.un.tbls⟩, fun b o e => ?_⟩
  · obtain ⟨sl, q⟩ := m.un.slot b o e n hb (by simp)
    exact ⟨sl, k b _ (ne b o e) q⟩
  · obtain ⟨o', q⟩ := m.un.there b o e (by simp)
    exact ⟨o', k b _ (ne b o e) q⟩
  · refine (m.ok b o e).stay (fun c v hc q => k c v ?_ q) (fun _ q => q) fun _ _ q => q
    rcases hc with z | z
    · rw [z]; exact ne_of_none e hH
    · exact ne_of_none z hH
theorem Mid.next (m : Mid P w outer H s s') (os : s''.os = s'.os) (bare : AllBare s''.gens) (un : Un (frs outer) [] H H s'.heap s''.heap) (ok : HOk P w H s''.heap) : Mid P w outer H s s'' := ⟨os.trans m.os, bare, m.un.trans un, ok⟩
end
/-- the keys' order: a permutation, sorted by the key -/
def ByKey (g : Nat → Int) (n : Nat) (is : List Nat) : Prop := is.Perm (List.range n) ∧ is.Pairwise fun a b => g a ≤ g b
section
variable {P : Program} {w : World} {K : PySem.W.Frag} {mg : Str → Option Value} {base : Heap} {A : Around} {outer : List Env} {s : Shared} {H : Hp} {E : Value → Shared → Prop}
/-- the sorting itself, the keys made -/
theorem sort_end {a kS : Addr} {e e1 n : Nat} {keys : Array Value} {vs : List Value} {g : Nat → Int} {s0 : Shared} {R : PySem.Fin → Shared → Prop} (m : Mid P w outer H s0 s) (ha : s0.heap.objs.size ≤ a) (hk : s0.heap.objs.size ≤ kS) (hHa : H a = none) (hHk : H kS = none) (hka : kS ≠ a)
    (hkS : s.heap.get? kS = some (seqObj "list" keys e)) (haS : s.heap.get? a = some (seqObj "list" #[] e1)) (hki : IntsAre keys.toList ((List.range n).map g)) (hvs : IntsAre vs (natI n)) (h64 : n < 64)
    (h : ∀ s' out c is, Mid P w outer H s0 s' → s'.heap.get? a = some (seqObj "list" out c) → Vals (is.map fun (i : Nat) => V.int i) out.toList → ByKey g n is → R (.done (.ret .none)) s') :
    wpAny (model P w) A (ksk_end a false vs.toArray e1 (.ref kS) keys) R E s := by
  have hlen : vs.length = n := by rw [hvs.length, natI_len]
  have hsz : keys.size = n := by
    have h1 := hki.length
    rw [Array.length_toList, List.length_map, List.length_range] at h1
    exact h1
  have hzs : (keys.zip vs.toArray).size = n := by rw [Array.size_zip, hsz, List.size_toArray, hlen, Nat.min_self]
  have tail : ∀ st : SortSt, (arrOf st).Perm (keys.zip vs.toArray) → SortedTo (arrOf st) (arrOf st).size → failedOf st = none → wpAny (model P w) A (ksk_tail a false e1 (.ref kS) st) R E s := by
    intro st hp hs hfl
    have hsz2 : (arrOf st).size = n := by rw [hp.size_eq, hzs]
    have s1 := Heap.SameBut.update s.heap kS (Obj.mapSeq fun _ => (#[] : Array Value))
    have na1 : (s.heap.update kS (Obj.mapSeq fun _ => (#[] : Array Value))).get? a = some (seqObj "list" #[] e1) := (s1.2 a hka.symm).trans haS
    have m1 := m.own (h'' := s.heap.update kS (Obj.mapSeq fun _ => (#[] : Array Value))) (tk := s.toks) hk hHk fun b o ne q => (s1.2 b ne).trans q
    have s2 := Heap.SameBut.update (s.heap.update kS (Obj.mapSeq fun _ => (#[] : Array Value))) a (Obj.mapSeq fun _ => (arrOf st).map (·.2))
    obtain ⟨c2, hc2⟩ : ∃ c2, ((s.heap.update kS (Obj.mapSeq fun _ => (#[] : Array Value))).update a (Obj.mapSeq fun _ => (arrOf st).map (·.2))).get? a = some (seqObj "list" ((arrOf st).map (·.2)) c2) := ⟨_, get?_update_seq na1 fun _ => (arrOf st).map (·.2)⟩
    have m2 := m1.own (h'' := (s.heap.update kS (Obj.mapSeq fun _ => (#[] : Array Value))).update a (Obj.mapSeq fun _ => (arrOf st).map (·.2))) (tk := s.toks) ha hHa fun b o ne q => (s2.2 b ne).trans q
    unfold ksk_tail
    try dsimp only
    refine wpAny_bind (listUpdate_at hkS rfl ?_ (by rw [hsz, sizeLine_eq]; omega) (Nat.zero_le _))
    refine wpAny_bind (wpAny_letGo ?_)
    refine wpAny_bind (seqEpoch_at na1 rfl ?_)
    refine wpAny_bind (listUpdate_at na1 rfl ?_ (Nat.zero_le _) (by simp only [Bool.false_eq_true, if_false, Array.size_map]; rw [hsz2, sizeLine_eq]; omega))
    rw [hfl]
    simp only [bne_self_eq_false, Bool.false_eq_true, if_false]
    obtain ⟨qs, hq1, hq2, hq3⟩ := ksk_out (b := false) hki hp hs
    simp only [Bool.false_eq_true, if_false] at hq2 hq3
    -- each pair is (g i, i)
    have hrel : ∀ p, p ∈ ((List.range n).map g).zip vs → ∃ (i : Nat) (t : Tok), i < n ∧ p.1 = g i ∧ p.2 = .int i t := by
      intro p hp'
      obtain ⟨j, hj⟩ := List.mem_iff_getElem?.mp hp'
      rw [List.getElem?_zip_eq_some] at hj
      obtain ⟨j1, j2⟩ := hj
      rw [List.getElem?_map] at j1
      have hj' : j < n := by
        have := (List.getElem?_eq_some_iff.mp j2).1
        rw [hlen] at this
        exact this
      rw [List.getElem?_range hj'] at j1
      obtain ⟨t, ht⟩ := hvs.get j (j : Int) (natI_at hj')
      rw [ht] at j2
      exact ⟨j, t, hj', (Option.some.inj j1).symm, (Option.some.inj j2).symm⟩
    have hrq : ∀ p, p ∈ qs → ∃ (i : Nat) (t : Tok), i < n ∧ p.1 = g i ∧ p.2 = .int i t := fun p hp' => hrel p (hq1.mem_iff.mp hp')
    have hnum : ∀ p, p ∈ qs → p.2 = p.2 ∧ p.1 = g (numOf p.2).toNat := fun p hp' => by
      obtain ⟨i, t, _, e1, e2⟩ := hrq p hp'
      refine ⟨rfl, ?_⟩
      rw [e1, e2]
      show g i = g ((i : Int)).toNat
      rw [Int.toNat_natCast]
    refine wpAny_pure (h _ _ c2 (qs.map fun p => (numOf p.2).toNat) m2 hc2 ?_ ⟨?_, ?_⟩)
    · rw [hq2]
      refine paired_of_get (by simp) fun i x y ex ey => ?_
      rw [List.getElem?_map, List.getElem?_map] at ex
      rw [List.getElem?_map] at ey
      cases eq : qs[i]? with
      | none => rw [eq] at ex; cases ex
      | some p =>
        rw [eq] at ex ey
        cases ex
        cases ey
        obtain ⟨j, t, _, _, e2⟩ := hrq p (List.mem_of_getElem? eq)
        show ∃ t, p.2 = Value.int (((numOf p.2).toNat : Nat) : Int) t
        rw [e2]
        exact ⟨t, by show Value.int (j : Int) t = Value.int (((j : Int).toNat : Nat) : Int) t; rw [Int.toNat_natCast]⟩
    · have h1 := (hq1.map fun p => (numOf p.2).toNat)
      refine h1.trans (List.Perm.of_eq ?_)
      have e2 : (((List.range n).map g).zip vs).map (fun p => (numOf p.2).toNat) = ((((List.range n).map g).zip vs).map Prod.snd).map fun v => (numOf v).toNat := by rw [List.map_map]; rfl
      rw [e2, List.map_snd_zip (by rw [List.length_map, List.length_range, hlen]; exact Nat.le_refl _)]
      have e3 : (vs.map fun v => (numOf v).toNat) = (vs.map numOf).map Int.toNat := by rw [List.map_map]; rfl
      rw [e3, hvs.nums]
      unfold natI
      rw [List.map_map]
      have e4 : (Int.toNat ∘ fun (i : Nat) => (i : Int)) = id := by funext i; simp
      rw [e4, List.map_id]
    · rw [List.pairwise_map]
      refine hq3.imp_of_mem fun {p q} hp' hq' hr => ?_
      rw [← (hnum p hp').2, ← (hnum q hq').2]
      exact hr
  unfold ksk_end
  try dsimp only
  simp only [Bool.false_eq_true, if_false]
  by_cases h2 : vs.toArray.size < 2
  · rw [if_pos h2, if_pos h2]
    refine wpAny_bind (wpAny_pure ?_)
    rw [StateT.run_pure]
    refine wpAny_bind (wpAny_pure ?_)
    try dsimp only
    refine tail (SortSt.mk' general' (keys.zip vs.toArray) #[] 7 none) (Array.Perm.refl _) ?_ rfl
    intro i j hij hj
    have hj2 : j < (keys.zip vs.toArray).size := hj
    rw [hzs] at hj2
    rw [List.size_toArray, hlen] at h2
    have : i = j := by omega
    subst this
    exact Int.le_refl _
  · rw [if_neg h2, if_neg h2]
    rw [List.size_toArray, hlen] at h2
    rw [ksk_kind hki (by rw [hsz]; omega)]
    refine wpAny_bind (wpAny_pure ?_)
    refine wpAny_bind (wpAny_mono (wpS_sortRuns (a₀ := keys.zip vs.toArray) (st := SortSt.mk' oneType' (keys.zip vs.toArray) #[] 7 none)
      (Q := fun _ st' => (arrOf st').Perm (keys.zip vs.toArray) ∧ failedOf st' = none ∧ SortedTo (arrOf st') (keys.zip vs.toArray).size)
      (ksk_intKeys hki) ⟨Array.Perm.refl _, rfl, rfl, rfl⟩ (by rw [hzs]; omega) (by rw [hzs]; exact h64) fun st' a1 a2 a3 => ⟨a1, a2, a3⟩) ?_ fun _ _ e => e)
    rintro ⟨⟨⟩, st'⟩ s' ⟨rfl, hp, hf, hs⟩
    try dsimp only
    exact tail st' hp (by rw [hp.size_eq]; exact hs) hf
end
end L2
end
section
set_option Elab.async false
set_option linter.all false
set_option maxRecDepth 100000
set_option maxHeartbeats 2000000
namespace L2
open PySem PySem.Spec PyProof.Rows
section
variable {P : Program} {w : World} {K : PySem.W.Frag} {mg : Str → Option Value} {base : Heap} {A : Around} {outer : List Env} {s : Shared} {H : Hp} {E : Value → Shared → Prop}
/-- the keys, one by one, then the sorting -/
theorem sort_tree {a f b0 : Addr} {n k : Nat} {vs : List Value} {g : Nat → Int} {s0 : Shared} {fd : FuncData} {y : Str} {sp : Sp} {R : PySem.Fin → Shared → Prop} (e0 : Env0 P w K mg base A outer s0 H) (hz : base.objs.size ≤ b0) (hb0 : ∃ o, s0.heap.get? b0 = some o) (hr : Room k A) (F : FnOk P w K mg base CX0 k f fd [y] sp) (hB : Binds K fd [y] [])
    (hsp : ∀ j, j < n → sp [.int (j : Nat)] H (fun z H' => z = .int (g j) ∧ H' = H) E0)
    (m : Mid P w outer H s0 s) (ha : s0.heap.objs.size ≤ a) (haS : s.heap.get? a = some (seqObj "list" vs.toArray 0)) (hvs : IntsAre vs (natI n)) (h64 : n < 64)
    (h : ∀ s' out c is, Mid P w outer H s0 s' → s'.heap.get? a = some (seqObj "list" out c) → Vals (is.map fun (i : Nat) => V.int i) out.toList → ByKey g n is → R (.done (.ret .none)) s') :
    wpAny (model P w) A (ksk_tree a (.ref f) false) R E s := by
  have hlen : vs.length = n := by rw [hvs.length, natI_len]
  have hHa : H a = none := e0.hok.fresh ha
  have nofr : ∀ b, s0.heap.objs.size ≤ b → b ∉ frs outer := fun b hb z => by
    obtain ⟨_, o, ho, _⟩ := e0.funs.mem z
    exact absurd (Nat.lt_of_lt_of_le (Heap.lt_size ho) hb) (Nat.lt_irrefl _)
  have s1 := Heap.SameBut.update s.heap a (Obj.mapSeq fun _ => (#[] : Array Value))
  obtain ⟨e1, ho1⟩ : ∃ e1, (s.heap.update a (Obj.mapSeq fun _ => (#[] : Array Value))).get? a = some (seqObj "list" #[] e1) := ⟨_, get?_update_seq haS fun _ => #[]⟩
  have m1 := m.own (h'' := s.heap.update a (Obj.mapSeq fun _ => (#[] : Array Value))) (tk := s.toks) ha hHa fun b o ne q => (s1.2 b ne).trans q
  have asz : a < s.heap.objs.size := Heap.lt_size haS
  unfold ksk_tree
  refine wpAny_bind (listItems_at haS rfl ?_)
  refine wpAny_bind (listUpdate_at haS rfl ?_ (by rw [List.size_toArray, sizeLine_eq]; omega) (Nat.zero_le _))
  refine wpAny_bind (seqEpoch_at ho1 rfl ?_)
  refine wpAny_bind (wpAny_newTuple ?_ (by show vs.length ≤ _; rw [sizeLine_eq]; omega))
  refine wpAny_bind (wpAny_newList ?_ (Nat.zero_le _))
  refine wpAny_holding ?_
  have hh2 : ∃ h2, h2 = ((s.heap.update a (Obj.mapSeq fun _ => (#[] : Array Value))).push (seqObj "tuple" vs.toArray 0)).push (seqObj "list" #[] 0) := ⟨_, rfl⟩
  obtain ⟨h2, eh2⟩ := hh2
  have hkS : ((s.heap.update a (Obj.mapSeq fun _ => (#[] : Array Value))).push (seqObj "tuple" vs.toArray 0)).objs.size = s.heap.objs.size + 1 := by rw [size_push', Heap.size_update]
  have okS : h2.get? (s.heap.objs.size + 1) = some (seqObj "list" #[] 0) := by rw [eh2, ← hkS]; exact Heap.get?_push_size _ rfl
  have oaS : h2.get? a = some (seqObj "list" #[] e1) := by rw [eh2]; exact Heap.get?_push_of_some _ (Heap.get?_push_of_some _ ho1)
  have m2 : Mid P w outer H s0 { s with heap := h2 } := by rw [eh2]; exact m1.kept (tk := s.toks) fun b o e => Heap.get?_push_of_some _ (Heap.get?_push_of_some _ e)
  show wpAny _ _ (ksk_rest a (.ref f) false vs.toArray e1 (.ref ((s.heap.update a (Obj.mapSeq fun _ => (#[] : Array Value))).push (seqObj "tuple" vs.toArray 0)).objs.size)) R E { s with heap := ((s.heap.update a (Obj.mapSeq fun _ => (#[] : Array Value))).push (seqObj "tuple" vs.toArray 0)).push (seqObj "list" #[] 0) }
  rw [hkS, ← eh2]
  have hkge : s0.heap.objs.size ≤ s.heap.objs.size + 1 := Nat.le_trans ha (Nat.le_of_lt (Nat.lt_succ_of_lt asz))
  have hHk : H (s.heap.objs.size + 1) = none := e0.hok.fresh hkge
  have hka : s.heap.objs.size + 1 ≠ a := Nat.ne_of_gt (Nat.lt_succ_of_lt asz)
  generalize s.heap.objs.size + 1 = kS at okS hkge hHk hka
  unfold ksk_rest
  refine wpAny_bind (wpAny_rule ?_)
  rw [List.forIn_toArray]
  refine wpAny_bind (ksk_fold (fun i s' => Mid P w outer H s0 s' ∧ ∃ kA e, s'.heap.get? kS = some (seqObj "list" kA e) ∧ s'.heap.get? a = some (seqObj "list" #[] e1) ∧ IntsAre kA.toList (((List.range n).map g).take i)) vs 0 { s with heap := h2 }
    ⟨m2, #[], 0, okS, oaS, by simpa using IntsAre.nil⟩ ?step ?done)
  case step =>
    rintro j x s' hx ⟨mj, kA, e, k1, k2, hk⟩
    simp only [Nat.zero_add] at hk ⊢
    have hj : j < n := by rw [← hlen]; exact (List.getElem?_eq_some_iff.mp hx).1
    obtain ⟨t, ht⟩ := hvs.get j (j : Int) (natI_at hj)
    rw [ht] at hx
    cases hx
    have hz' : kA.size ≤ n := by
      have h1 := hk.length
      rw [Array.length_toList, List.length_take, List.length_map, List.length_range] at h1
      omega
    obtain ⟨ob0, hob0⟩ := hb0
    obtain ⟨ob1, hob1⟩ := mj.un.there b0 ob0 hob0 (by simp)
    have ej : Env0 P w K mg base A outer s' H := e0.next mj.un mj.ok mj.bare (Nat.le_trans hz (Nat.le_of_lt (Heap.lt_size hob1)))
    have KX : K.In s'.heap := ej.mod.kin.keeps fun b o e => (ej.bs b o e).1
    refine wpAny_bind (wpAny_attempt (wpAny_call (codeAny_mono (F.run A outer s' H ⟨[.int (j : Nat) t], []⟩ [.int (j : Nat) t] [.int (j : Nat)] _ E0 hr ej (hB s' [.int (j : Nat) t] KX rfl) (.cons ⟨t, rfl⟩ .nil) (hsp j hj)) fun r s'' hq => ?_)))
    cases r with
    | error er => exact False.elim hq
    | ok fl =>
      cases fl with
      | next => exact False.elim hq
      | brk => exact False.elim hq
      | cont => exact False.elim hq
      | ret v =>
        obtain ⟨z, H', os, bare, un, ok, rz, ez, eH⟩ := hq
        subst ez eH
        obtain ⟨t2, rfl⟩ := rz
        have mj2 := mj.next os bare un ok
        have k1' := un.keep kS _ k1 hHk (nofr kS hkge) (by simp)
        have k2' := un.keep a _ k2 hHa (nofr a ha) (by simp)
        try dsimp only
        have s1 := Heap.SameBut.update s''.heap kS (Obj.mapSeq (·.push (.int (g j) t2)))
        obtain ⟨c2, hc2⟩ : ∃ c2, (s''.heap.update kS (Obj.mapSeq (·.push (.int (g j) t2)))).get? kS = some (seqObj "list" (kA.push (.int (g j) t2)) c2) := ⟨_, get?_update_seq k1' (·.push (.int (g j) t2))⟩
        have ek : ((List.range n).map g).take (j + 1) = ((List.range n).map g).take j ++ [g j] := by
          rw [List.take_add_one, List.getElem?_map, List.getElem?_range hj]
          rfl
        have ea : (kA.push (Value.int (g j) t2)).toList = kA.toList ++ [Value.int (g j) t2] := by simp
        refine wpAny_bind (listUpdate_at k1' rfl ?_ (by rw [sizeLine_eq]; omega) (Nat.le_trans (Nat.le_of_eq (Array.size_push ..)) (by rw [sizeLine_eq]; omega)))
        exact wpAny_pure ⟨rfl, mj2.own (tk := s''.toks) hkge hHk fun b o ne q => (s1.2 b ne).trans q, kA.push (.int (g j) t2), c2, hc2, (s1.2 a hka.symm).trans k2', by rw [ea, ek]; exact ksk_snoc hk⟩
  case done =>
    rintro s' ⟨mj, kA, e, k1, k2, hk⟩
    have hk' : IntsAre kA.toList ((List.range n).map g) := by
      have e3 : ((List.range n).map g).take (0 + vs.length) = (List.range n).map g := List.take_of_length_le (by rw [List.length_map, List.length_range]; omega)
      rw [e3] at hk
      exact hk
    try dsimp only
    refine wpAny_bind (listItems_at k1 rfl ?_)
    exact sort_end mj ha hkge hHa hHk hka k1 k2 hk' hvs h64 h
/-- sorted(range(n), key=f) -/
theorem sorted_key {r f b0 : Addr} {n k : Nat} {t u v : Tok} {g : Nat → Int} {fd : FuncData} {y : Str} {sp : Sp} {Q : Value → Shared → Prop} (e0 : Env0 P w K mg base A outer s H) (hz : base.objs.size ≤ b0) (hb0 : ∃ o, s.heap.get? b0 = some o) (hr : Room (k + 2) A) (F : FnOk P w K mg base CX0 k f fd [y] sp) (hB : Binds K fd [y] [])
    (hsp : ∀ j, j < n → sp [.int (j : Nat)] H (fun z H' => z = .int (g j) ∧ H' = H) E0) (hR : IsRange s.heap r 0 (n : Int) 1 t u v) (h64 : n < 64)
    (h : ∀ s' out c is D, Mid P w outer H s s' → s.heap.objs.size ≤ D → s'.heap.get? D = some (seqObj "list" out c) → Vals (is.map fun (i : Nat) => V.int i) out.toList → ByKey g n is → Q (.ref D) s') :
    wpAny (model P w) A (call (.builtin "sorted") [.ref r] [(Str.ofString "key", .ref f)]) Q E s := by
  refine call_function_entry_kw kind_sorted plain_sorted entry_sorted (ksk_s1 _ _) ?_
  unfold Builtin.«sorted»
  refine wpAny_bind (m := checkCount "sorted" 1 1 _) (wpAny_pure ?_)
  have hh : A.in1.handled = none := hr.hd
  refine wpAny_bind (collect_range (A := A.in1) hh hR (by omega) fun h' tk vs hk hle hvs => ?_)
  have hlen : vs.length = n := by rw [hvs.length, natI_len]
  refine wpAny_bind (wpAny_newList ?_ (by rw [sizeLine_eq]; omega))
  have m0 : Mid P w outer H s { s with heap := h', toks := tk } := (Mid.start e0).kept hk
  have m1 : Mid P w outer H s { s with heap := h'.push (seqObj "list" vs.toArray 0), toks := tk } := m0.kept (tk := tk) fun b o e => Heap.get?_push_of_some _ e
  have hoL : (h'.push (seqObj "list" vs.toArray 0)).get? h'.objs.size = some (seqObj "list" vs.toArray 0) := Heap.get?_push_size _ rfl
  show wpAny _ _ _ _ _ { s with heap := h'.push (seqObj "list" vs.toArray 0), toks := tk }
  refine wpAny_bind (wpAny_holding (wpAny_call_entry_kw slot_list_sort ⟨_, hoL, rfl⟩ entry_list_sort ?body (ksk_l1 _ _)))
  case body =>
    show wpAny (model P w) A.in1.in1 (Builtin.«list.sort» ⟨[.ref h'.objs.size], [(Str.ofString "key", .ref f)]⟩) _ _ _
    rw [ksk_t1]
    refine sort_tree (s := { s with heap := h'.push (seqObj "list" vs.toArray 0), toks := tk }) (k := k) e0.in1.in1 hz hb0 hr.in1.in1 F hB hsp m1 hle hoL hvs h64 fun s' out c is ms q1 q2 q3 => ⟨_, rfl, ?_⟩
    exact wpAny_pure ⟨_, rfl, h s' out c is _ ms hle q1 q2 q3⟩
end
end L2
end
section
set_option Elab.async false
set_option linter.all false
set_option maxRecDepth 100000
set_option maxHeartbeats 2000000
/-! range(..) as a value; a built-in with keywords; sorted(range(..), key=..). -/
namespace L2
open PySem PySem.Spec PyProof.Rows
section
variable {X : Cx} {x y : Str} {p pos : Pos} {e : Expr} {es : List Expr} {kws : List Keyword} {t tk : TA} {id : String} {ks : List Str}
def tRng (ta : TA) : TE := fun σ H Q => ta σ H fun vs H1 => ∃ n : Nat, vs = [.int (n : Nat)] ∧ n < 2 ^ 62 ∧ ∀ r, H1 r = none → Q (.ref r) (upd H1 r (.rng 0 (n : Nat)))
theorem pe_range {a : Expr} {ta : TA} (hg : Gl X "range") (hm : X.mg "range" = none) (ha : PA X [a] ta) (hs : starEach [a] X.env = [(false, eval a X.env)] := by rfl) : PE X (.Call (.Name "range" p) [a] [] pos) (tRng ta) := by
  intro pins s σ H Q I h
  refine Call_ (ld_blt I hg hm boot_range (PyProof.Rows.callWith_type1 (thn (ha pos pins s σ H _ I h) fun us s1 ⟨vs, H1, I1, r1, q1⟩ => ?_) hs rfl))
  obtain ⟨n, rfl, q1, q⟩ := q1
  obtain ⟨u, rfl, tt, rfl⟩ := vals1 r1
  refine call_range_1 ?_
  exact ⟨.ref s1.heap.objs.size, _, I1.laid (a := s1.heap.objs.size) (o := .rng 0 (n : Nat)) (fun b u e => Heap.get?_push_of_some _ e) (Nat.le_refl _) ⟨_, _, _, Heap.get?_push_size _ rfl⟩, rfl, q _ I1.fresh⟩
/-- a call of a built-in with keywords, by values -/
def CallKR (X : Cx) (f : Value) (ks : List Str) (r : St → List V → List V → Hp → VK → Prop) : Prop :=
  ∀ (pins : List (Addr × Obj)) (s : Shared) (σ : St) (H : Hp) (vs zs : List V) (us ws : List Value) (Q : VK), Inv X pins σ H s → Vals vs us → Vals zs ws → r σ vs zs H Q → wpAny (model X.prog X.w) X.A (call f us (ks.zip ws)) (EP X pins σ Q) X.xe s
def tCBK (r : St → List V → List V → Hp → VK → Prop) (t tk : TA) : TE := fun σ H Q => t σ H fun vs H1 => tk σ H1 fun zs H2 => r σ vs zs H2 Q
theorem pe_callBK {r : St → List V → List V → Hp → VK → Prop} (hc : CallKR X (.builtin id) ks r) (hg : Gl X x) (hm : X.mg x = none) (hv : bootBuiltins x = some (.builtin id)) (ha : PA X (e :: es) t) (hkw : PK X kws tk)
    (hn : x ≠ "__name__" := by decide) (hdb : (x == ("__debug__" : Str)) = false := by decide) (hall : (backToKw pos (keywordEach kws X.env)).all (·.1.isSome) = true := by rfl) (hks : (backToKw pos (keywordEach kws X.env)).filterMap (·.1) = ks := by rfl)
    (he : starEach (e :: es) X.env = (false, eval e X.env) :: starEach es X.env := by rfl) (hpl : ((backTo pos (starEach (e :: es) X.env)).any (·.1) || (backToKw pos (keywordEach kws X.env)).any (·.1.isNone)) = false := by rfl) :
    PE X (.Call (.Name x p) (e :: es) kws pos) (tCBK r t tk) := by
  intro pins s σ H Q I h
  refine wpAny_Call_Name_kw (ld_blt I hg hm hv ?_ hn hdb)
  refine PySem.W.callWith_of (P := fun _ => True) (first := []) hpl (fun _ _ => ⟨.machine, .inr (.inl rfl), PySem.W.Looks.of_pure rfl⟩) (evalArgs_kw2 hall ?_ he)
  refine thn (ha pos pins s σ H _ I h) fun us s1 ⟨vs, H1, I1, r1, q⟩ => ?_
  refine thn (hkw pos pins s1 σ H1 _ I1 q) fun ws s2 ⟨zs, H2, I2, rz, q2⟩ => ⟨trivial, ?_⟩
  rw [hks]
  exact hc pins s2 σ H2 vs zs us ws Q I2 r1 rz q2
/-- sorted(range(n), key=f), f a lambda that captures x (its cell tracked while the keys are made; x in slot i) -/
def rSortK (X : Cx) (x y : Str) (k i : Nat) : St → List V → List V → Hp → VK → Prop := fun σ vs zs H Q => ∃ (r f : Addr) (n : Nat) (v : V) (fd : FuncData) (sp : Sp) (g : Nat → Int), vs = [.ref r] ∧ zs = [.ref f] ∧ H r = some (.rng 0 (n : Nat)) ∧ n < 64 ∧ σ[i]? = some (some v) ∧
  FnOk X.prog X.w X.K X.mg X.base CX0 k f fd [y] sp ∧ Binds X.K fd [y] [] ∧
  (∀ (o : Obj) (u : Value), o.data = .cell (some u) → RelV v u → H (X.cl x) = none → ∀ j, j < n → sp [.int (j : Nat)] (upd H (X.cl x) (kno o)) (fun z H' => z = .int (g j) ∧ H' = upd H (X.cl x) (kno o)) E0) ∧
  ∀ (D : Addr) (is : List Nat), H D = none → ByKey g n is → Q (.ref D) (upd H D (.lst (is.map fun (i : Nat) => V.int i)))
theorem cr_sortK {k i : Nat} (hN : X.N[i]? = some x) (hk : X.env.scope.names.lookup x = some .cell) (hf : X.fn x = true) (hr : Room (k + 2) X.A) : CallKR X (.builtin "sorted") ["key"] (rSortK X x y k i) := by
  intro pins s σ H vs zs us ws Q I r rz h
  obtain ⟨ra, f, n, v, fd, sp, g, rfl, rfl, hH, h64, ev, F, hB, hsp, q⟩ := h
  obtain ⟨u, rfl, ru⟩ := vals1 r
  obtain rfl : u = Value.ref ra := ru
  obtain ⟨u, rfl, ru⟩ := vals1 rz
  obtain rfl : u = Value.ref f := ru
  obtain ⟨oc, uc, h1, h2, h3, h4⟩ := I.cellIs hN hk ev
  obtain ⟨t1, t2, t3, hR⟩ := I.hok ra _ hH
  obtain ⟨m, ⟨oL, esL, epL, hoL, _⟩, _⟩ := id I.loc
  have e0 := I.env0C h1 hf h2
  show wpAny _ _ (call (.builtin "sorted") [.ref ra] [(Str.ofString "key", .ref f)]) _ _ _
  refine sorted_key e0 (Nat.le_trans I.ok.bsz I.ok.above) ⟨_, hoL⟩ hr F hB (hsp oc uc h3 h4 (I.freeC x _ h1)) hR h64 fun s' out c is D ms hD ho hv hby => ?_
  have hHD : H D = none := I.hok.fresh hD
  have nD : D ≠ X.cl x := Nat.ne_of_gt (Nat.lt_of_lt_of_le (Heap.lt_size h2) hD)
  have hnew : upd H (X.cl x) (kno oc) D = none := by rw [upd_ne nD]; exact hHD
  have hsz : is.length < 64 := by rw [hby.1.length_eq, List.length_range]; exact h64
  have un2 : Un (frs X.stack) [] (upd H (X.cl x) (kno oc)) (upd (upd H (X.cl x) (kno oc)) D (.lst (is.map fun (i : Nat) => V.int i))) s.heap s'.heap := by
    have ne : ∀ b o, s.heap.get? b = some o → b ≠ D := fun b o e => Nat.ne_of_lt (Nat.lt_of_lt_of_le (Heap.lt_size e) hD)
    refine ⟨ms.un.keep, ms.un.slot, fun b o e n _ => ?_, ms.un.there, fun b xs e => ?_, fun b o u e => ?_, fun b ps e => ⟨#[], ?_⟩⟩
    · rw [upd_ne (ne b o e)]
      exact ms.un.free b o e n (by simp)
    · rw [upd_ne (ne_of_none e hnew)]
      exact e
    · rw [upd_ne (ne_of_none e hnew)]
      exact e
    · rw [upd_ne (ne_of_none e hnew), e]
      simp
  have ok2 : HOk X.prog X.w (upd (upd H (X.cl x) (kno oc)) D (.lst (is.map fun (i : Nat) => V.int i))) s'.heap := fun a o e => by
    by_cases z : a = D
    · subst z
      rw [upd_same] at e
      cases e
      refine ⟨by rw [List.length_map]; exact small64 hsz, out.toList, c, hv, ?_⟩
      rw [ho]
    · rw [upd_ne z] at e
      refine (ms.ok a o e).stay (fun _ _ _ q => q) (fun b z => ?_) fun b xs z => ?_
      · rw [upd_ne (ne_of_none z hnew)]
        exact z
      · rw [upd_ne (ne_of_none z hnew)]
        exact z
  refine I.afterC h1 hf h2 ⟨.ref D, _, ms.os, ms.bare, un2, ok2, rfl, ?_⟩
  have ee : del (upd (upd H (X.cl x) (kno oc)) D (.lst (is.map fun (i : Nat) => V.int i))) (X.cl x) = upd H D (.lst (is.map fun (i : Nat) => V.int i)) := by
    funext b
    by_cases z1 : b = X.cl x
    · rw [z1, del_same, upd_ne nD.symm, I.freeC x _ h1]
    · rw [del_ne z1]
      by_cases z2 : b = D
      · rw [z2, upd_same, upd_same]
      · rw [upd_ne z2, upd_ne z2, upd_ne z1]
  show Q (.ref D) (del (upd (upd H (X.cl x) (kno oc)) D (.lst (is.map fun (i : Nat) => V.int i))) (X.cl x))
  rw [ee]
  exact q D is hHD hby
end
end L2
end
section
set_option Elab.async false
set_option linter.all false
set_option maxRecDepth 100000
set_option maxHeartbeats 2000000
/-! Lists of lists of ints: <, count, index. -/
namespace L2
open PySem PySem.Spec PyProof.Rows
section
open PySem.SeqAt
open PySem.AutoSeq1 (wpAny_loadPart')
open PySem.MeetsSeq PySem.MeetsSeq2 PySem.MeetsSeq3
theorem ints_drop {vs : List Value} {ns : List Int} (hi : IntsAre vs ns) {i : Nat} (h : i < vs.length) : ∃ a t, vs[i]? = some (.int a t) ∧ ns.drop i = a :: ns.drop (i + 1) := by
  have hn : i < ns.length := by rw [← hi.length]; exact h
  obtain ⟨t, ht⟩ := hi.get i _ (List.getElem?_eq_getElem hn)
  exact ⟨_, t, ht, List.drop_eq_getElem_cons hn⟩
theorem lt_loopI (l b : Addr) (xs ys : Array Value) (n n2 : Nat) (dd dd2 : Option Addr) (sl sl2 : Array (Option Value)) (ns ms : List Int) (hi : IntsAre xs.toList ns) (hj : IntsAre ys.toList ms) (hsz : xs.size = ys.size) : ∀ (k i : Nat), xs.size - i = k →
    Meets (Builtin.«list.__eq__.loop» ⟨[.ref l, .ref b, rawInt i, rawInt 0], []⟩)
      (fun _ R s => (s.heap.get? l = some { cls := .type "list", dict := dd, data := .seq xs n, slots := sl }) ∧ (s.heap.get? b = some { cls := .type "list", dict := dd2, data := .seq ys n2, slots := sl2 }) ∧ R (.ok (.ret (.bool (HT.lexLt (ns.drop i) (ms.drop i))))) s)
  | 0, i, hk, prog, w, A, R, s, h => by
    obtain ⟨hp, g, d, tk, os⟩ := s; obtain ⟨hl, hb, h⟩ := h
    wp_walk using wpAny_loadPart' hl, wpAny_loadPart' hb
    have z1 : xs.size = ns.length := by rw [← hi.length]; simp
    have z2 : ys.size = ms.length := by rw [← hj.length]; simp
    rw [show xs[((i : Nat) : Int).toNat]? = none by simp; omega, show ys[((i : Nat) : Int).toNat]? = none by simp; omega]
    rw [List.drop_eq_nil_of_le (by omega), List.drop_eq_nil_of_le (by omega)] at h
    wp_walk using wpAny_loadPart' hl, wpAny_loadPart' hb
    show R (.ok (.ret (.bool (decide (xs.size < ys.size))))) _
    rw [decide_eq_false (by omega)]
    exact h
  | k + 1, i, hk, prog, w, A, R, s, h => by
    obtain ⟨hp, g, d, tk, os⟩ := s; obtain ⟨hl, hb, h⟩ := h
    wp_walk using wpAny_loadPart' hl, wpAny_loadPart' hb
    have q1 : i < xs.size := by omega
    obtain ⟨a, t, ea, da⟩ := ints_drop hi (i := i) (by simpa using q1)
    obtain ⟨c, u, ec, dc⟩ := ints_drop hj (i := i) (by simpa using (show i < ys.size by omega))
    have i1 : xs[((i : Nat) : Int).toNat]? = some (.int a t) := by simpa using ea
    have i2 : ys[((i : Nat) : Int).toNat]? = some (.int c u) := by simpa using ec
    rw [da, dc, HT.lexLt_cons] at h
    rw [i1, i2]
    obtain ⟨e, he, hiff⟩ := HT.eqAt_int A.in1 ⟨hp, g, d, tk, os⟩ a t c u
    refine wpAny_bind (he prog w _ _ ?_)
    cases e with
    | true =>
      rw [if_pos (hiff.mp rfl)] at h
      wp_walk
      rw [show ((i : Int) + 1) = ((i + 1 : Nat) : Int) by push_cast; rfl]
      exact ⟨plainId_quiet plain_eq_loop _, codeAny_builtin entry_eq_loop (by
        rw [Around.under_plainId plain_eq_loop _]
        exact lt_loopI l b xs ys n n2 dd dd2 sl sl2 ns ms hi hj hsz k (i + 1) (by omega) prog w A R _ ⟨hl, hb, h⟩)⟩
    | false =>
      rw [if_neg (fun q => absurd (hiff.mpr q) Bool.false_ne_true)] at h
      have hri := HT.rcLt_int A.in1 ⟨hp, g, d, tk, os⟩ a t c u prog w
      wp_walk using wpAny_loadPart' hl, wpAny_loadPart' hb
      rw [i1, i2]
      wp_walk using hri
      exact h
theorem list_ltI (l b : Addr) (xs ys : Array Value) (n n2 : Nat) (dd dd2 : Option Addr) (sl sl2 : Array (Option Value)) (ns ms : List Int) (hi : IntsAre xs.toList ns) (hj : IntsAre ys.toList ms) (hsz : xs.size = ys.size) : Meets (Builtin.«list.__lt__» ⟨[.ref l, .ref b], []⟩)
      (fun _ R s => (s.heap.get? l = some { cls := .type "list", dict := dd, data := .seq xs n, slots := sl }) ∧ (s.heap.get? b = some { cls := .type "list", dict := dd2, data := .seq ys n2, slots := sl2 }) ∧ R (.ok (.ret (.bool (HT.lexLt ns ms)))) s) := by
  intro prog w A R s h
  obtain ⟨hp, g, d, tk, os⟩ := s; obtain ⟨hl, hb, h⟩ := h
  have f3 := AutoSeq1.sub_list_list
  wp_walk using wpAny_loadPart' hl, wpAny_loadPart' hb
  exact ⟨plainId_quiet plain_eq_loop _, codeAny_builtin entry_eq_loop (by
    rw [Around.under_plainId plain_eq_loop _]
    exact lt_loopI l b xs ys n n2 dd dd2 sl sl2 ns ms hi hj hsz _ 0 rfl prog w A R _ ⟨hl, hb, h⟩)⟩
end
section
variable {prog : Program} {w : World} {A : Around} {E : Value → Shared → Prop} {s : Shared}
theorem lt_listI {a b : Addr} {xs ys : List Value} {n n2 : Nat} {ns ms : List Int} {Q : Value → Shared → Prop} (ha : s.heap.get? a = some { cls := .type "list", data := .seq xs.toArray n }) (hb : s.heap.get? b = some { cls := .type "list", data := .seq ys.toArray n2 })
    (hi : IntsAre xs ns) (hj : IntsAre ys ms) (hsz : ns.length = ms.length) (hu : A.units < cLine) (h : Q (.bool (HT.lexLt ns ms)) s) : wpAny (model prog w) A (richCompare .Lt (.ref a) (.ref b)) Q E s :=
  richCompare_meets_room (op := .Lt) ⟨_, ha, rfl⟩ ⟨_, hb, rfl⟩ PySem.F.slot_list_lt PySem.F.entry_list_lt (PySem.F.args_list_lt_2 _ _) (list_ltI a b xs.toArray ys.toArray n n2 none none #[] #[] ns ms (by simpa using hi) (by simpa using hj) (by have := hi.length; have := hj.length; simp; omega))
    ⟨ha, hb, show Value.bool (HT.lexLt ns ms) ≠ Value.notImplemented ∧ Q (.bool (HT.lexLt ns ms)) s from ⟨(fun x => nomatch x), h⟩⟩ hu
end
/-- the list at a holds lists of ints -/
structure Rows (K : PySem.W.Frag) (H : Hp) (a : Addr) (qs : List (Addr × List Int)) : Prop where
  at_ : SqL K H a (qs.map fun q => V.ref q.1)
  row : ∀ q, q ∈ qs → H q.1 = some (.lst (q.2.map V.int))
theorem eqv_ints : ∀ (ns ms : List Int), PyData.eqvAll (ns.map PyData.int) (ms.map PyData.int) = decide (ns = ms)
  | [], [] => by simp [PyData.eqvAll]
  | [], m :: ms => by simp [PyData.eqvAll]
  | n :: ns, [] => by simp [PyData.eqvAll]
  | n :: ns, m :: ms => by
    show (PyData.eqv (.int n) (.int m) && PyData.eqvAll (ns.map PyData.int) (ms.map PyData.int)) = _
    rw [eqv_ints ns ms]
    show ((n == m) && decide (ns = ms)) = _
    by_cases h1 : n = m
    · subst h1
      simp
    · simp [h1]
theorem lay_ints : ∀ ns : List Int, PyData.canLayAll0 (ns.map PyData.int) = true
  | [] => rfl
  | n :: ns => by
    show (PyData.canLay0 (.int n) && PyData.canLayAll0 (ns.map PyData.int)) = true
    rw [lay_ints ns]
    rfl
theorem depth_ints : ∀ ns : List Int, PyData.depthAll (ns.map PyData.int) = 0
  | [] => rfl
  | n :: ns => by
    show max (PyData.depth (.int n)) (PyData.depthAll (ns.map PyData.int)) = 0
    rw [depth_ints ns]
    rfl
section
variable {X : Cx} {pins : List (Addr × Obj)} {σ : St} {H : Hp} {s : Shared}
theorem dp_ints {K : PySem.W.Frag} : ∀ ns : List Int, DpAll K H (ns.map V.int) (ns.map PyData.int)
  | [] => .nil
  | n :: ns => .cons (.int n) (dp_ints ns)
theorem eq_rows (I : Inv X pins σ H s) {A : Around} (hu : A.units + 4 < cLine) {a b : Addr} {ns ms : List Int} (ha : H a = some (.lst (ns.map V.int))) (hb : H b = some (.lst (ms.map V.int))) : SeqAt.EqAt A s (.ref a) (.ref b) (decide (ns = ms)) := by
  obtain ⟨as, r1⟩ := Dp.reads I (.list (ns.map PyData.int)) (.ref a) (.ref a) (.lst (SqL.of ha) (dp_ints ns)) rfl
  obtain ⟨bs, r2⟩ := Dp.reads I (.list (ms.map PyData.int)) (.ref b) (.ref b) (.lst (SqL.of hb) (dp_ints ms)) rfl
  have q := SeqAt.eqAt_reads (.list (ns.map PyData.int)) (.list (ms.map PyData.int)) A s (.ref a) (.ref b) as bs r1 r2 (lay_ints ns) (lay_ints ms) (by
    have e1 : PyData.depth (.list (ns.map PyData.int)) = 1 := by show PyData.depthAll _ + 1 = 1; rw [depth_ints]
    rw [e1]
    have := Nat.min_le_left 1 (PyData.depth (.list (ms.map PyData.int)))
    omega)
  have e : PyData.eqv (.list (ns.map PyData.int)) (.list (ms.map PyData.int)) = decide (ns = ms) := eqv_ints ns ms
  rw [e] at q
  exact q
/-- whether the row at an address is ms -/
def isRow (H : Hp) (ms : List Int) : Value → Bool
  | .ref a => match H a with
    | some (.lst xs) => decide (xs = ms.map V.int)
    | _ => false
  | _ => false
theorem map_int_inj : ∀ {ns ms : List Int}, ns.map V.int = ms.map V.int → ns = ms
  | [], [], _ => rfl
  | [], _ :: _, h => by cases h
  | _ :: _, [], h => by cases h
  | n :: ns, m :: ms, h => by
    rw [List.map_cons, List.map_cons] at h
    injection h with h1 h2
    rw [V.int.inj h1, map_int_inj h2]
theorem isRow_of {q : Addr × List Int} {ms : List Int} (h : H q.1 = some (.lst (q.2.map V.int))) : isRow H ms (.ref q.1) = decide (q.2 = ms) := by
  show (match H q.1 with
    | some (.lst xs) => decide (xs = ms.map V.int)
    | _ => false) = _
  rw [h]
  show decide (q.2.map V.int = ms.map V.int) = _
  by_cases e : q.2 = ms
  · rw [e]
    simp
  · rw [decide_eq_false e, decide_eq_false (fun z => e (map_int_inj z))]
theorem rows_at : ∀ {qs : List (Addr × List Int)} {us : List Value}, Vals (qs.map fun q => V.ref q.1) us → us = qs.map fun q => Value.ref q.1
  | [], _, .nil => rfl
  | q :: qs, _, .cons r t => by
    cases r
    rw [rows_at t]
    rfl
theorem count_rows {ms : List Int} : ∀ {qs : List (Addr × List Int)}, (∀ q, q ∈ qs → H q.1 = some (.lst (q.2.map V.int))) → (qs.map fun q => Value.ref q.1).countP (isRow H ms) = (qs.map Prod.snd).count ms
  | [], _ => rfl
  | q :: qs, h => by
    rw [List.map_cons, List.countP_cons, List.map_cons, List.count_cons, count_rows fun x hx => h x (List.mem_cons_of_mem _ hx), isRow_of (h q (List.mem_cons_self ..))]
    by_cases e : q.2 = ms
    · simp [e]
    · simp [e]
end
section
variable {X : Cx}
/-- rows.count(row) -/
def rCountR (K : PySem.W.Frag) : V → List V → Hp → VK → Prop := fun x xs H Q => ∃ (a b : Addr) (qs : List (Addr × List Int)) (ms : List Int), x = V.ref a ∧ xs = [V.ref b] ∧ Rows K H a qs ∧ H b = some (.lst (ms.map V.int)) ∧ Q (.int ((qs.map Prod.snd).count ms : Nat)) H
theorem mt_countR (hu : X.A.units + 64 < cLine) : MtR X "list.count" (rCountR X.K) := by
  intro pins s σ H x xs v us Q I rx rxs h
  obtain ⟨a, b, qs, ms, rfl, rfl, R, hb, q⟩ := h
  cases rx
  obtain ⟨u, rfl, ru⟩ := vals1 rxs
  cases ru
  obtain ⟨its, rv, ⟨⟨cls, dd, data, sl⟩, n, ho, hc, hdn, hd⟩, hlen⟩ := I.list R.at_
  simp only at hc hd
  subst hc hd
  have ei := rows_at rv
  subst ei
  refine call_meets PySem.F.slot_list_count ⟨_, ho, rfl⟩ PySem.F.entry_list_count (PySem.F.args_list_count_2 _ _) (SeqAt.list_countAt a _ n dd sl (.ref b) (isRow H ms)) ⟨ho, fun y hy => ?_, ?_⟩
  · have hy : y ∈ qs.map fun q => Value.ref q.1 := by simpa using hy
    obtain ⟨q0, hq0, rfl⟩ := List.mem_map.mp hy
    rw [isRow_of (R.row q0 hq0)]
    refine eq_rows I ?_ (R.row q0 hq0) hb
    show X.A.units + 1 + 4 < cLine
    omega
  · have e : (((qs.map fun q => Value.ref q.1).toArray).toList.countP (isRow H ms)) = (qs.map Prod.snd).count ms := count_rows R.row
    rw [e]
    exact ⟨.int _, H, I.tok _, ⟨_, rfl⟩, q⟩
/-- rows.index(row) -/
def rIndexR (K : PySem.W.Frag) : V → List V → Hp → VK → Prop := fun x xs H Q => ∃ (a b : Addr) (qs : List (Addr × List Int)) (ms : List Int) (j : Nat), x = V.ref a ∧ xs = [V.ref b] ∧ Rows K H a qs ∧ H b = some (.lst (ms.map V.int)) ∧ (qs.map Prod.snd)[j]? = some ms ∧
  (∀ m, m < j → ¬ (qs.map Prod.snd)[m]? = some ms) ∧ Q (.int (j : Nat)) H
theorem mt_indexR (hu : X.A.units + 64 < cLine) : MtR X "list.index" (rIndexR X.K) := by
  intro pins s σ H x xs v us Q I rx rxs h
  obtain ⟨a, b, qs, ms, j, rfl, rfl, R, hb, hj, hno, q⟩ := h
  cases rx
  obtain ⟨u, rfl, ru⟩ := vals1 rxs
  cases ru
  obtain ⟨its, rv, ⟨⟨cls, dd, data, sl⟩, n, ho, hc, hdn, hd⟩, hlen⟩ := I.list R.at_
  simp only at hc hd
  subst hc hd
  have ei := rows_at rv
  subst ei
  rw [List.getElem?_map] at hj
  have hjl : j < qs.length := by
    cases e : qs[j]? with
    | none => rw [e] at hj; cases hj
    | some _ => exact (List.getElem?_eq_some_iff.mp e).1
  have at_ : ∀ m (hm : m < qs.length), ((qs.map fun q => Value.ref q.1).toArray)[m]'(by simpa using hm) = Value.ref (qs[m]).1 := fun m hm => by simp
  rw [List.length_map] at hlen
  have hsl := sizeLine_eq
  refine call_meets PySem.F.slot_list_index ⟨_, ho, rfl⟩ PySem.F.entry_list_index (PySem.F.args_list_index_2 _ _)
    (SeqAt.list_indexAt a _ n dd sl (.ref b) (isRow H ms) j (by simpa using hjl) (by omega) ?_ ?_) ⟨ho, fun y hy => ?_, ⟨.int (j : Nat), H, I.tok _, ⟨_, rfl⟩, q⟩⟩
  · rw [at_ j hjl, isRow_of (R.row _ (List.getElem_mem hjl))]
    rw [List.getElem?_eq_getElem hjl] at hj
    exact decide_eq_true (Option.some.inj hj)
  · intro m hm hmj
    have hml : m < qs.length := by omega
    rw [at_ m hml, isRow_of (R.row _ (List.getElem_mem hml))]
    refine decide_eq_false fun e => hno m hmj ?_
    rw [List.getElem?_map, List.getElem?_eq_getElem hml, ← e]
    rfl
  · have hy : y ∈ qs.map fun q => Value.ref q.1 := by simpa using hy
    obtain ⟨q0, hq0, rfl⟩ := List.mem_map.mp hy
    rw [isRow_of (R.row q0 hq0)]
    refine eq_rows I ?_ (R.row q0 hq0) hb
    show X.A.units + 1 + 4 < cLine
    omega
/-- ints.count(int) -/
def rCountI (K : PySem.W.Frag) : V → List V → Hp → VK → Prop := fun x xs H Q => ∃ (a : Addr) (ns : List Int) (z : Int), x = V.ref a ∧ xs = [V.int z] ∧ SqL K H a (ns.map V.int) ∧ Q (.int (ns.count z : Nat)) H
theorem mt_countI : MtR X "list.count" (rCountI X.K) := by
  intro pins s σ H x xs v us Q I rx rxs h
  obtain ⟨a, ns, z, rfl, rfl, R, q⟩ := h
  cases rx
  obtain ⟨u, rfl, t, rfl⟩ := vals1 rxs
  obtain ⟨its, rv, ⟨⟨cls, dd, data, sl⟩, n, ho, hc, hdn, hd⟩, hlen⟩ := I.list R
  simp only at hc hd
  subst hc hd
  have hf : (ns.map V.int).all flatV = true := by rw [List.all_map]; exact List.all_eq_true.mpr fun _ _ => rfl
  refine call_meets PySem.F.slot_list_count ⟨_, ho, rfl⟩ PySem.F.entry_list_count (PySem.F.args_list_count_2 _ _) (SeqAt.list_countAt a _ n dd sl (.int z t) (eqU (.int z))) ⟨ho, fun y hy => mem_eqAt (x := V.int z) ⟨t, rfl⟩ rfl rv hf y (by simpa using hy), ?_⟩
  have e : ∀ {ns : List Int} {its : List Value}, Vals (ns.map V.int) its → its.countP (eqU (.int z)) = ns.count z := by
    intro ns
    induction ns with
    | nil => intro its r; cases r; rfl
    | cons n ns ih =>
      intro its r
      rw [List.map_cons] at r
      cases r with
      | cons r1 r2 =>
        rw [List.countP_cons, List.count_cons, ih r2, eqU_of r1 rfl]
        rfl
  have e2 : its.toArray.toList.countP (eqU (.int z)) = ns.count z := e rv
  rw [e2]
  exact ⟨.int _, H, I.tok _, ⟨_, rfl⟩, q⟩
end
end L2
end
section
set_option Elab.async false
set_option linter.all false
set_option maxRecDepth 100000
set_option maxHeartbeats 2000000
/-! min of a list of rows of ints. -/
namespace L2
open PySem PySem.Spec PyProof.Rows
theorem lex_irr : ∀ a : List Int, HT.lexLt a a = false
  | [] => rfl
  | x :: a => by rw [HT.lexLt_cons, if_pos rfl, lex_irr a]
theorem lex_trans : ∀ a b c : List Int, HT.lexLt a b = true → HT.lexLt b c = true → HT.lexLt a c = true
  | [], [], _, h, _ => by cases h
  | [], _ :: _, [], _, h => by cases h
  | [], _ :: _, _ :: _, _, _ => rfl
  | _ :: _, [], _, h, _ => by cases h
  | _ :: _, _ :: _, [], _, h => by cases h
  | x :: a, y :: b, z :: c, h1, h2 => by
    rw [HT.lexLt_cons] at h1 h2 ⊢
    by_cases e1 : x = y
    · rw [if_pos e1] at h1
      subst e1
      by_cases e2 : x = z
      · rw [if_pos e2] at h2
        rw [if_pos e2]
        exact lex_trans a b c h1 h2
      · rw [if_neg e2] at h2
        rw [if_neg e2]
        exact h2
    · rw [if_neg e1] at h1
      have h1 := of_decide_eq_true h1
      by_cases e2 : y = z
      · subst e2
        rw [if_neg e1]
        exact decide_eq_true h1
      · rw [if_neg e2] at h2
        have h2 := of_decide_eq_true h2
        rw [if_neg (by omega)]
        exact decide_eq_true (by omega)
/-- the rows stand as they are -/
def RowsIn (qs : List (Addr × List Int)) (h : Heap) : Prop := ∀ q, q ∈ qs → ∃ (its : List Value) (m : Nat), h.get? q.1 = some { cls := .type "list", data := .seq its.toArray m } ∧ IntsAre its q.2
section
variable {prog : Program} {w : World} {A : Around} {R : Result → Shared → Prop} {I l S : Addr} {qs : List (Addr × List Int)}
abbrev rowVals (qs : List (Addr × List Int)) : Array Value := (qs.map fun q => Value.ref q.1).toArray
theorem rowVals_at {i : Nat} {v : Value} (h : (rowVals qs)[i]? = some v) : ∃ q, qs[i]? = some q ∧ v = .ref q.1 := by
  have h : (qs.map fun q => Value.ref q.1)[i]? = some v := by simpa using h
  rw [List.getElem?_map] at h
  cases e : qs[i]? with
  | none => rw [e] at h; cases h
  | some q => rw [e] at h; cases h; exact ⟨q, rfl, rfl⟩
theorem min_loopR {len : Nat} {St : Nat → Heap → Prop} (W : Walks prog w A.in1 I [I, l] [I] qs.length (fun i v => (rowVals qs)[i]? = some v) St) (hu : A.units + 1 < cLine) (hlen : ∀ q, q ∈ qs → q.2.length = len) (hSI : S ≠ I) (hSl : S ≠ l) (hrI : ∀ q, q ∈ qs → q.1 ≠ I) (hrS : ∀ q, q ∈ qs → q.1 ≠ S) :
    ∀ (k j : Nat) (s : Shared) (b : Addr) (mb : List Int) (c : Nat), qs.length - (j + 1) = k → j + 1 ≤ qs.length → St (j + 1) s.heap → RowsIn qs s.heap → (b, mb) ∈ qs → (∀ (i : Nat) q, i ≤ j → qs[i]? = some q → HT.lexLt q.2 mb = false) →
    s.heap.get? S = some { cls := .type "list", dict := none, data := .seq #[.ref b, .ref b] c, slots := #[] } →
    (∀ b' mb' h' tk, (b', mb') ∈ qs → (∀ q, q ∈ qs → HT.lexLt q.2 mb' = false) → (∀ a o, a ≠ I → a ≠ S → s.heap.get? a = some o → h'.get? a = some o) → R (.ok (.ret (.ref b'))) { s with heap := h', toks := tk }) →
    codeAny (model prog w) A (.builtin "min.loop" ⟨[.ref I, .none, .ref S], []⟩) R s := by
  have hSf : S ∉ [I, l] := fun h => by
    rcases List.mem_cons.mp h with h | h
    · exact hSI h
    · exact hSl (List.mem_singleton.mp h)
  have nI : ∀ {b : Addr}, b ≠ I → b ∉ [I] := fun h z => h (List.mem_singleton.mp z)
  have hname : (toString "min" ++ toString ".loop" : String) = "min.loop" := by decide
  intro k
  induction k with
  | zero =>
    intro j s b mb c hk hj hst hC hb hmin hS hR
    have hin : j + 1 = qs.length := by omega
    refine codeAny_builtin F.entry_min_loop ?_
    rw [Around.under_plainId F.plain_min_loop _]
    show wpAny _ A.in1 (seqItems? (.ref S) >>= _) _ _ s
    refine wpAny_bind (wpAny_seqItems hS rfl ?_)
    show wpAny _ A.in1 (tryCatch (pyNext (.ref I)) _ >>= _) _ _ s
    refine wpAny_bind (wpAny_tryCatch (W.done s _ _ (hin ▸ hst) fun h' tk hk' => ?_))
    have hS' := hk' S _ (nI hSI) hS
    show wpAny _ A.in1 (updateSeq S (fun _ => #[]) >>= _) _ _ _
    refine wpAny_bind (wpAny_updateSeq hS' rfl (wpAny_bind (wpAny_letGo (wpAny_pure ?_))))
    refine hR b mb _ tk hb (fun q hq => ?_) fun a o h1 h2 e => (Heap.get?_update_other _ _ (Ne.symm h2)).trans (hk' a o (nI h1) e)
    obtain ⟨i, hi⟩ := List.mem_iff_getElem?.mp hq
    have : i < qs.length := (List.getElem?_eq_some_iff.mp hi).1
    exact hmin i q (by omega) hi
  | succ k ih =>
    intro j s b mb c hk hj hst hC hb hmin hS hR
    have hlt : j + 1 < qs.length := by omega
    refine codeAny_builtin F.entry_min_loop ?_
    rw [Around.under_plainId F.plain_min_loop _]
    show wpAny _ A.in1 (seqItems? (.ref S) >>= _) _ _ s
    refine wpAny_bind (wpAny_seqItems hS rfl ?_)
    show wpAny _ A.in1 (tryCatch (pyNext (.ref I)) _ >>= _) _ _ s
    refine wpAny_bind (wpAny_tryCatch (W.item (j + 1) s _ _ hlt hst fun v h' tk hP hst' hk' => ?_))
    obtain ⟨q, hq, rfl⟩ := rowVals_at hP
    have hqm : q ∈ qs := List.mem_of_getElem? hq
    have hS' := hk' S _ (nI hSI) hS
    have hC' : RowsIn qs h' := fun q0 h0 => by
      obtain ⟨its, m, e1, e2⟩ := hC q0 h0
      exact ⟨its, m, hk' _ _ (nI (hrI q0 h0)) e1, e2⟩
    obtain ⟨i1, m1, e1, f1⟩ := hC' q hqm
    obtain ⟨i2, m2, e2, f2⟩ := hC' _ hb
    show wpAny _ A.in1 (tryCatch (holding [.ref q.1, .ref q.1] (richCompare .Lt (.ref q.1) (.ref b) >>= _)) _ >>= _) _ _ _
    refine wpAny_bind (wpAny_tryCatch (wpAny_holding (wpAny_bind (lt_listI (s := { s with heap := h', toks := tk }) e1 e2 f1 f2 ((hlen q hqm).trans (hlen _ hb).symm) (show A.units + 1 < cLine from hu) ?_))))
    refine wpAny_bind (wpAny_holding (wpAny_truthy_bool (wpAny_bind (wpAny_letGo (wpAny_pure ?_)))))
    cases hbt : HT.lexLt q.2 mb with
    | true =>
      simp only [if_true]
      refine wpAny_bind (wpAny_updateSeq hS' rfl (wpAny_bind (wpAny_letGo ?_)))
      rw [hname]
      have up : ∀ a o, a ≠ S → h'.get? a = some o → (h'.update S (Obj.mapSeq fun _ => #[.ref q.1, .ref q.1])).get? a = some o := fun a o ne e => (Heap.get?_update_other _ _ (Ne.symm ne)).trans e
      refine wpAny_pure ⟨plainId_quiet F.plain_min_loop _, ih (j + 1) _ q.1 q.2 _ (by omega) hlt (W.frame _ _ _ hst' fun a hbf o e => up a o (fun h => hSf (h ▸ hbf)) e) (fun q0 h0 => ?_) hqm (fun i q0 hi h0 => ?_) (Heap.get?_update_self _ hS' rfl)
        fun b' mb' h'' tk'' p1 p2 p3 => hR b' mb' h'' tk'' p1 p2 fun a o h1 h2 e => p3 a o h1 h2 (up a o h2 (hk' a o (nI h1) e))⟩
      · obtain ⟨its, m, g1, g2⟩ := hC' q0 h0
        exact ⟨its, m, up _ _ (hrS q0 h0) g1, g2⟩
      · rcases Nat.lt_or_ge j i with z | z
        · have z2 : i = j + 1 := by omega
          subst z2
          rw [hq] at h0
          cases h0
          exact lex_irr _
        · have h3 := hmin i q0 z h0
          cases h4 : HT.lexLt q0.2 q.2 with
          | false => rfl
          | true =>
            rw [lex_trans _ _ _ h4 hbt] at h3
            cases h3
    | false =>
      simp only [Bool.false_eq_true, if_false]
      refine wpAny_bind (wpAny_letGo ?_)
      rw [hname]
      refine wpAny_pure ⟨plainId_quiet F.plain_min_loop _, ih (j + 1) _ b mb c (by omega) hlt hst' hC' hb (fun i q0 hi h0 => ?_) hS' fun b' mb' h'' tk'' p1 p2 p3 => hR b' mb' h'' tk'' p1 p2 fun a o h1 h2 e => p3 a o h1 h2 (hk' a o (nI h1) e)⟩
      rcases Nat.lt_or_ge j i with z | z
      · have z2 : i = j + 1 := by omega
        subst z2
        rw [hq] at h0
        cases h0
        exact hbt
      · exact hmin i q0 z h0
end
section
variable {prog : Program} {w : World} {A : Around} {E : Value → Shared → Prop} {s : Shared} {l : Addr} {qs : List (Addr × List Int)} {len : Nat}
theorem min_rows {Q : Value → Shared → Prop} (hh : A.handled = none) (hl : s.heap.IsList l (rowVals qs)) (hC : RowsIn qs s.heap) (hne : 0 < qs.length) (hu : A.units + 1 < cLine) (hlen : ∀ q, q ∈ qs → q.2.length = len)
    (h : ∀ b mb h' tk, (b, mb) ∈ qs → (∀ q, q ∈ qs → HT.lexLt q.2 mb = false) → (∀ a o, s.heap.get? a = some o → h'.get? a = some o) → Q (.ref b) { s with heap := h', toks := tk }) : wpAny (model prog w) A (call (.builtin "min") [.ref l]) Q E s := by
  have hname : (toString "min" ++ toString ".loop" : String) = "min.loop" := by decide
  have ll : l < s.heap.objs.size := by obtain ⟨o, ho, _⟩ := hl; exact Heap.lt_size ho
  refine call_function_tree F.kind_min F.plain_min F.entry_min (F.args_min1 _) ?_
  show wpAny _ A.in1 (Builtin.Builtins.bindParams "min" ["key", "default"] 0 ⟨[], []⟩ >>= _) _ _ s
  refine wpAny_bind (wpAny_of_eq (show Builtin.Builtins.bindParams "min" ["key", "default"] 0 ⟨[], []⟩ = pure [none, none] from rfl) ?_)
  refine wpAny_bind (wpAny_pure (wpAny_bind (wpAny_pyIter_list hl ?_)))
  refine wpAny_bind (wpAny_newObj_type ?_)
  rw [hname]
  have lI : l ≠ s.heap.objs.size := Nat.ne_of_lt ll
  have W := Walks.list (prog := prog) (w := w) (A := A.in1) hh s.heap.objs.size l lI (rowVals qs)
  have hn : (rowVals qs).size = qs.length := by simp
  rw [hn] at W
  have st0 : (s.heap.push { cls := .type "list_iterator", data := .fields #[.ref l, .int 0 0] }).IsListIter s.heap.objs.size l 0 ∧ (s.heap.push { cls := .type "list_iterator", data := .fields #[.ref l, .int 0 0] }).IsList l (rowVals qs) := ⟨⟨_, Heap.get?_push_size _ rfl, rfl, rfl⟩, hl.push _⟩
  have k1 : ∀ b o, s.heap.get? b = some o → (s.heap.push { cls := .type "list_iterator", data := .fields #[.ref l, .int 0 0] }).get? b = some o := fun b o e => Heap.get?_push_of_some _ e
  have sz1 : (s.heap.push { cls := .type "list_iterator", data := .fields #[.ref l, .int 0 0] }).objs.size = s.heap.objs.size + 1 := Heap.size_push ..
  generalize s.heap.push { cls := .type "list_iterator", data := .fields #[.ref l, .int 0 0] } = h1 at st0 k1 sz1 ⊢
  have hS : (h1.push { cls := .type "list", data := .seq ([] : List Value).toArray }).get? h1.objs.size = some { cls := .type "list", data := .seq #[] 0 } := Heap.get?_push_size _ rfl
  have k2 : ∀ b o, h1.get? b = some o → (h1.push { cls := .type "list", data := .seq ([] : List Value).toArray }).get? b = some o := fun b o e => Heap.get?_push_of_some _ e
  have hSI : h1.objs.size ≠ s.heap.objs.size := by rw [sz1]; exact Nat.succ_ne_self _
  have hSl : h1.objs.size ≠ l := by rw [sz1]; exact Nat.ne_of_gt (Nat.lt_succ_of_lt ll)
  have rlt : ∀ q, q ∈ qs → q.1 < s.heap.objs.size := fun q hq => by
    obtain ⟨its, m, e, _⟩ := hC q hq
    exact Heap.lt_size e
  have hrI : ∀ q, q ∈ qs → q.1 ≠ s.heap.objs.size := fun q hq => Nat.ne_of_lt (rlt q hq)
  have hrS : ∀ q, q ∈ qs → q.1 ≠ h1.objs.size := fun q hq => by rw [sz1]; exact Nat.ne_of_lt (Nat.lt_succ_of_lt (rlt q hq))
  have hSf : h1.objs.size ∉ [s.heap.objs.size, l] := fun h => by
    rcases List.mem_cons.mp h with h | h
    · exact hSI h
    · exact hSl (List.mem_singleton.mp h)
  refine wpAny_pure ⟨plainId_quiet F.plain_min_loop _, codeAny_builtin F.entry_min_loop ?_⟩
  rw [Around.under_plainId F.plain_min_loop _]
  show wpAny _ A.in1 (seqItems? (.ref h1.objs.size) >>= _) _ _ { s with heap := h1.push { cls := .type "list", data := .seq ([] : List Value).toArray } }
  refine wpAny_bind (wpAny_seqItems hS rfl ?_)
  show wpAny _ A.in1 (tryCatch (pyNext (.ref s.heap.objs.size)) _ >>= _) _ _ _
  refine wpAny_bind (wpAny_tryCatch (W.item 0 _ _ _ hne (W.frame 0 _ _ st0 fun b _ o e => k2 b o e) fun v h' tk hP hst' hk' => ?_))
  obtain ⟨q, hq, rfl⟩ := rowVals_at hP
  have nI : ∀ {b : Addr}, b ≠ s.heap.objs.size → b ∉ [s.heap.objs.size] := fun h z => h (List.mem_singleton.mp z)
  have hS' := hk' _ _ (nI hSI) hS
  show wpAny _ A.in1 (updateSeq h1.objs.size (fun _ => #[.ref q.1, .ref q.1]) >>= _) _ _ _
  refine wpAny_bind (wpAny_updateSeq hS' rfl ?_)
  rw [hname]
  have up : ∀ a o, a ≠ h1.objs.size → h'.get? a = some o → (h'.update h1.objs.size (Obj.mapSeq fun _ => #[.ref q.1, .ref q.1])).get? a = some o := fun a o ne e => (Heap.get?_update_other _ _ (Ne.symm ne)).trans e
  refine wpAny_pure ⟨plainId_quiet F.plain_min_loop _, min_loopR W hu hlen hSI hSl hrI hrS _ 0 _ q.1 q.2 _ rfl hne (W.frame _ _ _ hst' fun a hbf o e => up a o (fun h => hSf (h ▸ hbf)) e) (fun q0 h0 => ?_) (List.mem_of_getElem? hq) (fun i q0 hi h0 => ?_) (Heap.get?_update_self _ hS' rfl) fun b mb h'' tk'' p1 p2 p3 => ?_⟩
  · obtain ⟨its, m, g1, g2⟩ := hC q0 h0
    exact ⟨its, m, up _ _ (hrS q0 h0) (hk' _ _ (nI (hrI q0 h0)) (k2 _ _ (k1 _ _ g1))), g2⟩
  · have z : i = 0 := by omega
    subst z
    rw [hq] at h0
    cases h0
    exact lex_irr _
  · refine h b mb h'' tk'' p1 p2 fun a o e => ?_
    have al : a < s.heap.objs.size := Heap.lt_size e
    have aI : a ≠ s.heap.objs.size := Nat.ne_of_lt al
    have aS : a ≠ h1.objs.size := by rw [sz1]; exact Nat.ne_of_lt (Nat.lt_succ_of_lt al)
    exact p3 a o aI aS (up a o aS (hk' a o (nI aI) (k2 a o (k1 a o e))))
end
section
variable {X : Cx}
/-- min(rows), rows of one length -/
def rMinR (K : PySem.W.Frag) : List V → Hp → VK → Prop := fun vs H Q => ∃ (a : Addr) (qs : List (Addr × List Int)) (len : Nat), vs = [V.ref a] ∧ Rows K H a qs ∧ 0 < qs.length ∧ (∀ q, q ∈ qs → q.2.length = len) ∧
  ∀ b mb, (b, mb) ∈ qs → (∀ q, q ∈ qs → HT.lexLt q.2 mb = false) → Q (.ref b) H
theorem cr_minR (hc : X.calm = true) (hu : X.A.units + 64 < cLine) : CallR X (.builtin "min") (rMinR X.K) := by
  intro pins s σ H vs us Q I r h
  obtain ⟨a, qs, len, rfl, R, hne, hlen, q⟩ := h
  rw [Vals.ref1 r]
  obtain ⟨its, rv, hl, _⟩ := I.list R.at_
  have ei := rows_at rv
  subst ei
  refine min_rows (I.ok.hd hc) hl.isList (fun q0 h0 => ?_) hne (by omega) hlen fun b mb h' tk p1 p2 hk => ⟨.ref b, H, I.kept hk, rfl, q b mb p1 p2⟩
  obtain ⟨_, its, n, rv, e⟩ := I.hok _ _ (R.row q0 h0)
  exact ⟨its, n, e, rv.ints⟩
end
end L2
end
section
set_option Elab.async false
set_option linter.all false
set_option maxRecDepth 100000
set_option maxHeartbeats 2000000
/-! max of a list of ints with a default. -/
namespace L2
open PySem PySem.Spec PyProof.Rows
theorem args_maxD (a v : Value) : argsOk "max" ⟨[a], [(Str.ofString "default", v)]⟩ := by unfold argsOk; kernel_rfl
theorem bind_maxD (v : Value) : Builtin.Builtins.bindParams "max" ["key", "default"] 0 ⟨[], [(Str.ofString "default", v)]⟩ = pure [none, some v] := rfl
/-- a built-in that goes on in another code, called with keywords -/
theorem call_tree_kw {prog : Program} {w : World} {A : Around} {E : Value → Shared → Prop} {s : Shared} {id : String} {b : Builtin} {args : List Value} {kw : List (Str × Value)} {Q : Value → Shared → Prop} (hk : builtinKind id = none) (hp : plainId id = true) (hb : entryFor table id = some b) (ha : argsOk id ⟨args, kw⟩)
    (hc : wpAny (model prog w) A.in1 (b ⟨args, kw⟩) (fun fin s' => match fin with | .done f => wants Q E (.ok f) s' | .again c' => c'.quiet = true ∧ codeAny (model prog w) A c' (wants Q E) s') E s) : wpAny (model prog w) A (call (.builtin id) args kw) Q E s := by
  refine wpAny_call (codeAny_call_builtin hp hb ?_)
  have hc' := wpAny_mono hc (Q' := fun fin s' => match fin with
      | .done f => (match (Except.ok f : Result) with | .ok (.ret v) => Q v s' | .ok _ => False | .error e => E e s')
      | .again c2 => c2.quiet = true ∧ codeAny (model prog w) A c2 (fun r s' => match r with | .ok (.ret v) => Q v s' | .ok _ => False | .error e => E e s') s')
    (fun fin s' q => by
      cases fin with
      | done f => exact q
      | again c' => exact q) fun _ _ q => q
  simp only [checkBuiltinCall, hk]
  cases hs : Manifest.signature? id with
  | none => exact wpAny_pure hc'
  | some sig =>
    have hz : Bind.checkArgs id sig ⟨args, kw⟩ = pure () := by simpa only [argsOk, hs] using ha
    simp only [hz]
    exact wpAny_pure hc'
section
variable {prog : Program} {w : World} {A : Around} {R : Result → Shared → Prop} {I l S : Addr} {its : List Value} {ns : List Int} {kw : List (Str × Value)}
theorem gt_ints {A : Around} {s : Shared} {a c : Int} {t u : Tok} {E : Value → Shared → Prop} {Q : Value → Shared → Prop} (h : Q (.bool (decide (c < a))) s) : wpAny (model prog w) A (richCompare .Gt (.int a t) (.int c u)) Q E s :=
  (PyProof.Rows.gt_int h : wpAny (model prog w) A (compareOp .Gt (.int a t) (.int c u)) Q E s)
theorem max_loopD {St : Nat → Heap → Prop} (W : Walks prog w A.in1 I [I, l] [I] its.length (fun i v => its.toArray[i]? = some v) St) (hi : IntsAre its ns) (hSI : S ≠ I) (hSl : S ≠ l) :
    ∀ (k j : Nat) (s : Shared) (mb : Int) (t : Tok) (c : Nat), its.length - (j + 1) = k → j + 1 ≤ its.length → St (j + 1) s.heap → mb ∈ ns → (∀ (i : Nat) z, i ≤ j → ns[i]? = some z → z ≤ mb) →
    s.heap.get? S = some { cls := .type "list", dict := none, data := .seq #[.int mb t, .int mb t] c, slots := #[] } →
    (∀ m t' h' tk, m ∈ ns → (∀ z, z ∈ ns → z ≤ m) → (∀ a o, a ≠ I → a ≠ S → s.heap.get? a = some o → h'.get? a = some o) → R (.ok (.ret (.int m t'))) { s with heap := h', toks := tk }) →
    codeAny (model prog w) A (.builtin "max.loop" ⟨[.ref I, .none, .ref S], kw⟩) R s := by
  have hSf : S ∉ [I, l] := fun h => by
    rcases List.mem_cons.mp h with h | h
    · exact hSI h
    · exact hSl (List.mem_singleton.mp h)
  have nI : ∀ {b : Addr}, b ≠ I → b ∉ [I] := fun h z => h (List.mem_singleton.mp z)
  have hname : (toString "max" ++ toString ".loop" : String) = "max.loop" := by decide
  have hl2 := hi.length
  intro k
  induction k with
  | zero =>
    intro j s mb t c hk hj hst hb hmax hS hR
    have hin : j + 1 = its.length := by omega
    refine codeAny_builtin F.entry_max_loop ?_
    rw [Around.under_plainId F.plain_max_loop _]
    show wpAny _ A.in1 (seqItems? (.ref S) >>= _) _ _ s
    refine wpAny_bind (wpAny_seqItems hS rfl ?_)
    show wpAny _ A.in1 (tryCatch (pyNext (.ref I)) _ >>= _) _ _ s
    refine wpAny_bind (wpAny_tryCatch (W.done s _ _ (hin ▸ hst) fun h' tk hk' => ?_))
    have hS' := hk' S _ (nI hSI) hS
    show wpAny _ A.in1 (updateSeq S (fun _ => #[]) >>= _) _ _ _
    refine wpAny_bind (wpAny_updateSeq hS' rfl (wpAny_bind (wpAny_letGo (wpAny_pure ?_))))
    refine hR mb t _ tk hb (fun z hz => ?_) fun a o h1 h2 e => (Heap.get?_update_other _ _ (Ne.symm h2)).trans (hk' a o (nI h1) e)
    obtain ⟨i, hi'⟩ := List.mem_iff_getElem?.mp hz
    have : i < ns.length := (List.getElem?_eq_some_iff.mp hi').1
    exact hmax i z (by omega) hi'
  | succ k ih =>
    intro j s mb t c hk hj hst hb hmax hS hR
    have hlt : j + 1 < its.length := by omega
    refine codeAny_builtin F.entry_max_loop ?_
    rw [Around.under_plainId F.plain_max_loop _]
    show wpAny _ A.in1 (seqItems? (.ref S) >>= _) _ _ s
    refine wpAny_bind (wpAny_seqItems hS rfl ?_)
    show wpAny _ A.in1 (tryCatch (pyNext (.ref I)) _ >>= _) _ _ s
    refine wpAny_bind (wpAny_tryCatch (W.item (j + 1) s _ _ hlt hst fun v h' tk hP hst' hk' => ?_))
    have hP : its[j + 1]? = some v := by simpa using hP
    obtain ⟨x, hx⟩ : ∃ x, ns[j + 1]? = some x := ⟨_, List.getElem?_eq_getElem (by omega)⟩
    obtain ⟨t2, ht2⟩ := hi.get (j + 1) x hx
    rw [ht2] at hP
    cases hP
    have hS' := hk' S _ (nI hSI) hS
    show wpAny _ A.in1 (tryCatch (holding [.int x t2, .int x t2] (richCompare .Gt (.int x t2) (.int mb t) >>= _)) _ >>= _) _ _ _
    refine wpAny_bind (wpAny_tryCatch (wpAny_holding (wpAny_bind (gt_ints ?_))))
    refine wpAny_bind (wpAny_holding (wpAny_truthy_bool (wpAny_bind (wpAny_letGo (wpAny_pure ?_)))))
    have old : ∀ {m : Int}, mb ≤ m → x ≤ m → ∀ (i : Nat) z, i ≤ j + 1 → ns[i]? = some z → z ≤ m := fun {m} h1 h2 i z hi' h0 => by
      rcases Nat.lt_or_ge j i with q | q
      · have q2 : i = j + 1 := by omega
        subst q2
        rw [hx] at h0
        cases h0
        exact h2
      · exact Int.le_trans (hmax i z q h0) h1
    by_cases hbt : mb < x
    · rw [decide_eq_true hbt]
      simp only [if_true]
      refine wpAny_bind (wpAny_updateSeq hS' rfl (wpAny_bind (wpAny_letGo ?_)))
      rw [hname]
      have up : ∀ a o, a ≠ S → h'.get? a = some o → (h'.update S (Obj.mapSeq fun _ => #[.int x t2, .int x t2])).get? a = some o := fun a o ne e => (Heap.get?_update_other _ _ (Ne.symm ne)).trans e
      exact wpAny_pure ⟨plainId_quiet F.plain_max_loop _, ih (j + 1) _ x t2 _ (by omega) hlt (W.frame _ _ _ hst' fun a hbf o e => up a o (fun h => hSf (h ▸ hbf)) e) (List.mem_of_getElem? hx) (old (Int.le_of_lt hbt) (Int.le_refl _)) (Heap.get?_update_self _ hS' rfl)
        fun m t' h'' tk'' p1 p2 p3 => hR m t' h'' tk'' p1 p2 fun a o h1 h2 e => p3 a o h1 h2 (up a o h2 (hk' a o (nI h1) e))⟩
    · rw [decide_eq_false hbt]
      simp only [Bool.false_eq_true, if_false]
      refine wpAny_bind (wpAny_letGo ?_)
      rw [hname]
      exact wpAny_pure ⟨plainId_quiet F.plain_max_loop _, ih (j + 1) _ mb t c (by omega) hlt hst' hb (old (Int.le_refl _) (by omega)) hS' fun m t' h'' tk'' p1 p2 p3 => hR m t' h'' tk'' p1 p2 fun a o h1 h2 e => p3 a o h1 h2 (hk' a o (nI h1) e)⟩
end
/-- the greatest, or d where there is none -/
def MaxOr (d : Int) (ns : List Int) (m : Int) : Prop := (ns = [] ∧ m = d) ∨ (m ∈ ns ∧ ∀ z, z ∈ ns → z ≤ m)
section
variable {prog : Program} {w : World} {A : Around} {E : Value → Shared → Prop} {s : Shared} {l : Addr} {its : List Value} {ns : List Int}
theorem max_dflt {Q : Value → Shared → Prop} {d : Int} {td : Tok} (hh : A.handled = none) (hl : s.heap.IsList l its.toArray) (hi : IntsAre its ns)
    (h : ∀ m t h' tk, MaxOr d ns m → (∀ a o, s.heap.get? a = some o → h'.get? a = some o) → Q (.int m t) { s with heap := h', toks := tk }) : wpAny (model prog w) A (call (.builtin "max") [.ref l] [(Str.ofString "default", .int d td)]) Q E s := by
  have hname : (toString "max" ++ toString ".loop" : String) = "max.loop" := by decide
  have ll : l < s.heap.objs.size := by obtain ⟨o, ho, _⟩ := hl; exact Heap.lt_size ho
  refine call_tree_kw F.kind_max F.plain_max F.entry_max (args_maxD _ _) ?_
  show wpAny _ A.in1 (Builtin.Builtins.bindParams "max" ["key", "default"] 0 ⟨[], [(Str.ofString "default", .int d td)]⟩ >>= _) _ _ s
  refine wpAny_bind (wpAny_of_eq (bind_maxD _) ?_)
  refine wpAny_bind (wpAny_pure (wpAny_bind (wpAny_pyIter_list hl ?_)))
  refine wpAny_bind (wpAny_newObj_type ?_)
  rw [hname]
  have lI : l ≠ s.heap.objs.size := Nat.ne_of_lt ll
  have W := Walks.list (prog := prog) (w := w) (A := A.in1) hh s.heap.objs.size l lI its.toArray
  have hn : its.toArray.size = its.length := by simp
  rw [hn] at W
  have st0 : (s.heap.push { cls := .type "list_iterator", data := .fields #[.ref l, .int 0 0] }).IsListIter s.heap.objs.size l 0 ∧ (s.heap.push { cls := .type "list_iterator", data := .fields #[.ref l, .int 0 0] }).IsList l its.toArray := ⟨⟨_, Heap.get?_push_size _ rfl, rfl, rfl⟩, hl.push _⟩
  have k1 : ∀ b o, s.heap.get? b = some o → (s.heap.push { cls := .type "list_iterator", data := .fields #[.ref l, .int 0 0] }).get? b = some o := fun b o e => Heap.get?_push_of_some _ e
  have sz1 : (s.heap.push { cls := .type "list_iterator", data := .fields #[.ref l, .int 0 0] }).objs.size = s.heap.objs.size + 1 := Heap.size_push ..
  generalize s.heap.push { cls := .type "list_iterator", data := .fields #[.ref l, .int 0 0] } = h1 at st0 k1 sz1 ⊢
  have hS : (h1.push { cls := .type "list", data := .seq ([] : List Value).toArray }).get? h1.objs.size = some { cls := .type "list", data := .seq #[] 0 } := Heap.get?_push_size _ rfl
  have k2 : ∀ b o, h1.get? b = some o → (h1.push { cls := .type "list", data := .seq ([] : List Value).toArray }).get? b = some o := fun b o e => Heap.get?_push_of_some _ e
  have hSI : h1.objs.size ≠ s.heap.objs.size := by rw [sz1]; exact Nat.succ_ne_self _
  have hSl : h1.objs.size ≠ l := by rw [sz1]; exact Nat.ne_of_gt (Nat.lt_succ_of_lt ll)
  have hSf : h1.objs.size ∉ [s.heap.objs.size, l] := fun h => by
    rcases List.mem_cons.mp h with h | h
    · exact hSI h
    · exact hSl (List.mem_singleton.mp h)
  have nI : ∀ {b : Addr}, b ≠ s.heap.objs.size → b ∉ [s.heap.objs.size] := fun h z => h (List.mem_singleton.mp z)
  have aI : ∀ {a : Addr} {o : Obj}, s.heap.get? a = some o → a ≠ s.heap.objs.size := fun e => Nat.ne_of_lt (Heap.lt_size e)
  have aS : ∀ {a : Addr} {o : Obj}, s.heap.get? a = some o → a ≠ h1.objs.size := fun e => by rw [sz1]; exact Nat.ne_of_lt (Nat.lt_succ_of_lt (Heap.lt_size e))
  refine wpAny_pure ⟨plainId_quiet F.plain_max_loop _, codeAny_builtin F.entry_max_loop ?_⟩
  rw [Around.under_plainId F.plain_max_loop _]
  show wpAny _ A.in1 (seqItems? (.ref h1.objs.size) >>= _) _ _ { s with heap := h1.push { cls := .type "list", data := .seq ([] : List Value).toArray } }
  refine wpAny_bind (wpAny_seqItems hS rfl ?_)
  show wpAny _ A.in1 (tryCatch (pyNext (.ref s.heap.objs.size)) _ >>= _) _ _ _
  have hl2 := hi.length
  by_cases hne : 0 < its.length
  · refine wpAny_bind (wpAny_tryCatch (W.item 0 _ _ _ hne (W.frame 0 _ _ st0 fun b _ o e => k2 b o e) fun v h' tk hP hst' hk' => ?_))
    have hP : its[0]? = some v := by simpa using hP
    obtain ⟨x, hx⟩ : ∃ x, ns[0]? = some x := ⟨_, List.getElem?_eq_getElem (by omega)⟩
    obtain ⟨t2, ht2⟩ := hi.get 0 x hx
    rw [ht2] at hP
    cases hP
    have hS' := hk' _ _ (nI hSI) hS
    show wpAny _ A.in1 (updateSeq h1.objs.size (fun _ => #[.int x t2, .int x t2]) >>= _) _ _ _
    refine wpAny_bind (wpAny_updateSeq hS' rfl ?_)
    rw [hname]
    have up : ∀ a o, a ≠ h1.objs.size → h'.get? a = some o → (h'.update h1.objs.size (Obj.mapSeq fun _ => #[.int x t2, .int x t2])).get? a = some o := fun a o ne e => (Heap.get?_update_other _ _ (Ne.symm ne)).trans e
    refine wpAny_pure ⟨plainId_quiet F.plain_max_loop _, max_loopD W hi hSI hSl _ 0 _ x t2 _ rfl hne (W.frame _ _ _ hst' fun a hbf o e => up a o (fun h => hSf (h ▸ hbf)) e) (List.mem_of_getElem? hx) (fun i z hi' h0 => ?_) (Heap.get?_update_self _ hS' rfl) fun m t' h'' tk'' p1 p2 p3 => ?_⟩
    · have q : i = 0 := by omega
      subst q
      rw [hx] at h0
      cases h0
      exact Int.le_refl _
    · exact h m t' h'' tk'' (.inr ⟨p1, p2⟩) fun a o e => p3 a o (aI e) (aS e) (up a o (aS e) (hk' a o (nI (aI e)) (k2 a o (k1 a o e))))
  · have e0 : its.length = 0 := by omega
    refine wpAny_bind (wpAny_tryCatch (W.done _ _ _ (W.frame _ _ _ (by rw [e0]; exact st0) fun b _ o e => k2 b o e) fun h' tk hk' => ?_))
    show wpAny _ A.in1 (rule _ >>= fun _ => ret (.int d td)) _ _ _
    refine wpAny_bind (wpAny_rule (wpAny_pure ?_))
    exact h d td h' tk (.inl ⟨List.length_eq_zero_iff.mp (by omega), rfl⟩) fun a o e => hk' a o (nI (aI e)) (k2 a o (k1 a o e))
end
section
variable {X : Cx}
/-- max(ints, default=d) -/
def rMaxD (K : PySem.W.Frag) : St → List V → List V → Hp → VK → Prop := fun _ vs zs H Q => ∃ (a : Addr) (ns : List Int) (d : Int), vs = [V.ref a] ∧ zs = [V.int d] ∧ SqL K H a (ns.map V.int) ∧ ∀ m, MaxOr d ns m → Q (.int m) H
theorem cr_maxD (hc : X.calm = true) : CallKR X (.builtin "max") ["default"] (rMaxD X.K) := by
  intro pins s σ H vs zs us ws Q I r rz h
  obtain ⟨a, ns, d, rfl, rfl, hs, q⟩ := h
  obtain ⟨u, rfl, ru⟩ := vals1 r
  cases ru
  obtain ⟨u, rfl, t, rfl⟩ := vals1 rz
  obtain ⟨its, rv, hl, _⟩ := I.list hs
  show wpAny _ _ (call (.builtin "max") [.ref a] [(Str.ofString "default", .int d t)]) _ _ _
  exact max_dflt (I.ok.hd hc) hl.isList rv.ints fun m t' h' tk p1 hk => ⟨.int m, H, I.kept hk, ⟨_, rfl⟩, q m p1⟩
end
end L2
end
section
set_option Elab.async false
set_option linter.all false
set_option maxRecDepth 100000
set_option maxHeartbeats 2000000
/-! set(ints), len of it. -/
namespace L2
open PySem PySem.Spec PyProof.Rows
/-- a list without doubles, of the same members -/
def Distinct (ns ds : List Int) : Prop := ds.Nodup ∧ ∀ z, z ∈ ds ↔ z ∈ ns
theorem any_mem {l : List Int} {z : Int} : l.any (· == z) = true ↔ z ∈ l := by
  rw [List.any_eq_true]
  constructor
  · rintro ⟨x, hx, e⟩
    rw [← beq_iff_eq.mp e]
    exact hx
  · intro h
    exact ⟨z, h, beq_self_eq_true _⟩
theorem distinct_step {ns ds : List Int} {z : Int} (h : Distinct ns ds) : Distinct (ns ++ [z]) (step_dedup ds z) := by
  unfold step_dedup
  by_cases e : ds.any (· == z) = true
  · rw [if_pos e]
    have e := any_mem.mp e
    refine ⟨h.1, fun y => ?_⟩
    rw [List.mem_append, List.mem_singleton, h.2 y]
    constructor
    · exact .inl
    · rintro (q | q)
      · exact q
      · rw [q]; exact (h.2 z).mp e
  · rw [if_neg e]
    have e : z ∉ ds := fun q => e (any_mem.mpr q)
    refine ⟨?_, fun y => by rw [List.mem_append, List.mem_append, h.2 y]⟩
    rw [List.nodup_append]
    refine ⟨h.1, by simp, fun a ha b hb => ?_⟩
    rw [List.mem_singleton.mp hb]
    exact fun q => e (q ▸ ha)
theorem firstMet_distinct (ns : List Int) : ∀ i, i ≤ ns.length → Distinct (ns.take i) (firstMet (fun i => ns.getD i 0) i)
  | 0, _ => ⟨by rw [firstMet_zero]; exact .nil, fun z => by rw [firstMet_zero]; simp⟩
  | i + 1, h => by
    rw [firstMet_succ]
    have hi : i < ns.length := h
    have e : ns.take (i + 1) = ns.take i ++ [ns.getD i 0] := by
      rw [List.take_add_one, List.getElem?_eq_getElem hi, List.getD_eq_getElem?_getD, List.getElem?_eq_getElem hi]
      rfl
    rw [e]
    exact distinct_step (firstMet_distinct ns i (by omega))
section
variable {X : Cx}
def rSetI (K : PySem.W.Frag) : List V → Hp → VK → Prop := fun vs H Q => ∃ (a : Addr) (ns : List Int), vs = [V.ref a] ∧ SqL K H a (ns.map V.int) ∧ ns.length ≤ 1000 ∧ ∀ (p : Addr) (S : Int → Bool) (ds : List Int), H p = none → Distinct ns ds → Q (.ref p) (upd H p (.set S ds.length))
theorem cr_setI (hc : X.calm = true) : CallR X (.type "set") (rSetI X.K) := by
  intro pins s σ H vs us Q I r h
  obtain ⟨a, ns, rfl, hs, hn, q⟩ := h
  rw [Vals.ref1 r]
  obtain ⟨its, rv, hl, _⟩ := I.list hs
  have hi := rv.ints
  have hlen := hi.length
  have hsz : its.toArray.size = ns.length := by rw [List.size_toArray]; exact hlen
  refine PySem.call_set_list (ns := ns) (I.ok.hd hc) hl.isList (by simpa using hi) (by rw [hsz]; unfold scanBound; omega) fun h' tk hS hk => ?_
  rw [hsz] at hS
  have hd := firstMet_distinct ns ns.length (Nat.le_refl _)
  rw [List.take_of_length_le (Nat.le_refl _)] at hd
  exact ⟨.ref s.heap.objs.size, _, I.laid (o := .set (fun k' => (firstMet (fun i => ns.getD i 0) ns.length).any (· == k')) (firstMet (fun i => ns.getD i 0) ns.length).length) (t' := tk) (fun b o e => hk b o (Heap.lt_size e) e) (Nat.le_refl _) hS, rfl, q _ _ _ I.fresh hd⟩
theorem call_lenS : CallR X (.builtin "len") (fun xs H Q => ∃ a S n, xs = [V.ref a] ∧ H a = some (.set S n) ∧ Q (.int (n : Nat)) H) := by
  intro pins s σ H xs us Q I r h
  obtain ⟨a, S, n, rfl, ha, q⟩ := h
  rw [Vals.ref1 r]
  obtain ⟨o, es, ep, t, ho, hex, hd, _, _, hb, hf, hn⟩ := I.hok a _ ha
  subst hn
  refine call_len_set ho hex hd hf (by unfold scanBound at hb; omega) ⟨.int _, H, I.tok _, ⟨_, rfl⟩, q⟩
end
/-- how many of the numbers below R are in it -/
theorem distinct_count {l : List Nat} {R : Nat} (hR : ∀ x, x ∈ l → x < R) {ds : List Int} (h : Distinct (l.map fun (n : Nat) => (n : Int)) ds) : ds.length = ((List.range R).filter fun r => l.contains r).length := by
  have hp : (((List.range R).filter fun r => l.contains r).map fun (n : Nat) => (n : Int)).Perm ds := by
    refine (List.perm_ext_iff_of_nodup ?_ h.1).mpr fun z => ?_
    · refine List.Pairwise.map _ (fun a b hab q => hab (by omega)) (List.nodup_range.filter _)
    · rw [h.2 z, List.mem_map, List.mem_map]
      constructor
      · rintro ⟨n, hn, rfl⟩
        rw [List.mem_filter] at hn
        exact ⟨n, by simpa using hn.2, rfl⟩
      · rintro ⟨n, hn, rfl⟩
        exact ⟨n, List.mem_filter.mpr ⟨List.mem_range.mpr (hR n hn), by simpa using hn⟩, rfl⟩
  rw [← hp.length_eq, List.length_map]
end L2
end
section
set_option Elab.async false
set_option linter.all false
set_option maxRecDepth 100000
/-! The day's own mathematics: what always holds of a day; how its ways change. -/
namespace Rp
open Si71
theorem getD_set {α : Type} : ∀ (l : List α) (i j : Nat) (t z : α), (l.set i t).getD j z = if i = j ∧ i < l.length then t else l.getD j z
  | [], i, j, t, z => by simp
  | a :: l, 0, 0, t, z => by simp
  | a :: l, 0, j + 1, t, z => by simp
  | a :: l, i + 1, 0, t, z => by simp
  | a :: l, i + 1, j + 1, t, z => by
    have ih := getD_set l i j t z
    show (l.set i t).getD j z = _
    rw [ih]
    by_cases h : i = j ∧ i < l.length
    · rw [if_pos h, if_pos (by simp; exact h)]
    · rw [if_neg h, if_neg (fun q => h ⟨by omega, by have := q.2; rw [List.length_cons] at this; omega⟩)]
      rfl
theorem ix_lt {n h k : Nat} (a : h < n) (b : k < n) : h * n + k < n * n := by
  have : (h + 1) * n ≤ n * n := Nat.mul_le_mul_right n a
  rw [Nat.succ_mul] at this
  omega
theorem ix_inj {n h k h' k' : Nat} (b : k < n) (b' : k' < n) (e : h * n + k = h' * n + k') : h = h' ∧ k = k' := by
  have hn : 0 < n := by omega
  have e1 : (h * n + k) / n = h := by rw [Nat.mul_comm, Nat.mul_add_div hn, Nat.div_eq_of_lt b, Nat.add_zero]
  have e2 : (h' * n + k') / n = h' := by rw [Nat.mul_comm, Nat.mul_add_div hn, Nat.div_eq_of_lt b', Nat.add_zero]
  have e3 : h = h' := by rw [← e1, ← e2, e]
  subst e3
  exact ⟨rfl, by omega⟩
/-- what always holds of a day -/
structure Good (d : Day) : Prop where
  r1 : 1 ≤ d.refs
  r4 : d.refs ≤ 4
  h1 : 1 ≤ d.halls
  h4 : d.halls ≤ 4
  wl : d.ways.length = d.halls * d.halls
  ws : ∀ h k, h < d.halls → k < d.halls → d.way h k = d.way k h
  wz : ∀ h, h < d.halls → d.way h h = 0
  wm : ∀ h k, d.way h k ≤ 1000
  gl : d.games.length ≤ 6
  gh : ∀ g, g ∈ d.games → g.hall < d.halls ∧ g.from_ < g.to_ ∧ g.to_ ≤ 1000 ∧ g.one < 20 ∧ g.two < 20
theorem good_init : Good Si71.init := by
  refine ⟨by decide, by decide, by decide, by decide, rfl, ?_, ?_, ?_, by decide, ?_⟩
  · intro h k a b
    have a : h < 1 := a
    have b : k < 1 := b
    have : h = 0 := by omega
    have : k = 0 := by omega
    subst h k
    rfl
  · intro h a
    have a : h < 1 := a
    have : h = 0 := by omega
    subst h
    rfl
  · intro h k
    unfold Day.way Si71.init
    cases e : h * 1 + k with
    | zero => simp
    | succ j => simp
  · intro g hg
    cases hg
theorem getD_rep (m j : Nat) : (List.replicate m (0 : Nat)).getD j 0 = 0 := by
  rw [List.getD_eq_getElem?_getD, List.getElem?_replicate]
  by_cases h : j < m
  · rw [if_pos h]; rfl
  · rw [if_neg h]; rfl
/-- the day that begins makes -/
def fresh (n m : Nat) : Day := ⟨n, m, List.replicate (m * m) 0, [], []⟩
theorem fresh_way (n m h k : Nat) : (fresh n m).way h k = 0 := getD_rep _ _
theorem good_fresh {n m : Nat} (h : ¬ (n < 1 ∨ REFS < n ∨ m < 1 ∨ HALLS < m)) : Good (fresh n m) := by
  unfold REFS HALLS at h
  refine ⟨?_, ?_, ?_, ?_, ?_, ?_, ?_, ?_, ?_, ?_⟩
  · show 1 ≤ n; omega
  · show n ≤ 4; omega
  · show 1 ≤ m; omega
  · show m ≤ 4; omega
  · show (List.replicate (m * m) 0).length = m * m
    rw [List.length_replicate]
  · intro h k _ _; rw [fresh_way, fresh_way]
  · intro h _; exact fresh_way _ _ _ _
  · intro h k; rw [fresh_way]; omega
  · show ([] : List Game).length ≤ 6; decide
  · intro g hg; cases hg
/-- the day with another way told -/
def setWay (d : Day) (h k t : Nat) : Day := { d with ways := (d.ways.set (h * d.halls + k) t).set (k * d.halls + h) t }
theorem setWay_way {d : Day} {h k t a b : Nat} (wl : d.ways.length = d.halls * d.halls) (hh : h < d.halls) (hk : k < d.halls) (ha : a < d.halls) (hb : b < d.halls) :
    (setWay d h k t).way a b = if (a = h ∧ b = k) ∨ (a = k ∧ b = h) then t else d.way a b := by
  show ((d.ways.set (h * d.halls + k) t).set (k * d.halls + h) t).getD (a * d.halls + b) 0 = _
  rw [getD_set, getD_set, List.length_set, wl]
  have i1 := ix_lt hh hk
  have i2 := ix_lt hk hh
  by_cases c1 : a = k ∧ b = h
  · obtain ⟨rfl, rfl⟩ := c1
    rw [if_pos ⟨rfl, i2⟩, if_pos (Or.inr ⟨rfl, rfl⟩)]
  · have n1 : ¬ (k * d.halls + h = a * d.halls + b ∧ k * d.halls + h < d.halls * d.halls) := fun q => by
      obtain ⟨x, y⟩ := ix_inj hh hb q.1
      exact c1 ⟨x.symm, y.symm⟩
    rw [if_neg n1]
    by_cases c2 : a = h ∧ b = k
    · obtain ⟨rfl, rfl⟩ := c2
      rw [if_pos ⟨rfl, i1⟩, if_pos (Or.inl ⟨rfl, rfl⟩)]
    · have n2 : ¬ (h * d.halls + k = a * d.halls + b ∧ h * d.halls + k < d.halls * d.halls) := fun q => by
        obtain ⟨x, y⟩ := ix_inj hk hb q.1
        exact c2 ⟨x.symm, y.symm⟩
      rw [if_neg n2, if_neg (fun q => q.elim c2 c1)]
      rfl
theorem setWay_le {d : Day} {h k t a b : Nat} (wm : ∀ h k, d.way h k ≤ 1000) (ht : t ≤ 1000) : (setWay d h k t).way a b ≤ 1000 := by
  show ((d.ways.set (h * d.halls + k) t).set (k * d.halls + h) t).getD (a * d.halls + b) 0 ≤ 1000
  rw [getD_set, getD_set]
  have := wm a b
  unfold Day.way at this
  split
  · exact ht
  · split
    · exact ht
    · exact this
theorem good_setWay {d : Day} {h k t : Nat} (G : Good d) (hh : h < d.halls) (hk : k < d.halls) (ht : t ≤ 1000) (ne : h ≠ k) : Good (setWay d h k t) := by
  refine ⟨G.r1, G.r4, G.h1, G.h4, ?_, ?_, ?_, ?_, G.gl, G.gh⟩
  · show ((d.ways.set _ t).set _ t).length = d.halls * d.halls
    rw [List.length_set, List.length_set, G.wl]
  · intro a b ha hb
    have ha : a < d.halls := ha
    have hb : b < d.halls := hb
    rw [setWay_way G.wl hh hk ha hb, setWay_way G.wl hh hk hb ha, G.ws a b ha hb]
    by_cases c : (a = h ∧ b = k) ∨ (a = k ∧ b = h)
    · rw [if_pos c, if_pos (by omega)]
    · rw [if_neg c, if_neg (by omega)]
  · intro a ha
    have ha : a < d.halls := ha
    rw [setWay_way G.wl hh hk ha ha, if_neg (by omega), G.wz a ha]
  · intro a b
    exact setWay_le G.wm ht
def addGame (d : Day) (g : Game) : Day := { d with games := d.games ++ [g] }
theorem good_addGame {d : Day} {g : Game} (G : Good d) (h1 : g.hall < d.halls) (h2 : ¬ (g.to_ ≤ g.from_ ∨ LONG < g.to_ ∨ TEAMS ≤ g.one ∨ TEAMS ≤ g.two ∨ g.one = g.two)) (h3 : d.games.length < 6) : Good (addGame d g) := by
  refine ⟨G.r1, G.r4, G.h1, G.h4, G.wl, G.ws, G.wz, G.wm, ?_, ?_⟩
  · show (d.games ++ [g]).length ≤ 6
    rw [List.length_append, List.length_singleton]
    omega
  · intro x hx
    have hx : x ∈ d.games ++ [g] := hx
    rcases List.mem_append.mp hx with q | q
    · exact G.gh x q
    · rw [List.mem_singleton.mp q]
      unfold LONG TEAMS at h2
      exact ⟨h1, by omega, by omega, by omega, by omega⟩
def addBar (d : Day) (r t : Nat) : Day := { d with bars := d.bars ++ [(r, t)] }
theorem good_addBar {d : Day} {r t : Nat} (G : Good d) : Good (addBar d r t) := ⟨G.r1, G.r4, G.h1, G.h4, G.wl, G.ws, G.wz, G.wm, G.gl, G.gh⟩
theorem step_begins (d : Day) (n m : Nat) : step d (.begins n m) = if n < 1 ∨ REFS < n ∨ m < 1 ∨ HALLS < m then (d, ok (-1)) else (fresh n m, ok 0) := rfl
theorem step_way (d : Day) (h k t : Nat) : step d (.way h k t) = if d.halls ≤ h ∨ d.halls ≤ k then (d, ok (-2)) else if LONG < t then (d, ok (-1)) else if h = k then (d, ok (-4)) else (setWay d h k t, ok 0) := rfl
theorem step_game (d : Day) (g : Game) : step d (.game g) = if d.halls ≤ g.hall then (d, ok (-2)) else if g.to_ ≤ g.from_ ∨ LONG < g.to_ ∨ TEAMS ≤ g.one ∨ TEAMS ≤ g.two ∨ g.one = g.two then (d, ok (-1)) else if GAMES ≤ d.games.length then (d, ok (-5)) else (addGame d g, ok ((d.games.length : Nat) : Int)) := rfl
theorem step_bar (d : Day) (r t : Nat) : step d (.bar r t) = if d.refs ≤ r then (d, ok (-2)) else if TEAMS ≤ t then (d, ok (-1)) else if d.bars.contains (r, t) = true then (d, ok (-4)) else (addBar d r t, ok ((d.bars.length : Nat) + 1)) := rfl
end Rp
end
section
set_option Elab.async false
set_option linter.all false
set_option maxRecDepth 100000
/-! The line: calls as one list of numbers, answers as one. -/
namespace Rp
open Si71
/-- a call's numbers as they stand in the line -/
def one : List Int → List Int
  | [] => []
  | p :: ns => p :: (ns.length : Int) :: (ns ++ [0])
def line : List (List Int) → List Int
  | [] => []
  | q :: r => one q ++ line r
def ansOf (a : Ans) : List Int := a.v :: a.l
/-- what is answered, from a day on -/
def play (d : Day) : List (List Int) → List Int
  | [] => []
  | q :: r => match Si71Neutral.callOf q with
    | none => []
    | some c => ((ansOf (step d c).2).length : Int) :: (ansOf (step d c).2 ++ play (step d c).1 r)
theorem play_cons {d : Day} {q : List Int} {r : List (List Int)} {c : Call} (e : Si71Neutral.callOf q = some c) : play d (q :: r) = ((ansOf (step d c).2).length : Int) :: (ansOf (step d c).2 ++ play (step d c).1 r) := by
  show (match Si71Neutral.callOf q with
    | none => []
    | some c => ((ansOf (step d c).2).length : Int) :: (ansOf (step d c).2 ++ play (step d c).1 r)) = _
  rw [e]
/-- a call that may be asked -/
structure Fine (q : List Int) : Prop where
  nn : ∀ z, z ∈ q → 0 ≤ z
  is : ∃ c, Si71Neutral.callOf q = some c
theorem Fine.cons {q : List Int} (h : Fine q) : ∃ p ns, q = p :: ns := by
  cases q with
  | nil =>
    obtain ⟨c, e⟩ := h.is
    exact nomatch e
  | cons p ns => exact ⟨p, ns, rfl⟩
theorem neutral_step {d : Day} {q : List Int} {c : Call} (e : Si71Neutral.callOf q = some c) : Si71Neutral.step d [q] = ((step d c).1, ansOf (step d c).2) := by
  show (match Si71Neutral.callOf q with
    | none => (d, [])
    | some q =>
      let r := Si71.step d q
      (r.1, r.2.v :: r.2.l)) = _
  rw [e]
  rfl
theorem told_played : ∀ (rs : List (List Int)) (d : Day), (∀ q, q ∈ rs → Fine q) → PyFlat.told (PyFlat.played Si71Neutral.step d (rs.map fun q => [q])) = play d rs
  | [], d, _ => rfl
  | q :: rs, d, h => by
    obtain ⟨c, e⟩ := (h q (List.mem_cons_self ..)).is
    have ih := told_played rs (step d c).1 fun x hx => h x (List.mem_cons_of_mem _ hx)
    rw [play_cons e, ← ih]
    show PyFlat.told ((Si71Neutral.step d [q]).2 :: PyFlat.played Si71Neutral.step (Si71Neutral.step d [q]).1 (rs.map fun q => [q])) = _
    rw [neutral_step e]
    rfl
theorem short_len : ∀ (rs : List (List Int)) (d : Day) (n : Nat), (∀ q, q ∈ rs → Fine q) → Si71Neutral.short d n (rs.map fun q => [q]) = true → (play d rs).length ≤ n + rs.length
  | [], d, n, _, _ => Nat.zero_le _
  | q :: rs, d, n, h, hs => by
    obtain ⟨c, e⟩ := (h q (List.mem_cons_self ..)).is
    have hs' : (decide ((Si71Neutral.step d [q]).2.length ≤ n) && Si71Neutral.short (Si71Neutral.step d [q]).1 (n - (Si71Neutral.step d [q]).2.length) (rs.map fun q => [q])) = true := hs
    rw [neutral_step e, Bool.and_eq_true] at hs'
    have h1 : (ansOf (step d c).2).length ≤ n := of_decide_eq_true hs'.1
    have ih := short_len rs (step d c).1 _ (fun x hx => h x (List.mem_cons_of_mem _ hx)) hs'.2
    rw [play_cons e, List.length_cons, List.length_append, List.length_cons]
    show _ ≤ _
    have ih' : (play (step d c).1 rs).length ≤ n - (ansOf (step d c).2).length + rs.length := ih
    omega
theorem rows_of : ∀ (cs : List (List (List Int))), (∀ c, c ∈ cs → Si71Neutral.asked1 c = true) → ∃ rs : List (List Int), cs = rs.map (fun q => [q]) ∧ ∀ q, q ∈ rs → Fine q
  | [], _ => ⟨[], rfl, fun q h => nomatch h⟩
  | c :: cs, h => by
    obtain ⟨rs, e, f⟩ := rows_of cs fun x hx => h x (List.mem_cons_of_mem _ hx)
    have hc := h c (List.mem_cons_self ..)
    unfold Si71Neutral.asked1 at hc
    rw [Bool.and_eq_true, Bool.and_eq_true] at hc
    obtain ⟨h1, h2, h3⟩ := hc
    match c, h1, h2, h3 with
    | [], h1, _, _ => exact absurd h1 (by decide)
    | [q], _, h2, h3 =>
      refine ⟨q :: rs, by rw [e]; rfl, fun x hx => ?_⟩
      rcases List.mem_cons.mp hx with z | z
      · subst z
        refine ⟨fun y hy => ?_, Option.isSome_iff_exists.mp h3⟩
        have h4 := List.all_eq_true.mp h2 y hy
        unfold Si71Neutral.natural at h4
        rw [Bool.and_eq_true] at h4
        exact of_decide_eq_true h4.1
      · exact f x z
    | _ :: _ :: _, h1, _, _ => simp at h1
theorem put_line : ∀ (rs : List (List Int)), (∀ q, q ∈ rs → Fine q) → PyWide.put (rs.map fun q => [q]) = line rs
  | [], _ => rfl
  | q :: rs, h => by
    obtain ⟨p, ns, rfl⟩ := (h q (List.mem_cons_self ..)).cons
    have ih := put_line rs fun x hx => h x (List.mem_cons_of_mem _ hx)
    show PyWide.put1 [p :: ns] ++ PyWide.put (rs.map fun q => [q]) = one (p :: ns) ++ line rs
    rw [ih]
    rfl
/-- what is asked of a line, and what is due, call by call -/
theorem asked_line {l : List Int} (h : PySi71.answers_asked l = true) : ∃ rs : List (List Int), l = line rs ∧ rs.length ≤ 60 ∧ (∀ q, q ∈ rs → Fine q) ∧ PySi71.answers l = play Si71.init rs ∧ (play Si71.init rs).length ≤ 1000059 := by
  unfold PySi71.answers_asked at h
  unfold PySi71.answers
  cases e : PySi71.calls l with
  | none =>
    rw [e] at h
    exact absurd h Bool.false_ne_true
  | some cs =>
    rw [e] at h
    have h : (PyFlat.atMost 60 cs && Si71Neutral.asked cs) = true := h
    rw [Bool.and_eq_true] at h
    obtain ⟨h1, h2⟩ := h
    have h1 : cs.length ≤ 60 := of_decide_eq_true h1
    unfold Si71Neutral.asked at h2
    rw [Bool.and_eq_true, Bool.and_eq_true, Bool.and_eq_true, Bool.and_eq_true] at h2
    obtain ⟨h3, _, _, _, h4⟩ := h2
    obtain ⟨rs, rfl, f⟩ := rows_of cs fun c hc => List.all_eq_true.mp h3 c hc
    have a := (PyWide.put_calls _ _ _ e).1
    rw [put_line rs f] at a
    rw [List.length_map] at h1
    have b := short_len rs _ _ f h4
    have b : (play Si71.init rs).length ≤ 999999 + rs.length := b
    exact ⟨rs, a, h1, f, told_played rs _ f, by omega⟩
end Rp
end
section
set_option Elab.async false
set_option linter.all false
set_option maxRecDepth 100000
namespace Rp
open Si71
theorem nats_of : ∀ (ns : List Int), (∀ z, z ∈ ns → 0 ≤ z) → ns = (ns.map Int.toNat).map fun (n : Nat) => (n : Int)
  | [], _ => rfl
  | z :: ns, h => by
    have ih := nats_of ns fun x hx => h x (List.mem_cons_of_mem _ hx)
    have hz := h z (List.mem_cons_self ..)
    rw [List.map_cons, List.map_cons, ← ih, Int.toNat_of_nonneg hz]
/-- which call it is -/
inductive Is : Int → List Int → Call → Prop
  | begins (n m : Nat) : Is 0 [(n : Int), (m : Int)] (.begins n m)
  | way (h k t : Nat) : Is 1 [(h : Int), (k : Int), (t : Int)] (.way h k t)
  | game (g : Game) : Is 2 [(g.hall : Int), (g.from_ : Int), (g.to_ : Int), (g.one : Int), (g.two : Int)] (.game g)
  | bar (r t : Nat) : Is 3 [(r : Int), (t : Int)] (.bar r t)
  | check (l : List Nat) : l.length ≤ 8 → Is 4 (l.map fun (n : Nat) => (n : Int)) (.check l)
  | best : Is 5 [] .best
  | fewest : Is 6 [] .fewest
  | fair : Is 7 [] .fair
theorem call_is {z : Int} {ns : List Int} {c : Call} (h : Fine (z :: ns)) (e : Si71Neutral.callOf (z :: ns) = some c) : Is z ns c := by
  have hz := h.nn z (List.mem_cons_self ..)
  have hn := nats_of ns fun x hx => h.nn x (List.mem_cons_of_mem _ hx)
  unfold Si71Neutral.callOf at e
  rw [List.map_cons] at e
  have ez : z = ((z.toNat : Nat) : Int) := (Int.toNat_of_nonneg hz).symm
  generalize z.toNat = k at e ez
  generalize ns.map Int.toNat = m at e hn
  subst ez hn
  split at e <;> rename_i q
  all_goals first
    | (injection q with q1 q2; subst q1 q2; cases e; exact Is.begins _ _)
    | (injection q with q1 q2; subst q1 q2; cases e; exact Is.way _ _ _)
    | (injection q with q1 q2; subst q1 q2; cases e; exact Is.game ⟨_, _, _, _, _⟩)
    | (injection q with q1 q2; subst q1 q2; cases e; exact Is.bar _ _)
    | (injection q with q1 q2; subst q1 q2; cases e; exact Is.best)
    | (injection q with q1 q2; subst q1 q2; cases e; exact Is.fewest)
    | (injection q with q1 q2; subst q1 q2; cases e; exact Is.fair)
    | (injection q with q1 q2
       subst q1 q2
       split at e
       · rename_i hl
         cases e
         exact Is.check _ hl
       · cases e)
    | cases e
end Rp
end
section
set_option Elab.async false
set_option linter.all false
set_option maxRecDepth 100000
/-! A plan's way: the order of a referee's games, the way along them. -/
namespace Rp
open Si71
/-- which game comes first -/
def leG (d : Day) (i k : Nat) : Bool := decide ((d.game i).from_ < (d.game k).from_) || ((d.game i).from_ == (d.game k).from_ && decide (i ≤ k))
theorem leG_iff {d : Day} {i k : Nat} : leG d i k = true ↔ (d.game i).from_ < (d.game k).from_ ∨ ((d.game i).from_ = (d.game k).from_ ∧ i ≤ k) := by
  unfold leG
  rw [Bool.or_eq_true, Bool.and_eq_true, decide_eq_true_iff, beq_iff_eq, decide_eq_true_iff]
theorem leG_trans {d : Day} (a b c : Nat) (h : leG d a b = true) (h' : leG d b c = true) : leG d a c = true := by
  rw [leG_iff] at h h' ⊢
  omega
theorem leG_total {d : Day} (a b : Nat) : (leG d a b || leG d b a) = true := by
  rw [Bool.or_eq_true, leG_iff, leG_iff]
  omega
theorem leG_anti {d : Day} {a b : Nat} (h : leG d a b = true) (h' : leG d b a = true) : a = b := by
  rw [leG_iff] at h h'
  omega
theorem ofRef_eq {d : Day} {l xs : List Nat} {r : Nat} (hp : xs.Perm ((List.range l.length).filter fun i => l.getD i 0 == r)) (hs : xs.Pairwise fun a b => leG d a b = true) : d.ofRef l r = xs :=
  List.Perm.eq_of_pairwise (le := fun a b => leG d a b = true) (fun _ _ _ _ h h' => leG_anti h h') (List.pairwise_mergeSort leG_trans leG_total _) hs ((List.mergeSort_perm _ _).trans hp.symm)
/-- the way from the last of them -/
def hop (d : Day) (xs : List Nat) (k : Nat) : Nat := match xs.getLast? with
  | none => 0
  | some i => d.way (d.game i).hall (d.game k).hall
theorem along_snoc (d : Day) (k : Nat) : ∀ xs : List Nat, d.along (xs ++ [k]) = d.along xs + hop d xs k
  | [] => rfl
  | [i] => by
    show d.way (d.game i).hall (d.game k).hall + d.along [k] = 0 + d.way (d.game i).hall (d.game k).hall
    show d.way (d.game i).hall (d.game k).hall + 0 = _
    omega
  | i :: j :: xs => by
    have ih := along_snoc d k (j :: xs)
    show d.way (d.game i).hall (d.game j).hall + d.along ((j :: xs) ++ [k]) = (d.way (d.game i).hall (d.game j).hall + d.along (j :: xs)) + hop d (i :: j :: xs) k
    rw [ih]
    have e : hop d (i :: j :: xs) k = hop d (j :: xs) k := by
      unfold hop
      rw [List.getLast?_cons_cons]
    rw [e]
    omega
/-- the way of all referees over a part of the games -/
def waysOf (d : Day) (l : List Nat) (R : Nat) (xs : List Nat) : Nat := ((List.range R).map fun r => d.along (xs.filter fun i => l.getD i 0 == r)).sum
theorem sum_snoc (l : List Nat) (z : Nat) : (l ++ [z]).sum = l.sum + z := by
  induction l with
  | nil => simp
  | cons a l ih => rw [List.cons_append, List.sum_cons, List.sum_cons, ih]; omega
theorem waysOf_succ (d : Day) (l : List Nat) (R : Nat) (xs : List Nat) : waysOf d l (R + 1) xs = waysOf d l R xs + d.along (xs.filter fun i => l.getD i 0 == R) := by
  unfold waysOf
  rw [List.range_succ, List.map_append, List.map_cons, List.map_nil, sum_snoc]
theorem waysOf_nil (d : Day) (l : List Nat) : ∀ R, waysOf d l R [] = 0
  | 0 => rfl
  | R + 1 => by
    rw [waysOf_succ, waysOf_nil d l R]
    rfl
theorem waysOf_snoc (d : Day) (l : List Nat) (xs : List Nat) (k : Nat) : ∀ R, waysOf d l R (xs ++ [k]) = waysOf d l R xs + if l.getD k 0 < R then hop d (xs.filter fun i => l.getD i 0 == l.getD k 0) k else 0
  | 0 => by
    rw [if_neg (Nat.not_lt_zero _)]
    rfl
  | R + 1 => by
    rw [waysOf_succ, waysOf_succ, waysOf_snoc d l xs k R, List.filter_append]
    by_cases h : l.getD k 0 = R
    · rw [if_neg (by omega), if_pos (by omega), List.filter_cons, if_pos (beq_iff_eq.mpr h), List.filter_nil, along_snoc, h]
      omega
    · rw [List.filter_cons, if_neg (fun q => h (beq_iff_eq.mp q)), List.filter_nil, List.append_nil]
      by_cases h2 : l.getD k 0 < R
      · rw [if_pos h2, if_pos (by omega)]
        omega
      · rw [if_neg h2, if_neg (by omega)]
        omega
/-- one step of the search -/
def upB (d : Day) (f : List Nat → Nat) (r : Option Best) (l : List Nat) : Option Best := match r with
  | none => some ⟨f l, d.total l, 1, l⟩
  | some x => if better (f l) (d.total l) x.first x.way = true then some ⟨f l, d.total l, 1, l⟩ else if f l = x.first ∧ d.total l = x.way then some { x with many := x.many + 1 } else some x
theorem bestBy_eq (d : Day) (f : List Nat → Nat) : d.bestBy f = d.plans.foldl (upB d f) none := rfl
theorem better_iff {a b c e : Nat} : better a b c e = true ↔ a < c ∨ (a = c ∧ b < e) := by
  unfold better
  rw [Bool.or_eq_true, Bool.and_eq_true, decide_eq_true_iff, beq_iff_eq, decide_eq_true_iff]
theorem rows_len (k : Nat) : ∀ (n : Nat) (l : List Nat), l ∈ rows k n → l.length = n ∧ ∀ x, x ∈ l → x < k
  | 0, l, h => by
    have e : l = [] := List.mem_singleton.mp h
    subst e
    exact ⟨rfl, fun x hx => nomatch hx⟩
  | n + 1, l, h => by
    have h : l ∈ (List.range k).flatMap fun t => (rows k n).map fun l => t :: l := h
    obtain ⟨t, ht, h2⟩ := List.mem_flatMap.mp h
    obtain ⟨m, hm, rfl⟩ := List.mem_map.mp h2
    obtain ⟨h3, h4⟩ := rows_len k n m hm
    refine ⟨by rw [List.length_cons, h3], fun x hx => ?_⟩
    rcases List.mem_cons.mp hx with z | z
    · rw [z]
      exact List.mem_range.mp ht
    · exact h4 x z
theorem told_row {d : Day} {l : List Nat} (h : l ∈ rows d.refs d.games.length) : d.told l = true := by
  obtain ⟨h1, h2⟩ := rows_len _ _ _ h
  unfold Day.told
  rw [Bool.and_eq_true, beq_iff_eq, List.all_eq_true]
  exact ⟨h1, fun x hx => decide_eq_true (h2 x hx)⟩
end Rp
end
section
set_option Elab.async false
set_option linter.all false
set_option maxRecDepth 100000
set_option maxHeartbeats 2000000
/-! The data: a Day object as it stands between two calls. -/
namespace Rp
open PySem PySem.Spec PyProof.Rows L2
def top (i : Nat) : Stmt := PySem.Challenge.pw_refereeplans_s01_answers.main.body.getD i (.Pass ⟨0, 0, 0, 0⟩)
/-- the attributes of a Day -/
def df (r h : Int) (w g b : Addr) : List (Str × V) := [("referees", .int r), ("halls", .int h), ("ways", .ref w), ("games", .ref g), ("bars", .ref b)]
section
variable (r h : Int) (w g b : Addr)
theorem df_referees : (df r h w g b).lookup ("referees" : Str) = some (.int r) := by rfl
theorem df_halls : (df r h w g b).lookup ("halls" : Str) = some (.int h) := by rfl
theorem df_ways : (df r h w g b).lookup ("ways" : Str) = some (.ref w) := by rfl
theorem df_games : (df r h w g b).lookup ("games" : Str) = some (.ref g) := by rfl
theorem df_bars : (df r h w g b).lookup ("bars" : Str) = some (.ref b) := by rfl
theorem df_no {m : Str} (h1 : ¬ m = "referees") (h2 : ¬ m = "halls") (h3 : ¬ m = "ways") (h4 : ¬ m = "games") (h5 : ¬ m = "bars") : (df r h w g b).lookup m = none := by
  unfold df
  have k : ∀ {x : Str}, ¬ m = x → (m == x) = false := fun z => beq_eq_false_iff_ne.mpr z
  simp only [List.lookup, k h1, k h2, k h3, k h4, k h5]
theorem put_referees (z : Int) : putF "referees" (.int z) (df r h w g b) = df z h w g b := by rfl
theorem put_halls (z : Int) : putF "halls" (.int z) (df r h w g b) = df r z w g b := by rfl
theorem put_ways (z : Addr) : putF "ways" (.ref z) (df r h w g b) = df r h z g b := by rfl
theorem put_games (z : Addr) : putF "games" (.ref z) (df r h w g b) = df r h w z b := by rfl
theorem put_bars (z : Addr) : putF "bars" (.ref z) (df r h w g b) = df r h w g z := by rfl
end
/-- a key of two numbers; a bar's entry; a game's tuple -/
def k2 (a b : Nat) : List Key := [Sum.inl (a : Int), Sum.inl (b : Int)]
theorem k2_inj {a b c e : Nat} (h : k2 a b = k2 c e) : a = c ∧ b = e := by
  unfold k2 at h
  injection h with h1 h2
  injection h2 with h3 _
  injection h1 with h1
  injection h3 with h3
  exact ⟨by omega, by omega⟩
theorem k2_ne {a b c e : Nat} (h : ¬ (a = c ∧ b = e)) : ¬ k2 a b = k2 c e := fun q => h (k2_inj q)
def barV (x : Nat × Nat) : List Key × V := (k2 x.1 x.2, .bl true)
/-- the attributes of a Game -/
def gf (x : Si71.Game) : List (Str × V) := [("hall", .int (x.hall : Nat)), ("begin", .int (x.from_ : Nat)), ("end", .int (x.to_ : Nat)), ("one", .int (x.one : Nat)), ("other", .int (x.two : Nat))]
section
variable (x : Si71.Game)
theorem gf_hall : (gf x).lookup ("hall" : Str) = some (.int (x.hall : Nat)) := by rfl
theorem gf_begin : (gf x).lookup ("begin" : Str) = some (.int (x.from_ : Nat)) := by rfl
theorem gf_end : (gf x).lookup ("end" : Str) = some (.int (x.to_ : Nat)) := by rfl
theorem gf_one : (gf x).lookup ("one" : Str) = some (.int (x.one : Nat)) := by rfl
theorem gf_other : (gf x).lookup ("other" : Str) = some (.int (x.two : Nat)) := by rfl
end
/-- a Game stands at t -/
def GameAt (G : Addr) (H : Hp) (t : Addr) (x : Si71.Game) : Prop := ∃ dx, H t = some (.ins G dx (gf x))
theorem bars_val : ∀ (bs : List (Nat × Nat)) (r t : Nat), (valV (bs.map barV) (k2 r t)).isSome = bs.contains (r, t)
  | [], r, t => rfl
  | (a, c) :: bs, r, t => by
    have ih := bars_val bs r t
    rw [List.map_cons, List.contains_cons]
    by_cases e : a = r ∧ c = t
    · obtain ⟨rfl, rfl⟩ := e
      rw [valV_pos (by rfl : (barV (a, c)).1 = k2 a c)]
      simp
    · rw [valV_neg (k2_ne e), ih]
      have : ((r, t) == (a, c)) = false := beq_eq_false_iff_ne.mpr fun q => e ⟨(congrArg Prod.fst q).symm, (congrArg Prod.snd q).symm⟩
      rw [this, Bool.false_or]
/-- a Day stands at p, its dicts at w and b, its list of games at g; it tells of the day d; n: no more calls than that so far -/
structure DayAt (C G : Addr) (H : Hp) (p w g b : Addr) (d : Si71.Day) (n : Nat) : Prop where
  ob : ∃ dx, H p = some (.ins C dx (df (d.refs : Nat) (d.halls : Nat) w g b))
  wy : ∃ ks, H w = some (.dT ks) ∧ ks.length ≤ 2 * n ∧ ∀ h k : Nat, h < d.halls → k < d.halls → (valV ks (k2 h k)).getD (.int 0) = .int (d.way h k : Nat)
  gm : ∃ ts : List Addr, H g = some (.lst (ts.map V.ref)) ∧ ts.length = d.games.length ∧ ∀ (j : Nat) (t : Addr), ts[j]? = some t → GameAt G H t (d.game j)
  br : H b = some (.dT (d.bars.map barV))
  bl : d.bars.length ≤ n
  wb : w ≠ b
  good : Good d
/-- from H with the mutable things S to H' with S' -/
structure Moves (H H' : Hp) (S S' : List Addr) : Prop where
  keep : ∀ c o, H c = some o → ¬ c ∈ S → H' c = some o
  new : ∀ c, c ∈ S' → c ∈ S ∨ H c = none
theorem Moves.refl (H : Hp) (S : List Addr) : Moves H H S S := ⟨fun _ _ e _ => e, fun _ h => .inl h⟩
theorem Moves.trans {H H1 H2 : Hp} {S S1 S2 : List Addr} (a : Moves H H1 S S1) (b : Moves H1 H2 S1 S2) : Moves H H2 S S2 := by
  refine ⟨fun c o e n => b.keep c o (a.keep c o e n) fun m => ?_, fun c m => ?_⟩
  · rcases a.new c m with q | q
    · exact n q
    · rw [e] at q; cases q
  · rcases b.new c m with q | q
    · exact a.new c q
    · by_cases z : c ∈ S
      · exact .inl z
      · cases e : H c with
        | none => exact .inr rfl
        | some o =>
          rw [a.keep c o e z] at q
          cases q
theorem Moves.same {H H' : Hp} (h : Same H H') (S : List Addr) : Moves H H' S S := ⟨fun c o e _ => h c o e, fun _ m => .inl m⟩
theorem Same.upd {H : Hp} {a : Addr} {o : HO} (h : H a = none) : Same H (L2.upd H a o) := fun b u e => by rw [upd_ne (ne_of_none e h)]; exact e
section
variable {C G : Addr} {H H' : Hp} {p w g b : Addr} {d : Si71.Day} {n m : Nat}
theorem DayAt.mono (D : DayAt C G H p w g b d n) (h : n ≤ m) : DayAt C G H p w g b d m := by
  obtain ⟨ks, h1, h2, h3⟩ := D.wy
  exact ⟨D.ob, ⟨ks, h1, by omega, h3⟩, D.gm, D.br, Nat.le_trans D.bl h, D.wb, D.good⟩
theorem DayAt.same (D : DayAt C G H p w g b d n) (h : Same H H') : DayAt C G H' p w g b d n := by
  obtain ⟨dx, h0⟩ := D.ob
  obtain ⟨ks, h1, h2, h3⟩ := D.wy
  obtain ⟨ts, h4, h5, h6⟩ := D.gm
  exact ⟨⟨dx, h _ _ h0⟩, ⟨ks, h _ _ h1, h2, h3⟩, ⟨ts, h _ _ h4, h5, fun j t e => (h6 j t e).imp fun _ q => h _ _ q⟩, h _ _ D.br, D.bl, D.wb, D.good⟩
/-- another list changes -/
theorem DayAt.upd {q : Addr} {xs : List V} {o : HO} (D : DayAt C G H p w g b d n) (hq : H q = some (.lst xs)) (ne : q ≠ g) : DayAt C G (L2.upd H q o) p w g b d n := by
  obtain ⟨dx, h0⟩ := D.ob
  obtain ⟨ks, h1, h2, h3⟩ := D.wy
  obtain ⟨ts, h4, h5, h6⟩ := D.gm
  have k : ∀ c u, H c = some u → u ≠ .lst xs → L2.upd H q o c = some u := fun c u e z => by rw [upd_ne (ne_of e hq z)]; exact e
  exact ⟨⟨dx, k _ _ h0 (by intro z; cases z)⟩, ⟨ks, k _ _ h1 (by intro z; cases z), h2, h3⟩, ⟨ts, by rw [upd_ne ne.symm]; exact h4, h5, fun j t e => (h6 j t e).imp fun _ q => k _ _ q (by intro z; cases z)⟩, k _ _ D.br (by intro z; cases z), D.bl, D.wb, D.good⟩
end
/-- what is wanted behind a call that changes the day -/
def After (C G : Addr) (H : Hp) (p w g b : Addr) (d : Si71.Day) (n : Nat) (q : Si71.Call) (Q : VK) : Prop :=
  ∀ (w' g' b' : Addr) (H' : Hp), DayAt C G H' p w' g' b' (Si71.step d q).1 (n + 1) → Moves H H' [p, w, g, b] [p, w', g', b'] → Q (.int (Si71.step d q).2.v) H'
end Rp
end
section
set_option Elab.async false
set_option linter.all false
set_option maxRecDepth 100000
set_option maxHeartbeats 2000000
namespace Rp
open PySem PySem.Spec PyProof.Rows L2
abbrev sInit : Stmt := inClass (top 24) 0
abbrev sBegins : Stmt := inClass (top 24) 1
abbrev sWay : Stmt := inClass (top 24) 2
abbrev sGame : Stmt := inClass (top 24) 4
abbrev sBar : Stmt := inClass (top 24) 5
abbrev sGInit : Stmt := inClass (top 23) 0
/-- what the top has written -/
structure Txt (K : PySem.W.Frag) (mg : Str → Option Value) (C G : Addr) : Prop where
  cl : Cls K C
  nR : NoAttr K C "referees"
  nH : NoAttr K C "halls"
  nW : NoAttr K C "ways"
  nG : NoAttr K C "games"
  nB : NoAttr K C "bars"
  clG : Cls K G
  gH : NoAttr K G "hall"
  gB : NoAttr K G "begin"
  gE : NoAttr K G "end"
  gO : NoAttr K G "one"
  gT : NoAttr K G "other"
  mgC : mg "Day" = some (.ref C)
  mgG : mg "Game" = some (.ref G)
  len : mg "len" = none
  b_range : mg "range" = none
  b_all : mg "all" = none
  b_sorted : mg "sorted" = none
  b_set : mg "set" = none
  b_max : mg "max" = none
  b_min : mg "min" = none
  cMR : ∃ t, mg "MOST_REFEREES" = some (.int 4 t)
  cMH : ∃ t, mg "MOST_HALLS" = some (.int 4 t)
  cMG : ∃ t, mg "MOST_GAMES" = some (.int 6 t)
  cLW : ∃ t, mg "LONGEST_WAY" = some (.int 1000 t)
  cLM : ∃ t, mg "LAST_MINUTE" = some (.int 1000 t)
  cLT : ∃ t, mg "LAST_TEAM" = some (.int 19 t)
  cOB : ∃ t, mg "OUT_OF_BOUNDS" = some (.int (-1) t)
  cNT : ∃ t, mg "NOT_THERE" = some (.int (-2) t)
  cTS : ∃ t, mg "THE_SAME" = some (.int (-4) t)
  cNR : ∃ t, mg "NO_ROOM" = some (.int (-5) t)
  cBD : ∃ t, mg "BARRED" = some (.int (-6) t)
  cNP : ∃ t, mg "NO_PLAN" = some (.int (-6) t)
  cCL : ∃ t, mg "CLASH" = some (.int (-7) t)
  cBE : ∃ t, mg "BEGINS" = some (.int 0 t)
  cWA : ∃ t, mg "WAY" = some (.int 1 t)
  cGA : ∃ t, mg "GAME" = some (.int 2 t)
  cBA : ∃ t, mg "BAR" = some (.int 3 t)
  cCH : ∃ t, mg "CHECK" = some (.int 4 t)
  cBS : ∃ t, mg "BEST" = some (.int 5 t)
  cFW : ∃ t, mg "FEWEST" = some (.int 6 t)
  cFA : ∃ t, mg "FAIR" = some (.int 7 t)
section
variable {P : Program} {w : World} {K : PySem.W.Frag} {mg : Str → Option Value} {base : Heap}
def spInit (C G : Addr) : Sp := fun vs H Q _ => ∃ (p dx : Addr), vs = [.ref p] ∧ H p = some (.ins C dx []) ∧
  ∀ (w g b : Addr) (H' : Hp), H w = none → H g = none → H b = none → DayAt C G H' p w g b Si71.init 0 → (∀ c o, H c = some o → c ≠ p → H' c = some o) → Q .non H'
theorem scI : FnScope ["self"] ["self"] (defScope sInit) := ⟨rfl, rfl, rfl, by decide +kernel, rfl, by decide +kernel, by decide +kernel⟩
theorem ok_init {f C G : Addr} {fd : FuncData} (F : Fun K "__init__" "Day.__init__" sInit f fd) (T : Txt K mg C G) : FnOk P w K mg base CX0 1 f fd ["self"] (spInit C G) := by
  refine F.ok scI (fun vs H Q E h => ?_) (fun cdv A outer s H vs Q E hr h => ?_)
  · obtain ⟨p, dx, rfl, _⟩ := h
    rfl
  · obtain ⟨p, dx, rfl, hp, k⟩ := h
    refine ⟨_, pss_cons (ps_fld (pv 0) pe_int rfl) (pss_cons (ps_fld (pv 0) pe_int rfl) (pss_cons (ps_fld (pv 0) pe_dnewT rfl) (pss_cons (ps_fld (pv 0) (pe_lst pa_nil) rfl) (pss_one (ps_fld (pv 0) pe_dnewT rfl))))), ?_⟩
    refine ⟨_, rfl, p, C, dx, [], rfl, hp, T.cl, T.nR, (by decide), ?_⟩
    refine ⟨_, rfl, p, C, dx, _, rfl, upd_same, T.cl, T.nH, (by decide), ?_⟩
    rw [upd_upd]
    intro w hw
    have npw : p ≠ w := ne_of_none upd_same hw
    refine ⟨_, rfl, p, C, dx, _, rfl, (by rw [upd_ne npw]; exact upd_same), T.cl, T.nW, (by decide), ?_⟩
    refine ⟨Nat.zero_le _, fun g hg => ?_⟩
    have npg : p ≠ g := ne_of_none upd_same hg
    refine ⟨_, rfl, p, C, dx, _, rfl, (by rw [upd_ne npg]; exact upd_same), T.cl, T.nG, (by show 3 < 1000; decide), ?_⟩
    intro b hb
    have npb : p ≠ b := ne_of_none upd_same hb
    refine ⟨_, rfl, p, C, dx, _, rfl, (by rw [upd_ne npb]; exact upd_same), T.cl, T.nB, (by show 4 < 1000; decide), ?_⟩
    have hw0 : H w = none := by rw [upd_ne npw.symm] at hw; exact hw
    have hg1 : (upd (upd H p (.ins C dx (putF "halls" (.int 1) (putF "referees" (.int 1) [])))) w (.dT [])) g = none := by rw [upd_ne npg.symm] at hg; exact hg
    have nwg : w ≠ g := ne_of_none upd_same hg1
    have hg0 : H g = none := by rw [upd_ne nwg.symm, upd_ne npg.symm] at hg1; exact hg1
    have nwb : w ≠ b := ne_of_none (o := .dT []) (by rw [upd_ne npw.symm, upd_ne nwg, upd_ne npw.symm, upd_same]) hb
    have ngb : g ≠ b := ne_of_none (o := .lst []) (by rw [upd_ne npg.symm, upd_same]) hb
    have hb0 : H b = none := by
      rw [upd_ne npb.symm, upd_ne ngb.symm, upd_ne npb.symm, upd_ne nwb.symm, upd_ne npb.symm] at hb
      exact hb
    refine k w g b _ hw0 hg0 hb0 ⟨⟨dx, upd_same⟩, ⟨[], ?_, Nat.le_refl _, fun h k hh hk => ?_⟩, ⟨[], ?_, rfl, fun j t e => ?_⟩, ?_, Nat.le_refl _, nwb, good_init⟩ fun c o e hc => ?_
    · rw [upd_ne npw.symm, upd_ne nwb, upd_ne npw.symm, upd_ne nwg, upd_ne npw.symm, upd_same]
    · have hh : h < 1 := hh
      have hk : k < 1 := hk
      have e1 : h = 0 := by omega
      have e2 : k = 0 := by omega
      subst e1 e2
      rfl
    · rw [upd_ne npg.symm, upd_ne ngb, upd_ne npg.symm, upd_same]
      rfl
    · simp at e
    · rw [upd_ne npb.symm, upd_same]
      rfl
    · rw [upd_ne hc, upd_ne (ne_of_none e hb0), upd_ne hc, upd_ne (ne_of_none e hg0), upd_ne hc, upd_ne (ne_of_none e hw0), upd_ne hc]
      exact e
/-- behind a refusal: all as it was -/
theorem After.no {C G : Addr} {H : Hp} {p wa g b : Addr} {d : Si71.Day} {n : Nat} {q : Si71.Call} {Q : VK} {z : Int} (A : After C G H p wa g b d n q Q) (D : DayAt C G H p wa g b d n) (e : Si71.step d q = (d, Si71.ok z)) : Q (.int z) H := by
  have k := A wa g b H
  rw [e] at k
  exact k (D.mono (Nat.le_succ n)) (Moves.refl _ _)
theorem After.yes {C G : Addr} {H : Hp} {p wa g b : Addr} {d d' : Si71.Day} {n : Nat} {q : Si71.Call} {Q : VK} {z : Int} (A : After C G H p wa g b d n q Q) (e : Si71.step d q = (d', Si71.ok z)) {w' g' b' : Addr} {H' : Hp}
    (D : DayAt C G H' p w' g' b' d' (n + 1)) (m : Moves H H' [p, wa, g, b] [p, w', g', b']) : Q (.int z) H' := by
  have k := A w' g' b' H'
  rw [e] at k
  exact k D m
theorem ifn {c A B : Prop} [Decidable c] (h1 : ¬ c → A) (h2 : c → B) : if (!decide c) = true then A else B := by
  by_cases h : c
  · rw [decide_eq_true h]
    exact iteF (h2 h)
  · rw [decide_eq_false h]
    exact iteT (h1 h)
def spBegins (C G : Addr) : Sp := fun vs H Q _ => ∃ (p wa g b : Addr) (d : Si71.Day) (n x y : Nat), vs = [.ref p, .int (x : Nat), .int (y : Nat)] ∧ DayAt C G H p wa g b d n ∧ After C G H p wa g b d n (.begins x y) Q
theorem scB : FnScope ["self", "referees", "halls"] ["self", "referees", "halls"] (defScope sBegins) := ⟨rfl, rfl, rfl, by decide +kernel, rfl, by decide +kernel, by decide +kernel⟩
theorem ok_begins {f C G : Addr} {fd : FuncData} (F : Fun K "begins" "Day.begins" sBegins f fd) (T : Txt K mg C G) : FnOk P w K mg base CX0 1 f fd ["self", "referees", "halls"] (spBegins C G) := by
  refine F.ok scB (fun vs H Q E h => ?_) (fun cdv A outer s H vs Q E hr h => ?_)
  · obtain ⟨p, wa, g, b, d, n, x, y, rfl, _⟩ := h
    rfl
  · obtain ⟨p, wa, g, b, d, n, x, y, rfl, D, k⟩ := h
    refine ⟨_, pss_cons (ps_if (PW.pt (pw_or (pt_not (pt_chain op_le op_le pe_int (pv 1) (pe_gint T.cMR))) (pw_or1 (pt_not (pt_chain op_le op_le pe_int (pv 2) (pe_gint T.cMH)))))) (pss_one (ps_ret (pe_gint T.cOB))) pss_nil)
      (pss_cons (ps_fld (pv 0) (pv 1) rfl) (pss_cons (ps_fld (pv 0) (pv 2) rfl) (pss_cons (ps_fld (pv 0) pe_dnewT rfl) (pss_cons (ps_fld (pv 0) (pe_lst pa_nil) rfl) (pss_cons (ps_fld (pv 0) pe_dnewT rfl) (pss_one (ps_ret pe_int))))))), ?_⟩
    have no : (x < 1 ∨ 4 < x ∨ y < 1 ∨ 4 < y) → Q (.int (-1)) H := fun c => k.no D (by unfold Si71.step; exact if_pos c)
    have yes : ¬ (x < 1 ∨ 4 < x ∨ y < 1 ∨ 4 < y) → Si71.step d (.begins x y) = (fresh x y, Si71.ok 0) := fun c => by unfold Si71.step; exact if_neg c
    refine ⟨_, rfl, _, _, rfl, rfl, _, rfl, ite2 (fun c1 => ?_) fun c1 => ⟨_, rfl, iteT (no ?_)⟩⟩
    · have c1 := of_decide_eq_true c1
      refine ⟨_, _, rfl, rfl, _, rfl, ifn (fun c2 => iteT (no (by omega))) fun c2 => ?_⟩
      refine ⟨_, rfl, _, _, rfl, rfl, _, rfl, ite2 (fun c3 => ?_) fun c3 => ⟨_, rfl, iteT (no ?_)⟩⟩
      · have c3 := of_decide_eq_true c3
        refine ⟨_, _, rfl, rfl, _, rfl, ifn (fun c4 => no (by omega)) fun c4 => ?_⟩
        have st := yes (by omega)
        obtain ⟨dx, h0⟩ := D.ob
        obtain ⟨ks, hw0, _, _⟩ := D.wy
        obtain ⟨ts, hg0, _, _⟩ := D.gm
        have hb0 := D.br
        refine ⟨_, rfl, _, rfl, p, C, dx, _, rfl, h0, T.cl, T.nR, (by show 5 < 1000; decide), ?_⟩
        refine ⟨_, rfl, _, rfl, p, C, dx, _, rfl, upd_same, T.cl, T.nH, (by show 5 < 1000; decide), ?_⟩
        rw [upd_upd, put_referees, put_halls]
        intro w hw
        have npw : p ≠ w := ne_of_none upd_same hw
        refine ⟨_, rfl, p, C, dx, _, rfl, (by rw [upd_ne npw]; exact upd_same), T.cl, T.nW, (by show 5 < 1000; decide), ?_⟩
        refine ⟨Nat.zero_le _, fun g' hg => ?_⟩
        have npg : p ≠ g' := ne_of_none upd_same hg
        refine ⟨_, rfl, p, C, dx, _, rfl, (by rw [upd_ne npg]; exact upd_same), T.cl, T.nG, (by show 5 < 1000; decide), ?_⟩
        intro b' hb
        have npb : p ≠ b' := ne_of_none upd_same hb
        refine ⟨_, rfl, p, C, dx, _, rfl, (by rw [upd_ne npb]; exact upd_same), T.cl, T.nB, (by show 5 < 1000; decide), ?_⟩
        rw [put_ways, put_games, put_bars]
        rw [put_ways, put_games] at hb
        rw [put_ways] at hg
        have fw : H w = none := by rw [upd_ne npw.symm] at hw; exact hw
        rw [upd_ne npg.symm] at hg
        have nwg : w ≠ g' := ne_of_none upd_same hg
        rw [upd_ne nwg.symm, upd_ne npg.symm] at hg
        have nwb : w ≠ b' := ne_of_none (o := .dT []) (by rw [upd_ne npw.symm, upd_ne nwg, upd_ne npw.symm, upd_same]) hb
        have ngb : g' ≠ b' := ne_of_none (o := .lst []) (by rw [upd_ne npg.symm, upd_same]) hb
        rw [upd_ne npb.symm, upd_ne ngb.symm, upd_ne npb.symm, upd_ne nwb.symm, upd_ne npb.symm] at hb
        refine k.yes st (w' := w) (g' := g') (b' := b') ⟨⟨dx, upd_same⟩, ⟨[], ?_, Nat.zero_le _, fun h k _ _ => ?_⟩, ⟨[], ?_, rfl, fun j t e => ?_⟩, ?_, Nat.zero_le _, nwb, good_fresh (by unfold Si71.REFS Si71.HALLS; omega)⟩ ⟨fun c o e hc => ?_, fun c hc => ?_⟩
        · rw [upd_ne npw.symm, upd_ne nwb, upd_ne npw.symm, upd_ne nwg, upd_ne npw.symm, upd_same]
        · rw [fresh_way]
          rfl
        · rw [upd_ne npg.symm, upd_ne ngb, upd_ne npg.symm, upd_same]
          rfl
        · simp at e
        · rw [upd_ne npb.symm, upd_same]
          rfl
        · have hc : c ≠ p := fun z => hc (by rw [z]; simp)
          rw [upd_ne hc, upd_ne (ne_of_none e hb), upd_ne hc, upd_ne (ne_of_none e hg), upd_ne hc, upd_ne (ne_of_none e fw), upd_ne hc]
          exact e
        · simp at hc
          rcases hc with rfl | rfl | rfl | rfl
          · exact .inl (by simp)
          · exact .inr fw
          · exact .inr hg
          · exact .inr hb
      · have c3 := of_decide_eq_false (eq_false_of_ne_true c3)
        omega
    · have c1 := of_decide_eq_false (eq_false_of_ne_true c1)
      omega
end
end Rp
end
section
set_option Elab.async false
set_option linter.all false
set_option maxRecDepth 100000
set_option maxHeartbeats 2000000
namespace Rp
open PySem PySem.Spec PyProof.Rows L2
theorem dtT {c : Prop} [Decidable c] (h : decide c = true) : c := of_decide_eq_true h
theorem dtF {c : Prop} [Decidable c] (h : ¬ decide c = true) : ¬ c := of_decide_eq_false (eq_false_of_ne_true h)
theorem sz2 : 2 ≤ sizeLine := by decide
section
variable {P : Program} {w : World} {K : PySem.W.Frag} {mg : Str → Option Value} {base : Heap}
def spWay (C G : Addr) : Sp := fun vs H Q _ => ∃ (p wa g b : Addr) (d : Si71.Day) (n x y z : Nat), vs = [.ref p, .int (x : Nat), .int (y : Nat), .int (z : Nat)] ∧ n ≤ 100 ∧ DayAt C G H p wa g b d n ∧ After C G H p wa g b d n (.way x y z) Q
theorem scW : FnScope ["self", "hall", "other", "minutes"] ["self", "hall", "other", "minutes"] (defScope sWay) := ⟨rfl, rfl, rfl, by decide +kernel, rfl, by decide +kernel, by decide +kernel⟩
theorem ok_way {f C G : Addr} {fd : FuncData} (F : Fun K "way" "Day.way" sWay f fd) (T : Txt K mg C G) : FnOk P w K mg base CX0 1 f fd ["self", "hall", "other", "minutes"] (spWay C G) := by
  refine F.ok scW (fun vs H Q E h => ?_) (fun cdv A outer s H vs Q E hr h => ?_)
  · obtain ⟨p, wa, g, b, d, n, x, y, z, rfl, _⟩ := h
    rfl
  · obtain ⟨p, wa, g, b, d, n, x, y, z, rfl, hn, D, k⟩ := h
    have hu := hu_of hr
    obtain ⟨dx, h0⟩ := D.ob
    obtain ⟨ks, hw, hkl, hkv⟩ := D.wy
    obtain ⟨ts, hg, htl, htv⟩ := D.gm
    have hb := D.br
    refine ⟨_, pss_cons (ps_if (PW.pt (pw_or (pt_cmpR op_ge (pv 1) (pe_fld (pv 0) rfl) (nomark _)) (pw_or1 (pt_cmpR op_ge (pv 2) (pe_fld (pv 0) rfl) (nomark _))))) (pss_one (ps_ret (pe_gint T.cNT))) pss_nil)
      (pss_cons (ps_if (pt_cmpR op_gt (pv 3) (pe_gint T.cLW) (nomark _)) (pss_one (ps_ret (pe_gint T.cOB))) pss_nil)
      (pss_cons (ps_if (pt_cmpR op_eq (pv 1) (pv 2) (nomark _)) (pss_one (ps_ret (pe_gint T.cTS))) pss_nil)
      (pss_cons (ps_dput hu (pe_fld (pv 0) rfl) (pe_tup (pa_cons (pv 1) (pa_cons (pv 2) pa_nil))) (pv 3) rfl)
      (pss_cons (ps_dput hu (pe_fld (pv 0) rfl) (pe_tup (pa_cons (pv 2) (pa_cons (pv 1) pa_nil))) (pv 3) rfl)
      (pss_one (ps_ret pe_int)))))), ?_⟩
    have no2 : (d.halls ≤ x ∨ d.halls ≤ y) → Q (.int (-2)) H := fun c => k.no D (by rw [step_way]; exact if_pos c)
    refine ⟨_, rfl, _, rfl, p, C, dx, _, _, rfl, h0, T.cl, T.nH, df_halls .., _, _, rfl, rfl, _, rfl, ite2 (fun c => ?_) fun c1 => ?_⟩
    · have c := dtT c
      exact iteT (no2 (by omega))
    have c1 := dtF c1
    refine ⟨_, rfl, _, rfl, p, C, dx, _, _, rfl, h0, T.cl, T.nH, df_halls .., _, _, rfl, rfl, _, rfl, ite2 (fun c => ?_) fun c2 => ?_⟩
    · have c := dtT c
      exact no2 (by omega)
    have c2 := dtF c2
    have hx : x < d.halls := by omega
    have hy : y < d.halls := by omega
    have e1 : ¬ (d.halls ≤ x ∨ d.halls ≤ y) := by omega
    refine ⟨_, rfl, _, _, rfl, rfl, _, rfl, ite2 (fun c => ?_) fun c3 => ?_⟩
    · have c := dtT c
      exact k.no D (by rw [step_way, if_neg e1, if_pos (show Si71.LONG < z by unfold Si71.LONG; omega)])
    have c3 := dtF c3
    have e2 : ¬ Si71.LONG < z := by unfold Si71.LONG; omega
    refine ⟨_, rfl, _, rfl, rfl, _, rfl, ite2 (fun c => ?_) fun c4 => ?_⟩
    · have c := V.int.inj (dtT c)
      exact k.no D (by rw [step_way, if_neg e1, if_neg e2, if_pos (show x = y by omega)])
    have e3 : x ≠ y := fun q => dtF c4 (by rw [q])
    have st : Si71.step d (.way x y z) = (setWay d x y z, Si71.ok 0) := by rw [step_way, if_neg e1, if_neg e2, if_neg e3]
    refine ⟨_, rfl, _, rfl, p, C, dx, _, _, rfl, h0, T.cl, T.nW, df_ways .., _, rfl, _, rfl, sz2, fun t1 f1 => ?_⟩
    have npt1 : p ≠ t1 := ne_of_none h0 f1
    have nwt1 : wa ≠ t1 := ne_of_none hw f1
    have npw : p ≠ wa := ne_of h0 hw (by intro z; cases z)
    refine ⟨wa, _, rfl, DPut.t (k := k2 x y) (kvs := ks) (by rw [upd_ne nwt1]; exact hw) upd_same (small1000 (by omega)), ?_⟩
    refine ⟨_, rfl, _, rfl, p, C, dx, _, _, rfl, (by rw [upd_ne npw, upd_ne npt1]; exact h0), T.cl, T.nW, df_ways .., _, rfl, _, rfl, sz2, fun t2 f2 => ?_⟩
    have npt2 : p ≠ t2 := ne_of_none (o := .ins C dx (df (d.refs : Nat) (d.halls : Nat) wa g b)) (by rw [upd_ne npw, upd_ne npt1]; exact h0) f2
    have nwt2 : wa ≠ t2 := ne_of_none upd_same f2
    have hl1 := length_putK ks (k2 x y) (.int (z : Nat))
    refine ⟨wa, _, rfl, DPut.t (k := k2 y x) (kvs := putK ks (k2 x y) (.int (z : Nat))) (by rw [upd_ne nwt2]; exact upd_same) upd_same (small1000 (by omega)), ?_⟩
    have hl2 := length_putK (putK ks (k2 x y) (.int (z : Nat))) (k2 y x) (.int (z : Nat))
    rw [upd_ne nwt2.symm] at f2
    have n12 : t1 ≠ t2 := ne_of_none upd_same f2
    rw [upd_ne n12.symm] at f2
    have kp : ∀ c o, H c = some o → c ≠ wa → (upd (upd (upd (upd H t1 (.tup [.int (x : Nat), .int (y : Nat)])) wa (.dT (putK ks (k2 x y) (.int (z : Nat))))) t2 (.tup [.int (y : Nat), .int (x : Nat)])) wa
        (.dT (putK (putK ks (k2 x y) (.int (z : Nat))) (k2 y x) (.int (z : Nat))))) c = some o := fun c o e hc => by
      rw [upd_ne hc, upd_ne (ne_of_none e f2), upd_ne hc, upd_ne (ne_of_none e f1)]
      exact e
    refine k.yes st (w' := wa) (g' := g) (b' := b) ⟨⟨dx, kp _ _ h0 npw⟩, ⟨_, upd_same, by omega, fun a c ha hc => ?_⟩, ⟨ts, kp _ _ hg (ne_of hg hw (by intro z; cases z)), htl, fun j t e => (htv j t e).imp fun _ q => kp _ _ q (ne_of q hw (by intro z; cases z))⟩, kp _ _ hb D.wb.symm, Nat.le_succ_of_le D.bl, D.wb, ?_⟩ ⟨fun c o e hc => kp c o e fun q => hc (by rw [q]; simp), fun c hc => .inl hc⟩
    · rw [setWay_way D.good.wl hx hy ha hc, valV_put, valV_put]
      by_cases q1 : a = y ∧ c = x
      · obtain ⟨rfl, rfl⟩ := q1
        rw [if_pos rfl, if_pos (Or.inr ⟨rfl, rfl⟩)]
        rfl
      · rw [if_neg (k2_ne q1)]
        by_cases q2 : a = x ∧ c = y
        · obtain ⟨rfl, rfl⟩ := q2
          rw [if_pos rfl, if_pos (Or.inl ⟨rfl, rfl⟩)]
          rfl
        · rw [if_neg (k2_ne q2), if_neg (fun q => q.elim q2 q1)]
          exact hkv a c ha hc
    · exact good_setWay D.good hx hy (by omega) e3
/-- a Game's beginning -/
def spGI (G : Addr) : Sp := fun vs H Q _ => ∃ (p dx : Addr) (u : Si71.Game), vs = [.ref p, .int (u.hall : Nat), .int (u.from_ : Nat), .int (u.to_ : Nat), .int (u.one : Nat), .int (u.two : Nat)] ∧ H p = some (.ins G dx []) ∧ Q .non (upd H p (.ins G dx (gf u)))
theorem scGI : FnScope ["self", "hall", "begin", "end", "one", "other"] ["self", "hall", "begin", "end", "one", "other"] (defScope sGInit) := ⟨rfl, rfl, rfl, by decide +kernel, rfl, by decide +kernel, by decide +kernel⟩
theorem ok_ginit {f C G : Addr} {fd : FuncData} (F : Fun K "__init__" "Game.__init__" sGInit f fd) (T : Txt K mg C G) : FnOk P w K mg base CX0 1 f fd ["self", "hall", "begin", "end", "one", "other"] (spGI G) := by
  refine F.ok scGI (fun vs H Q E h => ?_) (fun cdv A outer s H vs Q E hr h => ?_)
  · obtain ⟨p, dx, u, rfl, _⟩ := h
    rfl
  · obtain ⟨p, dx, u, rfl, hp, k⟩ := h
    refine ⟨_, pss_cons (ps_fld (pv 0) (pv 1) rfl) (pss_cons (ps_fld (pv 0) (pv 2) rfl) (pss_cons (ps_fld (pv 0) (pv 3) rfl) (pss_cons (ps_fld (pv 0) (pv 4) rfl) (pss_one (ps_fld (pv 0) (pv 5) rfl))))), ?_⟩
    refine ⟨_, rfl, _, rfl, p, G, dx, [], rfl, hp, T.clG, T.gH, (by decide), ?_⟩
    refine ⟨_, rfl, _, rfl, p, G, dx, _, rfl, upd_same, T.clG, T.gB, (by show 1 < 1000; decide), ?_⟩
    refine ⟨_, rfl, _, rfl, p, G, dx, _, rfl, upd_same, T.clG, T.gE, (by show 2 < 1000; decide), ?_⟩
    refine ⟨_, rfl, _, rfl, p, G, dx, _, rfl, upd_same, T.clG, T.gO, (by show 3 < 1000; decide), ?_⟩
    refine ⟨_, rfl, _, rfl, p, G, dx, _, rfl, upd_same, T.clG, T.gT, (by show 4 < 1000; decide), ?_⟩
    rw [upd_upd, upd_upd, upd_upd, upd_upd]
    exact k
def spGame (C G : Addr) : Sp := fun vs H Q _ => ∃ (p wa g b : Addr) (d : Si71.Day) (n : Nat) (u : Si71.Game), vs = [.ref p, .int (u.hall : Nat), .int (u.from_ : Nat), .int (u.to_ : Nat), .int (u.one : Nat), .int (u.two : Nat)] ∧ DayAt C G H p wa g b d n ∧ After C G H p wa g b d n (.game u) Q
theorem scG : FnScope ["self", "hall", "begin", "end", "one", "other"] ["self", "hall", "begin", "end", "one", "other"] (defScope sGame) := ⟨rfl, rfl, rfl, by decide +kernel, rfl, by decide +kernel, by decide +kernel⟩
theorem getD_snoc {α : Type} : ∀ (l : List α) (x z : α) (j : Nat), (l ++ [x]).getD j z = if j = l.length then x else l.getD j z
  | [], x, z, 0 => rfl
  | [], x, z, j + 1 => by simp
  | a :: l, x, z, 0 => by simp
  | a :: l, x, z, j + 1 => by
    have ih := getD_snoc l x z j
    show (l ++ [x]).getD j z = _
    rw [ih]
    by_cases h : j = l.length
    · rw [if_pos h, if_pos (by simp [h])]
    · rw [if_neg h, if_neg (by simp [h])]
      rfl
theorem ok_game {f C G fI : Addr} {fd fdI : FuncData} (F : Fun K "game" "Day.game" sGame f fd) (T : Txt K mg C G) (M : Mk K G fI) (FI : Fun K "__init__" "Game.__init__" sGInit fI fdI) (bI : Binds K fdI ["self", "hall", "begin", "end", "one", "other"] []) : FnOk P w K mg base CX0 3 f fd ["self", "hall", "begin", "end", "one", "other"] (spGame C G) := by
  have GI : FnOk P w K mg base CX0 1 fI fdI ["self", "hall", "begin", "end", "one", "other"] (spGI G) := ok_ginit FI T
  refine F.ok scG (fun vs H Q E h => ?_) (fun cdv A outer s H vs Q E hr h => ?_)
  · obtain ⟨p, wa, g, b, d, n, u, rfl, _⟩ := h
    rfl
  · obtain ⟨p, wa, g, b, d, n, u, rfl, D, k⟩ := h
    have hu := hu_of hr
    obtain ⟨dx, h0⟩ := D.ob
    obtain ⟨ks, hw, hkl, hkv⟩ := D.wy
    obtain ⟨ts, hg, htl, htv⟩ := D.gm
    have hb := D.br
    refine ⟨_, pss_cons (ps_if (pt_cmpR op_ge (pv 1) (pe_fld (pv 0) rfl) (nomark _)) (pss_one (ps_ret (pe_gint T.cNT))) pss_nil)
      (pss_cons (ps_if (PW.pt (pw_or (pt_cmpR op_le (pv 3) (pv 2) (nomark _)) (pw_or1 (pt_cmpR op_gt (pv 3) (pe_gint T.cLM) (nomark _))))) (pss_one (ps_ret (pe_gint T.cOB))) pss_nil)
      (pss_cons (ps_if (PW.pt (pw_or (pt_cmpR op_gt (pv 4) (pe_gint T.cLT) (nomark _)) (pw_or (pt_cmpR op_gt (pv 5) (pe_gint T.cLT) (nomark _)) (pw_or1 (pt_cmpR op_eq (pv 4) (pv 5) (nomark _)))))) (pss_one (ps_ret (pe_gint T.cOB))) pss_nil)
      (pss_cons (ps_if (pt_cmpR op_eq (pe_callB call_len_seq (by rfl) T.len PySem.boot_len (pa_cons (pe_fld (pv 0) rfl) pa_nil)) (pe_gint T.cMG) (nomark _)) (pss_one (ps_ret (pe_gint T.cNR))) pss_nil)
      (pss_cons (ps_expr (pe_bm PySem.F.plainAttrs_list PySem.F.slot_list_append PySem.F.type_list_append mt_append (pe_fld (pv 0) rfl) (pa_cons (pe_make M GI hr rfl T.mgG bI .nil pass0 (pa_cons (pv 1) (pa_cons (pv 2) (pa_cons (pv 3) (pa_cons (pv 4) (pa_cons (pv 5) pa_nil)))))) pa_nil)))
      (pss_one (ps_ret (pe_op op_sub (pe_callB call_len_seq (by rfl) T.len PySem.boot_len (pa_cons (pe_fld (pv 0) rfl) pa_nil)) pe_int))))))), ?_⟩
    refine ⟨_, rfl, _, rfl, p, C, dx, _, _, rfl, h0, T.cl, T.nH, df_halls .., _, _, rfl, rfl, _, rfl, ite2 (fun c => ?_) fun c1 => ?_⟩
    · have c := dtT c
      exact k.no D (by rw [step_game, if_pos (show d.halls ≤ u.hall by omega)])
    have c1 := dtF c1
    have e1 : ¬ d.halls ≤ u.hall := by omega
    have no1 : (u.to_ ≤ u.from_ ∨ 1000 < u.to_ ∨ 20 ≤ u.one ∨ 20 ≤ u.two ∨ u.one = u.two) → Q (.int (-1)) H := fun c => k.no D (by rw [step_game, if_neg e1]; exact if_pos c)
    refine ⟨_, rfl, _, rfl, _, _, rfl, rfl, _, rfl, ite2 (fun c => ?_) fun c2 => ?_⟩
    · have c := dtT c
      exact iteT (no1 (by omega))
    have c2 := dtF c2
    refine ⟨_, rfl, _, _, rfl, rfl, _, rfl, ite2 (fun c => ?_) fun c3 => ?_⟩
    · have c := dtT c
      exact no1 (by omega)
    have c3 := dtF c3
    refine ⟨_, rfl, _, _, rfl, rfl, _, rfl, ite2 (fun c => ?_) fun c4 => ?_⟩
    · have c := dtT c
      exact iteT (no1 (by omega))
    have c4 := dtF c4
    refine ⟨_, rfl, _, _, rfl, rfl, _, rfl, ite2 (fun c => ?_) fun c5 => ?_⟩
    · have c := dtT c
      exact iteT (no1 (by omega))
    have c5 := dtF c5
    refine ⟨_, rfl, _, rfl, rfl, _, rfl, ite2 (fun c => ?_) fun c6 => ?_⟩
    · have c := V.int.inj (dtT c)
      exact no1 (by omega)
    have c6 : u.one ≠ u.two := fun q => dtF c6 (by rw [q])
    have e2 : ¬ (u.to_ ≤ u.from_ ∨ Si71.LONG < u.to_ ∨ Si71.TEAMS ≤ u.one ∨ Si71.TEAMS ≤ u.two ∨ u.one = u.two) := by unfold Si71.LONG Si71.TEAMS; omega
    refine ⟨_, rfl, p, C, dx, _, _, rfl, h0, T.cl, T.nG, df_games .., _, _, rfl, .inl (SqL.of hg), rfl, _, rfl, ite2 (fun c => ?_) fun c7 => ?_⟩
    · have c := V.int.inj (dtT c)
      rw [List.length_map, htl] at c
      exact k.no D (by rw [step_game, if_neg e1, if_neg e2, if_pos (show Si71.GAMES ≤ d.games.length by unfold Si71.GAMES; omega)])
    have c7 : d.games.length < 6 := by
      have := D.good.gl
      have q : d.games.length ≠ 6 := fun q => dtF c7 (by rw [List.length_map, htl, q]; rfl)
      omega
    have st : Si71.step d (.game u) = (addGame d u, Si71.ok ((d.games.length : Nat) : Int)) := by rw [step_game, if_neg e1, if_neg e2, if_neg (show ¬ Si71.GAMES ≤ d.games.length by unfold Si71.GAMES; omega)]
    refine ⟨_, rfl, p, C, dx, _, _, rfl, h0, T.cl, T.nG, df_games .., .inl ⟨rfl, _, SqL.of hg⟩, _, rfl, _, rfl, _, rfl, _, rfl, _, rfl, fun t dt ht hdt ndt => ?_⟩
    refine ⟨t, dt, u, rfl, upd_same, rfl, ?_⟩
    rw [upd_upd]
    have npt : p ≠ t := ne_of_none h0 ht
    have ngt : g ≠ t := ne_of_none hg ht
    have npd : p ≠ dt := ne_of_none h0 hdt
    have ngd : g ≠ dt := ne_of_none hg hdt
    have npg : p ≠ g := ne_of h0 hg (by intro z; cases z)
    refine ⟨g, _, _, rfl, rfl, (by rw [upd_ne ngt, upd_ne ngd]; exact hg), (by rw [List.length_map, htl]; exact small1000 (by omega)), ?_⟩
    refine ⟨_, rfl, p, C, dx, _, _, rfl, (by rw [upd_ne npg, upd_ne npt, upd_ne npd]; exact h0), T.cl, T.nG, df_games .., _, _, rfl, .inl (SqL.of upd_same), _, _, rfl, rfl, ?_⟩
    have el : (((ts.map V.ref ++ [V.ref t]).length : Nat) : Int) - 1 = ((d.games.length : Nat) : Int) := by rw [List.length_append, List.length_map, htl, List.length_singleton]; omega
    dsimp only
    rw [el]
    have kp : ∀ c o, H c = some o → c ≠ g → (upd (upd (upd H dt (.own t)) t (.ins G dt (gf u))) g (.lst (ts.map V.ref ++ [V.ref t]))) c = some o := fun c o e hc => by
      rw [upd_ne hc, upd_ne (ne_of_none e ht), upd_ne (ne_of_none e hdt)]
      exact e
    refine k.yes st (w' := wa) (g' := g) (b' := b) ⟨⟨dx, kp _ _ h0 npg⟩, ⟨ks, kp _ _ hw (ne_of hw hg (by intro z; cases z)), by omega, hkv⟩, ⟨ts ++ [t], ?_, ?_, fun j t' e => ?_⟩, kp _ _ hb (ne_of hb hg (by intro z; cases z)), Nat.le_succ_of_le D.bl, D.wb, ?_⟩ ⟨fun c o e hc => kp c o e fun q => hc (by rw [q]; simp), fun c hc => .inl hc⟩
    · rw [upd_same, List.map_append]
      rfl
    · show (ts ++ [t]).length = (d.games ++ [u]).length
      rw [List.length_append, List.length_append, htl]
      rfl
    · have eg : (addGame d u).game j = if j = d.games.length then u else d.game j := getD_snoc _ _ _ _
      rw [eg]
      by_cases hj : j < ts.length
      · rw [if_neg (by omega)]
        rw [List.getElem?_append_left hj] at e
        exact (htv j t' e).imp fun _ e2 => kp _ _ e2 (ne_of e2 hg (by intro z; cases z))
      · rw [List.getElem?_append_right (by omega)] at e
        have hj2 : j - ts.length = 0 := by
          cases q : j - ts.length with
          | zero => rfl
          | succ i => rw [q] at e; simp at e
        rw [hj2] at e
        have e3 : t = t' := Option.some.inj e
        subst e3
        rw [if_pos (by omega)]
        exact ⟨dt, by rw [upd_ne ngt.symm, upd_same]⟩
    · exact good_addGame D.good (by omega) e2 c7
def spBar (C G : Addr) : Sp := fun vs H Q _ => ∃ (p wa g b : Addr) (d : Si71.Day) (n x y : Nat), vs = [.ref p, .int (x : Nat), .int (y : Nat)] ∧ n ≤ 100 ∧ DayAt C G H p wa g b d n ∧ After C G H p wa g b d n (.bar x y) Q
theorem scR : FnScope ["self", "referee", "team"] ["self", "referee", "team"] (defScope sBar) := ⟨rfl, rfl, rfl, by decide +kernel, rfl, by decide +kernel, by decide +kernel⟩
theorem ok_bar {f C G : Addr} {fd : FuncData} (F : Fun K "bar" "Day.bar" sBar f fd) (T : Txt K mg C G) : FnOk P w K mg base CX0 1 f fd ["self", "referee", "team"] (spBar C G) := by
  refine F.ok scR (fun vs H Q E h => ?_) (fun cdv A outer s H vs Q E hr h => ?_)
  · obtain ⟨p, wa, g, b, d, n, x, y, rfl, _⟩ := h
    rfl
  · obtain ⟨p, wa, g, b, d, n, x, y, rfl, hn, D, k⟩ := h
    have hu := hu_of hr
    obtain ⟨dx, h0⟩ := D.ob
    obtain ⟨ks, hw, hkl, hkv⟩ := D.wy
    obtain ⟨ts, hg, htl, htv⟩ := D.gm
    have hb := D.br
    refine ⟨_, pss_cons (ps_if (pt_cmpR op_ge (pv 1) (pe_fld (pv 0) rfl) (nomark _)) (pss_one (ps_ret (pe_gint T.cNT))) pss_nil)
      (pss_cons (ps_if (pt_cmpR op_gt (pv 2) (pe_gint T.cLT) (nomark _)) (pss_one (ps_ret (pe_gint T.cOB))) pss_nil)
      (pss_cons (ps_if (pt_cmp (pc_din hu (pe_tup (pa_cons (pv 1) (pa_cons (pv 2) pa_nil))) (pe_fld (pv 0) rfl))) (pss_one (ps_ret (pe_gint T.cTS))) pss_nil)
      (pss_cons (ps_dput hu (pe_fld (pv 0) rfl) (pe_tup (pa_cons (pv 1) (pa_cons (pv 2) pa_nil))) pe_bl rfl)
      (pss_one (ps_ret (pe_callB call_lenT (by rfl) T.len PySem.boot_len (pa_cons (pe_fld (pv 0) rfl) pa_nil))))))), ?_⟩
    refine ⟨_, rfl, _, rfl, p, C, dx, _, _, rfl, h0, T.cl, T.nR, df_referees .., _, _, rfl, rfl, _, rfl, ite2 (fun c => ?_) fun c1 => ?_⟩
    · have c := dtT c
      exact k.no D (by rw [step_bar, if_pos (show d.refs ≤ x by omega)])
    have c1 := dtF c1
    have e1 : ¬ d.refs ≤ x := by omega
    refine ⟨_, rfl, _, _, rfl, rfl, _, rfl, ite2 (fun c => ?_) fun c2 => ?_⟩
    · have c := dtT c
      exact k.no D (by rw [step_bar, if_neg e1, if_pos (show Si71.TEAMS ≤ y by unfold Si71.TEAMS; omega)])
    have c2 := dtF c2
    have e2 : ¬ Si71.TEAMS ≤ y := by unfold Si71.TEAMS; omega
    refine ⟨_, rfl, _, rfl, sz2, fun t1 f1 => ?_⟩
    have npt1 : p ≠ t1 := ne_of_none h0 f1
    have nbt1 : b ≠ t1 := ne_of_none hb f1
    have npb : p ≠ b := ne_of h0 hb (by intro z; cases z)
    have s1 : Same H (upd H t1 (.tup [.int (x : Nat), .int (y : Nat)])) := Same.upd f1
    refine ⟨_, rfl, p, C, dx, _, _, rfl, s1 _ _ h0, T.cl, T.nB, df_bars .., b, _, rfl, DGet.t (k := k2 x y) (s1 _ _ hb) upd_same, _, rfl, ?_⟩
    rw [bars_val]
    refine ite2 (fun c => ?_) fun c3 => ?_
    · refine k.yes (d' := d) (by rw [step_bar, if_neg e1, if_neg e2, if_pos c]) ((D.same s1).mono (Nat.le_succ n)) (Moves.same s1 _)
    have st : Si71.step d (.bar x y) = (addBar d x y, Si71.ok ((d.bars.length : Nat) + 1)) := by rw [step_bar, if_neg e1, if_neg e2, if_neg c3]
    refine ⟨_, rfl, p, C, dx, _, _, rfl, s1 _ _ h0, T.cl, T.nB, df_bars .., _, rfl, _, rfl, sz2, fun t2 f2 => ?_⟩
    have s2 := s1.trans (Same.upd (o := .tup [.int (x : Nat), .int (y : Nat)]) f2)
    refine ⟨b, _, rfl, DPut.t (k := k2 x y) (s2 _ _ hb) upd_same (by rw [List.length_map]; exact small1000 (by have := D.bl; omega)), ?_⟩
    refine ⟨_, rfl, p, C, dx, _, _, rfl, (by rw [upd_ne npb]; exact s2 _ _ h0), T.cl, T.nB, df_bars .., b, _, rfl, upd_same, ?_⟩
    have hv : valV (d.bars.map barV) (k2 x y) = none := by
      have q := bars_val d.bars x y
      rw [eq_false_of_ne_true c3] at q
      exact Option.isSome_eq_false_iff.mp q |> Option.isNone_iff_eq_none.mp
    rw [putK_new _ hv]
    have el : ((((d.bars.map barV) ++ [(k2 x y, V.bl true)]).length : Nat) : Int) = ((d.bars.length : Nat) : Int) + 1 := by rw [List.length_append, List.length_map, List.length_singleton]; omega
    dsimp only
    rw [el]
    have kp : ∀ c o, H c = some o → c ≠ b → _ := fun c o e hc => (upd_ne (o := .dT ((d.bars.map barV) ++ [(k2 x y, V.bl true)])) hc).trans (s2 c o e)
    refine k.yes st (w' := wa) (g' := g) (b' := b) ⟨⟨dx, kp _ _ h0 npb⟩, ⟨ks, kp _ _ hw D.wb, by omega, hkv⟩, ⟨ts, kp _ _ hg (ne_of hg hb (by intro z; cases z)), htl, fun j t e => (htv j t e).imp fun _ q => kp _ _ q (ne_of q hb (by intro z; cases z))⟩, ?_, ?_, D.wb, good_addBar D.good⟩ ⟨fun c o e hc => kp c o e fun q => hc (by rw [q]; simp), fun c hc => .inl hc⟩
    · rw [upd_same]
      show _ = some (HO.dT ((d.bars ++ [(x, y)]).map barV))
      rw [List.map_append]
      rfl
    · show (d.bars ++ [(x, y)]).length ≤ n + 1
      rw [List.length_append, List.length_singleton]
      have := D.bl
      omega
end
end Rp
end
section
set_option Elab.async false
set_option linter.all false
set_option maxRecDepth 100000
set_option maxHeartbeats 2000000
namespace Rp
open PySem PySem.Spec PyProof.Rows L2
abbrev sWB : Stmt := inClass (top 24) 3
abbrev sCheck : Stmt := inClass (top 24) 6
abbrev sHas : Stmt := inClass (top 24) 7
abbrev sBG : Stmt := inClass (top 24) 8
abbrev sIB : Stmt := inClass (top 24) 9
abbrev sCG : Stmt := inClass (top 24) 10
abbrev sClash : Stmt := inClass (top 24) 11
abbrev sLB : Stmt := inClass (top 24) 12
abbrev sWO : Stmt := inClass (top 24) 13
abbrev sBest : Stmt := inClass (top 24) 14
abbrev sFewest : Stmt := inClass (top 24) 15
abbrev sFair : Stmt := inClass (top 24) 16
abbrev sLeast : Stmt := inClass (top 24) 17
abbrev sPl : Stmt := inClass (top 24) 18
abbrev sOL : Stmt := inClass (top 24) 19
abbrev sCan : Stmt := inClass (top 24) 20
abbrev sHM : Stmt := top 25
abbrev sMG : Stmt := top 26
theorem GameAt.same {G : Addr} {H H' : Hp} {t : Addr} {x : Si71.Game} (h : GameAt G H t x) (s : Same H H') : GameAt G H' t x := h.imp fun _ q => s _ _ q
section
variable {P : Program} {w : World} {K : PySem.W.Frag} {mg : Str → Option Value} {base : Heap} {C G : Addr}
/-- way_between: the way that is told -/
def spWB (C G : Addr) : Sp := fun vs H Q _ => ∃ (p wa g b : Addr) (d : Si71.Day) (n h k : Nat), vs = [.ref p, .int (h : Nat), .int (k : Nat)] ∧ DayAt C G H p wa g b d n ∧ h < d.halls ∧ k < d.halls ∧ ∀ H', Same H H' → Q (.int (d.way h k : Nat)) H'
theorem scWB : FnScope ["self", "hall", "other"] ["self", "hall", "other"] (defScope sWB) := ⟨rfl, rfl, rfl, by decide +kernel, rfl, by decide +kernel, by decide +kernel⟩
theorem ok_wb {f : Addr} {fd : FuncData} (F : Fun K "way_between" "Day.way_between" sWB f fd) (T : Txt K mg C G) : FnOk P w K mg base CX0 1 f fd ["self", "hall", "other"] (spWB C G) := by
  refine F.ok scWB (fun vs H Q E h => ?_) (fun cdv A outer s H vs Q E hr h => ?_)
  · obtain ⟨p, wa, g, b, d, n, x, y, rfl, _⟩ := h
    rfl
  · obtain ⟨p, wa, g, b, d, n, x, y, rfl, D, hx, hy, k⟩ := h
    have hu := hu_of hr
    obtain ⟨dx, h0⟩ := D.ob
    obtain ⟨ks, hw, hkl, hkv⟩ := D.wy
    refine ⟨_, pss_one (ps_ret (pe_dget2 hu (pe_fld (pv 0) rfl) (pe_tup (pa_cons (pv 1) (pa_cons (pv 2) pa_nil))) pe_int ⟨rfl, rfl, rfl, rfl⟩)), ?_⟩
    refine ⟨_, rfl, p, C, dx, _, _, rfl, h0, T.cl, T.nW, df_ways .., wa, rfl, .inr ⟨ks, .inl hw⟩, _, rfl, _, rfl, sz2, fun t ft => ?_⟩
    have s1 := Same.upd (o := .tup [.int (x : Nat), .int (y : Nat)]) ft
    refine ⟨_, DGet.t (k := k2 x y) (s1 _ _ hw) upd_same, ?_⟩
    rw [hkv x y hx hy]
    exact k _ s1
/-- lies_behind -/
def spLB (C G : Addr) : Sp := fun vs H Q _ => ∃ (p wa g b t1 t2 : Addr) (d : Si71.Day) (n : Nat) (x y : Si71.Game), vs = [.ref p, .ref t1, .ref t2] ∧ DayAt C G H p wa g b d n ∧ GameAt G H t1 x ∧ GameAt G H t2 y ∧ x.hall < d.halls ∧ y.hall < d.halls ∧ ∀ H', Same H H' → Q (.bl (d.behind y x)) H'
theorem scLB : FnScope ["self", "late", "early"] ["self", "late", "early"] (defScope sLB) := ⟨rfl, rfl, rfl, by decide +kernel, rfl, by decide +kernel, by decide +kernel⟩
theorem ok_lb {f fW : Addr} {fd fdW : FuncData} (F : Fun K "lies_behind" "Day.lies_behind" sLB f fd) (T : Txt K mg C G) (FW : Fun K "way_between" "Day.way_between" sWB fW fdW) (bW : Binds K fdW ["self", "hall", "other"] []) (mW : Meth K C "way_between" fW) :
    FnOk P w K mg base CX0 2 f fd ["self", "late", "early"] (spLB C G) := by
  have GW : FnOk P w K mg base CX0 1 fW fdW ["self", "hall", "other"] (spWB C G) := ok_wb FW T
  refine F.ok scLB (fun vs H Q E h => ?_) (fun cdv A outer s H vs Q E hr h => ?_)
  · obtain ⟨p, wa, g, b, t1, t2, d, n, x, y, rfl, _⟩ := h
    rfl
  · obtain ⟨p, wa, g, b, t1, t2, d, n, x, y, rfl, D, ⟨d1, h1⟩, ⟨d2, h2⟩, hx, hy, k⟩ := h
    obtain ⟨dx, h0⟩ := D.ob
    refine ⟨_, pss_one (ps_ret (pe_cmpR op_ge (pe_fld (pv 1) rfl) (pe_op op_add (pe_fld (pv 2) rfl) (pe_meth (pv 0) T.cl mW GW hr bW .nil pass0 (pa_cons (pe_fld (pv 2) rfl) (pa_cons (pe_fld (pv 1) rfl) pa_nil)))) (nomark _))), ?_⟩
    refine ⟨_, rfl, t1, G, d1, _, _, rfl, h1, T.clG, T.gB, gf_begin x, _, rfl, t2, G, d2, _, _, rfl, h2, T.clG, T.gE, gf_end y, _, rfl, p, dx, _, rfl, h0, (by rfl), _, rfl, t2, G, d2, _, _, rfl, h2, T.clG, T.gH, gf_hall y, _, rfl, t1, G, d1, _, _, rfl, h1, T.clG, T.gH, gf_hall x, p, wa, g, b, d, n, y.hall, x.hall, rfl, D, hy, hx, fun H' s1 => ?_⟩
    refine ⟨_, _, rfl, rfl, _, _, rfl, rfl, ?_⟩
    have e : decide ((y.to_ : Int) + (d.way y.hall x.hall : Nat) ≤ (x.from_ : Int)) = d.behind y x := by
      unfold Si71.Day.behind
      exact decide_eq_decide.mpr (by omega)
    dsimp only
    rw [e]
    exact k H' s1
/-- clash -/
def spCl (C G : Addr) : Sp := fun vs H Q _ => ∃ (p wa g b t1 t2 : Addr) (d : Si71.Day) (n : Nat) (x y : Si71.Game), vs = [.ref p, .ref t1, .ref t2] ∧ DayAt C G H p wa g b d n ∧ GameAt G H t1 x ∧ GameAt G H t2 y ∧ x.hall < d.halls ∧ y.hall < d.halls ∧ ∀ H', Same H H' → Q (.bl (!d.behind x y && !d.behind y x)) H'
theorem scCl : FnScope ["self", "one", "other"] ["self", "one", "other"] (defScope sClash) := ⟨rfl, rfl, rfl, by decide +kernel, rfl, by decide +kernel, by decide +kernel⟩
theorem ok_clash {f fL : Addr} {fd fdL : FuncData} (F : Fun K "clash" "Day.clash" sClash f fd) (T : Txt K mg C G) (GL : FnOk P w K mg base CX0 2 fL fdL ["self", "late", "early"] (spLB C G)) (bL : Binds K fdL ["self", "late", "early"] []) (mL : Meth K C "lies_behind" fL) :
    FnOk P w K mg base CX0 3 f fd ["self", "one", "other"] (spCl C G) := by
  refine F.ok scCl (fun vs H Q E h => ?_) (fun cdv A outer s H vs Q E hr h => ?_)
  · obtain ⟨p, wa, g, b, t1, t2, d, n, x, y, rfl, _⟩ := h
    rfl
  · obtain ⟨p, wa, g, b, t1, t2, d, n, x, y, rfl, D, h1, h2, hx, hy, k⟩ := h
    obtain ⟨dx, h0⟩ := D.ob
    refine ⟨_, pss_one (ps_ret (pe_and (pe_not (pe_meth (pv 0) T.cl mL GL hr bL .nil pass0 (pa_cons (pv 1) (pa_cons (pv 2) pa_nil)))) (pe_one (pe_not (pe_meth (pv 0) T.cl mL GL hr bL .nil pass0 (pa_cons (pv 2) (pa_cons (pv 1) pa_nil))))))), ?_⟩
    refine ⟨_, rfl, p, dx, _, rfl, h0, (by rfl), _, rfl, _, rfl, p, wa, g, b, t1, t2, d, n, x, y, rfl, D, h1, h2, hx, hy, fun H1 s1 => ?_⟩
    refine ⟨_, rfl, _, rfl, ?_⟩
    cases e1 : d.behind y x with
    | true =>
      refine iteF ?_
      have := k H1 s1
      rw [e1, Bool.not_true, Bool.and_false] at this
      exact this
    | false =>
      refine iteT ⟨_, rfl, p, dx, _, rfl, s1 _ _ h0, (by rfl), _, rfl, _, rfl, p, wa, g, b, t2, t1, d, n, y, x, rfl, D.same s1, h2.same s1, h1.same s1, hy, hx, fun H2 s2 => ⟨_, rfl, ?_⟩⟩
      have := k H2 (s1.trans s2)
      rw [e1, Bool.not_false, Bool.and_true] at this
      exact this
/-- is_barred -/
def spIB (C G : Addr) : Sp := fun vs H Q _ => ∃ (p wa g b t : Addr) (d : Si71.Day) (n r : Nat) (x : Si71.Game), vs = [.ref p, .int (r : Nat), .ref t] ∧ DayAt C G H p wa g b d n ∧ GameAt G H t x ∧ ∀ H', Same H H' → Q (.bl (d.bars.contains (r, x.one) || d.bars.contains (r, x.two))) H'
theorem scIB : FnScope ["self", "referee", "game"] ["self", "referee", "game"] (defScope sIB) := ⟨rfl, rfl, rfl, by decide +kernel, rfl, by decide +kernel, by decide +kernel⟩
theorem ok_ib {f : Addr} {fd : FuncData} (F : Fun K "is_barred" "Day.is_barred" sIB f fd) (T : Txt K mg C G) : FnOk P w K mg base CX0 1 f fd ["self", "referee", "game"] (spIB C G) := by
  refine F.ok scIB (fun vs H Q E h => ?_) (fun cdv A outer s H vs Q E hr h => ?_)
  · obtain ⟨p, wa, g, b, t, d, n, r, x, rfl, _⟩ := h
    rfl
  · obtain ⟨p, wa, g, b, t, d, n, r, x, rfl, D, ⟨d1, h1⟩, k⟩ := h
    have hu := hu_of hr
    obtain ⟨dx, h0⟩ := D.ob
    have hb := D.br
    refine ⟨_, pss_one (ps_ret (pe_or (pe_cmp (pc_din hu (pe_tup (pa_cons (pv 1) (pa_cons (pe_fld (pv 2) rfl) pa_nil))) (pe_fld (pv 0) rfl))) (pe_one (pe_cmp (pc_din hu (pe_tup (pa_cons (pv 1) (pa_cons (pe_fld (pv 2) rfl) pa_nil))) (pe_fld (pv 0) rfl)))))), ?_⟩
    refine ⟨_, rfl, _, rfl, t, G, d1, _, _, rfl, h1, T.clG, T.gO, gf_one x, sz2, fun t1 f1 => ?_⟩
    have s1 := Same.upd (o := .tup [.int (r : Nat), .int (x.one : Nat)]) f1
    refine ⟨_, rfl, p, C, dx, _, _, rfl, s1 _ _ h0, T.cl, T.nB, df_bars .., b, _, rfl, DGet.t (k := k2 r x.one) (s1 _ _ hb) upd_same, _, rfl, ?_⟩
    rw [bars_val]
    cases e1 : d.bars.contains (r, x.one) with
    | true =>
      refine iteT ?_
      have := k _ s1
      rw [e1, Bool.true_or] at this
      exact this
    | false =>
      refine iteF ⟨_, rfl, _, rfl, t, G, d1, _, _, rfl, s1 _ _ h1, T.clG, T.gT, gf_other x, sz2, fun t2 f2 => ?_⟩
      have s2 := s1.trans (Same.upd (o := .tup [.int (r : Nat), .int (x.two : Nat)]) f2)
      refine ⟨_, rfl, p, C, dx, _, _, rfl, s2 _ _ h0, T.cl, T.nB, df_bars .., b, _, rfl, DGet.t (k := k2 r x.two) (s2 _ _ hb) upd_same, ?_⟩
      rw [bars_val]
      have := k _ s2
      rw [e1, Bool.false_or] at this
      exact this
end
end Rp
end
section
set_option Elab.async false
set_option linter.all false
set_option maxRecDepth 100000
set_option maxHeartbeats 2000000
namespace L2
open PySem PySem.Spec PyProof.Rows
section
variable {X : Cx} {a : Expr} {ta : TE} {pos : Pos}
theorem tyes {σ : St} {H : Hp} {Q : Bool → Hp → Prop} (h : Q true H) : tYes σ H Q := h
/-- not x, x of any kind -/
theorem pe_notT (ha : PE X a ta) : PE X (.UnaryOp .Not a pos) (fun σ H Q => ta σ H fun x H1 => ∃ k, TruV X.K x H1 k ∧ Q (.bl (!k)) H1) := by
  intro pins s σ H Q I h
  refine UnaryOp_ (thn (ha pins s σ H _ I h) fun v s1 ⟨x, H1, I1, r1, q1⟩ => ?_)
  exact not_of (thn (tru_ok pins s1 σ H1 x v (fun k H2 => Q (.bl (!k)) H2) I1 r1 q1) fun c s2 ⟨H2, I2, q2⟩ => ⟨.bl (!c), H2, I2, rfl, q2⟩)
end
end L2
namespace Rp
open PySem PySem.Spec PyProof.Rows L2
/-- a plan's list -/
def pl (l : List Nat) : List V := l.map fun (n : Nat) => V.int (n : Int)
theorem pl_len (l : List Nat) : (pl l).length = l.length := List.length_map ..
theorem pl_at {l : List Nat} {i r : Nat} (h : l[i]? = some r) : (pl l)[i]? = some (.int (r : Int)) := by unfold pl; rw [List.getElem?_map, h]; rfl
theorem pl_ints (l : List Nat) : pl l = (l.map fun (n : Nat) => (n : Int)).map V.int := by unfold pl; rw [List.map_map]; rfl
theorem getD_at {l : List Nat} {i : Nat} (h : i < l.length) : l[i]? = some (l.getD i 0) := by
  rw [List.getD_eq_getElem?_getD, List.getElem?_eq_getElem h]
  rfl
section
variable {P : Program} {w : World} {K : PySem.W.Frag} {mg : Str → Option Value} {base : Heap} {C G : Addr}
/-- the game's object at a number -/
theorem game_at {H : Hp} {p wa g b : Addr} {d : Si71.Day} {n : Nat} (D : DayAt C G H p wa g b d n) {i : Nat} (hi : i < d.games.length) : ∃ (ts : List Addr) (t : Addr), H g = some (.lst (ts.map V.ref)) ∧ ts[i]? = some t ∧ GameAt G H t (d.game i) ∧ (d.game i).hall < d.halls := by
  obtain ⟨ts, hg, htl, htv⟩ := D.gm
  have hi' : i < ts.length := by omega
  refine ⟨ts, ts[i], hg, List.getElem?_eq_getElem hi', htv i _ (List.getElem?_eq_getElem hi'), ?_⟩
  have e : d.game i = d.games[i] := by unfold Si71.Day.game; rw [List.getD_eq_getElem?_getD, List.getElem?_eq_getElem hi]; rfl
  rw [e]
  exact (D.good.gh _ (List.getElem_mem hi)).1
def spHas (C G : Addr) : Sp := fun vs H Q _ => ∃ (p wa g b a : Addr) (d : Si71.Day) (n : Nat) (l : List Nat), vs = [.ref p, .ref a] ∧ DayAt C G H p wa g b d n ∧ H a = some (.lst (pl l)) ∧ l.length ≤ 8 ∧ ∀ H', Same H H' → Q (.bl (d.told l)) H'
theorem scHas : FnScope ["self", "plan", "referee"] ["self", "plan"] (defScope sHas) := ⟨rfl, rfl, rfl, by decide +kernel, rfl, by decide +kernel, by decide +kernel⟩
theorem ok_has {f : Addr} {fd : FuncData} (F : Fun K "has_a_referee_for_each_game" "Day.has_a_referee_for_each_game" sHas f fd) (T : Txt K mg C G) : FnOk P w K mg base CX0 1 f fd ["self", "plan"] (spHas C G) := by
  refine F.ok scHas (fun vs H Q E h => ?_) (fun cdv A outer s H vs Q E hr h => ?_)
  · obtain ⟨p, wa, g, b, a, d, n, l, rfl, _⟩ := h
    rfl
  · obtain ⟨p, wa, g, b, a, d, n, l, rfl, D, hl, h8, k⟩ := h
    obtain ⟨dx, h0⟩ := D.ob
    obtain ⟨ts, hg, htl, _⟩ := D.gm
    refine ⟨_, pss_one (ps_ret (pe_and (pe_cmpR op_eq (pe_callB call_len_seq (by rfl) T.len PySem.boot_len (pa_cons (pv 1) pa_nil)) (pe_callB call_len_seq (by rfl) T.len PySem.boot_len (pa_cons (pe_fld (pv 0) rfl) pa_nil)) (nomark _))
      (pe_one (pe_callB (cr_all rfl) (by rfl) T.b_all boot_all (pa_cons (pe_lc (own := [("referee", 2)]) (te := tOp (rI0 fun i j => .bl (decide (i < j))) (tVar 2) (tFld K (tVar 0) "referees")) rfl scHas.nd (pi_list (pv 1)) (blkOk_by (show blkC ["self", "plan", "referee"] (defScope sHas) _ _ = true from by decide +kernel)) (fun _ _ _ _ _ => pg_name (i := 2) scHas.nd rfl (Or.inl rfl)) (fun _ _ _ _ _ => pts_nil) (fun _ _ _ _ _ => pe_cmpR op_lt (pv 2) (pe_fld (pv 0) rfl) (nomark _))) pa_nil))))), ?_⟩
    refine ⟨_, rfl, a, _, rfl, .inl (SqL.of hl), _, rfl, p, C, dx, _, _, rfl, h0, T.cl, T.nG, df_games .., g, _, rfl, .inl (SqL.of hg), rfl, _, rfl, ?_⟩
    rw [pl_len, List.length_map, htl]
    refine ite2 (fun c => ?_) fun c => ?_
    · have c := V.int.inj (dtT c)
      have c : l.length = d.games.length := by omega
      refine ⟨_, rfl, a, rfl, ⟨_, SqL.of hl⟩, fun Dn hD => lc_list (xs := pl l) (fun i H' => Same H H' ∧ H' Dn = some (.lst ((l.take i).map fun r => V.bl (decide (r < d.refs))))) ⟨Same.upd hD, upd_same⟩ (fun i H' _ q => SqL.of (q.1 _ _ hl)) (fun i x H' hx q => ?_) fun H' q => ?_⟩
      · have hi : i < l.length := by have := (List.getElem?_eq_some_iff.mp hx).1; rw [pl_len] at this; exact this
        rw [pl_at (getD_at hi)] at hx
        cases hx
        refine ⟨rfl, tyes ?_⟩
        rw [if_pos rfl]
        refine ⟨_, rfl, _, rfl, p, C, dx, _, _, rfl, q.1 _ _ h0, T.cl, T.nR, df_referees .., _, _, rfl, rfl, _, q.2, small1000 (by rw [List.length_map, List.length_take]; omega), ?_, ?_⟩
        · exact fun c o e => by rw [upd_ne (ne_of_none e hD)]; exact q.1 _ _ e
        · rw [upd_same, List.take_add_one, getD_at hi, List.map_append]
          congr 3
          show [V.bl (decide ((l.getD i 0 : Int) < (d.refs : Int)))] = [V.bl (decide (l.getD i 0 < d.refs))]
          congr 2
          exact decide_eq_decide.mpr (by omega)
      · rw [pl_len, List.take_of_length_le (Nat.le_refl _)] at q
        refine ⟨Dn, l.map fun r => decide (r < d.refs), rfl, SqL.of (by rw [q.2, List.map_map]; rfl), ?_⟩
        have := k H' q.1
        have e : d.told l = (l.map fun r => decide (r < d.refs)).all id := by
          unfold Si71.Day.told
          rw [List.all_map, c, beq_self_eq_true, Bool.true_and]
          rfl
        rw [← e]
        exact this
    · have c : ¬ l.length = d.games.length := fun q => dtF c (by rw [q])
      have e : d.told l = false := by
        unfold Si71.Day.told
        rw [beq_eq_false_iff_ne.mpr c, Bool.false_and]
      have := k H (Same.refl H)
      rw [e] at this
      exact this
/-- the referee of game i may not judge it -/
def bad1 (d : Si71.Day) (l : List Nat) (i : Nat) : Bool := d.bars.contains (l.getD i 0, (d.game i).one) || d.bars.contains (l.getD i 0, (d.game i).two)
def badL (d : Si71.Day) (l : List Nat) : List Nat := (List.range l.length).filter (bad1 d l)
/-- a new list comes out -/
def Out (H : Hp) (Q : VK) (xs : List V) : Prop := ∀ (Dn : Addr) (H' : Hp), Same H H' → H Dn = none → H' Dn = some (.lst xs) → Q (.ref Dn) H'
def spBG (C G : Addr) : Sp := fun vs H Q _ => ∃ (p wa g b a : Addr) (d : Si71.Day) (n : Nat) (l : List Nat), vs = [.ref p, .ref a] ∧ DayAt C G H p wa g b d n ∧ H a = some (.lst (pl l)) ∧ l.length ≤ d.games.length ∧ Out H Q (pl (badL d l))
theorem scBG : FnScope ["self", "plan", "number"] ["self", "plan"] (defScope sBG) := ⟨rfl, rfl, rfl, by decide +kernel, rfl, by decide +kernel, by decide +kernel⟩
theorem ok_bg {f fI : Addr} {fd fdI : FuncData} (F : Fun K "barred_games" "Day.barred_games" sBG f fd) (T : Txt K mg C G) (FI : Fun K "is_barred" "Day.is_barred" sIB fI fdI) (bI : Binds K fdI ["self", "referee", "game"] []) (mI : Meth K C "is_barred" fI) : FnOk P w K mg base CX0 2 f fd ["self", "plan"] (spBG C G) := by
  have GI : FnOk P w K mg base CX0 1 fI fdI ["self", "referee", "game"] (spIB C G) := ok_ib FI T
  refine F.ok scBG (fun vs H Q E h => ?_) (fun cdv A outer s H vs Q E hr h => ?_)
  · obtain ⟨p, wa, g, b, a, d, n, l, rfl, _⟩ := h
    rfl
  · obtain ⟨p, wa, g, b, a, d, n, l, rfl, D, hl, hle, k⟩ := h
    have hgl := D.good.gl
    obtain ⟨dx, h0⟩ := D.ob
    refine ⟨_, pss_one (ps_ret (pe_lc (own := [("number", 2)]) (tt := tB (tMeth C "is_barred" (spIB C G) [] E0 (tVar 0) (tCons (tOp (rIxL K) (tVar 1) (tVar 2)) (tCons (tOp (rIxL K) (tFld K (tVar 0) "games") (tVar 2)) tNil)))) rfl scBG.nd (pi_range1 rfl T.b_range (pa_cons (pe_callB call_len_seq (by rfl) T.len PySem.boot_len (pa_cons (pv 1) pa_nil)) pa_nil)) (blkOk_by (show blkC ["self", "plan", "number"] (defScope sBG) _ _ = true from by decide +kernel)) (fun _ _ _ _ _ => pg_name (i := 2) scBG.nd rfl (Or.inl rfl))
      (fun _ _ _ _ _ => pts_one (pt_val (pe_meth (pv 0) T.cl mI GI hr bI .nil pass0 (pa_cons (pe_ix ix_list (pv 1) (pv 2) (fun _ _ => rfl)) (pa_cons (pe_ix ix_list (pe_fld (pv 0) rfl) (pv 2) (fun _ _ => rfl)) pa_nil))))) (fun _ _ _ _ _ => pv 2))), ?_⟩
    refine ⟨_, rfl, a, _, rfl, .inl (SqL.of hl), _, rfl, ?_, ?_, ?_⟩
    · omega
    · rw [pl_len]; omega
    rw [pl_len, Int.toNat_natCast]
    refine fun Dn hD => lc_range (fun i H' => Same H H' ∧ H' Dn = some (.lst (pl ((List.range i).filter (bad1 d l))))) ⟨Same.upd hD, upd_same⟩ (fun i H' hi q => ?_) fun H' q => k Dn H' q.1 hD q.2
    obtain ⟨ts, t, hg, ht, hG, _⟩ := game_at (D.same q.1) (show i < d.games.length by omega)
    refine ⟨rfl, _, rfl, p, dx, _, rfl, q.1 _ _ h0, (by rfl), _, rfl, _, rfl, a, _, _, _, rfl, rfl, SqL.of (q.1 _ _ hl), at_of (j := i) (by simp) (pl_at (getD_at (by omega))), _, rfl, p, C, dx, _, _, rfl, q.1 _ _ h0, T.cl, T.nG, df_games .., _, rfl, g, _, _, _, rfl, rfl, SqL.of hg, at_of (j := i) (by simp) (by rw [List.getElem?_map, ht]; rfl), p, wa, g, b, t, d, n, l.getD i 0, d.game i, rfl, D.same q.1, hG, fun H2 s2 => ⟨_, rfl, ?_⟩⟩
    have s3 := q.1.trans s2
    have er : (List.range (i + 1)).filter (bad1 d l) = (List.range i).filter (bad1 d l) ++ if bad1 d l i = true then [i] else [] := by
      rw [List.range_succ, List.filter_append, List.filter_cons]
      rfl
    refine ite2 (fun c => ?_) fun c => ?_
    · have c : bad1 d l i = true := c
      refine ⟨_, rfl, _, s2 _ _ q.2, small1000 (by rw [pl_len]; have := List.length_filter_le (bad1 d l) (List.range i); rw [List.length_range] at this; omega), fun c o e => ?_, ?_⟩
      · rw [upd_ne (ne_of_none e hD)]
        exact s3 _ _ e
      · rw [upd_same, er, if_pos c]
        unfold pl
        rw [List.map_append]
        congr 3
        show [V.int (0 + (i : Int))] = [V.int (i : Int)]
        rw [Int.zero_add]
    · have c : ¬ bad1 d l i = true := c
      refine ⟨s3, ?_⟩
      rw [er, if_neg c, List.append_nil]
      exact s2 _ _ q.2
end
end Rp
end
section
set_option Elab.async false
set_option linter.all false
set_option maxRecDepth 100000
set_option maxHeartbeats 2000000
namespace Rp
open PySem PySem.Spec PyProof.Rows L2
/-- two games that their referee can't judge both -/
def bad2 (d : Si71.Day) (l : List Nat) (x : Nat × Nat) : Bool := l.getD x.1 0 == l.getD x.2 0 && (!d.behind (d.game x.1) (d.game x.2) && !d.behind (d.game x.2) (d.game x.1))
def rowP (d : Si71.Day) (l : List Nat) (i m : Nat) : List (Nat × Nat) := ((List.range m).map fun t => (i, i + 1 + t)).filter (bad2 d l)
def outP (d : Si71.Day) (l : List Nat) (i : Nat) : List (Nat × Nat) := (List.range i).flatMap fun i' => rowP d l i' (l.length - (i' + 1))
def pr (x : Nat × Nat) : List Int := [(x.1 : Int), (x.2 : Int)]
theorem rowP_succ (d : Si71.Day) (l : List Nat) (i m : Nat) : rowP d l i (m + 1) = rowP d l i m ++ if bad2 d l (i, i + 1 + m) = true then [(i, i + 1 + m)] else [] := by
  unfold rowP
  rw [List.range_succ, List.map_append, List.filter_append, List.map_cons, List.map_nil, List.filter_cons]
  rfl
theorem outP_succ (d : Si71.Day) (l : List Nat) (i : Nat) : outP d l (i + 1) = outP d l i ++ rowP d l i (l.length - (i + 1)) := by
  unfold outP
  rw [List.range_succ, List.flatMap_append, List.flatMap_cons, List.flatMap_nil, List.append_nil]
theorem rowP_len (d : Si71.Day) (l : List Nat) (i m : Nat) : (rowP d l i m).length ≤ m := by
  unfold rowP
  refine Nat.le_trans (List.length_filter_le _ _) ?_
  rw [List.length_map, List.length_range]
  exact Nat.le_refl _
theorem outP_len (d : Si71.Day) (l : List Nat) : ∀ i, (outP d l i).length ≤ i * l.length
  | 0 => by simp [outP]
  | i + 1 => by
    rw [outP_succ, List.length_append, Nat.succ_mul]
    have h1 := outP_len d l i
    have h2 := rowP_len d l i (l.length - (i + 1))
    omega
/-- a list of pairs stands at Dn -/
structure Found (H' : Hp) (Dn : Addr) (qs : List (Addr × List Int)) (ps : List (Nat × Nat)) : Prop where
  dn : H' Dn = some (.lst (qs.map fun q => V.ref q.1))
  row : ∀ q, q ∈ qs → H' q.1 = some (.lst (q.2.map V.int)) ∧ q.1 ≠ Dn
  is : qs.map (·.2) = ps.map pr
theorem Found.len {H' : Hp} {Dn : Addr} {qs : List (Addr × List Int)} {ps : List (Nat × Nat)} (f : Found H' Dn qs ps) : qs.length = ps.length := by
  have := congrArg List.length f.is
  rw [List.length_map, List.length_map] at this
  exact this
theorem Found.same {H H' : Hp} {Dn : Addr} {qs : List (Addr × List Int)} {ps : List (Nat × Nat)} (f : Found H Dn qs ps) (s : Same H H') : Found H' Dn qs ps := ⟨s _ _ f.dn, fun q h => ⟨s _ _ (f.row q h).1, (f.row q h).2⟩, f.is⟩
section
variable {P : Program} {w : World} {K : PySem.W.Frag} {mg : Str → Option Value} {base : Heap} {C G : Addr}
def spCG (C G : Addr) : Sp := fun vs H Q _ => ∃ (p wa g b a : Addr) (d : Si71.Day) (n : Nat) (l : List Nat), vs = [.ref p, .ref a] ∧ DayAt C G H p wa g b d n ∧ H a = some (.lst (pl l)) ∧ l.length ≤ d.games.length ∧
  ∀ (Dn : Addr) (H' : Hp) (qs : List (Addr × List Int)), Same H H' → H Dn = none → Found H' Dn qs (outP d l l.length) → Q (.ref Dn) H'
theorem scCG : FnScope ["self", "plan", "found", "lower", "higher"] ["self", "plan"] (defScope sCG) := ⟨rfl, rfl, rfl, by decide +kernel, rfl, by decide +kernel, by decide +kernel⟩
theorem ok_cg {f fC : Addr} {fd fdC : FuncData} (F : Fun K "clashing_games" "Day.clashing_games" sCG f fd) (T : Txt K mg C G) (GC : FnOk P w K mg base CX0 3 fC fdC ["self", "one", "other"] (spCl C G)) (bC : Binds K fdC ["self", "one", "other"] []) (mC : Meth K C "clash" fC) : FnOk P w K mg base CX0 4 f fd ["self", "plan"] (spCG C G) := by
  refine F.ok scCG (fun vs H Q E h => ?_) (fun cdv A outer s H vs Q E hr h => ?_)
  · obtain ⟨p, wa, g, b, a, d, n, l, rfl, _⟩ := h
    rfl
  · obtain ⟨p, wa, g, b, a, d, n, l, rfl, D, hl, hle, k⟩ := h
    have hgl := D.good.gl
    obtain ⟨dx, h0⟩ := D.ob
    refine ⟨_, pss_cons (ps_set (i := 2) scCG.nd rfl (Or.inl rfl) (pe_lst pa_nil))
      (pss_cons (ps_for PassesOwn.never rfl (pi_range1 rfl T.b_range (pa_cons (pe_callB call_len_seq (by rfl) T.len PySem.boot_len (pa_cons (pv 1) pa_nil)) pa_nil)) (pg_name (i := 3) scCG.nd rfl (Or.inl rfl))
        (pss_one (ps_for PassesOwn.never rfl (pi_range2 rfl T.b_range (pa_cons (pe_op op_add (pv 3) pe_int) (pa_cons (pe_callB call_len_seq (by rfl) T.len PySem.boot_len (pa_cons (pv 1) pa_nil)) pa_nil))) (pg_name (i := 4) scCG.nd rfl (Or.inl rfl))
          (pss_one (ps_if (PW.pt (pw_and (pt_cmpR op_eq (pe_ix ix_list (pv 1) (pv 3) (fun _ _ => rfl)) (pe_ix ix_list (pv 1) (pv 4) (fun _ _ => rfl)) (nomark _)) (pw_and1 (pt_val (pe_meth (pv 0) T.cl mC GC hr bC .nil pass0 (pa_cons (pe_ix ix_list (pe_fld (pv 0) rfl) (pv 3) (fun _ _ => rfl)) (pa_cons (pe_ix ix_list (pe_fld (pv 0) rfl) (pv 4) (fun _ _ => rfl)) pa_nil)))))))
            (pss_one (ps_expr (pe_bm PySem.F.plainAttrs_list PySem.F.slot_list_append PySem.F.type_list_append mt_append (pv 2) (pa_cons (pe_lst (pa_cons (pv 3) (pa_cons (pv 4) pa_nil))) pa_nil)))) pss_nil)))))
      (pss_one (ps_ret (pv 2)))), ?_⟩
    refine ⟨Nat.zero_le _, fun Dn hD => ?_⟩
    have s0 : Same H (upd H Dn (.lst [])) := Same.upd hD
    refine ⟨_, rfl, a, _, rfl, .inl (SqL.of (s0 _ _ hl)), _, rfl, ?_, ?_, ?_⟩
    · omega
    · rw [pl_len]; omega
    rw [pl_len, Int.toNat_natCast]
    refine for_range (fun i σ H' => ∃ v3 v4 qs, σ = [some (.ref p), some (.ref a), some (.ref Dn), v3, v4] ∧ Same H H' ∧ Found H' Dn qs (outP d l i)) ⟨none, none, [], rfl, s0, ⟨upd_same, fun q h => (nomatch h), rfl⟩⟩ ?_ ?_
    · rintro i σ H1 hi ⟨v3, v4, qs, rfl, s1, f1⟩
      show tFor _ _ _ _ _ _
      refine ⟨_, rfl, _, _, rfl, rfl, _, rfl, a, _, rfl, .inl (SqL.of (s1 _ _ hl)), _, _, rfl, ?_, ?_⟩
      · rw [pl_len]; omega
      have en : (((pl l).length : Int) - (0 + (i : Int) + 1)).toNat = l.length - (i + 1) := by rw [pl_len]; omega
      rw [en]
      refine for_range (fun j σ H' => ∃ v4 qs, σ = [some (.ref p), some (.ref a), some (.ref Dn), some (.int (0 + (i : Int))), v4] ∧ Same H H' ∧ Found H' Dn qs (outP d l i ++ rowP d l i j)) ⟨v4, qs, rfl, s1, ?_⟩ ?_ ?_
      · have e : rowP d l i 0 = [] := rfl
        rw [e, List.append_nil]
        exact f1
      · rintro j σ H2 hj ⟨v4, qs, rfl, s2, f2⟩
        have hk : i + 1 + j < l.length := by omega
        have ez : (0 + (i : Int) + 1 + (j : Int)) = ((i + 1 + j : Nat) : Int) := by omega
        have ei : (0 + (i : Int)) = (i : Int) := by omega
        rw [ez, ei]
        obtain ⟨ts, t1, hg, ht1, hG1, hh1⟩ := game_at (D.same s2) (show i < d.games.length by omega)
        obtain ⟨ts', t2, hg', ht2, hG2, hh2⟩ := game_at (D.same s2) (show i + 1 + j < d.games.length by omega)
        have ets : ts = ts' := by
          rw [hg] at hg'
          have q := HO.lst.inj (Option.some.inj hg')
          exact List.map_inj_right (fun x y z => V.ref.inj z) |>.mp q
        subst ets
        refine ⟨_, rfl, _, rfl, a, _, _, _, rfl, rfl, SqL.of (s2 _ _ hl), at_of (j := i) rfl (pl_at (getD_at (by omega))), _, rfl, _, rfl, a, _, _, _, rfl, rfl, SqL.of (s2 _ _ hl), at_of (j := i + 1 + j) rfl (pl_at (getD_at (by omega))), rfl, _, rfl, ?_⟩
        have fin : bad2 d l (i, i + 1 + j) = false → ∀ H3, Same H2 H3 → ∃ v4 qs, [some (V.ref p), some (.ref a), some (.ref Dn), some (.int (i : Int)), some (.int ((i + 1 + j : Nat) : Int))] = [some (.ref p), some (.ref a), some (.ref Dn), some (.int (i : Int)), v4] ∧ Same H H3 ∧ Found H3 Dn qs (outP d l i ++ rowP d l i (j + 1)) := fun e H3 s3 => by
          refine ⟨_, qs, rfl, s2.trans s3, ?_⟩
          rw [rowP_succ, e, if_neg Bool.false_ne_true, List.append_nil]
          exact f2.same s3
        have eb : (decide (V.int (l.getD i 0 : Int) = V.int (l.getD (i + 1 + j) 0 : Int))) = (l.getD i 0 == l.getD (i + 1 + j) 0) := by
          by_cases q : l.getD i 0 = l.getD (i + 1 + j) 0
          · rw [q, beq_self_eq_true, decide_eq_true rfl]
          · rw [beq_eq_false_iff_ne.mpr q, decide_eq_false (fun z => q (by have := V.int.inj z; omega))]
        rw [eb]
        cases e1 : (l.getD i 0 == l.getD (i + 1 + j) 0) with
        | false =>
          have e2 : bad2 d l (i, i + 1 + j) = false := by unfold bad2; rw [e1, Bool.false_and]
          exact iteF (iteF (fin e2 H2 (Same.refl _)))
        | true =>
          refine iteT ⟨_, rfl, p, dx, _, rfl, s2 _ _ h0, (by rfl), _, rfl, p, C, dx, _, _, rfl, s2 _ _ h0, T.cl, T.nG, df_games .., _, rfl, g, _, _, _, rfl, rfl, SqL.of hg, at_of (j := i) rfl (by rw [List.getElem?_map, ht1]; rfl), _, rfl, p, C, dx, _, _, rfl, s2 _ _ h0, T.cl, T.nG, df_games .., _, rfl, g, _, _, _, rfl, rfl, SqL.of hg, at_of (j := i + 1 + j) rfl (by rw [List.getElem?_map, ht2]; rfl), p, wa, g, b, t1, t2, d, n, d.game i, d.game (i + 1 + j), rfl, D.same s2, hG1, hG2, hh1, hh2, fun H3 s3 => ⟨_, rfl, ?_⟩⟩
          have e2 : bad2 d l (i, i + 1 + j) = (!d.behind (d.game i) (d.game (i + 1 + j)) && !d.behind (d.game (i + 1 + j)) (d.game i)) := by unfold bad2; rw [e1, Bool.true_and]
          rw [← e2]
          cases e3 : bad2 d l (i, i + 1 + j) with
          | false => exact iteF (fin e3 H3 s3)
          | true =>
            have f3 := f2.same s3
            refine iteT ⟨_, rfl, .inl ⟨rfl, _, SqL.of f3.dn⟩, _, rfl, _, rfl, sz2, fun r hr' => ?_⟩
            have nrD : Dn ≠ r := ne_of_none f3.dn hr'
            have hlen : qs.length ≤ 1000 := by
              rw [f3.len, List.length_append]
              have h1 := outP_len d l i
              have h2 := rowP_len d l i j
              have h3 : i * l.length ≤ 6 * l.length := Nat.mul_le_mul_right _ (by omega)
              omega
            refine ⟨Dn, _, _, rfl, rfl, (by rw [upd_ne nrD]; exact f3.dn), small1000 (by rw [List.length_map]; exact hlen), ?_⟩
            have s4 : Same H (upd (upd H3 r (.lst [.int (i : Int), .int ((i + 1 + j : Nat) : Int)])) Dn (.lst (qs.map (fun q => V.ref q.1) ++ [V.ref r]))) := fun c o e => by
              rw [upd_ne (ne_of_none e hD), upd_ne (ne_of_none (s3 _ _ (s2 _ _ e)) hr')]
              exact s3 _ _ (s2 _ _ e)
            refine ⟨_, qs ++ [(r, pr (i, i + 1 + j))], rfl, s4, ⟨?_, fun q hq => ?_, ?_⟩⟩
            · rw [upd_same, List.map_append]
              rfl
            · rcases List.mem_append.mp hq with hq | hq
              · obtain ⟨q1, q2⟩ := f3.row q hq
                refine ⟨?_, q2⟩
                rw [upd_ne q2, upd_ne (ne_of_none q1 hr')]
                exact q1
              · rw [List.mem_singleton.mp hq]
                exact ⟨by rw [upd_ne nrD.symm, upd_same]; rfl, nrD.symm⟩
            · rw [rowP_succ, e3, if_pos rfl, List.map_append, f3.is, ← List.append_assoc, List.map_append (l₂ := [(i, i + 1 + j)])]
              rfl
      · rintro σ H2 ⟨v4, qs, rfl, s2, f2⟩
        refine ⟨_, v4, qs, rfl, s2, ?_⟩
        rw [outP_succ]
        exact f2
    · rintro σ H1 ⟨v3, v4, qs, rfl, s1, f1⟩
      exact ⟨_, rfl, k Dn H1 qs s1 hD f1⟩
end
end Rp
end
section
set_option Elab.async false
set_option linter.all false
set_option maxRecDepth 100000
set_option maxHeartbeats 2000000
namespace Rp
open PySem PySem.Spec PyProof.Rows L2
/-- a plan for the first games has nothing against it -/
def canP (d : Si71.Day) (l : List Nat) : Bool := (badL d l).isEmpty && (outP d l l.length).isEmpty
def longerP (R : Nat) (ls : List (List Nat)) : List (List Nat) := ls.flatMap fun l => (List.range R).map fun r => l ++ [r]
def goodP (d : Si71.Day) : Nat → List (List Nat)
  | 0 => [[]]
  | i + 1 => (longerP d.refs (goodP d i)).filter (canP d)
theorem longer_len (R : Nat) : ∀ ls : List (List Nat), (longerP R ls).length = ls.length * R
  | [] => by simp [longerP]
  | l :: ls => by
    have ih := longer_len R ls
    unfold longerP at ih ⊢
    rw [List.flatMap_cons, List.length_append, List.length_map, List.length_range, ih, List.length_cons, Nat.succ_mul, Nat.add_comm]
theorem good_len (d : Si71.Day) (hR : d.refs ≤ 4) : ∀ i, (goodP d i).length ≤ 4 ^ i
  | 0 => Nat.le_refl _
  | i + 1 => by
    refine Nat.le_trans (List.length_filter_le _ _) ?_
    rw [longer_len, Nat.pow_succ]
    exact Nat.mul_le_mul (good_len d hR i) hR
theorem good_each (d : Si71.Day) : ∀ (i : Nat) (l : List Nat), l ∈ goodP d i → l.length = i ∧ ∀ x, x ∈ l → x < d.refs
  | 0, l, h => by
    rw [List.mem_singleton.mp h]
    exact ⟨rfl, fun x hx => nomatch hx⟩
  | i + 1, l, h => by
    obtain ⟨h1, _⟩ := List.mem_filter.mp h
    obtain ⟨m, hm, h2⟩ := List.mem_flatMap.mp h1
    obtain ⟨r, hr, rfl⟩ := List.mem_map.mp h2
    obtain ⟨h3, h4⟩ := good_each d i m hm
    refine ⟨by rw [List.length_append, h3]; rfl, fun x hx => ?_⟩
    rcases List.mem_append.mp hx with q | q
    · exact h4 x q
    · rw [List.mem_singleton.mp q]
      exact List.mem_range.mp hr
theorem pow46 {i : Nat} (h : i ≤ 6) : 4 ^ i ≤ 4096 := Nat.pow_le_pow_right (by decide) h
/-- a list of plans stands at a -/
structure PlansAt (H : Hp) (a : Addr) (qs : List (Addr × List Nat)) : Prop where
  dn : H a = some (.lst (qs.map fun q => V.ref q.1))
  row : ∀ q, q ∈ qs → H q.1 = some (.lst (pl q.2)) ∧ q.1 ≠ a
theorem PlansAt.same {H H' : Hp} {a : Addr} {qs : List (Addr × List Nat)} (f : PlansAt H a qs) (s : Same H H') : PlansAt H' a qs := ⟨s _ _ f.dn, fun q h => ⟨s _ _ (f.row q h).1, (f.row q h).2⟩⟩
theorem sz20 {n : Nat} (h : n ≤ 20000) : n < sizeLine := by rw [sizeLine_eq]; omega
section
variable {P : Program} {w : World} {K : PySem.W.Frag} {mg : Str → Option Value} {base : Heap} {C G : Addr}
def spCan (C G : Addr) : Sp := fun vs H Q _ => ∃ (p wa g b a : Addr) (d : Si71.Day) (n : Nat) (l : List Nat), vs = [.ref p, .ref a] ∧ DayAt C G H p wa g b d n ∧ H a = some (.lst (pl l)) ∧ l.length ≤ d.games.length ∧ ∀ H', Same H H' → Q (.bl (canP d l)) H'
theorem scCan : FnScope ["self", "plan"] ["self", "plan"] (defScope sCan) := ⟨rfl, rfl, rfl, by decide +kernel, rfl, by decide +kernel, by decide +kernel⟩
theorem empty_map {α β : Type} (f : α → β) (l : List α) : (l.map f).isEmpty = l.isEmpty := by cases l <;> rfl
theorem ok_can {f fB fC : Addr} {fd fdB fdC : FuncData} (F : Fun K "can_be" "Day.can_be" sCan f fd) (T : Txt K mg C G) (GB : FnOk P w K mg base CX0 2 fB fdB ["self", "plan"] (spBG C G)) (bB : Binds K fdB ["self", "plan"] []) (mB : Meth K C "barred_games" fB)
    (GC : FnOk P w K mg base CX0 4 fC fdC ["self", "plan"] (spCG C G)) (bC : Binds K fdC ["self", "plan"] []) (mC : Meth K C "clashing_games" fC) : FnOk P w K mg base CX0 5 f fd ["self", "plan"] (spCan C G) := by
  refine F.ok scCan (fun vs H Q E h => ?_) (fun cdv A outer s H vs Q E hr h => ?_)
  · obtain ⟨p, wa, g, b, a, d, n, l, rfl, _⟩ := h
    rfl
  · obtain ⟨p, wa, g, b, a, d, n, l, rfl, D, hl, hle, k⟩ := h
    obtain ⟨dx, h0⟩ := D.ob
    have hr2 := hr.mono (show 2 ≤ 4 by decide)
    refine ⟨_, pss_one (ps_ret (pe_and (pe_notT (pe_meth (pv 0) T.cl mB GB hr2 bB .nil pass0 (pa_cons (pv 1) pa_nil))) (pe_one (pe_notT (pe_meth (pv 0) T.cl mC GC hr bC .nil pass0 (pa_cons (pv 1) pa_nil)))))), ?_⟩
    refine ⟨_, rfl, p, dx, _, rfl, h0, (by rfl), _, rfl, p, wa, g, b, a, d, n, l, rfl, D, hl, hle, fun D1 H1 s1 _ q1 => ⟨!(pl (badL d l)).isEmpty, .inl ⟨_, SqL.of q1, rfl⟩, _, rfl, ?_⟩⟩
    rw [Bool.not_not]
    unfold pl
    rw [empty_map]
    cases e : (badL d l).isEmpty with
    | false =>
      refine iteF ?_
      have := k H1 s1
      unfold canP at this
      rw [e, Bool.false_and] at this
      exact this
    | true =>
      refine iteT ⟨_, rfl, p, dx, _, rfl, s1 _ _ h0, (by rfl), _, rfl, p, wa, g, b, a, d, n, l, rfl, D.same s1, s1 _ _ hl, hle, fun D2 H2 qs s2 _ f2 => ⟨!(qs.map fun q => V.ref q.1).isEmpty, .inl ⟨_, SqL.of f2.dn, rfl⟩, ?_⟩⟩
      have := k H2 (s1.trans s2)
      unfold canP at this
      rw [e, Bool.true_and] at this
      rw [Bool.not_not, empty_map]
      have e2 : qs.isEmpty = (outP d l l.length).isEmpty := by
        rw [← empty_map (fun q : Addr × List Int => q.2) qs, f2.is, empty_map]
      rw [e2]
      exact this
def spOL (C G : Addr) : Sp := fun vs H Q _ => ∃ (p wa g b a : Addr) (d : Si71.Day) (n : Nat) (qs : List (Addr × List Nat)), vs = [.ref p, .ref a] ∧ DayAt C G H p wa g b d n ∧ PlansAt H a qs ∧ qs.length ≤ 4096 ∧ (∀ q, q ∈ qs → q.2.length ≤ 8) ∧
  ∀ (Dn : Addr) (H' : Hp) (qs' : List (Addr × List Nat)), Same H H' → H Dn = none → PlansAt H' Dn qs' → qs'.map (·.2) = longerP d.refs (qs.map (·.2)) → Q (.ref Dn) H'
theorem scOL : FnScope ["self", "plans", "longer", "plan", "referee"] ["self", "plans"] (defScope sOL) := ⟨rfl, rfl, rfl, by decide +kernel, rfl, by decide +kernel, by decide +kernel⟩
theorem ok_ol {f : Addr} {fd : FuncData} (F : Fun K "one_game_longer" "Day.one_game_longer" sOL f fd) (T : Txt K mg C G) : FnOk P w K mg base CX0 1 f fd ["self", "plans"] (spOL C G) := by
  refine F.ok scOL (fun vs H Q E h => ?_) (fun cdv A outer s H vs Q E hr h => ?_)
  · obtain ⟨p, wa, g, b, a, d, n, qs, rfl, _⟩ := h
    rfl
  · obtain ⟨p, wa, g, b, a, d, n, qs, rfl, D, hp, h4, h8, k⟩ := h
    obtain ⟨dx, h0⟩ := D.ob
    have hR := D.good.r4
    refine ⟨_, pss_cons (ps_set (i := 2) scOL.nd rfl (Or.inl rfl) (pe_lst pa_nil))
      (pss_cons (ps_for PassesOwn.never rfl (pi_list (pv 1)) (pg_name (i := 3) scOL.nd rfl (Or.inl rfl))
        (pss_one (ps_for PassesOwn.never rfl (pi_range1 rfl T.b_range (pa_cons (pe_fld (pv 0) rfl) pa_nil)) (pg_name (i := 4) scOL.nd rfl (Or.inl rfl))
          (pss_one (ps_expr (pe_bm PySem.F.plainAttrs_list PySem.F.slot_list_append PySem.F.type_list_append mt_append (pv 2) (pa_cons (pe_op op_cat (pv 3) (pe_lst (pa_cons (pv 4) pa_nil))) pa_nil)))))))
      (pss_one (ps_ret (pv 2)))), ?_⟩
    refine ⟨Nat.zero_le _, fun Dn hD => ?_⟩
    have s0 : Same H (upd H Dn (.lst [])) := Same.upd hD
    refine ⟨_, rfl, a, rfl, ⟨_, SqL.of (s0 _ _ hp.dn)⟩, ?_⟩
    refine for_list (xs := qs.map fun q => V.ref q.1) (fun i σ H' => ∃ v3 v4 qs', σ = [some (.ref p), some (.ref a), some (.ref Dn), v3, v4] ∧ Same H H' ∧ PlansAt H' Dn qs' ∧ qs'.map (·.2) = longerP d.refs ((qs.take i).map (·.2))) ⟨none, none, [], rfl, s0, ⟨upd_same, fun q h => (nomatch h)⟩, rfl⟩ (fun i σ H' _ q => ?_) ?_ ?_
    · obtain ⟨v3, v4, qs', rfl, s1, _⟩ := q
      exact SqL.of (s1 _ _ hp.dn)
    · rintro i x σ H1 hx ⟨v3, v4, qs', rfl, s1, f1, e1⟩
      rw [List.getElem?_map] at hx
      cases eq : qs[i]? with
      | none => rw [eq] at hx; cases hx
      | some q =>
        rw [eq] at hx
        cases hx
        have hqm : q ∈ qs := List.mem_of_getElem? eq
        have hi : i < qs.length := (List.getElem?_eq_some_iff.mp eq).1
        obtain ⟨hq1, _⟩ := hp.row q hqm
        have hq8 := h8 q hqm
        show tFor _ _ _ _ _ _
        refine ⟨_, rfl, p, C, dx, _, _, rfl, s1 _ _ h0, T.cl, T.nR, df_referees .., _, rfl, ?_, ?_, ?_⟩
        · omega
        · omega
        rw [Int.toNat_natCast]
        refine for_range (fun j σ H' => ∃ v4 qs', σ = [some (.ref p), some (.ref a), some (.ref Dn), some (.ref q.1), v4] ∧ Same H H' ∧ PlansAt H' Dn qs' ∧ qs'.map (·.2) = longerP d.refs ((qs.take i).map (·.2)) ++ (List.range j).map fun r => q.2 ++ [r]) ⟨v4, qs', rfl, s1, f1, by rw [e1]; simp⟩ ?_ ?_
        · rintro j σ H2 hj ⟨v4, qs2, rfl, s2, f2, e2⟩
          rw [show (0 + (j : Int)) = (j : Int) by omega]
          refine ⟨_, rfl, .inl ⟨rfl, _, SqL.of f2.dn⟩, _, rfl, _, rfl, (by show 1 ≤ sizeLine; decide), fun r1 hr1 => ?_⟩
          have t1 : Same H2 (upd H2 r1 (.lst [.int (j : Int)])) := Same.upd hr1
          refine ⟨q.1, r1, _, _, rfl, rfl, t1 _ _ (s2 _ _ hq1), upd_same, (by rw [pl_len]; exact Nat.le_of_lt (small1000 (by show q.2.length + 1 ≤ 1000; omega))), fun r2 hr2 => ?_⟩
          have t2 := t1.trans (Same.upd (o := .lst (pl q.2 ++ [.int (j : Int)])) hr2)
          have hlen : qs2.length ≤ 20000 := by
            have := congrArg List.length e2
            rw [List.length_map, List.length_append, longer_len, List.length_map, List.length_take, List.length_map, List.length_range] at this
            have h5 : min i qs.length * d.refs ≤ 4096 * 4 := Nat.mul_le_mul (by omega) hR
            omega
          have n2D : Dn ≠ r2 := ne_of_none (t1 _ _ f2.dn) hr2
          refine ⟨Dn, _, _, rfl, rfl, t2 _ _ f2.dn, sz20 (by rw [List.length_map]; exact hlen), ?_⟩
          refine ⟨_, qs2 ++ [(r2, q.2 ++ [j])], rfl, fun c o e => ?_, ⟨?_, fun q0 hq0 => ?_⟩, ?_⟩
          · rw [upd_ne (ne_of_none e hD)]
            exact t2 _ _ (s2 _ _ e)
          · rw [upd_same, List.map_append]
            rfl
          · rcases List.mem_append.mp hq0 with hq0 | hq0
            · obtain ⟨z1, z2⟩ := f2.row q0 hq0
              exact ⟨by rw [upd_ne z2]; exact t2 _ _ z1, z2⟩
            · rw [List.mem_singleton.mp hq0]
              refine ⟨?_, n2D.symm⟩
              rw [upd_ne n2D.symm, upd_same]
              unfold pl
              rw [List.map_append]
              rfl
          · rw [List.map_append, e2, List.range_succ, List.map_append, List.append_assoc]
            rfl
        · rintro σ H2 ⟨v4, qs2, rfl, s2, f2, e2⟩
          refine ⟨_, v4, qs2, rfl, s2, f2, ?_⟩
          rw [e2, List.take_add_one, eq, List.map_append]
          unfold longerP
          rw [List.flatMap_append]
          simp
    · rintro σ H1 ⟨v3, v4, qs', rfl, s1, f1, e1⟩
      rw [List.length_map, List.take_of_length_le (Nat.le_refl _)] at e1
      exact ⟨_, rfl, k Dn H1 qs' s1 hD f1 e1⟩
end
end Rp
end
section
set_option Elab.async false
set_option linter.all false
set_option maxRecDepth 100000
set_option maxHeartbeats 2000000
namespace Rp
open PySem PySem.Spec PyProof.Rows L2
section
variable {P : Program} {w : World} {K : PySem.W.Frag} {mg : Str → Option Value} {base : Heap} {C G : Addr}
def spPl (C G : Addr) : Sp := fun vs H Q _ => ∃ (p wa g b : Addr) (d : Si71.Day) (n : Nat), vs = [.ref p] ∧ DayAt C G H p wa g b d n ∧
  ∀ (a : Addr) (H' : Hp) (qs : List (Addr × List Nat)), Same H H' → PlansAt H' a qs → qs.map (·.2) = goodP d d.games.length → Q (.ref a) H'
theorem scPl : FnScope ["self", "plans", "game", "plan"] ["self"] (defScope sPl) := ⟨rfl, rfl, rfl, by decide +kernel, rfl, by decide +kernel, by decide +kernel⟩
theorem ok_pl {f fO fC : Addr} {fd fdO fdC : FuncData} (F : Fun K "plans_that_can_be" "Day.plans_that_can_be" sPl f fd) (T : Txt K mg C G) (GO : FnOk P w K mg base CX0 1 fO fdO ["self", "plans"] (spOL C G)) (bO : Binds K fdO ["self", "plans"] []) (mO : Meth K C "one_game_longer" fO)
    (GC : FnOk P w K mg base CX0 5 fC fdC ["self", "plan"] (spCan C G)) (bC : Binds K fdC ["self", "plan"] []) (mC : Meth K C "can_be" fC) : FnOk P w K mg base CX0 6 f fd ["self"] (spPl C G) := by
  refine F.ok scPl (fun vs H Q E h => ?_) (fun cdv A outer s H vs Q E hr h => ?_)
  · obtain ⟨p, wa, g, b, d, n, rfl, _⟩ := h
    rfl
  · obtain ⟨p, wa, g, b, d, n, rfl, D, k⟩ := h
    obtain ⟨dx, h0⟩ := D.ob
    obtain ⟨ts, hg, htl, _⟩ := D.gm
    have hR := D.good.r4
    have hgl := D.good.gl
    have hr1 := hr.mono (show 1 ≤ 5 by decide)
    refine ⟨_, pss_cons (ps_set (i := 1) scPl.nd rfl (Or.inl rfl) (pe_lst (pa_cons (pe_lst pa_nil) pa_nil)))
      (pss_cons (ps_for PassesOwn.never rfl (pi_list (pe_fld (pv 0) rfl)) (pg_name (i := 2) scPl.nd rfl (Or.inl rfl))
        (pss_one (ps_setLc (i := 1) (own := [("plan", 3)]) (tt := tB (tMeth C "can_be" (spCan C G) [] E0 (tVar 0) (tCons (tVar 3) tNil))) rfl scPl.nd rfl rfl (sw_true rfl rfl rfl rfl) (pi_list (pe_meth (pv 0) T.cl mO GO hr1 bO .nil pass0 (pa_cons (pv 1) pa_nil))) (blkOk_by (show blkC ["self", "plans", "game", "plan"] (defScope sPl) _ _ = true from by decide +kernel))
          (fun _ _ _ _ _ => pg_name (i := 3) scPl.nd rfl (Or.inl rfl)) (fun _ _ _ _ _ => pts_one (pt_val (pe_meth (pv 0) T.cl mC GC hr bC .nil pass0 (pa_cons (pv 3) pa_nil)))) (fun _ _ _ _ _ => pv 3))))
      (pss_one (ps_ret (pv 1)))), ?_⟩
    refine ⟨Nat.zero_le _, fun a0 ha0 => ⟨(by show 1 ≤ sizeLine; decide), fun a1 ha1 => ?_⟩⟩
    have t0 : Same H (upd H a0 (.lst [])) := Same.upd ha0
    have t1 := t0.trans (Same.upd (o := .lst [.ref a0]) ha1)
    have n01 : a0 ≠ a1 := ne_of_none upd_same ha1
    refine ⟨_, rfl, p, C, dx, _, _, rfl, t1 _ _ h0, T.cl, T.nG, df_games .., g, rfl, ⟨_, SqL.of (t1 _ _ hg)⟩, ?_⟩
    refine for_list (xs := ts.map V.ref) (fun i σ H' => ∃ (a : Addr) (v2 v3 : Option V) (qs : List (Addr × List Nat)), σ = [some (.ref p), some (.ref a), v2, v3] ∧ Same H H' ∧ PlansAt H' a qs ∧ qs.map (·.2) = goodP d i) ⟨a1, none, none, [(a0, [])], rfl, t1, ⟨upd_same, fun q hq => ?_⟩, rfl⟩ (fun i σ H' _ q => ?_) ?_ ?_
    · rw [List.mem_singleton.mp hq]
      exact ⟨by rw [upd_ne n01, upd_same]; rfl, n01⟩
    · obtain ⟨a, v2, v3, qs, rfl, s1, _⟩ := q
      exact SqL.of (s1 _ _ hg)
    · rintro i x σ H1 hx ⟨a, v2, v3, qs, rfl, s1, f1, e1⟩
      have hi : i < d.games.length := by
        have := (List.getElem?_eq_some_iff.mp hx).1
        rw [List.length_map, htl] at this
        exact this
      have hql : qs.length ≤ 4096 := by
        have h1 := congrArg List.length e1
        rw [List.length_map] at h1
        rw [h1]
        exact Nat.le_trans (good_len d hR i) (pow46 (by omega))
      have hqe : ∀ q, q ∈ qs → q.2.length = i := fun q hq => by
        have h1 : q.2 ∈ qs.map (·.2) := List.mem_map_of_mem hq
        rw [e1] at h1
        exact (good_each d i _ h1).1
      refine ⟨_, rfl, p, dx, _, rfl, s1 _ _ h0, (by rfl), _, rfl, p, wa, g, b, a, d, n, qs, rfl, D.same s1, f1, hql, fun q hq => by rw [hqe q hq]; omega, fun D1 H2 qs2 s2 hD1 f2 e2 => ?_⟩
      rw [e1] at e2
      have hq2 : ∀ q, q ∈ qs2 → q.2.length = i + 1 := fun q hq => by
        have h1 : q.2 ∈ qs2.map (·.2) := List.mem_map_of_mem hq
        rw [e2] at h1
        obtain ⟨m, hm, h2⟩ := List.mem_flatMap.mp h1
        obtain ⟨r, _, h3⟩ := List.mem_map.mp h2
        rw [← h3, List.length_append, (good_each d i m hm).1]
        rfl
      have hl2 : qs2.length ≤ 20000 := by
        have h1 := congrArg List.length e2
        rw [List.length_map, longer_len] at h1
        have h5 : (goodP d i).length * d.refs ≤ 4096 * 4 := Nat.mul_le_mul (Nat.le_trans (good_len d hR i) (pow46 (by omega))) hR
        omega
      have s2' := s1.trans s2
      refine ⟨D1, rfl, ⟨_, SqL.of f2.dn⟩, fun Dn hDn => lc_list (xs := qs2.map fun q => V.ref q.1) (fun j H' => Same H2 H' ∧ PlansAt H' Dn ((qs2.take j).filter fun q => canP d q.2)) ⟨Same.upd hDn, upd_same, fun q hq => (nomatch hq)⟩ (fun j H' _ q => SqL.of (q.1 _ _ f2.dn)) (fun j x H' hx q => ?_) fun H' q => ?_⟩
      · rw [List.getElem?_map] at hx
        cases eq : qs2[j]? with
        | none => rw [eq] at hx; cases hx
        | some qq =>
          rw [eq] at hx
          cases hx
          have hqm : qq ∈ qs2 := List.mem_of_getElem? eq
          obtain ⟨q1, q2⟩ := q
          have hrow := f2.row qq hqm
          have er : (qs2.take (j + 1)).filter (fun q => canP d q.2) = (qs2.take j).filter (fun q => canP d q.2) ++ if canP d qq.2 = true then [qq] else [] := by
            rw [List.take_add_one, eq, List.filter_append]
            show _ ++ List.filter _ [qq] = _
            rw [List.filter_cons]
            rfl
          refine ⟨rfl, _, rfl, p, dx, _, rfl, q1 _ _ (s2' _ _ h0), (by rfl), _, rfl, p, wa, g, b, qq.1, d, n, qq.2, rfl, D.same (s2'.trans q1), q1 _ _ hrow.1, (by rw [hq2 qq hqm]; omega), fun H3 s3 => ⟨_, rfl, ite2 (fun c => ?_) fun c => ?_⟩⟩
          · refine ⟨_, rfl, _, s3 _ _ q2.dn, sz20 (by rw [List.length_map]; have h6 := List.length_filter_le (fun q : Addr × List Nat => canP d q.2) (qs2.take j); rw [List.length_take] at h6; omega), fun c o e => ?_, ?_⟩
            · rw [upd_ne (ne_of_none e hDn)]
              exact s3 _ _ (q1 _ _ e)
            · rw [er, if_pos c]
              refine ⟨by rw [upd_same, List.map_append]; rfl, fun q0 hq0 => ?_⟩
              rcases List.mem_append.mp hq0 with hq0 | hq0
              · obtain ⟨z1, z2⟩ := q2.row q0 hq0
                exact ⟨by rw [upd_ne z2]; exact s3 _ _ z1, z2⟩
              · rw [List.mem_singleton.mp hq0]
                have z2 := ne_of_none hrow.1 hDn
                exact ⟨by rw [upd_ne z2]; exact s3 _ _ (q1 _ _ hrow.1), z2⟩
          · refine ⟨q1.trans s3, ?_⟩
            rw [er, if_neg c, List.append_nil]
            exact q2.same s3
      · rw [List.length_map, List.take_of_length_le (Nat.le_refl _)] at q
        refine ⟨Dn, _, _, _, rfl, s2'.trans q.1, q.2, ?_⟩
        show _ = (longerP d.refs (goodP d i)).filter (canP d)
        rw [← e2, List.filter_map]
        rfl
    · rintro σ H1 ⟨a, v2, v3, qs, rfl, s1, f1, e1⟩
      rw [List.length_map, htl] at e1
      exact ⟨_, rfl, k a H1 qs s1 f1 e1⟩
/-- how_many_referees -/
def spHM (K : PySem.W.Frag) : Sp := fun vs H Q _ => ∃ (a : Addr) (l : List Nat) (R : Nat), vs = [.ref a] ∧ H a = some (.lst (pl l)) ∧ l.length ≤ 8 ∧ (∀ x, x ∈ l → x < R) ∧ ∀ H', Same H H' → Q (.int (((List.range R).filter fun r => l.contains r).length : Nat)) H'
theorem scHM : FnScope ["plan"] ["plan"] (defScope sHM) := ⟨rfl, rfl, rfl, by decide +kernel, rfl, by decide +kernel, by decide +kernel⟩
theorem ok_hm {f : Addr} {fd : FuncData} (F : Fun K "how_many_referees" "how_many_referees" sHM f fd) (T : Txt K mg C G) : FnOk P w K mg base CX0 1 f fd ["plan"] (spHM K) := by
  refine F.ok scHM (fun vs H Q E h => ?_) (fun cdv A outer s H vs Q E hr h => ?_)
  · obtain ⟨a, l, R, rfl, _⟩ := h
    rfl
  · obtain ⟨a, l, R, rfl, hl, h8, hR, k⟩ := h
    refine ⟨_, pss_one (ps_ret (pe_callB call_lenS (by rfl) T.len PySem.boot_len (pa_cons (pe_callTy (cr_setI rfl) (by rfl) T.b_set PyProof.Rows.boot_set (pa_cons (pv 0) pa_nil)) pa_nil))), ?_⟩
    refine ⟨_, rfl, a, _, rfl, SqL.of (by rw [hl, pl_ints]), (by rw [List.length_map]; omega), fun q S ds hq hd => ⟨q, S, _, rfl, upd_same, ?_⟩⟩
    rw [distinct_count hR hd]
    exact k _ (Same.upd hq)
/-- most_games_of_one -/
def mostP (l : List Nat) : List Int := l.map fun r => ((l.count r : Nat) : Int)
def spMG (K : PySem.W.Frag) : Sp := fun vs H Q _ => ∃ (a : Addr) (l : List Nat), vs = [.ref a] ∧ H a = some (.lst (pl l)) ∧ l.length ≤ 8 ∧ ∀ H' m, Same H H' → MaxOr 0 (mostP l) m → Q (.int m) H'
theorem scMG : FnScope ["plan", "referee"] ["plan"] (defScope sMG) := ⟨rfl, rfl, rfl, by decide +kernel, rfl, by decide +kernel, by decide +kernel⟩
theorem count_cast (l : List Nat) (r : Nat) : (l.map fun (n : Nat) => (n : Int)).count (r : Int) = l.count r := by
  induction l with
  | nil => rfl
  | cons x l ih =>
    rw [List.map_cons, List.count_cons, List.count_cons, ih]
    by_cases e : x = r
    · simp [e]
    · have e2 : ¬ (x : Int) = (r : Int) := by omega
      simp [e, e2]
theorem ok_mg {f : Addr} {fd : FuncData} (F : Fun K "most_games_of_one" "most_games_of_one" sMG f fd) (T : Txt K mg C G) : FnOk P w K mg base CX0 1 f fd ["plan"] (spMG K) := by
  refine F.ok scMG (fun vs H Q E h => ?_) (fun cdv A outer s H vs Q E hr h => ?_)
  · obtain ⟨a, l, rfl, _⟩ := h
    rfl
  · obtain ⟨a, l, rfl, hl, h8, k⟩ := h
    refine ⟨_, pss_one (ps_ret (pe_callBK (cr_maxD rfl) (by rfl) T.b_max PyProof.Rows.boot_max (pa_cons (pe_lc (own := [("referee", 1)]) (te := tBM K "list" (rCountI K) (tVar 0) (tCons (tVar 1) tNil)) rfl scMG.nd (pi_list (pv 0)) (blkOk_by (show blkC ["plan", "referee"] (defScope sMG) _ _ = true from by decide +kernel)) (fun _ _ _ _ _ => pg_name (i := 1) scMG.nd rfl (Or.inl rfl)) (fun _ _ _ _ _ => pts_nil)
      (fun _ _ _ _ _ => pe_bm PySem.F.plainAttrs_list PySem.F.slot_list_count PySem.F.type_list_count mt_countI (pv 0) (pa_cons (pv 1) pa_nil))) pa_nil) (pk_cons pe_int pk_nil))), ?_⟩
    refine ⟨_, rfl, a, rfl, ⟨_, SqL.of hl⟩, fun Dn hD => lc_list (xs := pl l) (fun i H' => Same H H' ∧ H' Dn = some (.lst (((mostP l).take i).map V.int))) ⟨Same.upd hD, upd_same⟩ (fun i H' _ q => SqL.of (q.1 _ _ hl)) (fun i x H' hx q => ?_) fun H' q => ?_⟩
    · have hi : i < l.length := by have := (List.getElem?_eq_some_iff.mp hx).1; rw [pl_len] at this; exact this
      rw [pl_at (getD_at hi)] at hx
      cases hx
      refine ⟨rfl, tyes ?_⟩
      rw [if_pos rfl]
      refine ⟨_, rfl, .inl ⟨rfl, _, SqL.of (q.1 _ _ hl)⟩, _, rfl, a, _, _, rfl, rfl, SqL.of (by rw [q.1 _ _ hl, pl_ints]), _, q.2, small1000 (by rw [List.length_map, List.length_take]; unfold mostP; rw [List.length_map]; omega), fun c o e => ?_, ?_⟩
      · rw [upd_ne (ne_of_none e hD)]
        exact q.1 _ _ e
      · rw [upd_same, List.take_add_one, List.map_append, count_cast]
        have e : (mostP l)[i]? = some ((l.count (l.getD i 0) : Nat) : Int) := by unfold mostP; rw [List.getElem?_map, getD_at hi]; rfl
        rw [e]
        rfl
    · rw [pl_len, List.take_of_length_le (by unfold mostP; rw [List.length_map]; exact Nat.le_refl _)] at q
      exact ⟨Dn, mostP l, 0, rfl, rfl, SqL.of q.2, fun m hm => k H' m q.1 hm⟩
end
end Rp
end
section
set_option Elab.async false
set_option linter.all false
set_option maxRecDepth 100000
set_option maxHeartbeats 2000000
/-! The search's mathematics. -/
namespace Rp
open Si71
theorem head_filter {α : Type} (p : α → Bool) : ∀ l : List α, (l.filter p).head? = l.find? p
  | [] => rfl
  | a :: l => by
    rw [List.filter_cons, List.find?_cons]
    cases e : p a with
    | true => rfl
    | false => exact head_filter p l
theorem bad_head (d : Day) (l : List Nat) : (badL d l).head? = d.barred l := head_filter _ _
theorem range_gt (i : Nat) : ∀ n, ((List.range n).filter fun k => decide (i < k)) = (List.range (n - (i + 1))).map fun t => i + 1 + t
  | 0 => by simp
  | n + 1 => by
    rw [List.range_succ, List.filter_append, range_gt i n, List.filter_cons, List.filter_nil]
    by_cases h : i < n
    · rw [if_pos (decide_eq_true h)]
      have e : n + 1 - (i + 1) = (n - (i + 1)) + 1 := by omega
      rw [e, List.range_succ, List.map_append]
      congr 1
      show [n] = [i + 1 + (n - (i + 1))]
      congr 1
      omega
    · rw [if_neg (by simp; omega), List.append_nil]
      have e : n + 1 - (i + 1) = n - (i + 1) := by omega
      rw [e]
def allPairs (n : Nat) : List (Nat × Nat) := (List.range n).flatMap fun i => ((List.range n).filter fun k => decide (i < k)).map fun k => (i, k)
theorem out_filter (d : Day) (l : List Nat) : outP d l l.length = (allPairs l.length).filter (bad2 d l) := by
  unfold outP allPairs
  rw [List.filter_flatMap]
  congr 1
  funext i
  unfold rowP
  rw [range_gt, List.map_map]
  rfl
theorem out_head (d : Day) (l : List Nat) : (outP d l l.length).head? = d.clash l := by
  rw [out_filter, head_filter]
  rfl
theorem empty_head {α : Type} (l : List α) : l.isEmpty = l.head?.isNone := by cases l <;> rfl
theorem can_iff (d : Day) (l : List Nat) : canP d l = ((d.barred l).isNone && (d.clash l).isNone) := by
  unfold canP
  rw [empty_head, empty_head, bad_head, out_head]
theorem mem_pairs {n i k : Nat} (h : i < k) (hk : k < n) : (i, k) ∈ allPairs n := by
  unfold allPairs
  rw [List.mem_flatMap]
  exact ⟨i, List.mem_range.mpr (by omega), List.mem_map.mpr ⟨k, List.mem_filter.mpr ⟨List.mem_range.mpr hk, decide_eq_true h⟩, rfl⟩⟩
theorem no_clash {d : Day} {l : List Nat} (h : d.clash l = none) {i k : Nat} (hik : i < k) (hk : k < l.length) (e : l.getD i 0 = l.getD k 0) : d.behind (d.game i) (d.game k) = true ∨ d.behind (d.game k) (d.game i) = true := by
  have h1 : (allPairs l.length).find? (bad2 d l) = none := h
  have h2 := List.find?_eq_none.mp h1 (i, k) (mem_pairs hik hk)
  unfold bad2 at h2
  have e2 : (l.getD (i, k).1 0 == l.getD (i, k).2 0) = true := beq_iff_eq.mpr e
  rw [e2, Bool.true_and] at h2
  cases q1 : d.behind (d.game i) (d.game k) with
  | true => exact .inl rfl
  | false =>
    cases q2 : d.behind (d.game k) (d.game i) with
    | true => exact .inr rfl
    | false =>
      exfalso
      apply h2
      show (!d.behind (d.game i) (d.game k) && !d.behind (d.game k) (d.game i)) = true
      rw [q1, q2]
      rfl
theorem begins_differ {d : Day} (G : Good d) {l : List Nat} (hl : l.length = d.games.length) (h : d.clash l = none) {i k : Nat} (ne : i ≠ k) (hi : i < l.length) (hk : k < l.length) (e : l.getD i 0 = l.getD k 0) : (d.game i).from_ ≠ (d.game k).from_ := by
  have ft : ∀ j, j < l.length → (d.game j).from_ < (d.game j).to_ := fun j hj => by
    have hj' : j < d.games.length := by omega
    have e : d.game j = d.games[j] := by unfold Day.game; rw [List.getD_eq_getElem?_getD, List.getElem?_eq_getElem hj']; rfl
    rw [e]
    exact (G.gh _ (List.getElem_mem hj')).2.1
  have key : ∀ a b, a < l.length → b < l.length → d.behind (d.game a) (d.game b) = true → (d.game a).from_ < (d.game b).from_ := fun a b ha hb q => by
    have q : (d.game a).to_ + d.way (d.game a).hall (d.game b).hall ≤ (d.game b).from_ := of_decide_eq_true q
    have := ft a ha
    omega
  rcases Nat.lt_or_ge i k with c | c
  · rcases no_clash h c hk e with q | q
    · have := key i k hi hk q; omega
    · have := key k i hk hi q; omega
  · rcases no_clash h (by omega) hi e.symm with q | q
    · have := key k i hk hi q; omega
    · have := key i k hi hk q; omega
theorem right_parts {d : Day} {l : List Nat} (h : d.right l = true) : l.length = d.games.length ∧ (∀ x, x ∈ l → x < d.refs) ∧ d.barred l = none ∧ d.clash l = none := by
  unfold Day.right Day.told at h
  rw [Bool.and_eq_true, Bool.and_eq_true, Bool.and_eq_true] at h
  obtain ⟨⟨h1, h2⟩, h3, h4⟩ := h
  exact ⟨beq_iff_eq.mp h1, fun x hx => of_decide_eq_true (List.all_eq_true.mp h2 x hx), Option.isNone_iff_eq_none.mp h3, Option.isNone_iff_eq_none.mp h4⟩
/-- the way, by any order of the games by when they begin -/
theorem total_by {d : Day} (G : Good d) {l is : List Nat} (h : d.right l = true) (hb : L2.ByKey (fun i => ((d.game i).from_ : Int)) l.length is) : d.total l = waysOf d l d.refs is := by
  obtain ⟨h1, h2, h3, h4⟩ := right_parts h
  unfold Day.total waysOf
  congr 1
  apply List.map_congr_left
  intro r _
  have hp : (is.filter fun i => l.getD i 0 == r).Perm ((List.range l.length).filter fun i => l.getD i 0 == r) := hb.1.filter _
  rw [ofRef_eq hp ?_]
  have nd : is.Nodup := hb.1.nodup_iff.mpr List.nodup_range
  have pw : is.Pairwise fun a b => ((d.game a).from_ : Int) ≤ ((d.game b).from_ : Int) ∧ a ≠ b := hb.2.and nd
  refine (pw.filter _).imp_of_mem fun {a b} ha hb' q => ?_
  obtain ⟨ma, ea⟩ := List.mem_filter.mp ha
  obtain ⟨mb, eb⟩ := List.mem_filter.mp hb'
  have la := List.mem_range.mp (hb.1.mem_iff.mp ma)
  have lb := List.mem_range.mp (hb.1.mem_iff.mp mb)
  have ne := begins_differ G h1 h4 q.2 la lb ((beq_iff_eq.mp ea).trans (beq_iff_eq.mp eb).symm)
  rw [leG_iff]
  have := q.1
  omega
/-! the hall that each referee was in last -/
def lastH (d : Day) (l xs : List Nat) (r : Nat) : Option Nat := ((xs.filter fun i => l.getD i 0 == r).getLast?).map fun i => (d.game i).hall
theorem lastH_snoc (d : Day) (l xs : List Nat) (k r : Nat) : lastH d l (xs ++ [k]) r = if r = l.getD k 0 then some (d.game k).hall else lastH d l xs r := by
  unfold lastH
  rw [List.filter_append, List.filter_cons, List.filter_nil]
  by_cases e : r = l.getD k 0
  · rw [if_pos e, if_pos (beq_iff_eq.mpr e.symm), List.getLast?_concat]
    rfl
  · rw [if_neg e, if_neg (fun q => e (beq_iff_eq.mp q).symm), List.append_nil]
theorem hop_last {d : Day} (G : Good d) (l xs : List Nat) (k : Nat) (hk : (d.game k).hall < d.halls) : hop d (xs.filter fun i => l.getD i 0 == l.getD k 0) k = d.way ((lastH d l xs (l.getD k 0)).getD (d.game k).hall) (d.game k).hall := by
  unfold hop lastH
  cases (xs.filter fun i => l.getD i 0 == l.getD k 0).getLast? with
  | none => exact (G.wz _ hk).symm
  | some i => rfl
/-! the plans that can be -/
theorem getD_append_left (l : List Nat) (x i : Nat) (h : i < l.length) : (l ++ [x]).getD i 0 = l.getD i 0 := by
  rw [List.getD_eq_getElem?_getD, List.getD_eq_getElem?_getD, List.getElem?_append_left h]
theorem find_none_sub {α : Type} {p q : α → Bool} {l m : List α} (h : m.find? q = none) (sub : ∀ x, x ∈ l → x ∈ m ∧ (p x = true → q x = true)) : l.find? p = none := by
  rw [List.find?_eq_none] at h ⊢
  intro x hx hp
  exact h x (sub x hx).1 ((sub x hx).2 hp)
theorem pairs_mem {n : Nat} {x : Nat × Nat} (h : x ∈ allPairs n) : x.1 < n ∧ x.2 < n ∧ x.1 < x.2 := by
  unfold allPairs at h
  obtain ⟨i, hi, h2⟩ := List.mem_flatMap.mp h
  obtain ⟨k, hk, rfl⟩ := List.mem_map.mp h2
  obtain ⟨h3, h4⟩ := List.mem_filter.mp hk
  exact ⟨List.mem_range.mp hi, List.mem_range.mp h3, of_decide_eq_true h4⟩
/-- what cannot be for the first games cannot be for more -/
theorem can_prefix {d : Day} {l : List Nat} {x : Nat} (h : canP d (l ++ [x]) = true) : canP d l = true := by
  rw [can_iff, Bool.and_eq_true, Option.isNone_iff_eq_none, Option.isNone_iff_eq_none] at h ⊢
  have hl : (l ++ [x]).length = l.length + 1 := by rw [List.length_append]; rfl
  refine ⟨find_none_sub h.1 fun i hi => ?_, find_none_sub (m := allPairs (l ++ [x]).length) (q := bad2 d (l ++ [x])) (p := bad2 d l) (l := allPairs l.length) h.2 fun y hy => ?_⟩
  · have hi := List.mem_range.mp hi
    refine ⟨List.mem_range.mpr (by omega), fun q => ?_⟩
    rw [getD_append_left l x i hi]
    exact q
  · obtain ⟨h1, h2, h3⟩ := pairs_mem hy
    refine ⟨mem_pairs h3 (by omega), fun q => ?_⟩
    unfold bad2 at q ⊢
    rw [getD_append_left l x _ h1, getD_append_left l x _ h2]
    exact q
theorem rows_longer (k : Nat) : ∀ n, Si71.rows k (n + 1) = longerP k (Si71.rows k n)
  | 0 => by
    show (List.range k).flatMap (fun t => [[]].map fun l => t :: l) = _
    unfold longerP
    show _ = List.flatMap _ [[]]
    rw [List.flatMap_cons, List.flatMap_nil, List.append_nil, List.map_eq_flatMap]
    rfl
  | n + 1 => by
    have ih := rows_longer k n
    show (List.range k).flatMap (fun t => (Si71.rows k (n + 1)).map fun l => t :: l) = longerP k ((List.range k).flatMap fun t => (Si71.rows k n).map fun l => t :: l)
    rw [ih]
    unfold longerP
    rw [List.flatMap_assoc]
    congr 1
    funext t
    rw [List.map_flatMap, List.flatMap_map]
    congr 1
    funext l
    rw [List.map_map]
    rfl
theorem filter_longer {d : Day} (ls : List (List Nat)) : (longerP d.refs ls).filter (canP d) = (longerP d.refs (ls.filter (canP d))).filter (canP d) := by
  unfold longerP
  induction ls with
  | nil => rfl
  | cons l ls ih =>
    rw [List.flatMap_cons, List.filter_append, ih, List.filter_cons]
    cases e : canP d l with
    | true =>
      rw [if_pos rfl, List.flatMap_cons, List.filter_append]
    | false =>
      rw [if_neg Bool.false_ne_true]
      have : ((List.range d.refs).map fun r => l ++ [r]).filter (canP d) = [] := by
        rw [List.filter_eq_nil_iff]
        intro m hm q
        obtain ⟨r, _, rfl⟩ := List.mem_map.mp hm
        rw [can_prefix q] at e
        cases e
      rw [this, List.nil_append]
theorem good_rows (d : Day) : ∀ n, goodP d n = (Si71.rows d.refs n).filter (canP d)
  | 0 => by
    show [[]] = List.filter (canP d) [[]]
    have : canP d [] = true := rfl
    rw [List.filter_cons, this]
    rfl
  | n + 1 => by
    show (longerP d.refs (goodP d n)).filter (canP d) = _
    rw [good_rows d n, rows_longer, ← filter_longer]
theorem good_plans (d : Day) : goodP d d.games.length = d.plans := by
  rw [good_rows]
  unfold Day.plans
  apply List.filter_congr
  intro l hl
  unfold Day.right
  rw [told_row hl, Bool.true_and, can_iff]
theorem plan_right {d : Day} {l : List Nat} (h : l ∈ d.plans) : d.right l = true := (List.mem_filter.mp h).2
/-! the most games of one -/
theorem foldl_max (m : Nat) : ∀ (l : List Nat) (a : Nat), (a ≤ m) → (∀ x, x ∈ l → x ≤ m) → (a = m ∨ m ∈ l) → l.foldl max a = m
  | [], a, _, _, h => by
    rcases h with h | h
    · exact h
    · cases h
  | x :: l, a, ha, hl, h => by
    rw [List.foldl_cons]
    refine foldl_max m l (max a x) (Nat.max_le.mpr ⟨ha, hl x (List.mem_cons_self ..)⟩) (fun y hy => hl y (List.mem_cons_of_mem _ hy)) ?_
    have hx := hl x (List.mem_cons_self ..)
    rcases h with h | h
    · left; omega
    · rcases List.mem_cons.mp h with h | h
      · left; omega
      · right; exact h
theorem most_is {d : Day} {l : List Nat} (hl : ∀ x, x ∈ l → x < d.refs) {m : Int} (h : L2.MaxOr 0 (mostP l) m) : m = ((d.most l : Nat) : Int) := by
  unfold Day.most
  rcases h with ⟨h1, h2⟩ | ⟨h1, h2⟩
  · have e : l = [] := by unfold mostP at h1; exact List.map_eq_nil_iff.mp h1
    subst e
    rw [h2, foldl_max 0]
    · rfl
    · exact Nat.le_refl _
    · intro x hx
      obtain ⟨r, _, rfl⟩ := List.mem_map.mp hx
      simp
    · exact .inl rfl
  · obtain ⟨r, hr, rfl⟩ := List.mem_map.mp h1
    congr 1
    symm
    refine foldl_max (l.count r) _ 0 (Nat.zero_le _) (fun x hx => ?_) (.inr (List.mem_map.mpr ⟨r, List.mem_range.mpr (hl r hr), rfl⟩))
    obtain ⟨r', hr', rfl⟩ := List.mem_map.mp hx
    by_cases hm : r' ∈ l
    · have := h2 _ (List.mem_map.mpr ⟨r', hm, rfl⟩)
      omega
    · rw [List.count_eq_zero_of_not_mem hm]
      exact Nat.zero_le _
end Rp
end
section
set_option Elab.async false
set_option linter.all false
set_option maxRecDepth 100000
set_option maxHeartbeats 2000000
/-! The best of the plans. -/
namespace Rp
open Si71
/-- as good as x -/
def alike (d : Day) (f : List Nat → Nat) (x : Best) (l : List Nat) : Bool := decide (f l = x.first ∧ d.total l = x.way)
structure IsBest (d : Day) (f : List Nat → Nat) (pls : List (List Nat)) (x : Best) : Prop where
  at_ : ∃ j : Nat, pls[j]? = some x.row ∧ ∀ (m : Nat) l, m < j → pls[m]? = some l → alike d f x l = false
  fr : f x.row = x.first
  wy : d.total x.row = x.way
  min : ∀ l, l ∈ pls → ¬ (f l < x.first ∨ (f l = x.first ∧ d.total l < x.way))
  many : x.many = pls.countP (alike d f x)
def BestInv (d : Day) (f : List Nat → Nat) (pre : List (List Nat)) (r : Option Best) : Prop := (pre = [] ∧ r = none) ∨ ∃ x, r = some x ∧ IsBest d f pre x
theorem best_step {d : Day} {f : List Nat → Nat} {pre : List (List Nat)} {r : Option Best} (l : List Nat) (h : BestInv d f pre r) : BestInv d f (pre ++ [l]) (upB d f r l) := by
  rcases h with ⟨rfl, rfl⟩ | ⟨x, rfl, b⟩
  · refine .inr ⟨⟨f l, d.total l, 1, l⟩, rfl, ⟨⟨0, rfl, fun m l' hm => by omega⟩, rfl, rfl, fun l' hl => ?_, ?_⟩⟩
    · rw [List.nil_append, List.mem_singleton] at hl
      subst hl
      rintro (q | ⟨_, q⟩) <;> exact Nat.lt_irrefl _ q
    · show 1 = _
      rw [List.nil_append, List.countP_cons, List.countP_nil]
      unfold alike
      rw [if_pos (decide_eq_true ⟨rfl, rfl⟩)]
  · right
    by_cases c1 : better (f l) (d.total l) x.first x.way = true
    · have c1' := better_iff.mp c1
      refine ⟨⟨f l, d.total l, 1, l⟩, by show (if better (f l) (d.total l) x.first x.way = true then some _ else _) = _; rw [if_pos c1], ⟨⟨pre.length, by rw [List.getElem?_append_right (Nat.le_refl _)]; simp, fun m l' hm e => ?_⟩, rfl, rfl, fun l' hl => ?_, ?_⟩⟩
      · rw [List.getElem?_append_left hm] at e
        have := b.min l' (List.mem_of_getElem? e)
        refine decide_eq_false fun q => ?_
        have q1 : f l' = f l := q.1
        have q2 : d.total l' = d.total l := q.2
        omega
      · show ¬ (f l' < f l ∨ (f l' = f l ∧ d.total l' < d.total l))
        rcases List.mem_append.mp hl with hl | hl
        · have := b.min l' hl
          omega
        · rw [List.mem_singleton.mp hl]
          omega
      · show 1 = _
        rw [List.countP_append, List.countP_cons, List.countP_nil]
        have e0 : pre.countP (alike d f ⟨f l, d.total l, 1, l⟩) = 0 := by
          rw [List.countP_eq_zero]
          intro l' hl q
          have q := of_decide_eq_true q
          have q1 : f l' = f l := q.1
          have q2 : d.total l' = d.total l := q.2
          have := b.min l' hl
          omega
        rw [e0]
        unfold alike
        rw [if_pos (decide_eq_true ⟨rfl, rfl⟩)]
    · have c1' : ¬ (f l < x.first ∨ (f l = x.first ∧ d.total l < x.way)) := fun q => c1 (better_iff.mpr q)
      by_cases c2 : f l = x.first ∧ d.total l = x.way
      · refine ⟨{ x with many := x.many + 1 }, by show (if better (f l) (d.total l) x.first x.way = true then some _ else if f l = x.first ∧ d.total l = x.way then _ else _) = _; rw [if_neg c1, if_pos c2], ⟨?_, b.fr, b.wy, fun l' hl => ?_, ?_⟩⟩
        · obtain ⟨j, h1, h2⟩ := b.at_
          have hj := (List.getElem?_eq_some_iff.mp h1).1
          refine ⟨j, by rw [List.getElem?_append_left hj]; exact h1, fun m l' hm e => ?_⟩
          rw [List.getElem?_append_left (by omega)] at e
          exact h2 m l' hm e
        · show ¬ (f l' < x.first ∨ (f l' = x.first ∧ d.total l' < x.way))
          rcases List.mem_append.mp hl with hl | hl
          · exact b.min l' hl
          · rw [List.mem_singleton.mp hl]
            exact c1'
        · show x.many + 1 = _
          rw [List.countP_append, List.countP_cons, List.countP_nil]
          have e1 : alike d f { x with many := x.many + 1 } l = true := decide_eq_true c2
          rw [if_pos e1, b.many]
          rfl
      · refine ⟨x, by show (if better (f l) (d.total l) x.first x.way = true then some _ else if f l = x.first ∧ d.total l = x.way then _ else _) = _; rw [if_neg c1, if_neg c2], ⟨?_, b.fr, b.wy, fun l' hl => ?_, ?_⟩⟩
        · obtain ⟨j, h1, h2⟩ := b.at_
          have hj := (List.getElem?_eq_some_iff.mp h1).1
          refine ⟨j, by rw [List.getElem?_append_left hj]; exact h1, fun m l' hm e => ?_⟩
          rw [List.getElem?_append_left (by omega)] at e
          exact h2 m l' hm e
        · rcases List.mem_append.mp hl with hl | hl
          · exact b.min l' hl
          · rw [List.mem_singleton.mp hl]
            exact c1'
        · rw [List.countP_append, List.countP_cons, List.countP_nil]
          have e1 : ¬ alike d f x l = true := fun q => c2 (of_decide_eq_true q)
          rw [if_neg e1, b.many]
          rfl
theorem best_fold {d : Day} {f : List Nat → Nat} : ∀ (suf pre : List (List Nat)) (r : Option Best), BestInv d f pre r → BestInv d f (pre ++ suf) (suf.foldl (upB d f) r)
  | [], pre, r, h => by rw [List.append_nil]; exact h
  | l :: suf, pre, r, h => by
    have := best_fold suf (pre ++ [l]) _ (best_step l h)
    rw [List.append_assoc] at this
    exact this
theorem best_is (d : Day) (f : List Nat → Nat) : BestInv d f d.plans (d.bestBy f) := by
  rw [bestBy_eq]
  exact best_fold d.plans [] none (.inl ⟨rfl, rfl⟩)
/-! the measures -/
def meas (two : Bool) (d : Day) (f : List Nat → Nat) (l : List Nat) : List Int := if two = true then [(f l : Int), (d.total l : Int)] else [(d.total l : Int)]
def measB (two : Bool) (x : Best) : List Int := if two = true then [(x.first : Int), (x.way : Int)] else [(x.way : Int)]
section
variable {two : Bool} {d : Day} {f : List Nat → Nat} {pls : List (List Nat)} {x : Best}
theorem meas_row (b : IsBest d f pls x) : meas two d f x.row = measB two x := by
  unfold meas measB
  rw [b.fr, b.wy]
theorem meas_len (l : List Nat) : (meas two d f l).length = if two = true then 2 else 1 := by
  unfold meas
  cases two <;> rfl
theorem meas_iff (hf : two = false → f = fun _ => 0) (b : IsBest d f pls x) (l : List Nat) : meas two d f l = measB two x ↔ alike d f x l = true := by
  unfold alike
  rw [decide_eq_true_iff]
  cases two with
  | true =>
    show [(f l : Int), (d.total l : Int)] = [(x.first : Int), (x.way : Int)] ↔ _
    constructor
    · intro h
      injection h with q1 q2
      injection q2 with q2
      omega
    · rintro ⟨q1, q2⟩
      rw [q1, q2]
  | false =>
    have e := hf rfl
    have h1 : f l = 0 := by rw [e]
    have h2 : x.first = 0 := by rw [← b.fr, e]
    show [(d.total l : Int)] = [(x.way : Int)] ↔ _
    constructor
    · intro h
      injection h with q1 q2
      omega
    · rintro ⟨q1, q2⟩
      rw [q2]
theorem lex_meas (hf : two = false → f = fun _ => 0) (b : IsBest d f pls x) {l : List Nat} (hl : l ∈ pls) : HT.lexLt (measB two x) (meas two d f l) = true ∨ meas two d f l = measB two x := by
  have h := b.min l hl
  cases two with
  | true =>
    show HT.lexLt [(x.first : Int), (x.way : Int)] [(f l : Int), (d.total l : Int)] = true ∨ [(f l : Int), (d.total l : Int)] = [(x.first : Int), (x.way : Int)]
    rw [HT.lexLt_cons]
    by_cases e1 : (x.first : Int) = (f l : Int)
    · rw [if_pos e1, HT.lexLt_cons]
      by_cases e2 : (x.way : Int) = (d.total l : Int)
      · right; rw [e1, e2]
      · left
        rw [if_neg e2]
        exact decide_eq_true (by omega)
    · left
      rw [if_neg e1]
      exact decide_eq_true (by omega)
  | false =>
    have e := hf rfl
    have h1 : f l = 0 := by rw [e]
    have h2 : x.first = 0 := by rw [← b.fr, e]
    show HT.lexLt [(x.way : Int)] [(d.total l : Int)] = true ∨ [(d.total l : Int)] = [(x.way : Int)]
    rw [HT.lexLt_cons]
    by_cases e2 : (x.way : Int) = (d.total l : Int)
    · right; rw [e2]
    · left
      rw [if_neg e2]
      exact decide_eq_true (by omega)
/-- the least measure is the best one's -/
theorem least_is (hf : two = false → f = fun _ => 0) (b : IsBest d f pls x) {ms : List Int} (h1 : ms ∈ pls.map (meas two d f)) (h2 : ∀ m, m ∈ pls.map (meas two d f) → HT.lexLt m ms = false) : ms = measB two x := by
  obtain ⟨l, hl, rfl⟩ := List.mem_map.mp h1
  rcases lex_meas hf b hl with q | q
  · obtain ⟨j, hj, _⟩ := b.at_
    have hr : x.row ∈ pls := List.mem_of_getElem? hj
    have := h2 _ (List.mem_map.mpr ⟨x.row, hr, rfl⟩)
    rw [meas_row b, q] at this
    cases this
  · exact q
theorem count_is (hf : two = false → f = fun _ => 0) (b : IsBest d f pls x) : (pls.map (meas two d f)).count (measB two x) = x.many := by
  rw [b.many, List.count_eq_countP, List.countP_map]
  apply List.countP_congr
  intro l _
  show (meas two d f l == measB two x) = true ↔ _
  rw [beq_iff_eq]
  exact meas_iff hf b l
theorem index_is (hf : two = false → f = fun _ => 0) (b : IsBest d f pls x) : ∃ j : Nat, pls[j]? = some x.row ∧ (pls.map (meas two d f))[j]? = some (measB two x) ∧ ∀ m, m < j → ¬ (pls.map (meas two d f))[m]? = some (measB two x) := by
  obtain ⟨j, h1, h2⟩ := b.at_
  refine ⟨j, h1, by rw [List.getElem?_map, h1, ← meas_row b]; rfl, fun m hm e => ?_⟩
  rw [List.getElem?_map] at e
  cases q : pls[m]? with
  | none => rw [q] at e; cases e
  | some l =>
    rw [q] at e
    have e3 := (meas_iff hf b l).mp (Option.some.inj e)
    rw [h2 m l hm q] at e3
    cases e3
end
end Rp
end
section
set_option Elab.async false
set_option linter.all false
set_option maxRecDepth 100000
set_option maxHeartbeats 2000000
namespace L2
open PySem PySem.Spec PyProof.Rows
/-- a def of the text whose code and its table are known -/
structure FunC (K : PySem.W.Frag) (x qual : Str) (st : Stmt) (f : Addr) (fd : FuncData) (c P : Addr) : Prop where
  ex : ∃ (oc : Value) (od : Option Addr) (kV doc pm : Value) (an : Option Addr) (ct : Value) (osl : Array (Option Value)),
    fd = PySem.W.fnOf x qual (defArgs st) (defBody st) (defScope st) .none kV doc pm an (.ref c) ct ∧ K.lookup f = some ⟨oc, od, .func fd, osl⟩ ∧ PySem.W.codeIn K (.ref c) qual = true
  kp : PySem.W.keepIn K (.ref f) = true
  hd : PySem.W.codeHdIn K c P = true
section
variable {P : Program} {w : World} {K : PySem.W.Frag} {mg : Str → Option Value} {base : Heap}
theorem FunC.ok {x qual : Str} {st : Stmt} {f c T : Addr} {fd : FuncData} {N ps : List Str} {k : Nat} {sp : Sp} (F : FunC K x qual st f fd c T) (S : FnScope N ps (defScope st)) (len : ∀ vs H Q E, sp vs H Q E → vs.length = ps.length)
    (hbody : ∀ (A : Around) (outer : List Env) (s : Shared) (H : Hp) (vs : List V) (Q : VK) (E : XK), Room k (A.deeper (envOfC qual (defScope st) s.heap.objs.size f (.ref c))) → sp vs H Q E →
      ∃ t, PSs (cxOf CX0 P w K mg base N qual (defScope st) f (.ref c) A outer s H E).nox (defBody st) t ∧ t { nx := fun _ H' => Q .non H', rt := Q } (start N vs) H) : FnOk P w K mg base CX0 (k + 1) f fd ps sp := by
  obtain ⟨oc, od, kV, doc, pm, an, ct, osl, rfl, lk, hcd⟩ := F.ex
  refine fn_of lk hcd S len fun A outer s H vs Q E hr hsp => ?_
  obtain ⟨t, h, q⟩ := hbody A outer s H vs Q E hr hsp
  exact ⟨t, h.nox, q⟩
theorem FunC.binds {x qual : Str} {st : Stmt} {f c T : Addr} {fd : FuncData} {ps : List Str} (F : FunC K x qual st f fd c T)
    (h : ∀ (kV doc pm : Value) (an : Option Addr) (cdv ct : Value) (us : List Value), us.length = ps.length → bindArgs (PySem.W.fnOf x qual (defArgs st) (defBody st) (defScope st) .none kV doc pm an cdv ct) ⟨us, []⟩ = pure (ps.zip us)) : Binds K fd ps [] := by
  obtain ⟨oc, od, kV, doc, pm, an, ct, osl, rfl, lk, hcd⟩ := F.ex
  exact .all (h kV doc pm an (.ref c) ct)
theorem funC_mk {x qual : Str} {st : Stmt} {f c T : Addr} {oc : Value} {od an : Option Addr} {osl : Array (Option Value)} {kV doc pm ct : Value} (l : K.lookup f = some ⟨oc, od, .func (PySem.W.fnOf x qual (defArgs st) (defBody st) (defScope st) .none kV doc pm an (.ref c) ct), osl⟩)
    (e : PySem.W.codeIn K (.ref c) qual = true) (k : PySem.W.keepIn K (.ref f) = true) (h : PySem.W.codeHdIn K c T = true) : FunC K x qual st f (PySem.W.fnOf x qual (defArgs st) (defBody st) (defScope st) .none kV doc pm an (.ref c) ct) c T := ⟨⟨oc, od, kV, doc, pm, an, ct, osl, rfl, l, e⟩, k, h⟩
end
/-! the lambdas of the text, by their places -/
def noE : Expr := .Constant .none 0 ⟨0, 0, 0, 0⟩
def lArgs (e : Expr) (o : Arguments) : Arguments := match e with
  | .Lambda a _ _ _ => a
  | _ => o
def lBody (e : Expr) : Expr := match e with
  | .Lambda _ b _ _ => b
  | _ => noE
def lScope (e : Expr) (o : Scope) : Scope := match e with
  | .Lambda _ _ s _ => s
  | _ => o
def lPos (e : Expr) : Pos := match e with
  | .Lambda _ _ _ p => p
  | _ => ⟨0, 0, 0, 0⟩
/-- all but tables is as it was; tables stay -/
structure KeepT (H H' : Hp) : Prop where
  keep : ∀ b o, H b = some o → (∀ ps, o ≠ .tbl ps) → H' b = some o
  tbl : ∀ b ps, H b = some (.tbl ps) → ∃ ps', H' b = some (.tbl ps')
theorem KeepT.trans {H H1 H2 : Hp} (a : KeepT H H1) (b : KeepT H1 H2) : KeepT H H2 := ⟨fun c o e n => b.keep c o (a.keep c o e n) n, fun c ps e => let ⟨_, e1⟩ := a.tbl c ps e; b.tbl c _ e1⟩
theorem Same.keepT {H H' : Hp} (s : Same H H') : KeepT H H' := ⟨fun c o e _ => s c o e, fun c ps e => ⟨ps, s _ _ e⟩⟩
theorem KeepT.free {H H' : Hp} (k : KeepT H H') {b : Addr} (h : H' b = none) : H b = none := by
  cases e : H b with
  | none => rfl
  | some o =>
    by_cases n : ∃ ps, o = .tbl ps
    · obtain ⟨ps, rfl⟩ := n
      obtain ⟨ps', e'⟩ := k.tbl b ps e
      rw [e'] at h
      cases h
    · rw [k.keep b o e fun ps z => n ⟨ps, z⟩] at h
      cases h
theorem Site.same {H H' : Hp} {P : Addr} {pos : Pos} {q : Str} (x : Site H P pos q) (s : Same H H') : Site H' P pos q := by
  obtain ⟨ps, h1, h2, h3⟩ := x.ex
  refine ⟨ps, s _ _ h1, h2, ?_⟩
  rcases h3 with h3 | ⟨c, o, a1, a2, a3⟩
  · exact .inl h3
  · exact .inr ⟨c, o, a1, s _ _ a2, a3⟩
/-- another table has grown -/
theorem Site.but {H H' : Hp} {P P1 : Addr} {pos : Pos} {q : Str} (x : Site H P pos q) (s : ∀ b o, H b = some o → b ≠ P1 → H' b = some o) (ne : P ≠ P1) (ht : ∃ ps, H P1 = some (.tbl ps)) : Site H' P pos q := by
  obtain ⟨ps, h1, h2, h3⟩ := x.ex
  obtain ⟨ps1, e1⟩ := ht
  refine ⟨ps, s _ _ h1 ne, h2, ?_⟩
  rcases h3 with h3 | ⟨c, o, a1, a2, a3⟩
  · exact .inl h3
  · exact .inr ⟨c, o, a1, s _ _ a2 (ne_of a2 e1 (by intro z; cases z)), a3⟩
theorem Site.tbl {H : Hp} {P : Addr} {pos : Pos} {q : Str} (x : Site H P pos q) : ∃ ps, H P = some (.tbl ps) := let ⟨ps, h, _⟩ := x.ex; ⟨ps, h⟩
end L2
namespace Rp
open PySem PySem.Spec PyProof.Rows L2
def keyLam : Expr := match defBody sWO with
  | (.Assign _ (.Call _ _ (kw :: _) _) _) :: _ => kw.value
  | _ => noE
def retLam (s : Stmt) : Expr := match defBody s with
  | (.Return (some (.Call _ (e :: _) _ _)) _) :: _ => e
  | _ => noE
/-- the tables of the codes that make lambdas -/
structure TabA where
  k : Addr
  b : Addr
  w : Addr
  r : Addr
structure TabD (t : TabA) : Prop where
  kb : t.k ≠ t.b
  kw : t.k ≠ t.w
  kr : t.k ≠ t.r
  bw : t.b ≠ t.w
  br : t.b ≠ t.r
  wr : t.w ≠ t.r
abbrev qK : Str := (("Day.way_of" : Str) ++ ".<locals>.") ++ "<lambda>"
abbrev qB : Str := (("Day.best" : Str) ++ ".<locals>.") ++ "<lambda>"
abbrev qF : Str := (("Day.fewest" : Str) ++ ".<locals>.") ++ "<lambda>"
abbrev qR : Str := (("Day.fair" : Str) ++ ".<locals>.") ++ "<lambda>"
structure Tabs (t : TabA) (H : Hp) : Prop where
  k : Site H t.k (lPos keyLam) qK
  b : Site H t.b (lPos (retLam sBest)) qB
  w : Site H t.w (lPos (retLam sFewest)) qF
  r : Site H t.r (lPos (retLam sFair)) qR
/-- what it leans on are tables and codes -/
theorem _root_.L2.Site.of_keep {H H' : Hp} {P : Addr} {pos : Pos} {q : Str} (x : Site H P pos q) (k : ∀ c u, H c = some u → ((∃ ps, u = .tbl ps) ∨ ∃ o, u = kno o ∧ CodeOb q o) → H' c = some u) : Site H' P pos q := by
  obtain ⟨ps, h1, h2, h3⟩ := x.ex
  refine ⟨ps, k _ _ h1 (.inl ⟨_, rfl⟩), h2, ?_⟩
  rcases h3 with h3 | ⟨c, o, a1, a2, a3⟩
  · exact .inl h3
  · exact .inr ⟨c, o, a1, k _ _ a2 (.inr ⟨o, rfl, a3⟩), a3⟩
theorem Tabs.of_keep {t : TabA} {H H' : Hp} (x : Tabs t H) (k : ∀ q c u, H c = some u → ((∃ ps, u = .tbl ps) ∨ ∃ o, u = kno o ∧ CodeOb q o) → H' c = some u) : Tabs t H' := ⟨x.k.of_keep (k _), x.b.of_keep (k _), x.w.of_keep (k _), x.r.of_keep (k _)⟩
/-- a list changes -/
theorem Tabs.lst {t : TabA} {H : Hp} {a : Addr} {xs : List V} {o : HO} (x : Tabs t H) (h : H a = some (.lst xs)) : Tabs t (upd H a o) := x.of_keep fun q c u e n => by
  have ne : c ≠ a := by
    rcases n with ⟨ps, rfl⟩ | ⟨o', rfl, _⟩
    · exact ne_of e h (by intro z; cases z)
    · exact ne_of e h (by intro z; cases z)
  rw [upd_ne ne]
  exact e
/-- a cell is taken out -/
theorem Tabs.del {t : TabA} {H : Hp} {c : Addr} {o : Obj} {v : Option Value} (x : Tabs t H) (h : H c = some (kno o)) (hd : o.data = .cell v) : Tabs t (L2.del H c) := x.of_keep fun q b u e n => by
  have ne : b ≠ c := by
    rcases n with ⟨ps, rfl⟩ | ⟨o', rfl, vs, tq, h1, _⟩
    · exact ne_of e h (by intro z; cases z)
    · refine ne_of e h (by
        intro z
        have z1 : o' = o := (HO.frz.inj z).1
        rw [z1, hd] at h1
        cases h1)
  rw [del_ne ne]
  exact e
theorem Tabs.same {t : TabA} {H H' : Hp} (x : Tabs t H) (s : Same H H') : Tabs t H' := ⟨x.k.same s, x.b.same s, x.w.same s, x.r.same s⟩
section
variable {C G : Addr} {H H' : Hp} {p w g b : Addr} {d : Si71.Day} {n : Nat}
/-- what a day leans on are no known things and no tables -/
theorem DayAt.of_keep (D : DayAt C G H p w g b d n) (k : ∀ c u, H c = some u → (∀ o, u ≠ kno o) → (∀ ps, u ≠ .tbl ps) → H' c = some u) : DayAt C G H' p w g b d n := by
  obtain ⟨dx, h0⟩ := D.ob
  obtain ⟨ks, h1, h2, h3⟩ := D.wy
  obtain ⟨ts, h4, h5, h6⟩ := D.gm
  exact ⟨⟨dx, k _ _ h0 (by intro o z; cases z) (by intro o z; cases z)⟩, ⟨ks, k _ _ h1 (by intro o z; cases z) (by intro o z; cases z), h2, h3⟩, ⟨ts, k _ _ h4 (by intro o z; cases z) (by intro o z; cases z), h5, fun j t e => (h6 j t e).imp fun _ q => k _ _ q (by intro o z; cases z) (by intro o z; cases z)⟩, k _ _ D.br (by intro o z; cases z) (by intro o z; cases z), D.bl, D.wb, D.good⟩
theorem DayAt.keepT (D : DayAt C G H p w g b d n) (k : KeepT H H') : DayAt C G H' p w g b d n := D.of_keep fun c u e _ n => k.keep c u e n
theorem DayAt.del (D : DayAt C G H p w g b d n) {c : Addr} {o : Obj} (h : H c = some (kno o)) : DayAt C G (L2.del H c) p w g b d n := D.of_keep fun c' u e n _ => by
  rw [del_ne (fun z => n o (by rw [z, h] at e; exact (Option.some.inj e).symm))]
  exact e
end
end Rp
end
section
set_option Elab.async false
set_option linter.all false
set_option maxRecDepth 100000
set_option maxHeartbeats 2000000
namespace Rp
open PySem PySem.Spec PyProof.Rows L2
abbrev kA : Arguments := lArgs keyLam (defArgs sWO)
abbrev kB : Expr := lBody keyLam
abbrev kS : Scope := lScope keyLam (defScope sWO)
theorem lam_fd {qual : Str} {params : Arguments} {body : Expr} {scope : Scope} {clos : List (Str × Addr)} {H : Hp} {f cc : Addr} {pm ctv : Value} (h : LamAt H f (lamFd qual params body scope clos pm (.ref cc) ctv) qual params body scope clos) :
    H f = some (kno (lamOb qual params body scope clos pm (.ref cc) ctv)) ∧ ∃ oc, H cc = some (kno oc) ∧ CodeOb qual oc := by
  obtain ⟨pm', ctv', cc', oc, e, h1, h2, h3⟩ := h
  have ec : cc = cc' := Value.ref.inj (congrArg FuncData.code e)
  subst ec
  refine ⟨?_, oc, h2, h3⟩
  rw [h1]
  have e2 : lamOb qual params body scope clos pm' (.ref cc) ctv' = lamOb qual params body scope clos pm (.ref cc) ctv := by
    show ({ cls := .type "function", data := .func (lamFd qual params body scope clos pm' (.ref cc) ctv') } : Obj) = { cls := .type "function", data := .func (lamFd qual params body scope clos pm (.ref cc) ctv) }
    rw [e]
  rw [e2]
theorem LamAt.same {qual : Str} {params : Arguments} {body : Expr} {scope : Scope} {clos : List (Str × Addr)} {H H' : Hp} {f : Addr} {fd : FuncData} (h : LamAt H f fd qual params body scope clos) (k : KeepT H H') : LamAt H' f fd qual params body scope clos := by
  obtain ⟨pm, ctv, cc, oc, e, h1, h2, h3⟩ := h
  exact ⟨pm, ctv, cc, oc, e, k.keep _ _ h1 (by intro o z; cases z), k.keep _ _ h2 (by intro o z; cases z), h3⟩
theorem rel_ref {v : V} {p : Addr} (h : RelV v (.ref p)) : v = .ref p := RelV.inj h (show RelV (.ref p) (.ref p) from rfl)
section
variable {P : Program} {w : World} {K : PySem.W.Frag} {mg : Str → Option Value} {base : Heap} {C G : Addr}
theorem scKey : LamScope "number" "self" kS := ⟨rfl, rfl, rfl, by decide, by rfl, by rfl, by decide +kernel, by decide +kernel⟩
/-- the key: when the game begins -/
def spKey (C G f c : Addr) (fd : FuncData) : Sp := fun vs H Q _ => ∃ (p wa g b : Addr) (d : Si71.Day) (n j : Nat) (o : Obj), vs = [.int (j : Nat)] ∧ LamAt H f fd qK kA kB kS [("self", c)] ∧ H c = some (kno o) ∧ o.data = .cell (some (.ref p)) ∧ DayAt C G H p wa g b d n ∧ j < d.games.length ∧ Q (.int ((d.game j).from_ : Nat)) H
theorem ok_key {f c cc : Addr} {pm ctv : Value} (T : Txt K mg C G) : FnOk P w K mg base CX0 1 f (lamFd qK kA kB kS [("self", c)] pm (.ref cc) ctv) ["number"] (spKey C G f c (lamFd qK kA kB kS [("self", c)] pm (.ref cc) ctv)) := by
  refine lam_of scKey (fun vs H Q E h => ?_) (fun vs H Q E h => ?_) (fun A outer s H v1 Q E hr h o v u hc hod rv => ?_)
  · obtain ⟨p, wa, g, b, d, n, j, o, rfl, _⟩ := h
    rfl
  · obtain ⟨p, wa, g, b, d, n, j, o, rfl, hL, hc, ho, _⟩ := h
    exact ⟨(lam_fd hL).1, (lam_fd hL).2, o, .ref p, .ref p, hc, ho, rfl⟩
  · obtain ⟨p, wa, g, b, d, n, j, o', e1, hL, hc', ho, D, hj, k⟩ := h
    cases e1
    rw [hc'] at hc
    cases hc
    rw [ho] at hod
    cases hod
    have ev := rel_ref rv
    subst ev
    have D' := D.del hc'
    obtain ⟨dx, h0⟩ := D'.ob
    obtain ⟨ts, t, hg, ht, ⟨dt, hG⟩, _⟩ := game_at D' hj
    refine ⟨_, pe_fld (pe_ix ix_list (pe_fld (pv 1) rfl) (pv 0) (fun _ _ => rfl)) rfl, ?_⟩
    refine ⟨_, rfl, p, C, dx, _, _, rfl, h0, T.cl, T.nG, df_games .., _, rfl, g, _, _, _, rfl, rfl, SqL.of hg, at_of (j := j) rfl (by rw [List.getElem?_map, ht]; rfl), t, G, dt, _, _, rfl, hG, T.clG, T.gB, gf_begin _, ?_⟩
    intro _
    rw [upd_del hc']
    exact k
/-- way_of: the way of a plan that can be -/
def spWO (C G : Addr) (t : TabA) : Sp := fun vs H Q _ => ∃ (p wa g b a : Addr) (d : Si71.Day) (n : Nat) (l : List Nat), vs = [.ref p, .ref a] ∧ DayAt C G H p wa g b d n ∧ H a = some (.lst (pl l)) ∧ d.right l = true ∧ Tabs t H ∧ ∀ H', KeepT H H' → Tabs t H' → Q (.int (d.total l : Nat)) H'
theorem scWO : FnScope ["self", "plan", "in_order", "minutes", "last_halls", "number", "hall"] ["self", "plan"] (defScope sWO) := ⟨rfl, rfl, rfl, by decide +kernel, rfl, by decide +kernel, by decide +kernel⟩
theorem ok_wo {f c fW : Addr} {fd fdW : FuncData} {t : TabA} (F : FunC K "way_of" "Day.way_of" sWO f fd c t.k) (T : Txt K mg C G) (hbm : BMain mg base) (td : TabD t) (GW : FnOk P w K mg base CX0 1 fW fdW ["self", "hall", "other"] (spWB C G)) (bW : Binds K fdW ["self", "hall", "other"] []) (mW : Meth K C "way_between" fW) :
    FnOk P w K mg base CX0 4 f fd ["self", "plan"] (spWO C G t) := by
  refine F.ok scWO (fun vs H Q E h => ?_) (fun A outer s H vs Q E hr h => ?_)
  · obtain ⟨p, wa, g, b, a, d, n, l, rfl, _⟩ := h
    rfl
  · obtain ⟨p, wa, g, b, a, d, n, l, rfl, D, hl, hright, tabs, k⟩ := h
    have hu := hu_of hr
    have hr1 := hr.mono (show 1 ≤ 3 by decide)
    have hgl := D.good.gl
    have hwz := D.good
    obtain ⟨rl, rr, rb, rc⟩ := right_parts hright
    obtain ⟨dx, h0⟩ := D.ob
    refine ⟨_, pss_cons (ps_set (i := 2) scWO.nd rfl (Or.inl rfl) (pe_callBK (cr_sortK (x := "self") (y := "number") (k := 1) (i := 0) rfl rfl rfl hr) (by rfl) T.b_sorted PyProof.Rows.boot_sorted (pa_cons (pe_range (by rfl) T.b_range (pa_cons (pe_callB call_len_seq (by rfl) T.len PySem.boot_len (pa_cons (pv 1) pa_nil)) pa_nil)) pa_nil) (pk_cons (pe_lam (c := c) (P := t.k) (qual := qK) rfl F.hd hbm rfl (fun y hy e => ⟨_, (show _ = some _ from by rw [scKey.only y hy e]; rfl)⟩)) pk_nil)))
      (pss_cons (ps_set (i := 3) scWO.nd rfl (Or.inl rfl) pe_int)
      (pss_cons (ps_set (i := 4) scWO.nd rfl (Or.inl rfl) pe_dnewK)
      (pss_cons (ps_for PassesOwn.never rfl (pi_list (pv 2)) (pg_name (i := 5) scWO.nd rfl (Or.inl rfl))
        (pss_cons (ps_set (i := 6) scWO.nd rfl (Or.inl rfl) (pe_fld (pe_ix ix_list (pe_fld (pv 0) rfl) (pv 5) (fun _ _ => rfl)) rfl))
        (pss_cons (ps_aug (i := 3) scWO.nd rfl (Or.inl rfl) (pe_meth (pv 0) T.cl mW GW hr1 bW .nil pass0 (pa_cons (pe_dget2 hu (pv 4) (pe_ix ix_list (pv 1) (pv 5) (fun _ _ => rfl)) (pv 6) ⟨rfl, rfl, rfl, rfl⟩) (pa_cons (pv 6) pa_nil))) ip_add)
        (pss_one (ps_dput hu (pv 4) (pe_ix ix_list (pv 1) (pv 5) (fun _ _ => rfl)) (pv 6) rfl)))))
      (pss_one (ps_ret (pv 3)))))), ?_⟩
    refine ⟨_, rfl, a, _, rfl, .inl (SqL.of hl), (pl l).length, rfl, ?_, fun r hr' => ?_⟩
    · rw [pl_len]; omega
    rw [pl_len]
    have s1 : Same H (upd H r (.rng 0 (l.length : Nat))) := Same.upd hr'
    refine ⟨tabs.k.same s1, fun fl fdl H1 hfl kp1 st1 lam1 => ?_⟩
    obtain ⟨ps1, hT1⟩ := (tabs.k.same s1).tbl
    have K1 : KeepT H H1 := ⟨fun c o e n => kp1 c o (s1 _ _ e) (fun z => n ps1 (by rw [z] at e; have := s1 _ _ e; rw [hT1] at this; exact (Option.some.inj this).symm)), fun c ps e => by
      by_cases z : c = t.k
      · rw [z]; exact st1.tbl
      · exact ⟨ps, kp1 _ _ (s1 _ _ e) z⟩⟩
    have T1 : Tabs t H1 := ⟨st1, (tabs.b.same s1).but kp1 td.kb.symm ⟨_, hT1⟩, (tabs.w.same s1).but kp1 td.kw.symm ⟨_, hT1⟩, (tabs.r.same s1).but kp1 td.kr.symm ⟨_, hT1⟩⟩
    have hr1' : H1 r = some (.rng 0 (l.length : Nat)) := kp1 _ _ upd_same (ne_of upd_same hT1 (by intro z; cases z))
    have D1 := D.keepT K1
    have lam1 : LamAt H1 fl fdl qK kA kB kS [("self", s.heap.objs.size + 1)] := lam1
    obtain ⟨pm, ctv, cc, oc, efd, _⟩ := id lam1
    have FK : FnOk P w K mg base CX0 1 fl fdl ["number"] (spKey C G fl (s.heap.objs.size + 1) fdl) := by subst efd; exact ok_key T
    have BK : Binds K fdl ["number"] [] := by subst efd; exact .all (fun us hl => match us, hl with | [_], _ => rfl)
    refine ⟨r, fl, l.length, .ref p, fdl, spKey C G fl (s.heap.objs.size + 1) fdl, fun i => ((d.game i).from_ : Int), rfl, rfl, hr1', (by omega), rfl, FK, BK, fun o u ho ru hcn j hj => ?_, fun Dn is hD hby => ?_⟩
    · cases ru
      exact ⟨p, wa, g, b, d, n, j, o, rfl, LamAt.same lam1 (Same.upd hcn).keepT, upd_same, ho, D1.same (Same.upd hcn), (by omega), rfl, rfl⟩
    have hlen : is.length = l.length := by rw [hby.1.length_eq, List.length_range]
    have isl : ∀ i kx, is[i]? = some kx → kx < l.length := fun i kx e => List.mem_range.mp (hby.1.mem_iff.mp (List.mem_of_getElem? e))
    intro lh hlh
    have s2 : Same H1 (upd H1 Dn (.lst (is.map fun (i : Nat) => V.int i))) := Same.upd hD
    have hDn : (upd H1 Dn (.lst (is.map fun (i : Nat) => V.int i))) Dn = some (.lst (is.map fun (i : Nat) => V.int i)) := upd_same
    generalize upd H1 Dn (.lst (is.map fun (i : Nat) => V.int i)) = H2 at s2 hDn hlh
    have s3 : Same H2 (upd H2 lh (.dK [])) := Same.upd hlh
    have D2 := D1.same s2
    have hl2 : H2 a = some (.lst (pl l)) := s2 _ _ (K1.keep _ _ hl (by intro o z; cases z))
    obtain ⟨dx2, h02⟩ := D2.ob
    refine ⟨_, rfl, Dn, rfl, ⟨_, SqL.of (s3 _ _ hDn)⟩, ?_⟩
    refine for_list (xs := is.map fun (i : Nat) => V.int i) (fun i σ H' => ∃ (ks : List (Key × V)) (v5 v6 : Option V), σ = [some (.ref p), some (.ref a), some (.ref Dn), some (.int (waysOf d l d.refs (is.take i) : Nat)), some (.ref lh), v5, v6] ∧ Same H2 H' ∧ H' lh = some (.dK ks) ∧ ks.length ≤ i ∧ ∀ r : Nat, valV ks (Sum.inl (r : Int)) = (lastH d l (is.take i) r).map fun h => V.int (h : Nat)) ⟨[], none, none, ?_, s3, upd_same, Nat.le_refl _, fun r => ?_⟩ (fun i σ H' _ q => ?_) ?_ ?_
    · rw [List.take_zero, waysOf_nil]
      rfl
    · rw [List.take_zero]
      rfl
    · obtain ⟨ks, v5, v6, rfl, q, _⟩ := q
      exact SqL.of (q _ _ hDn)
    · rintro i x σ H3 hx ⟨ks, v5, v6, rfl, s4, hks, hkl, hkv⟩
      rw [List.getElem?_map] at hx
      cases eq : is[i]? with
      | none => rw [eq] at hx; cases hx
      | some kx =>
        rw [eq] at hx
        cases hx
        have hkx := isl i kx eq
        have hi : i < is.length := (List.getElem?_eq_some_iff.mp eq).1
        obtain ⟨ts, tg, hg, htg, ⟨dt, hG⟩, hhall⟩ := game_at (D2.same s4) (show kx < d.games.length by omega)
        have et : is.take (i + 1) = is.take i ++ [kx] := by rw [List.take_add_one, eq]; rfl
        have eo : (valV ks (Sum.inl (l.getD kx 0 : Int))).getD (V.int ((d.game kx).hall : Nat)) = V.int ((lastH d l (is.take i) (l.getD kx 0)).getD (d.game kx).hall : Nat) := by
          rw [hkv]
          cases lastH d l (is.take i) (l.getD kx 0) <;> rfl
        have hlt : (lastH d l (is.take i) (l.getD kx 0)).getD (d.game kx).hall < d.halls := by
          cases e : lastH d l (is.take i) (l.getD kx 0) with
          | none => exact hhall
          | some h =>
            unfold lastH at e
            cases e2 : ((is.take i).filter fun j => l.getD j 0 == l.getD kx 0).getLast? with
            | none => rw [e2] at e; cases e
            | some y =>
              rw [e2] at e
              cases e
              have hy := List.mem_of_mem_take (List.mem_filter.mp (List.mem_of_getLast? e2)).1
              have hyl := List.mem_range.mp (hby.1.mem_iff.mp hy)
              obtain ⟨_, _, _, _, _, hh⟩ := game_at D2 (show y < d.games.length by omega)
              exact hh
        refine ⟨_, rfl, p, C, dx2, _, _, rfl, s4 _ _ h02, T.cl, T.nG, df_games .., _, rfl, g, _, _, _, rfl, rfl, SqL.of hg, at_of (j := kx) rfl (by rw [List.getElem?_map, htg]; rfl), tg, G, dt, _, _, rfl, hG, T.clG, T.gH, gf_hall _, ?_⟩
        refine ⟨_, rfl, _, rfl, p, dx2, _, rfl, s4 _ _ h02, (by rfl), _, rfl, lh, rfl, .inl ⟨ks, .inl hks⟩, _, rfl, _, rfl, a, _, _, _, rfl, rfl, SqL.of (s4 _ _ hl2), at_of (j := kx) rfl (pl_at (getD_at hkx)), _, rfl, _, DGet.k (k := Sum.inl (l.getD kx 0 : Int)) hks, _, rfl, p, wa, g, b, d, n, _, (d.game kx).hall, (by rw [eo]; rfl), D2.same s4, hlt, hhall, fun H4 s5 => ⟨_, _, rfl, rfl, ?_⟩⟩
        have s6 := s4.trans s5
        refine ⟨_, rfl, _, rfl, _, rfl, _, rfl, a, _, _, _, rfl, rfl, SqL.of (s6 _ _ hl2), at_of (j := kx) rfl (pl_at (getD_at hkx)), lh, _, rfl, DPut.k (k := Sum.inl (l.getD kx 0 : Int)) (s5 _ _ hks) (small1000 (by omega)), ?_⟩
        refine ⟨putK ks (Sum.inl (l.getD kx 0 : Int)) (.int ((d.game kx).hall : Nat)), some (.int (kx : Int)), some (.int ((d.game kx).hall : Nat)), ?_, fun c o e => ?_, upd_same, Nat.le_trans (length_putK _ _ _) (by omega), fun r => ?_⟩
        · have em : (waysOf d l d.refs (is.take i) : Int) + (d.way ((lastH d l (is.take i) (l.getD kx 0)).getD (d.game kx).hall) (d.game kx).hall : Nat) = (waysOf d l d.refs (is.take (i + 1)) : Nat) := by
            rw [et, waysOf_snoc, if_pos (rr _ (by have := getD_at hkx; exact List.mem_of_getElem? this)), hop_last hwz l (is.take i) kx hhall]
            omega
          show [_, _, _, some (V.int ((waysOf d l d.refs (is.take i) : Int) + (d.way ((lastH d l (is.take i) (l.getD kx 0)).getD (d.game kx).hall) (d.game kx).hall : Nat))), _, _, _] = _
          rw [em]
        · rw [upd_ne (ne_of_none e hlh)]
          exact s6 _ _ e
        · rw [valV_put, et, lastH_snoc]
          by_cases e : r = l.getD kx 0
          · rw [if_pos e, if_pos (by rw [e])]
            rfl
          · rw [if_neg e, if_neg (fun z => e (by have := Sum.inl.inj z; omega))]
            exact hkv r
    · rintro σ H3 ⟨ks, v5, v6, rfl, s4, _, _, _⟩
      refine ⟨_, rfl, ?_⟩
      have s5 := s2.trans s4
      have := k H3 (K1.trans s5.keepT) (T1.same s5)
      rw [total_by D.good hright hby] at this
      rw [List.length_map, List.take_of_length_le (Nat.le_refl _)]
      exact this
end
end Rp
end
section
set_option Elab.async false
set_option linter.all false
set_option maxRecDepth 100000
set_option maxHeartbeats 2000000
namespace Rp
open PySem PySem.Spec PyProof.Rows L2
abbrev mA (s : Stmt) : Arguments := lArgs (retLam s) (defArgs s)
abbrev mB (s : Stmt) : Expr := lBody (retLam s)
abbrev mS (s : Stmt) : Scope := lScope (retLam s) (defScope s)
section
variable {P : Program} {w : World} {K : PySem.W.Frag} {mg : Str → Option Value} {base : Heap} {C G : Addr}
/-- a measure's promise: a new list of its numbers -/
def spMs (C G : Addr) (t : TabA) (qual : Str) (st : Stmt) (two : Bool) (fm : Si71.Day → List Nat → Nat) (f c : Addr) (fd : FuncData) : Sp := fun vs H Q _ => ∃ (p wa g b a : Addr) (d : Si71.Day) (n : Nat) (l : List Nat) (o : Obj), vs = [.ref a] ∧ LamAt H f fd qual (mA st) (mB st) (mS st) [("self", c)] ∧ H c = some (kno o) ∧ o.data = .cell (some (.ref p)) ∧
  DayAt C G H p wa g b d n ∧ H a = some (.lst (pl l)) ∧ d.right l = true ∧ Tabs t H ∧ ∀ (Dn : Addr) (H' : Hp), KeepT H H' → Tabs t H' → H Dn = none → H' Dn = some (.lst ((meas two d (fm d) l).map V.int)) → Q (.ref Dn) H'
theorem scMB : LamScope "plan" "self" (mS sBest) := ⟨rfl, rfl, rfl, by decide, by rfl, by rfl, by decide +kernel, by decide +kernel⟩
theorem scMF : LamScope "plan" "self" (mS sFewest) := ⟨rfl, rfl, rfl, by decide, by rfl, by rfl, by decide +kernel, by decide +kernel⟩
theorem scMR : LamScope "plan" "self" (mS sFair) := ⟨rfl, rfl, rfl, by decide, by rfl, by rfl, by decide +kernel, by decide +kernel⟩
/-- the list that a measure gives, behind all its calls -/
theorem ms_end {t : TabA} {H H1 : Hp} {c Dn : Addr} {o : Obj} {v : Option Value} {xs : List V} {Q : VK} (hc : H c = some (kno o)) (K1 : KeepT (del H c) H1) (T1 : Tabs t H1) (hDn : H1 Dn = none)
    (k : ∀ (Dn : Addr) (H' : Hp), KeepT H H' → Tabs t H' → H Dn = none → H' Dn = some (.lst xs) → Q (.ref Dn) H') : (upd H1 Dn (.lst xs)) c = none → Q (.ref Dn) (upd (upd H1 Dn (.lst xs)) c (kno o)) := by
  intro hcn
  have ne : Dn ≠ c := fun z => by
    rw [← z, upd_same] at hcn
    cases hcn
  have s1 : Same H1 (upd H1 Dn (.lst xs)) := Same.upd hDn
  have s2 := s1.trans (Same.upd (o := kno o) hcn)
  have K2 : KeepT H (upd (upd H1 Dn (.lst xs)) c (kno o)) := by
    refine ⟨fun b u e n => ?_, fun b ps e => ?_⟩
    · by_cases z : b = c
      · subst z
        rw [hc] at e
        cases e
        exact upd_same
      · exact s2 _ _ (K1.keep b u (by rw [del_ne z]; exact e) n)
    · have z : b ≠ c := ne_of e hc (by intro y; cases y)
      obtain ⟨ps', e'⟩ := K1.tbl b ps (by rw [del_ne z]; exact e)
      exact ⟨ps', s2 _ _ e'⟩
  refine k Dn _ K2 (T1.same s2) ?_ (by rw [upd_ne ne, upd_same])
  have := K1.free hDn
  rw [del_ne ne] at this
  exact this
theorem ok_mB {t : TabA} {f c cc fW : Addr} {fdW : FuncData} {pm ctv : Value} (T : Txt K mg C G) (GW : FnOk P w K mg base CX0 4 fW fdW ["self", "plan"] (spWO C G t)) (bW : Binds K fdW ["self", "plan"] []) (mW : Meth K C "way_of" fW) :
    FnOk P w K mg base CX0 5 f (lamFd qB (mA sBest) (mB sBest) (mS sBest) [("self", c)] pm (.ref cc) ctv) ["plan"] (spMs C G t qB sBest false (fun _ _ => 0) f c (lamFd qB (mA sBest) (mB sBest) (mS sBest) [("self", c)] pm (.ref cc) ctv)) := by
  refine lam_of scMB (fun vs H Q E h => ?_) (fun vs H Q E h => ?_) (fun A outer s H v1 Q E hr h o v u hc hod rv => ?_)
  · obtain ⟨p, wa, g, b, a, d, n, l, o, rfl, _⟩ := h
    rfl
  · obtain ⟨p, wa, g, b, a, d, n, l, o, rfl, hL, hc, ho, _⟩ := h
    exact ⟨(lam_fd hL).1, (lam_fd hL).2, o, .ref p, .ref p, hc, ho, rfl⟩
  · obtain ⟨p, wa, g, b, a, d, n, l, o', e1, hL, hc', ho, D, hl, hright, tabs, k⟩ := h
    cases e1
    rw [hc'] at hc
    cases hc
    rw [ho] at hod
    cases hod
    have ev := rel_ref rv
    subst ev
    have D' := D.del hc'
    obtain ⟨dx, h0⟩ := D'.ob
    have hl' : del H c a = some (.lst (pl l)) := by rw [del_ne (ne_of hl hc' (by intro z; cases z))]; exact hl
    refine ⟨_, pe_lst (pa_cons (pe_meth (pv 1) T.cl mW GW hr bW .nil pass0 (pa_cons (pv 0) pa_nil)) pa_nil), ?_⟩
    refine ⟨_, rfl, p, dx, _, rfl, h0, (by rfl), _, rfl, p, wa, g, b, a, d, n, l, rfl, D', hl', hright, tabs.del hc' ho, fun H1 K1 T1 => ⟨(by show 1 ≤ sizeLine; decide), fun Dn hDn => ?_⟩⟩
    exact ms_end (v := none) (xs := [.int (d.total l : Nat)]) hc' K1 T1 hDn k
theorem ok_mF {t : TabA} {f c cc fW fH : Addr} {fdW fdH : FuncData} {pm ctv : Value} (T : Txt K mg C G) (GW : FnOk P w K mg base CX0 4 fW fdW ["self", "plan"] (spWO C G t)) (bW : Binds K fdW ["self", "plan"] []) (mW : Meth K C "way_of" fW)
    (GH : FnOk P w K mg base CX0 1 fH fdH ["plan"] (spHM K)) (bH : Binds K fdH ["plan"] []) (gH : mg "how_many_referees" = some (.ref fH)) (kH : PySem.W.keepIn K (.ref fH) = true) :
    FnOk P w K mg base CX0 5 f (lamFd qF (mA sFewest) (mB sFewest) (mS sFewest) [("self", c)] pm (.ref cc) ctv) ["plan"] (spMs C G t qF sFewest true (fun d => d.used) f c (lamFd qF (mA sFewest) (mB sFewest) (mS sFewest) [("self", c)] pm (.ref cc) ctv)) := by
  refine lam_of scMF (fun vs H Q E h => ?_) (fun vs H Q E h => ?_) (fun A outer s H v1 Q E hr h o v u hc hod rv => ?_)
  · obtain ⟨p, wa, g, b, a, d, n, l, o, rfl, _⟩ := h
    rfl
  · obtain ⟨p, wa, g, b, a, d, n, l, o, rfl, hL, hc, ho, _⟩ := h
    exact ⟨(lam_fd hL).1, (lam_fd hL).2, o, .ref p, .ref p, hc, ho, rfl⟩
  · obtain ⟨p, wa, g, b, a, d, n, l, o', e1, hL, hc', ho, D, hl, hright, tabs, k⟩ := h
    cases e1
    rw [hc'] at hc
    cases hc
    rw [ho] at hod
    cases hod
    have ev := rel_ref rv
    subst ev
    have D' := D.del hc'
    obtain ⟨dx, h0⟩ := D'.ob
    obtain ⟨rl, rr, _, _⟩ := right_parts hright
    have hgl := D.good.gl
    have hl' : del H c a = some (.lst (pl l)) := by rw [del_ne (ne_of hl hc' (by intro z; cases z))]; exact hl
    have hr1 := hr.mono (show 1 ≤ 4 by decide)
    refine ⟨_, pe_lst (pa_cons (pe_call GH hr1 rfl gH kH bH .nil pass0 (pa_cons (pv 0) pa_nil)) (pa_cons (pe_meth (pv 1) T.cl mW GW hr bW .nil pass0 (pa_cons (pv 0) pa_nil)) pa_nil)), ?_⟩
    refine ⟨_, rfl, a, l, d.refs, rfl, hl', (by omega), rr, fun H0 s0 => ?_⟩
    refine ⟨_, rfl, p, dx, _, rfl, s0 _ _ h0, (by rfl), _, rfl, p, wa, g, b, a, d, n, l, rfl, D'.same s0, s0 _ _ hl', hright, (tabs.del hc' ho).same s0, fun H1 K1 T1 => ⟨sz2, fun Dn hDn => ?_⟩⟩
    exact ms_end (v := none) (xs := [.int (d.used l : Nat), .int (d.total l : Nat)]) hc' (s0.keepT.trans K1) T1 hDn k
theorem ok_mR {t : TabA} {f c cc fW fH : Addr} {fdW fdH : FuncData} {pm ctv : Value} (T : Txt K mg C G) (GW : FnOk P w K mg base CX0 4 fW fdW ["self", "plan"] (spWO C G t)) (bW : Binds K fdW ["self", "plan"] []) (mW : Meth K C "way_of" fW)
    (GH : FnOk P w K mg base CX0 1 fH fdH ["plan"] (spMG K)) (bH : Binds K fdH ["plan"] []) (gH : mg "most_games_of_one" = some (.ref fH)) (kH : PySem.W.keepIn K (.ref fH) = true) :
    FnOk P w K mg base CX0 5 f (lamFd qR (mA sFair) (mB sFair) (mS sFair) [("self", c)] pm (.ref cc) ctv) ["plan"] (spMs C G t qR sFair true (fun d => d.most) f c (lamFd qR (mA sFair) (mB sFair) (mS sFair) [("self", c)] pm (.ref cc) ctv)) := by
  refine lam_of scMR (fun vs H Q E h => ?_) (fun vs H Q E h => ?_) (fun A outer s H v1 Q E hr h o v u hc hod rv => ?_)
  · obtain ⟨p, wa, g, b, a, d, n, l, o, rfl, _⟩ := h
    rfl
  · obtain ⟨p, wa, g, b, a, d, n, l, o, rfl, hL, hc, ho, _⟩ := h
    exact ⟨(lam_fd hL).1, (lam_fd hL).2, o, .ref p, .ref p, hc, ho, rfl⟩
  · obtain ⟨p, wa, g, b, a, d, n, l, o', e1, hL, hc', ho, D, hl, hright, tabs, k⟩ := h
    cases e1
    rw [hc'] at hc
    cases hc
    rw [ho] at hod
    cases hod
    have ev := rel_ref rv
    subst ev
    have D' := D.del hc'
    obtain ⟨dx, h0⟩ := D'.ob
    obtain ⟨rl, rr, _, _⟩ := right_parts hright
    have hgl := D.good.gl
    have hl' : del H c a = some (.lst (pl l)) := by rw [del_ne (ne_of hl hc' (by intro z; cases z))]; exact hl
    have hr1 := hr.mono (show 1 ≤ 4 by decide)
    refine ⟨_, pe_lst (pa_cons (pe_call GH hr1 rfl gH kH bH .nil pass0 (pa_cons (pv 0) pa_nil)) (pa_cons (pe_meth (pv 1) T.cl mW GW hr bW .nil pass0 (pa_cons (pv 0) pa_nil)) pa_nil)), ?_⟩
    refine ⟨_, rfl, a, l, rfl, hl', (by omega), fun H0 m s0 hm => ?_⟩
    have em := most_is (d := d) rr hm
    subst em
    refine ⟨_, rfl, p, dx, _, rfl, s0 _ _ h0, (by rfl), _, rfl, p, wa, g, b, a, d, n, l, rfl, D'.same s0, s0 _ _ hl', hright, (tabs.del hc' ho).same s0, fun H1 K1 T1 => ⟨sz2, fun Dn hDn => ?_⟩⟩
    exact ms_end (v := none) (xs := [.int (d.most l : Nat), .int (d.total l : Nat)]) hc' (s0.keepT.trans K1) T1 hDn k
end
end Rp
end
section
set_option Elab.async false
set_option linter.all false
set_option maxRecDepth 100000
set_option maxHeartbeats 2000000
namespace Rp
open PySem PySem.Spec PyProof.Rows L2
/-- what best, fewest and fair answer -/
def bestAns (two : Bool) (d : Si71.Day) (f : List Nat → Nat) : List V := (ansOf (Si71.toldBest two (d.bestBy f))).map V.int
theorem bestAns_some {two : Bool} {d : Si71.Day} {f : List Nat → Nat} {x : Si71.Best} (h : d.bestBy f = some x) : bestAns two d f = ((measB two x).map V.int ++ [V.int (x.many : Nat)]) ++ pl x.row := by
  unfold bestAns
  rw [h, pl_ints]
  cases two <;> rfl
theorem bestAns_none {two : Bool} {d : Si71.Day} {f : List Nat → Nat} (h : d.bestBy f = none) : bestAns two d f = [V.int (-6)] := by
  unfold bestAns
  rw [h]
  rfl
section
variable {P : Program} {w : World} {K : PySem.W.Frag} {mg : Str → Option Value} {base : Heap} {C G : Addr}
/-- a new list comes out; tables may have grown -/
def OutT (t : TabA) (H : Hp) (Q : VK) (xs : List V) : Prop := ∀ (Dn : Addr) (H' : Hp), KeepT H H' → Tabs t H' → H Dn = none → H' Dn = some (.lst xs) → Q (.ref Dn) H'
def spLeast (P : Program) (w : World) (K : PySem.W.Frag) (mg : Str → Option Value) (base : Heap) (C G : Addr) (t : TabA) : Sp := fun vs H Q _ => ∃ (p wa g b f c : Addr) (d : Si71.Day) (n : Nat) (fd : FuncData) (qual : Str) (st : Stmt) (two : Bool) (fm : Si71.Day → List Nat → Nat) (o : Obj), vs = [.ref p, .ref f] ∧ DayAt C G H p wa g b d n ∧
  LamAt H f fd qual (mA st) (mB st) (mS st) [("self", c)] ∧ H c = some (kno o) ∧ o.data = .cell (some (.ref p)) ∧ Tabs t H ∧ FnOk P w K mg base CX0 5 f fd ["plan"] (spMs C G t qual st two fm f c fd) ∧ Binds K fd ["plan"] [] ∧ (two = false → fm d = fun _ => 0) ∧ OutT t H Q (bestAns two d (fm d))
theorem scLe : FnScope ["self", "measure", "plans", "measures", "lowest", "plan"] ["self", "measure"] (defScope sLeast) := ⟨rfl, rfl, rfl, by decide +kernel, rfl, by decide +kernel, by decide +kernel⟩
theorem ok_least {f fP : Addr} {fd fdP : FuncData} {t : TabA} (F : Fun K "least" "Day.least" sLeast f fd) (T : Txt K mg C G) (GP : FnOk P w K mg base CX0 6 fP fdP ["self"] (spPl C G)) (bP : Binds K fdP ["self"] []) (mP : Meth K C "plans_that_can_be" fP) :
    FnOk P w K mg base CX0 7 f fd ["self", "measure"] (spLeast P w K mg base C G t) := by
  refine F.ok scLe (fun vs H Q E h => ?_) (fun cdv A outer s H vs Q E hr h => ?_)
  · obtain ⟨p, wa, g, b, fl, c, d, n, fdl, qual, st, two, fm, o, rfl, _⟩ := h
    rfl
  · obtain ⟨p, wa, g, b, fl, c, d, n, fdl, qual, st, two, fm, o, rfl, D, lam, hc, ho, tabs, FL, BL, hf, k⟩ := h
    obtain ⟨dx, h0⟩ := D.ob
    have hR := D.good.r4
    have hgl := D.good.gl
    have hr5 := hr.mono (show 5 ≤ 6 by decide)
    refine ⟨_, pss_cons (ps_set (i := 2) scLe.nd rfl (Or.inl rfl) (pe_meth0 (pv 0) T.cl mP GP hr bP .nil pass0))
      (pss_cons (ps_if (pt_not (pt_truth (pv 2) (fun _ => rfl))) (pss_one (ps_ret (pe_lst (pa_cons (pe_gint T.cNP) pa_nil)))) pss_nil)
      (pss_cons (ps_setLc (i := 3) (own := [("plan", 5)]) (te := tCallV P w K mg base 5 1 (tCons (tVar 5) tNil)) rfl scLe.nd rfl rfl (sw_true rfl rfl rfl rfl) (pi_list (pv 2)) (blkOk_by (show blkC ["self", "measure", "plans", "measures", "lowest", "plan"] (defScope sLeast) _ _ = true from by decide +kernel)) (fun _ _ _ _ _ => pg_name (i := 5) scLe.nd rfl (Or.inl rfl)) (fun _ _ _ _ _ => pts_nil) (fun _ _ _ _ _ => pe_callV (i := 1) (pv 1) hr5 (pa_cons (pv 5) pa_nil)))
      (pss_cons (ps_set (i := 4) scLe.nd rfl (Or.inl rfl) (pe_callB (cr_minR rfl hr.units) (by rfl) T.b_min PyProof.Rows.boot_min (pa_cons (pv 3) pa_nil)))
      (pss_one (ps_ret (pe_op op_cat (pe_op op_cat (pv 4) (pe_lst (pa_cons (pe_bm PySem.F.plainAttrs_list PySem.F.slot_list_count PySem.F.type_list_count (mt_countR hr.units) (pv 3) (pa_cons (pv 4) pa_nil)) pa_nil))) (pe_ix ix_list (pv 2) (pe_bm PySem.F.plainAttrs_list PySem.F.slot_list_index PySem.F.type_list_index (mt_indexR hr.units) (pv 3) (pa_cons (pv 4) pa_nil)) (fun _ _ => rfl)))))))), ?_⟩
    refine ⟨_, rfl, p, dx, _, rfl, h0, (by rfl), p, wa, g, b, d, n, rfl, D, fun a2 H1 qs s1 f1 e1 => ?_⟩
    rw [good_plans] at e1
    have T1 := tabs.same s1
    refine ⟨_, rfl, !(qs.map fun q => V.ref q.1).isEmpty, .inl ⟨_, SqL.of f1.dn, rfl⟩, ?_⟩
    dsimp only
    rw [Bool.not_not, empty_map]
    have hbi := best_is d (fm d)
    rw [← e1] at hbi
    cases eq : qs.isEmpty with
    | true =>
      have eq : qs = [] := List.isEmpty_iff.mp eq
      subst eq
      rcases hbi with ⟨_, hb⟩ | ⟨x, _, hb⟩
      · refine iteT ⟨(by show 1 ≤ sizeLine; decide), fun Dn hDn => ?_⟩
        have s2 := s1.trans (Same.upd (o := .lst [.int (-6)]) hDn)
        exact k Dn _ s2.keepT (tabs.same s2) (s1.free hDn) (by rw [upd_same, bestAns_none hb])
      · obtain ⟨j, hj, _⟩ := hb.at_
        simp at hj
    | false =>
      refine iteF ?_
      have hne : qs ≠ [] := fun z => by rw [z] at eq; cases eq
      have hne' : 0 < qs.length := List.length_pos_iff.mpr hne
      rcases hbi with ⟨z, _⟩ | ⟨x, hx, hb⟩
      · exact absurd (List.map_eq_nil_iff.mp z) hne
      have hql : qs.length ≤ 4096 := by
        have h1 := congrArg List.length e1
        rw [List.length_map, ← good_plans] at h1
        rw [h1]
        exact Nat.le_trans (good_len d hR _) (pow46 hgl)
      have hrt : ∀ q, q ∈ qs → d.right q.2 = true := fun q hq => plan_right (by rw [← e1]; exact List.mem_map_of_mem hq)
      refine ⟨_, rfl, a2, rfl, ⟨_, SqL.of f1.dn⟩, fun Dn hDn => lc_list (xs := qs.map fun q => V.ref q.1) (fun i H' => KeepT H1 H' ∧ Tabs t H' ∧ ∃ rs : List (Addr × List Int), H' Dn = some (.lst (rs.map fun q => V.ref q.1)) ∧ (∀ q, q ∈ rs → H' q.1 = some (.lst (q.2.map V.int)) ∧ q.1 ≠ Dn) ∧ rs.map (·.2) = ((qs.take i).map (·.2)).map (meas two d (fm d)))
        ⟨(Same.upd hDn).keepT, T1.same (Same.upd hDn), [], upd_same, fun q hq => (nomatch hq), rfl⟩ (fun i H' _ q => SqL.of (q.1.keep _ _ f1.dn (by intro o z; cases z))) (fun i y H' hy q => ?_) fun H' q => ?_⟩
      · rw [List.getElem?_map] at hy
        cases eqi : qs[i]? with
        | none => rw [eqi] at hy; cases hy
        | some qq =>
          rw [eqi] at hy
          cases hy
          have hqm : qq ∈ qs := List.mem_of_getElem? eqi
          obtain ⟨K2, T2, rs, hDn2, hrs, ers⟩ := q
          have K02 := s1.keepT.trans K2
          have lam2 := LamAt.same lam K02
          obtain ⟨pm', ctv', cc', oc', efd, hfl2, _⟩ := id lam2
          refine ⟨rfl, tyes ?_⟩
          rw [if_pos rfl]
          refine ⟨fl, rfl, _, rfl, _, _, fdl, ["plan"], _, hfl2, rfl, FL, BL, p, wa, g, b, qq.1, d, n, qq.2, o, rfl, lam2, K02.keep _ _ hc (by intro o z; cases z), ho, D.keepT K02, K2.keep _ _ (f1.row qq hqm).1 (by intro o z; cases z), hrt qq hqm, T2, fun Dm H3 K3 T3 hDm hm => ?_⟩
          have hDn3 := K3.keep _ _ hDn2 (by intro o z; cases z)
          have nmD : Dm ≠ Dn := (ne_of_none hDn2 hDm).symm
          have hrl : rs.length = i := by
            have h1 := congrArg List.length ers
            have hi : i < qs.length := (List.getElem?_eq_some_iff.mp eqi).1
            rw [List.length_map, List.length_map, List.length_map, List.length_take] at h1
            omega
          have hi : i < qs.length := (List.getElem?_eq_some_iff.mp eqi).1
          refine ⟨_, hDn3, sz20 (by rw [List.length_map]; omega), ⟨fun c' u e n => ?_, fun c' ps e => ?_⟩, T3.lst hDn3, rs ++ [(Dm, meas two d (fm d) qq.2)], ?_, fun q hq => ?_, ?_⟩
          · rw [upd_ne (ne_of_none e hDn)]
            exact K3.keep _ _ (K2.keep _ _ e n) n
          · obtain ⟨ps', e'⟩ := (K2.trans K3).tbl _ _ e
            exact ⟨ps', by rw [upd_ne (ne_of_none e hDn)]; exact e'⟩
          · rw [upd_same, List.map_append]
            rfl
          · rcases List.mem_append.mp hq with hq | hq
            · obtain ⟨z1, z2⟩ := hrs q hq
              exact ⟨by rw [upd_ne z2]; exact K3.keep _ _ z1 (by intro o z; cases z), z2⟩
            · rw [List.mem_singleton.mp hq]
              exact ⟨by rw [upd_ne nmD]; exact hm, nmD⟩
          · rw [List.map_append, ers, List.take_add_one, eqi, List.map_append, List.map_append]
            rfl
      · rw [List.length_map, List.take_of_length_le (Nat.le_refl _), e1] at q
        obtain ⟨K2, T2, rs, hDn2, hrs, ers⟩ := q
        have hrl : rs.length = qs.length := by
          have h1 := congrArg List.length ers
          rw [List.length_map, List.length_map, ← e1, List.length_map] at h1
          exact h1
        have rows : Rows K H' Dn rs := ⟨SqL.of hDn2, fun q hq => (hrs q hq).1⟩
        rw [e1] at hb
        refine ⟨_, rfl, Dn, rs, if two = true then 2 else 1, rfl, rows, (by omega), fun q hq => ?_, fun lw ms hlw hmin => ?_⟩
        · have h1 : q.2 ∈ rs.map (·.2) := List.mem_map_of_mem hq
          rw [ers] at h1
          obtain ⟨l, _, h2⟩ := List.mem_map.mp h1
          rw [← h2]
          exact meas_len l
        have ems : ms = measB two x := by
          refine least_is hf hb (by rw [← ers]; exact List.mem_map_of_mem hlw) fun m hm => ?_
          rw [← ers] at hm
          obtain ⟨q, hq, h2⟩ := List.mem_map.mp hm
          rw [← h2]
          exact hmin q hq
        subst ems
        have hlwr := (hrs _ hlw).1
        obtain ⟨j, j1, j2, j3⟩ := index_is hf hb
        have hmlen : (measB two x).length ≤ 2 := by unfold measB; cases two <;> simp
        -- lowest + [measures.count(lowest)]
        refine ⟨_, rfl, _, rfl, .inl ⟨rfl, _, SqL.of hDn2⟩, _, rfl, Dn, lw, rs, measB two x, rfl, rfl, rows, hlwr, (by show 1 ≤ sizeLine; decide), fun r1 hr1 => ?_⟩
        have t1 := Same.upd (o := .lst [.int ((rs.map Prod.snd).count (measB two x) : Nat)]) hr1
        refine ⟨lw, r1, _, _, rfl, rfl, t1 _ _ hlwr, upd_same, (by rw [List.length_map]; exact Nat.le_of_lt (small1000 (by show (measB two x).length + 1 ≤ 1000; omega))), fun r2 hr2 => ?_⟩
        have t2 := t1.trans (Same.upd (o := .lst ((measB two x).map V.int ++ [.int ((rs.map Prod.snd).count (measB two x) : Nat)])) hr2)
        -- plans[measures.index(lowest)]
        have rows2 : Rows K _ Dn rs := ⟨SqL.of (t2 _ _ hDn2), fun q hq => t2 _ _ (hrs q hq).1⟩
        have hjq : ∃ q, qs[j]? = some q ∧ q.2 = x.row := by
          rw [← e1, List.getElem?_map] at j1
          cases z : qs[j]? with
          | none => rw [z] at j1; cases j1
          | some q => rw [z] at j1; exact ⟨q, rfl, Option.some.inj j1⟩
        obtain ⟨qj, hqj, eqj⟩ := hjq
        have hpl : H' a2 = some (.lst (qs.map fun q => V.ref q.1)) := K2.keep _ _ f1.dn (by intro o z; cases z)
        have hrow : H' qj.1 = some (.lst (pl qj.2)) := K2.keep _ _ (f1.row qj (List.mem_of_getElem? hqj)).1 (by intro o z; cases z)
        refine ⟨_, rfl, _, rfl, .inl ⟨rfl, _, SqL.of (t2 _ _ hDn2)⟩, _, rfl, Dn, lw, rs, measB two x, j, rfl, rfl, rows2, t2 _ _ hlwr, (by show (rs.map (·.2))[j]? = _; rw [ers]; exact j2), (fun m hm => by show ¬ (rs.map (·.2))[m]? = _; rw [ers]; exact j3 m hm), a2, _, _, _, rfl, rfl, SqL.of (t2 _ _ hpl), at_of (j := j) rfl (by rw [List.getElem?_map, hqj]; rfl), ?_⟩
        have hxl : x.row.length ≤ 6 := by
          have := (right_parts (hrt qj (List.mem_of_getElem? hqj))).1
          rw [eqj] at this
          omega
        refine ⟨r2, qj.1, _, _, rfl, rfl, upd_same, t2 _ _ hrow, (by rw [List.length_append, List.length_map, pl_len, eqj]; exact Nat.le_of_lt (small1000 (by show (measB two x).length + 1 + x.row.length ≤ 1000; omega))), fun r3 hr3 => ?_⟩
        have t3 := t2.trans (Same.upd (o := .lst ((measB two x).map V.int ++ [.int ((rs.map Prod.snd).count (measB two x) : Nat)] ++ pl qj.2)) hr3)
        have K3 := (s1.keepT.trans K2).trans t3.keepT
        refine k r3 _ K3 (T2.same t3) ((s1.keepT.trans K2).free (t2.free hr3)) ?_
        rw [upd_same, bestAns_some hx, eqj]
        have ec : (rs.map Prod.snd).count (measB two x) = x.many := by
          show (rs.map (·.2)).count (measB two x) = x.many
          rw [ers]
          exact count_is hf hb
        rw [ec]
end
end Rp
end
section
set_option Elab.async false
set_option linter.all false
set_option maxRecDepth 100000
set_option maxHeartbeats 2000000
namespace Rp
open PySem PySem.Spec PyProof.Rows L2
section
variable {P : Program} {w : World} {K : PySem.W.Frag} {mg : Str → Option Value} {base : Heap} {C G : Addr}
/-- behind a lambda that was made at the table P1 -/
theorem lam_keep {H H1 : Hp} {P1 : Addr} {pos : Pos} {q : Str} (kp : ∀ b o, H b = some o → b ≠ P1 → H1 b = some o) (x : Site H P1 pos q) (y : Site H1 P1 pos q) : KeepT H H1 := by
  obtain ⟨ps1, hT1⟩ := x.tbl
  refine ⟨fun c o e n => kp c o e (fun z => n ps1 (by rw [z, hT1] at e; exact (Option.some.inj e).symm)), fun c ps e => ?_⟩
  by_cases z : c = P1
  · rw [z]; exact y.tbl
  · exact ⟨ps, kp _ _ e z⟩
/-- behind a call for which the cell at c was tracked -/
theorem cell_end {t : TabA} {H H1 : Hp} {c : Addr} {o : Obj} {v : Option Value} {xs : List V} {Q : VK} (K1 : KeepT H H1) (hcn : H1 c = none) (ho : o.data = .cell v) (k : OutT t H Q xs) : OutT t (upd H1 c (kno o)) (fun z H' => Q z (del H' c)) xs := by
  intro Dn H' K2 T2 hDn hans
  have ne : Dn ≠ c := fun z => by
    rw [z, upd_same] at hDn
    cases hDn
  have hc' := K2.keep c (kno o) upd_same (by intro ps z; cases z)
  have hc : H c = none := K1.free hcn
  refine k Dn (del H' c) ⟨fun b u e n => ?_, fun b ps e => ?_⟩ (T2.del hc' ho) (K1.free (by rw [upd_ne ne] at hDn; exact hDn)) (by rw [del_ne ne]; exact hans)
  · have nb : b ≠ c := ne_of_none e hc
    rw [del_ne nb]
    exact K2.keep b u (by rw [upd_ne nb]; exact K1.keep b u e n) n
  · have nb : b ≠ c := ne_of_none e hc
    obtain ⟨ps', e'⟩ := K1.tbl b ps e
    obtain ⟨ps2, e2⟩ := K2.tbl b ps' (by rw [upd_ne nb]; exact e')
    exact ⟨ps2, by rw [del_ne nb]; exact e2⟩
def spBest (C G : Addr) (t : TabA) (two : Bool) (fm : Si71.Day → List Nat → Nat) : Sp := fun vs H Q _ => ∃ (p wa g b : Addr) (d : Si71.Day) (n : Nat), vs = [.ref p] ∧ DayAt C G H p wa g b d n ∧ Tabs t H ∧ OutT t H Q (bestAns two d (fm d))
theorem scBs : FnScope ["self"] ["self"] (defScope sBest) := ⟨rfl, rfl, rfl, by decide +kernel, rfl, by decide +kernel, by decide +kernel⟩
theorem scFw : FnScope ["self"] ["self"] (defScope sFewest) := ⟨rfl, rfl, rfl, by decide +kernel, rfl, by decide +kernel, by decide +kernel⟩
theorem scFa : FnScope ["self"] ["self"] (defScope sFair) := ⟨rfl, rfl, rfl, by decide +kernel, rfl, by decide +kernel, by decide +kernel⟩
variable {t : TabA} {f c fL fW fH : Addr} {fd fdL fdW fdH : FuncData}
theorem ok_best (F : FunC K "best" "Day.best" sBest f fd c t.b) (T : Txt K mg C G) (hbm : BMain mg base) (td : TabD t) (GL : FnOk P w K mg base CX0 7 fL fdL ["self", "measure"] (spLeast P w K mg base C G t)) (bL : Binds K fdL ["self", "measure"] []) (mL : Meth K C "least" fL)
    (GW : FnOk P w K mg base CX0 4 fW fdW ["self", "plan"] (spWO C G t)) (bW : Binds K fdW ["self", "plan"] []) (mW : Meth K C "way_of" fW) : FnOk P w K mg base CX0 8 f fd ["self"] (spBest C G t false fun _ _ => 0) := by
  refine F.ok scBs (fun vs H Q E h => ?_) (fun A outer s H vs Q E hr h => ?_)
  · obtain ⟨p, wa, g, b, d, n, rfl, _⟩ := h
    rfl
  · obtain ⟨p, wa, g, b, d, n, rfl, D, tabs, k⟩ := h
    obtain ⟨dx, h0⟩ := D.ob
    refine ⟨_, pss_one (ps_ret (pe_methC (x := "self") (i := 0) rfl rfl rfl (pv 0) T.cl mL GL hr bL (pa_cons (pe_lam (c := c) (P := t.b) (qual := qB) rfl F.hd hbm rfl (fun y hy e => ⟨_, (show _ = some _ from by rw [scMB.only y hy e]; rfl)⟩)) pa_nil))), ?_⟩
    refine ⟨_, rfl, p, dx, _, rfl, h0, (by rfl), tabs.b, fun fl fdl H1 hfl kp1 st1 lam1 => ⟨_, rfl, fun o u ho ru hcn => ?_⟩⟩
    cases ru
    have K1 : KeepT H H1 := lam_keep kp1 tabs.b st1
    have T1 : Tabs t H1 := ⟨tabs.k.but kp1 td.kb tabs.b.tbl, st1, tabs.w.but kp1 td.bw.symm tabs.b.tbl, tabs.r.but kp1 td.br.symm tabs.b.tbl⟩
    have lam1 : LamAt H1 fl fdl qB (mA sBest) (mB sBest) (mS sBest) [("self", s.heap.objs.size + 1)] := lam1
    obtain ⟨pm, ctv, cc, oc, efd, _⟩ := id lam1
    have FK : FnOk P w K mg base CX0 5 fl fdl ["plan"] (spMs C G t qB sBest false (fun _ _ => 0) fl (s.heap.objs.size + 1) fdl) := by subst efd; exact ok_mB T GW bW mW
    have BK : Binds K fdl ["plan"] [] := by subst efd; exact .all (fun us hl => match us, hl with | [_], _ => rfl)
    have s2 := Same.upd (o := kno o) hcn
    exact ⟨p, wa, g, b, fl, _, d, n, fdl, qB, sBest, false, fun _ _ => 0, o, rfl, (D.keepT K1).same s2, LamAt.same lam1 s2.keepT, upd_same, ho, T1.same s2, FK, BK, fun _ => rfl, cell_end K1 hcn ho k⟩
theorem ok_fewest (F : FunC K "fewest" "Day.fewest" sFewest f fd c t.w) (T : Txt K mg C G) (hbm : BMain mg base) (td : TabD t) (GL : FnOk P w K mg base CX0 7 fL fdL ["self", "measure"] (spLeast P w K mg base C G t)) (bL : Binds K fdL ["self", "measure"] []) (mL : Meth K C "least" fL)
    (GW : FnOk P w K mg base CX0 4 fW fdW ["self", "plan"] (spWO C G t)) (bW : Binds K fdW ["self", "plan"] []) (mW : Meth K C "way_of" fW) (GH : FnOk P w K mg base CX0 1 fH fdH ["plan"] (spHM K)) (bH : Binds K fdH ["plan"] []) (gH : mg "how_many_referees" = some (.ref fH)) (kH : PySem.W.keepIn K (.ref fH) = true) :
    FnOk P w K mg base CX0 8 f fd ["self"] (spBest C G t true fun d => d.used) := by
  refine F.ok scFw (fun vs H Q E h => ?_) (fun A outer s H vs Q E hr h => ?_)
  · obtain ⟨p, wa, g, b, d, n, rfl, _⟩ := h
    rfl
  · obtain ⟨p, wa, g, b, d, n, rfl, D, tabs, k⟩ := h
    obtain ⟨dx, h0⟩ := D.ob
    refine ⟨_, pss_one (ps_ret (pe_methC (x := "self") (i := 0) rfl rfl rfl (pv 0) T.cl mL GL hr bL (pa_cons (pe_lam (c := c) (P := t.w) (qual := qF) rfl F.hd hbm rfl (fun y hy e => ⟨_, (show _ = some _ from by rw [scMF.only y hy e]; rfl)⟩)) pa_nil))), ?_⟩
    refine ⟨_, rfl, p, dx, _, rfl, h0, (by rfl), tabs.w, fun fl fdl H1 hfl kp1 st1 lam1 => ⟨_, rfl, fun o u ho ru hcn => ?_⟩⟩
    cases ru
    have K1 : KeepT H H1 := lam_keep kp1 tabs.w st1
    have T1 : Tabs t H1 := ⟨tabs.k.but kp1 td.kw tabs.w.tbl, tabs.b.but kp1 td.bw tabs.w.tbl, st1, tabs.r.but kp1 td.wr.symm tabs.w.tbl⟩
    have lam1 : LamAt H1 fl fdl qF (mA sFewest) (mB sFewest) (mS sFewest) [("self", s.heap.objs.size + 1)] := lam1
    obtain ⟨pm, ctv, cc, oc, efd, _⟩ := id lam1
    have FK : FnOk P w K mg base CX0 5 fl fdl ["plan"] (spMs C G t qF sFewest true (fun d => d.used) fl (s.heap.objs.size + 1) fdl) := by subst efd; exact ok_mF T GW bW mW GH bH gH kH
    have BK : Binds K fdl ["plan"] [] := by subst efd; exact .all (fun us hl => match us, hl with | [_], _ => rfl)
    have s2 := Same.upd (o := kno o) hcn
    exact ⟨p, wa, g, b, fl, _, d, n, fdl, qF, sFewest, true, fun d => d.used, o, rfl, (D.keepT K1).same s2, LamAt.same lam1 s2.keepT, upd_same, ho, T1.same s2, FK, BK, fun z => Bool.noConfusion z, cell_end K1 hcn ho k⟩
theorem ok_fair (F : FunC K "fair" "Day.fair" sFair f fd c t.r) (T : Txt K mg C G) (hbm : BMain mg base) (td : TabD t) (GL : FnOk P w K mg base CX0 7 fL fdL ["self", "measure"] (spLeast P w K mg base C G t)) (bL : Binds K fdL ["self", "measure"] []) (mL : Meth K C "least" fL)
    (GW : FnOk P w K mg base CX0 4 fW fdW ["self", "plan"] (spWO C G t)) (bW : Binds K fdW ["self", "plan"] []) (mW : Meth K C "way_of" fW) (GH : FnOk P w K mg base CX0 1 fH fdH ["plan"] (spMG K)) (bH : Binds K fdH ["plan"] []) (gH : mg "most_games_of_one" = some (.ref fH)) (kH : PySem.W.keepIn K (.ref fH) = true) :
    FnOk P w K mg base CX0 8 f fd ["self"] (spBest C G t true fun d => d.most) := by
  refine F.ok scFa (fun vs H Q E h => ?_) (fun A outer s H vs Q E hr h => ?_)
  · obtain ⟨p, wa, g, b, d, n, rfl, _⟩ := h
    rfl
  · obtain ⟨p, wa, g, b, d, n, rfl, D, tabs, k⟩ := h
    obtain ⟨dx, h0⟩ := D.ob
    refine ⟨_, pss_one (ps_ret (pe_methC (x := "self") (i := 0) rfl rfl rfl (pv 0) T.cl mL GL hr bL (pa_cons (pe_lam (c := c) (P := t.r) (qual := qR) rfl F.hd hbm rfl (fun y hy e => ⟨_, (show _ = some _ from by rw [scMR.only y hy e]; rfl)⟩)) pa_nil))), ?_⟩
    refine ⟨_, rfl, p, dx, _, rfl, h0, (by rfl), tabs.r, fun fl fdl H1 hfl kp1 st1 lam1 => ⟨_, rfl, fun o u ho ru hcn => ?_⟩⟩
    cases ru
    have K1 : KeepT H H1 := lam_keep kp1 tabs.r st1
    have T1 : Tabs t H1 := ⟨tabs.k.but kp1 td.kr tabs.r.tbl, tabs.b.but kp1 td.br tabs.r.tbl, tabs.w.but kp1 td.wr tabs.r.tbl, st1⟩
    have lam1 : LamAt H1 fl fdl qR (mA sFair) (mB sFair) (mS sFair) [("self", s.heap.objs.size + 1)] := lam1
    obtain ⟨pm, ctv, cc, oc, efd, _⟩ := id lam1
    have FK : FnOk P w K mg base CX0 5 fl fdl ["plan"] (spMs C G t qR sFair true (fun d => d.most) fl (s.heap.objs.size + 1) fdl) := by subst efd; exact ok_mR T GW bW mW GH bH gH kH
    have BK : Binds K fdl ["plan"] [] := by subst efd; exact .all (fun us hl => match us, hl with | [_], _ => rfl)
    have s2 := Same.upd (o := kno o) hcn
    exact ⟨p, wa, g, b, fl, _, d, n, fdl, qR, sFair, true, fun d => d.most, o, rfl, (D.keepT K1).same s2, LamAt.same lam1 s2.keepT, upd_same, ho, T1.same s2, FK, BK, fun z => Bool.noConfusion z, cell_end K1 hcn ho k⟩
/-- check -/
def chkAns (d : Si71.Day) (l : List Nat) : List V := (ansOf (Si71.step d (.check l)).2).map V.int
def spCheck (C G : Addr) (t : TabA) : Sp := fun vs H Q _ => ∃ (p wa g b a : Addr) (d : Si71.Day) (n : Nat) (l : List Nat), vs = [.ref p, .ref a] ∧ DayAt C G H p wa g b d n ∧ H a = some (.lst (pl l)) ∧ l.length ≤ 8 ∧ Tabs t H ∧ OutT t H Q (chkAns d l)
theorem scCk : FnScope ["self", "plan", "barred", "clashing"] ["self", "plan"] (defScope sCheck) := ⟨rfl, rfl, rfl, by decide +kernel, rfl, by decide +kernel, by decide +kernel⟩
theorem step_check (d : Si71.Day) (l : List Nat) : Si71.step d (.check l) = if d.told l = false then (d, Si71.ok (-1)) else (d, match d.barred l with
    | some i => ⟨-6, Si71.ints [i]⟩
    | none => match d.clash l with
      | some x => ⟨-7, Si71.ints [x.1, x.2]⟩
      | none => ⟨((d.total l : Nat) : Int), Si71.ints [d.used l, d.most l]⟩) := rfl
theorem ok_check {fS fB fC fM : Addr} {fdS fdB fdC fdM : FuncData} (F : Fun K "check" "Day.check" sCheck f fd) (T : Txt K mg C G) (GS : FnOk P w K mg base CX0 1 fS fdS ["self", "plan"] (spHas C G)) (bS : Binds K fdS ["self", "plan"] []) (mS : Meth K C "has_a_referee_for_each_game" fS)
    (GB : FnOk P w K mg base CX0 2 fB fdB ["self", "plan"] (spBG C G)) (bB : Binds K fdB ["self", "plan"] []) (mB : Meth K C "barred_games" fB) (GC : FnOk P w K mg base CX0 4 fC fdC ["self", "plan"] (spCG C G)) (bC : Binds K fdC ["self", "plan"] []) (mC : Meth K C "clashing_games" fC)
    (GW : FnOk P w K mg base CX0 4 fW fdW ["self", "plan"] (spWO C G t)) (bW : Binds K fdW ["self", "plan"] []) (mW : Meth K C "way_of" fW) (GH : FnOk P w K mg base CX0 1 fH fdH ["plan"] (spHM K)) (bH : Binds K fdH ["plan"] []) (gH : mg "how_many_referees" = some (.ref fH)) (kH : PySem.W.keepIn K (.ref fH) = true)
    (GM : FnOk P w K mg base CX0 1 fM fdM ["plan"] (spMG K)) (bM : Binds K fdM ["plan"] []) (gM : mg "most_games_of_one" = some (.ref fM)) (kM : PySem.W.keepIn K (.ref fM) = true) : FnOk P w K mg base CX0 5 f fd ["self", "plan"] (spCheck C G t) := by
  refine F.ok scCk (fun vs H Q E h => ?_) (fun cdv A outer s H vs Q E hr h => ?_)
  · obtain ⟨p, wa, g, b, a, d, n, l, rfl, _⟩ := h
    rfl
  · obtain ⟨p, wa, g, b, a, d, n, l, rfl, D, hl, h8, tabs, k⟩ := h
    obtain ⟨dx, h0⟩ := D.ob
    have hr1 := hr.mono (show 1 ≤ 4 by decide)
    have hr2 := hr.mono (show 2 ≤ 4 by decide)
    refine ⟨_, pss_cons (ps_if (pt_not (pt_val (pe_meth (pv 0) T.cl mS GS hr1 bS .nil pass0 (pa_cons (pv 1) pa_nil)))) (pss_one (ps_ret (pe_lst (pa_cons (pe_gint T.cOB) pa_nil)))) pss_nil)
      (pss_cons (ps_set (i := 2) scCk.nd rfl (Or.inl rfl) (pe_meth (pv 0) T.cl mB GB hr2 bB .nil pass0 (pa_cons (pv 1) pa_nil)))
      (pss_cons (ps_if (pt_truth (pv 2) (fun _ => rfl)) (pss_one (ps_ret (pe_lst (pa_cons (pe_gint T.cBD) (pa_cons (pe_ix ix_list (pv 2) pe_int (fun _ _ => rfl)) pa_nil))))) pss_nil)
      (pss_cons (ps_set (i := 3) scCk.nd rfl (Or.inl rfl) (pe_meth (pv 0) T.cl mC GC hr bC .nil pass0 (pa_cons (pv 1) pa_nil)))
      (pss_cons (ps_if (pt_truth (pv 3) (fun _ => rfl)) (pss_one (ps_ret (pe_op op_cat (pe_lst (pa_cons (pe_gint T.cCL) pa_nil)) (pe_ix ix_list (pv 3) pe_int (fun _ _ => rfl))))) pss_nil)
      (pss_one (ps_ret (pe_lst (pa_cons (pe_meth (pv 0) T.cl mW GW hr bW .nil pass0 (pa_cons (pv 1) pa_nil)) (pa_cons (pe_call GH hr1 rfl gH kH bH .nil pass0 (pa_cons (pv 1) pa_nil)) (pa_cons (pe_call GM hr1 rfl gM kM bM .nil pass0 (pa_cons (pv 1) pa_nil)) pa_nil)))))))))), ?_⟩
    refine ⟨_, rfl, p, dx, _, rfl, h0, (by rfl), _, rfl, p, wa, g, b, a, d, n, l, rfl, D, hl, h8, fun H1 s1 => ⟨_, rfl, ?_⟩⟩
    dsimp only
    cases et : d.told l with
    | false =>
      refine iteT ⟨(by show 1 ≤ sizeLine; decide), fun Dn hDn => ?_⟩
      have s2 := s1.trans (Same.upd (o := .lst [.int (-1)]) hDn)
      refine k Dn _ s2.keepT (tabs.same s2) (s1.free hDn) ?_
      rw [upd_same]
      unfold chkAns
      rw [step_check, if_pos et]
      rfl
    | true =>
      have hll : l.length = d.games.length := by
        unfold Si71.Day.told at et
        rw [Bool.and_eq_true] at et
        exact beq_iff_eq.mp et.1
      have ett : ¬ d.told l = false := by rw [et]; exact Bool.noConfusion
      refine iteF ⟨_, rfl, p, dx, _, rfl, s1 _ _ h0, (by rfl), _, rfl, p, wa, g, b, a, d, n, l, rfl, D.same s1, s1 _ _ hl, (by omega), fun D1 H2 s2 hD1 q1 => ?_⟩
      have t2 := s1.trans s2
      refine ⟨_, rfl, !(pl (badL d l)).isEmpty, .inl ⟨_, SqL.of q1, rfl⟩, ?_⟩
      have hbh := bad_head d l
      cases eb : badL d l with
      | cons i rest =>
        rw [eb] at q1 hbh
        refine iteT ⟨_, rfl, D1, _, _, _, rfl, rfl, SqL.of q1, at_of (j := 0) rfl rfl, sz2, fun Dn hDn => ?_⟩
        have s3 := t2.trans (Same.upd (o := .lst [.int (-6), .int (i : Int)]) hDn)
        refine k Dn _ s3.keepT (tabs.same s3) (t2.free hDn) ?_
        rw [upd_same]
        unfold chkAns
        rw [step_check, if_neg ett, ← hbh]
        rfl
      | nil =>
        rw [eb] at hbh
        refine iteF ⟨_, rfl, p, dx, _, rfl, t2 _ _ h0, (by rfl), _, rfl, p, wa, g, b, a, d, n, l, rfl, D.same t2, t2 _ _ hl, (by omega), fun D2 H3 qs s3 hD2 f3 => ?_⟩
        have t3 := t2.trans s3
        refine ⟨_, rfl, !(qs.map fun q => V.ref q.1).isEmpty, .inl ⟨_, SqL.of f3.dn, rfl⟩, ?_⟩
        have hch := out_head d l
        have his := f3.is
        cases eo : outP d l l.length with
        | cons x rest =>
          rw [eo] at hch his
          cases qs with
          | nil => cases his
          | cons q qs' =>
            have e1 : q.2 = pr x := (List.cons.inj his).1
            have hrow := (f3.row q (List.mem_cons_self ..)).1
            refine iteT ⟨(by show 1 ≤ sizeLine; decide), fun r1 hr1 => ?_⟩
            have t4 := Same.upd (o := .lst [.int (-7)]) hr1
            refine ⟨_, rfl, D2, _, _, _, rfl, rfl, SqL.of (t4 _ _ f3.dn), at_of (j := 0) rfl rfl, r1, q.1, _, _, rfl, rfl, upd_same, t4 _ _ hrow, (by rw [e1]; exact Nat.le_of_lt (small1000 (by show 1 + 2 ≤ 1000; decide))), fun Dn hDn => ?_⟩
            have s5 := (t3.trans t4).trans (Same.upd (o := .lst ([.int (-7)] ++ q.2.map V.int)) hDn)
            refine k Dn _ s5.keepT (tabs.same s5) ((t3.trans t4).free hDn) ?_
            rw [upd_same, e1]
            unfold chkAns
            rw [step_check, if_neg ett, ← hbh, ← hch]
            rfl
        | nil =>
          rw [eo] at hch his
          have eq0 : qs = [] := List.map_eq_nil_iff.mp his
          subst eq0
          have hright : d.right l = true := by
            unfold Si71.Day.right
            rw [et, ← hbh, ← hch]
            rfl
          obtain ⟨_, rr, _, _⟩ := right_parts hright
          refine iteF ⟨_, rfl, p, dx, _, rfl, t3 _ _ h0, (by rfl), _, rfl, p, wa, g, b, a, d, n, l, rfl, D.same t3, t3 _ _ hl, hright, tabs.same t3, fun H4 K4 T4 => ?_⟩
          have hl4 := K4.keep _ _ (t3 _ _ hl) (by intro o z; cases z)
          refine ⟨_, rfl, a, l, d.refs, rfl, hl4, h8, rr, fun H5 s5 => ⟨_, rfl, a, l, rfl, s5 _ _ hl4, h8, fun H6 m s6 hm => ⟨(by show 3 ≤ sizeLine; decide), fun Dn hDn => ?_⟩⟩⟩
          have em := most_is (d := d) rr hm
          subst em
          have s7 := (s5.trans s6).trans (Same.upd (o := .lst [.int (d.total l : Nat), .int (d.used l : Nat), .int (d.most l : Nat)]) hDn)
          have K7 := (t3.keepT.trans K4).trans s7.keepT
          refine k Dn _ K7 (T4.same s7) ((t3.keepT.trans K4).free ((s5.trans s6).free hDn)) ?_
          refine upd_same.trans ?_
          unfold chkAns
          rw [step_check, if_neg ett, ← hbh, ← hch]
          rfl
end
end Rp
end
section
set_option Elab.async false
set_option linter.all false
set_option maxRecDepth 100000
set_option maxHeartbeats 2000000
namespace Rp
open PySem PySem.Spec PyProof.Rows L2
abbrev sAnswer : Stmt := top 27
abbrev sAnswers : Stmt := top 28
/-- from H with the mutable things S to H' with S'; tables may grow -/
structure MovT (H H' : Hp) (S S' : List Addr) : Prop where
  keep : ∀ c o, H c = some o → ¬ c ∈ S → (∀ ps, o ≠ .tbl ps) → H' c = some o
  tbl : ∀ c ps, H c = some (.tbl ps) → ∃ ps', H' c = some (.tbl ps')
  new : ∀ c, c ∈ S' → c ∈ S ∨ H c = none
theorem _root_.L2.KeepT.movT {H H' : Hp} (k : KeepT H H') (S : List Addr) : MovT H H' S S := ⟨fun c o e _ n => k.keep c o e n, k.tbl, fun _ m => .inl m⟩
section
variable {C G : Addr} {H H' : Hp} {p w g b : Addr} {d : Si71.Day} {n : Nat}
theorem DayAt.off (D : DayAt C G H p w g b d n) {c : Addr} {u : HO} (e : H c = some u) (k : (∃ ps, u = .tbl ps) ∨ ∃ o, u = kno o) : ¬ c ∈ [p, w, g, b] := fun m => by
  obtain ⟨dx, h0⟩ := D.ob
  obtain ⟨ks, h1, _, _⟩ := D.wy
  obtain ⟨ts, h2, _, _⟩ := D.gm
  have h3 := D.br
  simp at m
  rcases k with ⟨ps, rfl⟩ | ⟨o, rfl⟩
  · rcases m with m | m | m | m
    · exact ne_of e h0 (by intro z; cases z) m
    · exact ne_of e h1 (by intro z; cases z) m
    · exact ne_of e h2 (by intro z; cases z) m
    · exact ne_of e h3 (by intro z; cases z) m
  · rcases m with m | m | m | m
    · exact ne_of e h0 (by intro z; cases z) m
    · exact ne_of e h1 (by intro z; cases z) m
    · exact ne_of e h2 (by intro z; cases z) m
    · exact ne_of e h3 (by intro z; cases z) m
theorem Moves.movT (D : DayAt C G H p w g b d n) {S' : List Addr} (m : Moves H H' [p, w, g, b] S') : MovT H H' [p, w, g, b] S' := ⟨fun c o e n _ => m.keep c o e n, fun c ps e => ⟨ps, m.keep c _ e (D.off e (.inl ⟨_, rfl⟩))⟩, m.new⟩
theorem Moves.tabs {t : TabA} (D : DayAt C G H p w g b d n) {S' : List Addr} (m : Moves H H' [p, w, g, b] S') (x : Tabs t H) : Tabs t H' := x.of_keep fun q c u e k => m.keep c u e (D.off e (k.imp id fun ⟨o, z, _⟩ => ⟨o, z⟩))
end
theorem _root_.L2.KeepT.seq {K : PySem.W.Frag} {H H' : Hp} {a : Addr} {xs : List V} (e : KeepT H H') (h : SqL K H a xs) : SqL K H' a xs := by
  rcases h with (h | ⟨o, h⟩) | h
  · exact .inl (.inl (e.keep _ _ h (by intro ps z; cases z)))
  · exact .inl (.inr ⟨o, e.keep _ _ h (by intro ps z; cases z)⟩)
  · exact .inr h
section
variable {P : Program} {w : World} {K : PySem.W.Frag} {mg : Str → Option Value} {base : Heap}
/-- what is wanted behind answer: a new list with what is due, the day has gone on -/
def Due (C G : Addr) (t : TabA) (H : Hp) (p wa g b : Addr) (d : Si71.Day) (n : Nat) (c : Si71.Call) (Q : VK) : Prop :=
  ∀ (w' g' b' r : Addr) (H' : Hp), DayAt C G H' p w' g' b' (Si71.step d c).1 (n + 1) → MovT H H' [p, wa, g, b] [p, w', g', b'] → Tabs t H' → (∀ c o, H c = some o → ¬ c ∈ [p, wa, g, b] → c ≠ r) → H' r = some (.lst ((ansOf (Si71.step d c).2).map V.int)) → Q (.ref r) H'
def spAnswer (C G : Addr) (t : TabA) : Sp := fun vs H Q _ => ∃ (p wa g b a : Addr) (d : Si71.Day) (n : Nat) (z : Int) (ns : List Int) (c : Si71.Call), vs = [.ref p, .int z, .ref a] ∧ H a = some (.lst (ns.map V.int)) ∧ Fine (z :: ns) ∧ Si71Neutral.callOf (z :: ns) = some c ∧
  n ≤ 100 ∧ DayAt C G H p wa g b d n ∧ Tabs t H ∧ Due C G t H p wa g b d n c Q
def spAnswers (K : PySem.W.Frag) (t : TabA) : Sp := fun vs H Q _ => ∃ (a : Addr) (l : List Int), vs = [.ref a] ∧ SqL K H a (l.map V.int) ∧ PySi71.answers_asked l = true ∧ Tabs t H ∧ ∀ (H' : Hp) (r : Addr), Tabs t H' → H' r = some (.lst ((PySi71.answers l).map V.int)) → Q (.ref r) H'
theorem scS : FnScope ["calls", "day", "told", "at", "behind", "answered"] ["calls"] (defScope sAnswers) := ⟨rfl, rfl, rfl, by decide +kernel, rfl, by decide +kernel, by decide +kernel⟩
theorem drop_at {l r : List Int} {k : Nat} {x : Int} (h : l.drop k = x :: r) : l[k]? = some x ∧ l.drop (k + 1) = r := by
  have e : l[k]? = (l.drop k)[0]? := by rw [List.getElem?_drop]; rfl
  refine ⟨by rw [e, h]; rfl, ?_⟩
  have e2 : l.drop (k + 1) = (l.drop k).drop 1 := by rw [List.drop_drop]
  rw [e2, h]
  rfl
theorem at_int {l : List Int} {k : Nat} {x : Int} (h : l[k]? = some x) : atI (l.map V.int) (k : Int) = some (.int x) := atI_nat (by rw [List.getElem?_map, h]; rfl)
theorem cut_at {l a r : List Int} {k : Nat} (h : l.drop k = a ++ r) (hk : k ≤ l.length) : cutV (l.map V.int) (some (k : Int)) (some ((k + a.length : Nat) : Int)) = a.map V.int := by
  have hl : l.length = k + (a.length + r.length) := by
    have := congrArg List.length h
    rw [List.length_drop, List.length_append] at this
    omega
  unfold cutV
  rw [HT.sIx_nat, HT.sIx_nat, List.length_map, Nat.min_eq_left hk, Nat.min_eq_left (show k + a.length ≤ l.length by omega), ← List.map_drop, h, ← List.map_take]
  congr 1
  rw [show k + a.length - k = a.length by omega]
  simp
/-- between two turns of the loop -/
structure Turn (C G : Addr) (t : TabA) (H0 H : Hp) (a p q : Addr) (l : List Int) (k : Nat) (rest : List (List Int)) : Prop where
  ex : ∃ (wa g b : Addr) (d : Si71.Day) (n : Nat) (told : List Int), DayAt C G H p wa g b d n ∧ n + rest.length ≤ 60 ∧ H q = some (.lst (told.map V.int)) ∧ q ≠ g ∧ told ++ play d rest = PySi71.answers l ∧ ∀ c, c ∈ [p, wa, g, b] → H0 c = none
  at_ : l.drop k = line rest
  fine : ∀ x, x ∈ rest → Fine x
  same : KeepT H0 H
  tabs : Tabs t H
  fq : H0 q = none
theorem line_cons (z : Int) (ns : List Int) (r : List (List Int)) : line ((z :: ns) :: r) = z :: (ns.length : Int) :: (ns ++ 0 :: line r) := by
  show (z :: (ns.length : Int) :: (ns ++ [0])) ++ line r = _
  simp
theorem ok_answers {f C G fI fA : Addr} {fd fdI fdA : FuncData} {ka : Nat} {t : TabA} (F : Fun K "answers" "answers" sAnswers f fd) (T : Txt K mg C G) (M : Mk K C fI) (FI : Fun K "__init__" "Day.__init__" sInit fI fdI) (bI : Binds K fdI ["self"] [])
    (h2 : 2 ≤ ka) (GA : FnOk P w K mg base CX0 ka fA fdA ["day", "call", "numbers"] (spAnswer C G t)) (mA : mg "answer" = some (.ref fA)) (kA : PySem.W.keepIn K (.ref fA) = true) (bA : Binds K fdA ["day", "call", "numbers"] []) :
    FnOk P w K mg base CX0 (ka + 1) f fd ["calls"] (spAnswers K t) := by
  have GI : FnOk P w K mg base CX0 1 fI fdI ["self"] (spInit C G) := ok_init FI T
  refine F.ok scS (fun vs H Q E h => ?_) (fun cdv A outer s H vs Q E hr h => ?_)
  · obtain ⟨a, l, rfl, _⟩ := h
    rfl
  · obtain ⟨a, l, rfl, hS, hask, tb, k⟩ := h
    have hr2 : Room (1 + 1) _ := hr.mono h2
    refine ⟨_, pss_cons (ps_set (i := 1) scS.nd rfl (Or.inl rfl) (pe_make0 M GI hr2 rfl T.mgC bI .nil pass0))
      (pss_cons (ps_set (i := 2) scS.nd rfl (Or.inl rfl) (pe_lst pa_nil))
      (pss_cons (ps_set (i := 3) scS.nd rfl (Or.inl rfl) pe_int)
      (pss_cons (ps_while PassesOwn.never (pt_cmpR op_lt (pv 3) (pe_callB call_len_seq (by rfl) T.len PySem.boot_len (pa_cons (pv 0) pa_nil)) (nomark _))
        (pss_cons (ps_set (i := 4) scS.nd rfl (Or.inl rfl) (pe_op op_add (pe_op op_add (pv 3) pe_int) (pe_ix ix_list (pv 0) (pe_op op_add (pv 3) pe_int) (fun _ _ => rfl))))
        (pss_cons (ps_set (i := 5) scS.nd rfl (Or.inl rfl) (pe_call GA hr rfl mA kA bA .nil pass0 (pa_cons (pv 1) (pa_cons (pe_ix ix_list (pv 0) (pv 3) (fun _ _ => rfl)) (pa_cons (pe_slice sl_list (pv 0) (po_some (pe_op op_add (pv 3) pe_int)) (po_some (pv 4))) pa_nil)))))
        (pss_cons (ps_expr (pe_bm PySem.F.plainAttrs_list PySem.F.slot_list_append PySem.F.type_list_append mt_append (pv 2) (pa_cons (pe_callB call_len_seq (by rfl) T.len PySem.boot_len (pa_cons (pv 5) pa_nil)) pa_nil)))
        (pss_cons (ps_expr (pe_bm PySem.F.plainAttrs_list PySem.F.slot_list_extend PySem.F.type_list_extend mt_extend (pv 2) (pa_cons (pv 5) pa_nil)))
        (pss_one (ps_set (i := 3) scS.nd rfl (Or.inl rfl) (pe_op op_add (pv 4) pe_int))))))))
      (pss_one (ps_ret (pv 2)))))), ?_⟩
    obtain ⟨rs, el, hrs, hfine, eans, hlen⟩ := asked_line hask
    intro x dx nx ndx nex
    refine ⟨x, dx, rfl, upd_same, fun wa g b H1 fw fg fb D1 k1 => ⟨rfl, ?_⟩⟩
    have s1 : Same H H1 := Same.made nx ndx k1
    have fr : ∀ {c : Addr}, (upd (upd H dx (.own x)) x (.ins C dx [])) c = none → H c = none := fun {c} e => by
      have n1 : c ≠ x := (ne_of_none upd_same e).symm
      rw [upd_ne n1] at e
      have n2 : c ≠ dx := (ne_of_none upd_same e).symm
      rw [upd_ne n2] at e
      exact e
    refine ⟨Nat.zero_le _, fun q hq => ?_⟩
    have s2 : Same H1 (upd H1 q (.lst [])) := Same.upd hq
    obtain ⟨ts, hg1, _, _⟩ := D1.gm
    refine ⟨fun m σ H' => ∃ (kk : Nat) (v4 v5 : Option V) (rest : List (List Int)), m = rest.length ∧ σ = [some (.ref a), some (.ref x), some (.ref q), some (.int (kk : Nat)), v4, v5] ∧ Turn C G t H H' a x q l kk rest,
      ⟨_, 0, none, none, rs, rfl, rfl, ⟨⟨wa, g, b, Si71.init, 0, [], D1.same s2, by omega, upd_same, (ne_of_none hg1 hq).symm, eans.symm, fun c hc => ?_⟩, el, hfine, (s1.trans s2).keepT, tb.same (s1.trans s2), s1.free hq⟩⟩, ?_⟩
    · simp at hc
      rcases hc with rfl | rfl | rfl | rfl
      · exact nx
      · exact fr fw
      · exact fr fg
      · exact fr fb
    · rintro m σ H2 ⟨kk, v4, v5, rest, rfl, rfl, tn⟩
      refine ⟨_, rfl, _, rfl, a, _, rfl, .inl (tn.same.seq hS), _, _, rfl, rfl, _, rfl, ?_⟩
      rw [List.length_map]
      obtain ⟨wa, g, b, d, n, told, D, hn, hq2, nqg, et, hfr⟩ := tn.ex
      cases rest with
      | nil =>
        have hk : l.length ≤ kk := List.drop_eq_nil_iff.mp tn.at_
        rw [decide_eq_false (show ¬ (kk : Int) < (l.length : Int) by omega)]
        refine iteF ⟨_, rfl, ?_⟩
        refine k H2 q tn.tabs ?_
        rw [hq2, ← et]
        show some (HO.lst (told.map V.int)) = some (HO.lst ((told ++ []).map V.int))
        rw [List.append_nil]
      | cons c0 r =>
        obtain ⟨z, ns, rfl⟩ := (tn.fine c0 (List.mem_cons_self ..)).cons
        have hf := tn.fine (z :: ns) (List.mem_cons_self ..)
        obtain ⟨c, hc⟩ := hf.is
        have e0 : l.drop kk = z :: (ns.length : Int) :: (ns ++ 0 :: line r) := tn.at_.trans (line_cons z ns r)
        obtain ⟨a0, e1⟩ := drop_at e0
        obtain ⟨a1, e2⟩ := drop_at e1
        have hkk : kk + 1 < l.length := (List.getElem?_eq_some_iff.mp a1).1
        have e3 : l.drop (kk + 1 + 1 + ns.length) = 0 :: line r := by
          rw [← List.drop_drop, e2]
          simp
        obtain ⟨a2, e4⟩ := drop_at e3
        rw [decide_eq_true (show (kk : Int) < (l.length : Int) by omega)]
        refine iteT ⟨fun σ' H' => ∃ (k' : Nat) (v4 v5 : Option V), σ' = [some (.ref a), some (.ref x), some (.ref q), some (.int (k' : Nat)), v4, v5] ∧ Turn C G t H H' a x q l k' r, ?_, ?_⟩
        · rintro σ' H' ⟨k', v4', v5', rfl, t'⟩
          exact ⟨r.length, Nat.lt_succ_self _, k', v4', v5', r, rfl, rfl, t'⟩
        have hS2 := tn.same.seq hS
        -- behind = at + 2 + calls[at + 1]
        refine ⟨_, rfl, _, _, rfl, rfl, _, rfl, _, rfl, _, _, rfl, rfl, a, _, _, _, rfl, rfl, hS2, at_of (j := kk + 1) (v := V.int (ns.length : Int)) (by omega) (by rw [List.getElem?_map, a1]; rfl), _, _, rfl, rfl, ?_⟩
        -- answered = answer(day, calls[at], calls[at + 2:behind])
        refine ⟨_, rfl, _, rfl, _, rfl, a, _, _, _, rfl, rfl, hS2, at_int a0, _, rfl, _, rfl, _, _, rfl, rfl, _, rfl, _, rfl, _, rfl, a, _, rfl, hS2, fun sl hsl => ?_⟩
        have cut : cutV (l.map V.int) (some ((kk : Int) + 2)) (some ((kk : Int) + 2 + (ns.length : Int))) = ns.map V.int := by
          have := cut_at (l := l) (a := ns) (r := 0 :: line r) (k := kk + 1 + 1) e2 (by omega)
          rw [← this]
          congr 2
        dsimp only
        rw [cut]
        have s3 : Same H2 (upd H2 sl (.lst (ns.map V.int))) := Same.upd hsl
        refine ⟨x, wa, g, b, sl, d, n, z, ns, c, rfl, upd_same, hf, hc, by omega, D.same s3, tn.tabs.same s3, fun w' g' b' rr H4 D4 mv T4 frr hrr => ?_⟩
        have hsame4 : KeepT H H4 := by
          refine ⟨fun c o e nt => mv.keep c o (s3 _ _ (tn.same.keep _ _ e nt)) (fun m => ?_) nt, fun c ps e => ?_⟩
          · rw [hfr c m] at e
            cases e
          · obtain ⟨ps1, e1⟩ := tn.same.tbl c ps e
            exact mv.tbl c ps1 (s3 _ _ e1)
        obtain ⟨dx2, hx2⟩ := D.ob
        obtain ⟨ks2, hw2, _, _⟩ := D.wy
        have nqS : ¬ q ∈ [x, wa, g, b] := fun m => by
          simp at m
          rcases m with m | m | m | m
          · exact ne_of hq2 hx2 (by intro z; cases z) m
          · exact ne_of hq2 hw2 (by intro z; cases z) m
          · exact nqg m
          · exact ne_of hq2 D.br (by intro z; cases z) m
        have hq4 : H4 q = some (.lst (told.map V.int)) := mv.keep _ _ (s3 _ _ hq2) nqS (by intro ps z; cases z)
        have nqr : rr ≠ q := (frr q _ (s3 _ _ hq2) nqS).symm
        have nqg' : q ≠ g' := fun e => by
          have m := mv.new g' (by simp)
          rw [← e] at m
          rcases m with m | m
          · exact nqS m
          · rw [s3 _ _ hq2] at m
            cases m
        have etl : (told ++ ((ansOf (Si71.step d c).2).length : Int) :: (ansOf (Si71.step d c).2 ++ play (Si71.step d c).1 r)) = PySi71.answers l := by rw [← et, play_cons hc]
        have hlen2 : told.length + 1 + (ansOf (Si71.step d c).2).length ≤ 1000059 := by
          have := congrArg List.length etl
          rw [eans] at this
          rw [List.length_append, List.length_cons, List.length_append] at this
          omega
        -- told.append(len(answered)); told.extend(answered)
        refine ⟨_, rfl, .inl ⟨rfl, _, SqL.of hq4⟩, _, rfl, rr, _, rfl, .inl (SqL.of hrr), q, _, _, rfl, rfl, hq4, (by rw [List.length_map, sizeLine_eq]; omega), ?_⟩
        rw [List.length_map]
        refine ⟨_, rfl, .inl ⟨rfl, _, SqL.of upd_same⟩, _, rfl, q, rr, _, _, rfl, rfl, upd_same, (by rw [upd_ne nqr]; exact hrr), (by rw [List.length_append, List.length_map, List.length_map, List.length_singleton, sizeLine_eq]; omega), ?_⟩
        rw [upd_upd]
        -- at = behind + 1
        refine ⟨_, rfl, _, _, rfl, rfl, kk + 1 + 1 + ns.length + 1, some (.int ((kk : Int) + 2 + (ns.length : Int))), some (.ref rr), ?_, ⟨⟨w', g', b', _, n + 1, told ++ ((ansOf (Si71.step d c).2).length : Int) :: ansOf (Si71.step d c).2, D4.upd hq4 nqg', by rw [List.length_cons] at hn; omega, ?_, nqg', ?_, fun c0 m => ?_⟩, e4, fun x hx => tn.fine x (List.mem_cons_of_mem _ hx), ⟨fun c0 o e nt => ?_, fun c0 ps e => ?_⟩, T4.lst hq4, tn.fq⟩⟩
        · have ez : (kk : Int) + 2 + (ns.length : Int) + 1 = ((kk + 1 + 1 + ns.length + 1 : Nat) : Int) := by omega
          rw [← ez]
          rfl
        · rw [upd_same, List.map_append, List.map_cons, List.append_assoc]
          rfl
        · rw [List.append_assoc]
          exact etl
        · rcases mv.new c0 m with z | z
          · exact hfr c0 z
          · exact (tn.same.trans s3.keepT).free z
        · have nq : c0 ≠ q := fun z => by
            rw [z, tn.fq] at e
            cases e
          rw [upd_ne nq]
          exact hsame4.keep _ _ e nt
        · have nq : c0 ≠ q := fun z => by
            rw [z, tn.fq] at e
            cases e
          rw [upd_ne nq]
          exact hsame4.tbl _ _ e
end
end Rp
end
section
set_option Elab.async false
set_option linter.all false
set_option maxRecDepth 100000
set_option maxHeartbeats 2000000
namespace Rp
open PySem PySem.Spec PyProof.Rows L2
section
variable {P : Program} {w : World} {K : PySem.W.Frag} {mg : Str → Option Value} {base : Heap}
theorem scAn : FnScope ["day", "call", "numbers"] ["day", "call", "numbers"] (defScope sAnswer) := ⟨rfl, rfl, rfl, by decide +kernel, rfl, by decide +kernel, by decide +kernel⟩
/-- a new list behind a call -/
theorem one_new {C G : Addr} {t : TabA} {H : Hp} {p wa g b : Addr} {d : Si71.Day} {n : Nat} {c : Si71.Call} {Q : VK} {z : Int} (D0 : DayAt C G H p wa g b d n) (tb : Tabs t H) (k : Due C G t H p wa g b d n c Q)
    (e : (Si71.step d c).2 = Si71.ok z) : ∀ (w' g' b' : Addr) (H' : Hp), DayAt C G H' p w' g' b' (Si71.step d c).1 (n + 1) → Moves H H' [p, wa, g, b] [p, w', g', b'] → ∀ r, H' r = none → Q (.ref r) (upd H' r (.lst [.int (Si71.step d c).2.v])) := by
  intro w' g' b' H' D mv r hr
  have mv2 := mv.trans (Moves.same (Same.upd (o := .lst [.int (Si71.step d c).2.v]) hr) [p, w', g', b'])
  refine k w' g' b' r _ (D.same (Same.upd hr)) (mv2.movT D0) (mv2.tabs D0 tb) (fun c o h1 h2 => ne_of_none (mv.keep c o h1 h2) hr) ?_
  rw [upd_same, e]
  rfl
/-- a call that leaves the day as it is -/
theorem due_read {C G : Addr} {t : TabA} {H : Hp} {p wa g b : Addr} {d : Si71.Day} {n : Nat} {c : Si71.Call} {Q : VK} {xs : List V} (D0 : DayAt C G H p wa g b d n) (k : Due C G t H p wa g b d n c Q)
    (e1 : (Si71.step d c).1 = d) (e2 : xs = (ansOf (Si71.step d c).2).map V.int) : OutT t H Q xs := by
  intro Dn H' K1 T1 hD h1
  refine k wa g b Dn H' (by rw [e1]; exact (D0.keepT K1).mono (Nat.le_succ n)) (K1.movT _) T1 (fun c o h _ => ne_of_none h hD) (by rw [h1, e2])
theorem step_check1 (d : Si71.Day) (l : List Nat) : (Si71.step d (.check l)).1 = d := by
  rw [step_check]
  split
  · rfl
  · rfl
theorem step_ok_begins (d : Si71.Day) (n m : Nat) : ∃ z, (Si71.step d (.begins n m)).2 = Si71.ok z := by
  rw [step_begins]
  split
  · exact ⟨_, rfl⟩
  · exact ⟨_, rfl⟩
theorem step_ok_way (d : Si71.Day) (h k t : Nat) : ∃ z, (Si71.step d (.way h k t)).2 = Si71.ok z := by
  rw [step_way]
  split
  · exact ⟨_, rfl⟩
  · split
    · exact ⟨_, rfl⟩
    · split
      · exact ⟨_, rfl⟩
      · exact ⟨_, rfl⟩
theorem step_ok_game (d : Si71.Day) (g : Si71.Game) : ∃ z, (Si71.step d (.game g)).2 = Si71.ok z := by
  rw [step_game]
  split
  · exact ⟨_, rfl⟩
  · split
    · exact ⟨_, rfl⟩
    · split
      · exact ⟨_, rfl⟩
      · exact ⟨_, rfl⟩
theorem step_ok_bar (d : Si71.Day) (r t : Nat) : ∃ z, (Si71.step d (.bar r t)).2 = Si71.ok z := by
  rw [step_bar]
  split
  · exact ⟨_, rfl⟩
  · split
    · exact ⟨_, rfl⟩
    · split
      · exact ⟨_, rfl⟩
      · exact ⟨_, rfl⟩
theorem eqT {x y : Int} {A B : Prop} (e : x = y) (h : A) : if decide (V.int x = V.int y) = true then A else B := by
  subst e
  rw [decide_eq_true rfl]
  exact iteT h
theorem eqF {x y : Int} {A B : Prop} (e : ¬ x = y) (h : B) : if decide (V.int x = V.int y) = true then A else B := by
  rw [decide_eq_false (fun q => e (V.int.inj q))]
  exact iteF h
theorem ok_answer {f C G fB fW fG fR fC fS fF fA : Addr} {fd fdB fdW fdG fdR fdC fdS fdF fdA : FuncData} {t : TabA} (F : Fun K "answer" "answer" sAnswer f fd) (T : Txt K mg C G)
    (GB : FnOk P w K mg base CX0 1 fB fdB ["self", "referees", "halls"] (spBegins C G)) (bB : Binds K fdB ["self", "referees", "halls"] []) (mB : Meth K C "begins" fB)
    (GW : FnOk P w K mg base CX0 1 fW fdW ["self", "hall", "other", "minutes"] (spWay C G)) (bW : Binds K fdW ["self", "hall", "other", "minutes"] []) (mW : Meth K C "way" fW)
    (GG : FnOk P w K mg base CX0 3 fG fdG ["self", "hall", "begin", "end", "one", "other"] (spGame C G)) (bG : Binds K fdG ["self", "hall", "begin", "end", "one", "other"] []) (mG : Meth K C "game" fG)
    (GR : FnOk P w K mg base CX0 1 fR fdR ["self", "referee", "team"] (spBar C G)) (bR : Binds K fdR ["self", "referee", "team"] []) (mR : Meth K C "bar" fR)
    (GC : FnOk P w K mg base CX0 5 fC fdC ["self", "plan"] (spCheck C G t)) (bC : Binds K fdC ["self", "plan"] []) (mC : Meth K C "check" fC)
    (GS : FnOk P w K mg base CX0 8 fS fdS ["self"] (spBest C G t false fun _ _ => 0)) (bS : Binds K fdS ["self"] []) (mS : Meth K C "best" fS)
    (GF : FnOk P w K mg base CX0 8 fF fdF ["self"] (spBest C G t true fun d => d.used)) (bF : Binds K fdF ["self"] []) (mF : Meth K C "fewest" fF)
    (GA : FnOk P w K mg base CX0 8 fA fdA ["self"] (spBest C G t true fun d => d.most)) (bA : Binds K fdA ["self"] []) (mA : Meth K C "fair" fA) : FnOk P w K mg base CX0 9 f fd ["day", "call", "numbers"] (spAnswer C G t) := by
  refine F.ok scAn (fun vs H Q E h => ?_) (fun cdv A outer s H vs Q E hr h => ?_)
  · obtain ⟨p, wa, g, b, a, d, n, z, ns, c, rfl, _⟩ := h
    rfl
  · obtain ⟨p, wa, g, b, a, d, n, z, ns, c, rfl, hL, hf, hc, hn, D, tb, k⟩ := h
    have hS : SqL K H a (ns.map V.int) := SqL.of hL
    have hr1 := hr.mono (show 1 ≤ 8 by decide)
    have hr3 := hr.mono (show 3 ≤ 8 by decide)
    have hr5 := hr.mono (show 5 ≤ 8 by decide)
    refine ⟨_, pss_cons (ps_if (pt_cmpR op_eq (pv 1) (pe_gint T.cBE) (nomark _)) (pss_one (ps_ret (pe_lst (pa_cons (pe_meth (pv 0) T.cl mB GB hr1 bB .nil pass0 (pa_cons (pe_ix ix_list (pv 2) pe_int (fun _ _ => rfl)) (pa_cons (pe_ix ix_list (pv 2) pe_int (fun _ _ => rfl)) pa_nil))) pa_nil)))) pss_nil)
      (pss_cons (ps_if (pt_cmpR op_eq (pv 1) (pe_gint T.cWA) (nomark _)) (pss_one (ps_ret (pe_lst (pa_cons (pe_meth (pv 0) T.cl mW GW hr1 bW .nil pass0 (pa_cons (pe_ix ix_list (pv 2) pe_int (fun _ _ => rfl)) (pa_cons (pe_ix ix_list (pv 2) pe_int (fun _ _ => rfl)) (pa_cons (pe_ix ix_list (pv 2) pe_int (fun _ _ => rfl)) pa_nil)))) pa_nil)))) pss_nil)
      (pss_cons (ps_if (pt_cmpR op_eq (pv 1) (pe_gint T.cGA) (nomark _)) (pss_one (ps_ret (pe_lst (pa_cons (pe_meth (pv 0) T.cl mG GG hr3 bG .nil pass0 (pa_cons (pe_ix ix_list (pv 2) pe_int (fun _ _ => rfl)) (pa_cons (pe_ix ix_list (pv 2) pe_int (fun _ _ => rfl)) (pa_cons (pe_ix ix_list (pv 2) pe_int (fun _ _ => rfl)) (pa_cons (pe_ix ix_list (pv 2) pe_int (fun _ _ => rfl)) (pa_cons (pe_ix ix_list (pv 2) pe_int (fun _ _ => rfl)) pa_nil)))))) pa_nil)))) pss_nil)
      (pss_cons (ps_if (pt_cmpR op_eq (pv 1) (pe_gint T.cBA) (nomark _)) (pss_one (ps_ret (pe_lst (pa_cons (pe_meth (pv 0) T.cl mR GR hr1 bR .nil pass0 (pa_cons (pe_ix ix_list (pv 2) pe_int (fun _ _ => rfl)) (pa_cons (pe_ix ix_list (pv 2) pe_int (fun _ _ => rfl)) pa_nil))) pa_nil)))) pss_nil)
      (pss_cons (ps_if (pt_cmpR op_eq (pv 1) (pe_gint T.cCH) (nomark _)) (pss_one (ps_ret (pe_meth (pv 0) T.cl mC GC hr5 bC .nil pass0 (pa_cons (pv 2) pa_nil)))) pss_nil)
      (pss_cons (ps_if (pt_cmpR op_eq (pv 1) (pe_gint T.cBS) (nomark _)) (pss_one (ps_ret (pe_meth0 (pv 0) T.cl mS GS hr bS .nil pass0))) pss_nil)
      (pss_cons (ps_if (pt_cmpR op_eq (pv 1) (pe_gint T.cFW) (nomark _)) (pss_one (ps_ret (pe_meth0 (pv 0) T.cl mF GF hr bF .nil pass0))) pss_nil)
      (pss_cons (ps_if (pt_cmpR op_eq (pv 1) (pe_gint T.cFA) (nomark _)) (pss_one (ps_ret (pe_meth0 (pv 0) T.cl mA GA hr bA .nil pass0))) pss_nil)
      (pss_one ps_never)))))))), ?_⟩
    obtain ⟨dx, h0⟩ := D.ob
    have df_m : ∀ {m : Str}, ¬ m = "referees" → ¬ m = "halls" → ¬ m = "ways" → ¬ m = "games" → ¬ m = "bars" → (df (d.refs : Nat) (d.halls : Nat) wa g b).lookup m = none := fun h1 h2 h3 h4 h5 => df_no _ _ _ _ _ h1 h2 h3 h4 h5
    cases call_is hf hc with
    | begins x y =>
      obtain ⟨v, ev⟩ := step_ok_begins d x y
      refine ⟨_, rfl, rfl, _, rfl, eqT rfl ?_⟩
      refine ⟨_, rfl, p, dx, _, rfl, h0, df_m (by decide +kernel) (by decide +kernel) (by decide +kernel) (by decide +kernel) (by decide +kernel), _, rfl, a, _, _, _, rfl, rfl, hS, at_of (j := 0) rfl rfl, _, rfl, a, _, _, _, rfl, rfl, hS, at_of (j := 1) rfl rfl, p, wa, g, b, d, n, x, y, rfl, D, ?_⟩
      exact fun w' g' b' H' D' mv => ⟨(by show 1 ≤ sizeLine; decide), one_new D tb k ev w' g' b' H' D' mv⟩
    | way x y t =>
      obtain ⟨v, ev⟩ := step_ok_way d x y t
      refine ⟨_, rfl, rfl, _, rfl, eqF (by decide) ⟨_, rfl, rfl, _, rfl, eqT rfl ?_⟩⟩
      refine ⟨_, rfl, p, dx, _, rfl, h0, df_m (by decide +kernel) (by decide +kernel) (by decide +kernel) (by decide +kernel) (by decide +kernel), _, rfl, a, _, _, _, rfl, rfl, hS, at_of (j := 0) rfl rfl, _, rfl, a, _, _, _, rfl, rfl, hS, at_of (j := 1) rfl rfl, _, rfl, a, _, _, _, rfl, rfl, hS, at_of (j := 2) rfl rfl, p, wa, g, b, d, n, x, y, t, rfl, hn, D, ?_⟩
      exact fun w' g' b' H' D' mv => ⟨(by show 1 ≤ sizeLine; decide), one_new D tb k ev w' g' b' H' D' mv⟩
    | game u =>
      obtain ⟨v, ev⟩ := step_ok_game d u
      refine ⟨_, rfl, rfl, _, rfl, eqF (by decide) ⟨_, rfl, rfl, _, rfl, eqF (by decide) ⟨_, rfl, rfl, _, rfl, eqT rfl ?_⟩⟩⟩
      refine ⟨_, rfl, p, dx, _, rfl, h0, df_m (by decide +kernel) (by decide +kernel) (by decide +kernel) (by decide +kernel) (by decide +kernel), _, rfl, a, _, _, _, rfl, rfl, hS, at_of (j := 0) rfl rfl, _, rfl, a, _, _, _, rfl, rfl, hS, at_of (j := 1) rfl rfl, _, rfl, a, _, _, _, rfl, rfl, hS, at_of (j := 2) rfl rfl, _, rfl, a, _, _, _, rfl, rfl, hS, at_of (j := 3) rfl rfl, _, rfl, a, _, _, _, rfl, rfl, hS, at_of (j := 4) rfl rfl, p, wa, g, b, d, n, u, rfl, D, ?_⟩
      exact fun w' g' b' H' D' mv => ⟨(by show 1 ≤ sizeLine; decide), one_new D tb k ev w' g' b' H' D' mv⟩
    | bar x y =>
      obtain ⟨v, ev⟩ := step_ok_bar d x y
      refine ⟨_, rfl, rfl, _, rfl, eqF (by decide) ⟨_, rfl, rfl, _, rfl, eqF (by decide) ⟨_, rfl, rfl, _, rfl, eqF (by decide) ⟨_, rfl, rfl, _, rfl, eqT rfl ?_⟩⟩⟩⟩
      refine ⟨_, rfl, p, dx, _, rfl, h0, df_m (by decide +kernel) (by decide +kernel) (by decide +kernel) (by decide +kernel) (by decide +kernel), _, rfl, a, _, _, _, rfl, rfl, hS, at_of (j := 0) rfl rfl, _, rfl, a, _, _, _, rfl, rfl, hS, at_of (j := 1) rfl rfl, p, wa, g, b, d, n, x, y, rfl, hn, D, ?_⟩
      exact fun w' g' b' H' D' mv => ⟨(by show 1 ≤ sizeLine; decide), one_new D tb k ev w' g' b' H' D' mv⟩
    | check l hl =>
      have hL' : H a = some (.lst (pl l)) := by rw [hL, pl_ints]
      exact ⟨_, rfl, rfl, _, rfl, eqF (by decide) ⟨_, rfl, rfl, _, rfl, eqF (by decide) ⟨_, rfl, rfl, _, rfl, eqF (by decide) ⟨_, rfl, rfl, _, rfl, eqF (by decide) ⟨_, rfl, rfl, _, rfl, eqT rfl (⟨_, rfl, p, dx, _, rfl, h0, df_m (by decide +kernel) (by decide +kernel) (by decide +kernel) (by decide +kernel) (by decide +kernel), _, rfl, p, wa, g, b, a, d, n, l, rfl, D, hL', hl, tb, due_read D k (step_check1 d l) rfl⟩)⟩⟩⟩⟩⟩
    | best => exact ⟨_, rfl, rfl, _, rfl, eqF (by decide) ⟨_, rfl, rfl, _, rfl, eqF (by decide) ⟨_, rfl, rfl, _, rfl, eqF (by decide) ⟨_, rfl, rfl, _, rfl, eqF (by decide) ⟨_, rfl, rfl, _, rfl, eqF (by decide) ⟨_, rfl, rfl, _, rfl, eqT rfl (⟨_, rfl, p, dx, _, rfl, h0, df_m (by decide +kernel) (by decide +kernel) (by decide +kernel) (by decide +kernel) (by decide +kernel), p, wa, g, b, d, n, rfl, D, tb, due_read D k rfl rfl⟩)⟩⟩⟩⟩⟩⟩
    | fewest => exact ⟨_, rfl, rfl, _, rfl, eqF (by decide) ⟨_, rfl, rfl, _, rfl, eqF (by decide) ⟨_, rfl, rfl, _, rfl, eqF (by decide) ⟨_, rfl, rfl, _, rfl, eqF (by decide) ⟨_, rfl, rfl, _, rfl, eqF (by decide) ⟨_, rfl, rfl, _, rfl, eqF (by decide) ⟨_, rfl, rfl, _, rfl, eqT rfl (⟨_, rfl, p, dx, _, rfl, h0, df_m (by decide +kernel) (by decide +kernel) (by decide +kernel) (by decide +kernel) (by decide +kernel), p, wa, g, b, d, n, rfl, D, tb, due_read D k rfl rfl⟩)⟩⟩⟩⟩⟩⟩⟩
    | fair => exact ⟨_, rfl, rfl, _, rfl, eqF (by decide) ⟨_, rfl, rfl, _, rfl, eqF (by decide) ⟨_, rfl, rfl, _, rfl, eqF (by decide) ⟨_, rfl, rfl, _, rfl, eqF (by decide) ⟨_, rfl, rfl, _, rfl, eqF (by decide) ⟨_, rfl, rfl, _, rfl, eqF (by decide) ⟨_, rfl, rfl, _, rfl, eqF (by decide) ⟨_, rfl, rfl, _, rfl, eqT rfl (⟨_, rfl, p, dx, _, rfl, h0, df_m (by decide +kernel) (by decide +kernel) (by decide +kernel) (by decide +kernel) (by decide +kernel), p, wa, g, b, d, n, rfl, D, tb, due_read D k rfl rfl⟩)⟩⟩⟩⟩⟩⟩⟩⟩
end
end Rp
end
section
set_option Elab.async false
set_option linter.all false
set_option maxRecDepth 100000
set_option maxHeartbeats 2000000
namespace L2
open PySem PySem.Spec PyProof.Rows
open PySem.W (WData Codec OpenSpec Well WellAll ReadsW ReadsAllW tabObj codeHdIn)
theorem Same.seqT {K : PySem.W.Frag} {H H' : Hp} {a : Addr} {xs : List V} (e : Same H H') (h : SqT K H a xs) : SqT K H' a xs := by
  rcases h with (h | ⟨o, h⟩) | h
  · exact .inl (.inl (e _ _ h))
  · exact .inl (.inr ⟨o, e _ _ h⟩)
  · exact .inr h
mutual
theorem Dw.same {K : PySem.W.Frag} {H H' : Hp} (e : Same H H') : ∀ {v : V} {d : WData}, Dw K H v d → Dw K H' v d
  | _, _, .non => .non
  | _, _, .bl b => .bl b
  | _, _, .int i => .int i
  | _, _, .str x => .str x
  | _, _, .byt b => .byt b
  | _, _, .lst h1 h2 => .lst (e.seq h1) (Dw.sameAll e h2)
  | _, _, .tup h1 h2 => .tup (e.seqT h1) (Dw.sameAll e h2)
theorem Dw.sameAll {K : PySem.W.Frag} {H H' : Hp} (e : Same H H') : ∀ {vs : List V} {ds : List WData}, DwAll K H vs ds → DwAll K H' vs ds
  | _, _, .nil => .nil
  | _, _, .cons h1 h2 => .cons (Dw.same e h1) (Dw.sameAll e h2)
end
/-- the arguments and the empty tables -/
def tabH (ts : List (Addr × Addr)) (H : Hp) : Hp := fun b => if b ∈ ts.map (·.2) then some (.tbl #[]) else H b
theorem tabH_in {ts : List (Addr × Addr)} {H : Hp} {b : Addr} (h : b ∈ ts.map (·.2)) : tabH ts H b = some (.tbl #[]) := if_pos h
theorem tabH_out {ts : List (Addr × Addr)} {H : Hp} {b : Addr} (h : ¬ b ∈ ts.map (·.2)) : tabH ts H b = H b := if_neg h
theorem spec_callT {P : Program} {w : World} {K : PySem.W.Frag} {mg mb : Str → Option Value} {CX : CXT} {k : Nat} {fa : Addr} {fd : FuncData} {ps : List Str} {sp : Sp} {s₁ : Shared} {vals : List Value} {ds : List WData} {R : PySem.W.WRecords} {cl : Str → Option Addr} {d0 : WData} (ts : List (Addr × Addr))
    (hT : ∀ q ∈ ts, codeHdIn K q.1 q.2 = true ∧ K.lookup q.2 = none ∧ s₁.heap.get? q.2 = some (tabObj #[])) (hbm : BMain mg s₁.heap)
    (KX : K.In s₁.heap) (hns : s₁.heap.Ns mainGlobals mg) (hb : s₁.heap.Ns builtinsNs mb) (hbb : ∀ x : Str, x ≠ "__name__" → mb x = bootBuiltins x) (hlim : s₁.heap.NoLimit) (hg : s₁.gens = #[])
    (hwl : WellAll w.params s₁.heap vals ds) (hpl : plWs ds = true) (hwt : ∀ d ∈ ds, d.weight ≤ 1048576) (hr : Room k callerA)
    (F : ∀ base : Heap, K.In base → base.Ns mainGlobals mg → BMain mg base → FnOk P w K mg base CX k fa fd ps sp) (hbind : ∀ (s : Shared) (us : List Value), us.length = ps.length → BindsTo s fd ⟨us, []⟩ (ps.zip us)) (hlen : ds.length = ps.length)
    (hsp : ∀ (H : Hp) (xs : List V), (∀ q ∈ ts, H q.2 = some (.tbl #[])) → DwAll K H xs ds → sp xs H (fun v H' => Dw K H' v d0) fun _ _ _ => False)
    (hCX : ∀ H e s', CX [] H s₁ (fun _ _ _ => False) e s' → False) :
    codeAny (model P w) callerA (.call (.ref fa) ⟨vals, []⟩) (fun r s' => ∃ u as, r = .ok (.ret u) ∧ ReadsW R cl s'.heap u d0 as ∧ OldK s₁.heap s'.heap ∧ s'.os = s₁.os ∧ AllBare s'.gens) s₁ := by
  obtain ⟨A, ho, ar⟩ := area_all ds vals hwl hpl hwt
  have hT' : ∀ {b : Addr}, b ∈ ts.map (·.2) → (∃ c, codeHdIn K c b = true) ∧ K.lookup b = none ∧ s₁.heap.get? b = some (tabObj #[]) := fun {b} m => by
    obtain ⟨q, hq, rfl⟩ := List.mem_map.mp m
    exact ⟨⟨q.1, (hT q hq).1⟩, (hT q hq).2⟩
  have apart : ∀ {b : Addr} {u : HO}, argH K s₁.heap A b = some u → ¬ b ∈ ts.map (·.2) := fun {b u} q m => by
    have e := (hT' m).2.2
    obtain ⟨_, vs, _, _, ⟨e2, _⟩ | ⟨e2, _⟩⟩ := argH_is ar q
    · rw [e2] at e
      cases e
    · rw [e2] at e
      cases e
  have sm : Same (argH K s₁.heap A) (tabH ts (argH K s₁.heap A)) := fun b u q => by rw [tabH_out (apart q)]; exact q
  have hO : ∀ b, tabH ts (argH K s₁.heap A) b = none ∨ (∃ o u, tabH ts (argH K s₁.heap A) b = some (.frz o u)) ∨ b ∈ ts.map (·.2) := fun b => by
    by_cases m : b ∈ ts.map (·.2)
    · exact .inr (.inr m)
    · rw [tabH_out m]
      rcases argH_only (K := K) ar b with z | z
      · exact .inl z
      · exact .inr (.inl z)
  have hTT : ∀ q ∈ ts, tabH ts (argH K s₁.heap A) q.2 = some (.tbl #[]) := fun q hq => tabH_in (List.mem_map_of_mem hq)
  have hok : HOk P w (tabH ts (argH K s₁.heap A)) s₁.heap := fun b u q => by
    by_cases m : b ∈ ts.map (·.2)
    · rw [tabH_in m] at q
      cases q
      exact (hT' m).2.2
    · rw [tabH_out m] at q
      obtain ⟨_, vs, h1, h2, ⟨e, rfl⟩ | ⟨e, rfl⟩⟩ := argH_is ar q
      · exact ⟨e, by rw [List.length_map]; exact h1, vs, _, vals_toV h2, e⟩
      · exact ⟨e, by rw [List.length_map]; exact h1, vs, vals_toV h2, _, e, rfl, _, rfl⟩
  have hS := Dw.sameAll sm (dw_all KX ar ds vals hwl hpl ho)
  have hV := vals_toV ho
  have hK : ∀ b u, tabH ts (argH K s₁.heap A) b = some u → K.lookup b = none := fun b u q => by
    by_cases m : b ∈ ts.map (·.2)
    · exact (hT' m).2.1
    · rw [tabH_out m] at q
      exact (argH_is ar q).1
  have noA : ∀ {b : Addr} {o : Obj}, s₁.heap.get? b = some o → (∀ vs n, o.data ≠ .seq vs n) → (∀ vs, o.data ≠ .fields vs) → tabH ts (argH K s₁.heap A) b = none := fun {b o} e d1 d2 => by
    have m : ¬ b ∈ ts.map (·.2) := fun m => by
      rw [(hT' m).2.2] at e
      cases e
      exact d2 _ rfl
    rw [tabH_out m]
    cases q : argH K s₁.heap A b with
    | none => rfl
    | some u =>
      obtain ⟨_, vs, _, _, ⟨e2, _⟩ | ⟨e2, _⟩⟩ := argH_is ar q
      · rw [e2] at e
        cases e
        exact (d1 _ _ rfl).elim
      · rw [e2] at e
        cases e
        exact (d1 _ _ rfl).elim
  generalize tabH ts (argH K s₁.heap A) = H at hO hok hS hK noA hTT
  have base_of : ∀ {b : Addr} {o : Obj}, s₁.heap.get? b = some o → H b = none → (hidT s₁.heap H).get? b = some o := fun e n => hidT_get e n
  have nsK : ∀ {b : Addr} {m : Str → Option Value}, s₁.heap.Ns b m → (hidT s₁.heap H).Ns b m := fun {b m} ⟨o, es, ep, e, d, r⟩ => ⟨o, es, ep, base_of e (noA e (fun _ _ z => by rw [d] at z; cases z) (fun _ z => by rw [d] at z; cases z)), d, r⟩
  have nK : ∀ b o, K.lookup b = some o → H b = none := fun b o e => by
    cases q : H b with
    | none => rfl
    | some u =>
      rw [hK b u q] at e
      cases e
  have hKb : K.In (hidT s₁.heap H) := fun b o e => base_of (KX b o e) (nK b o e)
  have hbm' : BMain mg (hidT s₁.heap H) := by
    obtain ⟨bm, ob, b1, b2, b3, b4, b5, b6⟩ := hbm
    exact ⟨bm, ob, b1, b2, base_of b3 (noA b3 (fun _ _ z => by rw [b6] at z; cases z) (fun _ z => by rw [b6] at z; cases z)), b4, b5, b6⟩
  have hM : Mod K mg (hidT s₁.heap H) := ⟨hKb, nsK hns, ⟨mb, nsK hb, hbb⟩, let ⟨mc, h1, h2⟩ := hlim; ⟨mc, nsK h1, h2⟩⟩
  have e0 : Env0 P w K mg (hidT s₁.heap H) callerA [] s₁ H := ⟨rfl, hM, fun b o e => of_hidT e, Nat.le_of_eq (hidT_size _ _), trivial, fun b hb => absurd (show b ∈ ([] : List Addr) from hb) (by simp), hok, .of_eq hg⟩
  have hl : vals.length = ps.length := by rw [wellAll_len hwl]; exact hlen
  refine codeAny_mono ((F _ hKb (nsK hns) hbm').run callerA [] s₁ H ⟨vals, []⟩ vals (vals.map toV) _ _ hr e0 (hbind s₁ vals hl) hV (hsp H _ hTT hS)) fun r s' x => ?_
  cases r with
  | error e => exact (hCX H e s' x).elim
  | ok fl =>
    cases fl with
    | next => exact False.elim x
    | brk => exact False.elim x
    | cont => exact False.elim x
    | ret u =>
      obtain ⟨v, H', os, bare, un, hok', r', q⟩ := x
      have kept : ∀ b o, s₁.heap.get? b = some o → ¬ b ∈ ts.map (·.2) → s'.heap.get? b = some o := fun b o e m => by
        cases q2 : H b with
        | none => exact un.keep b o e q2 (by intro z; exact absurd (show b ∈ ([] : List Addr) from z) (by simp)) (by simp)
        | some u2 =>
          rcases hO b with z | ⟨ob, u3, z⟩ | z
          · rw [q2] at z
            cases z
          · have z2 := un.frzs b ob _ z
            obtain ⟨e1, _⟩ := hok b _ z
            obtain ⟨e2, _⟩ := hok' b _ z2
            rw [e] at e1
            cases e1
            exact e2
          · exact (m z).elim
      have grown : ∀ b o, s₁.heap.get? b = some o → b ∈ ts.map (·.2) → isCodeTable s₁.heap b ∧ o = tabObj #[] ∧ ∃ more, s'.heap.get? b = some (tabObj more) := fun b o e m => by
        obtain ⟨⟨c, hc⟩, _, hget⟩ := hT' m
        rw [e] at hget
        cases hget
        obtain ⟨q, hq, rfl⟩ := List.mem_map.mp m
        obtain ⟨more, z⟩ := un.tbls q.2 #[] (hTT q hq)
        have z2 := hok' q.2 _ z
        exact ⟨((PySem.W.codeHd_of_K KX hc).tab e).isCodeTable, rfl, _, z2⟩
      have KX' : K.In s'.heap := fun b o e => kept b o (KX b o e) (fun m => by rw [(hT' m).2.1] at e; cases e)
      obtain ⟨as, hrd⟩ := Dw.reads (R := R) (cl := cl) hok' KX' d0 v u q r'
      refine ⟨u, as, rfl, hrd, ⟨fun b o e => ?_, fun b o e => ?_⟩, os, bare⟩
      · by_cases m : b ∈ ts.map (·.2)
        · obtain ⟨g1, rfl, more, g2⟩ := grown b o e m
          exact .inr (.inl ⟨g1, rfl, #[], more, rfl, by rw [Array.empty_append]; exact g2⟩)
        · exact .inl (kept b o e m)
      · by_cases m : b ∈ ts.map (·.2)
        · obtain ⟨_, _, more, g2⟩ := grown b o e m
          exact ⟨_, g2⟩
        · exact ⟨o, kept b o e m⟩
/-- the goal that the head leaves, where the text makes lambdas -/
theorem walk_specT {r : OpenSpec} {k : Nat} {q : Program} {loose : List Str} {XP : (Str → Option Value) → Heap → Prop} {YP : World → Heap → Prop} {d : DefRec} {K : Params → PySem.W.Frag} {CX : CXT} {ps : List Str} {sp : PySem.W.Frag → Sp} (ts : List (Addr × Addr))
    (hwell : r.wellSaid = true) (hdf : d.params.defaults = []) (hlen : r.args.length = ps.length) (hr : Room k callerA)
    (hY : ∀ (w : World) (h : Heap), YP w h → (K w.params).In h)
    (hT : ∀ (w : World) (h : Heap), YP w h → ∀ q ∈ ts, codeHdIn (K w.params) q.1 q.2 = true ∧ (K w.params).lookup q.2 = none ∧ h.get? q.2 = some (tabObj #[]))
    (F : ∀ (w : World) (mg : Str → Option Value) (fa : Addr) (h : Heap), YP w h → (K w.params).In h → h.Ns mainGlobals mg → mg d.name = some (.ref fa) →
      ∃ fd : FuncData, (∀ (s : Shared) (us : List Value), us.length = ps.length → BindsTo s fd ⟨us, []⟩ (ps.zip us)) ∧
        ∀ base : Heap, (K w.params).In base → base.Ns mainGlobals mg → BMain mg base → FnOk r.prog w (K w.params) mg base CX k fa fd ps (sp (K w.params)))
    (hsp : ∀ (K : PySem.W.Frag) (H : Hp) (xs : List V) (a : Codec.denoteAll r.args), (∀ q ∈ ts, H q.2 = some (.tbl #[])) → Codec.withinAll r.args a = true → Codec.app r.args r.asked a = true → DwAll K H xs (Codec.encAll r.args a) →
      sp K xs H (fun v H' => Dw K H' v (r.ret.enc (Codec.app r.args r.f a))) fun _ _ _ => False)
    (hCX : ∀ (H : Hp) (s : Shared) (e : Value) (s' : Shared), CX [] H s (fun _ _ _ => False) e s' → False) :
    PySem.W.WalkOS q loose XP YP r d [] (fun f vs => PySem.call f vs) := by
  intro w s_0 s₁ mg mb G Y fa o pm cd doc dV kV ho hd hcd hD hmg hg args vals as hpre hlay hrd hwl hlo
  obtain ⟨a, e1, e2⟩ := PySem.W.os_pre_some hpre
  obtain ⟨e3, hwi⟩ := Codec.encAll_of_decAll r.args args a e1
  subst e3
  have KX := hY w _ Y
  obtain ⟨fd, hb, hF⟩ := F w mg fa _ Y KX G.T.g hmg
  refine PySem.W.enter_call (codeAny_mono (spec_callT (R := []) (cl := classAt s_0.heap) (d0 := r.ret.enc (Codec.app r.args r.f a)) ts (hT w _ Y) G.T.bmain KX G.T.g G.T.b G.T.builtins G.T.nolimit hg hwl (pl_encAll _ _) (layable_weight hlay) hr hF hb (by rw [encAll_len]; exact hlen)
    (fun H xs hO hS => hsp (K w.params) H xs a hO hwi e2 hS) fun H e s' => hCX H s₁ e s') fun r' s' hq => ?_)
  obtain ⟨u, as', rfl, h1, h2, h3, h4⟩ := hq
  exact ⟨.inl ⟨u, _, as', rfl, fun _ => rfl, h1, (OpenSpec.post_iff hwell hwi _ _).mpr rfl, fun z => Bool.noConfusion (show false = true from z)⟩, h2, h3, h4⟩
end L2
end
section
set_option Elab.async false
set_option linter.all false
set_option maxRecDepth 100000
set_option maxHeartbeats 2000000
namespace Rp
open PySem PySem.Spec PyProof.Rows L2
theorem site_new {H : Hp} {P : Addr} {pos : Pos} {q : Str} (h : H P = some (.tbl #[])) : Site H P pos q := ⟨#[], h, trivial, .inl rfl⟩
theorem all_mk {P : Program} {w : World} {K : PySem.W.Frag} {h : Heap} {mg : Str → Option Value} (t : TabA) (td : TabD t) {fa C G f_in f_be f_wy f_wb f_ga f_ba f_ck f_hs f_bg f_ib f_cg f_cl f_lb f_wo f_bs f_fw f_fr f_le f_pl f_ol f_cn f_gi f_hm f_mg f_an f_as cd_wo cd_bs cd_fw cd_fr : Addr} (X : K.In h) (G0 : h.Ns mainGlobals mg) (hfa : mg "answers" = some (.ref fa))
    {od_in an_in od_be an_be od_wy an_wy od_wb an_wb od_ga an_ga od_ba an_ba od_ck an_ck od_hs an_hs od_bg an_bg od_ib an_ib od_cg an_cg od_cl an_cl od_lb an_lb od_wo an_wo od_bs an_bs od_fw an_fw od_fr an_fr od_le an_le od_pl an_pl od_ol an_ol od_cn an_cn od_gi an_gi od_hm an_hm od_mg an_mg od_an an_an od_as an_as : Option Addr} {sl_in sl_be sl_wy sl_wb sl_ga sl_ba sl_ck sl_hs sl_bg sl_ib sl_cg sl_cl sl_lb sl_wo sl_bs sl_fw sl_fr sl_le sl_pl sl_ol sl_cn sl_gi sl_hm sl_mg sl_an sl_as : Array (Option Value)} {oc_in kV_in dc_in pm_in ct_in oc_be kV_be dc_be pm_be ct_be oc_wy kV_wy dc_wy pm_wy ct_wy oc_wb kV_wb dc_wb pm_wb ct_wb oc_ga kV_ga dc_ga pm_ga ct_ga oc_ba kV_ba dc_ba pm_ba ct_ba oc_ck kV_ck dc_ck pm_ck ct_ck oc_hs kV_hs dc_hs pm_hs ct_hs oc_bg kV_bg dc_bg pm_bg ct_bg oc_ib kV_ib dc_ib pm_ib ct_ib oc_cg kV_cg dc_cg pm_cg ct_cg oc_cl kV_cl dc_cl pm_cl ct_cl oc_lb kV_lb dc_lb pm_lb ct_lb oc_wo kV_wo dc_wo pm_wo ct_wo oc_bs kV_bs dc_bs pm_bs ct_bs oc_fw kV_fw dc_fw pm_fw ct_fw oc_fr kV_fr dc_fr pm_fr ct_fr oc_le kV_le dc_le pm_le ct_le oc_pl kV_pl dc_pl pm_pl ct_pl oc_ol kV_ol dc_ol pm_ol ct_ol oc_cn kV_cn dc_cn pm_cn ct_cn oc_gi kV_gi dc_gi pm_gi ct_gi oc_hm kV_hm dc_hm pm_hm ct_hm oc_mg kV_mg dc_mg pm_mg ct_mg oc_an kV_an dc_an pm_an ct_an oc_as kV_as dc_as pm_as ct_as cd_in cd_be cd_wy cd_wb cd_ga cd_ba cd_ck cd_hs cd_bg cd_ib cd_cg cd_cl cd_lb cd_le cd_pl cd_ol cd_cn cd_gi cd_hm cd_mg cd_an cd_as : Value} {t0 t1 t2 t3 t4 t5 t6 t7 t8 t9 t10 t11 t12 t13 t14 t15 t16 t17 t18 t19 t20 : Tok}
    (aC : PySem.W.nsIn K mainGlobals "Day" = some (some (.ref C)))
    (aG : PySem.W.nsIn K mainGlobals "Game" = some (some (.ref G)))
    (a_in : PySem.W.findIn K (.ref C) "__init__" = some (some (.ref f_in)))
    (i_in : PySem.W.isFn K (.ref f_in) = true)
    (l_in : K.lookup f_in = some ⟨oc_in, od_in, .func (PySem.W.fnOf "__init__" "Day.__init__" (defArgs sInit) (defBody sInit) (defScope sInit) .none kV_in dc_in pm_in an_in cd_in ct_in), sl_in⟩)
    (c_in : PySem.W.codeIn K cd_in "Day.__init__" = true)
    (k_in : PySem.W.keepIn K (.ref f_in) = true)
    (a_be : PySem.W.findIn K (.ref C) "begins" = some (some (.ref f_be)))
    (i_be : PySem.W.isFn K (.ref f_be) = true)
    (l_be : K.lookup f_be = some ⟨oc_be, od_be, .func (PySem.W.fnOf "begins" "Day.begins" (defArgs sBegins) (defBody sBegins) (defScope sBegins) .none kV_be dc_be pm_be an_be cd_be ct_be), sl_be⟩)
    (c_be : PySem.W.codeIn K cd_be "Day.begins" = true)
    (k_be : PySem.W.keepIn K (.ref f_be) = true)
    (a_wy : PySem.W.findIn K (.ref C) "way" = some (some (.ref f_wy)))
    (i_wy : PySem.W.isFn K (.ref f_wy) = true)
    (l_wy : K.lookup f_wy = some ⟨oc_wy, od_wy, .func (PySem.W.fnOf "way" "Day.way" (defArgs sWay) (defBody sWay) (defScope sWay) .none kV_wy dc_wy pm_wy an_wy cd_wy ct_wy), sl_wy⟩)
    (c_wy : PySem.W.codeIn K cd_wy "Day.way" = true)
    (k_wy : PySem.W.keepIn K (.ref f_wy) = true)
    (a_wb : PySem.W.findIn K (.ref C) "way_between" = some (some (.ref f_wb)))
    (i_wb : PySem.W.isFn K (.ref f_wb) = true)
    (l_wb : K.lookup f_wb = some ⟨oc_wb, od_wb, .func (PySem.W.fnOf "way_between" "Day.way_between" (defArgs sWB) (defBody sWB) (defScope sWB) .none kV_wb dc_wb pm_wb an_wb cd_wb ct_wb), sl_wb⟩)
    (c_wb : PySem.W.codeIn K cd_wb "Day.way_between" = true)
    (k_wb : PySem.W.keepIn K (.ref f_wb) = true)
    (a_ga : PySem.W.findIn K (.ref C) "game" = some (some (.ref f_ga)))
    (i_ga : PySem.W.isFn K (.ref f_ga) = true)
    (l_ga : K.lookup f_ga = some ⟨oc_ga, od_ga, .func (PySem.W.fnOf "game" "Day.game" (defArgs sGame) (defBody sGame) (defScope sGame) .none kV_ga dc_ga pm_ga an_ga cd_ga ct_ga), sl_ga⟩)
    (c_ga : PySem.W.codeIn K cd_ga "Day.game" = true)
    (k_ga : PySem.W.keepIn K (.ref f_ga) = true)
    (a_ba : PySem.W.findIn K (.ref C) "bar" = some (some (.ref f_ba)))
    (i_ba : PySem.W.isFn K (.ref f_ba) = true)
    (l_ba : K.lookup f_ba = some ⟨oc_ba, od_ba, .func (PySem.W.fnOf "bar" "Day.bar" (defArgs sBar) (defBody sBar) (defScope sBar) .none kV_ba dc_ba pm_ba an_ba cd_ba ct_ba), sl_ba⟩)
    (c_ba : PySem.W.codeIn K cd_ba "Day.bar" = true)
    (k_ba : PySem.W.keepIn K (.ref f_ba) = true)
    (a_ck : PySem.W.findIn K (.ref C) "check" = some (some (.ref f_ck)))
    (i_ck : PySem.W.isFn K (.ref f_ck) = true)
    (l_ck : K.lookup f_ck = some ⟨oc_ck, od_ck, .func (PySem.W.fnOf "check" "Day.check" (defArgs sCheck) (defBody sCheck) (defScope sCheck) .none kV_ck dc_ck pm_ck an_ck cd_ck ct_ck), sl_ck⟩)
    (c_ck : PySem.W.codeIn K cd_ck "Day.check" = true)
    (k_ck : PySem.W.keepIn K (.ref f_ck) = true)
    (a_hs : PySem.W.findIn K (.ref C) "has_a_referee_for_each_game" = some (some (.ref f_hs)))
    (i_hs : PySem.W.isFn K (.ref f_hs) = true)
    (l_hs : K.lookup f_hs = some ⟨oc_hs, od_hs, .func (PySem.W.fnOf "has_a_referee_for_each_game" "Day.has_a_referee_for_each_game" (defArgs sHas) (defBody sHas) (defScope sHas) .none kV_hs dc_hs pm_hs an_hs cd_hs ct_hs), sl_hs⟩)
    (c_hs : PySem.W.codeIn K cd_hs "Day.has_a_referee_for_each_game" = true)
    (k_hs : PySem.W.keepIn K (.ref f_hs) = true)
    (a_bg : PySem.W.findIn K (.ref C) "barred_games" = some (some (.ref f_bg)))
    (i_bg : PySem.W.isFn K (.ref f_bg) = true)
    (l_bg : K.lookup f_bg = some ⟨oc_bg, od_bg, .func (PySem.W.fnOf "barred_games" "Day.barred_games" (defArgs sBG) (defBody sBG) (defScope sBG) .none kV_bg dc_bg pm_bg an_bg cd_bg ct_bg), sl_bg⟩)
    (c_bg : PySem.W.codeIn K cd_bg "Day.barred_games" = true)
    (k_bg : PySem.W.keepIn K (.ref f_bg) = true)
    (a_ib : PySem.W.findIn K (.ref C) "is_barred" = some (some (.ref f_ib)))
    (i_ib : PySem.W.isFn K (.ref f_ib) = true)
    (l_ib : K.lookup f_ib = some ⟨oc_ib, od_ib, .func (PySem.W.fnOf "is_barred" "Day.is_barred" (defArgs sIB) (defBody sIB) (defScope sIB) .none kV_ib dc_ib pm_ib an_ib cd_ib ct_ib), sl_ib⟩)
    (c_ib : PySem.W.codeIn K cd_ib "Day.is_barred" = true)
    (k_ib : PySem.W.keepIn K (.ref f_ib) = true)
    (a_cg : PySem.W.findIn K (.ref C) "clashing_games" = some (some (.ref f_cg)))
    (i_cg : PySem.W.isFn K (.ref f_cg) = true)
    (l_cg : K.lookup f_cg = some ⟨oc_cg, od_cg, .func (PySem.W.fnOf "clashing_games" "Day.clashing_games" (defArgs sCG) (defBody sCG) (defScope sCG) .none kV_cg dc_cg pm_cg an_cg cd_cg ct_cg), sl_cg⟩)
    (c_cg : PySem.W.codeIn K cd_cg "Day.clashing_games" = true)
    (k_cg : PySem.W.keepIn K (.ref f_cg) = true)
    (a_cl : PySem.W.findIn K (.ref C) "clash" = some (some (.ref f_cl)))
    (i_cl : PySem.W.isFn K (.ref f_cl) = true)
    (l_cl : K.lookup f_cl = some ⟨oc_cl, od_cl, .func (PySem.W.fnOf "clash" "Day.clash" (defArgs sClash) (defBody sClash) (defScope sClash) .none kV_cl dc_cl pm_cl an_cl cd_cl ct_cl), sl_cl⟩)
    (c_cl : PySem.W.codeIn K cd_cl "Day.clash" = true)
    (k_cl : PySem.W.keepIn K (.ref f_cl) = true)
    (a_lb : PySem.W.findIn K (.ref C) "lies_behind" = some (some (.ref f_lb)))
    (i_lb : PySem.W.isFn K (.ref f_lb) = true)
    (l_lb : K.lookup f_lb = some ⟨oc_lb, od_lb, .func (PySem.W.fnOf "lies_behind" "Day.lies_behind" (defArgs sLB) (defBody sLB) (defScope sLB) .none kV_lb dc_lb pm_lb an_lb cd_lb ct_lb), sl_lb⟩)
    (c_lb : PySem.W.codeIn K cd_lb "Day.lies_behind" = true)
    (k_lb : PySem.W.keepIn K (.ref f_lb) = true)
    (a_wo : PySem.W.findIn K (.ref C) "way_of" = some (some (.ref f_wo)))
    (i_wo : PySem.W.isFn K (.ref f_wo) = true)
    (l_wo : K.lookup f_wo = some ⟨oc_wo, od_wo, .func (PySem.W.fnOf "way_of" "Day.way_of" (defArgs sWO) (defBody sWO) (defScope sWO) .none kV_wo dc_wo pm_wo an_wo (.ref cd_wo) ct_wo), sl_wo⟩)
    (c_wo : PySem.W.codeIn K (.ref cd_wo) "Day.way_of" = true)
    (k_wo : PySem.W.keepIn K (.ref f_wo) = true)
    (h_wo : PySem.W.codeHdIn K cd_wo t.k = true)
    (a_bs : PySem.W.findIn K (.ref C) "best" = some (some (.ref f_bs)))
    (i_bs : PySem.W.isFn K (.ref f_bs) = true)
    (l_bs : K.lookup f_bs = some ⟨oc_bs, od_bs, .func (PySem.W.fnOf "best" "Day.best" (defArgs sBest) (defBody sBest) (defScope sBest) .none kV_bs dc_bs pm_bs an_bs (.ref cd_bs) ct_bs), sl_bs⟩)
    (c_bs : PySem.W.codeIn K (.ref cd_bs) "Day.best" = true)
    (k_bs : PySem.W.keepIn K (.ref f_bs) = true)
    (h_bs : PySem.W.codeHdIn K cd_bs t.b = true)
    (a_fw : PySem.W.findIn K (.ref C) "fewest" = some (some (.ref f_fw)))
    (i_fw : PySem.W.isFn K (.ref f_fw) = true)
    (l_fw : K.lookup f_fw = some ⟨oc_fw, od_fw, .func (PySem.W.fnOf "fewest" "Day.fewest" (defArgs sFewest) (defBody sFewest) (defScope sFewest) .none kV_fw dc_fw pm_fw an_fw (.ref cd_fw) ct_fw), sl_fw⟩)
    (c_fw : PySem.W.codeIn K (.ref cd_fw) "Day.fewest" = true)
    (k_fw : PySem.W.keepIn K (.ref f_fw) = true)
    (h_fw : PySem.W.codeHdIn K cd_fw t.w = true)
    (a_fr : PySem.W.findIn K (.ref C) "fair" = some (some (.ref f_fr)))
    (i_fr : PySem.W.isFn K (.ref f_fr) = true)
    (l_fr : K.lookup f_fr = some ⟨oc_fr, od_fr, .func (PySem.W.fnOf "fair" "Day.fair" (defArgs sFair) (defBody sFair) (defScope sFair) .none kV_fr dc_fr pm_fr an_fr (.ref cd_fr) ct_fr), sl_fr⟩)
    (c_fr : PySem.W.codeIn K (.ref cd_fr) "Day.fair" = true)
    (k_fr : PySem.W.keepIn K (.ref f_fr) = true)
    (h_fr : PySem.W.codeHdIn K cd_fr t.r = true)
    (a_le : PySem.W.findIn K (.ref C) "least" = some (some (.ref f_le)))
    (i_le : PySem.W.isFn K (.ref f_le) = true)
    (l_le : K.lookup f_le = some ⟨oc_le, od_le, .func (PySem.W.fnOf "least" "Day.least" (defArgs sLeast) (defBody sLeast) (defScope sLeast) .none kV_le dc_le pm_le an_le cd_le ct_le), sl_le⟩)
    (c_le : PySem.W.codeIn K cd_le "Day.least" = true)
    (k_le : PySem.W.keepIn K (.ref f_le) = true)
    (a_pl : PySem.W.findIn K (.ref C) "plans_that_can_be" = some (some (.ref f_pl)))
    (i_pl : PySem.W.isFn K (.ref f_pl) = true)
    (l_pl : K.lookup f_pl = some ⟨oc_pl, od_pl, .func (PySem.W.fnOf "plans_that_can_be" "Day.plans_that_can_be" (defArgs sPl) (defBody sPl) (defScope sPl) .none kV_pl dc_pl pm_pl an_pl cd_pl ct_pl), sl_pl⟩)
    (c_pl : PySem.W.codeIn K cd_pl "Day.plans_that_can_be" = true)
    (k_pl : PySem.W.keepIn K (.ref f_pl) = true)
    (a_ol : PySem.W.findIn K (.ref C) "one_game_longer" = some (some (.ref f_ol)))
    (i_ol : PySem.W.isFn K (.ref f_ol) = true)
    (l_ol : K.lookup f_ol = some ⟨oc_ol, od_ol, .func (PySem.W.fnOf "one_game_longer" "Day.one_game_longer" (defArgs sOL) (defBody sOL) (defScope sOL) .none kV_ol dc_ol pm_ol an_ol cd_ol ct_ol), sl_ol⟩)
    (c_ol : PySem.W.codeIn K cd_ol "Day.one_game_longer" = true)
    (k_ol : PySem.W.keepIn K (.ref f_ol) = true)
    (a_cn : PySem.W.findIn K (.ref C) "can_be" = some (some (.ref f_cn)))
    (i_cn : PySem.W.isFn K (.ref f_cn) = true)
    (l_cn : K.lookup f_cn = some ⟨oc_cn, od_cn, .func (PySem.W.fnOf "can_be" "Day.can_be" (defArgs sCan) (defBody sCan) (defScope sCan) .none kV_cn dc_cn pm_cn an_cn cd_cn ct_cn), sl_cn⟩)
    (c_cn : PySem.W.codeIn K cd_cn "Day.can_be" = true)
    (k_cn : PySem.W.keepIn K (.ref f_cn) = true)
    (a_gi : PySem.W.findIn K (.ref G) "__init__" = some (some (.ref f_gi)))
    (i_gi : PySem.W.isFn K (.ref f_gi) = true)
    (l_gi : K.lookup f_gi = some ⟨oc_gi, od_gi, .func (PySem.W.fnOf "__init__" "Game.__init__" (defArgs sGInit) (defBody sGInit) (defScope sGInit) .none kV_gi dc_gi pm_gi an_gi cd_gi ct_gi), sl_gi⟩)
    (c_gi : PySem.W.codeIn K cd_gi "Game.__init__" = true)
    (k_gi : PySem.W.keepIn K (.ref f_gi) = true)
    (a_hm : PySem.W.nsIn K mainGlobals "how_many_referees" = some (some (.ref f_hm)))
    (l_hm : K.lookup f_hm = some ⟨oc_hm, od_hm, .func (PySem.W.fnOf "how_many_referees" "how_many_referees" (defArgs sHM) (defBody sHM) (defScope sHM) .none kV_hm dc_hm pm_hm an_hm cd_hm ct_hm), sl_hm⟩)
    (c_hm : PySem.W.codeIn K cd_hm "how_many_referees" = true)
    (k_hm : PySem.W.keepIn K (.ref f_hm) = true)
    (a_mg : PySem.W.nsIn K mainGlobals "most_games_of_one" = some (some (.ref f_mg)))
    (l_mg : K.lookup f_mg = some ⟨oc_mg, od_mg, .func (PySem.W.fnOf "most_games_of_one" "most_games_of_one" (defArgs sMG) (defBody sMG) (defScope sMG) .none kV_mg dc_mg pm_mg an_mg cd_mg ct_mg), sl_mg⟩)
    (c_mg : PySem.W.codeIn K cd_mg "most_games_of_one" = true)
    (k_mg : PySem.W.keepIn K (.ref f_mg) = true)
    (a_an : PySem.W.nsIn K mainGlobals "answer" = some (some (.ref f_an)))
    (l_an : K.lookup f_an = some ⟨oc_an, od_an, .func (PySem.W.fnOf "answer" "answer" (defArgs sAnswer) (defBody sAnswer) (defScope sAnswer) .none kV_an dc_an pm_an an_an cd_an ct_an), sl_an⟩)
    (c_an : PySem.W.codeIn K cd_an "answer" = true)
    (k_an : PySem.W.keepIn K (.ref f_an) = true)
    (a_as : PySem.W.nsIn K mainGlobals "answers" = some (some (.ref f_as)))
    (l_as : K.lookup f_as = some ⟨oc_as, od_as, .func (PySem.W.fnOf "answers" "answers" (defArgs sAnswers) (defBody sAnswers) (defScope sAnswers) .none kV_as dc_as pm_as an_as cd_as ct_as), sl_as⟩)
    (c_as : PySem.W.codeIn K cd_as "answers" = true)
    (k_as : PySem.W.keepIn K (.ref f_as) = true)
    (pgC : PySem.W.plainGet K C Str.empty = true)
    (hdC : PySem.W.hasDictIn K C = true)
    (poC : PySem.W.plainOver K C = true)
    (saC : PySem.W.findIn K (.ref C) "__setattr__" = some (some (.builtin "object.__setattr__")))
    (mkC : PySem.W.makesIn K C = true)
    (kcC : PySem.W.keepIn K (.ref C) = true)
    (pgG : PySem.W.plainGet K G Str.empty = true)
    (hdG : PySem.W.hasDictIn K G = true)
    (poG : PySem.W.plainOver K G = true)
    (saG : PySem.W.findIn K (.ref G) "__setattr__" = some (some (.builtin "object.__setattr__")))
    (mkG : PySem.W.makesIn K G = true)
    (kcG : PySem.W.keepIn K (.ref G) = true)
    (nR : PySem.W.findIn K (.ref C) "referees" = some none)
    (nH : PySem.W.findIn K (.ref C) "halls" = some none)
    (nW : PySem.W.findIn K (.ref C) "ways" = some none)
    (nG : PySem.W.findIn K (.ref C) "games" = some none)
    (nB : PySem.W.findIn K (.ref C) "bars" = some none)
    (gH : PySem.W.findIn K (.ref G) "hall" = some none)
    (gB : PySem.W.findIn K (.ref G) "begin" = some none)
    (gE : PySem.W.findIn K (.ref G) "end" = some none)
    (gO : PySem.W.findIn K (.ref G) "one" = some none)
    (gT : PySem.W.findIn K (.ref G) "other" = some none)
    (z_len : PySem.W.nsIn K mainGlobals "len" = some none)
    (z_range : PySem.W.nsIn K mainGlobals "range" = some none)
    (z_all : PySem.W.nsIn K mainGlobals "all" = some none)
    (z_sorted : PySem.W.nsIn K mainGlobals "sorted" = some none)
    (z_set : PySem.W.nsIn K mainGlobals "set" = some none)
    (z_max : PySem.W.nsIn K mainGlobals "max" = some none)
    (z_min : PySem.W.nsIn K mainGlobals "min" = some none)
    (cMR : PySem.W.nsIn K mainGlobals "MOST_REFEREES" = some (some (.int (4) t0)))
    (cMH : PySem.W.nsIn K mainGlobals "MOST_HALLS" = some (some (.int (4) t1)))
    (cMG : PySem.W.nsIn K mainGlobals "MOST_GAMES" = some (some (.int (6) t2)))
    (cLW : PySem.W.nsIn K mainGlobals "LONGEST_WAY" = some (some (.int (1000) t3)))
    (cLM : PySem.W.nsIn K mainGlobals "LAST_MINUTE" = some (some (.int (1000) t4)))
    (cLT : PySem.W.nsIn K mainGlobals "LAST_TEAM" = some (some (.int (19) t5)))
    (cOB : PySem.W.nsIn K mainGlobals "OUT_OF_BOUNDS" = some (some (.int (-1) t6)))
    (cNT : PySem.W.nsIn K mainGlobals "NOT_THERE" = some (some (.int (-2) t7)))
    (cTS : PySem.W.nsIn K mainGlobals "THE_SAME" = some (some (.int (-4) t8)))
    (cNR : PySem.W.nsIn K mainGlobals "NO_ROOM" = some (some (.int (-5) t9)))
    (cBD : PySem.W.nsIn K mainGlobals "BARRED" = some (some (.int (-6) t10)))
    (cNP : PySem.W.nsIn K mainGlobals "NO_PLAN" = some (some (.int (-6) t11)))
    (cCL : PySem.W.nsIn K mainGlobals "CLASH" = some (some (.int (-7) t12)))
    (cBE : PySem.W.nsIn K mainGlobals "BEGINS" = some (some (.int (0) t13)))
    (cWA : PySem.W.nsIn K mainGlobals "WAY" = some (some (.int (1) t14)))
    (cGA : PySem.W.nsIn K mainGlobals "GAME" = some (some (.int (2) t15)))
    (cBA : PySem.W.nsIn K mainGlobals "BAR" = some (some (.int (3) t16)))
    (cCH : PySem.W.nsIn K mainGlobals "CHECK" = some (some (.int (4) t17)))
    (cBS : PySem.W.nsIn K mainGlobals "BEST" = some (some (.int (5) t18)))
    (cFW : PySem.W.nsIn K mainGlobals "FEWEST" = some (some (.int (6) t19)))
    (cFA : PySem.W.nsIn K mainGlobals "FAIR" = some (some (.int (7) t20)))
    : ∃ fd : FuncData, (∀ (s : Shared) (us : List Value), us.length = (["calls"] : List Str).length → BindsTo s fd ⟨us, []⟩ ((["calls"] : List Str).zip us)) ∧ ∀ base : Heap, K.In base → base.Ns mainGlobals mg → BMain mg base → FnOk P w K mg base CX0 10 fa fd ["calls"] (spAnswers K t) := by
  have e := hfa.symm.trans (PySem.W.mg_of X G0 a_as)
  cases e
  have T : Txt K mg C G := ⟨⟨pgC, hdC, poC, saC⟩, nR, nH, nW, nG, nB, ⟨pgG, hdG, poG, saG⟩, gH, gB, gE, gO, gT, PySem.W.mg_of X G0 aC, PySem.W.mg_of X G0 aG, PySem.W.mg_none_of X G0 z_len, PySem.W.mg_none_of X G0 z_range, PySem.W.mg_none_of X G0 z_all, PySem.W.mg_none_of X G0 z_sorted, PySem.W.mg_none_of X G0 z_set, PySem.W.mg_none_of X G0 z_max, PySem.W.mg_none_of X G0 z_min, ⟨_, PySem.W.mg_of X G0 cMR⟩, ⟨_, PySem.W.mg_of X G0 cMH⟩, ⟨_, PySem.W.mg_of X G0 cMG⟩, ⟨_, PySem.W.mg_of X G0 cLW⟩, ⟨_, PySem.W.mg_of X G0 cLM⟩, ⟨_, PySem.W.mg_of X G0 cLT⟩, ⟨_, PySem.W.mg_of X G0 cOB⟩, ⟨_, PySem.W.mg_of X G0 cNT⟩, ⟨_, PySem.W.mg_of X G0 cTS⟩, ⟨_, PySem.W.mg_of X G0 cNR⟩, ⟨_, PySem.W.mg_of X G0 cBD⟩, ⟨_, PySem.W.mg_of X G0 cNP⟩, ⟨_, PySem.W.mg_of X G0 cCL⟩, ⟨_, PySem.W.mg_of X G0 cBE⟩, ⟨_, PySem.W.mg_of X G0 cWA⟩, ⟨_, PySem.W.mg_of X G0 cGA⟩, ⟨_, PySem.W.mg_of X G0 cBA⟩, ⟨_, PySem.W.mg_of X G0 cCH⟩, ⟨_, PySem.W.mg_of X G0 cBS⟩, ⟨_, PySem.W.mg_of X G0 cFW⟩, ⟨_, PySem.W.mg_of X G0 cFA⟩⟩
  have F_in := fun_mk (st := sInit) l_in c_in k_in
  have b_in := F_in.binds (ps := ["self"]) fun _ _ _ _ _ _ us hl => match us, hl with | [_], _ => rfl
  have m_in : Meth K C "__init__" f_in := ⟨a_in, i_in, k_in⟩
  have F_be := fun_mk (st := sBegins) l_be c_be k_be
  have b_be := F_be.binds (ps := ["self", "referees", "halls"]) fun _ _ _ _ _ _ us hl => match us, hl with | [_, _, _], _ => rfl
  have m_be : Meth K C "begins" f_be := ⟨a_be, i_be, k_be⟩
  have F_wy := fun_mk (st := sWay) l_wy c_wy k_wy
  have b_wy := F_wy.binds (ps := ["self", "hall", "other", "minutes"]) fun _ _ _ _ _ _ us hl => match us, hl with | [_, _, _, _], _ => rfl
  have m_wy : Meth K C "way" f_wy := ⟨a_wy, i_wy, k_wy⟩
  have F_wb := fun_mk (st := sWB) l_wb c_wb k_wb
  have b_wb := F_wb.binds (ps := ["self", "hall", "other"]) fun _ _ _ _ _ _ us hl => match us, hl with | [_, _, _], _ => rfl
  have m_wb : Meth K C "way_between" f_wb := ⟨a_wb, i_wb, k_wb⟩
  have F_ga := fun_mk (st := sGame) l_ga c_ga k_ga
  have b_ga := F_ga.binds (ps := ["self", "hall", "begin", "end", "one", "other"]) fun _ _ _ _ _ _ us hl => match us, hl with | [_, _, _, _, _, _], _ => rfl
  have m_ga : Meth K C "game" f_ga := ⟨a_ga, i_ga, k_ga⟩
  have F_ba := fun_mk (st := sBar) l_ba c_ba k_ba
  have b_ba := F_ba.binds (ps := ["self", "referee", "team"]) fun _ _ _ _ _ _ us hl => match us, hl with | [_, _, _], _ => rfl
  have m_ba : Meth K C "bar" f_ba := ⟨a_ba, i_ba, k_ba⟩
  have F_ck := fun_mk (st := sCheck) l_ck c_ck k_ck
  have b_ck := F_ck.binds (ps := ["self", "plan"]) fun _ _ _ _ _ _ us hl => match us, hl with | [_, _], _ => rfl
  have m_ck : Meth K C "check" f_ck := ⟨a_ck, i_ck, k_ck⟩
  have F_hs := fun_mk (st := sHas) l_hs c_hs k_hs
  have b_hs := F_hs.binds (ps := ["self", "plan"]) fun _ _ _ _ _ _ us hl => match us, hl with | [_, _], _ => rfl
  have m_hs : Meth K C "has_a_referee_for_each_game" f_hs := ⟨a_hs, i_hs, k_hs⟩
  have F_bg := fun_mk (st := sBG) l_bg c_bg k_bg
  have b_bg := F_bg.binds (ps := ["self", "plan"]) fun _ _ _ _ _ _ us hl => match us, hl with | [_, _], _ => rfl
  have m_bg : Meth K C "barred_games" f_bg := ⟨a_bg, i_bg, k_bg⟩
  have F_ib := fun_mk (st := sIB) l_ib c_ib k_ib
  have b_ib := F_ib.binds (ps := ["self", "referee", "game"]) fun _ _ _ _ _ _ us hl => match us, hl with | [_, _, _], _ => rfl
  have m_ib : Meth K C "is_barred" f_ib := ⟨a_ib, i_ib, k_ib⟩
  have F_cg := fun_mk (st := sCG) l_cg c_cg k_cg
  have b_cg := F_cg.binds (ps := ["self", "plan"]) fun _ _ _ _ _ _ us hl => match us, hl with | [_, _], _ => rfl
  have m_cg : Meth K C "clashing_games" f_cg := ⟨a_cg, i_cg, k_cg⟩
  have F_cl := fun_mk (st := sClash) l_cl c_cl k_cl
  have b_cl := F_cl.binds (ps := ["self", "one", "other"]) fun _ _ _ _ _ _ us hl => match us, hl with | [_, _, _], _ => rfl
  have m_cl : Meth K C "clash" f_cl := ⟨a_cl, i_cl, k_cl⟩
  have F_lb := fun_mk (st := sLB) l_lb c_lb k_lb
  have b_lb := F_lb.binds (ps := ["self", "late", "early"]) fun _ _ _ _ _ _ us hl => match us, hl with | [_, _, _], _ => rfl
  have m_lb : Meth K C "lies_behind" f_lb := ⟨a_lb, i_lb, k_lb⟩
  have F_wo := funC_mk (st := sWO) l_wo c_wo k_wo h_wo
  have b_wo := F_wo.binds (ps := ["self", "plan"]) fun _ _ _ _ _ _ us hl => match us, hl with | [_, _], _ => rfl
  have m_wo : Meth K C "way_of" f_wo := ⟨a_wo, i_wo, k_wo⟩
  have F_bs := funC_mk (st := sBest) l_bs c_bs k_bs h_bs
  have b_bs := F_bs.binds (ps := ["self"]) fun _ _ _ _ _ _ us hl => match us, hl with | [_], _ => rfl
  have m_bs : Meth K C "best" f_bs := ⟨a_bs, i_bs, k_bs⟩
  have F_fw := funC_mk (st := sFewest) l_fw c_fw k_fw h_fw
  have b_fw := F_fw.binds (ps := ["self"]) fun _ _ _ _ _ _ us hl => match us, hl with | [_], _ => rfl
  have m_fw : Meth K C "fewest" f_fw := ⟨a_fw, i_fw, k_fw⟩
  have F_fr := funC_mk (st := sFair) l_fr c_fr k_fr h_fr
  have b_fr := F_fr.binds (ps := ["self"]) fun _ _ _ _ _ _ us hl => match us, hl with | [_], _ => rfl
  have m_fr : Meth K C "fair" f_fr := ⟨a_fr, i_fr, k_fr⟩
  have F_le := fun_mk (st := sLeast) l_le c_le k_le
  have b_le := F_le.binds (ps := ["self", "measure"]) fun _ _ _ _ _ _ us hl => match us, hl with | [_, _], _ => rfl
  have m_le : Meth K C "least" f_le := ⟨a_le, i_le, k_le⟩
  have F_pl := fun_mk (st := sPl) l_pl c_pl k_pl
  have b_pl := F_pl.binds (ps := ["self"]) fun _ _ _ _ _ _ us hl => match us, hl with | [_], _ => rfl
  have m_pl : Meth K C "plans_that_can_be" f_pl := ⟨a_pl, i_pl, k_pl⟩
  have F_ol := fun_mk (st := sOL) l_ol c_ol k_ol
  have b_ol := F_ol.binds (ps := ["self", "plans"]) fun _ _ _ _ _ _ us hl => match us, hl with | [_, _], _ => rfl
  have m_ol : Meth K C "one_game_longer" f_ol := ⟨a_ol, i_ol, k_ol⟩
  have F_cn := fun_mk (st := sCan) l_cn c_cn k_cn
  have b_cn := F_cn.binds (ps := ["self", "plan"]) fun _ _ _ _ _ _ us hl => match us, hl with | [_, _], _ => rfl
  have m_cn : Meth K C "can_be" f_cn := ⟨a_cn, i_cn, k_cn⟩
  have F_gi := fun_mk (st := sGInit) l_gi c_gi k_gi
  have b_gi := F_gi.binds (ps := ["self", "hall", "begin", "end", "one", "other"]) fun _ _ _ _ _ _ us hl => match us, hl with | [_, _, _, _, _, _], _ => rfl
  have m_gi : Meth K G "__init__" f_gi := ⟨a_gi, i_gi, k_gi⟩
  have F_hm := fun_mk (st := sHM) l_hm c_hm k_hm
  have b_hm := F_hm.binds (ps := ["plan"]) fun _ _ _ _ _ _ us hl => match us, hl with | [_], _ => rfl
  have F_mg := fun_mk (st := sMG) l_mg c_mg k_mg
  have b_mg := F_mg.binds (ps := ["plan"]) fun _ _ _ _ _ _ us hl => match us, hl with | [_], _ => rfl
  have F_an := fun_mk (st := sAnswer) l_an c_an k_an
  have b_an := F_an.binds (ps := ["day", "call", "numbers"]) fun _ _ _ _ _ _ us hl => match us, hl with | [_, _, _], _ => rfl
  have F_as := fun_mk (st := sAnswers) l_as c_as k_as
  have g_hm := PySem.W.mg_of X G0 a_hm
  have g_mg := PySem.W.mg_of X G0 a_mg
  have GA : ∀ base : Heap, BMain mg base → FnOk P w K mg base CX0 9 f_an _ ["day", "call", "numbers"] (spAnswer C G t) := fun base hbm => by
    have G_be : FnOk P w K mg base CX0 1 _ _ _ (spBegins C G) := ok_begins F_be T
    have G_wy : FnOk P w K mg base CX0 1 _ _ _ (spWay C G) := ok_way F_wy T
    have G_ga : FnOk P w K mg base CX0 3 _ _ _ (spGame C G) := ok_game F_ga T ⟨mkG, a_gi, i_gi, kcG⟩ F_gi b_gi
    have G_ba : FnOk P w K mg base CX0 1 _ _ _ (spBar C G) := ok_bar F_ba T
    have G_wb : FnOk P w K mg base CX0 1 _ _ _ (spWB C G) := ok_wb F_wb T
    have G_lb : FnOk P w K mg base CX0 2 _ _ _ (spLB C G) := ok_lb F_lb T F_wb b_wb m_wb
    have G_cl : FnOk P w K mg base CX0 3 _ _ _ (spCl C G) := ok_clash F_cl T G_lb b_lb m_lb
    have G_hs : FnOk P w K mg base CX0 1 _ _ _ (spHas C G) := ok_has F_hs T
    have G_bg : FnOk P w K mg base CX0 2 _ _ _ (spBG C G) := ok_bg F_bg T F_ib b_ib m_ib
    have G_cg : FnOk P w K mg base CX0 4 _ _ _ (spCG C G) := ok_cg F_cg T G_cl b_cl m_cl
    have G_cn : FnOk P w K mg base CX0 5 _ _ _ (spCan C G) := ok_can F_cn T G_bg b_bg m_bg G_cg b_cg m_cg
    have G_ol : FnOk P w K mg base CX0 1 _ _ _ (spOL C G) := ok_ol F_ol T
    have G_pl : FnOk P w K mg base CX0 6 _ _ _ (spPl C G) := ok_pl F_pl T G_ol b_ol m_ol G_cn b_cn m_cn
    have G_hm : FnOk P w K mg base CX0 1 _ _ _ (spHM K) := ok_hm F_hm T
    have G_mg : FnOk P w K mg base CX0 1 _ _ _ (spMG K) := ok_mg F_mg T
    have G_wo : FnOk P w K mg base CX0 4 _ _ _ (spWO C G t) := ok_wo F_wo T hbm td G_wb b_wb m_wb
    have G_le : FnOk P w K mg base CX0 7 _ _ _ (spLeast P w K mg base C G t) := ok_least F_le T G_pl b_pl m_pl
    have G_bs : FnOk P w K mg base CX0 8 _ _ _ (spBest C G t false fun _ _ => 0) := ok_best F_bs T hbm td G_le b_le m_le G_wo b_wo m_wo
    have G_fw : FnOk P w K mg base CX0 8 _ _ _ (spBest C G t true fun d => d.used) := ok_fewest F_fw T hbm td G_le b_le m_le G_wo b_wo m_wo G_hm b_hm g_hm k_hm
    have G_fr : FnOk P w K mg base CX0 8 _ _ _ (spBest C G t true fun d => d.most) := ok_fair F_fr T hbm td G_le b_le m_le G_wo b_wo m_wo G_mg b_mg g_mg k_mg
    have G_ck : FnOk P w K mg base CX0 5 _ _ _ (spCheck C G t) := ok_check F_ck T G_hs b_hs m_hs G_bg b_bg m_bg G_cg b_cg m_cg G_wo b_wo m_wo G_hm b_hm g_hm k_hm G_mg b_mg g_mg k_mg
    exact ok_answer F_an T G_be b_be m_be G_wy b_wy m_wy G_ga b_ga m_ga G_ba b_ba m_ba G_ck b_ck m_ck G_bs b_bs m_bs G_fw b_fw m_fw G_fr b_fr m_fr
  exact ⟨PySem.W.fnOf "answers" "answers" (defArgs sAnswers) (defBody sAnswers) (defScope sAnswers) .none kV_as dc_as pm_as an_as cd_as ct_as, fun s us hu => match us, hu with | [_], _ => .of_eq rfl, fun base _ _ hbm => ok_answers F_as T ⟨mkC, a_in, i_in, kcC⟩ F_in b_in (by decide) (GA base hbm) (PySem.W.mg_of X G0 a_an) k_an b_an⟩
def tabA : TabA := ⟨144, 151, 158, 165⟩
theorem tabD : TabD tabA := ⟨by decide, by decide, by decide, by decide, by decide, by decide⟩
end Rp
end
section
set_option Elab.async false
open PySem PySem.W PyProof.Rows
local macro_rules | `(tactic| o_headS (kHook $K $as $p)) => `(tactic| o_headS (kmHook $K $as $p [144, 151, 158, 165]))
set_option maxRecDepth 100000 in
set_option maxHeartbeats 0 in
theorem PySem.Challenge.cw_refereeplans_s01_answers_holds : PySem.Challenge.rw_refereeplans_s01_answers.Holds := by
  w_on; k_headS; (case hw => exact ⟨[.list [.int 5, .int 0, .int 0]], by decide +kernel, by decide +kernel⟩)
  k_fillS
  refine L2.walk_specT (r := PySem.Challenge.rw_refereeplans_s01_answers) (k := 10) (CX := L2.CX0) (ps := ["calls"]) (sp := fun K => Rp.spAnswers K Rp.tabA) [(148, 144), (155, 151), (162, 158), (169, 165)] (by decide +kernel) rfl rfl ⟨rfl, by decide, by decide⟩ (fun w h Y => PySem.W.km_in_of Y) ?T ?F ?S (fun _ _ _ _ z => z)
  case T =>
    intro w h Y
    refine List.forall_mem_cons.mpr ⟨⟨?h1, ?n1, PySem.W.km_tabs_of Y _ (by decide)⟩, List.forall_mem_cons.mpr ⟨⟨?h2, ?n2, PySem.W.km_tabs_of Y _ (by decide)⟩, List.forall_mem_cons.mpr ⟨⟨?h3, ?n3, PySem.W.km_tabs_of Y _ (by decide)⟩, List.forall_mem_cons.mpr ⟨⟨?h4, ?n4, PySem.W.km_tabs_of Y _ (by decide)⟩, fun _ z => nomatch z⟩⟩⟩⟩
    all_goals kernel_rfl
  case F =>
    intro w mg fa h Y KX G hmg
    refine' Rp.all_mk Rp.tabA Rp.tabD KX G hmg ?aC ?aG ?a_in ?i_in ?l_in ?c_in ?k_in ?a_be ?i_be ?l_be ?c_be ?k_be ?a_wy ?i_wy ?l_wy ?c_wy ?k_wy ?a_wb ?i_wb ?l_wb ?c_wb ?k_wb ?a_ga ?i_ga ?l_ga ?c_ga ?k_ga ?a_ba ?i_ba ?l_ba ?c_ba ?k_ba ?a_ck ?i_ck ?l_ck ?c_ck ?k_ck ?a_hs ?i_hs ?l_hs ?c_hs ?k_hs ?a_bg ?i_bg ?l_bg ?c_bg ?k_bg ?a_ib ?i_ib ?l_ib ?c_ib ?k_ib ?a_cg ?i_cg ?l_cg ?c_cg ?k_cg ?a_cl ?i_cl ?l_cl ?c_cl ?k_cl ?a_lb ?i_lb ?l_lb ?c_lb ?k_lb ?a_wo ?i_wo ?l_wo ?c_wo ?k_wo ?h_wo ?a_bs ?i_bs ?l_bs ?c_bs ?k_bs ?h_bs ?a_fw ?i_fw ?l_fw ?c_fw ?k_fw ?h_fw ?a_fr ?i_fr ?l_fr ?c_fr ?k_fr ?h_fr ?a_le ?i_le ?l_le ?c_le ?k_le ?a_pl ?i_pl ?l_pl ?c_pl ?k_pl ?a_ol ?i_ol ?l_ol ?c_ol ?k_ol ?a_cn ?i_cn ?l_cn ?c_cn ?k_cn ?a_gi ?i_gi ?l_gi ?c_gi ?k_gi ?a_hm ?l_hm ?c_hm ?k_hm ?a_mg ?l_mg ?c_mg ?k_mg ?a_an ?l_an ?c_an ?k_an ?a_as ?l_as ?c_as ?k_as ?pgC ?hdC ?poC ?saC ?mkC ?kcC ?pgG ?hdG ?poG ?saG ?mkG ?kcG ?nR ?nH ?nW ?nG ?nB ?gH ?gB ?gE ?gO ?gT ?z_len ?z_range ?z_all ?z_sorted ?z_set ?z_max ?z_min ?cMR ?cMH ?cMG ?cLW ?cLM ?cLT ?cOB ?cNT ?cTS ?cNR ?cBD ?cNP ?cCL ?cBE ?cWA ?cGA ?cBA ?cCH ?cBS ?cFW ?cFA
    (case aC => k_is)
    (case aG => k_is)
    (case a_in => k_is)
    (case i_in => k_is)
    (case l_in => k_is)
    (case c_in => k_is)
    (case k_in => k_is)
    (case a_be => k_is)
    (case i_be => k_is)
    (case l_be => k_is)
    (case c_be => k_is)
    (case k_be => k_is)
    (case a_wy => k_is)
    (case i_wy => k_is)
    (case l_wy => k_is)
    (case c_wy => k_is)
    (case k_wy => k_is)
    (case a_wb => k_is)
    (case i_wb => k_is)
    (case l_wb => k_is)
    (case c_wb => k_is)
    (case k_wb => k_is)
    (case a_ga => k_is)
    (case i_ga => k_is)
    (case l_ga => k_is)
    (case c_ga => k_is)
    (case k_ga => k_is)
    (case a_ba => k_is)
    (case i_ba => k_is)
    (case l_ba => k_is)
    (case c_ba => k_is)
    (case k_ba => k_is)
    (case a_ck => k_is)
    (case i_ck => k_is)
    (case l_ck => k_is)
    (case c_ck => k_is)
    (case k_ck => k_is)
    (case a_hs => k_is)
    (case i_hs => k_is)
    (case l_hs => k_is)
    (case c_hs => k_is)
    (case k_hs => k_is)
    (case a_bg => k_is)
    (case i_bg => k_is)
    (case l_bg => k_is)
    (case c_bg => k_is)
    (case k_bg => k_is)
    (case a_ib => k_is)
    (case i_ib => k_is)
    (case l_ib => k_is)
    (case c_ib => k_is)
    (case k_ib => k_is)
    (case a_cg => k_is)
    (case i_cg => k_is)
    (case l_cg => k_is)
    (case c_cg => k_is)
    (case k_cg => k_is)
    (case a_cl => k_is)
    (case i_cl => k_is)
    (case l_cl => k_is)
    (case c_cl => k_is)
    (case k_cl => k_is)
    (case a_lb => k_is)
    (case i_lb => k_is)
    (case l_lb => k_is)
    (case c_lb => k_is)
    (case k_lb => k_is)
    (case a_wo => k_is)
    (case i_wo => k_is)
    (case l_wo => k_is)
    (case c_wo => k_is)
    (case k_wo => k_is)
    (case h_wo => kernel_rfl)
    (case a_bs => k_is)
    (case i_bs => k_is)
    (case l_bs => k_is)
    (case c_bs => k_is)
    (case k_bs => k_is)
    (case h_bs => kernel_rfl)
    (case a_fw => k_is)
    (case i_fw => k_is)
    (case l_fw => k_is)
    (case c_fw => k_is)
    (case k_fw => k_is)
    (case h_fw => kernel_rfl)
    (case a_fr => k_is)
    (case i_fr => k_is)
    (case l_fr => k_is)
    (case c_fr => k_is)
    (case k_fr => k_is)
    (case h_fr => kernel_rfl)
    (case a_le => k_is)
    (case i_le => k_is)
    (case l_le => k_is)
    (case c_le => k_is)
    (case k_le => k_is)
    (case a_pl => k_is)
    (case i_pl => k_is)
    (case l_pl => k_is)
    (case c_pl => k_is)
    (case k_pl => k_is)
    (case a_ol => k_is)
    (case i_ol => k_is)
    (case l_ol => k_is)
    (case c_ol => k_is)
    (case k_ol => k_is)
    (case a_cn => k_is)
    (case i_cn => k_is)
    (case l_cn => k_is)
    (case c_cn => k_is)
    (case k_cn => k_is)
    (case a_gi => k_is)
    (case i_gi => k_is)
    (case l_gi => k_is)
    (case c_gi => k_is)
    (case k_gi => k_is)
    (case a_hm => k_is)
    (case l_hm => k_is)
    (case c_hm => k_is)
    (case k_hm => k_is)
    (case a_mg => k_is)
    (case l_mg => k_is)
    (case c_mg => k_is)
    (case k_mg => k_is)
    (case a_an => k_is)
    (case l_an => k_is)
    (case c_an => k_is)
    (case k_an => k_is)
    (case a_as => k_is)
    (case l_as => k_is)
    (case c_as => k_is)
    (case k_as => k_is)
    (case pgC => k_is)
    (case hdC => k_is)
    (case poC => k_is)
    (case saC => k_is)
    (case mkC => k_is)
    (case kcC => k_is)
    (case pgG => k_is)
    (case hdG => k_is)
    (case poG => k_is)
    (case saG => k_is)
    (case mkG => k_is)
    (case kcG => k_is)
    (case nR => k_is)
    (case nH => k_is)
    (case nW => k_is)
    (case nG => k_is)
    (case nB => k_is)
    (case gH => k_is)
    (case gB => k_is)
    (case gE => k_is)
    (case gO => k_is)
    (case gT => k_is)
    (case z_len => k_is)
    (case z_range => k_is)
    (case z_all => k_is)
    (case z_sorted => k_is)
    (case z_set => k_is)
    (case z_max => k_is)
    (case z_min => k_is)
    (case cMR => k_is)
    (case cMH => k_is)
    (case cMG => k_is)
    (case cLW => k_is)
    (case cLM => k_is)
    (case cLT => k_is)
    (case cOB => k_is)
    (case cNT => k_is)
    (case cTS => k_is)
    (case cNR => k_is)
    (case cBD => k_is)
    (case cNP => k_is)
    (case cCL => k_is)
    (case cBE => k_is)
    (case cWA => k_is)
    (case cGA => k_is)
    (case cBA => k_is)
    (case cCH => k_is)
    (case cBS => k_is)
    (case cFW => k_is)
    (case cFA => k_is)
  case S =>
    intro K H xs a hO hwi hask hx
    have hT : Rp.Tabs Rp.tabA H := ⟨Rp.site_new (hO (148, 144) (by decide)), Rp.site_new (hO (155, 151) (by decide)), Rp.site_new (hO (162, 158) (by decide)), Rp.site_new (hO (169, 165) (by decide))⟩
    cases hx with
    | cons h1 h2 =>
      cases h2
      cases h1 with
      | lst hs ha =>
        have e := L2.ints_dw a.1 _ ha
        subst e
        exact ⟨_, a.1, rfl, hs, hask, hT, fun H' p _ hp => .lst (L2.SqL.of hp) (L2.dw_ints _)⟩
end
