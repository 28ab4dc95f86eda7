import PyProof.Rows.All
import Wide.All
import OpenK.AllK
import Wide.FinOn
import PyProof.EqAt
import PyProof.EqKinds
import PyProof.TupleCall
import KE.BitLaws
import Open.SpecLaws
import KE.OsHead
import KE.OsGo
import KE.KSortTupUse
import KE.KDictList
import PySem.Challenge.RW_oftentogetherdesk_s01_answers
set_option Elab.async false
set_option linter.all false
set_option maxRecDepth 100000
/-! THE HAND LAYER, for ints, bools, texts, own classes, lists, tuples, dicts, comprehensions, walks over dicts, enumerate, zip, reversed, texts, calls, loops. Paste it whole ahead of your own text; what your proof does not reach may be deleted. -/
namespace L2
open PySem PySem.Spec PyProof.Rows
/-- a key: an int or a str -/
abbrev Key := Sum Int Str
def keyIs : Key → Value → Bool
  | .inl k, v => Value.isInt k v
  | .inr x, v => Value.isStrOf x v
def keyH (w : World) : Key → Int
  | .inl k => hashInt k
  | .inr x => hashStr w x
theorem keyIs_shape : ∀ {k : Key} {v : Value}, keyIs k v = true → (∃ i t, k = Sum.inl i ∧ v = Value.int i t) ∨ (∃ x t, k = Sum.inr x ∧ v = Value.str x t)
  | .inl i, v, h => by
    obtain ⟨t, e⟩ := Value.isInt_shape (k := i) (v := v) h
    exact .inl ⟨i, t, rfl, e⟩
  | .inr x, v, h => by
    obtain ⟨t, e⟩ := Value.isStrOf_shape (x := x) (v := v) h
    exact .inr ⟨x, t, rfl, e⟩
theorem keyIs_int (i : Int) (t : Tok) : keyIs (.inl i) (.int i t) = true := by simp [keyIs, Value.isInt]
theorem keyIs_str (x : Str) (t : Tok) : keyIs (.inr x) (.str x t) = true := by simp [keyIs, Value.isStrOf]
theorem key_ll (a b : Int) : decide ((Sum.inl a : Key) = Sum.inl b) = (a == b) := by
  by_cases e : a = b
  · subst e; simp
  · have h : ¬ (Sum.inl a : Key) = Sum.inl b := fun q => e (Sum.inl.inj q)
    rw [decide_eq_false h]
    exact (beq_eq_false_iff_ne.mpr e).symm
theorem key_rr (a b : Str) : decide ((Sum.inr a : Key) = Sum.inr b) = decide (a = b) := by
  by_cases e : a = b
  · subst e; simp
  · have h : ¬ (Sum.inr a : Key) = Sum.inr b := fun q => e (Sum.inr.inj q)
    rw [decide_eq_false h, decide_eq_false e]
theorem key_lr (a : Int) (b : Str) : decide ((Sum.inl a : Key) = Sum.inr b) = false := decide_eq_false (fun q => nomatch q)
theorem key_rl (a : Str) (b : Int) : decide ((Sum.inr a : Key) = Sum.inl b) = false := decide_eq_false (fun q => nomatch q)
def mixKind (prog : Program) (w : World) : PySem.KeyKind prog w Key where
  is := keyIs
  hash := keyH w
  inj := fun v a b ha hb => by
    rcases keyIs_shape ha with ⟨i, t, rfl, rfl⟩ | ⟨x, t, rfl, rfl⟩
    · rcases keyIs_shape hb with ⟨j, u, rfl, e⟩ | ⟨y, u, rfl, e⟩
      · injection e with e1 _; rw [e1]
      · exact nomatch e
    · rcases keyIs_shape hb with ⟨j, u, rfl, e⟩ | ⟨y, u, rfl, e⟩
      · exact nomatch e
      · injection e with e1 _; rw [e1]
  byValue := fun k v h => by
    rcases keyIs_shape h with ⟨i, t, rfl, rfl⟩ | ⟨x, t, rfl, rfl⟩ <;> rfl
  pyHash := fun hv h => by
    rcases keyIs_shape hv with ⟨i, t, rfl, rfl⟩ | ⟨x, t, rfl, rfl⟩
    · exact wpAny_pyHash_int h
    · exact wpAny_pyHash_str h
  eqBool := fun hu hv h => by
    rcases keyIs_shape hu with ⟨i, t, rfl, rfl⟩ | ⟨x, t, rfl, rfl⟩
    · rcases keyIs_shape hv with ⟨j, u, rfl, rfl⟩ | ⟨y, u, rfl, rfl⟩
      · rw [key_ll] at h; exact wpAny_eqBool_int h
      · rw [key_lr] at h; exact SeqAt.EqAt.int_str i t y u _ _ _ _ h
    · rcases keyIs_shape hv with ⟨j, u, rfl, rfl⟩ | ⟨y, u, rfl, rfl⟩
      · rw [key_rl] at h; exact SeqAt.EqAt.str_int x t j u _ _ _ _ h
      · rw [key_rr] at h; exact wpAny_eqBool_str h
  «strs» := fun k x t v h => by
    rcases keyIs_shape h with ⟨i, u, rfl, e⟩ | ⟨y, u, rfl, e⟩
    · exact nomatch e
    · injection e with e1 _
      subst e1
      cases v <;> rfl
theorem mixKind_int (prog : Program) (w : World) (i : Int) (t : Tok) : (mixKind prog w).is (.inl i) (.int i t) = true := keyIs_int i t
theorem mixKind_str (prog : Program) (w : World) (x : Str) (t : Tok) : (mixKind prog w).is (.inr x) (.str x t) = true := keyIs_str x t
end L2
namespace L2
open PySem PySem.Spec PyProof.Rows
/-- a value, without the heap -/
inductive V where
  | non | bl (b : Bool) | int (i : Int) | str (x : Str) | byt (b : Array UInt8) | flt (b : UInt64) | ref (a : Addr) | ty (n : String)
  deriving DecidableEq
def RelV : V → Value → Prop
  | .non, u => u = Value.none
  | .bl b, u => u = Value.bool b
  | .int i, u => ∃ t, u = Value.int i t
  | .str x, u => ∃ t, u = Value.str x t
  | .byt b, u => ∃ t, u = Value.bytes b t
  | .flt b, u => ∃ t, u = Value.float b t
  | .ref a, u => u = Value.ref a
  | .ty n, u => u = Value.type n
abbrev Vals : List V → List Value → Prop := Paired RelV
theorem Vals.length {xs : List V} {us : List Value} (r : Vals xs us) : xs.length = us.length := Paired.length r
theorem Vals.get : ∀ {xs : List V} {us : List Value} {i : Nat} {x : V}, Vals xs us → xs[i]? = some x → ∃ u, us[i]? = some u ∧ RelV x u
  | _, _, _, _, .nil, e => by simp at e
  | _, _, 0, _, .cons r _, e => by simp at e; subst e; exact ⟨_, rfl, r⟩
  | _, _, i + 1, x, .cons _ t, e => by
    obtain ⟨u, h1, h2⟩ := Vals.get (i := i) (x := x) t (by simpa using e)
    exact ⟨u, by simpa using h1, h2⟩
theorem Vals.append : ∀ {xs ys : List V} {us ws : List Value}, Vals xs us → Vals ys ws → Vals (xs ++ ys) (us ++ ws)
  | _, _, _, _, .nil, s => s
  | _, _, _, _, .cons r t, s => .cons r (Vals.append t s)
theorem Vals.take : ∀ {xs : List V} {us : List Value} (n : Nat), Vals xs us → Vals (xs.take n) (us.take n)
  | _, _, 0, _ => .nil
  | _, _, _ + 1, .nil => .nil
  | _, _, n + 1, .cons r t => .cons r (Vals.take n t)
theorem Vals.drop : ∀ {xs : List V} {us : List Value} (n : Nat), Vals xs us → Vals (xs.drop n) (us.drop n)
  | _, _, 0, r => r
  | _, _, _ + 1, .nil => .nil
  | _, _, n + 1, .cons _ t => Vals.drop n t
def RelO : Option V → Option Value → Prop
  | some v, some u => RelV v u
  | none, none => True
  | _, _ => False
def KV {κ : Type} : List (κ × V) → List (κ × Value) → Prop := Paired fun (p : κ × V) (q : κ × Value) => p.1 = q.1 ∧ RelV p.2 q.2
/-- a key of a dict (00_mix): an int or a text -/
def kV : Key → V
  | .inl i => .int i
  | .inr x => .str x
/-- what stands at a tracked address -/
inductive HO where
  /-- a list -/
  | lst (xs : List V)
  /-- a tuple (never changes) -/
  | tup (xs : List V)
  /-- a dict whose keys are ints and texts; one whose keys are tuples of ints and texts (the empty one is both) -/
  | dK (kvs : List (Key × V)) | dT (kvs : List (List Key × V))
  /-- a set of ints: its members, its size -/
  | set (S : Int → Bool) (n : Nat)
  /-- an instance of the class at C, its dict at dx, its attributes -/
  | ins (C dx : Addr) (fs : List (Str × V))
  /-- the dict of the instance at x -/
  | own (x : Addr)
  /-- the dict of an exception -/
  | xd (fs : List (Str × V))
  /-- a bound method, f of x -/
  | met (f x : Addr)
  /-- a range object lo, lo + 1, .. below hi -/
  | rng (lo hi : Int)
  /-- a thing that is known to the object (the script; a dict while a loop walks it): read, never written while it is so -/
  | frz (o : Obj) (u : HO)
  /-- a code object's table -/
  | tbl (ps : Array Value)
  /-- any other thing, by what is true of its one object (a def of one's own: SetO a S n := HO.ext fun h => ..) -/
  | ext (φ : Heap → Prop)
abbrev Hp := Addr → Option HO
def upd (H : Hp) (a : Addr) (o : HO) : Hp := fun b => if b = a then some o else H b
theorem upd_same {H : Hp} {a : Addr} {o : HO} : upd H a o a = some o := by unfold upd; rw [if_pos rfl]
theorem upd_ne {H : Hp} {a b : Addr} {o : HO} (h : b ≠ a) : upd H a o b = H b := by unfold upd; rw [if_neg h]
theorem upd_upd {H : Hp} {a : Addr} {o u : HO} : upd (upd H a o) a u = upd H a u := by
  funext b; unfold upd; split <;> rfl
/-- two objects of different content stand apart -/
theorem ne_of {H : Hp} {a b : Addr} {o u : HO} (h : H a = some o) (h' : H b = some u) (d : o ≠ u) : a ≠ b := by
  intro e; subst e; rw [h] at h'; exact d (Option.some.inj h')
theorem ne_of_none {H : Hp} {a b : Addr} {o : HO} (h : H a = some o) (h' : H b = none) : a ≠ b := by
  intro e; subst e; rw [h] at h'; cases h'
section
variable (P : Program) (w : World)
def ObjOk (H : Hp) (h : Heap) (a : Addr) : HO → Prop
  | .lst xs => xs.length ≤ sizeLine ∧ ∃ (its : List Value) (n : Nat), Vals xs its ∧ h.get? a = some { cls := .type "list", data := .seq its.toArray n }
  | .tup xs => xs.length ≤ sizeLine ∧ ∃ its : List Value, Vals xs its ∧ IsTup h a its.toArray
  | .dK kvs => kvs.length ≤ sizeLine ∧ (a == sysModules) = false ∧ ∃ vs, KV kvs vs ∧ h.DictOf (mixKind P w) a vs
  | .dT kvs => kvs.length ≤ sizeLine ∧ (a == sysModules) = false ∧ ∃ xs : List (List Key × Addr × Value),
      Paired (fun (p : List Key × V) (q : List Key × Addr × Value) => p.1 = q.1 ∧ H q.2.1 = some (.tup (p.1.map kV)) ∧ RelV p.2 q.2.2) kvs xs ∧
      ∃ o es ep, h.get? a = some o ∧ o.ExactDict ∧ o.data = .dict es ep ∧ es.toList = xs.map (entryOfKey (tupleKind (mixKind P w))) ∧ (xs.map (·.1)).Nodup
  | .set S n => h.SetOf (intKind P w) a S n
  | .ins C dx fs => H dx = some (.own a) ∧ fs.length ≤ 1000 ∧ dx ≠ a ∧ h.get? a = some (PySem.W.instObj C dx) ∧
      ∃ mA, h.Ns1 dx mA ∧ (∀ f, RelO (fs.lookup f) (mA f)) ∧ PySem.Within mA (fs.map (·.1))
  | .own _ => ∃ o, h.get? a = some o
  | .xd fs => ∃ mA, h.Ns1 a mA ∧ ∀ f, RelO (fs.lookup f) (mA f)
  | .rng lo hi => ∃ t u v, h.get? a = some { cls := .type "range", data := .fields #[.int lo t, .int hi u, .int 1 v] }
  | .frz o u => h.get? a = some o ∧ ObjOk H h a u
  | .tbl ps => h.get? a = some { cls := .none, data := .fields ps }
  | .met f x => h.get? a = some (PySem.W.methodObj (.ref f) (.ref x))
  | .ext φ => φ h ∧ (∃ o, h.get? a = some o) ∧ ∀ h1 h2 : Heap, φ h1 → (∀ o, h1.get? a = some o → h2.get? a = some o) → φ h2
/-- the abstract heap is held -/
def HOk (H : Hp) (h : Heap) : Prop := ∀ a o, H a = some o → ObjOk P w H h a o
end
section
variable {P : Program} {w : World} {H H' : Hp} {h h' : Heap} {a : Addr} {o : HO}
theorem ObjOk.lt (x : ObjOk P w H h a o) : a < h.objs.size := by
  cases o with
  | lst xs => obtain ⟨_, _, _, _, e⟩ := x; exact Heap.lt_size e
  | tup xs => obtain ⟨_, _, _, p⟩ := x; exact p.lt
  | dK kvs => obtain ⟨_, _, _, _, o, _, _, e, _⟩ := x; exact Heap.lt_size e
  | dT kvs => obtain ⟨_, _, _, _, o, _, _, e, _⟩ := x; exact Heap.lt_size e
  | set S n => obtain ⟨o, _, _, _, e, _⟩ := x; exact Heap.lt_size e
  | ins C dx fs => obtain ⟨_, _, _, e, _⟩ := x; exact Heap.lt_size e
  | own y => obtain ⟨_, e⟩ := x; exact Heap.lt_size e
  | xd fs => obtain ⟨_, ⟨_, _, _, e, _⟩, _⟩ := x; exact Heap.lt_size e
  | rng lo hi => obtain ⟨_, _, _, e⟩ := x; exact Heap.lt_size e
  | frz ob u => obtain ⟨e, _⟩ := x; exact Heap.lt_size e
  | tbl ps => exact Heap.lt_size (show h.get? a = some _ from x)
  | met f y => exact Heap.lt_size (show h.get? a = some _ from x)
  | ext φ => obtain ⟨_, ⟨_, e⟩, _⟩ := x; exact Heap.lt_size e
theorem Paired.mapP {α β : Type} {F G : α → β → Prop} : ∀ {l₁ : List α} {l₂ : List β}, Paired F l₁ l₂ → (∀ a b, F a b → G a b) → Paired G l₁ l₂
  | _, _, .nil, _ => .nil
  | _, _, .cons r t, f => .cons (f _ _ r) (Paired.mapP t f)
/-- what an object's description leans on: its own object, its own dict, the tuples -/
theorem ObjOk.stay (x : ObjOk P w H h a o) (k : ∀ b u, (b = a ∨ H b = some (.own a)) → h.get? b = some u → h'.get? b = some u)
    (ho : ∀ b, H b = some (.own a) → H' b = some (.own a)) (ht : ∀ b xs, H b = some (.tup xs) → H' b = some (.tup xs)) : ObjOk P w H' h' a o := by
  induction o with
  | lst xs => obtain ⟨z, its, n, r, e⟩ := x; exact ⟨z, its, n, r, k _ _ (.inl rfl) e⟩
  | tup xs => obtain ⟨z, its, r, ob, e, c⟩ := x; exact ⟨z, its, r, ob, k _ _ (.inl rfl) e, c⟩
  | dK kvs => obtain ⟨z, y, vs, r, ob, es, ep, e, c⟩ := x; exact ⟨z, y, vs, r, ob, es, ep, k _ _ (.inl rfl) e, c⟩
  | dT kvs =>
    obtain ⟨z, y, xs, r, ob, es, ep, e, c⟩ := x
    exact ⟨z, y, xs, Paired.mapP r fun p q z => ⟨z.1, ht _ _ z.2.1, z.2.2⟩, ob, es, ep, k _ _ (.inl rfl) e, c⟩
  | set S n => obtain ⟨ob, es, ep, t, e, c⟩ := x; exact ⟨ob, es, ep, t, k _ _ (.inl rfl) e, c⟩
  | ins C dx fs =>
    obtain ⟨d, z, ne, e, mA, ⟨od, es, ep, e2, c⟩, r⟩ := x
    exact ⟨ho _ d, z, ne, k _ _ (.inl rfl) e, mA, ⟨od, es, ep, k _ _ (.inr d) e2, c⟩, r⟩
  | own y => obtain ⟨ob, e⟩ := x; exact ⟨ob, k _ _ (.inl rfl) e⟩
  | xd fs => obtain ⟨mA, ⟨od, es, ep, e, c⟩, r⟩ := x; exact ⟨mA, ⟨od, es, ep, k _ _ (.inl rfl) e, c⟩, r⟩
  | rng lo hi => obtain ⟨t, u, v, e⟩ := x; exact ⟨t, u, v, k _ _ (.inl rfl) e⟩
  | frz ob u ih => obtain ⟨e, q⟩ := x; exact ⟨k _ _ (.inl rfl) e, ih q⟩
  | tbl ps =>
    have e : h.get? a = some { cls := .none, data := .fields ps } := x
    show h'.get? a = some { cls := .none, data := .fields ps }
    exact k a _ (.inl rfl) e
  | met f y =>
    have e : h.get? a = some (PySem.W.methodObj (.ref f) (.ref y)) := x
    show h'.get? a = some (PySem.W.methodObj (.ref f) (.ref y))
    exact k a _ (.inl rfl) e
  | ext φ => obtain ⟨p, ⟨o, e⟩, st⟩ := x; exact ⟨st _ _ p fun o q => k _ _ (.inl rfl) q, ⟨o, k _ _ (.inl rfl) e⟩, st⟩
theorem HOk.lt (x : HOk P w H h) (e : H a = some o) : a < h.objs.size := (x a o e).lt
theorem HOk.fresh (x : HOk P w H h) (e : h.objs.size ≤ a) : H a = none := by
  cases q : H a with
  | none => rfl
  | some u => exact absurd (Nat.lt_of_lt_of_le (x.lt q) e) (Nat.lt_irrefl _)
/-- every object of the heap is kept -/
theorem HOk.kept (x : HOk P w H h) (k : ∀ b u, h.get? b = some u → h'.get? b = some u) : HOk P w H h' := fun a o e =>
  (x a o e).stay (fun b u _ q => k b u q) (fun _ q => q) fun _ _ q => q
/-- a new object is laid and tracked -/
theorem HOk.laid (x : HOk P w H h) (k : ∀ b u, h.get? b = some u → h'.get? b = some u) (hp : h.objs.size ≤ a) (new : ObjOk P w (upd H a o) h' a o) : HOk P w (upd H a o) h' := fun b u e => by
  have hn := x.fresh hp
  by_cases hb : b = a
  · subst hb; rw [upd_same] at e; cases e; exact new
  · rw [upd_ne hb] at e
    exact (x b u e).stay (fun c v _ q => k c v q) (fun c q => by rw [upd_ne (ne_of_none q hn)]; exact q) fun c xs q => by rw [upd_ne (ne_of_none q hn)]; exact q
end
/-- what may be read as u: it is u, or a known u -/
def Rd (H : Hp) (a : Addr) (u : HO) : Prop := H a = some u ∨ ∃ o, H a = some (.frz o u)
theorem Rd.ok {P : Program} {w : World} {H : Hp} {h : Heap} {a : Addr} {u : HO} (r : Rd H a u) (x : HOk P w H h) : ObjOk P w H h a u := by
  rcases r with r | ⟨o, r⟩
  · exact x a u r
  · obtain ⟨_, q⟩ := x a _ r
    exact q
/-- what may be written -/
def Mut : Option HO → Prop
  | some (.lst _) => True
  | some (.dK _) => True
  | some (.dT _) => True
  | some (.set _ _) => True
  | some (.ins _ _ _) => True
  | some (.ext _) => True
  | _ => False
section
variable {P : Program} {w : World} {H : Hp} {h h' : Heap} {x e : Addr} {o' : HO}
/-- the object at e is changed: x itself, or the dict of the instance x -/
theorem HOk.write (ok : HOk P w H h) (mu : Mut (H x)) (he : e = x ∨ H e = some (.own x)) (k : ∀ b u, b ≠ e → h.get? b = some u → h'.get? b = some u) (heo : ∃ u, h'.get? e = some u)
    (new : ObjOk P w (upd H x o') h' x o') : HOk P w (upd H x o') h' := fun b u q => by
  have nown : ∀ c y, H c = some (.own y) → c ≠ x := fun c y r z => by subst z; rw [r] at mu; exact mu
  have ntup : ∀ c xs, H c = some (.tup xs) → c ≠ x := fun c xs r z => by subst z; rw [r] at mu; exact mu
  by_cases hb : b = x
  · subst hb; rw [upd_same] at q; cases q; exact new
  · rw [upd_ne hb] at q
    by_cases hbe : b = e
    · have q' : H b = some (.own x) := by
        rcases he with z | z
        · exact absurd (hbe.trans z) hb
        · rw [hbe]; exact z
      rw [q] at q'; cases q'
      obtain ⟨v, hv⟩ := heo
      exact ⟨v, by rw [hbe]; exact hv⟩
    · refine (ok b u q).stay (fun c v hc r => k c v ?_ r) (fun c r => by rw [upd_ne (nown c b r)]; exact r) fun c xs r => by rw [upd_ne (ntup c xs r)]; exact r
      rcases hc with rfl | hc
      · exact hbe
      · rintro rfl
        rcases he with z | z
        · exact nown c b hc z
        · rw [hc] at z; cases z; exact hb rfl
end
/-! ### kept unless tracked; of the frames at fs (the callers') the slots may change (an exception that passes writes there); of the records at ex (iterators) nothing is said -/
structure Un (fs ex : List Addr) (H H' : Hp) (h h' : Heap) : Prop where
  keep : ∀ b o, h.get? b = some o → H b = none → b ∉ fs → b ∉ ex → h'.get? b = some o
  slot : ∀ b o, h.get? b = some o → H b = none → b ∈ fs → b ∉ ex → ∃ sl, h'.get? b = some { o with slots := sl }
  free : ∀ b o, h.get? b = some o → H b = none → b ∉ ex → H' b = none
  there : ∀ b o, h.get? b = some o → b ∉ ex → ∃ o', h'.get? b = some o'
  tups : ∀ b xs, H b = some (.tup xs) → H' b = some (.tup xs)
  frzs : ∀ b o u, H b = some (.frz o u) → H' b = some (.frz o u)
  tbls : ∀ b ps, H b = some (.tbl ps) → ∃ more, H' b = some (.tbl (ps ++ more))
section
variable {fs fs' ex ex' : List Addr} {H H1 H2 : Hp} {h h1 h2 h' : Heap} {a x e : Addr} {o : HO}
theorem Un.any (u : Un fs ex H H1 h h1) {b : Addr} {ob : Obj} (q : h.get? b = some ob) (n : H b = none) (hx : b ∉ ex) : ∃ sl, h1.get? b = some { ob with slots := sl } := by
  by_cases hb : b ∈ fs
  · exact u.slot b ob q n hb hx
  · exact ⟨ob.slots, u.keep b ob q n hb hx⟩
theorem Un.kept (k : ∀ b u, h.get? b = some u → h'.get? b = some u) : Un fs ex H H h h' :=
  ⟨fun b ob q _ _ _ => k b ob q, fun b ob q _ _ _ => ⟨ob.slots, k b ob q⟩, fun _ _ _ n _ => n, fun b ob q _ => ⟨ob, k b ob q⟩, fun _ _ q => q, fun _ _ _ q => q, fun _ ps q => ⟨#[], by rw [q]; simp⟩⟩
theorem Un.refl : Un fs ex H H h h := Un.kept fun _ _ q => q
theorem Un.laid (k : ∀ b u, h.get? b = some u → h'.get? b = some u) (hp : h.objs.size ≤ a) (hn : H a = none) : Un fs ex H (upd H a o) h h' where
  keep := fun b u q _ _ _ => k b u q
  slot := fun b u q _ _ _ => ⟨u.slots, k b u q⟩
  free := fun b u q n _ => by rw [upd_ne (Nat.ne_of_lt (Nat.lt_of_lt_of_le (Heap.lt_size q) hp))]; exact n
  there := fun b u q _ => ⟨u, k b u q⟩
  tups := fun b xs q => by rw [upd_ne (ne_of_none q hn)]; exact q
  frzs := fun b u xs q => by rw [upd_ne (ne_of_none q hn)]; exact q
  tbls := fun b ps q => ⟨#[], by rw [upd_ne (ne_of_none q hn), q]; simp⟩
theorem Un.write (mu : Mut (H x)) (he : e = x ∨ H e = some (.own x)) (k : ∀ b u, b ≠ e → h.get? b = some u → h'.get? b = some u) (heo : ∃ u, h'.get? e = some u) : Un fs ex H (upd H x o) h h' := by
  have hx : ∀ b, H b = none → b ≠ x := fun b n z => by subst z; rw [n] at mu; exact mu
  have hb : ∀ b, H b = none → b ≠ e := fun b n z => by
    subst z
    rcases he with r | r
    · exact hx b n r
    · rw [n] at r; cases r
  have hm : ∀ b u, H b = some u → ¬ Mut (some u) → b ≠ x := fun b u q nm z => by subst z; rw [q] at mu; exact nm mu
  refine ⟨fun b u q n _ _ => k b u (hb b n) q, fun b u q n _ _ => ⟨u.slots, k b u (hb b n) q⟩, fun b u q n _ => by rw [upd_ne (hx b n)]; exact n, fun b u q _ => ?_,
    fun b xs q => by rw [upd_ne (hm b _ q fun z => z)]; exact q, fun b u xs q => by rw [upd_ne (hm b _ q fun z => z)]; exact q, fun b ps q => ⟨#[], by rw [upd_ne (hm b _ q fun z => z), q]; simp⟩⟩
  by_cases hbe : b = e
  · subst hbe; exact heo
  · exact ⟨u, k b u hbe q⟩
end
/-! ### the heap without what is tracked -/
def trk (h : Heap) (H : Hp) : List Addr := (List.range h.objs.size).filter fun a => (H a).isSome
def hidT (h : Heap) (H : Hp) : Heap := PySem.W.hideAll h (trk h H)
theorem hidT_size (h : Heap) (H : Hp) : (hidT h H).objs.size = h.objs.size := PySem.W.hideAll_size _ _
theorem hidT_get {h : Heap} {H : Hp} {b : Addr} {o : Obj} (e : h.get? b = some o) (n : H b = none) : (hidT h H).get? b = some o :=
  PySem.W.hideAll_get _ e fun hm => by
    have q : (H b).isSome = true := (List.mem_filter.mp hm).2
    rw [n] at q; simp at q
theorem of_hidT {h : Heap} {H : Hp} {b : Addr} {o : Obj} (e : (hidT h H).get? b = some o) : h.get? b = some o ∧ H b = none := by
  have e' : h.get? b = some o := PySem.W.of_hideAll (trk h H) e
  refine ⟨e', ?_⟩
  cases q : H b with
  | none => rfl
  | some x =>
    have hm : b ∈ trk h H := List.mem_filter.mpr ⟨List.mem_range.mpr (Heap.lt_size e'), by simp [q]⟩
    have z : (hidT h H).get? b = none := PySem.W.hideAll_none (trk h H) hm
    rw [z] at e; cases e
/-! ### OpenK's ledger, filled with every new object but one -/
end L2
namespace L2
open PySem PySem.Spec PyProof.Rows
/-- the module's facts, over the base: the heap at the law's entry without what is tracked there -/
structure Mod (K : PySem.W.Frag) (mg : Str → Option Value) (base : Heap) : Prop where
  kin : K.In base
  glob : base.Ns mainGlobals mg
  blt : ∃ mb, base.Ns builtinsNs mb ∧ ∀ x : Str, x ≠ "__name__" → mb x = bootBuiltins x
  nolimit : base.NoLimit
/-- the context: a def's body (or a comprehension's block) running. base: fixed through the whole law; s₀, H₀: the entry; outer: the frames whose slots others may change (a def's callers); stack: all frames that run;
   ex: iterators that were made ahead of the entry and are walked here (a comprehension's); fn: the names whose cells were made at the entry (a def: all; a comprehension's block: its own); calm: not within an except suite; pn: pins that every state bears; xe: what is wanted of an exception that leaves the code -/
structure Cx where
  prog : Program
  w : World
  K : PySem.W.Frag
  mg : Str → Option Value
  base : Heap
  A : Around
  N : List Str
  s_0 : Shared
  H_0 : Hp
  env : Env
  outer : List Env
  stack : List Env
  ex : List Addr
  fn : Str → Bool
  calm : Bool
  pn : List (Addr × Obj)
  xe : Value → Shared → Prop
/-- the callers' frames -/
def frs (l : List Env) : List Addr := l.filterMap (·.frame)
abbrev Cx.fs (X : Cx) : List Addr := frs X.outer
def Vis (sc : Scope) (x : Str) : Prop := sc.names.lookup x = some .local ∨ sc.names.lookup x = some .cell ∨ sc.names.lookup x = some .free
def Loc (sc : Scope) (x : Str) : Prop := sc.names.lookup x = some .local ∨ sc.names.lookup x = some .cell
def Look (env : Env) (h : Heap) (m : Str → Option Value) (x : Str) (u : Value) : Prop :=
  (env.kindOf x = some .local ∧ m x = some u) ∨ ((env.kindOf x = some .cell ∨ env.kindOf x = some .free) ∧ ∃ c, env.cells.lookup x = some c ∧ h.IsCell c (some u))
structure Cx.Ok (X : Cx) : Prop where
  mod : Mod X.K X.mg X.base
  kind : X.env.scope.kind = .function
  glob : X.env.globals = mainGlobals
  blt : X.env.builtins = builtinsNs
  above : X.s_0.heap.objs.size ≤ X.env.locals
  inj : ∀ x y c, X.env.cells.lookup x = some c → X.env.cells.lookup y = some c → x = y
  has : ∀ x, (X.env.kindOf x = some .cell ∨ X.env.kindOf x = some .free) → ∃ c, X.env.cells.lookup x = some c
  cab : ∀ x c, X.fn x = true → X.env.cells.lookup x = some c → X.s_0.heap.objs.size ≤ c
  hd : X.calm = true → X.A.handled = none
  frames : X.A.frames = some X.stack
  stk : X.stack = X.outer ∨ (X.stack = X.env :: X.outer ∧ X.env.frame = some X.env.locals)
  exf : ∀ b ∈ X.ex, b ≠ X.env.locals ∧ ∀ x c, X.env.cells.lookup x = some c → c ≠ b
  bs : ∀ b o, X.base.get? b = some o → X.s_0.heap.get? b = some o ∧ X.H_0 b = none
  bsz : X.base.objs.size ≤ X.s_0.heap.objs.size
  noex : ∀ b o, X.base.get? b = some o → b ∉ X.ex
  exfs : ∀ b ∈ X.ex, b ∉ X.fs
  funs : X.s_0.heap.FunFrames X.base X.outer
  frf : ∀ b ∈ X.fs, X.H_0 b = none
structure Inv (X : Cx) (pins : List (Addr × Obj)) (σ : List (Option V)) (H : Hp) (s : Shared) : Prop where
  ok : X.Ok
  os : s.os = X.s_0.os
  bare : AllBare s.gens
  base : Un X.fs X.ex X.H_0 H X.s_0.heap s.heap
  loc : ∃ m, s.heap.Ns X.env.locals m ∧ ∀ (i : Nat) (x : Str) (v : V), X.N[i]? = some x → σ[i]? = some (some v) → Vis X.env.scope x → ∃ u, RelV v u ∧ Look X.env s.heap m x u
  cell : ∀ x c, X.env.cells.lookup x = some c → ∃ v, s.heap.IsCell c v
  free : H X.env.locals = none
  freeC : ∀ x c, X.env.cells.lookup x = some c → H c = none
  pin : ∀ p ∈ X.pn ++ pins, s.heap.get? p.1 = some p.2 ∧ H p.1 = none ∧ p.1 ≠ X.env.locals ∧ p.1 ∉ X.fs ∧ ∀ v, p.2.data ≠ .cell v
  hok : HOk X.prog X.w H s.heap
  len : σ.length = X.N.length
section
variable {X : Cx} {pins : List (Addr × Obj)} {σ : List (Option V)} {H H' : Hp} {s : Shared} {h' : Heap}
theorem Cx.Ok.nofr (ok : X.Ok) {b : Addr} {o : Obj} (e : X.base.get? b = some o) : b ∉ X.fs := fun hb => by
  have := (ok.funs.mem hb).1
  rw [e] at this; cases this
theorem Inv.bs (I : Inv X pins σ H s) : ∀ b o, X.base.get? b = some o → s.heap.get? b = some o ∧ H b = none := fun b o e =>
  ⟨I.base.keep b o (I.ok.bs b o e).1 (I.ok.bs b o e).2 (I.ok.nofr e) (I.ok.noex b o e), I.base.free b o (I.ok.bs b o e).1 (I.ok.bs b o e).2 (I.ok.noex b o e)⟩
theorem Inv.bk (I : Inv X pins σ H s) : ∀ b o, X.base.get? b = some o → s.heap.get? b = some o := fun b o e => (I.bs b o e).1
theorem Inv.mod (I : Inv X pins σ H s) : Mod X.K X.mg X.base := I.ok.mod
theorem Inv.kIn (I : Inv X pins σ H s) : X.K.In s.heap := I.ok.mod.kin.keeps I.bk
theorem Inv.lt (I : Inv X pins σ H s) : X.env.locals < s.heap.objs.size := let ⟨_, hn, _⟩ := I.loc; hn.lt
theorem Inv.sz (I : Inv X pins σ H s) : X.s_0.heap.objs.size ≤ s.heap.objs.size := Nat.le_trans I.ok.above (Nat.le_of_lt I.lt)
theorem Inv.nofs (I : Inv X pins σ H s) {a : Addr} (h : s.heap.objs.size ≤ a) : a ∉ X.fs := fun hb => by
  obtain ⟨_, o, ho, _⟩ := I.ok.funs.mem hb
  exact absurd (Nat.lt_of_lt_of_le (Heap.lt_size ho) (Nat.le_trans I.sz h)) (Nat.lt_irrefl _)
theorem Inv.cne (I : Inv X pins σ H s) : ∀ x c, X.env.cells.lookup x = some c → c ≠ X.env.locals := fun x c e z => by
  obtain ⟨v, o, ho, hd⟩ := I.cell x c e
  obtain ⟨m, ⟨o', es, ep, ho', hd', _⟩, _⟩ := I.loc
  rw [z, ho'] at ho; cases ho; rw [hd'] at hd; cases hd
theorem Inv.funs (I : Inv X pins σ H s) : s.heap.FunFrames X.base X.outer := by
  have all : ∀ (l : List Env), (∀ b ∈ frs l, b ∈ X.fs) → X.s_0.heap.FunFrames X.base l → s.heap.FunFrames X.base l := by
    intro l
    induction l with
    | nil => intro _ _; trivial
    | cons env r ih =>
      intro hs hl
      obtain ⟨hk, ⟨L, o, hf, hn, ho, hd⟩, hr⟩ := hl
      have hL : L ∈ X.fs := hs L (by unfold frs; rw [List.filterMap_cons, hf]; exact List.mem_cons_self)
      obtain ⟨sl, e⟩ := I.base.slot L o ho (I.ok.frf L hL) hL fun z => I.ok.exfs L z hL
      exact ⟨hk, ⟨L, _, hf, hn, e, hd⟩, ih (fun b hb => hs b (by unfold frs; rw [List.filterMap_cons, hf]; exact List.mem_cons_of_mem _ hb)) hr⟩
  exact all X.outer (fun _ hb => hb) I.ok.funs
/-- the frames that run, for a call -/
theorem Inv.stack (I : Inv X pins σ H s) : s.heap.FunFrames X.base X.stack := by
  rcases I.ok.stk with e | ⟨e, hf⟩
  · rw [e]; exact I.funs
  · rw [e]
    obtain ⟨m, hn, _⟩ := I.loc
    refine .cons (by rw [I.ok.kind]; decide) hf hn ?_ I.funs
    exact Heap.get?_none_of_le (Nat.le_trans I.ok.bsz I.ok.above)
theorem Inv.stkSub (I : Inv X pins σ H s) : ∀ b ∈ frs X.stack, b ∈ X.env.locals :: X.fs := fun b hb => by
  rcases I.ok.stk with e | ⟨e, hf⟩
  · rw [e] at hb; exact List.mem_cons_of_mem _ hb
  · rw [e] at hb
    unfold frs at hb
    rw [List.filterMap_cons, hf] at hb
    exact hb
theorem Inv.stkFree (I : Inv X pins σ H s) : ∀ b ∈ frs X.stack, H b = none := fun b hb => by
  rcases List.mem_cons.mp (I.stkSub b hb) with e | hb
  · rw [e]; exact I.free
  · obtain ⟨_, o, ho, _⟩ := I.ok.funs.mem hb
    exact I.base.free b o ho (I.ok.frf b hb) fun z => I.ok.exfs b z hb
/-- THE STEP: the untracked objects but the frame and the records at ch are kept (the callers' frames up to slots), the frame's map is kept, the new abstract heap is held -/
theorem Inv.step {g' : Array GenState} {t' : Nat} {d' : Drawn} {ch : List Addr} (I : Inv X pins σ H s)
    (hch : ∀ b ∈ ch, (b ∈ X.ex ∨ X.s_0.heap.objs.size ≤ b) ∧ b ≠ X.env.locals ∧ (∀ x c, X.env.cells.lookup x = some c → c ≠ b) ∧ ∀ p ∈ X.pn ++ pins, p.1 ≠ b)
    (keep : ∀ b o, b ≠ X.env.locals → b ∉ X.fs → b ∉ ch → s.heap.get? b = some o → H b = none → h'.get? b = some o)
    (slot : ∀ b o, b ≠ X.env.locals → b ∈ X.fs → b ∉ ch → s.heap.get? b = some o → H b = none → ∃ sl, h'.get? b = some { o with slots := sl }) (free : ∀ b o, b ∉ ch → s.heap.get? b = some o → H b = none → H' b = none)
    (there : ∀ b o, b ∉ ch → s.heap.get? b = some o → ∃ o', h'.get? b = some o')
    (tups : ∀ b xs, H b = some (.tup xs) → H' b = some (.tup xs)) (frzs : ∀ b o u, H b = some (.frz o u) → H' b = some (.frz o u)) (tbls : ∀ b ps, H b = some (.tbl ps) → ∃ more, H' b = some (.tbl (ps ++ more)))
    (ns : ∀ m, s.heap.Ns X.env.locals m → h'.Ns X.env.locals m) (hok : HOk X.prog X.w H' h') (hg : AllBare g') :
    Inv X pins σ H' { s with heap := h', gens := g', drawn := d', toks := t' } := by
  have neL : ∀ b o, X.s_0.heap.get? b = some o → b ≠ X.env.locals := fun b o e => Nat.ne_of_lt (Nat.lt_of_lt_of_le (Heap.lt_size e) I.ok.above)
  have neC : ∀ b o, X.s_0.heap.get? b = some o → b ∉ X.ex → b ∉ ch := fun b o e hx hb => by
    rcases (hch b hb).1 with z | z
    · exact hx z
    · exact absurd (Nat.lt_of_lt_of_le (Heap.lt_size e) z) (Nat.lt_irrefl _)
  have cellK : ∀ x c, X.env.cells.lookup x = some c → ∀ v, s.heap.IsCell c v → h'.IsCell c v := fun x c e v ⟨o, ho, hd⟩ => by
    have nch : c ∉ ch := fun z => (hch c z).2.2.1 x c e rfl
    by_cases hc : c ∈ X.fs
    · obtain ⟨sl, q⟩ := slot c o (I.cne x c e) hc nch ho (I.freeC x c e)
      exact ⟨_, q, hd⟩
    · exact ⟨o, keep c o (I.cne x c e) hc nch ho (I.freeC x c e), hd⟩
  refine ⟨I.ok, I.os, hg, ⟨fun b o e n hb hx => ?_, fun b o e n hb hx => ?_, fun b o e n hx => ?_, fun b o e hx => ?_, fun b xs e => tups b xs (I.base.tups b xs e), fun b o xs e => frzs b o xs (I.base.frzs b o xs e), fun b ps e => ?_⟩, ?_, fun x c e => ?_, ?_, fun x c e => ?_, fun p hp => ?_, hok, I.len⟩
  · exact keep b o (neL b o e) hb (neC b o e hx) (I.base.keep b o e n hb hx) (I.base.free b o e n hx)
  · obtain ⟨sl, e1⟩ := I.base.slot b o e n hb hx
    obtain ⟨sl', e2⟩ := slot b _ (neL b o e) hb (neC b o e hx) e1 (I.base.free b o e n hx)
    exact ⟨sl', e2⟩
  · obtain ⟨o', e1⟩ := I.base.there b o e hx
    exact free b o' (neC b o e hx) e1 (I.base.free b o e n hx)
  · obtain ⟨o', e1⟩ := I.base.there b o e hx
    exact there b o' (neC b o e hx) e1
  · obtain ⟨m1, e1⟩ := I.base.tbls b ps e
    obtain ⟨m2, e2⟩ := tbls b _ e1
    exact ⟨m1 ++ m2, by rw [e2, Array.append_assoc]⟩
  · obtain ⟨m, hn, hl⟩ := I.loc
    refine ⟨m, ns m hn, fun i x v e1 e2 e3 => ?_⟩
    obtain ⟨u, r, l⟩ := hl i x v e1 e2 e3
    refine ⟨u, r, ?_⟩
    rcases l with l | ⟨k, c, e, z⟩
    · exact .inl l
    · exact .inr ⟨k, c, e, cellK x c e _ z⟩
  · obtain ⟨v, z⟩ := I.cell x c e
    exact ⟨v, cellK x c e v z⟩
  · obtain ⟨m, ⟨o, _, _, ho, _⟩, _⟩ := I.loc
    exact free _ o (fun z => (hch _ z).2.1 rfl) ho I.free
  · obtain ⟨v, o, ho, hd⟩ := I.cell x c e
    exact free c o (fun z => (hch c z).2.2.1 x c e rfl) ho (I.freeC x c e)
  · obtain ⟨e, n, ne, nf, d⟩ := I.pin p hp
    have nch : p.1 ∉ ch := fun z => (hch p.1 z).2.2.2 p hp rfl
    exact ⟨keep p.1 p.2 ne nf nch e n, free p.1 p.2 nch e n, ne, nf, d⟩
/-- .. where the frame's own object is kept too -/
theorem Inv.un {t' : Nat} (I : Inv X pins σ H s) (u : Un X.fs [] H H' s.heap h') (hok : HOk X.prog X.w H' h') : Inv X pins σ H' { s with heap := h', toks := t' } := by
  obtain ⟨m, ⟨o, es, ep, ho, r⟩, _⟩ := id I.loc
  obtain ⟨sl, hL⟩ := u.any ho I.free (by simp)
  exact I.step (g' := s.gens) (d' := s.drawn) (ch := []) (fun _ z => nomatch z) (fun b o _ hb _ e n => u.keep b o e n hb (by simp)) (fun b o _ hb _ e n => u.slot b o e n hb (by simp)) (fun b o _ e n => u.free b o e n (by simp)) (fun b o _ e => u.there b o e (by simp)) u.tups u.frzs u.tbls (fun m' hm => by
    obtain ⟨o', es', ep', ho', r'⟩ := hm
    rw [ho] at ho'; cases ho'
    exact ⟨_, es', ep', hL, r'⟩) hok I.bare
/-- behind a call (or a comprehension's block): the slots of this frame may have changed too, the records at ch may have turned -/
theorem Inv.call {g' : Array GenState} {t' : Nat} {d' : Drawn} {ch : List Addr} (I : Inv X pins σ H s) (u : Un (frs X.stack) ch H H' s.heap h') (hok : HOk X.prog X.w H' h') (hg : AllBare g')
    (hch : ∀ b ∈ ch, (b ∈ X.ex ∨ X.s_0.heap.objs.size ≤ b) ∧ b ≠ X.env.locals ∧ (∀ x c, X.env.cells.lookup x = some c → c ≠ b) ∧ ∀ p ∈ X.pn ++ pins, p.1 ≠ b) :
    Inv X pins σ H' { s with heap := h', gens := g', drawn := d', toks := t' } := by
  obtain ⟨m, ⟨o, es, ep, ho, r⟩, _⟩ := id I.loc
  obtain ⟨sl, hL⟩ := u.any ho I.free fun z => (hch _ z).2.1 rfl
  exact I.step (ch := ch) hch (fun b o hL hb hc e n => u.keep b o e n (fun z => (List.mem_cons.mp (I.stkSub b z)).elim hL hb) hc) (fun b o _ _ hc e n => u.any e n hc) (fun b o hc e n => u.free b o e n hc) (fun b o hc e => u.there b o e hc) u.tups u.frzs u.tbls (fun m' hm => by
    obtain ⟨o', es', ep', ho', r'⟩ := hm
    rw [ho] at ho'; cases ho'
    exact ⟨_, es', ep', hL, r'⟩) hok hg
/-- an untracked record of ours (an iterator) has turned -/
theorem Inv.turned {t' : Nat} {it : Addr} (I : Inv X pins σ H s) (k : ∀ b o, b ≠ it → s.heap.get? b = some o → h'.get? b = some o) (hn : H it = none) (hL : it ≠ X.env.locals)
    (h1 : it ∈ X.ex ∨ X.s_0.heap.objs.size ≤ it) (h2 : ∀ x c, X.env.cells.lookup x = some c → c ≠ it) (h3 : ∀ p ∈ X.pn ++ pins, p.1 ≠ it) : Inv X pins σ H { s with heap := h', toks := t' } := by
  have nit : ∀ b u, H b = some u → b ≠ it := fun b u e z => by rw [z, hn] at e; cases e
  refine I.step (g' := s.gens) (d' := s.drawn) (ch := [it]) (fun b hb => ?_) (fun b o _ _ hc e _ => k b o (fun z => hc (by simp [z])) e) (fun b o _ _ hc e _ => ⟨o.slots, k b o (fun z => hc (by simp [z])) e⟩) (fun _ _ _ _ n => n)
    (fun b o hc e => ⟨o, k b o (fun z => hc (by simp [z])) e⟩) (fun _ _ e => e) (fun _ _ _ e => e) (fun b ps e => ⟨#[], by rw [e]; simp⟩) (fun m hm => ?_) (fun b u e => ?_) I.bare
  · have e : b = it := by simpa using hb
    subst e
    exact ⟨h1, hL, h2, h3⟩
  · obtain ⟨o, es, ep, ho, r⟩ := hm
    exact ⟨o, es, ep, k _ o (Ne.symm hL) ho, r⟩
  · refine (I.hok b u e).stay (fun c v hc q => k c v ?_ q) (fun _ q => q) fun _ _ q => q
    rcases hc with z | z
    · rw [z]; exact nit b u e
    · exact nit c _ z
theorem Inv.tok (I : Inv X pins σ H s) (t : Nat) : Inv X pins σ H { s with toks := t } := I.un (h' := s.heap) (t' := t) Un.refl I.hok
/-- all objects kept -/
theorem Inv.kept {t' : Nat} (I : Inv X pins σ H s) (k : ∀ b u, s.heap.get? b = some u → h'.get? b = some u) : Inv X pins σ H { s with heap := h', toks := t' } := I.un (Un.kept k) (I.hok.kept k)
/-- a new object laid and tracked -/
theorem Inv.laid {a : Addr} {o : HO} {t' : Nat} (I : Inv X pins σ H s) (k : ∀ b u, s.heap.get? b = some u → h'.get? b = some u) (hp : s.heap.objs.size ≤ a) (new : ObjOk X.prog X.w (upd H a o) h' a o) :
    Inv X pins σ (upd H a o) { s with heap := h', toks := t' } := I.un (Un.laid k hp (I.hok.fresh hp)) (I.hok.laid k hp new)
/-- an object written -/
theorem Inv.write {x e : Addr} {o : HO} {t' : Nat} (I : Inv X pins σ H s) (mu : Mut (H x)) (he : e = x ∨ H e = some (.own x)) (k : ∀ b u, b ≠ e → s.heap.get? b = some u → h'.get? b = some u) (heo : ∃ u, h'.get? e = some u)
    (new : ObjOk X.prog X.w (upd H x o) h' x o) : Inv X pins σ (upd H x o) { s with heap := h', toks := t' } := I.un (Un.write mu he k heo) (I.hok.write mu he k heo new)
/-- forgetting slots, pins -/
theorem Inv.weak {σ' : List (Option V)} (I : Inv X pins σ H s) (hl : σ'.length = σ.length) (w : ∀ (i : Nat) v, σ'[i]? = some (some v) → σ[i]? = some (some v)) : Inv X pins σ' H s :=
  ⟨I.ok, I.os, I.bare, I.base, let ⟨m, hn, hl'⟩ := I.loc; ⟨m, hn, fun i x v e1 e2 e3 => hl' i x v e1 (w i v e2) e3⟩, I.cell, I.free, I.freeC, I.pin, I.hok, hl.trans I.len⟩
theorem Inv.pins_of {pins' : List (Addr × Obj)} (I : Inv X pins σ H s) (h : ∀ p ∈ pins', s.heap.get? p.1 = some p.2 ∧ H p.1 = none ∧ p.1 ≠ X.env.locals ∧ p.1 ∉ X.fs ∧ ∀ v, p.2.data ≠ .cell v) : Inv X pins' σ H s :=
  ⟨I.ok, I.os, I.bare, I.base, I.loc, I.cell, I.free, I.freeC, fun p hp => (List.mem_append.mp hp).elim (fun z => I.pin p (List.mem_append_left _ z)) (h p), I.hok, I.len⟩
theorem nodup_ix {N : List Str} (hN : N.Nodup) {i j : Nat} {x : Str} (a : N[i]? = some x) (b : N[j]? = some x) : i = j := by
  obtain ⟨h1, e1⟩ := List.getElem?_eq_some_iff.mp a
  obtain ⟨h2, e2⟩ := List.getElem?_eq_some_iff.mp b
  exact (List.getElem_inj hN).mp (e1.trans e2.symm)
/-- a name is stored; what changed -/
theorem store_ok2 {M : Model} {A : Around} {E : Value → Shared → Prop} {i : Nat} {x : Str} {v : V} {u : Value} {Q : Unit → Shared → Prop} (I : Inv X pins σ H s) (hN : X.N.Nodup) (hi : X.N[i]? = some x) (hx : Loc X.env.scope x) (r : RelV v u)
    (h : ∀ s', Inv X pins (σ.set i (some v)) H s' → (∃ a, Heap.SameBut a s.heap s'.heap ∧ (a = X.env.locals ∨ X.env.cells.lookup x = some a)) → Q () s') (hf : X.fn x = true ∨ X.env.scope.names.lookup x = some .local := by first | exact .inl rfl | exact .inr rfl | assumption) : wpAny M A (storeName X.env x u) Q E s := by
  obtain ⟨m, hn, hl⟩ := id I.loc
  have hcls : (X.env.scope.kind == .class || (X.env.scope.kind == .module && X.env.locals != X.env.globals)) = false := by rw [I.ok.kind]; rfl
  have hiσ : i < σ.length := by rw [I.len]; exact (List.getElem?_eq_some_iff.mp hi).1
  have cne := I.cne
  have tracked : ∀ {a : Addr} {h' : Heap}, (∃ o, s.heap.get? a = some o ∧ H a = none) → Heap.SameBut a s.heap h' → HOk X.prog X.w H h' := fun {a h'} ha hs b ob e => by
    obtain ⟨_, _, hfree⟩ := ha
    refine (I.hok b ob e).stay (fun c w' hc q => (hs.2 c ?_).trans q) (fun _ q => q) fun _ _ q => q
    rintro rfl
    rcases hc with rfl | hc
    · rw [hfree] at e; cases e
    · rw [hfree] at hc; cases hc
  rcases hx with hk | hk
  · refine wpAny_storeName_local hk hn (fun h' hn' hs => ?_) hcls
    obtain ⟨oL, _, _, hoL, _⟩ := id hn
    refine h _ ⟨I.ok, I.os, I.bare, ⟨fun b o e n hb hx => ?_, fun b o e n hb hx => ?_, I.base.free, fun b o e hx => ?_, I.base.tups, I.base.frzs, I.base.tbls⟩, ⟨_, hn', fun j y v' e1 e2 e3 => ?_⟩, fun y c e => ?_, I.free, I.freeC, fun p hp => ?_, tracked ⟨oL, hoL, I.free⟩ hs, by simpa using I.len⟩ ⟨_, hs, .inl rfl⟩
    · exact (hs.2 b (Nat.ne_of_lt (Nat.lt_of_lt_of_le (Heap.lt_size e) I.ok.above))).trans (I.base.keep b o e n hb hx)
    · obtain ⟨sl, e1⟩ := I.base.slot b o e n hb hx
      exact ⟨sl, (hs.2 b (Nat.ne_of_lt (Nat.lt_of_lt_of_le (Heap.lt_size e) I.ok.above))).trans e1⟩
    · obtain ⟨o', e1⟩ := I.base.there b o e hx
      exact ⟨o', (hs.2 b (Nat.ne_of_lt (Nat.lt_of_lt_of_le (Heap.lt_size e) I.ok.above))).trans e1⟩
    · by_cases hj : j = i
      · subst hj
        rw [hi] at e1; cases e1
        rw [List.getElem?_set_self hiσ] at e2
        cases e2
        exact ⟨u, r, .inl ⟨hk, by simp⟩⟩
      · rw [List.getElem?_set_ne (Ne.symm hj)] at e2
        obtain ⟨u', r', q⟩ := hl j y v' e1 e2 e3
        refine ⟨u', r', ?_⟩
        rcases q with ⟨k, e⟩ | ⟨k, c, e, z⟩
        · refine .inl ⟨k, ?_⟩
          have : y ≠ x := fun e => hj (nodup_ix hN e1 (e ▸ hi))
          simp [this, e]
        · exact .inr ⟨k, c, e, z.sameBut hs (cne y c e)⟩
    · obtain ⟨w', z⟩ := I.cell y c e
      exact ⟨w', z.sameBut hs (cne y c e)⟩
    · obtain ⟨e, n, ne, nf, d⟩ := I.pin p hp
      exact ⟨(hs.2 p.1 ne).trans e, n, ne, nf, d⟩
  · have hfn : X.fn x = true := by
      rcases hf with z | z
      · exact z
      · rw [z] at hk; cases hk
    obtain ⟨c, hc⟩ := I.ok.has x (.inl hk)
    obtain ⟨w', z⟩ := I.cell x c hc
    refine wpAny_storeName_cell I.ok.kind hk hc z (fun h' hc' hs => ?_)
    obtain ⟨oc, hoc, hocd⟩ := id z
    refine h { s with heap := h' } ⟨I.ok, I.os, I.bare, ⟨fun b o e n hb hx => ?_, fun b o e n hb hx => ?_, I.base.free, fun b o e hx => ?_, I.base.tups, I.base.frzs, I.base.tbls⟩, ⟨m, hn.sameBut hs (Ne.symm (cne x c hc)), fun j y v' e1 e2 e3 => ?_⟩, fun y c' e => ?_, I.free, I.freeC, fun p hp => ?_, tracked ⟨oc, hoc, I.freeC x c hc⟩ hs, by simpa using I.len⟩ ⟨c, hs, .inr hc⟩
    · exact (hs.2 b (Nat.ne_of_lt (Nat.lt_of_lt_of_le (Heap.lt_size e) (I.ok.cab x c hfn hc)))).trans (I.base.keep b o e n hb hx)
    · obtain ⟨sl, e1⟩ := I.base.slot b o e n hb hx
      exact ⟨sl, (hs.2 b (Nat.ne_of_lt (Nat.lt_of_lt_of_le (Heap.lt_size e) (I.ok.cab x c hfn hc)))).trans e1⟩
    · obtain ⟨o', e1⟩ := I.base.there b o e hx
      exact ⟨o', (hs.2 b (Nat.ne_of_lt (Nat.lt_of_lt_of_le (Heap.lt_size e) (I.ok.cab x c hfn hc)))).trans e1⟩
    · by_cases hj : j = i
      · subst hj
        rw [hi] at e1; cases e1
        rw [List.getElem?_set_self hiσ] at e2
        cases e2
        exact ⟨u, r, .inr ⟨.inl hk, c, hc, hc'⟩⟩
      · rw [List.getElem?_set_ne (Ne.symm hj)] at e2
        obtain ⟨u', r', q⟩ := hl j y v' e1 e2 e3
        refine ⟨u', r', ?_⟩
        rcases q with q | ⟨k, c', e, z'⟩
        · exact .inl q
        · refine .inr ⟨k, c', e, z'.sameBut hs ?_⟩
          rintro rfl
          exact hj (nodup_ix hN e1 (I.ok.inj _ _ _ e hc ▸ hi))
    · by_cases hcc : c' = c
      · subst hcc; exact ⟨_, hc'⟩
      · obtain ⟨w2, z2⟩ := I.cell y c' e
        exact ⟨w2, z2.sameBut hs hcc⟩
    · obtain ⟨e, n, ne, nf, d⟩ := I.pin p hp
      refine ⟨(hs.2 p.1 ?_).trans e, n, ne, nf, d⟩
      intro q
      rw [q, hoc] at e
      have q' : oc = p.2 := Option.some.inj e
      exact d w' (by rw [← q']; exact hocd)
theorem store_ok {M : Model} {A : Around} {E : Value → Shared → Prop} {i : Nat} {x : Str} {v : V} {u : Value} {Q : Unit → Shared → Prop} (I : Inv X pins σ H s) (hN : X.N.Nodup) (hi : X.N[i]? = some x) (hx : Loc X.env.scope x) (r : RelV v u)
    (h : ∀ s', Inv X pins (σ.set i (some v)) H s' → Q () s') (hf : X.fn x = true ∨ X.env.scope.names.lookup x = some .local := by first | exact .inl rfl | exact .inr rfl | assumption) : wpAny M A (storeName X.env x u) Q E s :=
  store_ok2 I hN hi hx r (fun s' I' _ => h s' I') hf
/-- behind a call or a block, the state as it is -/
theorem Inv.call' {s' : Shared} {ch : List Addr} (I : Inv X pins σ H s) (ho : s'.os = s.os) (u : Un (frs X.stack) ch H H' s.heap s'.heap) (hok : HOk X.prog X.w H' s'.heap) (hg : AllBare s'.gens)
    (hch : ∀ b ∈ ch, (b ∈ X.ex ∨ X.s_0.heap.objs.size ≤ b) ∧ b ≠ X.env.locals ∧ (∀ x c, X.env.cells.lookup x = some c → c ≠ b) ∧ ∀ p ∈ X.pn ++ pins, p.1 ≠ b) : Inv X pins σ H' s' := by
  obtain ⟨h', g', d', t', o'⟩ := s'
  have e : o' = s.os := ho
  subst e
  exact I.call (g' := g') (t' := t') (d' := d') u hok hg hch
end
/-! ### the judgements -/
/-- an exception: its class, its own dict's address (where it has one), the abstract heap behind it -/
abbrev XK := Value → Option Addr → Hp → Prop
abbrev St := List (Option V)
abbrev VK := V → Hp → Prop
/-- an expression's reading; a test's; an argument list's -/
abbrev TE := St → Hp → VK → Prop
abbrev TT := St → Hp → (Bool → Hp → Prop) → Prop
abbrev TA := St → Hp → (List V → Hp → Prop) → Prop
/-- what is wanted behind a statement -/
structure Ends where
  nx : St → Hp → Prop
  rt : VK
  bk : St → Hp → Prop := fun _ _ => False
  ct : St → Hp → Prop := fun _ _ => False
abbrev TS := Ends → St → Hp → Prop
def EP (X : Cx) (pins : List (Addr × Obj)) (σ : St) (Q : VK) (u : Value) (s' : Shared) : Prop := ∃ v H', Inv X pins σ H' s' ∧ RelV v u ∧ Q v H'
def TP (X : Cx) (pins : List (Addr × Obj)) (σ : St) (Q : Bool → Hp → Prop) (b : Bool) (s' : Shared) : Prop := ∃ H', Inv X pins σ H' s' ∧ Q b H'
def AP (X : Cx) (pins : List (Addr × Obj)) (σ : St) (Q : List V → Hp → Prop) (us : List Value) (s' : Shared) : Prop := ∃ vs H', Inv X pins σ H' s' ∧ Vals vs us ∧ Q vs H'
def SP (X : Cx) (pins : List (Addr × Obj)) (D : Ends) (f : Flow) (s' : Shared) : Prop :=
  match f with
  | .next => ∃ σ' H', Inv X pins σ' H' s' ∧ D.nx σ' H'
  | .brk => ∃ σ' H', Inv X pins σ' H' s' ∧ D.bk σ' H'
  | .cont => ∃ σ' H', Inv X pins σ' H' s' ∧ D.ct σ' H'
  | .ret u => ∃ v σ' H', Inv X pins σ' H' s' ∧ RelV v u ∧ D.rt v H'
def PE (X : Cx) (e : Expr) (t : TE) : Prop :=
  ∀ (pins : List (Addr × Obj)) (s : Shared) (σ : St) (H : Hp) (Q : VK), Inv X pins σ H s → t σ H Q → wpAny (model X.prog X.w) X.A (eval e X.env) (EP X pins σ Q) X.xe s
def PT (X : Cx) (e : Expr) (t : TT) : Prop :=
  ∀ (pins : List (Addr × Obj)) (s : Shared) (σ : St) (H : Hp) (Q : Bool → Hp → Prop), Inv X pins σ H s → t σ H Q → wpAny (model X.prog X.w) X.A (isTrue e X.env (eval e X.env)) (TP X pins σ Q) X.xe s
/-- an argument list (no star), from the left -/
def PA (X : Cx) (es : List Expr) (t : TA) : Prop :=
  ∀ (pos : Pos) (pins : List (Addr × Obj)) (s : Shared) (σ : St) (H : Hp) (Q : List V → Hp → Prop), Inv X pins σ H s → t σ H Q → wpAny (model X.prog X.w) X.A (spliced (backTo pos (starEach es X.env))) (AP X pins σ Q) X.xe s
def PS (X : Cx) (st : Stmt) (t : TS) : Prop :=
  ∀ (pins : List (Addr × Obj)) (s : Shared) (σ : St) (H : Hp) (D : Ends), Inv X pins σ H s → t D σ H → wpAny (model X.prog X.w) X.A (exec st X.env) (SP X pins D) X.xe s
def PSs (X : Cx) (st : List Stmt) (t : TS) : Prop :=
  ∀ (pins : List (Addr × Obj)) (s : Shared) (σ : St) (H : Hp) (D : Ends), Inv X pins σ H s → t D σ H → wpAny (model X.prog X.w) X.A (execs st X.env) (SP X pins D) X.xe s
/-- weaken the end -/
theorem thn {α : Type} {t : Sem α} {Q Q' : α → Shared → Prop} {M : Model} {A : Around} {E : Value → Shared → Prop} {s : Shared} (h : wpAny M A t Q E s) (hQ : ∀ a s, Q a s → Q' a s) : wpAny M A t Q' E s := wpAny_mono h hQ fun _ _ x => x
end L2
namespace L2
open PySem PySem.Spec PyProof.Rows
section
variable {X : Cx}
/-! ### names and constants -/
def tVar (i : Nat) : TE := fun σ H Q => ∃ v, σ[i]? = some (some v) ∧ Q v H
def tC (v : V) : TE := fun _ H Q => Q v H
theorem pe_var {i : Nat} {x : Str} {pos : Pos} (hN : X.N[i]? = some x) (hv : Vis X.env.scope x) (hd : (x == ("__debug__" : Str)) = false := by decide) (hcd : (x == ("__classdict__" : Str)) = false := by decide) : PE X (.Name x pos) (tVar i) := by
  intro pins s σ H Q I h
  obtain ⟨v, e, h⟩ := h
  obtain ⟨m, hn, hl⟩ := I.loc
  obtain ⟨u, r, l⟩ := hl i x v hN e hv
  have fin : EP X pins σ Q u s := ⟨v, H, I, r, h⟩
  rcases l with ⟨hk, hm⟩ | ⟨hk, c, hc, hcell⟩
  · exact wpAny_Name (wpAny_loadName_local I.ok.kind hk hn hm fin) hd
  · rcases hk with hk | hk
    · exact wpAny_Name (wpAny_loadName_cell I.ok.kind hk hc hcell fin) hd
    · exact wpAny_Name (wpAny_loadName_free I.ok.kind hk hc hcell fin hcd) hd
theorem pe_int {i j pos} : PE X (.Constant (.int i) j pos) (tC (.int i)) := fun _ _ _ H _ I h => wpAny_Constant_int ⟨.int i, H, I.tok _, ⟨_, rfl⟩, h⟩
/-- a global name of the def -/
def Gl (X : Cx) (x : Str) : Prop := X.env.kindOf x = some .globalImplicit
theorem ld_glob {E : Value → Shared → Prop} {pins : List (Addr × Obj)} {s : Shared} {σ : St} {H : Hp} {x : Str} {u : Value} {pos : Pos} {Q : Value → Shared → Prop} (I : Inv X pins σ H s) (hg : Gl X x) (hm : X.mg x = some u) (h : Q u s)
    (hd : (x == ("__debug__" : Str)) = false := by decide) : wpAny (model X.prog X.w) X.A (eval (.Name x pos) X.env) Q E s :=
  Calls.Name_function_global I.ok.kind hg (Calls.loadGlobal_global (by rw [I.ok.glob]; exact I.mod.glob.keeps I.bk) hm h) hd
theorem ld_blt {E : Value → Shared → Prop} {pins : List (Addr × Obj)} {s : Shared} {σ : St} {H : Hp} {x : Str} {u : Value} {pos : Pos} {Q : Value → Shared → Prop} (I : Inv X pins σ H s) (hg : Gl X x) (hm : X.mg x = none) (hv : bootBuiltins x = some u) (h : Q u s)
    (hn : x ≠ "__name__" := by decide) (hd : (x == ("__debug__" : Str)) = false := by decide) : wpAny (model X.prog X.w) X.A (eval (.Name x pos) X.env) Q E s := by
  obtain ⟨mb, h1, h2⟩ := I.mod.blt
  exact Calls.Name_function_global I.ok.kind hg (Calls.loadGlobal_builtin (by rw [I.ok.glob]; exact I.mod.glob.keeps I.bk) hm (by rw [I.ok.blt]; exact h1.keeps I.bk) ((h2 x hn).trans hv) h) hd
/-- a module's constant, a class, a function, as a value -/
theorem pe_glob {x : Str} {v : V} {u : Value} {pos : Pos} (hg : Gl X x) (hm : X.mg x = some u) (r : RelV v u) (hd : (x == ("__debug__" : Str)) = false := by decide) : PE X (.Name x pos) (tC v) :=
  fun _ _ _ H _ I h => ld_glob I hg hm ⟨v, H, I, r, h⟩ hd
/-! ### arithmetic -/
variable {a b : Expr} {ta tb : TE} {pos : Pos}
/-! ### comparisons -/
/-- a comparison as a value, as a test -/
def tB (t : TE) : TT := fun σ H Q => t σ H fun x H1 => ∃ c, x = .bl c ∧ Q c H1
/-- an expression whose value is a bool, as a test -/
theorem pt_val {e : Expr} {t : TE} (h : PE X e t) (he : ∀ whole, isTrue e X.env whole = (do let v ← whole; standAt e.pos; holding [v] (truthy v)) := by intro _; rfl) : PT X e (tB t) := by
  intro pins s σ H Q I hw
  refine isTrue_plain (thn (h pins s σ H _ I hw) fun v s1 ⟨x, H1, I1, r1, q1⟩ => ?_) (he _)
  obtain ⟨d, rfl, q⟩ := q1
  cases r1
  exact wpAny_truthy_bool ⟨H1, I1, q⟩
/-! ### and, or, not -/
variable {tA tB' : TT} {rest : List Expr}
def tNot (t : TT) : TT := fun σ H Q => t σ H fun c H1 => Q (!c) H1
theorem pt_not (ha : PT X a tA) : PT X (.UnaryOp .Not a pos) (tNot tA) := by
  intro pins s σ H Q I h
  exact isTrue_not (ha pins s σ H (fun c H1 => Q (!c) H1) I h)
/-- .. as values (bools) -/
def tAndV (ta tb : TE) : TE := fun σ H Q => ta σ H fun x H1 => ∃ c, x = .bl c ∧ if c = true then tb σ H1 Q else Q (.bl false) H1
theorem pe_one {op} {t : TE} (h : PE X a t) : PE X (.BoolOp op [a] pos) t := fun pins s σ H Q I hw => BoolOp_one (h pins s σ H Q I hw)
theorem pe_and (ha : PE X a ta) (hb : PE X (.BoolOp .And (b :: rest) pos) tb) : PE X (.BoolOp .And (a :: b :: rest) pos) (tAndV ta tb) := by
  intro pins s σ H Q I h
  refine BoolOp_and (thn (ha pins s σ H _ I h) fun v s1 ⟨x, H1, I1, r1, q1⟩ => ?_)
  obtain ⟨c, rfl, q1⟩ := q1
  cases r1
  refine wpAny_truthy_bool ?_
  cases c with
  | true => exact hb pins s1 σ H1 Q I1 q1
  | false => exact ⟨.bl false, H1, I1, rfl, q1⟩
/-- a if t else b -/
def tIf (t : TT) (ta tb : TE) : TE := fun σ H Q => t σ H fun c H1 => if c = true then ta σ H1 Q else tb σ H1 Q
theorem pe_ifExp {c : Expr} (hc : PT X c tA) (ha : PE X a ta) (hb : PE X b tb) : PE X (.IfExp c a b pos) (tIf tA ta tb) := by
  intro pins s σ H Q I h
  refine wpAny_IfExp (thn (hc pins s σ H _ I h) fun d s1 ⟨H1, I1, q1⟩ => ?_)
  cases d with
  | true => exact ha pins s1 σ H1 Q I1 q1
  | false => exact hb pins s1 σ H1 Q I1 q1
end
end L2
namespace L2
open PySem PySem.Spec PyProof.Rows
/-! ### a list, a tuple that is read: tracked, frozen, or an object of the module -/
def SqL (K : PySem.W.Frag) (H : Hp) (a : Addr) (xs : List V) : Prop :=
  Rd H a (.lst xs) ∨
    ∃ (o : Obj) (its : Array Value) (n : Nat), K.lookup a = some o ∧ o.cls = .type "list" ∧ o.dict = none ∧ o.data = .seq its n ∧ its.size ≤ sizeLine ∧ Vals xs its.toList
def SqT (K : PySem.W.Frag) (H : Hp) (a : Addr) (xs : List V) : Prop :=
  Rd H a (.tup xs) ∨
    ∃ (o : Obj) (its : Array Value) (n : Nat), K.lookup a = some o ∧ o.cls = .type "tuple" ∧ o.data = .seq its n ∧ its.size ≤ sizeLine ∧ Vals xs its.toList
def absV : Value → Option V
  | .none => some .non
  | .bool b => some (.bl b)
  | .int i _ => some (.int i)
  | .str x _ => some (.str x)
  | .bytes b _ => some (.byt b)
  | .float b _ => some (.flt b)
  | .ref a => some (.ref a)
  | .type n => some (.ty n)
  | _ => none
theorem RelV.abs {x : V} {u : Value} (r : RelV x u) : absV u = some x := by
  cases x with
  | non => cases r; rfl
  | bl _ => cases r; rfl
  | int _ => obtain ⟨t, rfl⟩ := r; rfl
  | str _ => obtain ⟨t, rfl⟩ := r; rfl
  | byt _ => obtain ⟨t, rfl⟩ := r; rfl
  | flt _ => obtain ⟨t, rfl⟩ := r; rfl
  | ref _ => cases r; rfl
  | ty _ => cases r; rfl
theorem RelV.inj {x y : V} {u : Value} (r : RelV x u) (q : RelV y u) : x = y := Option.some.inj (r.abs.symm.trans q.abs)
theorem Vals.inj : ∀ {xs ys : List V} {us : List Value}, Vals xs us → Vals ys us → xs = ys
  | _, _, _, .nil, .nil => rfl
  | _, _, _, .cons r t, .cons r' t' => by rw [r.inj r', Vals.inj t t']
section
variable {X : Cx} {pins : List (Addr × Obj)} {σ : St} {H : Hp} {s : Shared} {a : Addr} {xs ys : List V}
theorem SqL.of {K : PySem.W.Frag} (h : H a = some (.lst xs)) : SqL K H a xs := .inl (.inl h)
theorem SqT.of {K : PySem.W.Frag} (h : H a = some (.tup xs)) : SqT K H a xs := .inl (.inl h)
theorem Inv.list (I : Inv X pins σ H s) (h : SqL X.K H a xs) : ∃ its : List Value, Vals xs its ∧ PlainL s.heap a its.toArray ∧ xs.length ≤ sizeLine := by
  rcases h with h | ⟨o, its, n, hk, hc, hd, hs, hz, r⟩
  · obtain ⟨z, its, n, r, e⟩ := h.ok I.hok
    exact ⟨its, r, ⟨_, n, e, rfl, rfl, rfl⟩, z⟩
  · refine ⟨its.toList, r, ⟨o, n, I.kIn a o hk, hc, hd, by simpa using hs⟩, ?_⟩
    have e := r.length
    simp only [Array.length_toList] at e
    omega
theorem Inv.tuple (I : Inv X pins σ H s) (h : SqT X.K H a xs) : ∃ its : List Value, Vals xs its ∧ IsTup s.heap a its.toArray ∧ xs.length ≤ sizeLine := by
  rcases h with h | ⟨o, its, n, hk, hc, hs, hz, r⟩
  · obtain ⟨z, its, r, p⟩ := h.ok I.hok
    exact ⟨its, r, p, z⟩
  · refine ⟨its.toList, r, ⟨o, I.kIn a o hk, hc, n, by simpa using hs⟩, ?_⟩
    have e := r.length
    simp only [Array.length_toList] at e
    omega
theorem Inv.list_inj (I : Inv X pins σ H s) (h : SqL X.K H a xs) (h' : SqL X.K H a ys) : xs = ys := by
  obtain ⟨its, r, ⟨o, n, e, _, _, d⟩, _⟩ := I.list h
  obtain ⟨its', r', ⟨o', n', e', _, _, d'⟩, _⟩ := I.list h'
  rw [e] at e'; cases e'
  rw [d] at d'
  injection d' with d1 _
  have : its = its' := by simpa using congrArg Array.toList d1
  subst this
  exact r.inj r'
end
/-! ### another wish about exceptions -/
abbrev Cx.wish (X : Cx) (E : Value → Shared → Prop) : Cx := { X with xe := E }
/-- no exception leaves -/
abbrev Cx.nox (X : Cx) : Cx := X.wish fun _ _ => False
theorem Cx.Ok.wish {X : Cx} (ok : X.Ok) (E : Value → Shared → Prop) : (X.wish E).Ok :=
  ⟨ok.mod, ok.kind, ok.glob, ok.blt, ok.above, ok.inj, ok.has, ok.cab, ok.hd, ok.frames, ok.stk, ok.exf, ok.bs, ok.bsz, ok.noex, ok.exfs, ok.funs, ok.frf⟩
theorem Cx.Ok.unwish {X : Cx} {E : Value → Shared → Prop} (ok : (X.wish E).Ok) : X.Ok :=
  ⟨ok.mod, ok.kind, ok.glob, ok.blt, ok.above, ok.inj, ok.has, ok.cab, ok.hd, ok.frames, ok.stk, ok.exf, ok.bs, ok.bsz, ok.noex, ok.exfs, ok.funs, ok.frf⟩
section
variable {X : Cx} {pins : List (Addr × Obj)} {σ : St} {H : Hp} {s : Shared} {E : Value → Shared → Prop}
theorem Inv.wish (I : Inv X pins σ H s) (E : Value → Shared → Prop) : Inv (X.wish E) pins σ H s := ⟨I.ok.wish E, I.os, I.bare, I.base, I.loc, I.cell, I.free, I.freeC, I.pin, I.hok, I.len⟩
theorem Inv.unwish (I : Inv (X.wish E) pins σ H s) : Inv X pins σ H s := ⟨I.ok.unwish, I.os, I.bare, I.base, I.loc, I.cell, I.free, I.freeC, I.pin, I.hok, I.len⟩
theorem SP.unwish {D : Ends} {f : Flow} {s' : Shared} (h : SP (X.wish E) pins D f s') : SP X pins D f s' := by
  cases f with
  | next => obtain ⟨σ', H', I, q⟩ := h; exact ⟨σ', H', I.unwish, q⟩
  | brk => obtain ⟨σ', H', I, q⟩ := h; exact ⟨σ', H', I.unwish, q⟩
  | cont => obtain ⟨σ', H', I, q⟩ := h; exact ⟨σ', H', I.unwish, q⟩
  | ret u => obtain ⟨v, σ', H', I, r, q⟩ := h; exact ⟨v, σ', H', I.unwish, r, q⟩
theorem PSs.nox {st : List Stmt} {t : TS} (h : PSs X.nox st t) : PSs X st t := fun pins s σ H D I hw =>
  wpAny_mono (h pins s σ H D (I.wish _) hw) (fun _ _ q => q.unwish) fun _ _ z => False.elim z
end
/-! ### blocks and small statements -/
section
variable {X : Cx} {st : Stmt} {rest : List Stmt} {t u : TS} {e : Expr} {te : TE} {pos : Pos}
def tNext : TS := fun D σ H => D.nx σ H
def tSeq (t u : TS) : TS := fun D σ H => t { D with nx := u D } σ H
theorem pss_nil : PSs X [] tNext := fun _ _ σ H _ I h => wpAny_execs_nil ⟨σ, H, I, h⟩
theorem pss_cons (h1 : PS X st t) (h2 : PSs X rest u) : PSs X (st :: rest) (tSeq t u) := by
  intro pins s σ H D I h
  refine wpAny_execs_cons (thn (h1 pins s σ H { D with nx := u D } I h) fun f s1 q => ?_)
  cases f with
  | next =>
    obtain ⟨σ', H', I', q⟩ := q
    exact h2 pins s1 σ' H' D I' q
  | ret v => exact q
  | brk => exact q
  | cont => exact q
theorem pss_one (h1 : PS X st t) : PSs X [st] t := by
  intro pins s σ H D I h
  refine wpAny_execs_cons (thn (h1 pins s σ H D I h) fun f s1 q => ?_)
  cases f with
  | next => exact wpAny_execs_nil q
  | ret v => exact q
  | brk => exact q
  | cont => exact q
def tBreak : TS := fun D σ H => D.bk σ H
theorem ps_break : PS X (.Break pos) tBreak := fun _ _ σ H _ I h => wpAny_Break ⟨σ, H, I, h⟩
/-- in a def's body nothing is shown -/
theorem Inv.quiet {pins : List (Addr × Obj)} {σ : St} {H : Hp} {s : Shared} (I : Inv X pins σ H s) : interactive X.env = false := by simp [interactive, I.ok.kind]
/-- an expression whose value is dropped -/
def tDrop (te : TE) : TS := fun D σ H => te σ H fun _ H1 => D.nx σ H1
theorem ps_expr (he : PE X e te) (hs : swapsWith e none pos.line X.env = pure false := by rfl) : PS X (.Expr e pos) (tDrop te) := by
  intro pins s σ H D I h
  exact wpAny_Expr_any (thn (he pins s σ H _ I h) fun v s1 ⟨x, H1, I1, r1, q1⟩ => ⟨σ, H1, I1, q1⟩) I.quiet hs
def tRet (te : TE) : TS := fun D σ H => te σ H D.rt
theorem ps_ret (he : PE X e te) : PS X (.Return (some e) pos) (tRet te) := by
  intro pins s σ H D I h
  exact wpAny_Return_some (thn (he pins s σ H _ I h) fun v s1 ⟨x, H1, I1, r1, q1⟩ => ⟨x, σ, H1, I1, r1, q1⟩)
def tIfS (c : TT) (t u : TS) : TS := fun D σ H => c σ H fun b H1 => if b = true then t D σ H1 else u D σ H1
theorem ps_if {c : Expr} {a b : List Stmt} {tc : TT} (hc : PT X c tc) (ha : PSs X a t) (hb : PSs X b u) : PS X (.If c a b pos) (tIfS tc t u) := by
  intro pins s σ H D I h
  refine wpAny_If (thn (hc pins s σ H _ I h) fun d s1 ⟨H1, I1, q1⟩ => ?_)
  cases d with
  | true => exact ha pins s1 σ H1 D I1 q1
  | false => exact hb pins s1 σ H1 D I1 q1
end
/-! ### targets -/
abbrev TG := V → St → Hp → (St → Hp → Prop) → Prop
def PG (X : Cx) (target : Expr) (t : TG) : Prop :=
  ∀ (pins : List (Addr × Obj)) (s : Shared) (σ : St) (H : Hp) (v : V) (u : Value) (Q : St → Hp → Prop), Inv X pins σ H s → RelV v u → t v σ H Q →
    wpAny (model X.prog X.w) X.A (assign target X.env u) (fun _ s' => ∃ σ' H', Inv X pins σ' H' s' ∧ Q σ' H') X.xe s
section
variable {X : Cx} {pos : Pos}
def gName (i : Nat) : TG := fun v σ H Q => Q (σ.set i (some v)) H
theorem pg_name {i : Nat} {x : Str} (hN : X.N.Nodup) (hi : X.N[i]? = some x) (hx : Loc X.env.scope x) (hf : X.fn x = true ∨ X.env.scope.names.lookup x = some .local := by first | exact .inl rfl | exact .inr rfl | assumption) : PG X (.Name x pos) (gName i) := by
  intro pins s σ H v u Q I r h
  exact wpAny_assign_Name (store_ok I hN hi hx r (fun s' I' => ⟨_, H, I', h⟩) hf)
/-- target = value -/
def tAsg (te : TE) (g : TG) : TS := fun D σ H => te σ H fun x H1 => g x σ H1 D.nx
/-- name = value -/
theorem ps_set {i : Nat} {x : Str} {e : Expr} {te : TE} {pos' : Pos} (hN : X.N.Nodup) (hi : X.N[i]? = some x) (hx : Loc X.env.scope x) (he : PE X e te) (hs : swapsWith e (some (.Name x pos')) pos.line X.env = pure false := by rfl) (hf : X.fn x = true ∨ X.env.scope.names.lookup x = some .local := by first | exact .inl rfl | exact .inr rfl | assumption) :
    PS X (.Assign [.Name x pos'] e pos) (tAsg te (gName i)) := by
  intro pins s σ H D I h
  refine wpAny_Assign_Name (thn (he pins s σ H _ I h) fun v s1 ⟨y, H1, I1, r1, q1⟩ => ?_) hs
  exact store_ok I1 hN hi hx r1 (fun s2 I2 => ⟨_, H1, I2, q1⟩) hf
end
/-! ### while -/
section
variable {X : Cx} {pos : Pos}
/-- the invariant W with its measure -/
def tWhile (c : TT) (tb : TS) : TS := fun D σ H => ∃ W : Nat → St → Hp → Prop, (∃ m, W m σ H) ∧ ∀ m σ H, W m σ H →
  c σ H fun b H1 => if b = true then ∃ N : St → Hp → Prop, (∀ σ' H', N σ' H' → ∃ m', m' < m ∧ W m' σ' H') ∧ tb { D with nx := N, ct := N, bk := D.nx } σ H1 else D.nx σ H1
theorem ps_while {c : Expr} {body : List Stmt} {tc : TT} {tb : TS} (hp : PassesOwn (model X.prog X.w) X.A X.env X.xe) (hc : PT X c tc) (hb : PSs X body tb) : PS X (.While c body [] pos) (tWhile tc tb) := by
  intro pins s σ H D I h
  obtain ⟨W, ⟨m0, w0⟩, turn⟩ := h
  refine wpAny_While (codeAny_whileLoop (fun n s' => ∃ σ' H', Inv X pins σ' H' s' ∧ W n σ' H') ?_ m0 ⟨σ, H, I, w0⟩)
  rintro n s1 ⟨σ1, H1, I1, w1⟩
  refine wpAny_passesOwn hp (thn (hc pins s1 σ1 H1 _ I1 (turn n σ1 H1 w1)) fun b s2 ⟨H2, I2, q2⟩ => ?_)
  cases b with
  | true =>
    obtain ⟨N, hN, q2⟩ := q2
    rw [if_pos rfl]
    refine wpAny_passesOwn hp (thn (hb pins s2 σ1 H2 _ I2 q2) fun f s3 q3 => ?_)
    cases f with
    | next =>
      obtain ⟨σ3, H3, I3, n3⟩ := q3
      obtain ⟨m', hm, w3⟩ := hN σ3 H3 n3
      exact ⟨m', hm, σ3, H3, I3, w3⟩
    | cont =>
      obtain ⟨σ3, H3, I3, n3⟩ := q3
      obtain ⟨m', hm, w3⟩ := hN σ3 H3 n3
      exact ⟨m', hm, σ3, H3, I3, w3⟩
    | brk => exact q3
    | ret v => exact q3
  | false =>
    rw [if_neg Bool.false_ne_true]
    exact wpAny_execs_nil ⟨σ1, H2, I2, q2⟩
end
/-! ### what a loop or a comprehension walks -/
/-- at turn i: it yields x (the heap may grow), or it stops -/
structure It where
  go : Nat → Hp → Prop
  yld : Nat → Hp → V → Hp → Prop
  stop : Nat → Hp → Prop
/-- the iterator's own objects may turn: they are not the frame's, not pinned, younger than the entry (or a comprehension's own) -/
def FpOk (X : Cx) (pins : List (Addr × Obj)) (H : Hp) (b : Addr) : Prop :=
  H b = none ∧ b ≠ X.env.locals ∧ b ∉ X.fs ∧ (b ∈ X.ex ∨ X.s_0.heap.objs.size ≤ b) ∧ (∀ x c, X.env.cells.lookup x = some c → c ≠ b) ∧ ∀ p ∈ X.pn ++ pins, p.1 ≠ b
theorem Inv.fpOk {X : Cx} {pins : List (Addr × Obj)} {σ : St} {H H' : Hp} {s : Shared} {b : Addr} (I : Inv X pins σ H s) (hb : s.heap.objs.size ≤ b) (hn : H' b = none) : FpOk X pins H' b := by
  refine ⟨hn, Nat.ne_of_gt (Nat.lt_of_lt_of_le I.lt hb), I.nofs hb, .inr (Nat.le_trans I.sz hb), fun x c e z => ?_, fun p hp z => ?_⟩
  · obtain ⟨v, q⟩ := I.cell x c e
    exact absurd (Nat.lt_of_lt_of_le q.lt (by rw [z]; exact hb)) (Nat.lt_irrefl _)
  · exact absurd (Nat.lt_of_lt_of_le (Heap.lt_size (I.pin p hp).1) (by rw [z]; exact hb)) (Nat.lt_irrefl _)
structure Turn (P : Program) (w : World) (K : PySem.W.Frag) (tg : Expr) (J : It) (fp : List Addr) (it : Addr) (tn : Nat → Heap → Prop) : Prop where
  mem : it ∈ fp
  obj : ∀ i h, tn i h → ∀ b ∈ fp, ∃ o, h.get? b = some o ∧ ∀ v, o.data ≠ .cell v
  keep : ∀ i h h', tn i h → (∀ b ∈ fp, ∀ o, h.get? b = some o → h'.get? b = some o) → tn i h'
  item : ∀ (X : Cx), X.prog = P → X.w = w → X.K = K → X.calm = true → ∀ (i : Nat) (pins : List (Addr × Obj)) (s : Shared) (σ : St) (H : Hp) (E : Value → Shared → Prop), Inv X pins σ H s → (∀ b ∈ fp, FpOk X pins H b) → tn i s.heap → J.go i H →
    wpAny (model P w) X.A (pyNext (.ref it)) (fun r s1 => ∃ u, r = some u ∧
      wpAny (model P w) X.A (letOwnedTupleGo tg (.ref it) u) (fun _ s2 => ∃ x H', Inv X pins σ H' s2 ∧ RelV x u ∧ J.yld i H x H' ∧ tn (i + 1) s2.heap ∧ ∀ b ∈ fp, H' b = none) E s1) E s
  done : ∀ (X : Cx), X.prog = P → X.w = w → X.K = K → X.calm = true → ∀ (i : Nat) (pins : List (Addr × Obj)) (s : Shared) (σ : St) (H : Hp) (E : Value → Shared → Prop), Inv X pins σ H s → (∀ b ∈ fp, FpOk X pins H b) → tn i s.heap → J.stop i H →
    wpAny (model P w) X.A (pyNext (.ref it)) (fun r s1 => r = none ∧ Inv X pins σ H s1) E s
  self : ∀ (A : Around) (i : Nat) (s : Shared) (Q : Value → Shared → Prop) (E : Value → Shared → Prop), tn i s.heap → Q (.ref it) s → wpAny (model P w) A (pyIter (.ref it)) Q E s
abbrev TI := St → Hp → (It → Hp → Prop) → Prop
/-- an iterator has come -/
def PIE (X : Cx) (pins : List (Addr × Obj)) (σ : St) (tg : Expr) (R : It → Hp → Prop) (itv : Value) (s2 : Shared) : Prop :=
  ∃ (it : Addr) (fp : List Addr) (tn : Nat → Heap → Prop) (J : It) (H' : Hp), itv = .ref it ∧ Inv X pins σ H' s2 ∧ Turn X.prog X.w X.K tg J fp it tn ∧ tn 0 s2.heap ∧ (∀ b ∈ fp, FpOk X pins H' b) ∧ R J H'
def PI (X : Cx) (tg iter : Expr) (wi : TI) : Prop :=
  ∀ (pins : List (Addr × Obj)) (s : Shared) (σ : St) (H : Hp) (R : It → Hp → Prop), Inv X pins σ H s → wi σ H R →
    wpAny (model X.prog X.w) X.A (eval iter X.env) (fun v s1 => wpAny (model X.prog X.w) X.A (pyIter v) (PIE X pins σ tg R) X.xe s1) X.xe s
/-- the step ahead of the store is nothing for an iterator that keeps no tuple -/
theorem go_of {M : Model} {A : Around} {E : Value → Shared → Prop} {s : Shared} {tg : Expr} {it : Addr} {u : Value} {o : Obj} {n : String} {vs : Array Value} {Q : Unit → Shared → Prop} (ho : s.heap.get? it = some o) (hc : o.cls = .type n) (hd : o.data = .fields vs)
    (hn : ["enumerate", "zip", "dict_itemiterator", "dict_reverseitemiterator", "odict_iterator", "itertools.zip_longest", "itertools.pairwise"].contains n = false) (hQ : Q () s) : wpAny M A (letOwnedTupleGo tg (.ref it) u) Q E s := by
  unfold letOwnedTupleGo
  cases tg <;> first
    | exact wpAny_pure hQ
    | (cases u <;> first
        | exact wpAny_pure hQ
        | (refine wpAny_bind (wpAny_load ho ?_)
           rw [hc, hd]
           show wpAny M A (if (["enumerate", "zip", "dict_itemiterator", "dict_reverseitemiterator", "odict_iterator", "itertools.zip_longest", "itertools.pairwise"].contains n && vs[0]? == some (rawInt _)) = true then _ else _) Q E s
           rw [if_neg (by intro h; rw [hn, Bool.false_and] at h; cases h)]
           exact wpAny_pure hQ))
/-- the list at a, as it stands at each turn (a loop may append to it) -/
def Itl (K : PySem.W.Frag) (a : Addr) : It :=
  ⟨fun i H => ∃ xs x, SqL K H a xs ∧ xs[i]? = some x, fun i H x H' => H' = H ∧ ∀ xs, SqL K H a xs → xs[i]? = some x, fun i H => ∃ xs, SqL K H a xs ∧ xs.length ≤ i⟩
theorem turn_list {P : Program} {w : World} {K : PySem.W.Frag} {tg : Expr} (a it : Addr) : Turn P w K tg (Itl K a) [it] it (fun i h => h.IsListIter it a i) where
  mem := by simp
  obj := fun i h st b hb => by
    have e : b = it := by simpa using hb
    subst e
    obtain ⟨o, e, c, d⟩ := st
    exact ⟨o, e, fun v z => by rw [d] at z; cases z⟩
  keep := fun i h h' st k => st.at fun o e => k it (by simp) o e
  item := by
    intro X hP hw hK hc i pins s σ H E I hf st hg
    subst hP hw hK
    obtain ⟨xs, x, hq, hx⟩ := hg
    obtain ⟨its, rv, p, hz⟩ := I.list hq
    obtain ⟨u, hu, ru⟩ := rv.get hx
    obtain ⟨f0, f1, f2, f3, f4, f5⟩ := hf it (by simp)
    refine wpAny_pyNext_list_item st p.isList (x := u) (by simpa using hu) fun h' st' sb => ?_
    have I1 : Inv X pins σ H { s with heap := h' } := I.turned (t' := s.toks) (fun b o hb e => (sb.2 b hb).trans e) f0 f1 f3 f4 f5
    obtain ⟨o, e, c, d⟩ := id st'
    exact ⟨u, rfl, go_of (s := { s with heap := h' }) e c d (by decide) ⟨x, H, I1, ru, ⟨rfl, fun ys hy => by rw [I.list_inj hy hq]; exact hx⟩, st', fun b hb => (hf b hb).1⟩⟩
  done := by
    intro X hP hw hK hc i pins s σ H E I hf st hg
    subst hP hw hK
    obtain ⟨xs, hq, hx⟩ := hg
    obtain ⟨its, rv, p, hz⟩ := I.list hq
    obtain ⟨f0, f1, f2, f3, f4, f5⟩ := hf it (by simp)
    have hl := rv.length
    exact wpAny_pyNext_list_end (I.ok.hd hc) st p.isList (by simp; omega) fun h' eb => ⟨rfl, I.turned (t' := s.toks) (fun b o hb e => eb b o hb e) f0 f1 f3 f4 f5⟩
  self := fun _ _ _ _ _ st h => wpAny_pyIter_listiter st h
end L2
namespace L2
open PySem PySem.Spec PyProof.Rows
section
variable {X : Cx} {tg : Expr}
def iList (K : PySem.W.Frag) (tl : TE) : TI := fun σ H R => tl σ H fun x H1 => ∃ a, x = .ref a ∧ (∃ xs, SqL K H1 a xs) ∧ R (Itl K a) H1
theorem pi_list {l : Expr} {tl : TE} (hl : PE X l tl) : PI X tg l (iList X.K tl) := by
  intro pins s σ H R I h
  refine thn (hl pins s σ H _ I h) fun v s1 ⟨x, H1, I1, r1, q1⟩ => ?_
  obtain ⟨a, e, ⟨xs, hq⟩, q⟩ := q1
  subst e
  cases r1
  obtain ⟨its, rv, p, hz⟩ := I1.list hq
  refine wpAny_pyIter_list p.isList ?_
  refine ⟨s1.heap.objs.size, [s1.heap.objs.size], _, _, H1, rfl, I1.kept (t' := s1.toks) fun b o e => Heap.get?_push_of_some _ e, turn_list a _, ⟨_, Heap.get?_push_size _ rfl, rfl, rfl⟩, fun b hb => ?_, q⟩
  have e : b = s1.heap.objs.size := by simpa using hb
  subst e
  exact I1.fpOk (Nat.le_refl _) (I1.hok.fresh (Nat.le_refl _))
/-! ### for -/
/-- W: the invariant by the turn and a measure; N: what the body is to reach -/
def tFor (wi : TI) (g : TG) (tb : TS) : TS := fun D σ H => wi σ H fun J H1 => ∃ W : Nat → Nat → St → Hp → Prop, (∃ m, W 0 m σ H1) ∧ ∀ i m σ H, W i m σ H →
  (J.stop i H ∧ D.nx σ H) ∨ (J.go i H ∧ ∃ N : St → Hp → Prop, (∀ σ' H', N σ' H' → ∃ m', m' < m ∧ W (i + 1) m' σ' H') ∧ ∀ x H', J.yld i H x H' → g x σ H' fun σ2 H2 => tb { D with nx := N, ct := N, bk := D.nx } σ2 H2)
/-- the records at fp as they stand -/
def pinsAt (fp : List Addr) (h : Heap) : List (Addr × Obj) := fp.filterMap fun b => (h.get? b).map fun o => (b, o)
theorem mem_pinsAt {fp : List Addr} {h : Heap} {b : Addr} {o : Obj} (hb : b ∈ fp) (e : h.get? b = some o) : (b, o) ∈ pinsAt fp h := List.mem_filterMap.mpr ⟨b, hb, by rw [e]; rfl⟩
theorem of_pinsAt {fp : List Addr} {h : Heap} {p : Addr × Obj} (hp : p ∈ pinsAt fp h) : p.1 ∈ fp ∧ h.get? p.1 = some p.2 := by
  obtain ⟨b, hb, e⟩ := List.mem_filterMap.mp hp
  cases q : h.get? b with
  | none => rw [q] at e; cases e
  | some o =>
    rw [q] at e
    have e' : (b, o) = p := Option.some.inj e
    subst e'
    exact ⟨hb, q⟩
theorem Inv.pinned {pins : List (Addr × Obj)} {σ : St} {H : Hp} {s : Shared} {fp : List Addr} (I : Inv X pins σ H s) (hf : ∀ b ∈ fp, FpOk X pins H b) (ho : ∀ b ∈ fp, ∃ o, s.heap.get? b = some o ∧ ∀ v, o.data ≠ .cell v) : Inv X (pins ++ pinsAt fp s.heap) σ H s :=
  I.pins_of fun p hp => (List.mem_append.mp hp).elim (fun z => I.pin p (List.mem_append_right _ z)) fun z => by
    obtain ⟨hb, e⟩ := of_pinsAt z
    obtain ⟨f0, f1, f2, _⟩ := hf p.1 hb
    obtain ⟨o, e', d⟩ := ho p.1 hb
    rw [e] at e'; cases e'
    exact ⟨e, f0, f1, f2, d⟩
theorem Inv.unpinned {pins pl : List (Addr × Obj)} {σ : St} {H : Hp} {s : Shared} (I : Inv X (pins ++ pl) σ H s) : Inv X pins σ H s := I.pins_of fun p hp => I.pin p (List.mem_append_right _ (List.mem_append_left _ hp))
theorem ps_for {iter : Expr} {body : List Stmt} {wi : TI} {g : TG} {tb : TS} {pos : Pos} (hp : PassesOwn (model X.prog X.w) X.A X.env X.xe) (hc : X.calm = true) (hi : PI X tg iter wi) (hg : PG X tg g) (hb : PSs X body tb)
    (hs : ∀ x, foldedSetIterable iter X.env x = pure x := by intro _; rfl) : PS X (.For tg iter body [] pos) (tFor wi g tb) := by
  intro pins s σ H D I h
  refine wpAny_For (thn (hi pins s σ H _ I h) fun v s1 h1 => thn h1 fun itv s2 h2 => ?_) hs
  obtain ⟨it, fp, tn, J, H2, e, I2, T, st2, f2, W, ⟨m0, w0⟩, turn⟩ := h2
  subst e
  -- what stays true of the iterator's objects through the loop
  have stat : ∀ {H' : Hp}, (∀ b ∈ fp, H' b = none) → ∀ b ∈ fp, FpOk X pins H' b := fun hn b hb => ⟨hn b hb, (f2 b hb).2⟩
  refine codeAny_forLoop_any (fun n s' => ∃ i σ' H', Inv X pins σ' H' s' ∧ tn i s'.heap ∧ (∀ b ∈ fp, H' b = none) ∧ W i n σ' H') ?_ m0 ⟨0, σ, H2, I2, st2, fun b hb => (f2 b hb).1, w0⟩
  rintro n s3 ⟨i, σ3, H3, I3, st3, fr3, w3⟩
  rcases turn i n σ3 H3 w3 with ⟨stop, qn⟩ | ⟨go, N, hN, step⟩
  · refine wpAny_passesOwn hp (thn (T.done X rfl rfl rfl hc i pins s3 σ3 H3 X.xe I3 (stat fr3) st3 stop) fun r s4 ⟨hr, I4⟩ => ?_)
    subst hr
    exact wpAny_execs_nil ⟨σ3, H3, I4, qn⟩
  · refine wpAny_passesOwn hp (thn (T.item X rfl rfl rfl hc i pins s3 σ3 H3 X.xe I3 (stat fr3) st3 go) fun r s4 ⟨u, hr, h4⟩ => ?_)
    subst hr
    refine wpAny_passesOwn hp (thn h4 fun _ s5 ⟨x, H5, I5, r5, y5, st5, fr5⟩ => ?_)
    have I5' := I5.pinned (stat fr5) (T.obj _ _ st5)
    refine wpAny_passesOwn hp (thn (hg _ s5 σ3 H5 x u _ I5' r5 (step x H5 y5)) fun _ s6 ⟨σ6, H6, I6, q6⟩ => ?_)
    refine wpAny_passesOwn hp (thn (hb _ s6 σ6 H6 _ I6 q6) fun f s7 q7 => ?_)
    have again : ∀ {σ7 : St} {H7 : Hp}, Inv X (pins ++ pinsAt fp s5.heap) σ7 H7 s7 → N σ7 H7 → ∃ m, m < n ∧ ∃ i σ' H', Inv X pins σ' H' s7 ∧ tn i s7.heap ∧ (∀ b ∈ fp, H' b = none) ∧ W i m σ' H' := fun {σ7 H7} I7 n7 => by
      obtain ⟨m', hm, w7⟩ := hN σ7 H7 n7
      refine ⟨m', hm, i + 1, σ7, H7, I7.unpinned, T.keep _ _ _ st5 fun b hb o e => (I7.pin (b, o) (List.mem_append_right _ (List.mem_append_right _ (mem_pinsAt hb e)))).1, fun b hb => ?_, w7⟩
      obtain ⟨o, e, d⟩ := T.obj _ _ st5 b hb
      exact (I7.pin (b, o) (List.mem_append_right _ (List.mem_append_right _ (mem_pinsAt hb e)))).2.1
    cases f with
    | next => obtain ⟨σ7, H7, I7, n7⟩ := q7; exact again I7 n7
    | cont => obtain ⟨σ7, H7, I7, n7⟩ := q7; exact again I7 n7
    | brk => obtain ⟨σ7, H7, I7, q7⟩ := q7; exact ⟨σ7, H7, I7.unpinned, q7⟩
    | ret v => obtain ⟨x7, σ7, H7, I7, r7, q7⟩ := q7; exact ⟨x7, σ7, H7, I7.unpinned, r7, q7⟩
end
/-! ### the forms one uses -/
/-- over a list that the body leaves as it is -/
theorem for_list {K : PySem.W.Frag} {a : Addr} {xs : List V} {g : TG} {tb : TS} {D : Ends} {σ : St} {H : Hp} (Pv : Nat → St → Hp → Prop) (h0 : Pv 0 σ H) (hl : ∀ i σ H, i ≤ xs.length → Pv i σ H → SqL K H a xs)
    (hs : ∀ i x σ H, xs[i]? = some x → Pv i σ H → g x σ H fun σ2 H2 => tb { D with nx := Pv (i + 1), ct := Pv (i + 1), bk := D.nx } σ2 H2) (hd : ∀ σ H, Pv xs.length σ H → D.nx σ H) :
    ∃ W : Nat → Nat → St → Hp → Prop, (∃ m, W 0 m σ H) ∧ ∀ i m σ H, W i m σ H →
      ((Itl K a).stop i H ∧ D.nx σ H) ∨ ((Itl K a).go i H ∧ ∃ N : St → Hp → Prop, (∀ σ' H', N σ' H' → ∃ m', m' < m ∧ W (i + 1) m' σ' H') ∧ ∀ x H', (Itl K a).yld i H x H' → g x σ H' fun σ2 H2 => tb { D with nx := N, ct := N, bk := D.nx } σ2 H2) := by
  refine ⟨fun i m σ H => m = xs.length - i ∧ i ≤ xs.length ∧ Pv i σ H, ⟨xs.length, by simp, Nat.zero_le _, h0⟩, ?_⟩
  rintro i m σ H ⟨rfl, hi, p⟩
  have q := hl i σ H hi p
  by_cases hlt : i < xs.length
  · refine .inr ⟨⟨xs, xs[i], q, by simp [hlt]⟩, Pv (i + 1), fun σ' H' p' => ⟨xs.length - (i + 1), by omega, rfl, hlt, p'⟩, fun x H' y => ?_⟩
    obtain ⟨e, y⟩ := y
    subst e
    exact hs i x σ _ (y xs q) p
  · have e : i = xs.length := by omega
    subst e
    exact .inl ⟨⟨xs, q, Nat.le_refl _⟩, hd σ H p⟩
/-- while, by a word and a measure of the state -/
theorem while_by {c : TT} {tb : TS} {D : Ends} {σ : St} {H : Hp} (Pv : St → Hp → Prop) (μ : St → Hp → Nat) (h0 : Pv σ H)
    (hs : ∀ σ H, Pv σ H → c σ H fun b H1 => if b = true then tb { D with nx := fun σ' H' => Pv σ' H' ∧ μ σ' H' < μ σ H, ct := fun σ' H' => Pv σ' H' ∧ μ σ' H' < μ σ H, bk := D.nx } σ H1 else D.nx σ H1)
    (mono : ∀ σ H Q Q', (∀ b H1, Q b H1 → Q' b H1) → c σ H Q → c σ H Q') : tWhile c tb D σ H := by
  refine ⟨fun m σ H => m = μ σ H ∧ Pv σ H, ⟨_, rfl, h0⟩, ?_⟩
  rintro m σ H ⟨rfl, p⟩
  refine mono σ H _ _ (fun b H1 q => ?_) (hs σ H p)
  cases b with
  | true => exact ⟨_, fun σ' H' ⟨p', l⟩ => ⟨_, l, rfl, p'⟩, q⟩
  | false => exact q
end L2
namespace L2
open PySem PySem.Spec PyProof.Rows
abbrev R2 := V → V → Hp → VK → Prop
/-- a two-place operation on values: f is binaryOp op, inplaceOp op or compareOp op -/
def OpR (X : Cx) (f : Value → Value → Sem Value) (r : R2) : Prop :=
  ∀ (pins : List (Addr × Obj)) (s : Shared) (σ : St) (H : Hp) (x y : V) (v u : Value) (Q : VK), Inv X pins σ H s → RelV x v → RelV y u → r x y H Q →
    wpAny (model X.prog X.w) X.A (f v u) (EP X pins σ Q) X.xe s
/-- a call of a value that is known (a builtin, a type) with values -/
def CallR (X : Cx) (f : Value) (r : List V → Hp → VK → Prop) : Prop :=
  ∀ (pins : List (Addr × Obj)) (s : Shared) (σ : St) (H : Hp) (xs : List V) (us : List Value) (Q : VK), Inv X pins σ H s → Vals xs us → r xs H Q →
    wpAny (model X.prog X.w) X.A (call f us) (EP X pins σ Q) X.xe s
def tOp (r : R2) (ta tb : TE) : TE := fun σ H Q => ta σ H fun x H1 => tb σ H1 fun y H2 => r x y H2 Q
/-- ints in, under C, and a value out -/
def rI (C : Int → Int → Prop) (g : Int → Int → V) : R2 := fun x y H Q => ∃ i j, x = .int i ∧ y = .int j ∧ C i j ∧ Q (g i j) H
def rI0 (g : Int → Int → V) : R2 := fun x y H Q => ∃ i j, x = .int i ∧ y = .int j ∧ Q (g i j) H
section
variable {X : Cx} {a b c : Expr} {ta tb tc : TE} {pos : Pos}
theorem binT (ha : PE X a ta) (hb : PE X b tb) {pins : List (Addr × Obj)} {s : Shared} {σ : St} {H : Hp} {R : V → V → Hp → Prop} (I : Inv X pins σ H s)
    (h : ta σ H fun x H1 => tb σ H1 fun y H2 => R x y H2) {Q : Value → Shared → Prop} {f : Value → Value → Sem Value}
    (hf : ∀ v u s2 x y H2, Inv X pins σ H2 s2 → RelV x v → RelV y u → R x y H2 → wpAny (model X.prog X.w) X.A (f v u) Q X.xe s2) :
    wpAny (model X.prog X.w) X.A (eval a X.env) (fun v s₁ => wpAny (model X.prog X.w) X.A (eval b X.env) (fun u s₂ => wpAny (model X.prog X.w) X.A (f v u) Q X.xe s₂) X.xe s₁) X.xe s := by
  refine thn (ha pins s σ H _ I h) fun v s1 ⟨x, H1, I1, r1, q1⟩ => ?_
  refine thn (hb pins s1 σ H1 _ I1 q1) fun u s2 ⟨y, H2, I2, r2, q2⟩ => ?_
  exact hf v u s2 x y H2 I2 r1 r2 q2
theorem pe_op {op : Operator} {r : R2} (ho : OpR X (binaryOp op) r) (ha : PE X a ta) (hb : PE X b tb) : PE X (.BinOp a op b pos) (tOp r ta tb) := by
  intro pins s σ H Q I h
  exact wpAny_BinOp (binT ha hb I h fun v u s2 x y H2 I2 rx ry q => ho pins s2 σ H2 x y v u Q I2 rx ry q)
/-! ### ints -/
theorem opI {f : Value → Value → Sem Value} {C : Int → Int → Prop} {g : Int → Int → Int}
    (rule : ∀ (i j : Int) (t u : Tok) (s : Shared) (Q : Value → Shared → Prop) (E : Value → Shared → Prop), C i j → Q (.int (g i j) s.toks) { s with toks := s.toks + 1 } → wpAny (model X.prog X.w) X.A (f (.int i t) (.int j u)) Q E s) :
    OpR X f (rI C fun i j => .int (g i j)) := by
  intro pins s σ H x y v u Q I rx ry h
  obtain ⟨i, j, rfl, rfl, hc, q⟩ := h
  obtain ⟨t, rfl⟩ := rx
  obtain ⟨t', rfl⟩ := ry
  exact rule i j t t' s _ _ hc ⟨.int (g i j), H, I.tok _, ⟨_, rfl⟩, q⟩
theorem opI0 {f : Value → Value → Sem Value} {g : Int → Int → Int}
    (rule : ∀ (i j : Int) (t u : Tok) (s : Shared) (Q : Value → Shared → Prop) (E : Value → Shared → Prop), Q (.int (g i j) s.toks) { s with toks := s.toks + 1 } → wpAny (model X.prog X.w) X.A (f (.int i t) (.int j u)) Q E s) :
    OpR X f (rI0 fun i j => .int (g i j)) := by
  intro pins s σ H x y v u Q I rx ry h
  obtain ⟨i, j, rfl, rfl, q⟩ := h
  obtain ⟨t, rfl⟩ := rx
  obtain ⟨t', rfl⟩ := ry
  exact rule i j t t' s _ _ ⟨.int (g i j), H, I.tok _, ⟨_, rfl⟩, q⟩
theorem opB0 {f : Value → Value → Sem Value} {g : Int → Int → Bool}
    (rule : ∀ (i j : Int) (t u : Tok) (s : Shared) (Q : Value → Shared → Prop) (E : Value → Shared → Prop), Q (.bool (g i j)) s → wpAny (model X.prog X.w) X.A (f (.int i t) (.int j u)) Q E s) :
    OpR X f (rI0 fun i j => .bl (g i j)) := by
  intro pins s σ H x y v u Q I rx ry h
  obtain ⟨i, j, rfl, rfl, q⟩ := h
  obtain ⟨t, rfl⟩ := rx
  obtain ⟨t', rfl⟩ := ry
  exact rule i j t t' s _ _ ⟨.bl (g i j), H, I, rfl, q⟩
def CMul (i j : Int) : Prop := (-(2 ^ 64) < i ∧ i < 2 ^ 64) ∨ (-(2 ^ 64) < j ∧ j < 2 ^ 64)
theorem CMul.ok {i j : Int} (h : CMul i j) : IntMulOk i j := by
  rcases h with ⟨h1, h2⟩ | ⟨h1, h2⟩
  · exact .of_left (intBits_le_64 h1 h2)
  · exact .of_right (intBits_le_64 h1 h2)
theorem op_add : OpR X (binaryOp .Add) (rI0 fun i j => .int (i + j)) := opI0 fun _ _ _ _ _ _ _ q => add_int q
theorem op_sub : OpR X (binaryOp .Sub) (rI0 fun i j => .int (i - j)) := opI0 fun _ _ _ _ _ _ _ q => sub_int q
theorem op_mul : OpR X (binaryOp .Mult) (rI CMul fun i j => .int (i * j)) := opI fun _ _ _ _ _ _ _ hc q => mul_int q hc.ok
theorem op_and : OpR X (binaryOp .BitAnd) (rI0 fun i j => .int (Builtin.bitAnd i j)) := opI0 fun _ _ _ _ _ _ _ q => and_int q
theorem op_or : OpR X (binaryOp .BitOr) (rI0 fun i j => .int (Builtin.bitOr i j)) := opI0 fun _ _ _ _ _ _ _ q => or_int q
/-! ### bools among ints: n += (a < b) -/
end
/-! ### comparisons -/
/-- the scalars that == tells apart as data does -/
def scal : V → V → Bool
  | .non, .non => true | .non, .int _ => true | .int _, .non => true | .non, .bl _ => true | .bl _, .non => true | .non, .str _ => true | .str _, .non => true
  | .int _, .int _ => true | .bl _, .bl _ => true | .str _, .str _ => true | .byt _, .byt _ => true
  | .int _, .str _ => true | .str _, .int _ => true | .bl _, .str _ => true | .str _, .bl _ => true
  | _, _ => false
def rEq : R2 := fun x y H Q => scal x y = true ∧ Q (.bl (decide (x = y))) H
def rNe : R2 := fun x y H Q => scal x y = true ∧ Q (.bl (!decide (x = y))) H
theorem dec_int {i j : Int} : decide (V.int i = V.int j) = (i == j) := by
  rw [Bool.eq_iff_iff]
  simp
theorem dec_bl {i j : Bool} : decide (V.bl i = V.bl j) = (i == j) := by
  rw [Bool.eq_iff_iff]
  simp
theorem dec_str {i j : Str} : decide (V.str i = V.str j) = (i == j) := by
  rw [Bool.eq_iff_iff]
  simp
theorem dec_byt {i j : Array UInt8} : decide (V.byt i = V.byt j) = (i.toList == j.toList) := by
  rw [Bool.eq_iff_iff]
  cases i
  cases j
  simp
section
variable {X : Cx} {a b c : Expr} {ta tb tc : TE} {pos : Pos}
theorem fin_bl {pins : List (Addr × Obj)} {σ : St} {H : Hp} {s : Shared} {Q : VK} {k k' : Bool} (I : Inv X pins σ H s) (q : Q (.bl k) H) (e : k = k') : EP X pins σ Q (.bool k') s := by
  subst e
  exact ⟨.bl k, H, I, rfl, q⟩
theorem op_eq : OpR X (compareOp .Eq) rEq := by
  intro pins s σ H x y v u Q I rx ry h
  obtain ⟨hs, q⟩ := h
  cases x with
  | non =>
    cases rx
    cases y with
    | non => cases ry; exact PySem.EqNone.eq_none_none (fin_bl I q (by simp))
    | bl j => cases ry; exact PySem.EqNone.eq_none_bool (fin_bl I q (by simp))
    | int j => obtain ⟨t', rfl⟩ := ry; exact PySem.EqNone.eq_none_int (fin_bl I q (by simp))
    | str j => obtain ⟨t', rfl⟩ := ry; exact PySem.EqNone.eq_none_str (fin_bl I q (by simp))
    | _ => exact absurd (show false = true from hs) Bool.false_ne_true
  | bl i =>
    cases rx
    cases y with
    | non => cases ry; exact PySem.EqNone.eq_bool_none (fin_bl I q (by simp))
    | bl j => cases ry; exact eq_bool (fin_bl I q dec_bl)
    | str j => obtain ⟨t', rfl⟩ := ry; exact PySem.EqMixed.eq_bool_str (fin_bl I q (by simp))
    | _ => exact absurd (show false = true from hs) Bool.false_ne_true
  | int i =>
    obtain ⟨t, rfl⟩ := rx
    cases y with
    | non => cases ry; exact PySem.EqNone.eq_int_none (fin_bl I q (by simp))
    | int j => obtain ⟨t', rfl⟩ := ry; exact eq_int (fin_bl I q dec_int)
    | str j => obtain ⟨t', rfl⟩ := ry; exact PySem.EqMixed.eq_int_str (fin_bl I q (by simp))
    | _ => exact absurd (show false = true from hs) Bool.false_ne_true
  | str i =>
    obtain ⟨t, rfl⟩ := rx
    cases y with
    | non => cases ry; exact PySem.EqNone.eq_str_none (fin_bl I q (by simp))
    | bl j => cases ry; exact PySem.EqMixed.eq_str_bool (fin_bl I q (by simp))
    | int j => obtain ⟨t', rfl⟩ := ry; exact PySem.EqMixed.eq_str_int (fin_bl I q (by simp))
    | str j => obtain ⟨t', rfl⟩ := ry; exact eq_str (fin_bl I q dec_str)
    | _ => exact absurd (show false = true from hs) Bool.false_ne_true
  | byt i =>
    obtain ⟨t, rfl⟩ := rx
    cases y with
    | byt j => obtain ⟨t', rfl⟩ := ry; exact PySem.W.eq_bytes (fin_bl I q dec_byt)
    | _ => exact absurd (show false = true from hs) Bool.false_ne_true
  | _ => cases y <;> exact absurd (show false = true from hs) Bool.false_ne_true
theorem op_ne : OpR X (compareOp .NotEq) rNe := by
  intro pins s σ H x y v u Q I rx ry h
  obtain ⟨hs, q⟩ := h
  cases x with
  | non =>
    cases rx
    cases y with
    | non => cases ry; exact PySem.EqNone.ne_none_none (fin_bl I q (by simp))
    | bl j => cases ry; exact PySem.EqNone.ne_none_bool (fin_bl I q (by simp))
    | int j => obtain ⟨t', rfl⟩ := ry; exact PySem.EqNone.ne_none_int (fin_bl I q (by simp))
    | str j => obtain ⟨t', rfl⟩ := ry; exact PySem.EqNone.ne_none_str (fin_bl I q (by simp))
    | _ => exact absurd (show false = true from hs) Bool.false_ne_true
  | bl i =>
    cases rx
    cases y with
    | non => cases ry; exact PySem.EqNone.ne_bool_none (fin_bl I q (by simp))
    | bl j => cases ry; exact ne_bool (fin_bl I q (congrArg not dec_bl))
    | str j => obtain ⟨t', rfl⟩ := ry; exact PySem.EqMixed.ne_bool_str (fin_bl I q (by simp))
    | _ => exact absurd (show false = true from hs) Bool.false_ne_true
  | int i =>
    obtain ⟨t, rfl⟩ := rx
    cases y with
    | non => cases ry; exact PySem.EqNone.ne_int_none (fin_bl I q (by simp))
    | int j => obtain ⟨t', rfl⟩ := ry; exact ne_int (fin_bl I q (congrArg not dec_int))
    | str j => obtain ⟨t', rfl⟩ := ry; exact PySem.EqMixed.ne_int_str (fin_bl I q (by simp))
    | _ => exact absurd (show false = true from hs) Bool.false_ne_true
  | str i =>
    obtain ⟨t, rfl⟩ := rx
    cases y with
    | non => cases ry; exact PySem.EqNone.ne_str_none (fin_bl I q (by simp))
    | bl j => cases ry; exact PySem.EqMixed.ne_str_bool (fin_bl I q (by simp))
    | int j => obtain ⟨t', rfl⟩ := ry; exact PySem.EqMixed.ne_str_int (fin_bl I q (by simp))
    | str j => obtain ⟨t', rfl⟩ := ry; exact ne_str (fin_bl I q (congrArg not dec_str))
    | _ => exact absurd (show false = true from hs) Bool.false_ne_true
  | byt i =>
    obtain ⟨t, rfl⟩ := rx
    cases y with
    | byt j => obtain ⟨t', rfl⟩ := ry; exact PySem.W.ne_bytes (fin_bl I q (congrArg not dec_byt))
    | _ => exact absurd (show false = true from hs) Bool.false_ne_true
  | _ => cases y <;> exact absurd (show false = true from hs) Bool.false_ne_true
theorem op_lt : OpR X (compareOp .Lt) (rI0 fun i j => .bl (decide (i < j))) := opB0 fun _ _ _ _ _ _ _ q => lt_int q
theorem op_le : OpR X (compareOp .LtE) (rI0 fun i j => .bl (decide (i ≤ j))) := opB0 fun _ _ _ _ _ _ _ q => le_int q
theorem op_gt : OpR X (compareOp .Gt) (rI0 fun i j => .bl (decide (j < i))) := opB0 fun _ _ _ _ _ _ _ q => gt_int q
theorem op_ge : OpR X (compareOp .GtE) (rI0 fun i j => .bl (decide (j ≤ i))) := opB0 fun _ _ _ _ _ _ _ q => ge_int q
theorem nomark (b : Expr) {op : CmpOp} (h : op ≠ .In := by decide) (h2 : op ≠ .NotIn := by decide) : behindInMarks op b = false := by
  have e1 : (op == CmpOp.In) = false := by cases op <;> first | rfl | exact absurd rfl h
  have e2 : (op == CmpOp.NotIn) = false := by cases op <;> first | rfl | exact absurd rfl h2
  cases b <;> simp [behindInMarks, e1, e2]
/-- a comparison as a value; hm: nomark b, or (for in, not in) by with_unfolding_all rfl -/
theorem pe_cmpR {op : CmpOp} {r : R2} (ho : OpR X (compareOp op) r) (ha : PE X a ta) (hb : PE X b tb) (hm : behindInMarks op b = false) : PE X (.Compare a [op] [b] pos) (tOp r ta tb) := by
  intro pins s σ H Q I h
  exact wpAny_Compare1 (binT ha hb I h fun v u s2 x y H2 I2 rx ry q => ho pins s2 σ H2 x y v u Q I2 rx ry q) hm
/-- a reading of a value as a test -/
def tTest (t : TE) : TT := fun σ H Q => t σ H fun x H' => ∃ k, x = .bl k ∧ Q k H'
theorem pt_cmpR {op : CmpOp} {r : R2} (ho : OpR X (compareOp op) r) (ha : PE X a ta) (hb : PE X b tb) (hm : behindInMarks op b = false) : PT X (.Compare a [op] [b] pos) (tTest (tOp r ta tb)) := by
  intro pins s σ H Q I h
  refine wpAny_isTrue_Compare1 (thn (ha pins s σ H _ I h) fun v s1 ⟨x, H1, I1, r1, q1⟩ => thn (hb pins s1 σ H1 _ I1 q1) fun u s2 ⟨y, H2, I2, r2, q2⟩ =>
    thn (ho pins s2 σ H2 x y v u _ I2 r1 r2 q2) fun c s3 ⟨z, H3, I3, r3, k, e, q3⟩ => ?_) hm
  subst e
  cases r3
  exact wpAny_truthy_bool ⟨H3, I3, q3⟩
/-! ### truth -/
theorem line63 : (sizeLine : Nat) < 2 ^ 63 := by rw [sizeLine_eq]; decide
/-! ### strs and bytes -/
/-! ### scalar builtins, by CallR -/
theorem vals1 {x : V} {us : List Value} (r : Vals [x] us) : ∃ u, us = [u] ∧ RelV x u := by
  cases r with
  | cons r1 r2 => cases r2; exact ⟨_, rfl, r1⟩
theorem vals2 {x y : V} {us : List Value} (r : Vals [x, y] us) : ∃ u w', us = [u, w'] ∧ RelV x u ∧ RelV y w' := by
  cases r with
  | cons r1 r2 =>
    cases r2 with
    | cons r3 r4 => cases r4; exact ⟨_, _, rfl, r1, r3⟩
theorem call_max2 (hc : X.calm = true) : CallR X (.builtin "max") (fun xs H Q => ∃ i j, xs = [.int i, .int j] ∧ Q (.int (if j > i then j else i)) H) := by
  intro pins s σ H xs us Q I r h
  obtain ⟨i, j, rfl, q⟩ := h
  obtain ⟨u, w', rfl, ⟨t, rfl⟩, ⟨t', rfl⟩⟩ := vals2 r
  refine max_two_ints (I.ok.hd hc) fun h' tk k => ⟨_, H, I.kept k, ?_, q⟩
  by_cases hj : j > i
  · rw [if_pos hj, if_pos hj]; exact ⟨_, rfl⟩
  · rw [if_neg hj, if_neg hj]; exact ⟨_, rfl⟩
end
end L2
namespace L2
open PySem PySem.Spec PyProof.Rows
/-! ### an instance, its attributes a map -/
structure ObjM (h : Heap) (x dx C : Addr) (mA : Str → Option Value) : Prop where
  obj : h.get? x = some (PySem.W.instObj C dx)
  ns : h.Ns1 dx mA
  ne : dx ≠ x
section
variable {prog : Program} {w : World} {A : Around} {E : Value → Shared → Prop} {s : Shared} {K : PySem.W.Frag} {x dx C f : Addr} {mA : Str → Option Value} {name : Str} {v : Value}
end
/-! ### the attributes as a list of pairs -/
theorem RelO.some_of {v : V} {o : Option Value} (r : RelO (some v) o) : ∃ u, o = some u ∧ RelV v u := by
  cases o with
  | none => exact (show False from r).elim
  | some u => exact ⟨u, rfl, r⟩
section
variable {P : Program} {w : World} {H H' : Hp} {h h' : Heap} {a C dx : Addr} {fs fs' : List (Str × V)}
end
/-! ### what of the text a class must have -/
structure Cls (K : PySem.W.Frag) (C : Addr) : Prop where
  pg : PySem.W.plainGet K C Str.empty = true
  hd : PySem.W.hasDictIn K C = true
  po : PySem.W.plainOver K C = true
  sa : PySem.W.findIn K (.ref C) "__setattr__" = some (some (.builtin "object.__setattr__"))
/-- a constant of the class -/
structure Con (K : PySem.W.Frag) (C : Addr) (f : Str) (v : V) (u : Value) : Prop where
  at_ : PySem.W.findIn K (.ref C) f = some (some u)
  rel : RelV v u
  get : PySem.W.specialIn K u "__get__" = some none
  cp : PySem.W.copiedNames.contains f = false
/-- a method: a plain def of the class or of one above it -/
structure Meth (K : PySem.W.Frag) (C : Addr) (m : Str) (f : Addr) : Prop where
  at_ : PySem.W.findIn K (.ref C) m = some (some (.ref f))
  fn : PySem.W.isFn K (.ref f) = true
  kp : PySem.W.keepIn K (.ref f) = true
section
variable {X : Cx} {pins : List (Addr × Obj)} {σ : St} {H : Hp} {s : Shared} {a C dx : Addr} {fs : List (Str × V)} {f : Str} {v : V} {A : Around} {E : Value → Shared → Prop}
end
/-! ### readings and rules -/
section
variable {X : Cx} {o e value : Expr} {f : Str} {pos pos' tpos : Pos} {ta tv : TE}
end
/-! ### isinstance -/
section
variable {X : Cx} {pins : List (Addr × Obj)} {σ : St} {H : Hp} {s : Shared} {A : Around} {E : Value → Shared → Prop} {Q : Value → Shared → Prop} {c : Value} {b : Bool}
/-- the type of a value, as the fragment's deciders take it; for an instance its class -/
inductive TyOf (K : PySem.W.Frag) (H : Hp) : V → Value → Prop where
  | non : TyOf K H .non (.type "NoneType")
  | bl (x : Bool) : TyOf K H (.bl x) (.type "bool")
  | int (i : Int) : TyOf K H (.int i) (.type "int")
  | str (x : Str) : TyOf K H (.str x) (.type "str")
  | flt (x : UInt64) : TyOf K H (.flt x) (.type "float")
  | lst {a : Addr} {xs : List V} (e : H a = some (.lst xs)) : TyOf K H (.ref a) (.type "list")
  | frz {a : Addr} {o : Obj} {xs : List V} (e : H a = some (.frz o (.lst xs))) : TyOf K H (.ref a) (.type "list")
  | tup {a : Addr} {xs : List V} (e : H a = some (.tup xs)) : TyOf K H (.ref a) (.type "tuple")
  | dK {a : Addr} {kvs : List (Key × V)} (e : H a = some (.dK kvs)) : TyOf K H (.ref a) (.type "dict")
  | dT {a : Addr} {kvs : List (List Key × V)} (e : H a = some (.dT kvs)) : TyOf K H (.ref a) (.type "dict")
  | ins {a C dx : Addr} {fs : List (Str × V)} (e : H a = some (.ins C dx fs)) (cl : Cls K C) (ha : PySem.W.findIn K (.ref C) "__class__" = some (some (.builtin "object.__class__")))
      (hn : PySem.W.specialIn K (.builtin "object.__class__") "__get__" = some (some (.builtin "getset_descriptor.__get__"))) (htk : PySem.W.takesIn K (.builtin "object.__class__") = some true)
      (hm : PySem.W.mroIn K C (.type "object") = some true) : TyOf K H (.ref a) (.ref C)
end
end L2
namespace L2
open PySem PySem.Spec PyProof.Rows
/-! ### room -/
structure Room (k : Nat) (A : Around) : Prop where
  hd : A.handled = none
  dp : A.depth + 3 * k + 5 < recursionLimit
  un : A.units + 16 * k + 200 < cLine
theorem Room.mono {j k : Nat} {A : Around} (r : Room k A) (h : j ≤ k) : Room j A := ⟨r.hd, by have := r.dp; omega, by have := r.un; omega⟩
theorem Room.deeper {k : Nat} {A : Around} (r : Room (k + 1) A) (env : Env) : Room k (A.deeper env) :=
  ⟨r.hd, by have := r.dp; show A.depth + 1 + 3 * k + 5 < _; omega, by have := r.un; show A.units + 3 + 16 * k + 200 < _; omega⟩
theorem Room.in1 {k : Nat} {A : Around} (r : Room (k + 1) A) : Room k A.in1 :=
  ⟨r.hd, by have := r.dp; show A.depth + 3 * k + 5 < _; omega, by have := r.un; show A.units + 1 + 16 * k + 200 < _; omega⟩
theorem Room.depth {k : Nat} {A : Around} (r : Room k A) : A.depth < recursionLimit := by have := r.dp; omega
theorem Room.units {k : Nat} {A : Around} (r : Room k A) : A.units + 64 < cLine := by have := r.un; omega
/-! ### argument lists and displays -/
def tNil : TA := fun _ H Q => Q [] H
def tCons (ta : TE) (tr : TA) : TA := fun σ H Q => ta σ H fun x H1 => tr σ H1 fun xs H2 => Q (x :: xs) H2
section
variable {X : Cx} {e : Expr} {es : List Expr} {te : TE} {t : TA} {pos : Pos}
theorem pa_nil : PA X [] tNil := fun _ _ _ _ H Q I h => Calls.spliced_nil ⟨[], H, I, .nil, h⟩
theorem pa_cons (ha : PE X e te) (hr : PA X es t) (hs : starEach (e :: es) X.env = (false, eval e X.env) :: starEach es X.env := by rfl) : PA X (e :: es) (tCons te t) := by
  intro pos pins s σ H Q I h
  rw [hs]
  show wpAny _ _ (spliced ((false, eval e X.env) :: backTo pos (starEach es X.env))) _ _ s
  refine Calls.spliced_cons (thn (ha pins s σ H _ I h) fun u s1 ⟨x, H1, I1, r1, q1⟩ => ?_)
  exact thn (hr pos pins s1 σ H1 _ I1 q1) fun us s2 ⟨xs, H2, I2, r2, q2⟩ => ⟨x :: xs, H2, I2, .cons r1 r2, q2⟩
/-- a tuple, a list of written items -/
def tTup (t : TA) : TE := fun σ H Q => t σ H fun xs H1 => xs.length ≤ sizeLine ∧ ∀ p, H1 p = none → Q (.ref p) (upd H1 p (.tup xs))
def tLst (t : TA) : TE := fun σ H Q => t σ H fun xs H1 => xs.length ≤ sizeLine ∧ ∀ p, H1 p = none → Q (.ref p) (upd H1 p (.lst xs))
theorem pe_tup {x1} (h : PA X es t) : PE X (.Tuple es x1 pos) (tTup t) := by
  intro pins s σ H Q I hq
  refine wpAny_Tuple_spliced (thn (h pos pins s σ H _ I hq) fun us s1 ⟨xs, H1, I1, r, z, q⟩ => ⟨by rw [← r.length]; exact z, ?_⟩)
  have hf : H1 s1.heap.objs.size = none := I1.hok.fresh (Nat.le_refl _)
  refine ⟨.ref s1.heap.objs.size, upd H1 s1.heap.objs.size (.tup xs), I1.laid (t' := s1.toks) (fun b u e => Heap.get?_push_of_some _ e) (Nat.le_refl _) ?_, rfl, q _ hf⟩
  exact ⟨z, us, r, ⟨_, Heap.get?_push_size _ rfl, rfl, _, rfl⟩⟩
theorem pe_lst (h : PA X es t) : PE X (.List es pos) (tLst t) := by
  intro pins s σ H Q I hq
  refine wpAny_List_spliced (thn (h pos pins s σ H _ I hq) fun us s1 ⟨xs, H1, I1, r, z, q⟩ => ⟨by rw [← r.length]; exact z, ?_⟩)
  have hf : H1 s1.heap.objs.size = none := I1.hok.fresh (Nat.le_refl _)
  refine ⟨.ref s1.heap.objs.size, upd H1 s1.heap.objs.size (.lst xs), I1.laid (t' := s1.toks) (fun b u e => Heap.get?_push_of_some _ e) (Nat.le_refl _) ?_, rfl, q _ hf⟩
  exact ⟨z, us, 0, r, Heap.get?_push_size _ rfl⟩
end
/-! ### what a def promises -/
/-- a def's promise: the bound arguments in the parameters' order, the heap, the wanted end, the wanted exception -/
abbrev Sp := List V → Hp → VK → XK → Prop
/-- how an exception lies behind a call (file 08 gives it): the callers' frames, abstract heap and state ahead of the call, the wish, the exception, the state -/
abbrev CXT := List Env → Hp → Shared → XK → Value → Shared → Prop
/-- the state at a call -/
structure Env0 (P : Program) (w : World) (K : PySem.W.Frag) (mg : Str → Option Value) (base : Heap) (A : Around) (outer : List Env) (s : Shared) (H : Hp) : Prop where
  frames : A.frames = some outer
  mod : Mod K mg base
  bs : ∀ b o, base.get? b = some o → s.heap.get? b = some o ∧ H b = none
  bsz : base.objs.size ≤ s.heap.objs.size
  funs : s.heap.FunFrames base outer
  frf : ∀ b ∈ frs outer, H b = none
  hok : HOk P w H s.heap
  bare : AllBare s.gens
/-- a call's end -/
def CE (outer : List Env) (P : Program) (w : World) (H : Hp) (s : Shared) (Q : VK) (u : Value) (s' : Shared) : Prop :=
  ∃ v H', s'.os = s.os ∧ AllBare s'.gens ∧ Un (frs outer) [] H H' s.heap s'.heap ∧ HOk P w H' s'.heap ∧ RelV v u ∧ Q v H'
def CR (CX : CXT) (outer : List Env) (P : Program) (w : World) (H : Hp) (s : Shared) (Q : VK) (E : XK) (r : Result) (s' : Shared) : Prop :=
  match r with
  | .ok (.ret u) => CE outer P w H s Q u s'
  | .ok _ => False
  | .error e => CX outer H s E e s'
structure FnOk (P : Program) (w : World) (K : PySem.W.Frag) (mg : Str → Option Value) (base : Heap) (CX : CXT) (k : Nat) (f : Addr) (fd : FuncData) (ps : List Str) (sp : Sp) : Prop where
  len : ∀ vs H Q E, sp vs H Q E → vs.length = ps.length
  run : ∀ (A : Around) (outer : List Env) (s : Shared) (H : Hp) (args : Args) (us : List Value) (vs : List V) (Q : VK) (E : XK), Room k A → Env0 P w K mg base A outer s H → BindsTo s fd args (ps.zip us) → Vals vs us → sp vs H Q E →
    codeAny (model P w) A (.call (.ref f) args) (CR CX outer P w H s Q E) s
theorem Env0.in1 {P : Program} {w : World} {K : PySem.W.Frag} {mg : Str → Option Value} {base : Heap} {A : Around} {outer : List Env} {s : Shared} {H : Hp} (e : Env0 P w K mg base A outer s H) :
    Env0 P w K mg base A.in1 outer s H := ⟨e.frames, e.mod, e.bs, e.bsz, e.funs, e.frf, e.hok, e.bare⟩
section
variable {X : Cx} {pins : List (Addr × Obj)} {σ : St} {H : Hp} {s s' : Shared}
/-- from a body: what a callee wants -/
theorem Inv.env0 (I : Inv X pins σ H s) : Env0 X.prog X.w X.K X.mg X.base X.A X.stack s H :=
  ⟨I.ok.frames, I.ok.mod, I.bs, Nat.le_trans I.ok.bsz I.sz, I.stack, I.stkFree, I.hok, I.bare⟩
/-- behind a call -/
theorem Inv.after {Q : VK} {u : Value} (I : Inv X pins σ H s) (h : CE X.stack X.prog X.w H s Q u s') : EP X pins σ Q u s' := by
  obtain ⟨v, H', os, bare, un, hok, r, q⟩ := h
  obtain ⟨hh, g, d, t, os'⟩ := s'
  obtain rfl : os' = s.os := os
  exact ⟨v, H', I.call (h' := hh) (g' := g) (d' := d) (t' := t) (ch := []) un hok bare (fun b z => absurd z (by simp)), r, q⟩
end
/-! ### calls -/
/-- f(..): the written arguments, then the defaults dvs; E: what is wanted of an exception -/
def tCall (sp : Sp) (dvs : List V) (E : XK) (t : TA) : TE := fun σ H Q => t σ H fun vs H1 => sp (vs ++ dvs) H1 Q E
/-- how the parameters are bound: us the positional arguments, kw the keywords' values by name, ds the defaults that fill up -/
def Binds (K : PySem.W.Frag) (fd : FuncData) (ps : List Str) (ds : List Value) : Prop :=
  ∀ (s : Shared) (us : List Value), K.In s.heap → (us ++ ds).length = ps.length → BindsTo s fd ⟨us, []⟩ (ps.zip (us ++ ds))
/-- every parameter is given -/
theorem Binds.all {K : PySem.W.Frag} {fd : FuncData} {ps : List Str} (h : ∀ us : List Value, us.length = ps.length → bindArgs fd ⟨us, []⟩ = pure (ps.zip us)) : Binds K fd ps [] := fun s us _ hl => by
  rw [List.append_nil] at hl ⊢
  exact .of_eq (h us hl)
/-- an exception of a callee reaches what this body wants of exceptions -/
def Passes (CX : CXT) (X : Cx) (E : XK) : Prop := ∀ (pins : List (Addr × Obj)) (σ : St) (H : Hp) (s : Shared) (e : Value) (s' : Shared), Inv X pins σ H s → CX X.stack H s E e s' → X.xe e s'
section
variable {X : Cx} {CX : CXT} {k : Nat} {f C : Addr} {fd : FuncData} {ps : List Str} {sp : Sp} {dvs : List V} {ds : List Value} {E : XK} {x m : Str} {p pos apos : Pos} {e o : Expr} {es : List Expr} {ta : TE} {t : TA}
/-- the callee runs -/
theorem run_fn {pins : List (Addr × Obj)} {σ : St} {H : Hp} {s : Shared} {Q : VK} {us : List Value} {vs : List V} (F : FnOk X.prog X.w X.K X.mg X.base CX k f fd ps sp) (hr : Room k X.A) (hb : Binds X.K fd ps ds) (hd : Vals dvs ds) (hx : Passes CX X E)
    (I : Inv X pins σ H s) (r : Vals vs us) (h : sp (vs ++ dvs) H Q E) : wpAny (model X.prog X.w) X.A (call (.ref f) us) (EP X pins σ Q) X.xe s := by
  have r2 : Vals (vs ++ dvs) (us ++ ds) := r.append hd
  have hl : (us ++ ds).length = ps.length := by rw [← r2.length]; exact F.len _ _ _ _ h
  refine wpAny_call (codeAny_mono (F.run X.A X.stack s H ⟨us, []⟩ (us ++ ds) (vs ++ dvs) Q E hr I.env0 (hb s us I.kIn hl) r2 h) fun r s' hq => ?_)
  cases r with
  | error e => exact hx pins σ H s e s' I hq
  | ok fl =>
    cases fl with
    | ret u => exact I.after hq
    | next => exact False.elim hq
    | brk => exact False.elim hq
    | cont => exact False.elim hq
theorem pe_call (F : FnOk X.prog X.w X.K X.mg X.base CX k f fd ps sp) (hr : Room k X.A) (hg : Gl X x) (hm : X.mg x = some (.ref f)) (hk : PySem.W.keepIn X.K (.ref f) = true) (hb : Binds X.K fd ps ds) (hd : Vals dvs ds) (hx : Passes CX X E)
    (ha : PA X (e :: es) t) (hdb : (x == ("__debug__" : Str)) = false := by decide) (he : starEach (e :: es) X.env = (false, eval e X.env) :: starEach es X.env := by rfl) (hpl : (backTo pos (starEach es X.env)).any (·.1) = false := by rfl) :
    PE X (.Call (.Name x p) (e :: es) [] pos) (tCall sp dvs E t) := by
  intro pins s σ H Q I h
  refine wpAny_Call_Name_kw (ld_glob I hg hm ?_ hdb)
  refine PySem.W.callWith_K (h₀ := X.base) I.ok.mod.kin hk (thn (ha pos pins s σ H _ I h) fun us s1 ⟨vs, H1, I1, r, q⟩ => ⟨I1.kIn, ?_⟩) he hpl
  exact run_fn F hr hb hd hx I1 r q
/-- what a class must have to be made -/
structure Mk (K : PySem.W.Frag) (C f : Addr) : Prop where
  makes : PySem.W.makesIn K C = true
  init : PySem.W.findIn K (.ref C) "__init__" = some (some (.ref f))
  fn : PySem.W.isFn K (.ref f) = true
  kp : PySem.W.keepIn K (.ref C) = true
end
/-! ### keywords -/
/-- the values of the keywords, from the left -/
def PK (X : Cx) (kws : List Keyword) (t : TA) : Prop :=
  ∀ (pos : Pos) (pins : List (Addr × Obj)) (s : Shared) (σ : St) (H : Hp) (Q : List V → Hp → Prop), Inv X pins σ H s → t σ H Q → wpAny (model X.prog X.w) X.A (evalAll ((backToKw pos (keywordEach kws X.env)).map (·.2))) (AP X pins σ Q) X.xe s
section
variable {X : Cx} {CX : CXT} {k : Nat} {f C : Addr} {fd : FuncData} {ps ks : List Str} {sp : Sp} {E : XK} {x m : Str} {p pos apos kpos : Pos} {e o : Expr} {es : List Expr} {kws : List Keyword} {te ta : TE} {t tk : TA} {nm : Option Str}
theorem pk_nil : PK X [] tNil := fun _ _ _ _ H Q I h => wpAny_evalAll_nil ⟨[], H, I, .nil, h⟩
theorem pk_cons (ha : PE X e te) (hr : PK X kws t) : PK X (⟨nm, e, kpos⟩ :: kws) (tCons te t) := by
  intro pos pins s σ H Q I h
  show wpAny _ _ (evalAll ((do let v ← eval e X.env; standAt pos; pure v) :: (backToKw pos (keywordEach kws X.env)).map (·.2))) _ _ s
  refine wpAny_evalAll_cons (wpAny_bind (thn (ha pins s σ H _ I h) fun u s1 ⟨x, H1, I1, r1, q1⟩ => wpAny_bind (wpAny_standAt (wpAny_pure ?_))))
  exact thn (hr pos pins s1 σ H1 _ I1 q1) fun us s2 ⟨xs, H2, I2, r2, q2⟩ => ⟨x :: xs, H2, I2, .cons r1 r2, q2⟩
/-- how a call with keywords binds: g puts the positional values us and the keywords' values ws (names ks) in the parameters' order, defaults among them -/
structure KBinds (K : PySem.W.Frag) (fd : FuncData) (ps ks : List Str) (g : List Value → List Value → List Value) (gV : List V → List V → List V) : Prop where
  to : ∀ (s : Shared) (us ws : List Value), K.In s.heap → (g us ws).length = ps.length → BindsTo s fd ⟨us, ks.zip ws⟩ (ps.zip (g us ws))
  rel : ∀ {vs : List V} {us : List Value} {zs : List V} {ws : List Value}, Vals vs us → Vals zs ws → Vals (gV vs zs) (g us ws)
variable {g : List Value → List Value → List Value} {gV : List V → List V → List V}
end
/-! ### a def's body keeps its promise -/
/-- names: the parameters first -/
structure FnScope (N P : List Str) (sc : Scope) : Prop where
  kind : sc.kind = .function
  co : sc.isCoroutine = false
  gen : sc.isGenerator = false
  nd : N.Nodup
  pre : N.take P.length = P
  par : ∀ x ∈ P, sc.names.lookup x = some .local ∨ sc.names.lookup x = some .cell
  nofree : ∀ y ∈ sc.names, y.2 ≠ .free
theorem bindL_out {kindOf : Str → Option NameKind} {x : Str} : ∀ {binds : List (Str × Value)} {m : Str → Option Value}, (∀ v, (x, v) ∉ binds) → bindL kindOf binds m x = m x
  | [], _, _ => rfl
  | (n, v) :: r, m, h => by
    unfold bindL
    rw [bindL_out fun w hw => h w (List.mem_cons_of_mem _ hw)]
    split
    · have : x ≠ n := by rintro rfl; exact h v List.mem_cons_self
      simp [this]
    · rfl
theorem bindC_out {kindOf : Str → Option NameKind} {x : Str} : ∀ {binds : List (Str × Value)} {m : Str → Option Value}, (∀ v, (x, v) ∉ binds) → bindC kindOf binds m x = m x
  | [], _, _ => rfl
  | (n, v) :: r, m, h => by
    unfold bindC
    rw [bindC_out fun w hw => h w (List.mem_cons_of_mem _ hw)]
    split
    · rfl
    · have : x ≠ n := by rintro rfl; exact h v List.mem_cons_self
      simp [this]
theorem bindL_get {kindOf : Str → Option NameKind} {x : Str} {v : Value} : ∀ {P : List Str} {vs : List Value} {i : Nat} {m : Str → Option Value}, P.Nodup → P[i]? = some x → vs[i]? = some v → kindOf x = some .local →
    bindL kindOf (P.zip vs) m x = some v
  | [], _, _, _, _, h, _, _ => by simp at h
  | _ :: _, [], _, _, _, _, h, _ => by simp at h
  | p :: P, w :: vs, 0, m, nd, h1, h2, hk => by
    simp at h1 h2; subst h1; subst h2
    show bindL kindOf ((p, w) :: P.zip vs) m p = _
    unfold bindL
    rw [bindL_out fun v hv => (List.nodup_cons.mp nd).1 (List.of_mem_zip hv).1, if_pos hk]
    simp
  | p :: P, w :: vs, i + 1, m, nd, h1, h2, hk => by
    show bindL kindOf ((p, w) :: P.zip vs) m x = _
    unfold bindL
    exact bindL_get (i := i) (List.nodup_cons.mp nd).2 (by simpa using h1) (by simpa using h2) hk
theorem bindC_get {kindOf : Str → Option NameKind} {x : Str} {v : Value} : ∀ {P : List Str} {vs : List Value} {i : Nat} {m : Str → Option Value}, P.Nodup → P[i]? = some x → vs[i]? = some v → kindOf x ≠ some .local →
    bindC kindOf (P.zip vs) m x = some v
  | [], _, _, _, _, h, _, _ => by simp at h
  | _ :: _, [], _, _, _, _, h, _ => by simp at h
  | p :: P, w :: vs, 0, m, nd, h1, h2, hk => by
    simp at h1 h2; subst h1; subst h2
    show bindC kindOf ((p, w) :: P.zip vs) m p = _
    unfold bindC
    rw [bindC_out fun v hv => (List.nodup_cons.mp nd).1 (List.of_mem_zip hv).1, if_neg hk]
    simp
  | p :: P, w :: vs, i + 1, m, nd, h1, h2, hk => by
    show bindC kindOf ((p, w) :: P.zip vs) m x = _
    unfold bindC
    exact bindC_get (i := i) (List.nodup_cons.mp nd).2 (by simpa using h1) (by simpa using h2) hk
/-- the names' values at the entry -/
def start (N : List Str) (vs : List V) : St := vs.map some ++ List.replicate (N.length - vs.length) none
/-- the context of a def's body, at its entry; an exception leaves the frame, then lies as CX says -/
def cxOf (CX : CXT) (P : Program) (w : World) (K : PySem.W.Frag) (mg : Str → Option Value) (base : Heap) (N : List Str) (qual : Str) (scope : Scope) (f : Addr) (cd : Value) (A : Around) (outer : List Env) (s : Shared) (H : Hp) (E : XK) : Cx where
  prog := P
  w := w
  K := K
  mg := mg
  base := base
  A := A.deeper (envOfC qual scope s.heap.objs.size f cd)
  N := N
  s_0 := s
  H_0 := H
  env := envOfC qual scope s.heap.objs.size f cd
  outer := outer
  stack := envOfC qual scope s.heap.objs.size f cd :: outer
  ex := []
  calm := true
  fn := fun _ => true
  pn := []
  xe := fun e s' => wpAny (model P w) (A.deeper (envOfC qual scope s.heap.objs.size f cd)) (leaving (envOfC qual scope s.heap.objs.size f cd) e) (fun _ s'' => CX outer H s E e s'') (fun e' s'' => CX outer H s E e' s'') s'
theorem cell_has {sc : Scope} {n : Nat} {x : Str} (h : sc.names.lookup x = some .cell) : ∃ c, (cellsFrom n sc.names []).lookup x = some c := by
  have q := PySem.W.cellsFrom_some sc.names n [] (.inl h)
  exact Option.isSome_iff_exists.mp q
theorem inv_start {CX : CXT} {P : Program} {w : World} {K : PySem.W.Frag} {mg : Str → Option Value} {base : Heap} {N ps : List Str} {qual : Str} {scope : Scope} {f : Addr} {cd : Value} {A : Around} {outer : List Env} {s s1 : Shared} {H : Hp} {E : XK} {us : List Value} {vs : List V}
    (S : FnScope N ps scope) (hd : A.handled = none) (e0 : Env0 P w K mg base A outer s H) (hl : vs.length = ps.length) (r : Vals vs us)
    (x : InCallC s s.heap.objs.size (bindL (envOfC qual scope s.heap.objs.size f cd).kindOf (ps.zip us) fun _ => none) (cellsFrom (s.heap.objs.size + 1) scope.names []) (bindC (envOfC qual scope s.heap.objs.size f cd).kindOf (ps.zip us) fun _ => none) s1) :
    Inv (cxOf CX P w K mg base N qual scope f cd A outer s H E) [] (start N vs) H s1 := by
  have hpl : ps.length ≤ N.length := by have := congrArg List.length S.pre; rw [List.length_take] at this; omega
  obtain ⟨h1, tk, rfl, hk⟩ := x.done
  have noA : ∀ b : Addr, b ∉ (cxOf CX P w K mg base N qual scope f cd A outer s H E).ex := fun b z => absurd (show b ∈ ([] : List Addr) from z) (by simp)
  refine ⟨⟨e0.mod, S.kind, rfl, rfl, Nat.le_refl _, fun y z c h1 h2 => ?_, fun y hy => ?_, fun y c _ h => ?_, fun _ => hd, Around.frames_deeper e0.frames, .inr ⟨rfl, rfl⟩, fun b z => absurd z (noA b), e0.bs, e0.bsz, fun b _ _ => noA b, fun b z => absurd z (noA b), e0.funs, e0.frf⟩,
    rfl, e0.bare, Un.kept hk, ⟨_, x.toInCall.ns, fun i y v h1 h2 h3 => ?_⟩, fun y c h => ⟨_, x.cell y c h⟩, e0.hok.fresh (Nat.le_refl _), fun y c h => ?_, fun p hp => absurd (show p ∈ ([] : List (Addr × Obj)) from hp) (by simp), e0.hok.kept hk, ?_⟩
  · exact name_of_addr x.apart (PySem.mem_of_lookup h1) (PySem.mem_of_lookup h2)
  · have hy : scope.names.lookup y = some .cell ∨ scope.names.lookup y = some .free := hy
    rcases hy with hy | hy
    · exact cell_has hy
    · exact absurd rfl (S.nofree _ (PySem.mem_of_lookup hy))
  · exact Nat.le_of_lt (x.above y c (PySem.mem_of_lookup h))
  · have hi : i < vs.length := by
      unfold start at h2
      by_cases hi : i < vs.length
      · exact hi
      · rw [List.getElem?_append_right (by simpa using hi)] at h2
        rw [List.getElem?_replicate] at h2
        split at h2 <;> cases h2
    have ha : vs[i]? = some v := by
      unfold start at h2
      rw [List.getElem?_append_left (by simpa using hi), List.getElem?_map] at h2
      cases e : vs[i]? with
      | none => rw [e] at h2; cases h2
      | some a => rw [e] at h2; cases h2; rfl
    obtain ⟨u, hu, rv⟩ := r.get ha
    have hp : ps[i]? = some y := by
      rw [← S.pre, List.getElem?_take_of_lt (by omega)]; exact h1
    have ndP : ps.Nodup := by rw [← S.pre]; exact S.nd.sublist (List.take_sublist _ _)
    refine ⟨u, rv, ?_⟩
    rcases S.par y (List.mem_of_getElem? hp) with k | k
    · exact .inl ⟨k, bindL_get ndP hp hu k⟩
    · obtain ⟨c, e⟩ := cell_has (n := s.heap.objs.size + 1) k
      refine .inr ⟨.inl k, c, e, ?_⟩
      have q := x.cell y c e
      rw [bindC_get ndP hp hu (by show scope.names.lookup y ≠ _; rw [k]; decide)] at q
      exact q
  · exact e0.hok.fresh (Nat.le_of_lt (x.above y c (PySem.mem_of_lookup h)))
  · unfold start
    show _ = N.length
    rw [List.length_append, List.length_map, List.length_replicate]
    omega
/-- THE RULE: a def (or a method) of the text, by its body. The body's reading t is chosen for each entry; it is run at the parameters' values -/
theorem fn_of {CX : CXT} {P : Program} {w : World} {K : PySem.W.Frag} {mg : Str → Option Value} {base : Heap} {k : Nat} {f : Addr} {name qual : Str} {params : Arguments} {body : List Stmt} {scope : Scope} {dV kV doc pm cdv ct oc : Value} {an od : Option Addr}
    {osl : Array (Option Value)} {N ps : List Str} {sp : Sp} (lk : K.lookup f = some ⟨oc, od, .func (PySem.W.fnOf name qual params body scope dV kV doc pm an cdv ct), osl⟩) (hcd : PySem.W.codeIn K cdv qual = true) (S : FnScope N ps scope)
    (len : ∀ vs H Q E, sp vs H Q E → vs.length = ps.length)
    (hbody : ∀ (A : Around) (outer : List Env) (s : Shared) (H : Hp) (vs : List V) (Q : VK) (E : XK), Room k (A.deeper (envOfC qual scope s.heap.objs.size f cdv)) → sp vs H Q E →
      ∃ t, PSs (cxOf CX P w K mg base N qual scope f cdv A outer s H E) body t ∧ t { nx := fun _ H' => Q .non H', rt := Q } (start N vs) H) :
    FnOk P w K mg base CX (k + 1) f (PySem.W.fnOf name qual params body scope dV kV doc pm an cdv ct) ps sp := by
  refine ⟨len, fun A outer s H args us vs Q E hr e0 hb r hsp => ?_⟩
  have hl := len _ _ _ _ hsp
  have KX : K.In s.heap := e0.mod.kin.keeps fun b o e => (e0.bs b o e).1
  have lim : s.heap.NoLimit := e0.mod.nolimit.keeps fun b o e => (e0.bs b o e).1
  have hkind : ∀ y ∈ ps.zip us, scope.names.lookup y.1 = some .local ∨ (scope.names.lookup y.1 = some .cell ∧ ((cellsFrom (s.heap.objs.size + 1) scope.names []).lookup y.1).isSome = true) := fun ⟨n, v⟩ hy => by
    rcases S.par n (List.of_mem_zip hy).1 with q | q
    · exact .inl q
    · exact .inr ⟨q, PySem.W.cellsFrom_some _ _ _ (.inl q)⟩
  refine codeAny_call_function hr.depth (KX _ _ lk) rfl S.co S.gen rfl (PySem.W.codeRec_of KX hcd) (hb _ _ _ _ ?_)
  refine wpAny_newFunctionEnv_cells S.kind hkind fun env he s1 x => ?_
  subst he
  refine ⟨lim.keeps x.toInCall.keep, codeAny_func ?_⟩
  obtain ⟨t, ht, hq⟩ := hbody A outer s H vs Q E (hr.deeper _) hsp
  have I : Inv (cxOf CX P w K mg base N qual scope f cdv A outer s H E) [] (start N vs) H s1 := inv_start S hr.hd e0 hl r x
  refine wpAny_mono (ht [] s1 (start N vs) H _ I hq) (fun fl s' hs => ?_) fun e s' hs => hs
  have fin : ∀ {σ' : St} {H' : Hp} {v : V} {u : Value}, Inv (cxOf CX P w K mg base N qual scope f cdv A outer s H E) [] σ' H' s' → RelV v u → Q v H' → CE outer P w H s Q u s' :=
    fun {σ' H' v u} J rv q => ⟨v, H', J.os, J.bare, J.base, J.hok, rv, q⟩
  cases fl with
  | ret u =>
    obtain ⟨v, σ', H', J, rv, q⟩ := hs
    exact fin J rv q
  | next =>
    obtain ⟨σ', H', J, q⟩ := hs
    exact fin (v := V.non) (u := Value.none) J rfl q
  | brk =>
    obtain ⟨_, _, _, q⟩ := hs
    exact False.elim q
  | cont =>
    obtain ⟨_, _, _, q⟩ := hs
    exact False.elim q
end L2
namespace L2
open PySem PySem.Spec PyProof.Rows
section
variable {X : Cx} {x : Str} {p pos : Pos} {e : Expr} {es : List Expr} {t : TA} {id T : String} {r : List V → Hp → VK → Prop}
def tCB (r : List V → Hp → VK → Prop) (t : TA) : TE := fun σ H Q => t σ H fun vs H1 => r vs H1 Q
/-- f(e, ..), f a built-in function -/
theorem pe_callB (hc : CallR X (.builtin id) r) (hg : Gl X x) (hm : X.mg x = none) (hv : bootBuiltins x = some (.builtin id)) (ha : PA X (e :: es) t) (hn : x ≠ "__name__" := by decide) (hdb : (x == ("__debug__" : Str)) = false := by decide)
    (he : starEach (e :: es) X.env = (false, eval e X.env) :: starEach es X.env := by rfl) (hpl : (backTo pos (starEach es X.env)).any (·.1) = false := by rfl) : PE X (.Call (.Name x p) (e :: es) [] pos) (tCB r t) := by
  intro pins s σ H Q I h
  refine wpAny_Call_Name_kw (ld_blt I hg hm hv ?_ hn hdb)
  exact PyProof.Rows.callWith_builtin1 (thn (ha pos pins s σ H _ I h) fun us s1 ⟨vs, H1, I1, r1, q1⟩ => hc pins s1 σ H1 vs us Q I1 r1 q1) he hpl
/-- T(e, ..), T a built-in type -/
theorem pe_callTy (hc : CallR X (.type T) r) (hg : Gl X x) (hm : X.mg x = none) (hv : bootBuiltins x = some (.type T)) (ha : PA X (e :: es) t) (hn : x ≠ "__name__" := by decide) (hdb : (x == ("__debug__" : Str)) = false := by decide)
    (he : starEach (e :: es) X.env = (false, eval e X.env) :: starEach es X.env := by rfl) (hpl : (backTo pos (starEach es X.env)).any (·.1) = false := by rfl) : PE X (.Call (.Name x p) (e :: es) [] pos) (tCB r t) := by
  intro pins s σ H Q I h
  refine wpAny_Call_Name_kw (ld_blt I hg hm hv ?_ hn hdb)
  exact PyProof.Rows.callWith_type1 (thn (ha pos pins s σ H _ I h) fun us s1 ⟨vs, H1, I1, r1, q1⟩ => hc pins s1 σ H1 vs us Q I1 r1 q1) he hpl
end
end L2
namespace HT
open PySem PyProof.Rows
section
open PySem.SeqAt
open PySem.AutoSeq1 (wpAny_loadPart')
open PySem.MeetsSeq PySem.MeetsSeq2 PySem.MeetsSeq3
end
section
variable {prog : Program} {w : World} {A : Around} {E : Value → Shared → Prop} {s : Shared}
/-! ### t[a:b], not the whole -/
/-- a slice's bound as a place among n (d where it is left out) -/
def sIx (n d : Nat) : Option Int → Nat
  | none => d
  | some v => if v < 0 then (v + (n : Int)).toNat else min v.toNat n
theorem sIx_nat (n d k : Nat) : sIx n d (some (k : Int)) = min k n := by
  show (if (k : Int) < 0 then ((k : Int) + (n : Int)).toNat else min (k : Int).toNat n) = min k n
  rw [if_neg (by omega), Int.toNat_natCast]
end
end HT
namespace L2
open PySem PySem.Spec PyProof.Rows
/-! ### the parts of a slice -/
abbrev TO := St → Hp → (Option Int → Hp → Prop) → Prop
/-- a slice's part (left out, or an int) -/
def PO (X : Cx) (e : Option Expr) (t : TO) : Prop :=
  ∀ (pins : List (Addr × Obj)) (s : Shared) (σ : St) (H : Hp) (Q : Option Int → Hp → Prop), Inv X pins σ H s → t σ H Q →
    wpAny (model X.prog X.w) X.A (evalPart e X.env) (fun u s' => ∃ o H', Inv X pins σ H' s' ∧ IsPart u o ∧ Q o H') X.xe s
def tPart (t : TE) : TO := fun σ H Q => t σ H fun x H1 => ∃ i, x = .int i ∧ Q (some i) H1
section
variable {X : Cx} {e : Expr} {te : TE} {lo hi : Option Expr} {tl th : TO} {pos p2 : Pos}
theorem po_some (h : PE X e te) : PO X (some e) (tPart te) := by
  intro pins s σ H Q I hw
  rw [evalPart_some]
  refine thn (h pins s σ H _ I hw) fun u s1 ⟨x, H1, I1, r1, q1⟩ => ?_
  obtain ⟨i, rfl, q⟩ := q1
  obtain ⟨t, rfl⟩ := r1
  exact ⟨some i, H1, I1, .int i t, q⟩
/-- what a slice of a value is, by values: the slice object stands at sl -/
def SlR (X : Cx) (r : V → Option Int → Option Int → Hp → VK → Prop) : Prop :=
  ∀ (pins : List (Addr × Obj)) (s : Shared) (σ : St) (H : Hp) (x : V) (v vl vu : Value) (lo hi : Option Int) (sl : Addr) (Q : VK), Inv X pins σ H s → RelV x v → s.heap.IsSliceOf sl vl vu .none → IsPart vl lo → IsPart vu hi → r x lo hi H Q →
    ∃ T id, typeLookup (.type T) "__getitem__" = pure (some (.builtin id)) ∧ s.TypeIs v T ∧ wpAny (model X.prog X.w) X.A (getItem v (.ref sl)) (EP X pins σ Q) X.xe s
def tSl (r : V → Option Int → Option Int → Hp → VK → Prop) (te : TE) (tl th : TO) : TE := fun σ H Q => te σ H fun x H1 => tl σ H1 fun l H2 => th σ H2 fun u H3 => r x l u H3 Q
/-- a[lo:hi], any a -/
theorem pe_slice {r : V → Option Int → Option Int → Hp → VK → Prop} (hr : SlR X r) (he : PE X e te) (hl : PO X lo tl) (hu : PO X hi th) : PE X (.Subscript e (.Slice lo hi none p2) pos) (tSl r te tl th) := by
  intro pins s σ H Q I h
  refine Subscript_ (thn (he pins s σ H _ I h) fun v s1 ⟨x, H1, I1, r1, q1⟩ => ?_)
  refine wpAny_Slice (thn (hl pins s1 σ H1 _ I1 q1) fun vl s2 ⟨l, H2, I2, pl, q2⟩ => thn (hu pins s2 σ H2 _ I2 q2) fun vu s3 ⟨u, H3, I3, pu, q3⟩ => ?_)
  rw [evalPart_none]
  refine wpAny_pure ?_
  have I4 : Inv X pins σ H3 { s3 with heap := s3.heap.push { cls := .type "slice", data := .fields #[vl, vu, .none] } } := I3.kept (t' := s3.toks) fun b ob q => Heap.get?_push_of_some _ q
  obtain ⟨T, id, hT, ht, hg⟩ := hr pins { s3 with heap := s3.heap.push { cls := .type "slice", data := .fields #[vl, vu, .none] } } σ H3 x v vl vu l u s3.heap.objs.size Q I4 r1 (Heap.IsSliceOf.new ..) pl pu q3
  show wpAny (model X.prog X.w) X.A (subscriptTail e (.Slice lo hi none p2) v (.ref s3.heap.objs.size)) (EP X pins σ Q) X.xe { s3 with heap := s3.heap.push { cls := .type "slice", data := .fields #[vl, vu, .none] } }
  exact tail_any (ops := [.ref s3.heap.objs.size, v]) ht hT hg (by with_unfolding_all rfl)
/-- the items of xs[lo:hi] -/
def cutV (xs : List V) (lo hi : Option Int) : List V := (xs.drop (HT.sIx xs.length 0 lo)).take (HT.sIx xs.length xs.length hi - HT.sIx xs.length 0 lo)
theorem cutV_length (xs : List V) (lo hi : Option Int) : (cutV xs lo hi).length ≤ xs.length := by
  unfold cutV
  rw [List.length_take, List.length_drop]
  omega
/-! ### t < u, t + u -/
end
end L2
namespace L2
open PySem PySem.Spec PyProof.Rows
/-! ### places -/
/-- the place that an index of any sign means -/
def ixN (n : Nat) (i : Int) : Option Nat := if 0 ≤ i then (if i < n then some i.toNat else none) else if -(n : Int) ≤ i then some (i + n).toNat else none
def atI {α : Type} (xs : List α) (i : Int) : Option α := (ixN xs.length i).bind fun j => xs[j]?
theorem ixN_seq {n : Nat} {i : Int} {j : Nat} (h : ixN n i = some j) : seqIndex? i n = some j ∧ j < n ∧ -(n : Int) ≤ i ∧ i < n := by
  unfold ixN at h
  by_cases h0 : 0 ≤ i
  · rw [if_pos h0] at h
    by_cases h1 : i < n
    · rw [if_pos h1] at h
      have e : i.toNat = j := Option.some.inj h
      exact ⟨by rw [seqIndex_of h0 h1, e], by omega, by omega, h1⟩
    · rw [if_neg h1] at h; cases h
  · rw [if_neg h0] at h
    by_cases h1 : -(n : Int) ≤ i
    · rw [if_pos h1] at h
      have e : (i + n).toNat = j := Option.some.inj h
      exact ⟨by rw [seqIndex_neg (by omega) h1, e], by omega, h1, by omega⟩
    · rw [if_neg h1] at h; cases h
theorem atI_get {α : Type} {xs : List α} {i : Int} {v : α} (h : atI xs i = some v) : ∃ j, seqIndex? i xs.length = some j ∧ xs[j]? = some v ∧ j < xs.length ∧ -(xs.length : Int) ≤ i ∧ i < xs.length := by
  unfold atI at h
  cases e : ixN xs.length i with
  | none => rw [e] at h; cases h
  | some j =>
    rw [e] at h
    obtain ⟨h1, h2, h3, h4⟩ := ixN_seq e
    exact ⟨j, h1, h, h2, h3, h4⟩
theorem atI_nat {α : Type} {xs : List α} {j : Nat} {v : α} (h : xs[j]? = some v) : atI xs (j : Int) = some v := by
  have hj : j < xs.length := (List.getElem?_eq_some_iff.mp h).1
  have e : ixN xs.length (j : Int) = some j := by
    unfold ixN
    rw [if_pos (by omega), if_pos (by omega)]; simp
  unfold atI; rw [e]; exact h
/-! ### what may be subscripted -/
/-- what stands as an index of a plain subscript -/
def PlainIx (b : Expr) : Prop := ∀ o i, subscripted b false o i = operate [o, i] (getItem o i)
/-- a subscript by values -/
def IxR (X : Cx) (r : R2) : Prop :=
  ∀ (value slice : Expr) (pins : List (Addr × Obj)) (s : Shared) (σ : St) (H : Hp) (x y : V) (v u : Value) (Q : VK), Inv X pins σ H s → RelV x v → RelV y u → r x y H Q →
    subscripted slice false v u = operate [v, u] (getItem v u) → wpAny (model X.prog X.w) X.A (subscriptTail value slice v u) (EP X pins σ Q) X.xe s
/-- a call of a builtin's method by values: the receiver, the arguments -/
def MtR (X : Cx) (id : String) (r : V → List V → Hp → VK → Prop) : Prop :=
  ∀ (pins : List (Addr × Obj)) (s : Shared) (σ : St) (H : Hp) (x : V) (xs : List V) (v : Value) (us : List Value) (Q : VK), Inv X pins σ H s → RelV x v → Vals xs us → r x xs H Q →
    wpAny (model X.prog X.w) X.A (call (.builtin id) (v :: us)) (EP X pins σ Q) X.xe s
section
variable {X : Cx} {a b : Expr} {ta tb : TE} {pos : Pos}
/-- a[b] -/
theorem pe_ix {r : R2} (hr : IxR X r) (ha : PE X a ta) (hb : PE X b tb) (hs : PlainIx b) : PE X (.Subscript a b pos) (tOp r ta tb) := by
  intro pins s σ H Q I h
  exact Subscript_ (binT ha hb I h fun v u s2 x y H2 I2 rx ry q => hr a b pins s2 σ H2 x y v u Q I2 rx ry q (hs _ _))
def rIxL (K : PySem.W.Frag) : R2 := fun x y H Q => ∃ p xs i v, x = .ref p ∧ y = .int i ∧ SqL K H p xs ∧ atI xs i = some v ∧ Q v H
def rIxT (K : PySem.W.Frag) : R2 := fun x y H Q => ∃ p xs i v, x = .ref p ∧ y = .int i ∧ SqT K H p xs ∧ atI xs i = some v ∧ Q v H
theorem ix_list : IxR X (rIxL X.K) := by
  intro value slice pins s σ H x y v u Q I rx ry h hs
  obtain ⟨p, xs, i, z, rfl, rfl, hq, he, q⟩ := h
  cases rx
  obtain ⟨t, rfl⟩ := ry
  obtain ⟨its, r, pl, hz⟩ := I.list hq
  obtain ⟨j, h1, h2, h3, h4, h5⟩ := atI_get he
  obtain ⟨w, ew, rw'⟩ := r.get h2
  have hl := r.length
  have hn := line63
  have fin : EP X pins σ Q w s := ⟨z, H, I, rw', q⟩
  by_cases h0 : 0 ≤ i
  · have hj : i.toNat = j := by
      rw [seqIndex_of h0 h5] at h1
      exact Option.some.inj h1
    exact item_listR pl.isList h0 (by omega) (by rw [hj]; simpa using ew) fin hs
  · have hj : (i + (its.toArray.size : Int)).toNat = j := by
      rw [seqIndex_neg (by omega) h4] at h1
      rw [List.size_toArray, ← hl]
      exact Option.some.inj h1
    exact subscriptTail_builtinR (x := w) pl.isList.typeIs slot_list_getitem.lookup
      (wpAny_getItem_list_neg (Q := fun r s' => r = w ∧ EP X pins σ Q r s') pl.isList (by omega) (by rw [List.size_toArray] <;> omega) (by omega) (by rw [hj]; simpa using ew) ⟨rfl, fin⟩) hs
theorem ix_tup : IxR X (rIxT X.K) := by
  intro value slice pins s σ H x y v u Q I rx ry h hs
  obtain ⟨p, xs, i, z, rfl, rfl, hq, he, q⟩ := h
  cases rx
  obtain ⟨t, rfl⟩ := ry
  obtain ⟨its, r, pl, hz⟩ := I.tuple hq
  obtain ⟨j, h1, h2, h3, h4, h5⟩ := atI_get he
  obtain ⟨w, ew, rw'⟩ := r.get h2
  have hl := r.length
  have hn := line63
  have fin : EP X pins σ Q w s := ⟨z, H, I, rw', q⟩
  exact subscriptTail_builtinR (x := w) pl.typeIs slot_tuple_getitem.lookup
    (getItem_tuple (j := j) (Q := fun r s' => r = w ∧ EP X pins σ Q r s') pl (by omega) (by omega) (by rw [List.size_toArray, ← hl]; exact h1) (by simpa using ew) ⟨rfl, fin⟩) hs
/-! ### xs[i] = v, any sign -/
/-! ### slices -/
theorem slice_bounds (lo hi : Option Int) (n : Nat) : (sliceBounds lo hi none n).1 = ((HT.sIx n 0 lo : Nat) : Int) ∧ (sliceBounds lo hi none n).2.1 = ((HT.sIx n n hi : Nat) : Int) ∧ (sliceBounds lo hi none n).2.2 = 1 := by
  refine ⟨?_, ?_, rfl⟩
  · cases lo with
    | none => simp [sliceBounds, HT.sIx]
    | some i =>
      simp only [sliceBounds, HT.sIx, Option.getD_none, show (1 : Int) > 0 by decide, if_true]
      by_cases h : i < 0
      · simp only [h, if_true] <;> omega
      · simp only [h, if_false] <;> omega
  · cases hi with
    | none => simp [sliceBounds, HT.sIx]
    | some i =>
      simp only [sliceBounds, HT.sIx, Option.getD_none, show (1 : Int) > 0 by decide, if_true]
      by_cases h : i < 0
      · simp only [h, if_true] <;> omega
      · simp only [h, if_false] <;> omega
theorem slicePick_cut (its : List Value) (lo hi : Option Int) : slicePick its.toArray lo hi none = ((its.drop (HT.sIx its.length 0 lo)).take (HT.sIx its.length its.length hi - HT.sIx its.length 0 lo)).toArray := by
  obtain ⟨h1, h2, h3⟩ := slice_bounds lo hi its.toArray.size
  unfold slicePick
  rw [h1, h2, h3]
  simp only [sliceRange_one, pick_run, List.size_toArray] <;> rfl
/-- xs[lo:hi] of a list: a new list -/
def rSlL (K : PySem.W.Frag) : V → Option Int → Option Int → Hp → VK → Prop := fun x lo hi H Q => ∃ a xs, x = .ref a ∧ SqL K H a xs ∧ ∀ p, H p = none → Q (.ref p) (upd H p (.lst (cutV xs lo hi)))
theorem sl_list : SlR X (rSlL X.K) := by
  intro pins s σ H x v vl vu lo hi sl Q I rx hs pl pu h
  obtain ⟨a, xs, rfl, hx, q⟩ := h
  cases rx
  obtain ⟨its, r, ht, hz⟩ := I.list hx
  have hlen := r.length
  refine ⟨"list", _, slot_list_getitem.lookup, ht.isList.typeIs, ?_⟩
  refine wpAny_getItem_list_slice ht.isList hs pl pu .none (by simp) ?_ (by rw [List.size_toArray] <;> omega)
  rw [slicePick_cut, ← hlen]
  refine ⟨.ref s.heap.objs.size, _, I.laid (t' := s.toks) (o := .lst (cutV xs lo hi)) (fun b ob q => Heap.get?_push_of_some _ q) (Nat.le_refl _) ?_, rfl, q _ (I.hok.fresh (Nat.le_refl _))⟩
  exact ⟨Nat.le_trans (cutV_length xs lo hi) hz, _, 0, (r.drop (HT.sIx xs.length 0 lo)).take (HT.sIx xs.length xs.length hi - HT.sIx xs.length 0 lo), Heap.get?_push_size _ rfl⟩
/-! ### in, not in: flat items -/
def flatV : V → Bool
  | .non => true
  | .bl _ => true
  | .int _ => true
  | .str _ => true
  | _ => false
/-- == of flat values -/
def eqV : V → V → Bool
  | .non, .non => true
  | .bl a, .bl b => a == b
  | .bl a, .int b => (if a then 1 else 0) == b
  | .int a, .bl b => a == (if b then 1 else 0)
  | .int a, .int b => a == b
  | .str a, .str b => a == b
  | _, _ => false
theorem eqAt_V {A : Around} {s : Shared} {y x : V} {u v : Value} (ry : RelV y u) (rx : RelV x v) (fy : flatV y = true) (fx : flatV x = true) : SeqAt.EqAt A s u v (eqV y x) := by
  cases y with
  | non =>
    cases ry
    cases x with
    | non => cases rx; exact SeqAt.EqAt.same _
    | bl b => cases rx; exact SeqAt.EqAt.none_bool b
    | int b => obtain ⟨t, rfl⟩ := rx; exact SeqAt.EqAt.none_int b t
    | str b => obtain ⟨t, rfl⟩ := rx; exact SeqAt.EqAt.none_str b t
    | _ => exact absurd (show false = true from fx) Bool.false_ne_true
  | bl a =>
    cases ry
    cases x with
    | non => cases rx; exact SeqAt.EqAt.bool_none a
    | bl b => cases rx; exact SeqAt.EqAt.bool_bool a b
    | int b => obtain ⟨t, rfl⟩ := rx; exact SeqAt.EqAt.bool_int a b t
    | str b => obtain ⟨t, rfl⟩ := rx; exact SeqAt.EqAt.bool_str a b t
    | _ => exact absurd (show false = true from fx) Bool.false_ne_true
  | int a =>
    obtain ⟨t', rfl⟩ := ry
    cases x with
    | non => cases rx; exact SeqAt.EqAt.int_none a t'
    | bl b => cases rx; exact SeqAt.EqAt.int_bool a t' b
    | int b => obtain ⟨t, rfl⟩ := rx; exact SeqAt.EqAt.int_int a t' b t
    | str b => obtain ⟨t, rfl⟩ := rx; exact SeqAt.EqAt.int_str a t' b t
    | _ => exact absurd (show false = true from fx) Bool.false_ne_true
  | str a =>
    obtain ⟨t', rfl⟩ := ry
    cases x with
    | non => cases rx; exact SeqAt.EqAt.str_none a t'
    | bl b => cases rx; exact SeqAt.EqAt.str_bool a t' b
    | int b => obtain ⟨t, rfl⟩ := rx; exact SeqAt.EqAt.str_int a t' b t
    | str b => obtain ⟨t, rfl⟩ := rx; exact SeqAt.EqAt.str_str a t' b t
    | _ => exact absurd (show false = true from fx) Bool.false_ne_true
  | _ => exact absurd (show false = true from fy) Bool.false_ne_true
/-- the items' answers, read off the values (a value's own answer does not lean on its token) -/
def eqU (x : V) (u : Value) : Bool := match u with
  | .none => eqV .non x
  | .bool b => eqV (.bl b) x
  | .int i _ => eqV (.int i) x
  | .str z _ => eqV (.str z) x
  | _ => false
theorem eqU_of {x y : V} {u : Value} (r : RelV y u) (f : flatV y = true) : eqU x u = eqV y x := by
  cases y with
  | non => cases r; rfl
  | bl b => cases r; rfl
  | int i => obtain ⟨t, rfl⟩ := r; rfl
  | str z => obtain ⟨t, rfl⟩ := r; rfl
  | _ => exact absurd (show false = true from f) Bool.false_ne_true
theorem any_eqU {x : V} : ∀ {xs : List V} {us : List Value}, Vals xs us → xs.all flatV = true → us.any (eqU x) = xs.any fun y => eqV y x
  | _, _, .nil, _ => rfl
  | y :: xs, u :: us, .cons r t, f => by
    rw [List.all_cons, Bool.and_eq_true] at f
    rw [List.any_cons, List.any_cons, eqU_of r f.1, any_eqU t f.2]
theorem mem_eqAt {A : Around} {s : Shared} {x : V} {v : Value} (rx : RelV x v) (fx : flatV x = true) : ∀ {xs : List V} {us : List Value}, Vals xs us → xs.all flatV = true → ∀ u ∈ us, SeqAt.EqAt A s u v (eqU x u)
  | _, _, .nil, _ => fun u hu => by cases hu
  | y :: xs, u :: us, .cons r t, f => fun u' hu => by
    rw [List.all_cons, Bool.and_eq_true] at f
    rcases List.mem_cons.mp hu with rfl | hu
    · rw [eqU_of r f.1]; exact eqAt_V r rx f.1 fx
    · exact mem_eqAt rx fx t f.2 u' hu
def inV (x : V) (xs : List V) : Bool := xs.any fun y => eqV y x
/-- x in a list or tuple of flat items -/
def rIn (K : PySem.W.Frag) (neg : Bool) : R2 := fun x y H Q => ∃ p xs, y = .ref p ∧ (SqL K H p xs ∨ SqT K H p xs) ∧ flatV x = true ∧ xs.all flatV = true ∧ Q (.bl (if neg then !inV x xs else inV x xs)) H
theorem op_notIn_seq : OpR X (compareOp .NotIn) (rIn X.K true) := by
  intro pins s σ H x y v u Q I rx ry h
  obtain ⟨p, xs, rfl, hq, fx, fs, q⟩ := h
  cases ry
  rcases hq with hq | hq
  · obtain ⟨its, r, pl, hz⟩ := I.list hq
    refine SeqAt.notIn_listAt (eqU x) pl.isList (fun w hw => mem_eqAt rx fx r fs w (by simpa using hw)) ⟨.bl _, H, I, rfl, ?_⟩
    rw [show its.toArray.any (eqU x) = its.any (eqU x) by simp, any_eqU r fs]
    exact q
  · obtain ⟨its, r, pl, hz⟩ := I.tuple hq
    refine SeqAt.notIn_tupleAt (eqU x) pl (fun w hw => mem_eqAt rx fx r fs w (by simpa using hw)) ⟨.bl _, H, I, rfl, ?_⟩
    rw [show its.toArray.any (eqU x) = its.any (eqU x) by simp, any_eqU r fs]
    exact q
/-! ### len, list(x), tuple(x) of any list or tuple that is read -/
theorem call_len_seq : CallR X (.builtin "len") (fun xs H Q => ∃ p ys, xs = [.ref p] ∧ (SqL X.K H p ys ∨ SqT X.K H p ys) ∧ Q (.int ys.length) H) := by
  intro pins s σ H xs us Q I r h
  obtain ⟨p, ys, rfl, hq, q⟩ := h
  obtain ⟨u, rfl, rx⟩ := vals1 r
  cases rx
  have hn := line63
  rcases hq with hq | hq
  · obtain ⟨its, r', pl, hz⟩ := I.list hq
    have hlen := r'.length
    exact Calls.call_len_list pl.isList (by simp only [List.size_toArray] <;> omega) ⟨.int ys.length, H, I.tok _, ⟨s.toks + 1, by rw [List.size_toArray, hlen]⟩, q⟩
  · obtain ⟨its, r', pl, hz⟩ := I.tuple hq
    have hlen := r'.length
    exact len_tuple pl (by simp only [List.size_toArray] <;> omega) ⟨.int ys.length, H, I.tok _, ⟨s.toks + 1, by rw [List.size_toArray, hlen]⟩, q⟩
/-! ### the call of a builtin's method: o.m(..) -/
/-- the value is of that builtin type -/
def tyV (K : PySem.W.Frag) (T : String) (x : V) (H : Hp) : Prop := match x with
  | .str _ => T = "str"
  | .int _ => T = "int"
  | .ref p => (T = "list" ∧ ∃ xs, SqL K H p xs) ∨ (T = "tuple" ∧ ∃ o, K.lookup p = some o ∧ o.cls = .type "tuple" ∧ o.dict = none) ∨
      (T = "dict" ∧ ((∃ kvs, H p = some (.dK kvs)) ∨ ∃ kvs, H p = some (.dT kvs))) ∨ (T = "set" ∧ ∃ S n, H p = some (.set S n))
  | _ => False
theorem tyV_is {pins : List (Addr × Obj)} {σ : St} {H : Hp} {s : Shared} {T : String} {x : V} {v : Value} (I : Inv X pins σ H s) (r : RelV x v) (ty : tyV X.K T x H) :
    s.TypeIs v T ∧ ∀ a, v = .ref a → ∃ ob, s.heap.get? a = some ob ∧ ob.dict = none := by
  cases x with
  | str z =>
    obtain ⟨t, rfl⟩ := r
    cases (show T = "str" from ty)
    exact ⟨typeIs_str s z t, fun _ e => nomatch e⟩
  | int i =>
    obtain ⟨t, rfl⟩ := r
    cases (show T = "int" from ty)
    exact ⟨typeIs_int s i t, fun _ e => nomatch e⟩
  | ref p =>
    cases r
    rcases ty with ⟨rfl, xs, hq⟩ | ⟨rfl, o, hk, hc, hd⟩ | ⟨rfl, hk⟩ | ⟨rfl, S, n, hk⟩
    · obtain ⟨its, _, pl, _⟩ := I.list hq
      refine ⟨pl.isList.typeIs, fun a e => ?_⟩
      cases e
      obtain ⟨o, n, e, c, hd, _⟩ := pl
      exact ⟨o, e, hd⟩
    · refine ⟨⟨o, I.kIn p o hk, hc⟩, fun a e => ?_⟩
      cases e
      exact ⟨o, I.kIn _ o hk, hd⟩
    · have z : ∃ o, s.heap.get? p = some o ∧ o.ExactDict := by
        rcases hk with ⟨kvs, hk⟩ | ⟨kvs, hk⟩
        · obtain ⟨_, _, _, _, o, _, _, e, ex, _⟩ := I.hok p _ hk
          exact ⟨o, e, ex⟩
        · obtain ⟨_, _, _, _, o, _, _, e, ex, _⟩ := I.hok p _ hk
          exact ⟨o, e, ex⟩
      obtain ⟨o, e, ex⟩ := z
      refine ⟨⟨o, e, ex.1⟩, fun a e2 => ?_⟩
      cases e2
      exact ⟨o, e, ex.2.1⟩
    · obtain ⟨o, _, _, _, e, ex, _⟩ := I.hok p _ hk
      refine ⟨⟨o, e, ex.1⟩, fun a e2 => ?_⟩
      cases e2
      exact ⟨o, e, ex.2.1⟩
  | _ => exact False.elim ty
def tBM0 (K : PySem.W.Frag) (T : String) (r : V → List V → Hp → VK → Prop) (to : TE) : TE := fun σ H Q => to σ H fun x H1 => tyV K T x H1 ∧ r x [] H1 Q
def tBM (K : PySem.W.Frag) (T : String) (r : V → List V → Hp → VK → Prop) (to : TE) (t : TA) : TE := fun σ H Q => to σ H fun x H1 => tyV K T x H1 ∧ t σ H1 fun xs H2 => r x xs H2 Q
variable {o e : Expr} {es : List Expr} {to : TE} {t : TA} {name : Str} {apos cpos : Pos} {T id : String} {r : V → List V → Hp → VK → Prop}
theorem pe_bm0 (pa : PlainAttrs T) (slot : Slot T name id) (hty : typeOf (.builtin id) = pure (.type "method_descriptor")) (hm : MtR X id r) (ho : PE X o to)
    (hbase : attributeBase o name X.env (eval o X.env) = eval o X.env := by rfl) (hline : (apos.endLine == cpos.line) = true := by rfl) : PE X (.Call (.Attribute o name apos) [] [] cpos) (tBM0 X.K T r to) := by
  intro pins s σ H Q I h
  refine wpAny_Call_method0_late hbase hline (thn (ho pins s σ H _ I h) fun v s1 ⟨x, H1, I1, r1, ty, q1⟩ => ?_)
  obtain ⟨h1, h2⟩ := tyV_is I1 r1 ty
  exact ⟨T, id, pa, slot, hty, h1, h2, Calls.callWith_builtin rfl (PySem.evalArgs_none (hm pins s1 σ H1 x [] v [] Q I1 r1 .nil q1))⟩
theorem pe_bm (pa : PlainAttrs T) (slot : Slot T name id) (hty : typeOf (.builtin id) = pure (.type "method_descriptor")) (hm : MtR X id r) (ho : PE X o to) (ha : PA X (e :: es) t)
    (hbase : attributeBase o name X.env (eval o X.env) = eval o X.env := by rfl)
    (hfew : ((backTo cpos (starEach (e :: es) X.env)).all (fun x => !x.1) && (backToKw cpos (keywordEach [] X.env)).all (fun x => x.1.isSome)
      && decide ((e :: es).length + ([] : List Keyword).length + (if ([] : List Keyword).isEmpty then 0 else 1) < 30)) = true := by rfl)
    (hline : (apos.endLine == cpos.line) = true := by rfl) (hs : starEach (e :: es) X.env = (false, eval e X.env) :: starEach es X.env := by rfl) (hplain : (backTo cpos (starEach es X.env)).any (·.1) = false := by rfl) :
    PE X (.Call (.Attribute o name apos) (e :: es) [] cpos) (tBM X.K T r to t) := by
  intro pins s σ H Q I h
  refine wpAny_Call_method_late hbase hfew hline rfl (thn (ho pins s σ H _ I h) fun v s1 ⟨x, H1, I1, r1, ty, q1⟩ => ?_)
  obtain ⟨h1, h2⟩ := tyV_is I1 r1 ty
  refine ⟨T, id, pa, slot, hty, h1, h2, ?_⟩
  have hA := ha cpos pins s1 σ H1 _ I1 q1
  rw [hs] at hA ⊢
  refine Calls.callWith_builtin (by show (false || (backTo cpos (starEach es X.env)).any (·.1)) = false; rw [hplain] <;> rfl) (Calls.evalArgs_plain ?_)
  exact thn hA fun us s2 ⟨vs, H2, I2, r2, q2⟩ => hm pins s2 σ H2 x vs v us Q I2 r1 r2 q2
/- xs.append(e), list.index on a module's tuple .. are MtR facts of 06m -/
end
end L2
namespace L2
open PySem PySem.Spec PyProof.Rows
def MtM (X : Cx) (id : String) (r : V → List V → Hp → VK → Prop) : Prop :=
  ∀ (pins : List (Addr × Obj)) (s : Shared) (σ : St) (H : Hp) (x : V) (xs : List V) (v : Value) (us : List Value) (Q : VK), Inv X pins σ H s → RelV x v → Vals xs us → r x xs H Q →
    wpAny (model X.prog X.w) X.A (call (.builtin id) (v :: us)) (EP X pins σ Q) X.xe s
/-! ### lists of values -/
theorem Vals.one : ∀ {x : V} {us : List Value}, Vals [x] us → ∃ u, us = [u] ∧ RelV x u
  | _, _, .cons r .nil => ⟨_, rfl, r⟩
theorem Vals.zero : ∀ {us : List Value}, Vals [] us → us = []
  | _, .nil => rfl
section
variable {X : Cx} {pins : List (Addr × Obj)} {σ : St} {H : Hp} {s : Shared} {l b : Addr} {xs ys zs : List V}
/-! ### the two steps: a tracked list is rewritten, a new list is laid -/
theorem Inv.lset {its its' : List Value} {n : Nat} {f : Array Value → Array Value} {t' : Nat} (I : Inv X pins σ H s) (hH : H l = some (.lst xs))
    (e : s.heap.get? l = some { cls := .type "list", data := .seq its.toArray n }) (hf : f its.toArray = its'.toArray) (hv : Vals ys its') (hz : ys.length ≤ sizeLine) :
    Inv X pins σ (upd H l (.lst ys)) { s with heap := s.heap.update l (Obj.mapSeq f), toks := t' } := by
  have q := PySem.IsL.update e f
  rw [hf] at q
  refine I.write (x := l) (e := l) (by rw [hH]; exact trivial) (.inl rfl) (fun b' u hb hu => (Heap.get?_update_other s.heap (Obj.mapSeq f) (Ne.symm hb)).trans hu) ⟨_, q⟩ ?_
  exact ⟨hz, its', _, hv, q⟩
theorem Inv.lstM (I : Inv X pins σ H s) (hH : H l = some (.lst xs)) : xs.length ≤ sizeLine ∧ ∃ (its : List Value) (n : Nat), Vals xs its ∧ xs.length = its.length ∧ s.heap.get? l = some { cls := .type "list", data := .seq its.toArray n } := by
  obtain ⟨z, its, n, r, e⟩ := I.hok l _ hH
  exact ⟨z, its, n, r, r.length, e⟩
theorem notLongL {n : Nat} (h : n ≤ sizeLine) : Builtin.List.listTooLong n = false := by
  unfold Builtin.List.listTooLong
  exact decide_eq_false (by omega)
end
section
variable {X : Cx}
/-! ### methods -/
def rAppend : V → List V → Hp → VK → Prop := fun x vs H Q => ∃ l xs y, x = .ref l ∧ vs = [y] ∧ H l = some (.lst xs) ∧ xs.length < sizeLine ∧ Q .non (upd H l (.lst (xs ++ [y])))
theorem mt_append : MtM X "list.append" rAppend := by
  intro pins s σ H x vs v us Q I rx rv h
  obtain ⟨l, xs, y, rfl, rfl, hH, hz, q⟩ := h
  cases rx
  obtain ⟨u, rfl, ru⟩ := rv.one
  obtain ⟨z, its, n, r, hl, e⟩ := I.lstM hH
  refine call_meets F.slot_list_append ⟨_, e, rfl⟩ F.entry_list_append (F.args_list_append_2 _ _) (PySem.list_append l its.toArray n u (by rw [List.size_toArray]; omega)) ⟨e, ?_⟩
  refine ⟨.non, _, I.lset (its' := its ++ [u]) hH e (by simp) (r.append (.cons ru .nil)) ?_, rfl, q⟩
  rw [List.length_append, List.length_singleton]
  omega
def rExtend : V → List V → Hp → VK → Prop := fun x vs H Q => ∃ l b xs zs, x = .ref l ∧ vs = [.ref b] ∧ H l = some (.lst xs) ∧ H b = some (.lst zs) ∧ xs.length + zs.length ≤ sizeLine ∧ Q .non (upd H l (.lst (xs ++ zs)))
theorem mt_extend : MtM X "list.extend" rExtend := by
  intro pins s σ H x vs v us Q I rx rv h
  obtain ⟨l, b, xs, zs, rfl, rfl, hH, hB, hz, q⟩ := h
  cases rx
  obtain ⟨u, rfl, ru⟩ := rv.one
  cases ru
  obtain ⟨z, its, n, r, hl, e⟩ := I.lstM hH
  obtain ⟨z2, its2, n2, r2, hl2, e2⟩ := I.lstM hB
  have hsz : its.toArray.size + its2.toArray.size ≤ sizeLine := by rw [List.size_toArray, List.size_toArray]; omega
  have hlong : ¬ (!its.toArray.isEmpty && Builtin.List.listTooLong (its.toArray.size + its2.toArray.size)) = true := by
    rw [notLongL hsz, Bool.and_false]
    exact Bool.false_ne_true
  refine call_meets F.slot_list_extend ⟨_, e, rfl⟩ F.entry_list_extend (F.args_list_extend_2 _ _)
    (AutoSeq1.list_extend_list_list_0 l its.toArray n b its2.toArray n2 hlong (by rw [List.size_toArray]; omega) (by omega)) ⟨e, e2, ?_⟩
  refine ⟨.non, _, I.lset (its' := its ++ its2) hH e (by simp) (r.append r2) ?_, rfl, q⟩
  rw [List.length_append]
  omega
def rClear : V → List V → Hp → VK → Prop := fun x vs H Q => ∃ l xs, x = .ref l ∧ vs = [] ∧ H l = some (.lst xs) ∧ Q .non (upd H l (.lst []))
theorem mt_clear : MtM X "list.clear" rClear := by
  intro pins s σ H x vs v us Q I rx rv h
  obtain ⟨l, xs, rfl, rfl, hH, q⟩ := h
  cases rx
  have hus := rv.zero
  subst hus
  obtain ⟨z, its, n, r, hl, e⟩ := I.lstM hH
  refine call_meets F.slot_list_clear ⟨_, e, rfl⟩ F.entry_list_clear (F.args_list_clear_1 _) (AutoSeq1.list_clear_list_0 l its.toArray n (by rw [List.size_toArray]; omega)) ⟨e, ?_⟩
  exact ⟨.non, _, I.lset (its' := []) (ys := []) hH e rfl .nil (Nat.zero_le _), rfl, q⟩
/-! ### list + list, list += list, list * int -/
/-! ### del xs[i] -/
end
/-! ### xs[a:b] = ys -/
section
variable {prog : Program} {w : World} {A : Around} {E : Value → Shared → Prop} {s : Shared}
end
section
variable {X : Cx}
end
end L2
namespace L2
open PySem PySem.Spec PyProof.Rows
theorem Vals.ints : ∀ {ns : List Int} {us : List Value}, Vals (ns.map V.int) us → IntsAre us ns
  | [], us, h => by
    rw [List.map_nil] at h
    cases h
    exact IntsAre.nil
  | n :: ns, us, h => by
    rw [List.map_cons] at h
    cases h with
    | cons r t =>
      obtain ⟨k, rfl⟩ := r
      exact IntsAre.cons n k (Vals.ints t)
theorem Vals.ref1 {a : Addr} {us : List Value} (r : Vals [V.ref a] us) : us = [Value.ref a] := by
  cases r with
  | cons r t =>
    cases t
    cases r
    rfl
/-! ### the library's walks over a list of ints, kept objects alone -/
section
variable {prog : Program} {w : World} {A : Around} {E : Value → Shared → Prop} {s : Shared} {l : Addr} {its : List Value} {ns : List Int} {Q : Value → Shared → Prop}
theorem sum_raw (hh : A.handled = none) (hl : s.heap.IsList l its.toArray) (hi : IntsAre its ns)
    (h : ∀ h' tk t', (∀ b o, s.heap.get? b = some o → h'.get? b = some o) → Q (.int ns.sum t') { s with heap := h', toks := tk }) : wpAny (model prog w) A (call (.builtin "sum") [.ref l]) Q E s := by
  obtain ⟨xs, e⟩ := hi.allInts.items
  have hn : numsOf (intItems xs).toList = ns := by rw [← e]; exact hi.numsOf
  rw [nums_intItems] at hn
  rw [e] at hl
  refine PySem.sum_intListG hh hl fun h' tk t' hk => ?_
  have := h h' tk t' hk
  rw [preSum_eq, List.take_of_length_le (by simp), hn]; exact this
end
/-! ### the calls, by values (CallR of 03t; MtR of 06l) -/
section
variable {X : Cx}
/-- sum(xs) of a list of ints -/
def rSum (K : PySem.W.Frag) : List V → Hp → VK → Prop := fun vs H Q => ∃ (a : Addr) (ns : List Int), vs = [V.ref a] ∧ SqL K H a (ns.map V.int) ∧ Q (.int ns.sum) H
theorem cr_sum (hc : X.calm = true) : CallR X (.builtin "sum") (rSum X.K) := by
  intro pins s σ H vs us Q I r h
  obtain ⟨a, ns, rfl, hs, q⟩ := h
  obtain ⟨its, rv, hl, _⟩ := I.list hs
  rw [Vals.ref1 r]
  exact sum_raw (I.ok.hd hc) hl.isList rv.ints fun h' tk t' hk => ⟨.int _, H, I.kept hk, ⟨_, rfl⟩, q⟩
/-! sorted, sort (fewer than 64 items: the library's own bound) -/
end
/-! ### list.index, flat items -/
section
variable {X : Cx}
end
/-! ### type(x) of an own instance; is, is not of a module's class -/
section
variable {X : Cx}
end
/-! ### any(xs), all(xs) of a list of bools -/
section
variable {X : Cx}
end
/-! ### == and != of data at any depth: none, bools, ints, texts, lists, tuples -/
section
variable {X : Cx} {pins : List (Addr × Obj)} {σ : St} {H : Hp} {s : Shared}
end
section
variable {X : Cx}
end
end L2
namespace L2
open PySem PySem.Spec PyProof.Rows
abbrev CellAt (h : Heap) (c : Addr) (v : Option Value) : Prop := h.IsCell c v
def relS (scope sc : Scope) : Scope :=
  { scope with names := scope.names.map fun (n, k) => if (k == .free && sc.kind == .function && sc.names.lookup n == some .cell) then (n, .cell) else (n, k) }
def cloFrom (cells : List (Str × Addr)) : List (Str × NameKind) → List (Str × Addr) → List (Str × Addr)
  | [], acc => acc
  | (n, k) :: r, acc => if k == .free then cloFrom cells r ((n, (cells.lookup n).getD 0) :: acc) else cloFrom cells r acc
theorem closure_loop (env : Env) (f : Str × NameKind → List (Str × Addr) → Sem (ForInStep (List (Str × Addr))))
    (hf : ∀ n k c, f (n, k) c = if k == .free then (do let a ← cellOf env n; pure (.yield ((n, a) :: c))) else pure (.yield c)) :
    ∀ (names : List (Str × NameKind)) (acc : List (Str × Addr)), (∀ y ∈ names, y.2 = .free → ∃ c, env.cells.lookup y.1 = some c) → forIn names acc f = pure (cloFrom env.cells names acc)
  | [], acc, _ => by rw [List.forIn_nil]; rfl
  | (n, k) :: r, acc, h => by
    rw [List.forIn_cons, hf]
    have ih := fun acc => closure_loop env f hf r acc fun y hy => h y (List.mem_cons_of_mem _ hy)
    unfold cloFrom
    by_cases hk : (k == NameKind.free) = true
    · rw [if_pos hk, if_pos hk]
      obtain ⟨c, hc⟩ := h (n, k) List.mem_cons_self (by simpa using hk)
      have e : cellOf env n = pure c := by unfold cellOf; rw [hc]
      rw [e]
      have e2 : (env.cells.lookup n).getD 0 = c := by rw [hc]; rfl
      rw [e2]
      exact ih _
    · rw [if_neg hk, if_neg hk]
      exact ih _
theorem closure_ok {scope : Scope} {env : Env} (h : ∀ y ∈ scope.names, y.2 = .free → ∃ c, env.cells.lookup y.1 = some c) : closureFor scope env = pure (cloFrom env.cells scope.names []) := by
  simp only [closureFor]
  rw [closure_loop env _ (fun n k c => rfl) scope.names [] h]
  rfl
theorem mem_lookup {α : Type} : ∀ {l : List (Str × α)} {n : Str} {c : α}, (n, c) ∈ l → ∃ c', l.lookup n = some c'
  | (k, v) :: r, n, c, h => by
    rw [List.lookup_cons]
    cases hb : n == k with
    | true => exact ⟨_, rfl⟩
    | false =>
      rcases List.mem_cons.mp h with e | h
      · cases e; simp at hb
      · exact mem_lookup h
theorem cloFrom_mem {cells : List (Str × Addr)} : ∀ {names : List (Str × NameKind)} {acc : List (Str × Addr)} {n : Str} {c : Addr}, (n, c) ∈ cloFrom cells names acc → (n, c) ∈ acc ∨ ((n, .free) ∈ names ∧ c = (cells.lookup n).getD 0)
  | [], _, _, _, h => .inl h
  | (m, k) :: r, acc, n, c, h => by
    unfold cloFrom at h
    split at h
    · rename_i hk
      have hk : k = .free := by simpa using hk
      rcases cloFrom_mem h with h | ⟨h1, h2⟩
      · rcases List.mem_cons.mp h with e | h
        · cases e; exact .inr ⟨hk ▸ List.mem_cons_self, rfl⟩
        · exact .inl h
      · exact .inr ⟨List.mem_cons_of_mem _ h1, h2⟩
    · rcases cloFrom_mem h with h | ⟨h1, h2⟩
      · exact .inl h
      · exact .inr ⟨List.mem_cons_of_mem _ h1, h2⟩
theorem cloFrom_acc {cells : List (Str × Addr)} : ∀ {names : List (Str × NameKind)} {acc : List (Str × Addr)} {p : Str × Addr}, p ∈ acc → p ∈ cloFrom cells names acc
  | [], _, _, h => h
  | (m, k) :: r, acc, p, h => by
    unfold cloFrom
    split
    · exact cloFrom_acc (List.mem_cons_of_mem _ h)
    · exact cloFrom_acc h
theorem cloFrom_has {cells : List (Str × Addr)} : ∀ {names : List (Str × NameKind)} {acc : List (Str × Addr)} {n : Str}, (n, .free) ∈ names → (n, (cells.lookup n).getD 0) ∈ cloFrom cells names acc
  | (m, k) :: r, acc, n, h => by
    unfold cloFrom
    rcases List.mem_cons.mp h with e | h
    · cases e
      exact cloFrom_acc List.mem_cons_self
    · split
      · exact cloFrom_has h
      · exact cloFrom_has h
theorem cells_mem : ∀ {names : List (Str × NameKind)} {h : Heap} {acc : List (Str × Addr)} {x : Str} {c : Addr}, (x, c) ∈ cellsFrom h.objs.size names acc →
    (x, c) ∈ acc ∨ ((x, .cell) ∈ names ∧ h.objs.size ≤ c ∧ CellAt (pushCells h names) c none)
  | [], _, _, _, _, h => .inl h
  | (n, k) :: r, h, acc, x, c, hm => by
    unfold cellsFrom at hm
    unfold pushCells
    split at hm
    · rename_i hk
      rw [if_pos hk]
      have hk : k = .cell := by simpa using hk
      rw [← Heap.size_push h { cls := .type "cell", data := .cell none }] at hm
      rcases cells_mem hm with hm | ⟨h1, h2, h3⟩
      · rcases List.mem_cons.mp hm with e | hm
        · cases e
          exact .inr ⟨hk ▸ List.mem_cons_self, Nat.le_refl _, _, pushCells_keeps r _ _ _ (Heap.get?_push_size _ rfl), rfl⟩
        · exact .inl hm
      · rw [Heap.size_push] at h2
        exact .inr ⟨List.mem_cons_of_mem _ h1, Nat.le_of_succ_le h2, h3⟩
    · rename_i hk
      rw [if_neg hk]
      rcases cells_mem hm with hm | ⟨h1, h2, h3⟩
      · exact .inl hm
      · exact .inr ⟨List.mem_cons_of_mem _ h1, h2, h3⟩
theorem cells_acc : ∀ {names : List (Str × NameKind)} {n : Nat} {acc : List (Str × Addr)} {p : Str × Addr}, p ∈ acc → p ∈ cellsFrom n names acc
  | [], _, _, _, h => h
  | (m, k) :: r, n, acc, p, h => by
    unfold cellsFrom
    split
    · exact cells_acc (List.mem_cons_of_mem _ h)
    · exact cells_acc h
theorem cells_has : ∀ {names : List (Str × NameKind)} {n : Nat} {acc : List (Str × Addr)} {x : Str}, (x, .cell) ∈ names → ∃ c, (x, c) ∈ cellsFrom n names acc
  | (m, k) :: r, n, acc, x, h => by
    unfold cellsFrom
    rcases List.mem_cons.mp h with e | h
    · cases e
      exact ⟨n, cells_acc List.mem_cons_self⟩
    · split
      · exact cells_has h
      · exact cells_has h
theorem cells_inj : ∀ {names : List (Str × NameKind)} {h : Heap} {acc : List (Str × Addr)} {x y : Str} {c : Addr}, (∀ p ∈ acc, p.2 < h.objs.size) → (∀ x y c, (x, c) ∈ acc → (y, c) ∈ acc → x = y) →
    (x, c) ∈ cellsFrom h.objs.size names acc → (y, c) ∈ cellsFrom h.objs.size names acc → x = y
  | [], _, _, _, _, _, _, hi, h1, h2 => hi _ _ _ h1 h2
  | (n, k) :: r, h, acc, x, y, c, hl, hi, h1, h2 => by
    unfold cellsFrom at h1 h2
    split at h1
    · rename_i hk
      rw [if_pos hk] at h2
      rw [← Heap.size_push h { cls := .type "cell", data := .cell none }] at h1 h2
      refine cells_inj (h := h.push _) (fun p hp => ?_) (fun x y c a b => ?_) h1 h2
      · rw [Heap.size_push]
        rcases List.mem_cons.mp hp with rfl | hp
        · exact Nat.lt_succ_self _
        · exact Nat.lt_succ_of_lt (hl p hp)
      · rcases List.mem_cons.mp a with e | a <;> rcases List.mem_cons.mp b with e' | b
        · cases e; cases e'; rfl
        · cases e; exact absurd (hl _ b) (Nat.lt_irrefl _)
        · cases e'; exact absurd (hl _ a) (Nat.lt_irrefl _)
        · exact hi _ _ _ a b
    · rename_i hk
      rw [if_neg hk] at h2
      exact cells_inj hl hi h1 h2
theorem newEnv_comp {M : Model} {A : Around} {E : Value → Shared → Prop} {s : Shared} {scope : Scope} {globals : Addr} {closure : List (Str × Addr)} {qual : Str} {func : Option Addr} {code : Value} {around : Env} {builtins : Addr} {Q : Env → Shared → Prop}
    (h : Q (newEnv scope s.heap.objs.size globals (cellsFrom (s.heap.objs.size + 1) scope.names closure) qual func code (some around) builtins)
      { s with heap := pushCells (s.heap.push { cls := .type "dict", data := .dict #[] }) scope.names }) :
    wpAny M A (newFunctionEnv scope globals closure [] qual func code (some around) builtins) Q E s := by
  simp only [newFunctionEnv, Option.isSome_some, if_true]
  refine wpAny_bind (wpAny_alloc ?_)
  refine wpAny_bind (wpAny_layCells _ (fun n k c => rfl) scope.names closure _ _ ?_)
  rw [show ({ s with heap := s.heap.push { cls := .type "dict", data := .dict #[] } } : Shared).heap.objs.size = s.heap.objs.size + 1 from Heap.size_push ..]
  rw [List.forIn_nil]
  exact wpAny_bind (wpAny_pure (wpAny_pure h))
/-- every name of the written scope, in the scope that runs -/
theorem lookup_relS {sc : Scope} : ∀ {names : List (Str × NameKind)} {x : Str} {k : NameKind},
    (names.map fun (n, k) => if (k == NameKind.free && sc.kind == .function && sc.names.lookup n == some .cell) then (n, NameKind.cell) else (n, k)).lookup x = some k →
    ∃ k', names.lookup x = some k' ∧ (k = k' ∨ (k' = .free ∧ k = .cell))
  | [], _, _, h => by simp at h
  | (n, k₀) :: r, x, k, h => by
    have ih := @lookup_relS sc r x k
    have h' : List.lookup x ((if (k₀ == NameKind.free && sc.kind == .function && sc.names.lookup n == some .cell) = true then (n, NameKind.cell) else (n, k₀)) :: (r.map _)) = some k := h
    cases hx : x == n with
    | true =>
      simp only [List.lookup_cons, hx]
      by_cases hc : (k₀ == NameKind.free && sc.kind == .function && sc.names.lookup n == some .cell) = true
      · rw [if_pos hc] at h'
        simp only [List.lookup_cons, hx] at h'
        cases h'
        simp only [Bool.and_eq_true, beq_iff_eq] at hc
        exact ⟨k₀, rfl, .inr ⟨hc.1.1, rfl⟩⟩
      · rw [if_neg hc] at h'
        simp only [List.lookup_cons, hx] at h'
        cases h'
        exact ⟨_, rfl, .inl rfl⟩
    | false =>
      simp only [List.lookup_cons, hx]
      by_cases hc : (k₀ == NameKind.free && sc.kind == .function && sc.names.lookup n == some .cell) = true
      · rw [if_pos hc] at h'
        simp only [List.lookup_cons, hx] at h'
        exact ih h'
      · rw [if_neg hc] at h'
        simp only [List.lookup_cons, hx] at h'
        exact ih h'
/-- the names of a comprehension's block: its own (with their places in N), or captured -/
structure BlkOk (N : List Str) (sc scope : Scope) (own : List (Str × Nat)) : Prop where
  kind : scope.kind = .function
  uniq : ∀ y ∈ scope.names, scope.names.lookup y.1 = some y.2
  ix : ∀ p ∈ own, N[p.2]? = some p.1
  free : ∀ y ∈ scope.names, y.2 = .free → sc.names.lookup y.1 = some .cell ∨ sc.names.lookup y.1 = some .free
  own : ∀ y ∈ scope.names, y.2 = .local ∨ y.2 = .cell → y.1 ∈ own.map (·.1) ∨ y.1 ∉ N
/-- the slots of the block's own names forgotten -/
def wipe (σ : St) : List Nat → St
  | [] => σ
  | v :: vs => (wipe σ vs).set v none
theorem wipe_length (σ : St) : ∀ vs : List Nat, (wipe σ vs).length = σ.length
  | [] => rfl
  | v :: vs => by unfold wipe; rw [List.length_set, wipe_length σ vs]
theorem wipe_some {σ : St} {i : Nat} {x : V} : ∀ {vs : List Nat}, (wipe σ vs)[i]? = some (some x) → σ[i]? = some (some x) ∧ i ∉ vs
  | [], h => ⟨h, by simp⟩
  | v :: vs, h => by
    unfold wipe at h
    by_cases hi : v = i
    · subst hi
      by_cases hv : v < (wipe σ vs).length
      · rw [List.getElem?_set_self hv] at h; cases h
      · rw [List.getElem?_eq_none (by simpa using hv)] at h; cases h
    · rw [List.getElem?_set_ne hi] at h
      obtain ⟨h1, h2⟩ := wipe_some h
      exact ⟨h1, by simp only [List.mem_cons, not_or]; exact ⟨fun e => hi e.symm, h2⟩⟩
/-- the context of a block that starts at s, its iterator's objects at fp -/
abbrev Cx.blk (X : Cx) (s : Shared) (H : Hp) (scope : Scope) (cenv : Env) (fp : List Addr) : Cx := { X with s_0 := s, H_0 := H, env := cenv, outer := X.stack, ex := fp, fn := fun x => scope.names.lookup x == some .cell, pn := [], xe := fun _ _ => False }
section
variable {X : Cx} {pins : List (Addr × Obj)} {σ : St} {H : Hp} {s : Shared}
theorem block_start {scope : Scope} {own : List (Str × Nat)} {fp : List Addr} (I : Inv X pins σ H s) (ok : BlkOk X.N X.env.scope scope own) (hN : X.N.Nodup) (hfp : ∀ b ∈ fp, FpOk X pins H b ∧ b < s.heap.objs.size) :
    Inv (X.blk s H scope (compEnvC scope (cellsFrom (s.heap.objs.size + 1) scope.names (cloFrom X.env.cells scope.names [])) s.heap.objs.size X.env) fp) [] (wipe σ (own.map (·.2))) H { s with heap := pushCells (s.heap.push { cls := .type "dict", data := .dict #[] }) scope.names } := by
  have hfree : ∀ y ∈ scope.names, y.2 = .free → ∃ c, X.env.cells.lookup y.1 = some c := fun y hy e => by
    rcases ok.free y hy e with k | k
    · exact I.ok.has _ (.inl k)
    · exact I.ok.has _ (.inr k)
  generalize hcenv : compEnvC scope (cellsFrom (s.heap.objs.size + 1) scope.names (cloFrom X.env.cells scope.names [])) s.heap.objs.size X.env = cenv
  have kp : ∀ b o, s.heap.get? b = some o → (pushCells (s.heap.push { cls := .type "dict", data := .dict #[] }) scope.names).get? b = some o := fun b o e => pushCells_keeps _ _ _ _ (Heap.get?_push_of_some _ e)
  have hL : cenv.locals = s.heap.objs.size := by rw [← hcenv]; rfl
  have hcl : cenv.cells = cellsFrom (s.heap.objs.size + 1) scope.names (cloFrom X.env.cells scope.names []) := by rw [← hcenv]; rfl
  have hsc : cenv.scope = relS scope X.env.scope := by rw [← hcenv]; rfl
  rw [← Heap.size_push s.heap { cls := .type "dict", data := .dict #[] }] at hcl
  have cm : ∀ {y c}, (y, c) ∈ cloFrom X.env.cells scope.names [] → X.env.cells.lookup y = some c ∧ c < s.heap.objs.size := fun {y c} hm => by
    rcases cloFrom_mem hm with hm | ⟨h1, rfl⟩
    · cases hm
    · obtain ⟨c, hc⟩ := hfree _ h1 rfl
      rw [hc]
      obtain ⟨w, z⟩ := I.cell _ _ hc
      exact ⟨rfl, z.lt⟩
  have mem : ∀ {y c}, cenv.cells.lookup y = some c → (X.env.cells.lookup y = some c ∧ c < s.heap.objs.size) ∨ (s.heap.objs.size + 1 ≤ c ∧ CellAt (pushCells (s.heap.push { cls := .type "dict", data := .dict #[] }) scope.names) c none) := fun {y c} e => by
    rw [hcl] at e
    rcases cells_mem (PySem.mem_of_lookup e) with hm | ⟨_, h2, h3⟩
    · exact .inl (cm hm)
    · rw [Heap.size_push] at h2; exact .inr ⟨h2, h3⟩
  have look : ∀ {y}, scope.names.lookup y = some .free → ∃ c, cenv.cells.lookup y = some c ∧ X.env.cells.lookup y = some c := fun {y} hl => by
    have hy : (y, NameKind.free) ∈ scope.names := PySem.mem_of_lookup hl
    obtain ⟨c', e'⟩ := mem_lookup (cells_acc (names := scope.names) (n := (s.heap.push { cls := .type "dict", data := .dict #[] }).objs.size) (cloFrom_has (cells := X.env.cells) (acc := []) hy))
    rw [← hcl] at e'
    refine ⟨c', e', ?_⟩
    rw [hcl] at e'
    rcases cells_mem (PySem.mem_of_lookup e') with hm | ⟨h1, _, _⟩
    · exact (cm hm).1
    · have := ok.uniq _ h1
      rw [hl] at this; cases this
  have okB : (X.blk s H scope cenv fp).Ok := by
    refine ⟨I.ok.mod, by show cenv.scope.kind = _; rw [hsc]; exact ok.kind, by show cenv.globals = _; rw [← hcenv]; exact I.ok.glob, by show cenv.builtins = _; rw [← hcenv]; exact I.ok.blt, by show s.heap.objs.size ≤ cenv.locals; rw [hL]; exact Nat.le_refl _,
      fun y z c e1 e2 => ?_, fun y hy => ?_, fun y c z e => ?_, I.ok.hd, I.ok.frames, .inl rfl, fun b hb => ⟨?_, fun y c e z => ?_⟩, I.bs, Nat.le_trans I.ok.bsz I.sz, fun b o e hb => ?_, fun b hb z => ?_, I.stack, I.stkFree⟩
    · have e1 : cenv.cells.lookup y = some c := e1
      have e2 : cenv.cells.lookup z = some c := e2
      rw [hcl] at e1 e2
      refine cells_inj (fun p hp => ?_) (fun y z c a b => I.ok.inj y z c (cm a).1 (cm b).1) (PySem.mem_of_lookup e1) (PySem.mem_of_lookup e2)
      rw [Heap.size_push]
      exact Nat.lt_succ_of_lt (cm (y := p.1) (c := p.2) hp).2
    · show ∃ c, cenv.cells.lookup y = some c
      have key : ∀ k, cenv.kindOf y = some k → (k = .cell ∨ k = .free) → ∃ c, cenv.cells.lookup y = some c := fun k hk hk' => by
        unfold Env.kindOf at hk
        rw [hsc] at hk
        obtain ⟨k', e, r⟩ := lookup_relS hk
        have : k' = .cell ∨ k' = .free := by
          rcases r with rfl | ⟨rfl, _⟩
          · exact hk'
          · exact .inr rfl
        rcases this with rfl | rfl
        · obtain ⟨c, hm⟩ := cells_has (n := (s.heap.push { cls := .type "dict", data := .dict #[] }).objs.size) (acc := cloFrom X.env.cells scope.names []) (PySem.mem_of_lookup e)
          obtain ⟨c', e'⟩ := mem_lookup hm
          exact ⟨c', by rw [hcl]; exact e'⟩
        · obtain ⟨c, h1, _⟩ := look e
          exact ⟨c, h1⟩
      rcases hy with hy | hy
      · exact key _ hy (.inl rfl)
      · exact key _ hy (.inr rfl)
    · have z : (scope.names.lookup y == some NameKind.cell) = true := z
      have z : scope.names.lookup y = some .cell := by simpa using z
      have e : cenv.cells.lookup y = some c := e
      rw [hcl] at e
      rcases cells_mem (PySem.mem_of_lookup e) with hm | ⟨_, h2, _⟩
      · rcases cloFrom_mem hm with hm | ⟨h1, _⟩
        · cases hm
        · have q := ok.uniq _ h1
          rw [z] at q; cases q
      · rw [Heap.size_push] at h2
        exact Nat.le_of_succ_le h2
    · show b ≠ cenv.locals
      rw [hL]; exact Nat.ne_of_lt (hfp b hb).2
    · have e : cenv.cells.lookup y = some c := e
      rcases mem e with ⟨h1, _⟩ | ⟨h1, _⟩
      · exact (hfp b hb).1.2.2.2.2.1 y c h1 z
      · have h2 : s.heap.objs.size + 1 ≤ b := by rw [← z]; exact h1
        exact absurd (Nat.lt_of_lt_of_le (hfp b hb).2 (Nat.le_of_succ_le h2)) (Nat.lt_irrefl _)
    · rcases (hfp b hb).1.2.2.2.1 with z | z
      · exact I.ok.noex b o e z
      · exact absurd (Nat.lt_of_lt_of_le (Heap.lt_size e) (Nat.le_trans I.ok.bsz z)) (Nat.lt_irrefl _)
    · rcases List.mem_cons.mp (I.stkSub b z) with z | z
      · exact (hfp b hb).1.2.1 z
      · exact (hfp b hb).1.2.2.1 z
  refine ⟨okB, rfl, I.bare, Un.kept kp, ⟨fun _ => none, ?_, fun i y av e1 e2 e3 => ?_⟩, fun y c e => ?_, ?_, fun y c e => ?_, fun p hp => ?_, I.hok.kept kp, by rw [wipe_length]; exact I.len⟩
  · show Heap.Ns _ cenv.locals _
    rw [hL]
    exact Heap.Ns.keeps (Heap.Ns.new ..) fun b o e => pushCells_keeps _ _ _ _ e
  · obtain ⟨e2, hne⟩ := wipe_some e2
    have hfr : scope.names.lookup y = some .free ∧ (cenv.kindOf y = some .cell ∨ cenv.kindOf y = some .free) := by
      have key : ∀ k, cenv.scope.names.lookup y = some k → k = .local ∨ k = .cell ∨ k = .free → scope.names.lookup y = some .free ∧ (cenv.kindOf y = some .cell ∨ cenv.kindOf y = some .free) := fun k hk hk' => by
        have hk0 := hk
        rw [hsc] at hk
        obtain ⟨k', e, r⟩ := lookup_relS hk
        have no : ¬ (k' = .local ∨ k' = .cell) := fun hh => by
          rcases ok.own _ (PySem.mem_of_lookup e) hh with e' | e'
          · obtain ⟨p, hp, hpy⟩ := List.mem_map.mp e'
            have e3 := ok.ix p hp
            have : p.1 = y := hpy
            rw [this] at e3
            exact hne (List.mem_map.mpr ⟨p, hp, nodup_ix hN e3 e1⟩)
          · exact e' (List.mem_of_getElem? e1)
        rcases r with rfl | ⟨rfl, rfl⟩
        · rcases hk' with rfl | rfl | rfl
          · exact absurd (.inl rfl) no
          · exact absurd (.inr rfl) no
          · exact ⟨e, .inr hk0⟩
        · exact ⟨e, .inl hk0⟩
      have e3 : Vis cenv.scope y := e3
      rcases e3 with e3 | e3 | e3
      · exact key _ e3 (.inl rfl)
      · exact key _ e3 (.inr (.inl rfl))
      · exact key _ e3 (.inr (.inr rfl))
    obtain ⟨m, hn, hl⟩ := I.loc
    have hvis : Vis X.env.scope y := (ok.free _ (PySem.mem_of_lookup hfr.1) rfl).elim (fun k => .inr (.inl k)) (fun k => .inr (.inr k))
    obtain ⟨w, r, q⟩ := hl i y av e1 e2 hvis
    refine ⟨w, r, .inr ⟨hfr.2, ?_⟩⟩
    obtain ⟨c, h1, h2⟩ := look hfr.1
    rcases q with ⟨k, _⟩ | ⟨_, c', e', z⟩
    · have k : X.env.scope.names.lookup y = some .local := k
      rcases ok.free _ (PySem.mem_of_lookup hfr.1) rfl with k' | k' <;> rw [show X.env.scope.names.lookup y = _ from k'] at k <;> cases k
    · rw [h2] at e'; cases e'
      exact ⟨c, h1, z.keeps kp⟩
  · have e : cenv.cells.lookup y = some c := e
    rcases mem e with ⟨h1, _⟩ | ⟨_, z⟩
    · obtain ⟨w, z⟩ := I.cell y c h1
      exact ⟨w, z.keeps kp⟩
    · exact ⟨_, z⟩
  · show H cenv.locals = none
    rw [hL]; exact I.hok.fresh (Nat.le_refl _)
  · have e : cenv.cells.lookup y = some c := e
    rcases mem e with ⟨h1, _⟩ | ⟨h1, _⟩
    · exact I.freeC y c h1
    · exact I.hok.fresh (Nat.le_of_succ_le h1)
  · exact absurd (show p ∈ ([] : List (Addr × Obj)) ++ [] from hp) (by simp)
/-- an item appended to a tracked list -/
theorem app_ok {E : Value → Shared → Prop} {D : Addr} {xs : List V} {y : V} {v : Value} {Q : Value → Shared → Prop} (I : Inv X pins σ H s) (hD : H D = some (.lst xs)) (hz : xs.length < sizeLine) (r : RelV y v)
    (h : ∀ s', Inv X pins σ (upd H D (.lst (xs ++ [y]))) s' → Q .none s') : wpAny (model X.prog X.w) X.A (call (.builtin "list.append") [.ref D, v]) Q E s := by
  obtain ⟨hz', its, n, ri, e⟩ := I.hok D _ hD
  have hl := ri.length
  refine append_at (hsz := by rw [List.size_toArray]; omega) e fun h' sb ho' => ?_
  refine h { s with heap := h' } (I.write (t' := s.toks) (by rw [hD]; trivial) (.inl rfl) (fun b u hb q => (sb.2 b hb).trans q) ⟨_, ho'⟩ ⟨by rw [List.length_append]; exact hz, its ++ [v], n + 1, ri.append (.cons r .nil), ?_⟩)
  rw [ho']
  simp
/-- a clause's tests -/
def PTs (X : Cx) (ifs : List Expr) (t : TT) : Prop :=
  ∀ (pins : List (Addr × Obj)) (s : Shared) (σ : St) (H : Hp) (Q : Bool → Hp → Prop), Inv X pins σ H s → t σ H Q →
    wpAny (model X.prog X.w) X.A (forIn ifs true fun c r => if r = true then do let ok ← isTrue c X.env (eval c X.env); pure (ForInStep.yield ok) else pure (ForInStep.yield r)) (TP X pins σ Q) X.xe s
def tYes : TT := fun _ H Q => Q true H
theorem pts_nil : PTs X [] tYes := fun _ _ _ H _ I h => wpAny_tests_nil ⟨H, I, h⟩
theorem pts_one {c : Expr} {t : TT} (h : PT X c t) : PTs X [c] t := fun pins s σ H Q I hw => wpAny_tests_one (h pins s σ H Q I hw)
end
theorem thnF {α : Type} {t : Sem α} {Q Q' : α → Shared → Prop} {M : Model} {A : Around} {E : Value → Shared → Prop} {s : Shared} (h : wpAny M A t Q (fun _ _ => False) s) (hQ : ∀ a s, Q a s → Q' a s) : wpAny M A t Q' E s := wpAny_mono h hQ fun _ _ z => False.elim z
/-- the loop of a list comprehension's block, the target of any form (codeAny_compLoop_tests asks a target that no tuple goes to; statement and proof follow it, PyProof/CompMap.lean:41-61, with the step letOwnedTupleGo kept) -/
theorem compLoop_any {prog : Program} {w : World} {A : Around} {R : Result → Shared → Prop} {s : Shared} {elt target iter : Expr} {ifs : List Expr} {scope : Scope} {pos : Pos} {it acc : Value} {env : Env} (I : Nat → Shared → Prop)
    (turn : ∀ n s, I n s → wpAny (model prog w) A (pyNext it) (fun r s₁ => match r with
      | none => R (.ok .next) s₁
      | some v => wpAny (model prog w) A (letOwnedTupleGo target it v) (fun _ s₁' => wpAny (model prog w) A (assign target env v) (fun _ s₂ =>
          wpAny (model prog w) A (forIn ifs true fun c r => if r = true then do let ok ← isTrue c env (eval c env); pure (ForInStep.yield ok) else pure (ForInStep.yield r)) (fun ok s₃ =>
            if ok = true then wpAny (model prog w) A (eval elt env) (fun x s₄ =>
              wpAny (model prog w) A (call (.builtin "list.append") [acc, x]) (fun _ s₅ => ∃ m, m < n ∧ I m s₅) (notedBy (model prog w) A env fun e s' => R (.error e) s') s₄) (notedBy (model prog w) A env fun e s' => R (.error e) s') s₃
            else ∃ m, m < n ∧ I m s₃) (notedBy (model prog w) A env fun e s' => R (.error e) s') s₂) (notedBy (model prog w) A env fun e s' => R (.error e) s') s₁') (notedBy (model prog w) A env fun e s' => R (.error e) s') s₁) (notedBy (model prog w) A env fun e s' => R (.error e) s') s)
    (n : Nat) (h : I n s) :
    codeAny (model prog w) A (.compLoop (.ListComp elt [⟨target, iter, ifs, 0⟩] scope pos) 0 it acc env) R s := by
  refine codeAny_loop rfl I (fun n s hI => ?_) n h
  show wpAny _ A ((compTurn (.ListComp elt [⟨target, iter, ifs, 0⟩] scope pos) 0 it acc env).onRaise (fun x => do noteFrame x env; theTreesLotGoes x)) _ _ s
  refine wpAny_noted ?_
  rw [compTurn_list]
  refine wpAny_bind (wpAny_standAt (wpAny_bind (wpAny_mono (turn n s hI) (fun r s₁ h₁ => ?_) fun _ _ h' => h')))
  cases r with
  | none => exact wpAny_pure h₁
  | some v =>
    refine wpAny_bind (wpAny_mono h₁ (fun _ s₁' h₁' => ?_) fun _ _ h' => h')
    refine wpAny_bind (wpAny_mono h₁' (fun _ s₂ h₂ => wpAny_bind (wpAny_mono h₂ (fun ok s₃ h₃ => ?_) fun _ _ h' => h')) fun _ _ h' => h')
    cases ok with
    | false => exact wpAny_pure ⟨rfl, h₃⟩
    | true =>
      exact wpAny_bind (wpAny_bind (wpAny_mono h₃ (fun x s₄ h₄ => wpAny_bind (wpAny_mono h₄ (fun _ s₅ h₅ => wpAny_pure (wpAny_pure ⟨rfl, h₅⟩)) fun _ _ h' => h')) fun _ _ h' => h'))
section
variable {X : Cx}
/-- [elt for target in iter if ..]: D the new list; W by the turn and a measure, Nx what a turn is to reach -/
def tLc (wi : TI) (g : TG) (tt : TT) (te : TE) (vs : List Nat) : TE := fun σ H Q => wi σ H fun J H1 => ∀ D, H1 D = none → ∃ W : Nat → Nat → Hp → Prop, (∃ m, W 0 m (upd H1 D (.lst []))) ∧ ∀ i m H, W i m H →
  (J.stop i H ∧ Q (.ref D) H) ∨ (J.go i H ∧ ∃ Nx : Hp → Prop, (∀ H', Nx H' → ∃ m', m' < m ∧ W (i + 1) m' H') ∧ ∀ x H', J.yld i H x H' → g x (wipe σ vs) H' fun σ2 H2 => wipe σ2 vs = wipe σ vs ∧ tt σ2 H2 fun b H3 =>
    if b = true then te σ2 H3 fun y H4 => ∃ acc, H4 D = some (.lst acc) ∧ acc.length < sizeLine ∧ Nx (upd H4 D (.lst (acc ++ [y]))) else Nx H3)
theorem lc_core {pins : List (Addr × Obj)} {s : Shared} {σ : St} {H : Hp} {Q : VK} {elt tg iter : Expr} {ifs : List Expr} {scope : Scope} {own : List (Str × Nat)} {pos pos' : Pos} {wi : TI} {g : TG} {tt : TT} {te : TE} {use : Option (Value → Sem Unit)} {Qf : Value → Shared → Prop}
    (hc : X.calm = true) (hN : X.N.Nodup) (I : Inv X pins σ H s) (hi : PI X tg iter wi) (ok : BlkOk X.N X.env.scope scope own)
    (hg : ∀ (s : Shared) (H : Hp) (C : Addr) (cl : List (Str × Addr)) (fp : List Addr), PG (X.blk s H scope (compEnvC scope cl C X.env) fp) tg g) (ht : ∀ (s : Shared) (H : Hp) (C : Addr) (cl : List (Str × Addr)) (fp : List Addr), PTs (X.blk s H scope (compEnvC scope cl C X.env) fp) ifs tt)
    (he : ∀ (s : Shared) (H : Hp) (C : Addr) (cl : List (Str × Addr)) (fp : List Addr), PE (X.blk s H scope (compEnvC scope cl C X.env) fp) elt te) (hs : ∀ x, foldedSetIterable iter X.env x = pure x)
    (h : tLc wi g tt te (own.map (·.2)) σ H Q)
    (hRR : ∀ D C s' m H', Inv X pins σ H' s' → Q (.ref D) H' → s'.heap.Ns C m → FpOk X pins H' C → compPost (model X.prog X.w) X.A X.xe use Qf (.ref D) C (.ok .next) s') :
    wpAny (model X.prog X.w) X.A (comprehension (.ListComp elt [⟨tg, iter, ifs, 0⟩] scope pos) scope X.env pos' (newList []) false (eval iter X.env) use) Qf X.xe s := by
  have hfree : ∀ y ∈ scope.names, y.2 = .free → ∃ c, X.env.cells.lookup y.1 = some c := fun y hy e => by
    rcases ok.free y hy e with k | k
    · exact I.ok.has _ (.inl k)
    · exact I.ok.has _ (.inr k)
  refine wpAny_comprehension_free (use := use) rfl hs (closure_ok hfree) ok.kind (fun y hy e => by rw [ok.uniq y hy, e])
    (thn (hi pins s σ H _ I h) fun xv s1 hx => thn hx fun itv s2 h2 => ?_)
  obtain ⟨it, fp, tn, J, H2, e, I2, T, st2, f2, q⟩ := h2
  subst e
  refine wpAny_newObj_type (newEnv_comp ?_) (by show 0 ≤ sizeLine; decide)
  generalize hD : s2.heap.objs.size = D
  have hDn : H2 D = none := I2.hok.fresh (Nat.le_of_eq hD)
  obtain ⟨W, ⟨m0, w0⟩, turn⟩ := q D hDn
  -- the new list
  generalize hs3 : ({ s2 with heap := s2.heap.push { cls := .type "list", data := .seq ([] : List Value).toArray } } : Shared) = s3
  have I3 : Inv X pins σ (upd H2 D (.lst [])) s3 := by
    rw [← hs3]
    refine I2.laid (t' := s2.toks) (fun b o e => Heap.get?_push_of_some _ e) (Nat.le_of_eq hD) ⟨Nat.zero_le _, [], 0, .nil, ?_⟩
    rw [← hD]
    exact Heap.get?_push_size _ rfl
  have h3 : s3.heap = s2.heap.push { cls := .type "list", data := .seq ([] : List Value).toArray } := by rw [← hs3]
  have sz : ∀ b ∈ fp, b < s2.heap.objs.size := fun b hb => by
    obtain ⟨o, e, _⟩ := T.obj _ _ st2 b hb
    exact Heap.lt_size e
  have f3 : ∀ b ∈ fp, FpOk X pins (upd H2 D (.lst [])) b ∧ b < s3.heap.objs.size := fun b hb => by
    have hlt := sz b hb
    refine ⟨⟨?_, (f2 b hb).2⟩, by rw [h3, Heap.size_push]; exact Nat.lt_succ_of_lt hlt⟩
    rw [upd_ne (by rw [← hD]; exact Nat.ne_of_lt hlt)]
    exact (f2 b hb).1
  have st3 : tn 0 s3.heap := T.keep _ _ _ st2 fun b _ o e => by rw [h3]; exact Heap.get?_push_of_some _ e
  have I4 := block_start I3 ok hN f3
  have pg := hg s3 (upd H2 D (.lst [])) s3.heap.objs.size (cellsFrom (s3.heap.objs.size + 1) scope.names (cloFrom X.env.cells scope.names [])) fp
  have pt := ht s3 (upd H2 D (.lst [])) s3.heap.objs.size (cellsFrom (s3.heap.objs.size + 1) scope.names (cloFrom X.env.cells scope.names [])) fp
  have pe := he s3 (upd H2 D (.lst [])) s3.heap.objs.size (cellsFrom (s3.heap.objs.size + 1) scope.names (cloFrom X.env.cells scope.names [])) fp
  show codeAny _ _ (.compStart (.ListComp elt [⟨tg, iter, ifs, 0⟩] scope pos) 0 (.ref it) (.ref D) (compEnvC scope (cellsFrom (s3.heap.objs.size + 1) scope.names (cloFrom X.env.cells scope.names [])) s3.heap.objs.size X.env)) (compPost (model X.prog X.w) X.A X.xe use Qf (.ref D) s3.heap.objs.size) { s3 with heap := pushCells (s3.heap.push { cls := .type "dict", data := .dict #[] }) scope.names }
  have nfp : ∀ b ∈ fp, (upd H2 D (.lst [])) b = none := fun b hb => (f3 b hb).1.1
  generalize hce : compEnvC scope (cellsFrom (s3.heap.objs.size + 1) scope.names (cloFrom X.env.cells scope.names [])) s3.heap.objs.size X.env = ce at I4 pg pt pe ⊢
  have cL : ce.locals = s3.heap.objs.size := by subst hce; rfl
  generalize hH3 : upd H2 D (.lst []) = H3 at I3 I4 pg pt pe w0 nfp f3
  generalize hs4 : ({ s3 with heap := pushCells (s3.heap.push { cls := .type "dict", data := .dict #[] }) scope.names } : Shared) = s4 at I4 ⊢
  have st4 : tn 0 s4.heap := T.keep _ _ _ st3 fun b _ o e => by rw [← hs4]; exact pushCells_keeps _ _ _ _ (Heap.get?_push_of_some _ e)
  have stat : ∀ {σ' : St} {H' : Hp} {s' : Shared}, Inv (X.blk s3 H3 scope ce fp) [] σ' H' s' → (∀ b ∈ fp, H' b = none) → ∀ b ∈ fp, FpOk (X.blk s3 H3 scope ce fp) [] H' b := fun {σ' H' s'} I' hn b hb =>
    ⟨hn b hb, (I'.ok.exf b hb).1, I'.ok.exfs b hb, .inl hb, fun x c e => (I'.ok.exf b hb).2 x c e, fun p hp => absurd (show p ∈ ([] : List (Addr × Obj)) ++ [] from hp) (by simp)⟩
  have loop : codeAny (model X.prog X.w) X.A (.compLoop (.ListComp elt [⟨tg, iter, ifs, 0⟩] scope pos) 0 (.ref it) (.ref D) ce) (compPost (model X.prog X.w) X.A X.xe use Qf (.ref D) s3.heap.objs.size) s4 := by
    refine compLoop_any (fun n s' => ∃ i H', Inv (X.blk s3 H3 scope ce fp) [] (wipe σ (own.map (·.2))) H' s' ∧ tn i s'.heap ∧ (∀ b ∈ fp, H' b = none) ∧ W i n H') ?_ m0 ⟨0, H3, I4, st4, nfp, w0⟩
    rintro n s5 ⟨i, H5, I5, st5, n5, w5⟩
    rcases turn i n H5 w5 with ⟨stop, qq⟩ | ⟨go, Nx, hNx, step⟩
    · have td := T.done (X.blk s3 H3 scope ce fp) rfl rfl rfl hc i [] s5 _ H5 (fun _ _ => False) I5 (stat I5 n5) st5 stop
      refine thnF td fun r s6 ⟨hr, I6⟩ => ?_
      subst hr
      -- back in the def's context
      have I7 : Inv X pins σ H5 s6 := I3.call' (ch := fp) I6.os I6.base I6.hok I6.bare fun b hb => ⟨(f3 b hb).1.2.2.2.1, (f3 b hb).1.2.1, (f3 b hb).1.2.2.2.2.1, (f3 b hb).1.2.2.2.2.2⟩
      have nC : H5 s3.heap.objs.size = none := by
        have z : H5 ce.locals = none := I6.free
        rw [cL] at z
        exact z
      obtain ⟨m, hn, _⟩ := I6.loc
      have hn : s6.heap.Ns ce.locals m := hn
      rw [cL] at hn
      exact hRR D s3.heap.objs.size s6 m H5 I7 qq hn (I3.fpOk (Nat.le_refl _) nC)
    · have ti := T.item (X.blk s3 H3 scope ce fp) rfl rfl rfl hc i [] s5 _ H5 (fun _ _ => False) I5 (stat I5 n5) st5 go
      refine thnF ti fun r s6 ⟨u, hr, h6⟩ => ?_
      subst hr
      refine thnF h6 fun _ s7 ⟨x, H7, I7, r7, y7, st7, n7⟩ => ?_
      have I7' := I7.pinned (stat I7 n7) (T.obj _ _ st7)
      refine thnF (pg _ s7 _ H7 x u _ I7' r7 (step x H7 y7)) fun _ s8 ⟨σ8, H8, I8, hw8, q8⟩ => ?_
      refine thnF (pt _ s8 σ8 H8 _ I8 q8) fun b s9 ⟨H9, I9, q9⟩ => ?_
      -- the turn's end
      have fin : ∀ {s' : Shared} {H' : Hp}, Inv (X.blk s3 H3 scope ce fp) ([] ++ pinsAt fp s7.heap) σ8 H' s' → Nx H' → ∃ m, m < n ∧ ∃ i H', Inv (X.blk s3 H3 scope ce fp) [] (wipe σ (own.map (·.2))) H' s' ∧ tn i s'.heap ∧ (∀ b ∈ fp, H' b = none) ∧ W i m H' := fun {s' H'} I' nx => by
        obtain ⟨m', hm, w'⟩ := hNx H' nx
        have pin' : ∀ b ∈ fp, ∀ o, s7.heap.get? b = some o → s'.heap.get? b = some o ∧ H' b = none := fun b hb o e =>
          let z := I'.pin (b, o) (List.mem_append_right _ (List.mem_append_right _ (mem_pinsAt hb e)))
          ⟨z.1, z.2.1⟩
        have hl : (wipe σ (own.map (·.2))).length = σ8.length := by rw [← hw8, wipe_length]
        refine ⟨m', hm, i + 1, H', (I'.unpinned (pins := [])).weak hl (fun j v e => ?_), T.keep _ _ _ st7 fun b hb o e => (pin' b hb o e).1, fun b hb => ?_, w'⟩
        · rw [← hw8] at e
          exact (wipe_some e).1
        · obtain ⟨o, e, _⟩ := T.obj _ _ st7 b hb
          exact (pin' b hb o e).2
      cases b with
      | false =>
        simp only [Bool.false_eq_true, if_false] at q9 ⊢
        exact fin I9 q9
      | true =>
        simp only [if_true] at q9 ⊢
        refine thnF (pe _ s9 σ8 H9 _ I9 q9) fun z s10 ⟨yv, H10, I10, r10, acc, hD10, hz10, nx⟩ => ?_
        exact app_ok (X := X.blk s3 H3 scope ce fp) I10 hD10 hz10 r10 fun s11 I11 => fin I11 nx
  exact codeAny_compStart_list loop (T.self X.A 0 _ _ _ st4 loop)
/-- as a value -/
theorem pe_lc {elt tg iter : Expr} {ifs : List Expr} {scope : Scope} {own : List (Str × Nat)} {pos : Pos} {wi : TI} {g : TG} {tt : TT} {te : TE} (hc : X.calm = true) (hN : X.N.Nodup) (hi : PI X tg iter wi) (ok : BlkOk X.N X.env.scope scope own)
    (hg : ∀ (s : Shared) (H : Hp) (C : Addr) (cl : List (Str × Addr)) (fp : List Addr), PG (X.blk s H scope (compEnvC scope cl C X.env) fp) tg g) (ht : ∀ (s : Shared) (H : Hp) (C : Addr) (cl : List (Str × Addr)) (fp : List Addr), PTs (X.blk s H scope (compEnvC scope cl C X.env) fp) ifs tt)
    (he : ∀ (s : Shared) (H : Hp) (C : Addr) (cl : List (Str × Addr)) (fp : List Addr), PE (X.blk s H scope (compEnvC scope cl C X.env) fp) elt te) (hs : ∀ x, foldedSetIterable iter X.env x = pure x := by intro _; rfl) :
    PE X (.ListComp elt [⟨tg, iter, ifs, 0⟩] scope pos) (tLc wi g tt te (own.map (·.2))) := by
  intro pins s σ H Q I h
  rw [eval_ListComp]
  refine lc_core hc hN I hi ok hg ht he hs h fun D C s' m H' I' q hn f => ⟨m, hn, fun h'' sb => ?_⟩
  obtain ⟨f0, f1, f2, f3, f4, f5⟩ := f
  exact ⟨.ref D, H', I'.turned (t' := s'.toks) (fun b o hb e => (sb.2 b hb).trans e) f0 f1 f3 f4 f5, rfl, q⟩
/-- name = [..] on one line, the name a local -/
theorem ps_setLc {i : Nat} {y : Str} {py : Pos} {elt tg iter : Expr} {ifs : List Expr} {scope : Scope} {own : List (Str × Nat)} {pos spos : Pos} {wi : TI} {g : TG} {tt : TT} {te : TE} (hc : X.calm = true) (hN : X.N.Nodup) (hy : X.N[i]? = some y) (hyl : X.env.scope.names.lookup y = some .local)
    (hsw : swapsWith (.ListComp elt [⟨tg, iter, ifs, 0⟩] scope pos) (some (.Name y py)) spos.line X.env = pure true) (hi : PI X tg iter wi) (ok : BlkOk X.N X.env.scope scope own)
    (hg : ∀ (s : Shared) (H : Hp) (C : Addr) (cl : List (Str × Addr)) (fp : List Addr), PG (X.blk s H scope (compEnvC scope cl C X.env) fp) tg g) (ht : ∀ (s : Shared) (H : Hp) (C : Addr) (cl : List (Str × Addr)) (fp : List Addr), PTs (X.blk s H scope (compEnvC scope cl C X.env) fp) ifs tt)
    (he : ∀ (s : Shared) (H : Hp) (C : Addr) (cl : List (Str × Addr)) (fp : List Addr), PE (X.blk s H scope (compEnvC scope cl C X.env) fp) elt te) (hs : ∀ x, foldedSetIterable iter X.env x = pure x := by intro _; rfl) :
    PS X (.Assign [.Name y py] (.ListComp elt [⟨tg, iter, ifs, 0⟩] scope pos) spos) (tAsg (tLc wi g tt te (own.map (·.2))) (gName i)) := by
  intro pins s σ H D I h
  rw [exec_Assign_Name_used _ _ _ _ hsw]
  refine wpAny_bind (wpAny_standAt (wpAny_bind ?_))
  show wpAny _ X.A (do let _ ← comprehension (.ListComp elt [⟨tg, iter, ifs, 0⟩] scope pos) scope X.env (firstIterPos [⟨tg, iter, ifs, 0⟩] pos) (newList []) false (eval iter X.env) (some (assign (.Name y py) X.env))) _ _ s
  have h : tLc wi g tt te (own.map (·.2)) σ H (fun x H1 => gName i x σ H1 D.nx) := h
  refine wpAny_bind (thn (lc_core (Qf := fun _ s' => SP X pins D .next s') hc hN I hi ok hg ht he hs h fun L C s' m H' I' q hn f => ?_) fun _ s' hq => wpAny_pure (wpAny_pure hq))
  show wpAny _ _ (assign (.Name y py) X.env (.ref L)) _ _ _
  refine wpAny_assign_Name (store_ok2 (v := V.ref L) I' hN hy (.inl hyl) rfl (fun s2 I2 ⟨a, sb, ha⟩ => ?_) (.inr hyl))
  obtain ⟨f0, f1, f2, f3, f4, f5⟩ := f
  have haC : C ≠ a := by
    rcases ha with z | z
    · rw [z]; exact f1
    · exact fun e => f4 y a z e.symm
  refine ⟨m, hn.sameBut sb haC, fun h3 sb3 => ?_⟩
  exact ⟨_, H', I2.turned (t' := s2.toks) (fun b o hb e => (sb3.2 b hb).trans e) f0 f1 f3 f4 f5, q⟩
theorem sw_true {elt : Expr} {gs : List Comprehension} {scope : Scope} {pos py : Pos} {y : Str} {l : Nat} {env : Env} (hk : env.scope.kind = .function) (hy : env.scope.names.lookup y = some .local) (hl : (py.line == pos.line) = true)
    (ha : (scope.names.any fun (n, k) => n == y && (k == .local || k == .cell)) = false) : swapsWith (.ListComp elt gs scope pos) (some (.Name y py)) l env = pure true := by
  have ky : env.kindOf y = some .local := hy
  have hb : env.blockKind = .function := by unfold Env.blockKind; rw [hk]; rfl
  unfold swapsWith
  simp only [hb, ky, ha, Expr.pos, hl]
  rfl
end
/-! ### the forms one uses -/
/-- over a list that the block leaves as it is -/
theorem lc_list {K : PySem.W.Frag} {a : Addr} {xs : List V} {g : TG} {tt : TT} {te : TE} {vs : List Nat} {σ : St} {H1 : Hp} {D : Addr} {Qd : Hp → Prop} (Pv : Nat → Hp → Prop) (h0 : Pv 0 (upd H1 D (.lst []))) (hl : ∀ i H, i ≤ xs.length → Pv i H → SqL K H a xs)
    (hs : ∀ i x H, xs[i]? = some x → Pv i H → g x (wipe σ vs) H fun σ2 H2 => wipe σ2 vs = wipe σ vs ∧ tt σ2 H2 fun b H3 =>
      if b = true then te σ2 H3 fun y H4 => ∃ acc, H4 D = some (.lst acc) ∧ acc.length < sizeLine ∧ Pv (i + 1) (upd H4 D (.lst (acc ++ [y]))) else Pv (i + 1) H3) (hd : ∀ H, Pv xs.length H → Qd H) :
    ∃ W : Nat → Nat → Hp → Prop, (∃ m, W 0 m (upd H1 D (.lst []))) ∧ ∀ i m H, W i m H →
      ((Itl K a).stop i H ∧ Qd H) ∨ ((Itl K a).go i H ∧ ∃ Nx : Hp → Prop, (∀ H', Nx H' → ∃ m', m' < m ∧ W (i + 1) m' H') ∧ ∀ x H', (Itl K a).yld i H x H' → g x (wipe σ vs) H' fun σ2 H2 => wipe σ2 vs = wipe σ vs ∧ tt σ2 H2 fun b H3 =>
        if b = true then te σ2 H3 fun y H4 => ∃ acc, H4 D = some (.lst acc) ∧ acc.length < sizeLine ∧ Nx (upd H4 D (.lst (acc ++ [y]))) else Nx H3) := by
  refine ⟨fun i m H => m = xs.length - i ∧ i ≤ xs.length ∧ Pv i H, ⟨xs.length, by simp, Nat.zero_le _, h0⟩, ?_⟩
  rintro i m H ⟨rfl, hi, p⟩
  have q := hl i H hi p
  by_cases hlt : i < xs.length
  · refine .inr ⟨⟨xs, xs[i], q, by simp [hlt]⟩, Pv (i + 1), fun H' p' => ⟨xs.length - (i + 1), by omega, rfl, hlt, p'⟩, fun x H' y => ?_⟩
    obtain ⟨e, y⟩ := y
    subst e
    exact hs i x _ (y xs q) p
  · have e : i = xs.length := by omega
    subst e
    exact .inl ⟨⟨xs, q, Nat.le_refl _⟩, hd H p⟩
def blkC (N : List Str) (sc scope : Scope) (own : List (Str × Nat)) : Bool :=
  (match scope.kind with | .function => true | _ => false) && (scope.names.all fun y => decide (scope.names.lookup y.1 = some y.2)) && (own.all fun p => decide (N[p.2]? = some p.1)) &&
    (scope.names.all fun y => match y.2 with
      | .free => (match sc.names.lookup y.1 with | some .cell => true | some .free => true | _ => false)
      | .local => decide (y.1 ∈ own.map (·.1)) || decide (y.1 ∉ N)
      | .cell => decide (y.1 ∈ own.map (·.1)) || decide (y.1 ∉ N)
      | _ => true)
theorem blkOk_by {N : List Str} {sc scope : Scope} {own : List (Str × Nat)} (h : blkC N sc scope own = true) : BlkOk N sc scope own := by
  unfold blkC at h
  simp only [Bool.and_eq_true, List.all_eq_true, decide_eq_true_eq] at h
  obtain ⟨⟨⟨h1, h2⟩, h3⟩, h4⟩ := h
  refine ⟨?_, h2, h3, fun y hy e => ?_, fun y hy e => ?_⟩
  · split at h1
    · assumption
    · cases h1
  · have q := h4 y hy
    simp only [e] at q
    split at q <;> first | exact .inl (by assumption) | exact .inr (by assumption) | cases q
  · have q := h4 y hy
    rcases e with e | e <;> (simp only [e, Bool.or_eq_true, decide_eq_true_eq] at q; exact q)
end L2
namespace L2
open PySem PySem.Spec PyProof.Rows
section
variable {prog : Program} {w : World} {A : Around} {R : Result → Shared → Prop} {s : Shared} {elt t0 i0 t1 i1 : Expr} {ifs0 ifs1 : List Expr} {scope : Scope} {pos : Pos} {it acc : Value} {env : Env}
end
section
variable {X : Cx}
end
end L2
namespace L2
open PySem PySem.Spec PyProof.Rows
/-! ### lists of pairs as tables -/
section
variable {κ : Type} [DecidableEq κ]
def valV (kvs : List (κ × V)) (k : κ) : Option V := (kvs.find? fun kv => decide (kv.1 = k)).map (·.2)
/-- in its place, or at the end -/
def putK (kvs : List (κ × V)) (k : κ) (v : V) : List (κ × V) :=
  if (kvs.any fun kv => decide (kv.1 = k)) = true then kvs.map (fun kv => if kv.1 = k then (kv.1, v) else kv) else kvs ++ [(k, v)]
theorem valV_pos {p : κ × V} {r : List (κ × V)} {k : κ} (e : p.1 = k) : valV (p :: r) k = some p.2 := by simp [valV, List.find?_cons, e]
theorem valV_neg {p : κ × V} {r : List (κ × V)} {k : κ} (e : ¬ p.1 = k) : valV (p :: r) k = valV r k := by simp [valV, List.find?_cons, e]
theorem valV_any (k : κ) : ∀ kvs : List (κ × V), (kvs.any fun kv => decide (kv.1 = k)) = (valV kvs k).isSome
  | [] => rfl
  | p :: r => by
    rw [List.any_cons]
    by_cases e : p.1 = k
    · simp only [valV_pos e, decide_eq_true e, Bool.true_or, Option.isSome_some]
    · rw [valV_neg e, decide_eq_false e, Bool.false_or]; exact valV_any k r
theorem length_putK (kvs : List (κ × V)) (k : κ) (v : V) : (putK kvs k v).length ≤ kvs.length + 1 := by
  unfold putK
  split
  · rw [List.length_map]; omega
  · rw [List.length_append, List.length_cons, List.length_nil]; omega
theorem putK_new {kvs : List (κ × V)} {k : κ} (v : V) (h : valV kvs k = none) : putK kvs k v = kvs ++ [(k, v)] := by
  unfold putK
  rw [valV_any, h]
  exact if_neg (by decide)
theorem RelO.isSome_eq {o : Option V} {u : Option Value} (r : RelO o u) : o.isSome = u.isSome := by
  cases o with
  | none => cases u with
    | none => rfl
    | some _ => exact (show False from r).elim
  | some _ => cases u with
    | none => exact (show False from r).elim
    | some _ => rfl
theorem RelO.getD {o : Option V} {u : Option Value} {d : V} {d' : Value} (r : RelO o u) (rd : RelV d d') : RelV (o.getD d) (u.getD d') := by
  cases o with
  | none => cases u with
    | none => exact rd
    | some _ => exact (show False from r).elim
  | some _ => cases u with
    | none => exact (show False from r).elim
    | some _ => exact r
/-- raw tables of the same keys -/
theorem KV.val {kvs : List (κ × V)} {vs : List (κ × Value)} (r : KV kvs vs) (k : κ) : RelO (valV kvs k) (valueAt vs k) := by
  unfold KV at r
  induction r with
  | nil => exact True.intro
  | @cons p q ps qs h t ih =>
    obtain ⟨h1, h2⟩ := h
    by_cases e : p.1 = k
    · have e' : q.1 = k := h1.symm.trans e
      have b : valueAt (q :: qs) k = some q.2 := by simp [valueAt, List.find?_cons, e']
      rw [valV_pos e, b]; exact h2
    · have e' : ¬ q.1 = k := fun z => e (h1.trans z)
      have b : valueAt (q :: qs) k = valueAt qs k := by simp [valueAt, List.find?_cons, e']
      rw [valV_neg e, b]; exact ih
theorem KV.any {kvs : List (κ × V)} {vs : List (κ × Value)} (r : KV kvs vs) (k : κ) : (kvs.any fun kv => decide (kv.1 = k)) = vs.any fun kv => decide (kv.1 = k) := by
  unfold KV at r
  induction r with
  | nil => rfl
  | cons h t ih => rw [List.any_cons, List.any_cons, ih, h.1]
theorem KV.repl {kvs : List (κ × V)} {vs : List (κ × Value)} (r : KV kvs vs) (k : κ) {y : V} {u : Value} (ry : RelV y u) :
    KV (kvs.map fun kv => if kv.1 = k then (kv.1, y) else kv) (vs.map fun kv => if kv.1 = k then (kv.1, u) else kv) := by
  unfold KV at r ⊢
  induction r with
  | nil => exact .nil
  | @cons p q ps qs h t ih =>
    rw [List.map_cons, List.map_cons]
    refine .cons ?_ ih
    obtain ⟨h1, h2⟩ := h
    by_cases e : p.1 = k
    · rw [if_pos e, if_pos (h1.symm.trans e)]; exact ⟨h1, ry⟩
    · rw [if_neg e, if_neg (fun z => e (h1.trans z))]; exact ⟨h1, h2⟩
theorem KV.put {kvs : List (κ × V)} {vs : List (κ × Value)} (r : KV kvs vs) (k : κ) {y : V} {u : Value} (ry : RelV y u) : KV (putK kvs k y) (stored vs k u) := by
  unfold putK stored
  rw [r.any k]
  by_cases e : (vs.any fun kv => decide (kv.1 = k)) = true
  · rw [if_pos e, if_pos e]; exact r.repl k ry
  · rw [if_neg e, if_neg e]; exact Paired.snoc r ⟨rfl, ry⟩
theorem KV.length {kvs : List (κ × V)} {vs : List (κ × Value)} (r : KV kvs vs) : kvs.length = vs.length := Paired.length r
end
/-! ### a tracked dict, its keys ints and texts or tuples of these -/
theorem kV_is {P : Program} {w : World} {k : Key} {u : Value} (r : RelV (kV k) u) : (mixKind P w).is k u = true := by
  cases k with
  | inl i => obtain ⟨t, e⟩ := (show ∃ t, u = Value.int i t from r); subst e; exact mixKind_int P w i t
  | inr x => obtain ⟨t, e⟩ := (show ∃ t, u = Value.str x t from r); subst e; exact mixKind_str P w x t
theorem items_are {P : Program} {w : World} : ∀ {ks : List Key} {us : List Value}, Vals (ks.map kV) us → ItemsAre (mixKind P w) ks us
  | [], _, r => by rw [List.map_nil] at r; cases r; exact .nil
  | k :: ks, _, r => by
    rw [List.map_cons] at r
    cases r with
    | cons h t => exact .cons (kV_is h) (items_are t)
/-- raw entries of a dict with tuple keys -/
abbrev KT (H : Hp) : List (List Key × V) → List (List Key × Addr × Value) → Prop := Paired fun p q => p.1 = q.1 ∧ H q.2.1 = some (.tup (p.1.map kV)) ∧ RelV p.2 q.2.2
theorem KT.val {H : Hp} {kvs : List (List Key × V)} {xs : List (List Key × Addr × Value)} (r : KT H kvs xs) (k : List Key) : RelO (valV kvs k) ((atKey xs k).map (·.2)) := by
  induction r with
  | nil => exact True.intro
  | @cons p q ps qs h t ih =>
    obtain ⟨h1, _, h2⟩ := h
    by_cases e : p.1 = k
    · have e' : q.1 = k := h1.symm.trans e
      have b : atKey (q :: qs) k = some q.2 := by simp [atKey, List.find?_cons, e']
      rw [valV_pos e, b]; exact h2
    · have e' : ¬ q.1 = k := fun z => e (h1.trans z)
      have b : atKey (q :: qs) k = atKey qs k := by simp [atKey, List.find?_cons, e']
      rw [valV_neg e, b]; exact ih
theorem KT.repl {H : Hp} {kvs : List (List Key × V)} {xs : List (List Key × Addr × Value)} (r : KT H kvs xs) (k : List Key) {y : V} {u : Value} (ry : RelV y u) :
    KT H (kvs.map fun kv => if kv.1 = k then (kv.1, y) else kv) (xs.map (putAt k u)) := by
  induction r with
  | nil => exact .nil
  | @cons p q ps qs h t ih =>
    rw [List.map_cons, List.map_cons]
    refine .cons ?_ ih
    obtain ⟨h1, h2, h3⟩ := h
    unfold putAt
    by_cases e : p.1 = k
    · rw [if_pos e, if_pos (h1.symm.trans e)]; exact ⟨h1, h2, ry⟩
    · rw [if_neg e, if_neg (fun z => e (h1.trans z))]; exact ⟨h1, h2, h3⟩
theorem KT.put {H : Hp} {kvs : List (List Key × V)} {xs : List (List Key × Addr × Value)} (r : KT H kvs xs) (k : List Key) {b : Addr} {y : V} {u : Value} (hb : H b = some (.tup (k.map kV))) (ry : RelV y u) :
    KT H (putK kvs k y) (storedH xs k b u) := by
  have e : (kvs.any fun kv => decide (kv.1 = k)) = (atKey xs k).isSome := by
    rw [valV_any, (r.val k).isSome_eq, Option.isSome_map]
  unfold putK storedH
  rw [e]
  by_cases q : (atKey xs k).isSome = true
  · rw [if_pos q, if_pos q]; exact r.repl k ry
  · rw [if_neg q, if_neg q]; exact Paired.snoc r ⟨rfl, hb, ry⟩
theorem KT.keeps {H H' : Hp} {kvs : List (List Key × V)} {xs : List (List Key × Addr × Value)} (r : KT H kvs xs) (ht : ∀ b ys, H b = some (.tup ys) → H' b = some (.tup ys)) : KT H' kvs xs :=
  Paired.mapP r fun _ _ z => ⟨z.1, ht _ _ z.2.1, z.2.2⟩
section
variable {P : Program} {w : World} {H : Hp} {h : Heap} {a : Addr}
theorem rd_of {u : HO} (ok : HOk P w H h) (e : Rd H a u) : ObjOk P w H h a u := e.ok ok
theorem dk_rd {kvs : List (Key × V)} (ok : HOk P w H h) (e : Rd H a (.dK kvs)) : kvs.length ≤ sizeLine ∧ (a == sysModules) = false ∧ ∃ vs, KV kvs vs ∧ h.DictOf (mixKind P w) a vs :=
  show ObjOk P w H h a (.dK kvs) from rd_of ok e
theorem dk_of {kvs : List (Key × V)} (ok : HOk P w H h) (e : H a = some (.dK kvs)) : kvs.length ≤ sizeLine ∧ (a == sysModules) = false ∧ ∃ vs, KV kvs vs ∧ h.DictOf (mixKind P w) a vs := dk_rd ok (.inl e)
/-- a tracked tuple of ints and texts is a key -/
theorem key_of {ks : List Key} (ok : HOk P w H h) (e : H a = some (.tup (ks.map kV))) : (tupleKind (mixKind P w)).is h ks a := by
  obtain ⟨_, its, r, o, h1, h2, n, h3⟩ := (show ObjOk P w H h a (.tup (ks.map kV)) from ok a _ e)
  exact ⟨o, its.toArray, n, h1, h2, h3, by simpa using items_are r⟩
theorem dt_rd {kvs : List (List Key × V)} (ok : HOk P w H h) (e : Rd H a (.dT kvs)) : kvs.length ≤ sizeLine ∧ (a == sysModules) = false ∧
    ∃ xs, KT H kvs xs ∧ h.DictOfH (tupleKind (mixKind P w)) a xs := by
  obtain ⟨z, y, xs, r, o, es, ep, h1, h2, h3, h4, h5⟩ := (show ObjOk P w H h a (.dT kvs) from rd_of ok e)
  refine ⟨z, y, xs, r, o, es, ep, h1, h2, h3, h4, fun x hx => ?_, h5⟩
  have all : ∀ {l : List (List Key × V)} {m : List (List Key × Addr × Value)}, KT H l m → ∀ x ∈ m, (tupleKind (mixKind P w)).is h x.1 x.2.1 := by
    intro l m q
    induction q with
    | nil => intro x hx; exact nomatch hx
    | @cons p q ps qs hq t ih =>
      intro x hx
      rcases List.mem_cons.mp hx with e | hx
      · subst e
        exact key_of ok (by rw [← hq.1]; exact hq.2.1)
      · exact ih x hx
  exact all r x hx
theorem dt_of {kvs : List (List Key × V)} (ok : HOk P w H h) (e : H a = some (.dT kvs)) : kvs.length ≤ sizeLine ∧ (a == sysModules) = false ∧
    ∃ xs, KT H kvs xs ∧ h.DictOfH (tupleKind (mixKind P w)) a xs := dt_rd ok (.inl e)
end
/-- what the dict at a holds at the key y -/
def DGet (H : Hp) (a : Addr) (y : V) (r : Option V) : Prop :=
  (∃ kvs k, Rd H a (.dK kvs) ∧ y = kV k ∧ r = valV kvs k) ∨ ∃ kvs k b, Rd H a (.dT kvs) ∧ y = .ref b ∧ H b = some (.tup (k.map kV)) ∧ r = valV kvs k
/-- the heap behind a[y] = v -/
def DPut (H : Hp) (a : Addr) (y v : V) (H' : Hp) : Prop :=
  (∃ kvs k, H a = some (.dK kvs) ∧ y = kV k ∧ kvs.length < sizeLine ∧ H' = upd H a (.dK (putK kvs k v))) ∨
  ∃ kvs k b, H a = some (.dT kvs) ∧ y = .ref b ∧ H b = some (.tup (k.map kV)) ∧ kvs.length < sizeLine ∧ H' = upd H a (.dT (putK kvs k v))
theorem DGet.k {H : Hp} {a : Addr} {kvs : List (Key × V)} {k : Key} (e : H a = some (.dK kvs)) : DGet H a (kV k) (valV kvs k) := .inl ⟨kvs, k, .inl e, rfl, rfl⟩
theorem DPut.k {H : Hp} {a : Addr} {kvs : List (Key × V)} {k : Key} {v : V} (e : H a = some (.dK kvs)) (hl : kvs.length < sizeLine) : DPut H a (kV k) v (upd H a (.dK (putK kvs k v))) := .inl ⟨kvs, k, e, rfl, hl, rfl⟩
section
variable {X : Cx} {pins : List (Addr × Obj)} {σ : St} {H : Hp} {s : Shared} {a : Addr} {y v : V} {u r : Value} {o : Option V} {A : Around} {E : Value → Shared → Prop}
theorem Inv.big (I : Inv X pins σ H s) : sysModules < s.heap.objs.size := by
  have h : mainGlobals < s.heap.objs.size := (I.mod.glob.keeps I.bk).lt
  exact Nat.lt_trans (by decide) h
/-- d[y], there -/
theorem d_getItem {Q : Value → Shared → Prop} (hu : A.units + 1 < cLine) (I : Inv X pins σ H s) (g : DGet H a y (some v)) (ry : RelV y u) (h : ∀ w' s', Inv X pins σ H s' → RelV v w' → Q w' s') :
    wpAny (model X.prog X.w) A (getItem (.ref a) u) Q E s := by
  rcases g with ⟨kvs, k, e, ey, l⟩ | ⟨kvs, k, b, e, ey, eb, l⟩
  · subst ey
    obtain ⟨z, hd, vs, rel, dd⟩ := dk_rd I.hok e
    obtain ⟨w', hw, rw'⟩ := RelO.some_of (v := v) (o := valueAt vs k) (by rw [l]; exact rel.val k)
    exact wpAny_getItem_of (kV_is ry) dd.mapOf hw (h w' _ (I.tok _) rw')
  · subst ey
    cases (show u = Value.ref b from ry)
    obtain ⟨z, hd, xs, rel, dd⟩ := dt_rd I.hok e
    obtain ⟨w', hw, rw'⟩ := RelO.some_of (v := v) (o := (atKey xs k).map (·.2)) (by rw [l]; exact rel.val k)
    obtain ⟨p, hp, hp2⟩ := Option.map_eq_some_iff.mp hw
    refine wpAny_getItem_heap (tupleKind_room_in1 hu) (key_of I.hok eb) dd hp ?_
    rw [hp2]
    exact h w' _ (I.tok _) rw'
/-- a dict's object is replaced -/
theorem d_write {h' : Heap} {t' : Nat} {ob : HO} (I : Inv X pins σ H s) (mu : Mut (H a)) (hs : Heap.SameBut a s.heap h') (he : ∃ q, h'.get? a = some q) (new : ObjOk X.prog X.w (upd H a ob) h' a ob) :
    Inv X pins σ (upd H a ob) { s with heap := h', toks := t' } :=
  I.write (x := a) (e := a) mu (.inl rfl) (fun b q hb z => (hs.2 b hb).trans z) he new
theorem dk_new {P : Program} {w : World} {H' : Hp} {h' : Heap} {kvs : List (Key × V)} {vs : List (Key × Value)} (z : kvs.length ≤ sizeLine) (hd : (a == sysModules) = false) (rel : KV kvs vs) (dd : h'.DictOf (mixKind P w) a vs) :
    ObjOk P w H' h' a (.dK kvs) := ⟨z, hd, vs, rel, dd⟩
/-- d[y] = v -/
theorem d_setItem {H' : Hp} {Q : Unit → Shared → Prop} (hu : A.units + 1 < cLine) (I : Inv X pins σ H s) (g : DPut H a y v H') (ry : RelV y u) (rv : RelV v r) (h : ∀ s', Inv X pins σ H' s' → Q () s') :
    wpAny (model X.prog X.w) A (setItem (.ref a) u r) Q E s := by
  rcases g with ⟨kvs, k, e, ey, l, eH⟩ | ⟨kvs, k, b, e, ey, eb, l, eH⟩
  · subst ey eH
    obtain ⟨z, hd, vs, rel, dd⟩ := dk_of I.hok e
    have hz : vs.length ≤ sizeLine := by rw [← rel.length]; exact z
    have hl : (putK kvs k v).length ≤ sizeLine := by have := length_putK kvs k v; omega
    refine wpAny_setItem_pairs (hsz := hz) (kV_is ry) dd fun h' dd' hs => h _ ?_
    have he : ∃ q, h'.get? a = some q := let ⟨q, _, _, hq, _⟩ := dd'; ⟨q, hq⟩
    exact d_write I (by rw [e]; exact True.intro) hs he (dk_new hl hd (rel.put k rv) dd')
  · subst ey eH
    cases (show u = Value.ref b from ry)
    obtain ⟨z, hd, xs, rel, dd⟩ := dt_of I.hok e
    have hz : xs.length ≤ sizeLine := by rw [← Paired.length rel]; exact z
    have hl : (putK kvs k v).length ≤ sizeLine := by have := length_putK kvs k v; omega
    refine wpAny_setItem_heap (hsz := hz) (tupleKind_room_in1 hu) (key_of I.hok eb) dd fun h' dd' hs => h _ ?_
    obtain ⟨q, es, ep, hq, h2, h3, h4, _, h5⟩ := dd'
    refine d_write I (by rw [e]; exact True.intro) hs ⟨q, hq⟩ ⟨hl, hd, _, (rel.put k eb rv).keeps fun c ys ec => ?_, q, es, ep, hq, h2, h3, h4, h5⟩
    rw [upd_ne (ne_of ec e (fun z => nomatch z))]
    exact ec
end
section
variable {X : Cx} {pins : List (Addr × Obj)} {σ : St} {H : Hp} {s : Shared} {a : Addr} {kvs : List (Key × V)} {k : Key} {u : Value} {A : Around} {E : Value → Shared → Prop}
/-- len(d) -/
theorem d_len {Q : Value → Shared → Prop} (I : Inv X pins σ H s) (e : Rd H a (.dK kvs)) (h : ∀ t s', Inv X pins σ H s' → Q (.int kvs.length t) s') : wpAny (model X.prog X.w) A (call (.builtin "len") [.ref a]) Q E s := by
  obtain ⟨z, hd, vs, rel, dd⟩ := dk_rd I.hok e
  refine call_len_dict hd dd (by rw [← rel.length]; rw [sizeLine_eq] at z; omega) ?_
  rw [← rel.length]
  exact h _ _ (I.tok _)
end
/-! ### readings and rules -/
/-- the element of a subscription, not a slice -/
def NoSl (i : Expr) : Prop := ∀ ov iv, subscripted i false ov iv = operate [ov, iv] (getItem ov iv)
theorem subD_of {prog : Program} {w : World} {A : Around} {E : Value → Shared → Prop} {s : Shared} {env : Env} {value slice : Expr} {pos : Pos} {T id : String} {Q : Value → Shared → Prop}
    (hl : typeLookup (.type T) "__getitem__" = pure (some (.builtin id))) (hs : NoSl slice)
    (h : wpAny (model prog w) A (eval value env) (fun o s₁ => wpAny (model prog w) A (eval slice env) (fun i s₂ => s₂.TypeIs o T ∧ wpAny (model prog w) A (getItem o i) Q E s₂) E s₁) E s) :
    wpAny (model prog w) A (eval (.Subscript value slice pos) env) Q E s := by
  refine Subscript_ (wpAny_mono h (fun o s₁ h₁ => wpAny_mono h₁ (fun i s₂ h₂ => ?_) fun _ _ x => x) fun _ _ x => x)
  obtain ⟨hT, h₂⟩ := h₂
  unfold subscriptTail
  refine wpAny_bind ?_
  rw [getitemInPython_of_ne hT.not_modules]
  refine wpAny_bind (wpAny_specialOf hT hl ?_)
  have fin : wpAny (model prog w) A (subscripted slice false o i) (fun r s₃ => wpAny (model prog w) A (letTemporaryGo value o r >>= fun _ => pure r) Q E s₃) E s₂ := by
    rw [hs o i]
    exact wpAny_operating (wpAny_mono h₂ (fun r s₃ h₃ => wpAny_bind (wpAny_letTemporaryGo (wpAny_pure h₃))) fun _ _ x => x)
  first
    | exact wpAny_pure (wpAny_bind fin)
    | exact wpAny_bind (wpAny_pure (wpAny_bind fin))
    | exact wpAny_bind fin
theorem dict_typeIs {X : Cx} {pins : List (Addr × Obj)} {σ : St} {H : Hp} {s : Shared} {a : Addr} {y : V} {o : Option V} (I : Inv X pins σ H s) (g : DGet H a y o) : s.TypeIs (.ref a) "dict" := by
  rcases g with ⟨kvs, k, e, _, _⟩ | ⟨kvs, k, b, e, _, _, _⟩
  · obtain ⟨_, _, vs, _, dd⟩ := dk_rd I.hok e
    exact dd.typeIs
  · obtain ⟨_, _, xs, _, dd⟩ := dt_rd I.hok e
    exact dd.typeIs
/-- d[y] -/
def tDGet (td ty : TE) : TE := fun σ H Q => td σ H fun x H1 => ty σ H1 fun y H2 => ∃ a v, x = .ref a ∧ DGet H2 a y (some v) ∧ Q v H2
/-- d[y] = v -/
def sDPut (td ty tv : TE) : TS := fun D σ H => tv σ H fun v H1 => td σ H1 fun x H2 => ty σ H2 fun y H3 => ∃ a H4, x = .ref a ∧ DPut H3 a y v H4 ∧ D.nx σ H4
section
variable {X : Cx} {o i e value : Expr} {pos pos' tpos : Pos} {td ty tv : TE}
theorem pe_dget (hu : X.A.units + 1 < cLine) (ho : PE X o td) (hi : PE X i ty) (hs : NoSl i) : PE X (.Subscript o i pos) (tDGet td ty) := by
  intro pins s σ H Q I h
  refine subD_of PySem.F.slot_dict_getitem.lookup hs (thn (ho pins s σ H _ I h) fun u s1 ⟨x, H1, I1, rx, q1⟩ => thn (hi pins s1 σ H1 _ I1 q1) fun iv s2 ⟨y, H2, I2, ry, a, v, ex, g, q2⟩ => ?_)
  subst ex
  obtain rfl : u = Value.ref a := rx
  exact ⟨dict_typeIs I2 g, d_getItem hu I2 g ry fun w' s3 I3 rw' => ⟨v, H2, I3, rw', q2⟩⟩
theorem ps_dput (hu : X.A.units + 1 < cLine) (ho : PE X o td) (hi : PE X i ty) (hv : PE X value tv) (hs : swapsWith value (some (.Subscript o i pos')) pos.line X.env = pure false) :
    PS X (.Assign [.Subscript o i pos'] value pos) (sDPut td ty tv) := by
  intro pins s σ H D I h
  refine wpAny_Assign_Subscript (thn (hv pins s σ H _ I h) fun r s1 ⟨v, H1, I1, rv, q1⟩ => thn (ho pins s1 σ H1 _ I1 q1) fun u s2 ⟨x, H2, I2, rx, q2⟩ => thn (hi pins s2 σ H2 _ I2 q2) fun iv s3 ⟨y, H3, I3, ry, a, H4, ex, g, q3⟩ => ?_) hs
  subst ex
  obtain rfl : u = Value.ref a := rx
  exact d_setItem hu I3 g ry rv fun s4 I4 => ⟨σ, H4, I4, q3⟩
end
/-! ### displays -/
theorem dk_empty {P : Program} {w : World} {H : Hp} (h : Heap) (hb : sysModules < h.objs.size) : ObjOk P w H (h.push { cls := .type "dict", data := .dict #[] }) h.objs.size (.dK []) :=
  ⟨Nat.zero_le _, beq_eq_false_iff_ne.mpr (Ne.symm (Nat.ne_of_lt hb)), [], .nil, Heap.DictOf.new h⟩
/-- {}, to be a dict of the kind that is wanted -/
def tDNewK : TE := fun _ H Q => ∀ p, H p = none → Q (.ref p) (upd H p (.dK []))
section
variable {X : Cx} {pos : Pos}
theorem pe_dnewK : PE X (.Dict [] [] pos) tDNewK := fun pins s σ H Q I h =>
  wpAny_Dict_empty ⟨.ref s.heap.objs.size, _, I.laid (a := s.heap.objs.size) (o := .dK []) (t' := s.toks) (fun _ _ q => Heap.get?_push_of_some _ q) (Nat.le_refl _) (dk_empty s.heap I.big), rfl, h _ (I.hok.fresh (Nat.le_refl _))⟩
end
/-- the pairs of a display, from the left -/
def tPairs : List (TE × TE) → St → Hp → (List (V × V) → Hp → Prop) → Prop
  | [], _, H, Q => Q [] H
  | (tk, tv) :: r, σ, H, Q => tk σ H fun x H1 => tv σ H1 fun y H2 => tPairs r σ H2 fun ps H3 => Q ((x, y) :: ps) H3
abbrev VV : List (V × V) → List (Value × Value) → Prop := Paired fun p q => RelV p.1 q.1 ∧ RelV p.2 q.2
def PPs (X : Cx) (pos : Pos) (keys : List (Option Expr)) (values : List Expr) (trs : List (TE × TE)) : Prop :=
  ∀ (pins : List (Addr × Obj)) (s : Shared) (σ : St) (H : Hp) (Q : List (V × V) → Hp → Prop), Inv X pins σ H s → tPairs trs σ H Q →
    wpAny (model X.prog X.w) X.A (evalPairs (pairTrees keys values X.env pos)) (fun vs s' => ∃ ps H', Inv X pins σ H' s' ∧ VV ps vs ∧ Q ps H') X.xe s
theorem pps_nil {X : Cx} {pos : Pos} : PPs X pos [] [] [] := fun pins s σ H Q I h => pairTrees_nil_walk ⟨[], H, I, .nil, h⟩
theorem pps_cons {X : Cx} {pos : Pos} {k v : Expr} {ks : List (Option Expr)} {vs : List Expr} {tk tv : TE} {trs : List (TE × TE)} (hk : PE X k tk) (hv : PE X v tv) (hr : PPs X pos ks vs trs) :
    PPs X pos (some k :: ks) (v :: vs) ((tk, tv) :: trs) := fun pins s σ H Q I h =>
  pairTrees_cons_walk (thn (hk pins s σ H _ I h) fun u s1 ⟨x, H1, I1, rx, q1⟩ => thn (hv pins s1 σ H1 _ I1 q1) fun w2 s2 ⟨y, H2, I2, ry, q2⟩ =>
    thn (hr pins s2 σ H2 _ I2 q2) fun ws s3 ⟨ps, H3, I3, rel, q3⟩ => ⟨(x, y) :: ps, H3, I3, .cons ⟨rx, ry⟩ rel, q3⟩)
def mergeK (kvs more : List (Key × V)) : List (Key × V) := more.foldl (fun acc kv => putK acc kv.1 kv.2) kvs
theorem KV.merge : ∀ {more : List (Key × V)} {rs : List (Key × Value)} {kvs : List (Key × V)} {vs : List (Key × Value)}, KV more rs → KV kvs vs → KV (mergeK kvs more) (merged vs rs) := by
  intro more rs kvs vs r
  unfold KV at r
  induction r generalizing kvs vs with
  | nil => intro q; exact q
  | @cons p q ps qs h t ih =>
    intro r0
    have e : KV (putK kvs p.1 p.2) (stored vs q.1 q.2) := by
      have := r0.put p.1 h.2
      rw [← h.1]; exact this
    exact ih e
theorem length_mergeK : ∀ (more kvs : List (Key × V)), (mergeK kvs more).length ≤ kvs.length + more.length
  | [], kvs => by show kvs.length ≤ kvs.length + 0; omega
  | p :: r, kvs => by
    have h1 := length_mergeK r (putK kvs p.1 p.2)
    have h2 := length_putK kvs p.1 p.2
    show (mergeK (putK kvs p.1 p.2) r).length ≤ _
    rw [List.length_cons]; omega
theorem carries_of {P : Program} {w : World} : ∀ {kvs : List (Key × V)} {ws : List (Value × Value)}, VV (kvs.map fun kv => (kV kv.1, kv.2)) ws → ∃ rs, Carries (mixKind P w) ws rs ∧ KV kvs rs
  | [], _, r => by rw [List.map_nil] at r; cases r; exact ⟨[], True.intro, .nil⟩
  | p :: kvs, _, r => by
    rw [List.map_cons] at r
    cases r with
    | @cons a b as bs h t =>
      obtain ⟨rs, c, q⟩ := carries_of (P := P) (w := w) t
      obtain ⟨b1, b2⟩ := b
      exact ⟨(p.1, b2) :: rs, ⟨kV_is h.1, rfl, c⟩, .cons ⟨rfl, h.2⟩ q⟩
/-- {k: v, ..} with keys ints and texts; the new dict stands empty while the pairs are made -/
def tDisp (trs : List (TE × TE)) : TE := fun σ H Q => ∀ p, H p = none → tPairs trs σ (upd H p (.dK [])) fun ps H2 => H2 p = some (.dK []) ∧ ∃ kvs : List (Key × V), ps = kvs.map (fun kv => (kV kv.1, kv.2)) ∧ kvs.length ≤ 15 ∧ Q (.ref p) (upd H2 p (.dK (mergeK [] kvs)))
theorem pe_disp {X : Cx} {pos : Pos} {keys : List (Option Expr)} {values : List Expr} {trs : List (TE × TE)} (h : PPs X pos keys values trs) (hall : keys.all (·.isSome) = true) (hl : keys.length = values.length) (h0 : keys ≠ [])
    (h15 : keys.length ≤ 15) : PE X (.Dict keys values pos) (tDisp trs) := by
  intro pins s σ H Q I q
  have hn := I.hok.fresh (Nat.le_refl s.heap.objs.size)
  have I1 := I.laid (a := s.heap.objs.size) (o := .dK []) (h' := s.heap.push { cls := .type "dict", data := .dict #[] }) (t' := s.toks) (fun _ _ q => Heap.get?_push_of_some _ q) (Nat.le_refl _) (dk_empty s.heap I.big)
  refine wpAny_Dict_walk (knd := mixKind X.prog X.w) hall hl h0 h15 (thn (h pins _ σ _ _ I1 (q _ hn)) fun ws s2 ⟨ps, H2, I2, rel, e, kvs, ep, lk, q2⟩ => ?_)
  subst ep
  obtain ⟨rs, c, rk⟩ := carries_of (P := X.prog) (w := X.w) rel
  obtain ⟨z, hd, vs0, r0, dd⟩ := dk_of I2.hok e
  cases r0
  refine ⟨rs, c, dd, fun h' dd' hs => ⟨.ref s.heap.objs.size, _, ?_, rfl, q2⟩⟩
  have hz : (mergeK [] kvs).length ≤ sizeLine := by
    have h1 := length_mergeK kvs []
    rw [List.length_nil] at h1
    rw [sizeLine_eq]; omega
  have he : ∃ q, h'.get? s.heap.objs.size = some q := let ⟨q, _, _, hq, _⟩ := dd'; ⟨q, hq⟩
  exact d_write I2 (by rw [e]; exact True.intro) hs he (dk_new hz hd (rk.merge .nil) dd')
/-! ### methods -/
/-- a method call o.m(e) of a built-in, with one argument: what must be seen of the text -/
structure M1 (X : Cx) (o : Expr) (m : Str) (apos : Pos) (e : Expr) (cpos : Pos) : Prop where
  base : attributeBase o m X.env (eval o X.env) = eval o X.env
  few : ((backTo cpos (starEach [e] X.env)).all (fun x => !x.1) && (backToKw cpos (keywordEach [] X.env)).all (fun x => x.1.isSome)
    && decide (([e] : List Expr).length + ([] : List Keyword).length + (if ([] : List Keyword).isEmpty then 0 else 1) < 30)) = true
  line : (apos.endLine == cpos.line) = true
  trees : backTo cpos (starEach [e] X.env) = [(false, eval e X.env)]
structure M2 (X : Cx) (o : Expr) (m : Str) (apos : Pos) (e f : Expr) (cpos : Pos) : Prop where
  base : attributeBase o m X.env (eval o X.env) = eval o X.env
  few : ((backTo cpos (starEach [e, f] X.env)).all (fun x => !x.1) && (backToKw cpos (keywordEach [] X.env)).all (fun x => x.1.isSome)
    && decide (([e, f] : List Expr).length + ([] : List Keyword).length + (if ([] : List Keyword).isEmpty then 0 else 1) < 30)) = true
  line : (apos.endLine == cpos.line) = true
  trees : backTo cpos (starEach [e, f] X.env) = [(false, eval e X.env), (false, eval f X.env)]
/-- a is a dict, whatever its keys -/
def IsD (H : Hp) (a : Addr) : Prop := (∃ kvs, Rd H a (.dK kvs)) ∨ ∃ kvs, Rd H a (.dT kvs)
theorem isD_at {X : Cx} {pins : List (Addr × Obj)} {σ : St} {H : Hp} {s : Shared} {a : Addr} (I : Inv X pins σ H s) (d : IsD H a) :
    s.TypeIs (.ref a) "dict" ∧ (∀ b, Value.ref a = .ref b → ∃ ob, s.heap.get? b = some ob ∧ ob.dict = none) ∧ (a == sysModules) = false := by
  rcases d with ⟨kvs, e⟩ | ⟨kvs, e⟩
  · obtain ⟨_, hd, vs, _, dd⟩ := dk_rd I.hok e
    refine ⟨dd.typeIs, fun b q => ?_, hd⟩
    cases q
    obtain ⟨ob, _, _, h1, h2, _⟩ := dd
    exact ⟨ob, h1, h2.2.1⟩
  · obtain ⟨_, hd, xs, _, dd⟩ := dt_rd I.hok e
    refine ⟨dd.typeIs, fun b q => ?_, hd⟩
    cases q
    obtain ⟨ob, _, _, h1, h2, _⟩ := dd
    exact ⟨ob, h1, h2.2.1⟩
section
variable {X : Cx} {pins : List (Addr × Obj)} {σ : St} {H : Hp} {s : Shared} {a : Addr} {y d : V} {u r : Value} {o : Option V} {A : Around} {E : Value → Shared → Prop}
/-- d.get(y, x) -/
theorem d_get2 {Q : Value → Shared → Prop} (hu : A.units + 1 < cLine) (I : Inv X pins σ H s) (g : DGet H a y o) (ry : RelV y u) (rd : RelV d r) (h : ∀ w' s', Inv X pins σ H s' → RelV (o.getD d) w' → Q w' s') :
    wpAny (model X.prog X.w) A (call (.builtin "dict.get") [.ref a, u, r]) Q E s := by
  rcases g with ⟨kvs, k, e, ey, l⟩ | ⟨kvs, k, b, e, ey, eb, l⟩
  · subst ey
    obtain ⟨z, hd, vs, rel, dd⟩ := dk_rd I.hok e
    refine call_meetsIn PySem.F.slot_dict_get dd.typeIs PySem.F.entry_dict_get (PySem.F.args_dict_get_3 _ _ _) (meets_dict_get_default (mixKind X.prog X.w) a (kV_is ry) hd r) ⟨_, dd.mapOf, h _ _ (I.tok _) ?_⟩
    rw [l]
    exact (rel.val k).getD rd
  · subst ey
    cases (show u = Value.ref b from ry)
    obtain ⟨z, hd, xs, rel, dd⟩ := dt_rd I.hok e
    refine call_meetsIn PySem.F.slot_dict_get dd.typeIs PySem.F.entry_dict_get (PySem.F.args_dict_get_3 _ _ _) (meetsH_dict_get_default (tupleKind (mixKind X.prog X.w)) a b hd r) ⟨tupleKind_room_in1 hu, k, xs, key_of I.hok eb, dd, h _ _ (I.tok _) ?_⟩
    rw [l]
    exact (rel.val k).getD rd
end
def tDGet2 (td ty tx : TE) : TE := fun σ H Q => td σ H fun x H1 => ∃ a, x = .ref a ∧ IsD H1 a ∧ ty σ H1 fun y H2 => tx σ H2 fun z H3 => ∃ o, DGet H3 a y o ∧ Q (o.getD z) H3
section
variable {X : Cx} {o e f : Expr} {apos cpos : Pos} {td ty tx : TE}
theorem pe_dget2 (hu : X.A.units + 1 < cLine) (ho : PE X o td) (he : PE X e ty) (hf : PE X f tx) (m : M2 X o "get" apos e f cpos) : PE X (.Call (.Attribute o "get" apos) [e, f] [] cpos) (tDGet2 td ty tx) := by
  intro pins s σ H Q I h
  refine wpAny_Call_method m.base m.few m.line PySem.F.plainAttrs_dict PySem.F.slot_dict_get PySem.F.type_dict_get (thn (ho pins s σ H _ I h) fun u s1 ⟨x, H1, I1, rx, a, ex, d, q1⟩ => ?_)
  subst ex
  obtain rfl : u = Value.ref a := rx
  obtain ⟨t1, t2, _⟩ := isD_at I1 d
  refine ⟨t1, t2, ?_⟩
  rw [m.trees]
  refine Calls.callWith_builtin rfl (Calls.evalArgs_plain (Calls.spliced_cons (thn (he pins s1 σ H1 _ I1 q1) fun iv s2 ⟨y, H2, I2, ry, q2⟩ =>
    Calls.spliced_cons (thn (hf pins s2 σ H2 _ I2 q2) fun fv s3 ⟨z, H3, I3, rz, ov, g, q3⟩ => Calls.spliced_nil ?_))))
  exact d_get2 hu I3 g ry rz fun w' s4 I4 rw' => ⟨_, H3, I4, rw', q3⟩
end
/-! ### dict(d): a copy -/
section
variable {X : Cx} {pins : List (Addr × Obj)} {σ : St} {H : Hp} {s : Shared} {a : Addr} {kvs : List (Key × V)} {A : Around} {E : Value → Shared → Prop}
end
section
variable {X : Cx} {pins : List (Addr × Obj)} {σ : St} {H : Hp} {s : Shared} {a : Addr} {y : V} {u : Value} {A : Around} {E : Value → Shared → Prop}
end
end L2
namespace L2
open PySem PySem.Spec PyProof.Rows
section
variable {prog : Program} {w : World} {A : Around} {E : Value → Shared → Prop}
end
section
variable {X : Cx}
end
end L2
namespace L2
open PySem PySem.Spec PyProof.Rows
section
variable {X : Cx} {pins : List (Addr × Obj)} {σ : St} {H : Hp} {s : Shared} {h' : Heap}
/-! ### locking a thing while a statement runs -/
theorem Inv.lock {d : Addr} {u : HO} (I : Inv X pins σ H s) (h : H d = some u) (mu : Mut (some u)) : ∃ od, Inv X pins σ (upd H d (.frz od u)) s := by
  have x := I.hok d u h
  have ex : ∃ od, s.heap.get? d = some od := by
    cases u with
    | lst xs => obtain ⟨_, _, _, _, e⟩ := x; exact ⟨_, e⟩
    | dK kvs => obtain ⟨_, _, _, _, o, _, _, e, _⟩ := x; exact ⟨o, e⟩
    | dT kvs => obtain ⟨_, _, _, _, o, _, _, e, _⟩ := x; exact ⟨o, e⟩
    | set S n => obtain ⟨o, _, _, _, e, _⟩ := x; exact ⟨o, e⟩
    | ins C dx fs => obtain ⟨_, _, _, e, _⟩ := x; exact ⟨_, e⟩
    | ext φ => obtain ⟨_, ⟨_, e⟩, _⟩ := x; exact ⟨_, e⟩
    | _ => exact False.elim mu
  obtain ⟨od, e⟩ := ex
  have new : ObjOk X.prog X.w (upd H d (.frz od u)) s.heap d (.frz od u) := by
    refine ⟨e, x.stay (fun b v _ q => q) (fun b q => ?_) fun b xs q => ?_⟩
    · rw [upd_ne (fun z => by rw [z, h] at q; cases q; exact mu)]; exact q
    · rw [upd_ne (fun z => by rw [z, h] at q; cases q; exact mu)]; exact q
  exact ⟨od, I.write (x := d) (e := d) (t' := s.toks) (h' := s.heap) (by rw [h]; exact mu) (.inl rfl) (fun b v _ q => q) ⟨od, e⟩ new⟩
theorem Inv.nofrz {d : Addr} {u : HO} (I : Inv X pins σ H s) (h : H d = some u) (mu : Mut (some u)) : ∀ o' u', X.H_0 d ≠ some (.frz o' u') := fun o' u' e => by
  have q := I.base.frzs d o' u' e
  rw [h] at q
  cases q
  exact mu
theorem Inv.unlock {d : Addr} {od : Obj} {u : HO} (I : Inv X pins σ H s) (h : H d = some (.frz od u)) (hn : ∀ o' u', X.H_0 d ≠ some (.frz o' u')) : Inv X pins σ (upd H d u) s := by
  have neH : ∀ b o, H b = some o → (∀ o' u', o ≠ .frz o' u') → b ≠ d := fun b o e hne z => by
    rw [z, h] at e
    cases e
    exact hne _ _ rfl
  have neN : ∀ b, H b = none → b ≠ d := fun b e z => by rw [z, h] at e; cases e
  refine ⟨I.ok, I.os, I.bare, ⟨I.base.keep, I.base.slot, fun b o e n hx => ?_, I.base.there, fun b xs e => ?_, fun b o x e => ?_, fun b ps e => ?_⟩, I.loc, I.cell, ?_, fun x c e => ?_, fun p hp => ?_, fun b o e => ?_, I.len⟩
  · rw [upd_ne (neN b (I.base.free b o e n hx))]; exact I.base.free b o e n hx
  · have q := I.base.tups b xs e
    rw [upd_ne (neH b _ q (fun _ _ z => nomatch z))]; exact q
  · have q := I.base.frzs b o x e
    rw [upd_ne (fun z => by rw [z] at e; exact hn _ _ e)]; exact q
  · obtain ⟨m, q⟩ := I.base.tbls b ps e
    exact ⟨m, by rw [upd_ne (neH b _ q (fun _ _ z => nomatch z))]; exact q⟩
  · rw [upd_ne (neN _ I.free)]; exact I.free
  · rw [upd_ne (neN c (I.freeC x c e))]; exact I.freeC x c e
  · obtain ⟨e, n, r⟩ := I.pin p hp
    exact ⟨e, by rw [upd_ne (neN _ n)]; exact n, r⟩
  · by_cases hb : b = d
    · rw [hb, upd_same] at e
      cases e
      rw [hb]
      obtain ⟨_, x⟩ := I.hok d _ h
      exact x.stay (fun c v _ q => q) (fun c q => by rw [upd_ne (neH c _ q (fun _ _ z => nomatch z))]; exact q) fun c xs q => by rw [upd_ne (neH c _ q (fun _ _ z => nomatch z))]; exact q
    · rw [upd_ne hb] at e
      exact (I.hok b o e).stay (fun c v _ q => q) (fun c q => by rw [upd_ne (neH c _ q (fun _ _ z => nomatch z))]; exact q) fun c xs q => by rw [upd_ne (neH c _ q (fun _ _ z => nomatch z))]; exact q
end
/-- the statement runs while the thing at d is locked (read, not written); d and what stands there are the reading's choice -/
def tLock (t : TS) : TS := fun D σ H => ∃ d u, H d = some u ∧ Mut (some u) ∧ ∀ od, t ⟨fun σ' H' => H' d = some (.frz od u) ∧ D.nx σ' (upd H' d u), fun v H' => H' d = some (.frz od u) ∧ D.rt v (upd H' d u), fun σ' H' => H' d = some (.frz od u) ∧ D.bk σ' (upd H' d u), fun σ' H' => H' d = some (.frz od u) ∧ D.ct σ' (upd H' d u)⟩ σ (upd H d (.frz od u))
section
variable {X : Cx}
theorem ps_lock {st : Stmt} {t : TS} (h : PS X st t) : PS X st (tLock t) := by
  intro pins s σ H D I hw
  obtain ⟨d, u, hd, mu, hw⟩ := hw
  obtain ⟨od, I1⟩ := I.lock hd mu
  refine thn (h pins s σ _ _ I1 (hw od)) fun f s1 q => ?_
  cases f with
  | next => obtain ⟨σ', H', I2, e, q⟩ := q; exact ⟨σ', _, I2.unlock e (I.nofrz hd mu), q⟩
  | brk => obtain ⟨σ', H', I2, e, q⟩ := q; exact ⟨σ', _, I2.unlock e (I.nofrz hd mu), q⟩
  | cont => obtain ⟨σ', H', I2, e, q⟩ := q; exact ⟨σ', _, I2.unlock e (I.nofrz hd mu), q⟩
  | ret v => obtain ⟨x, σ', H', I2, r, e, q⟩ := q; exact ⟨x, σ', _, I2.unlock e (I.nofrz hd mu), r, q⟩
/-! ### one iterator just laid -/
theorem pi_one {tg : Expr} {pins : List (Addr × Obj)} {σ : St} {H : Hp} {s : Shared} {R : It → Hp → Prop} {J : It} {tn : Nat → Heap → Prop} {tk : Nat} (I : Inv X pins σ H s) (o : Obj)
    (T : Turn X.prog X.w X.K tg J [s.heap.objs.size] s.heap.objs.size tn) (st : tn 0 (s.heap.push o)) (q : R J H) : PIE X pins σ tg R (.ref s.heap.objs.size) { s with heap := s.heap.push o, toks := tk } := by
  refine ⟨s.heap.objs.size, [s.heap.objs.size], tn, J, H, rfl, I.kept fun b ob e => Heap.get?_push_of_some _ e, T, st, fun b hb => ?_, q⟩
  have e : b = s.heap.objs.size := by simpa using hb
  subst e
  exact I.fpOk (Nat.le_refl _) (I.hok.fresh (Nat.le_refl _))
end
/-! ### range with a step -/
section
variable {X : Cx} {tg : Expr}
end
/-! ### reversed(list) -/
section
variable {X : Cx} {tg : Expr}
end
/-! ### a str -/
/-! ### a dict's keys: any dict's entries -/
section
variable {prog : Program} {w : World} {A : Around} {E : Value → Shared → Prop} {s : Shared}
theorem iter_keys {d : Addr} {o : Obj} {es : Array DictEntry} {ep : Nat} {Q : Value → Shared → Prop} (hd : (d == sysModules) = false) (ho : s.heap.get? d = some o) (hc : o.ExactDict) (hdat : o.data = .dict es ep)
    (hQ : Q (.ref s.heap.objs.size) { s with heap := s.heap.push { cls := .type "dict_keyiterator", data := .fields #[.ref d, .int 0 0, .int es.size 0, .int ep 0] } }) :
    wpAny (model prog w) A (pyIter (.ref d)) Q E s := by
  have hT : s.TypeIs (.ref d) "dict" := ⟨o, ho, hc.1⟩
  refine wpAny_pyIter_slot hT F.slot_dict_iter (wpAny_call_entry F.slot_dict_iter hT F.entry_dict_iter ?_ (F.args_dict_iter_1 _))
  unfold Builtin.«dict.__iter__»
  refine wpAny_bind ?_
  unfold Builtin.Dict.dictSlotNone
  refine wpAny_bind (wpAny_notOrdered_dict hT ?_)
  show wpAny _ _ (pure (Value.ref d)) _ _ s
  refine wpAny_pure ?_
  show wpAny _ _ (Builtin.Dict.showsAll d >>= _) _ _ s
  unfold Builtin.Dict.showsAll
  rw [if_neg (by rw [hd]; exact Bool.false_ne_true)]
  refine wpAny_bind (wpAny_pure ?_)
  refine wpAny_bind (wpAny_dictEntries ho hdat ?_)
  refine wpAny_bind (wpAny_dictEpoch ho hdat ?_)
  refine wpAny_bind (wpAny_newObj_type (wpAny_pure ⟨_, rfl, "dict_keyiterator", _, ⟨_, Heap.get?_push_size _ rfl, rfl⟩, F.slot_dict_keyiterator_next.lookup, ?_⟩))
  simpa [rawInt] using hQ
theorem next_key_item {it d : Addr} {i n ep : Nat} {od : Obj} {es : Array DictEntry} {en : DictEntry} {Q : Option Value → Shared → Prop} (hit : s.heap.IsKeyIter it d i n ep) (hod : s.heap.get? d = some od) (hdd : od.data = .dict es ep)
    (hsz : es.size = n) (hx : es[i]? = some en) (hQ : ∀ h', h'.IsKeyIter it d (i + 1) n ep → Heap.SameBut it s.heap h' → Q (some en.key) { s with heap := h' }) : wpAny (model prog w) A (pyNext (.ref it)) Q E s := by
  obtain ⟨o, ho, hc, hd⟩ := id hit
  unfold pyNext
  refine wpAny_bind (wpAny_attempt (wpAny_callSpecial?_slot (name := Str.ofString "__next__") hit.typeIs F.slot_dict_keyiterator_next
    (wpAny_call_entry F.slot_dict_keyiterator_next hit.typeIs F.entry_dict_keyiterator_next ?_ (F.args_dict_keyiterator_next_1 _))))
  refine wpAny_bind (wpAny_pure ?_)
  refine wpAny_bind ?_
  refine wpAny_bind ?_
  first | refine wpAny_bind (wpAny_typeNameOfWhole_keyiter hit.typeIs (wpAny_pure ?_)) | refine wpAny_bind (wpAny_typeNameOf_keyiter hit.typeIs (wpAny_pure ?_))
  refine wpAny_bind (wpAny_fieldsOf ho hd ?_)
  have hown : Builtin.Dict_items.ownsTuple "dict_keyiterator" = false := by decide
  simp only [hown, Bool.false_eq_true, if_false]
  show wpAny _ _ (if (Value.ref d == Value.none) = true then _ else _) _ _ s
  rw [if_neg (show ¬ ((Value.ref d == Value.none) = true) from Bool.false_ne_true)]
  refine wpAny_bind (wpAny_pure ?_)
  refine wpAny_bind (wpAny_dictEntries hod hdd ?_)
  rw [if_neg (by rw [hsz]; simp)]
  refine wpAny_bind (wpAny_pure ?_)
  refine wpAny_bind (wpAny_dictEpoch hod hdd ?_)
  rw [if_neg (by simp)]
  refine wpAny_pure ?_
  obtain ⟨hlt', hen⟩ := Array.getElem?_eq_some_iff.mp hx
  simp only [show ¬ ((i : Int) < 0) from by omega, if_false, Int.toNat_natCast, Array.getElem?_eq_getElem hlt']
  refine wpAny_bind ?_
  first | refine wpAny_bind (wpAny_typeNameOfWhole_keyiter hit.typeIs (wpAny_pure ?_)) | refine wpAny_bind (wpAny_typeNameOf_keyiter hit.typeIs (wpAny_pure ?_))
  refine wpAny_bind (wpAny_isOneOf_keyiter hit.typeIs ?_)
  show wpAny _ _ (setField (.ref it) 1 (rawInt ((i : Int) + 1)) >>= _) _ _ s
  refine wpAny_bind (wpAny_setField ho hd (by simp) ?_)
  have hit' : (s.heap.update it (Obj.mapFields (·.setIfInBounds 1 (rawInt ((i : Int) + 1))))).IsKeyIter it d (i + 1) n ep :=
    ⟨_, Heap.get?_update_self _ ho (Obj.isFreed_of_fields (Obj.data_mapFields hd _)), (Obj.cls_mapFields ..).trans hc, by rw [Obj.data_mapFields hd]; simp [rawInt]⟩
  refine wpAny_bind (wpAny_holding ?_)
  refine wpAny_bind (wpAny_isOneOf_keyiter (s := { s with heap := s.heap.update it (Obj.mapFields (·.setIfInBounds 1 (rawInt ((i : Int) + 1)))) }) hit'.typeIs ?_)
  show wpAny _ _ (pure es[i].key) _ _ _
  rw [hen]
  exact wpAny_pure (wpAny_pure ⟨_, rfl, wpAny_pure (hQ _ hit' (Heap.SameBut.update ..))⟩)
theorem next_key_end {it d : Addr} {i n ep : Nat} {od : Obj} {es : Array DictEntry} {Q : Option Value → Shared → Prop} (hh : A.handled = none) (hit : s.heap.IsKeyIter it d i n ep) (hod : s.heap.get? d = some od) (hdd : od.data = .dict es ep)
    (hsz : es.size = n) (hge : n ≤ i) (hQ : ∀ h', Heap.ExtBut it s.heap h' → Q none { s with heap := h' }) : wpAny (model prog w) A (pyNext (.ref it)) Q E s := by
  obtain ⟨o, ho, hc, hd⟩ := id hit
  unfold pyNext
  refine wpAny_bind (wpAny_attempt (wpAny_callSpecial?_slot (name := Str.ofString "__next__") hit.typeIs F.slot_dict_keyiterator_next
    (wpAny_call_entry F.slot_dict_keyiterator_next hit.typeIs F.entry_dict_keyiterator_next ?_ (F.args_dict_keyiterator_next_1 _))))
  refine wpAny_bind (wpAny_pure ?_)
  refine wpAny_bind ?_
  refine wpAny_bind ?_
  first | refine wpAny_bind (wpAny_typeNameOfWhole_keyiter hit.typeIs (wpAny_pure ?_)) | refine wpAny_bind (wpAny_typeNameOf_keyiter hit.typeIs (wpAny_pure ?_))
  refine wpAny_bind (wpAny_fieldsOf ho hd ?_)
  have hown : Builtin.Dict_items.ownsTuple "dict_keyiterator" = false := by decide
  simp only [hown, Bool.false_eq_true, if_false]
  show wpAny _ _ (if (Value.ref d == Value.none) = true then _ else _) _ _ s
  rw [if_neg (show ¬ ((Value.ref d == Value.none) = true) from Bool.false_ne_true)]
  refine wpAny_bind (wpAny_pure ?_)
  refine wpAny_bind (wpAny_dictEntries hod hdd ?_)
  rw [if_neg (by rw [hsz]; simp)]
  refine wpAny_bind (wpAny_pure ?_)
  refine wpAny_bind (wpAny_dictEpoch hod hdd ?_)
  rw [if_neg (by simp)]
  refine wpAny_pure ?_
  have hge' : es.size ≤ i := by rw [hsz]; exact hge
  simp only [show ¬ ((i : Int) < 0) from by omega, if_false, Int.toNat_natCast, Array.getElem?_eq_none hge']
  refine wpAny_bind ?_
  first | refine wpAny_bind (wpAny_typeNameOfWhole_keyiter hit.typeIs (wpAny_pure ?_)) | refine wpAny_bind (wpAny_typeNameOf_keyiter hit.typeIs (wpAny_pure ?_))
  show wpAny _ _ (setField (.ref it) 0 .none >>= _) _ _ s
  refine wpAny_bind (wpAny_setField ho hd (by simp) ?_)
  show wpAny _ _ (newExc (.type "StopIteration") [] >>= _) _ _ _
  refine wpAny_bind ?_
  simp only [newExc, newTuple]
  refine wpAny_bind (wpAny_newObj_type ?_ (by size_fits))
  refine wpAny_bind (m := firstArgMember _ _) (wpAny_of_eq (a := Value.none) (by first | rfl | (simp only [firstArgMember]; rfl)) ?_)
  refine wpAny_newObj_type ?_ (by size_fits)
  simp only [raiseNew]
  refine wpAny_bind (wpAny_handled ?_)
  rw [show A.in1.handled = none from hh]
  refine wpAny_bind (wpAny_pure (wpAny_throw ?_))
  refine wpAny_bind (wpAny_isInstance (T := "StopIteration") (b := true) ⟨_, Heap.get?_push_size _ rfl, rfl⟩ isSubtype_stop ?_)
  exact wpAny_pure (hQ _ (((Heap.SameBut.update ..).extBut.push _).push _))
end
/-! ### a locked dict -/
theorem kv_get {κ : Type} {kvs : List (κ × V)} {vs : List (κ × Value)} (h : KV kvs vs) : ∀ {i : Nat} {k : κ} {v : V}, kvs[i]? = some (k, v) → ∃ u, vs[i]? = some (k, u) ∧ RelV v u := by
  unfold KV at h
  induction h with
  | nil => intro i k v e; simp at e
  | @cons a b l₁ l₂ r t ih =>
    intro i k v e
    cases i with
    | zero =>
      simp only [List.getElem?_cons_zero, Option.some.injEq] at e
      subst e
      refine ⟨b.2, ?_, r.2⟩
      simp only [List.getElem?_cons_zero]
      exact congrArg some (Prod.ext r.1.symm rfl)
    | succ j =>
      simp only [List.getElem?_cons_succ] at e ⊢
      exact ih e
theorem paired_get {α β : Type} {G : α → β → Prop} {l₁ : List α} {l₂ : List β} (h : Paired G l₁ l₂) : ∀ {i : Nat} {a : α}, l₁[i]? = some a → ∃ b, l₂[i]? = some b ∧ G a b := by
  induction h with
  | nil => intro i a e; simp at e
  | @cons a b l₁ l₂ r t ih =>
    intro i a' e
    cases i with
    | zero =>
      simp only [List.getElem?_cons_zero, Option.some.injEq] at e
      subst e
      exact ⟨b, rfl, r⟩
    | succ j =>
      simp only [List.getElem?_cons_succ] at e ⊢
      exact ih e
theorem relV_key {k : Key} {u : Value} (h : keyIs k u = true) : RelV (kV k) u := by
  rcases keyIs_shape h with ⟨i, t, rfl, rfl⟩ | ⟨x, t, rfl, rfl⟩
  · exact ⟨t, rfl⟩
  · exact ⟨t, rfl⟩
section
variable {X : Cx} {pins : List (Addr × Obj)} {σ : St} {H : Hp} {s : Shared} {d : Addr} {o : Obj}
theorem Inv.frzK {kvs : List (Key × V)} (I : Inv X pins σ H s) (h : H d = some (.frz o (.dK kvs))) :
    (d == sysModules) = false ∧ s.heap.get? d = some o ∧ o.ExactDict ∧ ∃ (es : Array DictEntry) (ep : Nat) (vs : List (Key × Value)), o.data = .dict es ep ∧ es.size = kvs.length ∧ KV kvs vs ∧ s.heap.DictAt (mixKind X.prog X.w) d vs ep := by
  obtain ⟨hd, z, hs, vs, kv, o', es, ep, ho, hx, hdt, r⟩ := I.hok d _ h
  rw [hd] at ho
  cases ho
  refine ⟨hs, hd, hx, es, ep, vs, hdt, ?_, kv, o, es, hd, hx, hdt, r⟩
  have l1 := r.2.1.length
  have l2 : kvs.length = vs.length := Paired.length kv
  rw [Array.length_toList] at l1
  omega
/-- the same for tuple keys -/
theorem Inv.frzT {kvs : List (List Key × V)} (I : Inv X pins σ H s) (h : H d = some (.frz o (.dT kvs))) :
    (d == sysModules) = false ∧ s.heap.get? d = some o ∧ o.ExactDict ∧ ∃ (es : Array DictEntry) (ep : Nat), o.data = .dict es ep ∧ es.size = kvs.length ∧
      ∀ (i : Nat) (k : List Key) (v : V), kvs[i]? = some (k, v) → ∃ (en : DictEntry) (q : Addr), es[i]? = some en ∧ en.key = .ref q ∧ H q = some (.tup (k.map kV)) := by
  obtain ⟨hd, z, hs, xs, pr, o', es, ep, ho, hx, hdt, he, _⟩ := I.hok d _ h
  rw [hd] at ho
  cases ho
  refine ⟨hs, hd, hx, es, ep, hdt, ?_, fun i k v e => ?_⟩
  · have l1 : es.size = xs.length := size_of_entries he
    have l2 : kvs.length = xs.length := Paired.length pr
    omega
  · obtain ⟨b, hb, e1, e2, _⟩ := paired_get pr e
    have q := entry_at he i
    rw [hb] at q
    exact ⟨_, b.2.1, q, rfl, e2⟩
end
/-- the keys of the locked dict at d, in their order -/
def Itk (d : Addr) (o : Obj) (kvs : List (Key × V)) : It :=
  ⟨fun i H => H d = some (.frz o (.dK kvs)) ∧ i < kvs.length, fun i H x H' => H' = H ∧ ∃ k v, kvs[i]? = some (k, v) ∧ x = kV k, fun i H => H d = some (.frz o (.dK kvs)) ∧ kvs.length ≤ i⟩
/-- .. of tuple keys: the key's own tuple -/
def Itkt (d : Addr) (o : Obj) (kvs : List (List Key × V)) : It :=
  ⟨fun i H => H d = some (.frz o (.dT kvs)) ∧ i < kvs.length, fun i H x H' => H' = H ∧ ∃ (k : List Key) (v : V) (q : Addr), kvs[i]? = some (k, v) ∧ x = .ref q ∧ H q = some (.tup (k.map kV)), fun i H => H d = some (.frz o (.dT kvs)) ∧ kvs.length ≤ i⟩
theorem dict_ep {o : Obj} {es es' : Array DictEntry} {ep ep' : Nat} (h : o.data = .dict es ep) (h' : o.data = .dict es' ep') : es' = es ∧ ep' = ep := by
  rw [h] at h'
  cases h'
  exact ⟨rfl, rfl⟩
section
variable {P : Program} {w : World} {K : PySem.W.Frag} {tg : Expr} {d : Addr} {o : Obj} {es : Array DictEntry} {ep : Nat}
theorem turn_keys {kvs : List (Key × V)} (it : Addr) (hod : o.data = .dict es ep) : Turn P w K tg (Itk d o kvs) [it] it (fun i h => h.IsKeyIter it d i kvs.length ep) where
  mem := by simp
  obj := fun i h st b hb => by
    have e : b = it := by simpa using hb
    subst e
    obtain ⟨oi, e, c, dd⟩ := st
    exact ⟨oi, e, fun v z => by rw [dd] at z; cases z⟩
  keep := fun i h h' st k => st.at fun oi e => k it (by simp) oi e
  item := by
    intro X hP hw hK hc i pins s σ H E I hf st hg
    subst hP hw hK
    obtain ⟨hd, hi⟩ := hg
    obtain ⟨f0, f1, f2, f3, f4, f5⟩ := hf it (by simp)
    obtain ⟨hs, hgd, hx, es', ep', vs, hdt, hsz, kv, hm⟩ := I.frzK hd
    obtain ⟨rfl, rfl⟩ := dict_ep hod hdt
    obtain ⟨⟨k, v⟩, hkv⟩ : ∃ p, kvs[i]? = some p := ⟨kvs[i], List.getElem?_eq_getElem hi⟩
    obtain ⟨u, hu, ru⟩ := kv_get kv hkv
    have hl : kvs.length = vs.length := Paired.length kv
    rw [hl] at st
    refine wpAny_pyNext_dict_item st hm hu fun key h' hkey st' sb => ?_
    have I1 : Inv X pins σ H { s with heap := h' } := I.turned (t' := s.toks) (fun b ob hb e => (sb.2 b hb).trans e) f0 f1 f3 f4 f5
    obtain ⟨oi, e, c, dd⟩ := id st'
    refine ⟨key, rfl, go_of (s := { s with heap := h' }) e c dd (by decide) ⟨kV k, H, I1, relV_key (show keyIs k key = true from hkey), ⟨rfl, k, v, hkv, rfl⟩, ?_, fun b hb => (hf b hb).1⟩⟩
    show h'.IsKeyIter it d (i + 1) kvs.length _
    rw [hl]
    exact st'
  done := by
    intro X hP hw hK hc i pins s σ H E I hf st hg
    subst hP hw hK
    obtain ⟨hd, hi⟩ := hg
    obtain ⟨f0, f1, f2, f3, f4, f5⟩ := hf it (by simp)
    obtain ⟨hs, hgd, hx, es', ep', vs, hdt, hsz, kv, hm⟩ := I.frzK hd
    obtain ⟨rfl, rfl⟩ := dict_ep hod hdt
    exact next_key_end (I.ok.hd hc) st hgd hdt hsz hi fun h' eb => ⟨rfl, I.turned (t' := s.toks) (fun b ob hb e => eb b ob hb e) f0 f1 f3 f4 f5⟩
  self := fun A i s Q E st h => wpAny_pyIter_keyiter st h
theorem turn_keysT {kvs : List (List Key × V)} (it : Addr) (hod : o.data = .dict es ep) : Turn P w K tg (Itkt d o kvs) [it] it (fun i h => h.IsKeyIter it d i kvs.length ep) where
  mem := by simp
  obj := fun i h st b hb => by
    have e : b = it := by simpa using hb
    subst e
    obtain ⟨oi, e, c, dd⟩ := st
    exact ⟨oi, e, fun v z => by rw [dd] at z; cases z⟩
  keep := fun i h h' st k => st.at fun oi e => k it (by simp) oi e
  item := by
    intro X hP hw hK hc i pins s σ H E I hf st hg
    subst hP hw hK
    obtain ⟨hd, hi⟩ := hg
    obtain ⟨f0, f1, f2, f3, f4, f5⟩ := hf it (by simp)
    obtain ⟨hs, hgd, hx, es', ep', hdt, hsz, ent⟩ := I.frzT hd
    obtain ⟨rfl, rfl⟩ := dict_ep hod hdt
    obtain ⟨⟨k, v⟩, hkv⟩ : ∃ p, kvs[i]? = some p := ⟨kvs[i], List.getElem?_eq_getElem hi⟩
    obtain ⟨en, q, hen, hkey, hq⟩ := ent i k v hkv
    refine next_key_item st hgd hdt hsz hen fun h' st' sb => ?_
    have I1 : Inv X pins σ H { s with heap := h' } := I.turned (t' := s.toks) (fun b ob hb e => (sb.2 b hb).trans e) f0 f1 f3 f4 f5
    obtain ⟨oi, e, c, dd⟩ := id st'
    exact ⟨en.key, rfl, go_of (s := { s with heap := h' }) e c dd (by decide) ⟨.ref q, H, I1, hkey, ⟨rfl, k, v, q, hkv, rfl, hq⟩, st', fun b hb => (hf b hb).1⟩⟩
  done := by
    intro X hP hw hK hc i pins s σ H E I hf st hg
    subst hP hw hK
    obtain ⟨hd, hi⟩ := hg
    obtain ⟨f0, f1, f2, f3, f4, f5⟩ := hf it (by simp)
    obtain ⟨hs, hgd, hx, es', ep', hdt, hsz, ent⟩ := I.frzT hd
    obtain ⟨rfl, rfl⟩ := dict_ep hod hdt
    exact next_key_end (I.ok.hd hc) st hgd hdt hsz hi fun h' eb => ⟨rfl, I.turned (t' := s.toks) (fun b ob hb e => eb b ob hb e) f0 f1 f3 f4 f5⟩
  self := fun A i s Q E st h => by
    refine wpAny_pyIter_slot st.typeIs F.slot_dict_keyiterator_iter (wpAny_call_entry F.slot_dict_keyiterator_iter st.typeIs F.entry_dict_keyiterator_iter ?_ (F.args_dict_keyiterator_iter_1 _))
    show wpAny _ _ (ret (.ref it)) _ _ s
    exact wpAny_pure ⟨_, rfl, "dict_keyiterator", _, st.typeIs, F.slot_dict_keyiterator_next.lookup, h⟩
end
/-! ### for k in d, d.keys(), d.values(), d.items() -/
/-- the dict is locked (tLock, or by the caller) -/
def iKeys (td : TE) : TI := fun σ H R => td σ H fun x H1 => ∃ d o, x = .ref d ∧ ((∃ kvs, H1 d = some (.frz o (.dK kvs)) ∧ R (Itk d o kvs) H1) ∨ ∃ kvs, H1 d = some (.frz o (.dT kvs)) ∧ R (Itkt d o kvs) H1)
section
variable {X : Cx} {tg e : Expr} {td : TE} {apos cpos : Pos}
theorem pi_keys (he : PE X e td) : PI X tg e (iKeys td) := by
  intro pins s σ H R I h
  refine thn (he pins s σ H _ I h) fun u s1 ⟨x, H1, I1, rx, d, o, ex, q⟩ => ?_
  subst ex
  obtain rfl : u = Value.ref d := rx
  rcases q with ⟨kvs, hd, q⟩ | ⟨kvs, hd, q⟩
  · obtain ⟨hs, hgd, hx, es, ep, vs, hdt, hsz, kv, hm⟩ := I1.frzK hd
    refine iter_keys hs hgd hx hdt (pi_one (tk := s1.toks) I1 _ (turn_keys _ hdt) ⟨_, Heap.get?_push_size _ rfl, rfl, ?_⟩ q)
    rw [hsz] <;> rfl
  · obtain ⟨hs, hgd, hx, es, ep, hdt, hsz, ent⟩ := I1.frzT hd
    refine iter_keys hs hgd hx hdt (pi_one (tk := s1.toks) I1 _ (turn_keysT _ hdt) ⟨_, Heap.get?_push_size _ rfl, rfl, ?_⟩ q)
    rw [hsz] <;> rfl
end
/-! ### enumerate(list) -/
/-! ### zip(list, list) -/
end L2
section 
namespace Bits
open PySem PyProof.Rows
end Bits
end 
section 
namespace TL
open PySem PySem.Builtin PySem.Builtin.Str PySem.StrLaws
/-! ### the list functions -/
/-! ### the model's split and partition are these -/
/-! ### computing spl and par -/
/-! ### digits -/
/-! ### words: x.split() -/
end TL
end 
namespace L2
open PySem PySem.Spec PyProof.Rows
section
variable {X : Cx} {pins : List (Addr × Obj)} {σ : St} {H : Hp} {s : Shared} {Q : VK}
end
section
variable {X : Cx}
/-! ### of a text alone -/
/-! ### of a text and a text -/
end
section
variable {X : Cx} {o e : Expr} {to te : TE}
end
end L2
namespace L2
open PySem PySem.Spec PyProof.Rows
section
variable {X : Cx}
end
/-! ### slices of a text -/
end L2
namespace Att
open PySem PySem.W PySem.Calls PyProof.Rows
/-! ### the script -/
/-! ### the attachment: holds_open's last premise (the goal 'hc' behind k_head) from a wpAny of the law's body -/
/-! ### rules over ANY heap (no ledger) from facts about the written part K: the library's own take a ledger (News) for what they write -/
section
variable {prog : Program} {w : World} {A : Around} {E : Value → Shared → Prop} {s : Shared} {K : Frag}
/-! the whole heap as the ledger: makes every rule that writes through a ledger a rule over any heap -/
end
end Att
namespace L2
open PySem PySem.Spec PyProof.Rows
end L2
namespace L2
open PySem PySem.Spec PyProof.Rows
end L2
/-! SHORT WORDS over the layer: a def of the text, its body, what a loop and a test want. -/
namespace L2
open PySem PySem.Spec PyProof.Rows
/-! ### the text by places -/
def defArgs (s : Stmt) : Arguments := match s with
  | .FunctionDef _ a _ _ _ _ _ _ _ _ => a
  | _ => { posonlyargs := [], args := [], vararg := none, kwonlyargs := [], kw_defaults := [], kwarg := none, defaults := [] }
def defBody (s : Stmt) : List Stmt := match s with
  | .FunctionDef _ _ b _ _ _ _ _ _ _ => b
  | _ => []
def defScope (s : Stmt) : Scope := match s with
  | .FunctionDef _ _ _ _ _ _ sc _ _ _ => sc
  | _ => { kind := .function, names := [], isGenerator := false, isCoroutine := false }
/-! ### no exception leaves a def -/
abbrev CX0 : CXT := fun _ _ _ _ _ _ => False
abbrev E0 : XK := fun _ _ _ => False
theorem pass0 {X : Cx} : Passes CX0 X E0 := fun _ _ _ _ _ _ _ h => h.elim
/-! ### a def (or method) of the text as it stands behind the top -/
structure Fun (K : PySem.W.Frag) (x qual : Str) (st : Stmt) (f : Addr) (fd : FuncData) : Prop where
  ex : ∃ (oc : Value) (od : Option Addr) (kV doc pm : Value) (an : Option Addr) (cdv ct : Value) (osl : Array (Option Value)),
    fd = PySem.W.fnOf x qual (defArgs st) (defBody st) (defScope st) .none kV doc pm an cdv ct ∧ K.lookup f = some ⟨oc, od, .func fd, osl⟩ ∧ PySem.W.codeIn K cdv qual = true
  kp : PySem.W.keepIn K (.ref f) = true
section
variable {P : Program} {w : World} {K : PySem.W.Frag} {mg : Str → Option Value} {base : Heap}
/-- THE RULE for a def: its body as a term of rules, and the reading of that term -/
theorem Fun.ok {x qual : Str} {st : Stmt} {f : Addr} {fd : FuncData} {N ps : List Str} {k : Nat} {sp : Sp} (F : Fun K x qual st f fd) (S : FnScope N ps (defScope st)) (len : ∀ vs H Q E, sp vs H Q E → vs.length = ps.length)
    (hbody : ∀ (cdv : Value) (A : Around) (outer : List Env) (s : Shared) (H : Hp) (vs : List V) (Q : VK) (E : XK), Room k (A.deeper (envOfC qual (defScope st) s.heap.objs.size f cdv)) → sp vs H Q E →
      ∃ t, PSs (cxOf CX0 P w K mg base N qual (defScope st) f cdv A outer s H E).nox (defBody st) t ∧ t { nx := fun _ H' => Q .non H', rt := Q } (start N vs) H) : FnOk P w K mg base CX0 (k + 1) f fd ps sp := by
  obtain ⟨oc, od, kV, doc, pm, an, cdv, ct, osl, rfl, lk, hcd⟩ := F.ex
  refine fn_of lk hcd S len fun A outer s H vs Q E hr hsp => ?_
  obtain ⟨t, h, q⟩ := hbody cdv A outer s H vs Q E hr hsp
  exact ⟨t, h.nox, q⟩
/-- how its arguments bind (no defaults): h is «fun _ _ _ _ _ _ us hl => match us, hl with | [_, _], _ => rfl», one _ a parameter -/
theorem Fun.binds {x qual : Str} {st : Stmt} {f : Addr} {fd : FuncData} {ps : List Str} (F : Fun K x qual st f fd)
    (h : ∀ (kV doc pm : Value) (an : Option Addr) (cdv ct : Value) (us : List Value), us.length = ps.length → bindArgs (PySem.W.fnOf x qual (defArgs st) (defBody st) (defScope st) .none kV doc pm an cdv ct) ⟨us, []⟩ = pure (ps.zip us)) : Binds K fd ps [] := by
  obtain ⟨oc, od, kV, doc, pm, an, cdv, ct, osl, rfl, lk, hcd⟩ := F.ex
  exact .all (h kV doc pm an cdv ct)
theorem fun_mk {x qual : Str} {st : Stmt} {f : Addr} {oc : Value} {od an : Option Addr} {osl : Array (Option Value)} {kV doc pm cdv ct : Value} (l : K.lookup f = some ⟨oc, od, .func (PySem.W.fnOf x qual (defArgs st) (defBody st) (defScope st) .none kV doc pm an cdv ct), osl⟩)
    (c : PySem.W.codeIn K cdv qual = true) (k : PySem.W.keepIn K (.ref f) = true) : Fun K x qual st f (PySem.W.fnOf x qual (defArgs st) (defBody st) (defScope st) .none kV doc pm an cdv ct) := ⟨⟨oc, od, kV, doc, pm, an, cdv, ct, osl, rfl, l, c⟩, k⟩
end
theorem hu_of {A : Around} {k : Nat} (hr : Room k A) : A.units + 1 < cLine := Nat.lt_of_le_of_lt (Nat.add_le_add_left (by decide : 1 ≤ 64) _) hr.units
theorem small1000 {n : Nat} (h : n ≤ 1000) : n < sizeLine := Nat.lt_of_le_of_lt h (by decide)
/-! ### expressions in short: the name that stands in the i-th slot -/
section
variable {X : Cx}
theorem pv (i : Nat) {x : Str} {pos : Pos} (hN : X.N[i]? = some x := by rfl) (hv : Vis X.env.scope x := by first | exact Or.inl rfl | exact Or.inr (Or.inl rfl) | exact Or.inr (Or.inr rfl)) (hd : (x == ("__debug__" : Str)) = false := by decide)
    (hcd : (x == ("__classdict__" : Str)) = false := by decide) : PE X (.Name x pos) (tVar i) := pe_var hN hv hd hcd
/-- len of a dict -/
theorem call_lenD : CallR X (.builtin "len") (fun xs H Q => ∃ a kvs, xs = [V.ref a] ∧ H a = some (.dK kvs) ∧ Q (.int kvs.length) H) := by
  intro pins s σ H xs us Q I r h
  obtain ⟨a, kvs, rfl, ha, q⟩ := h
  obtain ⟨u, rfl, ru⟩ := vals1 r
  cases ru
  exact d_len I (.inl ha) fun t s' I' => ⟨.int kvs.length, H, I', ⟨t, rfl⟩, q⟩
end
/-! ### tests -/
theorem iteF {A B : Prop} (h : B) : if false = true then A else B := by
  rw [if_neg Bool.false_ne_true]
  exact h
theorem iteT {A B : Prop} (h : A) : if true = true then A else B := by
  rw [if_pos rfl]
  exact h
theorem ite2 {c A B : Prop} [Decidable c] (h1 : c → A) (h2 : ¬ c → B) : if c then A else B := by
  by_cases h : c
  · rw [if_pos h]
    exact h1 h
  · rw [if_neg h]
    exact h2 h
/-! ### heaps -/
/-- all that was tracked is as it was -/
def Same (H H' : Hp) : Prop := ∀ b o, H b = some o → H' b = some o
theorem Same.trans {H H1 H2 : Hp} (a : Same H H1) (b : Same H1 H2) : Same H H2 := fun c o h => b c o (a c o h)
theorem Same.free {H H' : Hp} (e : Same H H') {l : Addr} (h : H' l = Option.none) : H l = Option.none := by
  cases q : H l with
  | none => rfl
  | some o =>
    rw [e l o q] at h
    cases h
theorem Same.seq {K : PySem.W.Frag} {H H' : Hp} {a : Addr} {xs : List V} (e : Same H H') (h : SqL K H a xs) : SqL K H' a xs := by
  rcases h with (h | ⟨o, h⟩) | h
  · exact .inl (.inl (e _ _ h))
  · exact .inl (.inr ⟨o, e _ _ h⟩)
  · exact .inr h
/-! ### a dict's pairs: keys that differ -/
section
variable {κ : Type} [DecidableEq κ]
end
/-! ### lists -/
theorem at_of {xs : List V} {z : Int} {j : Nat} {v : V} (e : z = (j : Int)) (h : xs[j]? = some v) : atI xs z = some v := by
  rw [e]
  exact atI_nat h
end L2
section
set_option Elab.async false
set_option linter.all false
set_option maxRecDepth 100000
set_option maxHeartbeats 2000000
namespace L2
open PySem PySem.Spec PyProof.Rows
open PySem.W (WData Codec OpenSpec Well WellAll ReadsW ReadsAllW)
/-! ### an answer as data -/
mutual
/-- x stands for the datum d, lists and tuples all the way -/
inductive Dw (K : PySem.W.Frag) (H : Hp) : V → WData → Prop
  | non : Dw K H .non .none
  | bl (b : Bool) : Dw K H (.bl b) (.bool b)
  | int (i : Int) : Dw K H (.int i) (.int i)
  | str (x : Str) : Dw K H (.str x) (.str x)
  | byt (b : Array UInt8) : Dw K H (.byt b) (.bytes b.toList)
  | lst {a : Addr} {xs : List V} {ds : List WData} : SqL K H a xs → DwAll K H xs ds → Dw K H (.ref a) (.list ds)
  | tup {a : Addr} {xs : List V} {ds : List WData} : SqT K H a xs → DwAll K H xs ds → Dw K H (.ref a) (.tuple ds)
inductive DwAll (K : PySem.W.Frag) (H : Hp) : List V → List WData → Prop
  | nil : DwAll K H [] []
  | cons {v : V} {vs : List V} {d : WData} {ds : List WData} : Dw K H v d → DwAll K H vs ds → DwAll K H (v :: vs) (d :: ds)
end
theorem dw_ints {K : PySem.W.Frag} {H : Hp} : ∀ ns : List Int, DwAll K H (ns.map V.int) (ns.map WData.int)
  | [] => .nil
  | n :: r => .cons (.int n) (dw_ints r)
theorem ints_dw {K : PySem.W.Frag} {H : Hp} : ∀ (ns : List Int) (xs : List V), DwAll K H xs (ns.map WData.int) → xs = ns.map V.int
  | [], xs, h => by
    cases h
    rfl
  | n :: r, xs, h => by
    cases h with
    | cons h1 h2 =>
      cases h1
      rw [ints_dw r _ h2] <;> rfl
section
variable {P : Program} {w : World} {K : PySem.W.Frag} {H : Hp} {h : Heap} {R : PySem.W.WRecords} {cl : Str → Option Addr}
theorem sqL_at {a : Addr} {xs : List V} (hok : HOk P w H h) (KX : K.In h) (q : SqL K H a xs) : ∃ (its : List Value) (o : Obj) (n : Nat), Vals xs its ∧ h.get? a = some o ∧ o.cls = .type "list" ∧ o.data = .seq its.toArray n := by
  rcases q with q | ⟨o, its, n, e, hc, _, hd, _, hv⟩
  · obtain ⟨_, its, n, hv, e⟩ := (show ObjOk P w H h a (.lst xs) from q.ok hok)
    exact ⟨its, _, n, hv, e, rfl, rfl⟩
  · exact ⟨its.toList, o, n, hv, KX _ _ e, hc, by simp [hd]⟩
theorem sqT_at {a : Addr} {xs : List V} (hok : HOk P w H h) (KX : K.In h) (q : SqT K H a xs) : ∃ (its : List Value) (o : Obj) (n : Nat), Vals xs its ∧ h.get? a = some o ∧ o.cls = .type "tuple" ∧ o.data = .seq its.toArray n := by
  rcases q with q | ⟨o, its, n, e, hc, hd, _, hv⟩
  · obtain ⟨_, its, hv, o, e, hc, n, hd⟩ := (show ObjOk P w H h a (.tup xs) from q.ok hok)
    exact ⟨its, o, n, hv, e, hc, hd⟩
  · exact ⟨its.toList, o, n, hv, KX _ _ e, hc, by simp [hd]⟩
mutual
theorem Dw.reads (hok : HOk P w H h) (KX : K.In h) : ∀ (d : WData) (v : V) (u : Value), Dw K H v d → RelV v u → ∃ as, ReadsW R cl h u d as
  | .none, _, _, x, r => by
    cases x
    cases r
    exact ⟨_, ReadsW.none⟩
  | .bool b, _, _, x, r => by
    cases x
    cases r
    exact ⟨_, ReadsW.bool b⟩
  | .int i, _, _, x, r => by
    cases x
    obtain ⟨t, rfl⟩ := r
    exact ⟨_, ReadsW.int i t⟩
  | .str s, _, _, x, r => by
    cases x
    obtain ⟨t, rfl⟩ := r
    exact ⟨_, ReadsW.str s t⟩
  | .bytes b, _, _, x, r => by
    cases x
    obtain ⟨t, rfl⟩ := r
    exact ⟨_, ReadsW.bytes _ t⟩
  | .list ds, _, _, x, r => by
    cases x with
    | lst hs ha =>
      cases r
      obtain ⟨its, o, n, rv, ho, hc, hd⟩ := sqL_at hok KX hs
      obtain ⟨as, hr⟩ := Dw.readsAll hok KX ds _ its ha rv
      exact ⟨_, ReadsW.list ho hc hd hr⟩
  | .tuple ds, _, _, x, r => by
    cases x with
    | tup hs ha =>
      cases r
      obtain ⟨its, o, n, rv, ho, hc, hd⟩ := sqT_at hok KX hs
      obtain ⟨as, hr⟩ := Dw.readsAll hok KX ds _ its ha rv
      exact ⟨_, ReadsW.tuple ho hc hd hr⟩
  | .float _, _, _, x, _ => by cases x
  | .dict _, _, _, x, _ => by cases x
  | .bytearray _, _, _, x, _ => by cases x
  | .set _, _, _, x, _ => by cases x
  | .frozenset _, _, _, x, _ => by cases x
  | .obj _ _, _, _, x, _ => by cases x
theorem Dw.readsAll (hok : HOk P w H h) (KX : K.In h) : ∀ (ds : List WData) (vs : List V) (us : List Value), DwAll K H vs ds → Vals vs us → ∃ as, ReadsAllW R cl h us ds as
  | [], _, _, x, r => by
    cases x
    cases r
    exact ⟨_, ReadsAllW.nil⟩
  | d :: ds, _, _, x, r => by
    cases x with
    | cons h1 h2 =>
      cases r with
      | cons r1 r2 =>
        obtain ⟨as, q1⟩ := Dw.reads hok KX d _ _ h1 r1
        obtain ⟨bs, q2⟩ := Dw.readsAll hok KX ds _ _ h2 r2
        exact ⟨_, ReadsAllW.cons q1 q2⟩
end
end
/-! ### the arguments -/
mutual
/-- data that a codec tells -/
def plW : WData → Bool
  | .none => true
  | .bool _ => true
  | .int _ => true
  | .str _ => true
  | .bytes _ => true
  | .list xs => plWs xs
  | .tuple xs => plWs xs
  | _ => false
def plWs : List WData → Bool
  | [] => true
  | x :: r => plW x && plWs r
end
theorem plWs_map {α : Type} {f : α → WData} (h : ∀ a, plW (f a) = true) : ∀ l : List α, plWs (l.map f) = true
  | [] => rfl
  | x :: r => by
    show (plW (f x) && plWs (r.map f)) = true
    rw [h x, plWs_map h r] <;> rfl
theorem pl_enc : ∀ (c : Codec) (a : c.denote), plW (c.enc a) = true
  | .unit, _ => rfl
  | .bool, _ => rfl
  | .int _ _, _ => rfl
  | .nat _ _, _ => rfl
  | .u8, _ => rfl
  | .bytes _ _, _ => rfl
  | .text _ _ _ _, _ => rfl
  | .list _ _ c, a => plWs_map (fun x => pl_enc c x) a
  | .pair c d, a => by
    show (plW (c.enc a.1) && (plW (d.enc a.2) && true)) = true
    rw [pl_enc c a.1, pl_enc d a.2] <;> rfl
  | .triple c d e, a => by
    show (plW (c.enc a.1) && (plW (d.enc a.2.1) && (plW (e.enc a.2.2) && true))) = true
    rw [pl_enc c a.1, pl_enc d a.2.1, pl_enc e a.2.2] <;> rfl
  | .option c, none => rfl
  | .option c, some x => pl_enc c x
theorem pl_encAll : ∀ (cs : List Codec) (a : Codec.denoteAll cs), plWs (Codec.encAll cs a) = true
  | [], _ => rfl
  | c :: cs, a => by
    show (plW (c.enc a.1) && plWs (Codec.encAll cs a.2)) = true
    rw [pl_enc c a.1, pl_encAll cs a.2] <;> rfl
theorem weight_mem : ∀ {xs : List WData} {d : WData}, d ∈ xs → d.weight ≤ WData.weightAll xs
  | [], d, h => absurd h (by simp)
  | x :: r, d, h => by
    show d.weight ≤ x.weight + 1 + WData.weightAll r
    rcases List.mem_cons.mp h with e | m
    · rw [e]
      omega
    · have z := weight_mem m
      omega
def toV : Value → V
  | .none => .non
  | .bool b => .bl b
  | .int i _ => .int i
  | .str x _ => .str x
  | .bytes b _ => .byt b
  | .ref a => .ref a
  | _ => .non
/-- a value of the arguments, its objects among A -/
def OkU (A : List Addr) : Value → Prop
  | .none => True
  | .bool _ => True
  | .int _ _ => True
  | .str _ _ => True
  | .bytes _ _ => True
  | .ref a => a ∈ A
  | _ => False
theorem OkU.mono {A B : List Addr} (h : ∀ a ∈ A, a ∈ B) : ∀ {u : Value}, OkU A u → OkU B u := fun {u} x => by
  cases u with
  | ref a => exact h a x
  | none => trivial
  | bool b => trivial
  | int i t => trivial
  | str s t => trivial
  | bytes b t => trivial
  | _ => exact False.elim x
theorem relV_toV {A : List Addr} {u : Value} (x : OkU A u) : RelV (toV u) u := by
  cases u with
  | ref a => rfl
  | none => rfl
  | bool b => rfl
  | int i t => exact ⟨t, rfl⟩
  | str s t => exact ⟨t, rfl⟩
  | bytes b t => exact ⟨t, rfl⟩
  | _ => exact False.elim x
theorem vals_toV {A : List Addr} : ∀ {vs : List Value}, (∀ u ∈ vs, OkU A u) → Vals (vs.map toV) vs
  | [], _ => .nil
  | u :: r, h => .cons (relV_toV (h u (List.mem_cons_self ..))) (vals_toV fun x hx => h x (List.mem_cons_of_mem _ hx))
/-- an object of the arguments -/
def ArgOb (h : Heap) (A : List Addr) (a : Addr) : Prop := ∃ vs : List Value, vs.length ≤ sizeLine ∧ (∀ u ∈ vs, OkU A u) ∧
  (h.get? a = some { cls := .type "list", data := .seq vs.toArray } ∨ h.get? a = some { cls := .type "tuple", data := .seq vs.toArray })
theorem ArgOb.mono {h : Heap} {A B : List Addr} {a : Addr} (k : ∀ a ∈ A, a ∈ B) (x : ArgOb h A a) : ArgOb h B a := by
  obtain ⟨vs, h1, h2, h3⟩ := x
  exact ⟨vs, h1, fun u hu => (h2 u hu).mono k, h3⟩
theorem wellAll_len {P : Params} {h : Heap} : ∀ {vs : List Value} {ds : List WData}, WellAll P h vs ds → vs.length = ds.length
  | _, _, .nil => rfl
  | _, _, .cons _ b => by
    show _ + 1 = _ + 1
    rw [wellAll_len b]
theorem well_list {P : Params} {h : Heap} {v : Value} {ds : List WData} (x : Well P h v (.list ds)) : ∃ (a : Addr) (vs : List Value), v = .ref a ∧ h.get? a = some { cls := .type "list", data := .seq vs.toArray } ∧ WellAll P h vs ds := by
  cases x with
  | list ho hall => exact ⟨_, _, rfl, ho, hall⟩
theorem well_tuple {P : Params} {h : Heap} {v : Value} {ds : List WData} (x : Well P h v (.tuple ds)) : ∃ (a : Addr) (vs : List Value), v = .ref a ∧ h.get? a = some { cls := .type "tuple", data := .seq vs.toArray } ∧ WellAll P h vs ds := by
  cases x with
  | tuple ho hall => exact ⟨_, _, rfl, ho, hall⟩
theorem well_cons {P : Params} {h : Heap} {us : List Value} {d : WData} {ds : List WData} (x : WellAll P h us (d :: ds)) : ∃ (v : Value) (vs : List Value), us = v :: vs ∧ Well P h v d ∧ WellAll P h vs ds := by
  cases x with
  | cons a b => exact ⟨_, _, rfl, a, b⟩
theorem line_of {n : Nat} (h : n ≤ 1048576) : n ≤ sizeLine := Nat.le_trans h (by decide)
section
variable {P : Params} {h : Heap}
mutual
theorem area_one : ∀ (d : WData) (v : Value), Well P h v d → plW d = true → d.weight ≤ 1048576 → ∃ A : List Addr, OkU A v ∧ ∀ a ∈ A, ArgOb h A a
  | .none, _, x, _, _ => by
    cases x
    exact ⟨[], trivial, fun a m => absurd m (by simp)⟩
  | .bool b, _, x, _, _ => by
    cases x
    exact ⟨[], trivial, fun a m => absurd m (by simp)⟩
  | .int i, _, x, _, _ => by
    cases x
    exact ⟨[], trivial, fun a m => absurd m (by simp)⟩
  | .str s, _, x, _, _ => by
    cases x
    exact ⟨[], trivial, fun a m => absurd m (by simp)⟩
  | .bytes b, _, x, _, _ => by
    cases x
    exact ⟨[], trivial, fun a m => absurd m (by simp)⟩
  | .list ds, _, x, p, z => by
    obtain ⟨a, vs, rfl, ho, hall⟩ := well_list x
    have z2 : WData.weightAll ds ≤ 1048576 := z
    obtain ⟨A, h1, h2⟩ := area_all ds _ hall p fun d hd => Nat.le_trans (weight_mem hd) z2
    have k : ∀ b ∈ A, b ∈ a :: A := fun b hb => List.mem_cons_of_mem _ hb
    refine ⟨a :: A, List.mem_cons_self .., fun b hb => ?_⟩
    rcases List.mem_cons.mp hb with e | m
    · rw [e]
      exact ⟨vs, line_of (by rw [wellAll_len hall]; exact Nat.le_trans (PySem.W.length_le_weightAllW ds) z2), fun u hu => (h1 u hu).mono k, .inl ho⟩
    · exact (h2 b m).mono k
  | .tuple ds, _, x, p, z => by
    obtain ⟨a, vs, rfl, ho, hall⟩ := well_tuple x
    have z2 : WData.weightAll ds ≤ 1048576 := z
    obtain ⟨A, h1, h2⟩ := area_all ds _ hall p fun d hd => Nat.le_trans (weight_mem hd) z2
    have k : ∀ b ∈ A, b ∈ a :: A := fun b hb => List.mem_cons_of_mem _ hb
    refine ⟨a :: A, List.mem_cons_self .., fun b hb => ?_⟩
    rcases List.mem_cons.mp hb with e | m
    · rw [e]
      exact ⟨vs, line_of (by rw [wellAll_len hall]; exact Nat.le_trans (PySem.W.length_le_weightAllW ds) z2), fun u hu => (h1 u hu).mono k, .inr ho⟩
    · exact (h2 b m).mono k
  | .float _, _, _, p, _ => Bool.noConfusion (show false = true from p)
  | .dict _, _, _, p, _ => Bool.noConfusion (show false = true from p)
  | .bytearray _, _, _, p, _ => Bool.noConfusion (show false = true from p)
  | .set _, _, _, p, _ => Bool.noConfusion (show false = true from p)
  | .frozenset _, _, _, p, _ => Bool.noConfusion (show false = true from p)
  | .obj _ _, _, _, p, _ => Bool.noConfusion (show false = true from p)
theorem area_all : ∀ (ds : List WData) (vs : List Value), WellAll P h vs ds → plWs ds = true → (∀ d ∈ ds, d.weight ≤ 1048576) → ∃ A : List Addr, (∀ u ∈ vs, OkU A u) ∧ ∀ a ∈ A, ArgOb h A a
  | [], _, x, _, _ => by
    cases x
    exact ⟨[], fun u m => absurd m (by simp), fun a m => absurd m (by simp)⟩
  | d :: ds, _, x, p, z => by
    obtain ⟨v, vs, rfl, x1, x2⟩ := well_cons x
    have q : plW d = true ∧ plWs ds = true := Bool.and_eq_true_iff.mp p
    obtain ⟨A, a1, a2⟩ := area_one d v x1 q.1 (z d (List.mem_cons_self ..))
    obtain ⟨B, b1, b2⟩ := area_all ds vs x2 q.2 fun e he => z e (List.mem_cons_of_mem _ he)
    have kA : ∀ b ∈ A, b ∈ A ++ B := fun b hb => List.mem_append.mpr (.inl hb)
    have kB : ∀ b ∈ B, b ∈ A ++ B := fun b hb => List.mem_append.mpr (.inr hb)
    refine ⟨A ++ B, fun u hu => ?_, fun b hb => ?_⟩
    · rcases List.mem_cons.mp hu with e | m
      · rw [e]
        exact a1.mono kA
      · exact (b1 u m).mono kB
    · rcases List.mem_append.mp hb with m | m
      · exact (a2 b m).mono kA
      · exact (b2 b m).mono kB
end
end
/-- what is tracked of an argument's object -/
def hoOf (o : Obj) : Option HO := match o.data with
  | .seq vs _ => if (o.cls == Value.type "list") = true then some (.frz o (.lst (vs.toList.map toV))) else some (.frz o (.tup (vs.toList.map toV)))
  | _ => none
def argH (K : PySem.W.Frag) (h : Heap) (A : List Addr) : Hp := fun b => if b ∈ A then (if (K.lookup b).isNone = true then (h.get? b).bind hoOf else none) else none
/-- nothing is tracked but what is known to the object -/
def OnlyF (H : Hp) : Prop := ∀ b, H b = none ∨ ∃ o u, H b = some (.frz o u)
theorem hoOf_lst (vs : List Value) : hoOf { cls := .type "list", data := .seq vs.toArray } = some (.frz { cls := .type "list", data := .seq vs.toArray } (.lst (vs.map toV))) := by
  show (if (Value.type "list" == Value.type "list") = true then some (HO.frz { cls := .type "list", data := .seq vs.toArray } (.lst (vs.toArray.toList.map toV))) else some (HO.frz { cls := .type "list", data := .seq vs.toArray } (.tup (vs.toArray.toList.map toV)))) = _
  rw [if_pos (beq_self_eq_true _)]
theorem hoOf_tup (vs : List Value) : hoOf { cls := .type "tuple", data := .seq vs.toArray } = some (.frz { cls := .type "tuple", data := .seq vs.toArray } (.tup (vs.map toV))) := by
  show (if (Value.type "tuple" == Value.type "list") = true then some (HO.frz { cls := .type "tuple", data := .seq vs.toArray } (.lst (vs.toArray.toList.map toV))) else some (HO.frz { cls := .type "tuple", data := .seq vs.toArray } (.tup (vs.toArray.toList.map toV)))) = _
  rw [if_neg (by decide)]
section
variable {P : Program} {w : World} {K : PySem.W.Frag} {h : Heap} {A : List Addr}
theorem argH_at {b : Addr} {o : Obj} (hb : b ∈ A) (hk : K.lookup b = none) (e : h.get? b = some o) : argH K h A b = hoOf o := by
  unfold argH
  rw [if_pos hb, hk, if_pos (show (none : Option Obj).isNone = true from rfl), e] <;> rfl
theorem of_argH {b : Addr} {u : HO} (q : argH K h A b = some u) : b ∈ A ∧ K.lookup b = none := by
  unfold argH at q
  by_cases hb : b ∈ A
  · rw [if_pos hb] at q
    cases hk : K.lookup b with
    | none => exact ⟨hb, rfl⟩
    | some o =>
      rw [hk, if_neg (by simp)] at q
      cases q
  · rw [if_neg hb] at q
    cases q
/-- what stands tracked -/
theorem argH_is (ar : ∀ a ∈ A, ArgOb h A a) {b : Addr} {u : HO} (q : argH K h A b = some u) : K.lookup b = none ∧ ∃ vs : List Value, vs.length ≤ sizeLine ∧ (∀ u ∈ vs, OkU A u) ∧
    ((h.get? b = some { cls := .type "list", data := .seq vs.toArray } ∧ u = .frz { cls := .type "list", data := .seq vs.toArray } (.lst (vs.map toV))) ∨
     (h.get? b = some { cls := .type "tuple", data := .seq vs.toArray } ∧ u = .frz { cls := .type "tuple", data := .seq vs.toArray } (.tup (vs.map toV)))) := by
  obtain ⟨hb, hk⟩ := of_argH q
  obtain ⟨vs, h1, h2, h3⟩ := ar b hb
  refine ⟨hk, vs, h1, h2, ?_⟩
  rcases h3 with e | e
  · rw [argH_at hb hk e, hoOf_lst] at q
    exact .inl ⟨e, (Option.some.inj q).symm⟩
  · rw [argH_at hb hk e, hoOf_tup] at q
    exact .inr ⟨e, (Option.some.inj q).symm⟩
theorem argH_only (ar : ∀ a ∈ A, ArgOb h A a) : OnlyF (argH K h A) := fun b => by
  cases q : argH K h A b with
  | none => exact .inl rfl
  | some u =>
    obtain ⟨_, vs, _, _, ⟨_, e⟩ | ⟨_, e⟩⟩ := argH_is ar q
    · exact .inr ⟨_, _, by rw [e]⟩
    · exact .inr ⟨_, _, by rw [e]⟩
theorem argH_ok (ar : ∀ a ∈ A, ArgOb h A a) : HOk P w (argH K h A) h := fun b u q => by
  obtain ⟨_, vs, h1, h2, ⟨e, rfl⟩ | ⟨e, rfl⟩⟩ := argH_is ar q
  · exact ⟨e, by rw [List.length_map]; exact h1, vs, _, vals_toV h2, e⟩
  · exact ⟨e, by rw [List.length_map]; exact h1, vs, vals_toV h2, _, e, rfl, _, rfl⟩
theorem seq_inj {c c' : Value} {vs us : List Value} (e : (some { cls := c, data := .seq vs.toArray } : Option Obj) = some { cls := c', data := .seq us.toArray }) : c = c' ∧ vs = us := by
  have e1 := Option.some.inj e
  have e2 : c = c' := congrArg Obj.cls e1
  have e3 : Data.seq vs.toArray = Data.seq us.toArray := congrArg Obj.data e1
  injection e3 with e4
  refine ⟨e2, ?_⟩
  have e5 := congrArg Array.toList e4
  simpa using e5
/-- a list argument -/
theorem argL (KX : K.In h) (ar : ∀ a ∈ A, ArgOb h A a) {a : Addr} {vs : List Value} (ha : a ∈ A) (e : h.get? a = some { cls := .type "list", data := .seq vs.toArray }) : (∀ u ∈ vs, OkU A u) ∧ SqL K (argH K h A) a (vs.map toV) := by
  obtain ⟨us, h1, h2, h3⟩ := ar a ha
  have hu : us = vs := by
    rcases h3 with q | q
    · rw [e] at q
      exact (seq_inj q).2.symm
    · rw [e] at q
      exact absurd (Value.type.inj (seq_inj q).1) (by decide)
  subst hu
  refine ⟨h2, ?_⟩
  cases hk : K.lookup a with
  | none => exact .inl (.inr ⟨_, by rw [argH_at ha hk e, hoOf_lst]⟩)
  | some o =>
    have e2 := KX a o hk
    rw [e] at e2
    obtain rfl := Option.some.inj e2
    exact .inr ⟨_, us.toArray, _, hk, rfl, rfl, rfl, by rw [List.size_toArray]; exact h1, by simpa using vals_toV h2⟩
theorem argT (KX : K.In h) (ar : ∀ a ∈ A, ArgOb h A a) {a : Addr} {vs : List Value} (ha : a ∈ A) (e : h.get? a = some { cls := .type "tuple", data := .seq vs.toArray }) : (∀ u ∈ vs, OkU A u) ∧ SqT K (argH K h A) a (vs.map toV) := by
  obtain ⟨us, h1, h2, h3⟩ := ar a ha
  have hu : us = vs := by
    rcases h3 with q | q
    · rw [e] at q
      exact absurd (Value.type.inj (seq_inj q).1) (by decide)
    · rw [e] at q
      exact (seq_inj q).2.symm
  subst hu
  refine ⟨h2, ?_⟩
  cases hk : K.lookup a with
  | none => exact .inl (.inr ⟨_, by rw [argH_at ha hk e, hoOf_tup]⟩)
  | some o =>
    have e2 := KX a o hk
    rw [e] at e2
    obtain rfl := Option.some.inj e2
    exact .inr ⟨_, us.toArray, _, hk, rfl, rfl, by rw [List.size_toArray]; exact h1, by simpa using vals_toV h2⟩
mutual
theorem dw_one {Pm : Params} (KX : K.In h) (ar : ∀ a ∈ A, ArgOb h A a) : ∀ (d : WData) (v : Value), Well Pm h v d → plW d = true → OkU A v → Dw K (argH K h A) (toV v) d
  | .none, _, x, _, _ => by
    cases x
    exact .non
  | .bool b, _, x, _, _ => by
    cases x
    exact .bl b
  | .int i, _, x, _, _ => by
    cases x
    exact .int i
  | .str s, _, x, _, _ => by
    cases x
    exact .str s
  | .bytes b, _, x, _, _ => by
    cases x
    have z := Dw.byt (K := K) (H := argH K h A) b.toArray
    exact z
  | .list ds, _, x, p, hu => by
    obtain ⟨a, vs, rfl, ho, hall⟩ := well_list x
    obtain ⟨h2, hs⟩ := argL KX ar hu ho
    exact .lst hs (dw_all KX ar ds _ hall p h2)
  | .tuple ds, _, x, p, hu => by
    obtain ⟨a, vs, rfl, ho, hall⟩ := well_tuple x
    obtain ⟨h2, hs⟩ := argT KX ar hu ho
    exact .tup hs (dw_all KX ar ds _ hall p h2)
  | .float _, _, _, p, _ => Bool.noConfusion (show false = true from p)
  | .dict _, _, _, p, _ => Bool.noConfusion (show false = true from p)
  | .bytearray _, _, _, p, _ => Bool.noConfusion (show false = true from p)
  | .set _, _, _, p, _ => Bool.noConfusion (show false = true from p)
  | .frozenset _, _, _, p, _ => Bool.noConfusion (show false = true from p)
  | .obj _ _, _, _, p, _ => Bool.noConfusion (show false = true from p)
theorem dw_all {Pm : Params} (KX : K.In h) (ar : ∀ a ∈ A, ArgOb h A a) : ∀ (ds : List WData) (vs : List Value), WellAll Pm h vs ds → plWs ds = true → (∀ u ∈ vs, OkU A u) → DwAll K (argH K h A) (vs.map toV) ds
  | [], _, x, _, _ => by
    cases x
    exact .nil
  | d :: ds, _, x, p, hu => by
    obtain ⟨v, vs, rfl, x1, x2⟩ := well_cons x
    have q : plW d = true ∧ plWs ds = true := Bool.and_eq_true_iff.mp p
    exact .cons (dw_one KX ar d v x1 q.1 (hu _ (List.mem_cons_self ..))) (dw_all KX ar ds vs x2 q.2 fun u m => hu u (List.mem_cons_of_mem _ m))
end
end
/-! ### the call -/
theorem spec_call {P : Program} {w : World} {K : PySem.W.Frag} {mg mb : Str → Option Value} {CX : CXT} {k : Nat} {fa : Addr} {fd : FuncData} {ps : List Str} {sp : Sp} {s₁ : Shared} {vals : List Value} {ds : List WData} {R : PySem.W.WRecords} {cl : Str → Option Addr} {d0 : WData}
    (KX : K.In s₁.heap) (hns : s₁.heap.Ns mainGlobals mg) (hb : s₁.heap.Ns builtinsNs mb) (hbb : ∀ x : Str, x ≠ "__name__" → mb x = bootBuiltins x) (hlim : s₁.heap.NoLimit) (hg : s₁.gens = #[])
    (hwl : WellAll w.params s₁.heap vals ds) (hpl : plWs ds = true) (hwt : ∀ d ∈ ds, d.weight ≤ 1048576) (hr : Room k callerA)
    (F : ∀ base : Heap, K.In base → base.Ns mainGlobals mg → FnOk P w K mg base CX k fa fd ps sp) (hbind : ∀ (s : Shared) (us : List Value), us.length = ps.length → BindsTo s fd ⟨us, []⟩ (ps.zip us)) (hlen : ds.length = ps.length)
    (hsp : ∀ (H : Hp) (xs : List V), OnlyF H → DwAll K H xs ds → sp xs H (fun v H' => Dw K H' v d0) fun _ _ _ => False)
    (hCX : ∀ H e s', CX [] H s₁ (fun _ _ _ => False) e s' → False) :
    codeAny (model P w) callerA (.call (.ref fa) ⟨vals, []⟩) (fun r s' => ∃ u as, r = .ok (.ret u) ∧ ReadsW R cl s'.heap u d0 as ∧ OldK s₁.heap s'.heap ∧ s'.os = s₁.os ∧ AllBare s'.gens) s₁ := by
  obtain ⟨A, ho, ar⟩ := area_all ds vals hwl hpl hwt
  have hO : OnlyF (argH K s₁.heap A) := argH_only ar
  have hok : HOk P w (argH K s₁.heap A) s₁.heap := argH_ok ar
  have hS := dw_all KX ar ds vals hwl hpl ho
  have hV := vals_toV ho
  have hK : ∀ b u, argH K s₁.heap A b = some u → K.lookup b = none := fun b u q => (argH_is ar q).1
  have noA : ∀ {b : Addr} {o : Obj} {es : Array DictEntry} {ep : Nat}, s₁.heap.get? b = some o → o.data = .dict es ep → argH K s₁.heap A b = none := fun {b o es ep} e d => by
    cases q : argH K s₁.heap A b with
    | none => rfl
    | some u =>
      obtain ⟨_, vs, _, _, ⟨e2, _⟩ | ⟨e2, _⟩⟩ := argH_is ar q
      · rw [e2] at e
        cases e
        have d' : Data.seq vs.toArray _ = Data.dict es ep := d
        cases d'
      · rw [e2] at e
        cases e
        have d' : Data.seq vs.toArray _ = Data.dict es ep := d
        cases d'
  generalize argH K s₁.heap A = H at hO hok hS hK noA
  have base_of : ∀ {b : Addr} {o : Obj}, s₁.heap.get? b = some o → H b = none → (hidT s₁.heap H).get? b = some o := fun e n => hidT_get e n
  have nsK : ∀ {b : Addr} {m : Str → Option Value}, s₁.heap.Ns b m → (hidT s₁.heap H).Ns b m := fun {b m} ⟨o, es, ep, e, d, r⟩ => ⟨o, es, ep, base_of e (noA e d), d, r⟩
  have nK : ∀ b o, K.lookup b = some o → H b = none := fun b o e => by
    cases q : H b with
    | none => rfl
    | some u =>
      rw [hK b u q] at e
      cases e
  have hKb : K.In (hidT s₁.heap H) := fun b o e => base_of (KX b o e) (nK b o e)
  have hM : Mod K mg (hidT s₁.heap H) := ⟨hKb, nsK hns, ⟨mb, nsK hb, hbb⟩, let ⟨mc, h1, h2⟩ := hlim; ⟨mc, nsK h1, h2⟩⟩
  have e0 : Env0 P w K mg (hidT s₁.heap H) callerA [] s₁ H := ⟨rfl, hM, fun b o e => of_hidT e, Nat.le_of_eq (hidT_size _ _), trivial, fun b hb => absurd (show b ∈ ([] : List Addr) from hb) (by simp), hok, .of_eq hg⟩
  have hl : vals.length = ps.length := by rw [wellAll_len hwl]; exact hlen
  refine codeAny_mono ((F _ hKb (nsK hns)).run callerA [] s₁ H ⟨vals, []⟩ vals (vals.map toV) _ _ hr e0 (hbind s₁ vals hl) hV (hsp H _ hO hS)) fun r s' x => ?_
  cases r with
  | error e => exact (hCX H e s' x).elim
  | ok fl =>
    cases fl with
    | next => exact False.elim x
    | brk => exact False.elim x
    | cont => exact False.elim x
    | ret u =>
      obtain ⟨v, H', os, bare, un, hok', r', q⟩ := x
      have kept : ∀ b o, s₁.heap.get? b = some o → s'.heap.get? b = some o := fun b o e => by
        cases q2 : H b with
        | none => exact un.keep b o e q2 (by intro z; exact absurd (show b ∈ ([] : List Addr) from z) (by simp)) (by simp)
        | some u2 =>
          rcases hO b with z | ⟨ob, u3, z⟩
          · rw [q2] at z
            cases z
          · have z2 := un.frzs b ob _ z
            obtain ⟨e1, _⟩ := hok b _ z
            obtain ⟨e2, _⟩ := hok' b _ z2
            rw [e] at e1
            cases e1
            exact e2
      have KX' : K.In s'.heap := fun b o e => kept b o (KX b o e)
      obtain ⟨as, hrd⟩ := Dw.reads (R := R) (cl := cl) hok' KX' d0 v u q r'
      exact ⟨u, as, rfl, hrd, OldK.of_keep kept, os, bare⟩
/-! ### the row -/
theorem layable_weight {ds : List WData} (h : WData.layableAll ds = true) : ∀ d ∈ ds, d.weight ≤ 1048576 := fun d hd =>
  (PySem.W.layableW_iff.mp (List.all_eq_true.mp h d hd)).2.2
theorem encAll_len : ∀ (cs : List Codec) (a : Codec.denoteAll cs), (Codec.encAll cs a).length = cs.length
  | [], _ => rfl
  | c :: cs, a => by
    show (Codec.encAll cs a.2).length + 1 = cs.length + 1
    rw [encAll_len cs a.2]
/-- the goal that k_headS leaves (case hc), from the promise of the row's def: whatever the arguments that the codecs let and the row asks for, the def gives what stands for enc (f ..) -/
theorem walk_spec {r : OpenSpec} {k : Nat} {q : Program} {loose : List Str} {XP : (Str → Option Value) → Heap → Prop} {YP : World → Heap → Prop} {d : DefRec} {K : Params → PySem.W.Frag} {CX : World → CXT} {ps : List Str} {sp : World → Sp}
    (hwell : r.wellSaid = true) (hdf : d.params.defaults = []) (hlen : r.args.length = ps.length) (hr : Room k callerA)
    (hY : ∀ (w : World) (h : Heap), YP w h → (K w.params).In h)
    (F : ∀ (w : World) (mg : Str → Option Value) (fa : Addr) (h : Heap), YP w h → (K w.params).In h → h.Ns mainGlobals mg → mg d.name = some (.ref fa) →
      ∃ fd : FuncData, (∀ (s : Shared) (us : List Value), us.length = ps.length → BindsTo s fd ⟨us, []⟩ (ps.zip us)) ∧
        ∀ base : Heap, (K w.params).In base → base.Ns mainGlobals mg → FnOk r.prog w (K w.params) mg base (CX w) k fa fd ps (sp w))
    (hsp : ∀ (w : World) (H : Hp) (xs : List V) (a : Codec.denoteAll r.args), OnlyF H → Codec.withinAll r.args a = true → Codec.app r.args r.asked a = true → DwAll (K w.params) H xs (Codec.encAll r.args a) →
      sp w xs H (fun v H' => Dw (K w.params) H' v (r.ret.enc (Codec.app r.args r.f a))) fun _ _ _ => False)
    (hCX : ∀ (w : World) (H : Hp) (s : Shared) (e : Value) (s' : Shared), CX w [] H s (fun _ _ _ => False) e s' → False) :
    PySem.W.WalkOS q loose XP YP r d [] (fun f vs => PySem.call f vs) := by
  intro w s_0 s₁ mg mb G Y fa o pm cd doc dV kV ho hd hcd hD hmg hg args vals as hpre hlay hrd hwl hlo
  obtain ⟨a, e1, e2⟩ := PySem.W.os_pre_some hpre
  obtain ⟨e3, hwi⟩ := Codec.encAll_of_decAll r.args args a e1
  subst e3
  have KX := hY w _ Y
  obtain ⟨fd, hb, hF⟩ := F w mg fa _ Y KX G.T.g hmg
  refine PySem.W.enter_call (codeAny_mono (spec_call (R := []) (cl := classAt s_0.heap) (d0 := r.ret.enc (Codec.app r.args r.f a)) KX G.T.g G.T.b G.T.builtins G.T.nolimit hg hwl (pl_encAll _ _) (layable_weight hlay) hr hF hb (by rw [encAll_len]; exact hlen)
    (fun H xs hO hS => hsp w H xs a hO hwi e2 hS) fun H e s' => hCX w H s₁ e s') fun r' s' hq => ?_)
  obtain ⟨u, as', rfl, h1, h2, h3, h4⟩ := hq
  exact ⟨.inl ⟨u, _, as', rfl, fun _ => rfl, h1, (OpenSpec.post_iff hwell hwi _ _).mpr rfl, fun z => Bool.noConfusion (show false = true from z)⟩, h2, h3, h4⟩
/-- the same where the promise hangs on the written part alone -/
theorem walk_specK {r : OpenSpec} {k : Nat} {q : Program} {loose : List Str} {XP : (Str → Option Value) → Heap → Prop} {YP : World → Heap → Prop} {d : DefRec} {K : Params → PySem.W.Frag} {CX : CXT} {ps : List Str} {sp : PySem.W.Frag → Sp}
    (hwell : r.wellSaid = true) (hdf : d.params.defaults = []) (hlen : r.args.length = ps.length) (hr : Room k callerA)
    (hY : ∀ (w : World) (h : Heap), YP w h → (K w.params).In h)
    (F : ∀ (w : World) (mg : Str → Option Value) (fa : Addr) (h : Heap), YP w h → (K w.params).In h → h.Ns mainGlobals mg → mg d.name = some (.ref fa) →
      ∃ fd : FuncData, (∀ (s : Shared) (us : List Value), us.length = ps.length → BindsTo s fd ⟨us, []⟩ (ps.zip us)) ∧
        ∀ base : Heap, (K w.params).In base → base.Ns mainGlobals mg → FnOk r.prog w (K w.params) mg base CX k fa fd ps (sp (K w.params)))
    (hsp : ∀ (K : PySem.W.Frag) (H : Hp) (xs : List V) (a : Codec.denoteAll r.args), OnlyF H → Codec.withinAll r.args a = true → Codec.app r.args r.asked a = true → DwAll K H xs (Codec.encAll r.args a) →
      sp K xs H (fun v H' => Dw K H' v (r.ret.enc (Codec.app r.args r.f a))) fun _ _ _ => False)
    (hCX : ∀ (H : Hp) (s : Shared) (e : Value) (s' : Shared), CX [] H s (fun _ _ _ => False) e s' → False) :
    PySem.W.WalkOS q loose XP YP r d [] (fun f vs => PySem.call f vs) :=
  walk_spec (K := K) (CX := fun _ => CX) (sp := fun w => sp (K w.params)) hwell hdf hlen hr hY F (fun w H xs a h1 h2 h3 h4 => hsp (K w.params) H xs a h1 h2 h3 h4) fun _ H s e s' => hCX H s e s'
end L2
-- rests on (row put in by the clerk, for the bench that shows a file only what it spells): KE.SpHead KE.OsShapes
end
section
set_option linter.all false
namespace Dk
/-! ### bits -/
theorem land_rec (x y : Nat) : x &&& y = 2 * ((x / 2) &&& (y / 2)) + (x % 2) * (y % 2) := by
  have h1 : (x &&& y) / 2 = (x / 2) &&& (y / 2) := Nat.and_div_two
  have h2 : (x &&& y) % 2 = (x % 2) * (y % 2) := by
    have hx : x % 2 = 0 ∨ x % 2 = 1 := by omega
    have hy : y % 2 = 0 ∨ y % 2 = 1 := by omega
    have h := @Nat.and_mod_two_eq_one x y
    have hz : (x &&& y) % 2 = 0 ∨ (x &&& y) % 2 = 1 := by omega
    rcases hx with hx | hx <;> rcases hy with hy | hy <;> rcases hz with hz | hz <;> simp_all
  have h3 : x &&& y = 2 * ((x &&& y) / 2) + (x &&& y) % 2 := by omega
  rw [h3, h1, h2]
theorem land_bits (x y d e : Nat) (hd : d < 2) (he : e < 2) : (2 * x + d) &&& (2 * y + e) = 2 * (x &&& y) + d * e := by
  rw [land_rec]
  have a1 : (2 * x + d) / 2 = x := by omega
  have a2 : (2 * y + e) / 2 = y := by omega
  have a3 : (2 * x + d) % 2 = d := by omega
  have a4 : (2 * y + e) % 2 = e := by omega
  rw [a1, a2, a3, a4]
theorem land_ee (x y : Nat) : (2 * x) &&& (2 * y) = 2 * (x &&& y) := land_bits x y 0 0 (by decide) (by decide)
theorem land_oe (x y : Nat) : (2 * x + 1) &&& (2 * y) = 2 * (x &&& y) := land_bits x y 1 0 (by decide) (by decide)
theorem land_eo (x y : Nat) : (2 * x) &&& (2 * y + 1) = 2 * (x &&& y) := by simpa using land_bits x y 0 1 (by decide) (by decide)
theorem land_oo (x y : Nat) : (2 * x + 1) &&& (2 * y + 1) = 2 * (x &&& y) + 1 := by simpa using land_bits x y 1 1 (by decide) (by decide)
/-- a number's last bit off -/
theorem bit_cases (x : Nat) : ∃ y d, (d = 0 ∨ d = 1) ∧ x = 2 * y + d := ⟨x / 2, x % 2, by omega, by omega⟩
theorem fill (n : Nat) : ∀ (v a : Nat), v < 2 ^ n → a &&& v = a → (a + (2 ^ n - 1 - v)) &&& v = a := by
  induction n with
  | zero =>
    intro v a hv ha
    have : v = 0 := by simpa using hv
    subst this
    simp at ha ⊢
    exact ha
  | succ n ih =>
    intro v a hv ha
    have hp : 2 ^ (n + 1) = 2 * 2 ^ n := by rw [Nat.pow_succ]; omega
    have pos : 0 < 2 ^ n := Nat.pow_pos (by decide)
    obtain ⟨w, e, he, rfl⟩ := bit_cases v
    obtain ⟨b, d, hd, rfl⟩ := bit_cases a
    have hw : w < 2 ^ n := by omega
    rcases he with rfl | rfl <;> rcases hd with rfl | rfl
    · have e1 : 2 * b + 0 + (2 ^ (n + 1) - 1 - (2 * w + 0)) = 2 * (b + (2 ^ n - 1 - w)) + 1 := by omega
      rw [e1]; simp only [Nat.add_zero]; rw [land_oe]
      have hb : b &&& w = b := by have := land_ee b w; simp only [Nat.add_zero] at ha; omega
      rw [ih w b hw hb]
    · simp only [Nat.add_zero] at ha; rw [land_oe] at ha; omega
    · have e1 : 2 * b + 0 + (2 ^ (n + 1) - 1 - (2 * w + 1)) = 2 * (b + (2 ^ n - 1 - w)) := by omega
      rw [e1, land_eo]
      have hb : b &&& w = b := by have := land_eo b w; simp only [Nat.add_zero] at ha; omega
      rw [ih w b hw hb]; omega
    · have e1 : 2 * b + 1 + (2 ^ (n + 1) - 1 - (2 * w + 1)) = 2 * (b + (2 ^ n - 1 - w)) + 1 := by omega
      rw [e1, land_oo]
      have hb : b &&& w = b := by have := land_oo b w; omega
      rw [ih w b hw hb]
/-! ### sets within one -/
def nextIn (n u a : Nat) : Nat := (a + (2 ^ n - u)) &&& u
def chain (n u : Nat) : Nat → Nat → List Nat
  | 0, _ => []
  | k + 1, a => a :: chain n u k (nextIn n u a)
theorem chain_spec (u : Nat) : ∀ k a, Rc52.setsFrom u k a = chain 64 u k a
  | 0, _ => rfl
  | k + 1, a => by
    show a :: Rc52.setsFrom u k _ = a :: chain 64 u k _
    rw [chain_spec u k]; rfl
/-- all sets within u, of n bits, by their numbers -/
def subs : Nat → Nat → List Nat
  | 0, _ => [0]
  | n + 1, u => if u % 2 = 0 then (subs n (u / 2)).map (fun a => 2 * a) else (subs n (u / 2)).flatMap fun a => [2 * a, 2 * a + 1]
def pop : Nat → Nat → Nat
  | 0, _ => 0
  | n + 1, u => u % 2 + pop n (u / 2)
theorem next_e {n v a : Nat} (hv : v < 2 ^ n) : nextIn (n + 1) (2 * v) (2 * a) = 2 * nextIn n v a := by
  unfold nextIn
  have hp : 2 ^ (n + 1) = 2 * 2 ^ n := by rw [Nat.pow_succ]; omega
  have e1 : 2 * a + (2 ^ (n + 1) - 2 * v) = 2 * (a + (2 ^ n - v)) := by omega
  rw [e1, land_ee]
theorem next_o0 {n v a : Nat} (hv : v < 2 ^ n) (ha : a &&& v = a) : nextIn (n + 1) (2 * v + 1) (2 * a) = 2 * a + 1 := by
  unfold nextIn
  have hp : 2 ^ (n + 1) = 2 * 2 ^ n := by rw [Nat.pow_succ]; omega
  have e1 : 2 * a + (2 ^ (n + 1) - (2 * v + 1)) = 2 * (a + (2 ^ n - 1 - v)) + 1 := by omega
  rw [e1, land_oo, fill n v a hv ha]
theorem next_o1 {n v a : Nat} (hv : v < 2 ^ n) : nextIn (n + 1) (2 * v + 1) (2 * a + 1) = 2 * nextIn n v a := by
  unfold nextIn
  have hp : 2 ^ (n + 1) = 2 * 2 ^ n := by rw [Nat.pow_succ]; omega
  have e1 : 2 * a + 1 + (2 ^ (n + 1) - (2 * v + 1)) = 2 * (a + (2 ^ n - v)) := by omega
  rw [e1, land_eo]
theorem next_in (n u a : Nat) : nextIn n u a &&& u = nextIn n u a := by
  unfold nextIn
  rw [Nat.and_assoc, Nat.and_self]
theorem chain_e {n v : Nat} (hv : v < 2 ^ n) : ∀ k a, chain (n + 1) (2 * v) k (2 * a) = (chain n v k a).map (fun a => 2 * a)
  | 0, _ => rfl
  | k + 1, a => by
    show 2 * a :: chain (n + 1) (2 * v) k _ = 2 * a :: (chain n v k _).map _
    rw [next_e hv, chain_e hv k]
theorem chain_o {n v : Nat} (hv : v < 2 ^ n) : ∀ k a, a &&& v = a → chain (n + 1) (2 * v + 1) (2 * k) (2 * a) = (chain n v k a).flatMap fun a => [2 * a, 2 * a + 1]
  | 0, _, _ => rfl
  | k + 1, a, ha => by
    show 2 * a :: nextIn (n + 1) (2 * v + 1) (2 * a) :: chain (n + 1) (2 * v + 1) (2 * k) (nextIn (n + 1) (2 * v + 1) (nextIn (n + 1) (2 * v + 1) (2 * a))) = (a :: chain n v k _).flatMap _
    rw [next_o0 hv ha, next_o1 hv, chain_o hv k _ (next_in n v a), List.flatMap_cons]
    rfl
theorem chain_subs : ∀ (n u : Nat), u < 2 ^ n → chain n u (2 ^ pop n u) 0 = subs n u
  | 0, u, _ => rfl
  | n + 1, u, hu => by
    have hp : 2 ^ (n + 1) = 2 * 2 ^ n := by rw [Nat.pow_succ]; omega
    obtain ⟨v, e, he, rfl⟩ := bit_cases u
    have hv : v < 2 ^ n := by omega
    have ih := chain_subs n v hv
    rcases he with rfl | rfl
    · have a1 : (2 * v + 0) % 2 = 0 := by omega
      have a2 : (2 * v + 0) / 2 = v := by omega
      have := chain_e hv (2 ^ pop n v) 0
      simp only [subs, pop, a1, a2, if_true, Nat.zero_add, ← ih]
      exact this
    · have a1 : (2 * v + 1) % 2 = 1 := by omega
      have a2 : (2 * v + 1) / 2 = v := by omega
      have a3 : 2 ^ (1 + pop n v) = 2 * 2 ^ pop n v := by rw [Nat.add_comm, Nat.pow_succ]; omega
      have := chain_o hv (2 ^ pop n v) 0 (Nat.zero_and v)
      simp only [subs, pop, a1, a2, a3, ← ih]
      exact this
theorem pop_range : ∀ (n u : Nat), pop n u = ((List.range n).filter fun i => u.testBit i).length
  | 0, _ => rfl
  | n + 1, u => by
    rw [List.range_succ_eq_map, List.filter_cons, List.filter_map, pop, pop_range n (u / 2)]
    have e : (List.range n).filter ((fun i => u.testBit i) ∘ Nat.succ) = (List.range n).filter fun i => (u / 2).testBit i := by
      congr 1
      funext i
      show u.testBit (i + 1) = _
      rw [Nat.testBit_succ]
    rw [e, Nat.testBit_zero]
    have h : u % 2 = 0 ∨ u % 2 = 1 := by omega
    rcases h with h | h <;> simp [h]; omega
theorem size_pop (u : Nat) : Rc52.size u = pop 64 u := (pop_range 64 u).symm
/-- THE SETS WITHIN ONE -/
theorem setsIn_subs {u : Nat} (hu : u < 2 ^ 64) : Rc52.setsIn u = subs 64 u := by
  unfold Rc52.setsIn
  rw [chain_spec, size_pop, chain_subs 64 u hu]
theorem mem_subs : ∀ (n u a : Nat), u < 2 ^ n → (a ∈ subs n u ↔ a &&& u = a)
  | 0, u, a, hu => by
    have : u = 0 := by simpa using hu
    subst this
    simp [subs]
    exact eq_comm
  | n + 1, u, a, hu => by
    have hp : 2 ^ (n + 1) = 2 * 2 ^ n := by rw [Nat.pow_succ]; omega
    obtain ⟨v, e, he, rfl⟩ := bit_cases u
    have hv : v < 2 ^ n := by omega
    have ih := fun b => mem_subs n v b hv
    have a2 : (2 * v + 0) / 2 = v := by omega
    have a2' : (2 * v + 1) / 2 = v := by omega
    rcases he with rfl | rfl
    · have a1 : (2 * v + 0) % 2 = 0 := by omega
      simp only [subs, a1, a2, if_true, List.mem_map, ih]
      constructor
      · rintro ⟨b, hb, rfl⟩
        rw [Nat.add_zero, land_ee, hb]
      · intro h
        obtain ⟨b, d, hd, rfl⟩ := bit_cases a
        rw [Nat.add_zero] at h
        rcases hd with rfl | rfl
        · rw [Nat.add_zero, land_ee] at h
          exact ⟨b, by omega, by omega⟩
        · rw [land_oe] at h; omega
    · have a1 : ¬ (2 * v + 1) % 2 = 0 := by omega
      simp only [subs, a1, a2', if_false, List.mem_flatMap, ih]
      constructor
      · rintro ⟨b, hb, h⟩
        simp at h
        rcases h with rfl | rfl
        · rw [land_eo, hb]
        · rw [land_oo, hb]
      · intro h
        obtain ⟨b, d, hd, rfl⟩ := bit_cases a
        rcases hd with rfl | rfl
        · rw [Nat.add_zero, land_eo] at h
          exact ⟨b, by omega, by simp⟩
        · rw [land_oo] at h
          exact ⟨b, by omega, by simp⟩
theorem pair_subs : ∀ (n u : Nat), (subs n u).Pairwise (· < ·)
  | 0, u => by simp [subs]
  | n + 1, u => by
    have ih := pair_subs n (u / 2)
    by_cases h : u % 2 = 0
    · simp only [subs, h, if_true]
      rw [List.pairwise_map]
      exact ih.imp fun h => by omega
    · simp only [subs, h, if_false]
      rw [List.pairwise_flatMap]
      refine ⟨fun a _ => by simp, ih.imp fun {a b} h x hx y hy => ?_⟩
      simp at hx hy
      omega
theorem len_subs : ∀ (n u : Nat), (subs n u).length = 2 ^ pop n u
  | 0, u => rfl
  | n + 1, u => by
    have ih := len_subs n (u / 2)
    by_cases h : u % 2 = 0
    · simp only [subs, pop, h, if_true, List.length_map, ih, Nat.zero_add]
    · have h1 : u % 2 = 1 := by omega
      simp only [subs, pop, h1]
      have e : ∀ l : List Nat, (l.flatMap fun a => [2 * a, 2 * a + 1]).length = 2 * l.length := fun l => by
        induction l with
        | nil => rfl
        | cons x r q => rw [List.flatMap_cons, List.length_append, q]; simp; omega
      show ((subs n (u / 2)).flatMap fun a => [2 * a, 2 * a + 1]).length = _
      rw [e, ih, Nat.add_comm 1, Nat.pow_succ]; omega
theorem mem_setsIn {u a : Nat} (hu : u < 2 ^ 64) : a ∈ Rc52.setsIn u ↔ a &&& u = a := by
  rw [setsIn_subs hu, mem_subs 64 u a hu]
theorem pair_setsIn {u : Nat} (hu : u < 2 ^ 64) : (Rc52.setsIn u).Pairwise (· < ·) := by
  rw [setsIn_subs hu]
  exact pair_subs 64 u
theorem len_setsIn {u : Nat} (hu : u < 2 ^ 64) : (Rc52.setsIn u).length = 2 ^ Rc52.size u := by
  rw [setsIn_subs hu, len_subs, size_pop]
end Dk
end
section
set_option linter.all false
namespace Dk
open Rc52
/-! ### the order of sets -/
theorem before_iff {a b : Nat} : before a b = true ↔ size a < size b ∨ (size a = size b ∧ a < b) := by
  unfold before
  simp
theorem before_irr (a : Nat) : ¬ before a a = true := by rw [before_iff]; omega
theorem before_asym {a b : Nat} (h : before a b = true) : ¬ before b a = true := by rw [before_iff] at *; omega
theorem before_trans {a b c : Nat} (h : before a b = true) (g : before b c = true) : before a c = true := by rw [before_iff] at *; omega
theorem before_total {a b : Nat} (h : a ≠ b) : before a b = true ∨ before b a = true := by rw [before_iff, before_iff]; omega
/-- two lists in one strict order with the same members are one -/
theorem uniq {α : Type} {r : α → α → Prop} (irr : ∀ a, ¬ r a a) (asym : ∀ a b, r a b → ¬ r b a) : ∀ (l m : List α), l.Pairwise r → m.Pairwise r → (∀ x, x ∈ l ↔ x ∈ m) → l = m
  | [], [], _, _, _ => rfl
  | [], y :: m, _, _, h => by have := (h y).mpr (by simp); simp at this
  | x :: l, [], _, _, h => by have := (h x).mp (by simp); simp at this
  | x :: l, y :: m, pl, pm, h => by
    rw [List.pairwise_cons] at pl pm
    have exy : x = y := by
      have h1 : x ∈ y :: m := (h x).mp (by simp)
      have h2 : y ∈ x :: l := (h y).mpr (by simp)
      rw [List.mem_cons] at h1 h2
      rcases h1 with h1 | h1
      · exact h1
      · rcases h2 with h2 | h2
        · exact h2.symm
        · exact absurd (pl.1 y h2) (asym _ _ (pm.1 x h1))
    subst exy
    rw [uniq irr asym l m pl.2 pm.2 fun z => ?_]
    have hz := h z
    rw [List.mem_cons, List.mem_cons] at hz
    constructor
    · intro q
      rcases hz.mp (.inr q) with e | e
      · subst e; exact absurd (pl.1 z q) (irr z)
      · exact e
    · intro q
      rcases hz.mpr (.inr q) with e | e
      · subst e; exact absurd (pm.1 z q) (irr z)
      · exact e
/-! ### things -/
theorem lor_lt {a b : Nat} (ha : a < 2 ^ 64) (hb : b < 2 ^ 64) : a ||| b < 2 ^ 64 := Nat.or_lt_two_pow ha hb
theorem things_foldl_lt : ∀ (l : List Nat) (a : Nat), a < 2 ^ 64 → (∀ b ∈ l, b < 2 ^ 64) → l.foldl (fun (a b : Nat) => Nat.lor a b) a < 2 ^ 64
  | [], a, ha, _ => ha
  | x :: l, a, ha, h => things_foldl_lt l _ (lor_lt ha (h x (by simp))) fun b hb => h b (by simp [hb])
theorem things_lt {l : List Nat} (h : ∀ b ∈ l, b < 2 ^ 64) : things l < 2 ^ 64 := things_foldl_lt l 0 (by decide) h
/-- s lies within u -/
theorem in_iff {s u : Nat} : s &&& u = s ↔ ∀ i, s.testBit i = true → u.testBit i = true := by
  constructor
  · intro h i hi
    rw [← h, Nat.testBit_and, Bool.and_eq_true] at hi
    exact hi.2
  · intro h
    apply Nat.eq_of_testBit_eq
    intro i
    rw [Nat.testBit_and]
    cases e : s.testBit i with
    | false => rfl
    | true => rw [h i e]; rfl
theorem in_trans {s t u : Nat} (h : s &&& t = s) (g : t &&& u = t) : s &&& u = s := by
  rw [in_iff] at *
  exact fun i hi => g i (h i hi)
theorem in_lor_left {s u v : Nat} (h : s &&& u = s) : s &&& (u ||| v) = s := by
  rw [in_iff] at *
  intro i hi
  rw [Nat.testBit_or, h i hi]; rfl
theorem in_lor_right (u v : Nat) : v &&& (u ||| v) = v := by
  rw [in_iff]
  intro i hi
  rw [Nat.testBit_or, hi]; simp
theorem lor_in {s t u : Nat} (h : s &&& u = s) (g : t &&& u = t) : (s ||| t) &&& u = s ||| t := by
  rw [in_iff] at *
  intro i hi
  rw [Nat.testBit_or, Bool.or_eq_true] at hi
  exact hi.elim (h i) (g i)
theorem things_foldl_in : ∀ (l : List Nat) (a s : Nat), (s &&& a = s ∨ ∃ b ∈ l, s &&& b = s) → s &&& l.foldl (fun (a b : Nat) => Nat.lor a b) a = s
  | [], a, s, h => by
    rcases h with h | ⟨b, hb, _⟩
    · exact h
    · simp at hb
  | x :: l, a, s, h => by
    refine things_foldl_in l (a ||| x) s ?_
    rcases h with h | ⟨b, hb, e⟩
    · exact .inl (in_lor_left h)
    · rw [List.mem_cons] at hb
      rcases hb with rfl | hb
      · exact .inl (in_trans e (in_lor_right a b))
      · exact .inr ⟨b, hb, e⟩
theorem in_things {l : List Nat} {b s : Nat} (hb : b ∈ l) (h : s &&& b = s) : s &&& things l = s := things_foldl_in l 0 s (.inr ⟨b, hb, h⟩)
theorem things_foldl_sub : ∀ (l : List Nat) (a u : Nat), a &&& u = a → (∀ b ∈ l, b &&& u = b) → l.foldl (fun (a b : Nat) => Nat.lor a b) a &&& u = l.foldl (fun (a b : Nat) => Nat.lor a b) a
  | [], a, u, ha, _ => ha
  | x :: l, a, u, ha, h => things_foldl_sub l _ u (lor_in ha (h x (by simp))) fun b hb => h b (by simp [hb])
theorem things_sub {l : List Nat} {u : Nat} (h : ∀ b ∈ l, b &&& u = b) : things l &&& u = things l := things_foldl_sub l 0 u (Nat.zero_and u) h
theorem le_of_in {s u : Nat} (h : s &&& u = s) : s ≤ u := by rw [← h]; exact Nat.and_le_right
theorem size_mono {s u : Nat} (h : s &&& u = s) : size s ≤ size u := by
  unfold size
  rw [in_iff] at h
  have : ∀ l : List Nat, (l.filter fun i => s.testBit i).length ≤ (l.filter fun i => u.testBit i).length := fun l => by
    induction l with
    | nil => simp
    | cons x r ih =>
      rw [List.filter_cons, List.filter_cons]
      cases e : s.testBit x with
      | false =>
        cases u.testBit x with
        | false => simpa using ih
        | true => simp; omega
      | true => rw [h x e]; simpa using ih
  exact this _
/-! ### support -/
theorem within_iff {a b : Nat} : within a b = true ↔ a &&& b = a := by
  unfold within
  exact beq_iff_eq
theorem support_pos {l : List Nat} {s : Nat} (h : 1 ≤ support l s) : ∃ b ∈ l, s &&& b = s := by
  unfold support at h
  cases e : l.filter fun b => within s b with
  | nil => rw [e] at h; simp at h
  | cons x r =>
    have hx : x ∈ l.filter fun b => within s b := by rw [e]; simp
    rw [List.mem_filter] at hx
    exact ⟨x, hx.1, within_iff.mp hx.2⟩
theorem support_le (l : List Nat) (s : Nat) : support l s ≤ l.length := List.length_filter_le _ _
/-! ### the sets of a kind -/
theorem mem_setsOf {l : List Nat} {least kind s : Nat} (hl : ∀ b ∈ l, b < 2 ^ 64) : s ∈ setsOf l least kind ↔ s &&& things l = s ∧ isOf l least kind s = true := by
  unfold setsOf
  rw [List.mem_mergeSort, List.mem_filter, mem_setsIn (things_lt hl)]
theorem isOf_least {l : List Nat} {least kind s : Nat} (h : isOf l least kind s = true) : 0 < s ∧ least ≤ support l s := by
  unfold isOf at h
  simp only [Bool.and_eq_true, decide_eq_true_eq] at h
  exact ⟨h.1, h.2.1⟩
/-- what is of a kind lies within the things there are -/
theorem isOf_things {l : List Nat} {least kind s : Nat} (hm : 1 ≤ least) (h : isOf l least kind s = true) : s &&& things l = s := by
  obtain ⟨b, hb, e⟩ := support_pos (l := l) (s := s) (by have := (isOf_least h).2; omega)
  exact in_things hb e
theorem mem_setsOf' {l : List Nat} {least kind s : Nat} (hl : ∀ b ∈ l, b < 2 ^ 64) (hm : 1 ≤ least) : s ∈ setsOf l least kind ↔ isOf l least kind s = true := by
  rw [mem_setsOf hl]
  exact ⟨fun h => h.2, fun h => ⟨isOf_things hm h, h⟩⟩
theorem nodup_of_lt : ∀ {l : List Nat}, l.Pairwise (· < ·) → l.Nodup := fun h => h.imp fun h e => by omega
theorem pair_setsOf {l : List Nat} {least kind : Nat} (hl : ∀ b ∈ l, b < 2 ^ 64) : (setsOf l least kind).Pairwise fun a b => before a b = true := by
  unfold setsOf
  have nd : ((setsIn (things l)).filter (isOf l least kind)).Nodup := (nodup_of_lt (pair_setsIn (things_lt hl))).filter _
  have nd2 := (List.mergeSort_perm ((setsIn (things l)).filter (isOf l least kind)) fun (a b : Nat) => a == b || before a b).nodup_iff.mpr nd
  have st := List.pairwise_mergeSort (le := fun (a b : Nat) => a == b || before a b) (fun a b c h g => by
    simp only [Bool.or_eq_true, beq_iff_eq] at h g ⊢
    rcases h with rfl | h
    · exact g
    · rcases g with rfl | g
      · exact .inr h
      · exact .inr (before_trans h g)) (fun a b => by
    by_cases e : a = b
    · subst e; simp
    · rcases before_total e with h | h <;> simp [h]) ((setsIn (things l)).filter (isOf l least kind))
  have := st.and nd2
  refine this.imp fun {a b} h => ?_
  have h1 := h.1
  simp only [Bool.or_eq_true, beq_iff_eq] at h1
  exact h1.resolve_left h.2
/-- THE LIST OF SETS: whatever list stands in order and has just those of the kind is it -/
theorem setsOf_uniq {l m : List Nat} {least kind : Nat} (hl : ∀ b ∈ l, b < 2 ^ 64) (hm : 1 ≤ least) (hp : m.Pairwise fun a b => before a b = true) (he : ∀ s, s ∈ m ↔ isOf l least kind s = true) : m = setsOf l least kind :=
  uniq before_irr (fun _ _ h => before_asym h) _ _ hp (pair_setsOf hl) fun s => by rw [he, mem_setsOf' hl hm]
theorem setsOf_filter {l : List Nat} {least kind : Nat} (hl : ∀ b ∈ l, b < 2 ^ 64) (hm : 1 ≤ least) : setsOf l least kind = (setsOf l least 0).filter (isOf l least kind) := by
  refine (setsOf_uniq hl hm ((pair_setsOf hl).filter _) fun s => ?_).symm
  rw [List.mem_filter, mem_setsOf' hl hm]
  refine ⟨fun h => h.2, fun h => ⟨?_, h⟩⟩
  have := isOf_least h
  unfold isOf
  simp [this.1, this.2]
theorem len_setsOf {l : List Nat} {least kind : Nat} (hl : ∀ b ∈ l, b < 2 ^ 64) : (setsOf l least kind).length ≤ 2 ^ size (things l) := by
  unfold setsOf
  rw [List.length_mergeSort, ← len_setsIn (things_lt hl)]
  exact List.length_filter_le _ _
end Dk
end
section
set_option linter.all false
namespace Dk
open Rc52
/-! ### a line's calls, as they are read off the numbers -/
inductive Reads : List Int → List (List (List Int)) → Prop
  | nil : Reads [] []
  | c0 {r cs} : Reads r cs → Reads (0 :: r) ([[0]] :: cs)
  | c1 {r cs} (a : Int) : Reads r cs → Reads (1 :: a :: r) ([[1, a]] :: cs)
  | c2 {r cs} (a : Int) : Reads r cs → Reads (2 :: a :: r) ([[2, a]] :: cs)
  | c3 {r cs} (a : Int) : Reads r cs → Reads (3 :: a :: r) ([[3, a]] :: cs)
  | c4 {r cs} (a b : Int) : Reads r cs → Reads (4 :: a :: b :: r) ([[4, a, b]] :: cs)
  | c5 {r cs} (a b c : Int) : Reads r cs → Reads (5 :: a :: b :: c :: r) ([[5, a, b, c]] :: cs)
  | c6 {r cs} (a b c : Int) : Reads r cs → Reads (6 :: a :: b :: c :: r) ([[6, a, b, c]] :: cs)
  | c7 {r cs} (a b c d : Int) : Reads r cs → Reads (7 :: a :: b :: c :: d :: r) ([[7, a, b, c, d]] :: cs)
theorem whole_id (c : List (List Int)) : PyRc52.whole c = c := by
  unfold PyRc52.whole
  split <;> rfl
theorem calls_eq (l : List Int) : PyRc52.calls l = PyFlat.calls PyRc52.shape l.length l := by
  unfold PyRc52.calls
  cases PyFlat.calls PyRc52.shape l.length l with
  | none => rfl
  | some cs =>
    show some (cs.map PyRc52.whole) = some cs
    congr 1
    have : PyRc52.whole = id := funext whole_id
    rw [this, List.map_id]
theorem shape_some {p : Int} {n k : Nat} (h : PyRc52.shape p = some (n, k)) : k = 0 ∧ ((p = 0 ∧ n = 0) ∨ (p = 1 ∧ n = 1) ∨ (p = 2 ∧ n = 1) ∨ (p = 3 ∧ n = 1) ∨ (p = 4 ∧ n = 2) ∨ (p = 5 ∧ n = 3) ∨ (p = 6 ∧ n = 3) ∨ (p = 7 ∧ n = 4)) := by
  unfold PyRc52.shape at h
  repeat' split at h
  all_goals simp at h
  all_goals omega
theorem reads_of : ∀ (f : Nat) (l : List Int) (cs : List (List (List Int))), PyFlat.calls PyRc52.shape f l = some cs → Reads l cs
  | f, [], cs, h => by
    have e : cs = [] := by
      cases f <;> (simp [PyFlat.calls] at h; exact h)
    subst e
    exact .nil
  | 0, _ :: _, cs, h => by simp [PyFlat.calls] at h
  | f + 1, p :: r, cs, h => by
    unfold PyFlat.calls PyFlat.call at h
    dsimp only at h
    cases e : PyRc52.shape p with
    | none => rw [e] at h; simp at h
    | some q =>
      obtain ⟨n, k⟩ := q
      obtain ⟨rfl, hs⟩ := shape_some e
      rw [e] at h
      by_cases hl : r.length < n
      · simp [hl] at h
      · simp only [hl, if_false, PyFlat.rows] at h
        cases e2 : PyFlat.calls PyRc52.shape f (r.drop n) with
        | none => rw [e2] at h; simp at h
        | some cs2 =>
          rw [e2] at h
          injection h with h
          subst h
          have ih := reads_of f _ _ e2
          rcases hs with ⟨rfl, rfl⟩ | ⟨rfl, rfl⟩ | ⟨rfl, rfl⟩ | ⟨rfl, rfl⟩ | ⟨rfl, rfl⟩ | ⟨rfl, rfl⟩ | ⟨rfl, rfl⟩ | ⟨rfl, rfl⟩
          · exact .c0 ih
          · match r, hl, ih with
            | a :: r, _, ih => exact .c1 a ih
          · match r, hl, ih with
            | a :: r, _, ih => exact .c2 a ih
          · match r, hl, ih with
            | a :: r, _, ih => exact .c3 a ih
          · match r, hl, ih with
            | [_], hl, _ => simp at hl
            | a :: b :: r, _, ih => exact .c4 a b ih
          · match r, hl, ih with
            | [_], hl, _ => simp at hl
            | [_, _], hl, _ => simp at hl
            | a :: b :: c :: r, _, ih => exact .c5 a b c ih
          · match r, hl, ih with
            | [_], hl, _ => simp at hl
            | [_, _], hl, _ => simp at hl
            | a :: b :: c :: r, _, ih => exact .c6 a b c ih
          · match r, hl, ih with
            | [_], hl, _ => simp at hl
            | [_, _], hl, _ => simp at hl
            | [_, _, _], hl, _ => simp at hl
            | a :: b :: c :: d :: r, _, ih => exact .c7 a b c d ih
/-! ### what is asked of a line -/
structure Fine (U : Nat) (cs : List (List (List Int))) : Prop where
  each : ∀ c ∈ cs, Rc52Neutral.asked1 c = true
  bask : ∀ a : Int, [[1, a]] ∈ cs → a.toNat &&& U = a.toNat
theorem Fine.tail {U : Nat} {c : List (List Int)} {cs : List (List (List Int))} (h : Fine U (c :: cs)) : Fine U cs := ⟨fun d hd => h.each d (by simp [hd]), fun a ha => h.bask a (by simp [ha])⟩
def addTo (a : Nat) (c : List (List Int)) : Nat := match c with
  | [[1, s]] => Nat.lor a s.toNat
  | _ => a
theorem addTo_basket (a : Nat) (s : Int) : addTo a [[1, s]] = a ||| s.toNat := rfl
theorem addTo_cases (a : Nat) (c : List (List Int)) : addTo a c = a ∨ ∃ s, c = [[1, s]] ∧ addTo a c = a ||| s.toNat := by
  unfold addTo
  split
  · exact .inr ⟨_, rfl, rfl⟩
  · exact .inl rfl
theorem line_things (l : List (List (List Int))) : Rc52Neutral.things l = l.foldl addTo 0 := rfl
theorem addTo_in : ∀ (l : List (List (List Int))) (a s : Nat), (s &&& a = s ∨ ∃ z : Int, [[1, z]] ∈ l ∧ s &&& z.toNat = s) → s &&& l.foldl addTo a = s
  | [], a, s, h => by
    rcases h with h | ⟨z, hz, _⟩
    · exact h
    · simp at hz
  | x :: l, a, s, h => by
    refine addTo_in l (addTo a x) s ?_
    rcases h with h | ⟨z, hz, e⟩
    · rcases addTo_cases a x with q | ⟨z, rfl, q⟩
      · rw [q]; exact .inl h
      · rw [q]; exact .inl (in_lor_left h)
    · rw [List.mem_cons] at hz
      rcases hz with rfl | hz
      · exact .inl (in_trans e (in_lor_right a _))
      · exact .inr ⟨z, hz, e⟩
theorem natural_iff {z : Int} {k : Nat} : Rc52Neutral.natural z k = true ↔ 0 ≤ z ∧ z < 2 ^ k := by
  unfold Rc52Neutral.natural
  simp
theorem whole32_iff {z : Int} : Rc52Neutral.whole32 z = true ↔ -(2 ^ 31) ≤ z ∧ z < 2 ^ 31 := by
  unfold Rc52Neutral.whole32
  simp
theorem addTo_lt : ∀ (l : List (List (List Int))) (a : Nat), a < 2 ^ 64 → (∀ c ∈ l, Rc52Neutral.asked1 c = true) → l.foldl addTo a < 2 ^ 64
  | [], a, ha, _ => ha
  | x :: l, a, ha, h => by
    refine addTo_lt l _ ?_ fun c hc => h c (by simp [hc])
    rcases addTo_cases a x with q | ⟨z, rfl, q⟩
    · rw [q]; exact ha
    · have h1 : Rc52Neutral.natural z 64 = true := h [[1, z]] (by simp)
      rw [natural_iff] at h1
      rw [q]
      exact lor_lt ha (by omega)
/-- all that «asked» says of a line -/
theorem asked_line {ns : List Int} (h : PyRc52.answers_asked ns = true) : ∃ (cs : List (List (List Int))) (U : Nat), Reads ns cs ∧ PyRc52.answers ns = PyFlat.told (PyFlat.played Rc52Neutral.step Rc52Neutral.start cs) ∧ Fine U cs ∧ U < 2 ^ 64 ∧ size U ≤ 12 ∧ cs.length ≤ 600 ∧ cs ≠ [] := by
  unfold PyRc52.answers_asked at h
  unfold PyRc52.answers
  rw [calls_eq] at h ⊢
  cases e : PyFlat.calls PyRc52.shape ns.length ns with
  | none => rw [e] at h; simp at h
  | some cs =>
    rw [e] at h
    simp only [Rc52Neutral.asked, Bool.and_eq_true, List.all_eq_true, decide_eq_true_eq] at h
    obtain ⟨_, h1, h2, h3, _, _, _, h7⟩ := h
    refine ⟨cs, Rc52Neutral.things cs, reads_of _ _ _ e, rfl, ⟨h1, fun a ha => ?_⟩, ?_, h7, h3, ?_⟩
    · rw [line_things]
      exact addTo_in cs 0 _ (.inr ⟨a, ha, Nat.and_self _⟩)
    · rw [line_things]
      exact addTo_lt cs 0 (by decide) h1
    · intro q
      subst q
      simp at h2
/-! ### baskets -/
structure Held (U : Nat) (S : List Nat) : Prop where
  len : S.length ≤ 512
  sub : ∀ b ∈ S, b &&& U = b
theorem Held.nil {U : Nat} : Held U [] := ⟨by simp, fun b hb => by simp at hb⟩
theorem Held.snoc {U : Nat} {S : List Nat} {b : Nat} (h : Held U S) (hl : S.length < 512) (hb : b &&& U = b) : Held U (S ++ [b]) := ⟨by simp; omega, fun c hc => by
  rw [List.mem_append, List.mem_singleton] at hc
  rcases hc with hc | rfl
  · exact h.sub c hc
  · exact hb⟩
theorem Held.lt {U : Nat} {S : List Nat} (h : Held U S) (hU : U < 2 ^ 64) : ∀ b ∈ S, b < 2 ^ 64 := fun b hb => Nat.lt_of_le_of_lt (le_of_in (h.sub b hb)) hU
theorem Held.size {U : Nat} {S : List Nat} (h : Held U S) (hU : size U ≤ 12) : size (things S) ≤ 12 := Nat.le_trans (size_mono (things_sub h.sub)) hU
theorem len_12 {l : List Nat} {least kind : Nat} (hl : ∀ b ∈ l, b < 2 ^ 64) (h : size (things l) ≤ 12) : (setsOf l least kind).length ≤ 4096 :=
  Nat.le_trans (len_setsOf hl) (Nat.pow_le_pow_right (n := 2) (by decide) h)
/-! ### told -/
theorem told_cons (a : List Int) (l : List (List Int)) : PyFlat.told (a :: l) = (a.length : Int) :: a ++ PyFlat.told l := by
  unfold PyFlat.told
  rw [List.flatMap_cons]
theorem told_nil : PyFlat.told [] = [] := rfl
theorem played_cons (S : List Nat) (c : List (List Int)) (cs : List (List (List Int))) : PyFlat.played Rc52Neutral.step S (c :: cs) = (Rc52Neutral.step S c).2 :: PyFlat.played Rc52Neutral.step (Rc52Neutral.step S c).1 cs := rfl
end Dk
end
section
set_option linter.all false
namespace Dk
open Rc52
/-! ### sums of sets apart -/
theorem lor_rec (x y : Nat) : x ||| y = 2 * ((x / 2) ||| (y / 2)) + ((x % 2) ||| (y % 2)) := by
  have h1 : (x ||| y) / 2 = (x / 2) ||| (y / 2) := Nat.or_div_two
  have h2 : (x ||| y) % 2 = (x % 2) ||| (y % 2) := by
    have := Nat.or_mod_two_pow (a := x) (b := y) (n := 1)
    simpa using this
  have h3 : x ||| y = 2 * ((x ||| y) / 2) + (x ||| y) % 2 := by omega
  rw [h3, h1, h2]
theorem add_apart : ∀ (n a b : Nat), a < n → a &&& b = 0 → a + b = a ||| b
  | 0, a, b, h, _ => by omega
  | n + 1, a, b, h, e => by
    by_cases ha : a = 0
    · subst ha; simp
    · have e1 := land_rec a b
      rw [e] at e1
      have ha2 : a % 2 = 0 ∨ a % 2 = 1 := by omega
      have hb2 : b % 2 = 0 ∨ b % 2 = 1 := by omega
      have ih := add_apart n (a / 2) (b / 2) (by omega) (by omega)
      rw [lor_rec, ← ih]
      rcases ha2 with p | p <;> rcases hb2 with q | q <;> rw [p, q] at e1 ⊢
      · show _ = 2 * (a / 2 + b / 2) + 0; omega
      · show _ = 2 * (a / 2 + b / 2) + 1; omega
      · show _ = 2 * (a / 2 + b / 2) + 1; omega
      · omega
theorem add_lor {a b : Nat} (h : a &&& b = 0) : a + b = a ||| b := add_apart (a + 1) a b (by omega) h
theorem apart_iff {a b : Nat} : a &&& b = 0 ↔ ∀ i, ¬ (a.testBit i = true ∧ b.testBit i = true) := by
  constructor
  · intro h i ⟨p, q⟩
    have : (a &&& b).testBit i = true := by rw [Nat.testBit_and, p, q]; rfl
    rw [h, Nat.zero_testBit] at this
    cases this
  · intro h
    apply Nat.eq_of_testBit_eq
    intro i
    rw [Nat.testBit_and, Nat.zero_testBit]
    have := h i
    cases p : a.testBit i <;> cases q : b.testBit i <;> simp_all
/-- the rest of a set -/
theorem xor_apart {a s : Nat} : a &&& (s ^^^ a) = 0 ↔ a &&& s = a := by
  rw [apart_iff, in_iff]
  constructor
  · intro h i p
    have := h i
    rw [Nat.testBit_xor, p] at this
    cases q : s.testBit i <;> simp_all
  · intro h i ⟨p, q⟩
    rw [Nat.testBit_xor, h i p, p] at q
    simp at q
theorem sub_xor {a s : Nat} (h : a &&& s = a) : s - a = s ^^^ a := by
  have h1 := add_lor (xor_apart.mpr h)
  have h2 : a ||| (s ^^^ a) = s := by
    apply Nat.eq_of_testBit_eq
    intro i
    rw [Nat.testBit_or, Nat.testBit_xor]
    have := in_iff.mp h i
    cases p : a.testBit i <;> cases q : s.testBit i <;> simp_all
  omega
theorem xor_in {a s : Nat} (h : a &&& s = a) : (s ^^^ a) &&& s = s ^^^ a := by
  rw [in_iff] at *
  intro i p
  rw [Nat.testBit_xor] at p
  have := h i
  cases q : s.testBit i <;> cases r : a.testBit i <;> simp_all
theorem bit_apart {s i : Nat} (h : s.testBit i = false) : s &&& 2 ^ i = 0 := by
  rw [apart_iff]
  rintro j ⟨p, q⟩
  rw [Nat.testBit_two_pow] at q
  simp at q
  subst q
  rw [h] at p; cases p
theorem add_bit {s i : Nat} (h : s.testBit i = false) : s + 2 ^ i = s ||| 2 ^ i := add_lor (bit_apart h)
theorem in_bit {b i : Nat} : 2 ^ i &&& b = 2 ^ i ↔ b.testBit i = true := by
  rw [in_iff]
  constructor
  · intro h
    exact h i (by rw [Nat.testBit_two_pow]; simp)
  · intro h j q
    rw [Nat.testBit_two_pow] at q
    simp at q
    subst q
    exact h
theorem lor_in_iff {s t u : Nat} : (s ||| t) &&& u = s ||| t ↔ s &&& u = s ∧ t &&& u = t := by
  constructor
  · intro h
    rw [in_iff] at h
    constructor
    · rw [in_iff]; intro i p; exact h i (by rw [Nat.testBit_or, p]; rfl)
    · rw [in_iff]; intro i p; exact h i (by rw [Nat.testBit_or, p]; simp)
  · exact fun h => lor_in h.1 h.2
/-! ### support -/
theorem within_lor {s t b : Nat} : within (s ||| t) b = (within s b && within t b) := by
  rw [Bool.eq_iff_iff, Bool.and_eq_true, within_iff, within_iff, within_iff, lor_in_iff]
theorem filter_le {α : Type} {p q : α → Bool} : ∀ {l : List α}, (∀ x ∈ l, p x = true → q x = true) → (l.filter p).length ≤ (l.filter q).length
  | [], _ => by simp
  | x :: l, h => by
    have ih := filter_le (l := l) (p := p) (q := q) fun y hy => h y (by simp [hy])
    rw [List.filter_cons, List.filter_cons]
    have := h x (by simp)
    cases e : p x <;> cases f : q x <;> simp_all <;> omega
theorem filter_lt {α : Type} {p q : α → Bool} : ∀ {l : List α}, (∀ x ∈ l, p x = true → q x = true) → ((l.filter p).length < (l.filter q).length ↔ ∃ x ∈ l, q x = true ∧ p x = false)
  | [], _ => by simp
  | x :: l, h => by
    have ih := filter_lt (l := l) (p := p) (q := q) fun y hy => h y (by simp [hy])
    have le := filter_le (l := l) (p := p) (q := q) fun y hy => h y (by simp [hy])
    rw [List.filter_cons, List.filter_cons]
    have hx := h x (by simp)
    cases e : p x <;> cases f : q x
    · simp only [Bool.false_eq_true, if_false]
      rw [ih]
      simp [e, f]
    · simp only [Bool.false_eq_true, if_false, if_true, List.length_cons]
      constructor
      · intro _; exact ⟨x, by simp, f, e⟩
      · intro _; omega
    · rw [e] at hx; have := hx rfl; rw [f] at this; cases this
    · simp only [if_true, List.length_cons, Nat.add_lt_add_iff_right]
      rw [ih]
      simp [e, f]
theorem support_mono {l : List Nat} {s t : Nat} (h : s &&& t = s) : support l t ≤ support l s := by
  unfold support
  refine filter_le fun b _ p => ?_
  rw [within_iff] at *
  exact in_trans h p
/-- one thing more: less support, just if some basket has the set and not the thing -/
theorem support_bit {l : List Nat} {s i : Nat} (h : s.testBit i = false) : support l (s + 2 ^ i) < support l s ↔ ∃ b ∈ l, within s b = true ∧ b.testBit i = false := by
  rw [add_bit h]
  unfold support
  rw [filter_lt fun b _ p => by rw [within_lor, Bool.and_eq_true] at p; exact p.1]
  constructor
  · rintro ⟨b, hb, p, q⟩
    refine ⟨b, hb, p, ?_⟩
    rw [within_lor, p, Bool.true_and] at q
    cases e : b.testBit i with
    | false => rfl
    | true =>
      have := within_iff.mpr (in_bit.mpr e)
      rw [this] at q; cases q
  · rintro ⟨b, hb, p, q⟩
    refine ⟨b, hb, p, ?_⟩
    rw [within_lor, p, Bool.true_and]
    cases e : within (2 ^ i) b with
    | false => rfl
    | true =>
      have := in_bit.mp (within_iff.mp e)
      rw [this] at q; cases q
/-! ### closure -/
theorem foldl_land_bit : ∀ (l : List Nat) (a i : Nat), (l.foldl Nat.land a).testBit i = true ↔ a.testBit i = true ∧ ∀ b ∈ l, b.testBit i = true
  | [], a, i => by simp
  | x :: l, a, i => by
    show (l.foldl Nat.land (a &&& x)).testBit i = true ↔ _
    rw [foldl_land_bit l (a &&& x) i, Nat.testBit_and, Bool.and_eq_true]
    simp [and_assoc]
theorem closure_bit {l : List Nat} {s i : Nat} : (closure l s).testBit i = true ↔ i < 64 ∧ ∀ b ∈ l, within s b = true → b.testBit i = true := by
  unfold closure
  rw [foldl_land_bit, Nat.testBit_two_pow_sub_one]
  simp
theorem in_closure {l : List Nat} {s : Nat} (hs : s < 2 ^ 64) : s &&& closure l s = s := by
  rw [in_iff]
  intro i p
  rw [closure_bit]
  refine ⟨?_, fun b _ q => in_iff.mp (within_iff.mp q) i p⟩
  refine Nat.lt_of_not_le fun h => ?_
  rw [Nat.testBit_lt_two_pow (Nat.lt_of_lt_of_le hs (Nat.pow_le_pow_right (by decide) h))] at p
  cases p
theorem testBit_ge {s i : Nat} (hs : s < 2 ^ 64) (h : 64 ≤ i) : s.testBit i = false := Nat.testBit_lt_two_pow (Nat.lt_of_lt_of_le hs (Nat.pow_le_pow_right (by decide) h))
/-- closed: every thing more lowers the support -/
theorem closed_iff {l : List Nat} {s : Nat} (hs : s < 2 ^ 64) : closure l s = s ↔ ∀ i, i < 64 → s.testBit i = false → support l (s + 2 ^ i) < support l s := by
  constructor
  · intro h i hi p
    rw [support_bit p]
    have q : ¬ (closure l s).testBit i = true := by rw [h, p]; simp
    rw [closure_bit] at q
    refine Classical.byContradiction fun n => q ⟨hi, fun b hb hw => ?_⟩
    cases e : b.testBit i with
    | true => rfl
    | false => exact absurd ⟨b, hb, hw, e⟩ n
  · intro h
    apply Nat.eq_of_testBit_eq
    intro i
    rw [Bool.eq_iff_iff]
    constructor
    · intro q
      rw [closure_bit] at q
      cases p : s.testBit i with
      | true => rfl
      | false =>
        obtain ⟨b, hb, hw, e⟩ := (support_bit p).mp (h i q.1 p)
        rw [q.2 b hb hw] at e; cases e
    · exact fun p => in_iff.mp (in_closure hs) i p
/-- a thing that no basket has -/
theorem support_none {l : List Nat} {s i : Nat} (hi : (things l).testBit i = false) (hs : s.testBit i = true) : support l s = 0 := by
  refine Classical.byContradiction fun n => ?_
  obtain ⟨b, hb, e⟩ := support_pos (l := l) (s := s) (by omega)
  have := in_iff.mp (in_things hb e) i hs
  rw [hi] at this; cases this
theorem bit_in {s i : Nat} (h : s.testBit i = false) : (s + 2 ^ i).testBit i = true := by
  rw [add_bit h, Nat.testBit_or, Nat.testBit_two_pow]
  simp
/-! ### the kinds -/
theorem isOf0 {l : List Nat} {least s : Nat} : isOf l least 0 s = true ↔ 0 < s ∧ least ≤ support l s := by
  unfold isOf
  simp
theorem isOf1 {l : List Nat} {least s : Nat} : isOf l least 1 s = true ↔ 0 < s ∧ least ≤ support l s ∧ closure l s = s := by
  unfold isOf
  simp
theorem isOf1' {l : List Nat} {least s : Nat} (hs : s < 2 ^ 64) : isOf l least 1 s = true ↔ 0 < s ∧ least ≤ support l s ∧ ∀ i, i < 64 → s.testBit i = false → support l (s + 2 ^ i) < support l s := by
  rw [isOf1, closed_iff hs]
theorem isOf2 {l : List Nat} {least s : Nat} : isOf l least 2 s = true ↔ 0 < s ∧ least ≤ support l s ∧ ∀ i, i < 64 → s.testBit i = false → support l (s + 2 ^ i) < least := by
  unfold isOf
  simp only [Bool.and_eq_true, decide_eq_true_eq, List.all_eq_true, List.mem_range, Bool.or_eq_true]
  constructor
  · rintro ⟨h1, h2, _, h3⟩
    refine ⟨h1, h2, fun i hi p => ?_⟩
    rcases h3 with h3 | h3
    · simp at h3
    · have := h3 i hi
      rw [p] at this
      simpa using this
  · rintro ⟨h1, h2, h3⟩
    refine ⟨h1, h2, .inl (by decide), .inr fun i hi => ?_⟩
    cases p : s.testBit i with
    | true => exact .inl rfl
    | false => exact .inr (h3 i hi p)
end Dk
end
section
set_option linter.all false
namespace Dk
open Rc52
/-! ### rules -/
/-- the first sets of the rules of one set s -/
def firsts (l : List Nat) (num den s : Nat) : List Nat := (setsIn s).filter fun (a : Nat) => decide (0 < a) && (decide (a < s) && decide (num * support l a ≤ den * support l s))
theorem rulesOf_firsts (l : List Nat) (least num den : Nat) : rulesOf l least num den = (setsOf l least 0).flatMap fun s => (firsts l num den s).map fun a => (a, s - a) := rfl
theorem mem_firsts {l : List Nat} {num den s a : Nat} (hs : s < 2 ^ 64) : a ∈ firsts l num den s ↔ a &&& s = a ∧ 0 < a ∧ a < s ∧ num * support l a ≤ den * support l s := by
  unfold firsts
  rw [List.mem_filter, mem_setsIn hs]
  simp
theorem pair_firsts {l : List Nat} {num den s : Nat} (hs : s < 2 ^ 64) : (firsts l num den s).Pairwise (· < ·) := (pair_setsIn hs).filter _
theorem firsts_uniq {l m : List Nat} {num den s : Nat} (hs : s < 2 ^ 64) (hp : m.Pairwise (· < ·)) (he : ∀ a, a ∈ m ↔ a &&& s = a ∧ 0 < a ∧ a < s ∧ num * support l a ≤ den * support l s) : m = firsts l num den s :=
  uniq (fun a h => by omega) (fun a b h g => by omega) _ _ hp (pair_firsts hs) fun a => by rw [he, mem_firsts hs]
theorem len_rules (l : List Nat) (least num den : Nat) : (rulesOf l least num den).length = ((setsOf l least 0).map fun s => (firsts l num den s).length).sum := by
  rw [rulesOf_firsts, List.length_flatMap]
  congr 1
  apply List.map_congr_left
  intro s _
  rw [List.length_map]
/-- the order of rules is strict -/
theorem ruleBefore_iff {a b : Nat × Nat} : ruleBefore a b = true ↔ before (a.1 + a.2) (b.1 + b.2) = true ∨ (a.1 + a.2 = b.1 + b.2 ∧ a.1 < b.1) := by
  unfold ruleBefore
  simp
theorem ruleBefore_irr (a : Nat × Nat) : ¬ ruleBefore a a = true := by
  rw [ruleBefore_iff]
  rintro (h | h)
  · exact before_irr _ h
  · omega
theorem ruleBefore_asym {a b : Nat × Nat} (h : ruleBefore a b = true) : ¬ ruleBefore b a = true := by
  rw [ruleBefore_iff] at *
  rintro (g | g)
  · rcases h with h | h
    · exact before_asym h g
    · rw [h.1] at g; exact before_irr _ g
  · rcases h with h | h
    · rw [g.1] at h; exact before_irr _ h
    · omega
theorem setsOf_lt {l : List Nat} {least kind s : Nat} (hl : ∀ b ∈ l, b < 2 ^ 64) (h : s ∈ setsOf l least kind) : s < 2 ^ 64 :=
  Nat.lt_of_le_of_lt (le_of_in ((mem_setsOf hl).mp h).1) (things_lt hl)
theorem mem_rulesOf {l : List Nat} {least num den : Nat} {r : Nat × Nat} (hl : ∀ b ∈ l, b < 2 ^ 64) : r ∈ rulesOf l least num den ↔ ∃ s ∈ setsOf l least 0, r.1 &&& s = r.1 ∧ 0 < r.1 ∧ r.1 < s ∧ num * support l r.1 ≤ den * support l s ∧ r.2 = s - r.1 := by
  rw [rulesOf_firsts, List.mem_flatMap]
  constructor
  · rintro ⟨s, hs, h⟩
    rw [List.mem_map] at h
    obtain ⟨a, ha, rfl⟩ := h
    rw [mem_firsts (setsOf_lt hl hs)] at ha
    exact ⟨s, hs, ha.1, ha.2.1, ha.2.2.1, ha.2.2.2, rfl⟩
  · rintro ⟨s, hs, h1, h2, h3, h4, h5⟩
    refine ⟨s, hs, List.mem_map.mpr ⟨r.1, (mem_firsts (setsOf_lt hl hs)).mpr ⟨h1, h2, h3, h4⟩, ?_⟩⟩
    rw [← h5]
theorem pair_rulesOf {l : List Nat} {least num den : Nat} (hl : ∀ b ∈ l, b < 2 ^ 64) : (rulesOf l least num den).Pairwise fun a b => ruleBefore a b = true := by
  rw [rulesOf_firsts, List.pairwise_flatMap]
  have le_of : ∀ s a, a ∈ firsts l num den s → a ≤ s := fun s a h => by
    unfold firsts at h
    rw [List.mem_filter] at h
    simp at h
    omega
  refine ⟨fun s hs => ?_, (pair_setsOf hl).imp fun {s t} h x hx y hy => ?_⟩
  · rw [List.pairwise_map]
    refine (List.Pairwise.and_mem.mp (pair_firsts (setsOf_lt hl hs))).imp fun {a b} h => ?_
    rw [ruleBefore_iff]
    have h1 := le_of s a h.1
    have h2 := le_of s b h.2.1
    right
    dsimp only
    omega
  · rw [List.mem_map] at hx hy
    obtain ⟨a, ha, rfl⟩ := hx
    obtain ⟨b, hb, rfl⟩ := hy
    have h1 := le_of s a ha
    have h2 := le_of t b hb
    rw [ruleBefore_iff]
    left
    dsimp only
    have e1 : a + (s - a) = s := by omega
    have e2 : b + (t - b) = t := by omega
    rw [e1, e2]
    exact h
theorem rulesOf_uniq {l : List Nat} {m : List (Nat × Nat)} {least num den : Nat} (hl : ∀ b ∈ l, b < 2 ^ 64) (hp : m.Pairwise fun a b => ruleBefore a b = true)
    (he : ∀ r : Nat × Nat, r ∈ m ↔ ∃ s ∈ setsOf l least 0, r.1 &&& s = r.1 ∧ 0 < r.1 ∧ r.1 < s ∧ num * support l r.1 ≤ den * support l s ∧ r.2 = s - r.1) : m = rulesOf l least num den :=
  uniq ruleBefore_irr (fun _ _ h => ruleBefore_asym h) _ _ hp (pair_rulesOf hl) fun s => by rw [he, mem_rulesOf hl]
/-! ### what each call answers -/
theorem step0 (S : List Nat) : Rc52Neutral.step S [[0]] = ([], [0]) := rfl
theorem step1 (S : List Nat) (a : Int) : Rc52Neutral.step S [[1, a]] = if 512 ≤ S.length then (S, [-2]) else (S ++ [a.toNat], [(S.length : Int)]) := by
  show (((does S (.basket a.toNat)).1, (does S (.basket a.toNat)).2.value :: (does S (.basket a.toNat)).2.numbers.map fun (b : Nat) => (b : Int)) : List Nat × List Int) = _
  unfold does MOST
  dsimp only
  by_cases h : 512 ≤ S.length
  · rw [if_pos h, if_pos h]; rfl
  · rw [if_neg h, if_neg h]; rfl
theorem step2 (S : List Nat) (a : Int) : Rc52Neutral.step S [[2, a]] = (S, [(support S a.toNat : Int)]) := rfl
theorem step3 (S : List Nat) (a : Int) : Rc52Neutral.step S [[3, a]] = (S, [if closure S a.toNat = a.toNat then 1 else 0, (closure S a.toNat : Int)]) := by
  show ((S, (((closure S a.toNat == a.toNat).toNat : Nat) : Int) :: [(closure S a.toNat : Int)]) : List Nat × List Int) = _
  by_cases h : closure S a.toNat = a.toNat
  · rw [if_pos h, beq_iff_eq.mpr h]; rfl
  · rw [if_neg h, beq_eq_false_iff_ne.mpr h]; rfl
/-- an answer as its numbers -/
def flat (x : Ans) : List Int := x.value :: x.numbers.map fun (b : Nat) => (b : Int)
theorem step4 (S : List Nat) (m z : Int) : Rc52Neutral.step S [[4, m, z]] = (S, flat (kindsOf S m z fun x => { value := (x.length : Nat) })) := rfl
theorem step5 (S : List Nat) (m z k : Int) : Rc52Neutral.step S [[5, m, z, k]] = (S, flat (kindsOf S m z fun x => match pick x k with
    | some s => { value := (support S s : Nat), numbers := [s] }
    | none => refused)) := rfl
theorem step6 (S : List Nat) (m a b : Int) : Rc52Neutral.step S [[6, m, a, b]] = (S, flat (sharesOf S m a b fun x => { value := (x.length : Nat) })) := rfl
theorem step7 (S : List Nat) (m a b k : Int) : Rc52Neutral.step S [[7, m, a, b, k]] = (S, flat (sharesOf S m a b fun x => match pick x k with
    | some r => { value := (support S (r.1 + r.2) : Nat), numbers := [r.1, r.2, support S r.1] }
    | none => refused)) := rfl
/-- few sets: the -2 of the sets is never told -/
theorem kindsOf_few {l : List Nat} {m z : Int} {x : List Nat → Ans} (hl : ∀ b ∈ l, b < 2 ^ 64) (h : size (things l) ≤ 12) : kindsOf l m z x = if isLeast m z = false then refused else x (setsOf l m.toNat z.toNat) := by
  unfold kindsOf MANY
  have := len_12 (least := m.toNat) (kind := 0) hl h
  rw [if_neg (show ¬ 65536 < (setsOf l m.toNat 0).length by omega)]
theorem sharesOf_few {l : List Nat} {m a b : Int} {x : List (Nat × Nat) → Ans} (hl : ∀ b ∈ l, b < 2 ^ 64) (h : size (things l) ≤ 12) : sharesOf l m a b x = if isShare m a b = false then refused else
    if 65536 < (rulesOf l m.toNat a.toNat b.toNat).length then tooMany else x (rulesOf l m.toNat a.toNat b.toNat) := by
  unfold sharesOf MANY
  have := len_12 (least := m.toNat) (kind := 0) hl h
  rw [if_neg (show ¬ 65536 < (setsOf l m.toNat 0).length by omega)]
/-! ### one call more -/
theorem played_nil (S : List Nat) : PyFlat.played Rc52Neutral.step S [] = [] := rfl
/-- how many numbers stand behind a call's own -/
def Width (p : Int) (n : Nat) : Prop := (p = 0 ∧ n = 0) ∨ (p = 1 ∧ n = 1) ∨ (p = 2 ∧ n = 1) ∨ (p = 3 ∧ n = 1) ∨ (p = 4 ∧ n = 2) ∨ (p = 5 ∧ n = 3) ∨ (p = 6 ∧ n = 3) ∨ (p = 7 ∧ n = 4)
theorem Reads.next {l : List Int} {cs : List (List (List Int))} (h : Reads l cs) (hl : l ≠ []) : ∃ (p : Int) (args r : List Int) (cs' : List (List (List Int))), l = p :: (args ++ r) ∧ cs = [p :: args] :: cs' ∧ Reads r cs' ∧ Width p args.length := by
  cases h with
  | nil => exact absurd rfl hl
  | c0 h => exact ⟨0, [], _, _, rfl, rfl, h, by simp [Width]⟩
  | c1 a h => exact ⟨1, [a], _, _, rfl, rfl, h, by simp [Width]⟩
  | c2 a h => exact ⟨2, [a], _, _, rfl, rfl, h, by simp [Width]⟩
  | c3 a h => exact ⟨3, [a], _, _, rfl, rfl, h, by simp [Width]⟩
  | c4 a b h => exact ⟨4, [a, b], _, _, rfl, rfl, h, by simp [Width]⟩
  | c5 a b c h => exact ⟨5, [a, b, c], _, _, rfl, rfl, h, by simp [Width]⟩
  | c6 a b c h => exact ⟨6, [a, b, c], _, _, rfl, rfl, h, by simp [Width]⟩
  | c7 a b c d h => exact ⟨7, [a, b, c, d], _, _, rfl, rfl, h, by simp [Width]⟩
theorem Reads.nil_iff {l : List Int} {cs : List (List (List Int))} (h : Reads l cs) (hl : l = []) : cs = [] := by
  subst hl
  cases h
  rfl
theorem flat_kinds {S : List Nat} {m z : Int} {x : List Nat → Ans} (h : ∀ y, (flat (x y)).length ≤ 4) : (flat (kindsOf S m z x)).length ≤ 4 := by
  unfold kindsOf
  split
  · decide
  · split
    · decide
    · exact h _
theorem flat_shares {S : List Nat} {m a b : Int} {x : List (Nat × Nat) → Ans} (h : ∀ y, (flat (x y)).length ≤ 4) : (flat (sharesOf S m a b x)).length ≤ 4 := by
  unfold sharesOf
  split
  · decide
  · split
    · decide
    · dsimp only
      split
      · decide
      · exact h _
/-- no answer is longer than four numbers -/
theorem step_len {p : Int} {args : List Int} (S : List Nat) (hw : Width p args.length) : (Rc52Neutral.step S [p :: args]).2.length ≤ 4 := by
  rcases hw with ⟨rfl, hn⟩ | ⟨rfl, hn⟩ | ⟨rfl, hn⟩ | ⟨rfl, hn⟩ | ⟨rfl, hn⟩ | ⟨rfl, hn⟩ | ⟨rfl, hn⟩ | ⟨rfl, hn⟩
  · match args, hn with
    | [], _ => rw [step0]; decide
  · match args, hn with
    | [a], _ => rw [step1]; split <;> simp
  · match args, hn with
    | [a], _ => rw [step2]; simp
  · match args, hn with
    | [a], _ => rw [step3]; simp
  · match args, hn with
    | [a, b], _ => rw [step4]; exact flat_kinds fun y => by simp [flat]
  · match args, hn with
    | [a, b, c], _ =>
      rw [step5]
      refine flat_kinds fun y => ?_
      split
      · simp [flat]
      · decide
  · match args, hn with
    | [a, b, c], _ => rw [step6]; exact flat_shares fun y => by simp [flat]
  · match args, hn with
    | [a, b, c, d], _ =>
      rw [step7]
      refine flat_shares fun y => ?_
      split
      · simp [flat]
      · decide
/-- baskets behind a call -/
theorem step_held {U : Nat} {S : List Nat} {p : Int} {args : List Int} {cs : List (List (List Int))} (hw : Width p args.length) (hS : Held U S) (hF : Fine U ([p :: args] :: cs)) : Held U (Rc52Neutral.step S [p :: args]).1 := by
  rcases hw with ⟨rfl, hn⟩ | ⟨rfl, hn⟩ | ⟨rfl, hn⟩ | ⟨rfl, hn⟩ | ⟨rfl, hn⟩ | ⟨rfl, hn⟩ | ⟨rfl, hn⟩ | ⟨rfl, hn⟩
  · match args, hn with
    | [], _ => exact .nil
  · match args, hn, hF with
    | [a], _, hF =>
      rw [step1]
      split
      · exact hS
      · exact hS.snoc (by omega) (hF.bask a (by simp))
  · match args, hn with
    | [a], _ => exact hS
  · match args, hn with
    | [a], _ => exact hS
  · match args, hn with
    | [a, b], _ => exact hS
  · match args, hn with
    | [a, b, c], _ => exact hS
  · match args, hn with
    | [a, b, c], _ => exact hS
  · match args, hn with
    | [a, b, c, d], _ => exact hS
end Dk
end
section
set_option linter.all false
namespace Dk
open Rc52
/-! ### different baskets, and how often each is there -/
def uniqs (l : List Nat) : List Nat := l.foldl (fun acc b => if b ∈ acc then acc else acc ++ [b]) []
theorem uniqs_snoc (l : List Nat) (b : Nat) : uniqs (l ++ [b]) = if b ∈ uniqs l then uniqs l else uniqs l ++ [b] := by
  unfold uniqs
  rw [List.foldl_append]
  rfl
theorem snoc_ind {α : Type} {P : List α → Prop} (h0 : P []) (h1 : ∀ l a, P l → P (l ++ [a])) : ∀ l, P l := by
  intro l
  have key : ∀ r : List α, P r.reverse := by
    intro r
    induction r with
    | nil => exact h0
    | cons a r ih => rw [List.reverse_cons]; exact h1 _ _ ih
  have := key l.reverse
  rwa [List.reverse_reverse] at this
theorem mem_uniqs {b : Nat} : ∀ l : List Nat, b ∈ uniqs l ↔ b ∈ l := by
  refine snoc_ind (by simp [uniqs]) fun l a ih => ?_
  rw [uniqs_snoc]
  split
  · rename_i h
    rw [ih, List.mem_append, List.mem_singleton]
    constructor
    · exact .inl
    · rintro (q | rfl)
      · exact q
      · rw [← ih]; exact h
  · rw [List.mem_append, List.mem_append, ih]
theorem nodup_uniqs : ∀ l : List Nat, (uniqs l).Nodup := by
  refine snoc_ind (by simp [uniqs]) fun l a ih => ?_
  rw [uniqs_snoc]
  split
  · exact ih
  · rename_i h
    rw [List.nodup_append]
    refine ⟨ih, by simp, fun x hx y hy => ?_⟩
    rw [List.mem_singleton] at hy
    subst hy
    intro q
    subst q
    exact h hx
theorem len_uniqs : ∀ l : List Nat, (uniqs l).length ≤ l.length := by
  refine snoc_ind (by simp [uniqs]) fun l a ih => ?_
  rw [uniqs_snoc]
  split
  · rw [List.length_append]; omega
  · rw [List.length_append, List.length_append]; simp; omega
theorem sum_one (a : Nat) : ∀ D : List Nat, D.Nodup → (D.map fun d => if a = d then (1 : Int) else 0).sum = if a ∈ D then 1 else 0
  | [], _ => by simp
  | d :: D, h => by
    rw [List.nodup_cons] at h
    rw [List.map_cons, List.sum_cons, sum_one a D h.2]
    by_cases e : a = d
    · subst e; simp [h.1]
    · simp [e]
theorem sum_add (f g : Nat → Int) : ∀ D : List Nat, (D.map fun d => f d + g d).sum = (D.map f).sum + (D.map g).sum
  | [] => by simp
  | d :: D => by
    rw [List.map_cons, List.sum_cons, sum_add f g D, List.map_cons, List.sum_cons, List.map_cons, List.sum_cons]; omega
theorem sum_count {D : List Nat} (hD : D.Nodup) (p : Nat → Bool) : ∀ l : List Nat, (∀ b ∈ l, b ∈ D) → ((D.filter p).map fun d => ((l.count d : Nat) : Int)).sum = ((l.filter p).length : Nat)
  | [], _ => by
    have : ∀ E : List Nat, (E.map fun d => ((([] : List Nat).count d : Nat) : Int)).sum = 0 := by
      intro E
      induction E with
      | nil => rfl
      | cons e E ih => rw [List.map_cons, List.sum_cons, ih]; simp
    rw [this]; simp
  | a :: l, h => by
    have ih := sum_count hD p l fun b hb => h b (by simp [hb])
    have e : ((D.filter p).map fun d => (((a :: l).count d : Nat) : Int)) = (D.filter p).map fun d => ((l.count d : Nat) : Int) + if a = d then (1 : Int) else 0 := by
      refine List.map_congr_left fun d _ => ?_
      rw [List.count_cons]
      by_cases q : a = d
      · subst q; simp
      · simp [q]
    rw [e, sum_add, ih, sum_one a _ (hD.filter p), List.filter_cons]
    have ha : a ∈ D := h a (by simp)
    cases q : p a
    · rw [if_neg (by simp [q])]; simp
    · rw [if_pos (List.mem_filter.mpr ⟨ha, q⟩)]; simp
theorem sum_support (S : List Nat) (s : Nat) : (((uniqs S).filter fun b => within s b).map fun b => ((S.count b : Nat) : Int)).sum = (support S s : Nat) :=
  sum_count (nodup_uniqs S) _ S fun b hb => (mem_uniqs S).mpr hb
theorem within_bit {s i b : Nat} : within (s ||| 2 ^ i) b = (within s b && b.testBit i) := by
  rw [within_lor]
  congr 1
  rw [Bool.eq_iff_iff, within_iff, in_bit]
theorem and_bit {b i : Nat} : b &&& 2 ^ i = 0 ↔ b.testBit i = false := by
  constructor
  · intro h
    cases e : b.testBit i with
    | false => rfl
    | true =>
      have := in_bit.mpr e
      rw [Nat.and_comm, h] at this
      have := Nat.two_pow_pos i
      omega
  · exact bit_apart
theorem filter_bit (l : List Nat) (s i : Nat) : (l.filter fun b => within s b).filter (fun b => b.testBit i) = l.filter fun b => within (s ||| 2 ^ i) b := by
  rw [List.filter_filter]
  congr 1
  funext b
  rw [within_bit, Bool.and_comm]
/-! ### the sets, thing by thing -/
def ext (S : List Nat) (m : Nat) (L : List Nat) (i : Nat) : List Nat := L ++ (L.filter fun s => decide (m ≤ support S (s ||| 2 ^ i))).map fun s => s ||| 2 ^ i
def grown (S : List Nat) (m : Nat) (is : List Nat) : List Nat := is.foldl (ext S m) [0]
theorem grown_snoc (S : List Nat) (m : Nat) (is : List Nat) (i : Nat) : grown S m (is ++ [i]) = ext S m (grown S m is) i := by
  unfold grown
  rw [List.foldl_append]
  rfl
structure Grown (S : List Nat) (m : Nat) (is L : List Nat) : Prop where
  nd : L.Nodup
  mem : ∀ s, s ∈ L ↔ (∀ i, s.testBit i = true → i ∈ is) ∧ (s = 0 ∨ m ≤ support S s)
  hd : L = 0 :: L.tail
  len : L.length ≤ 2 ^ is.length
theorem Grown.nil (S : List Nat) (m : Nat) : Grown S m [] [0] := by
  refine ⟨by simp, fun s => ?_, rfl, by simp⟩
  rw [List.mem_singleton]
  constructor
  · rintro rfl; simp
  · rintro ⟨h, _⟩
    refine Nat.eq_of_testBit_eq fun i => ?_
    rw [Nat.zero_testBit]
    cases e : s.testBit i with
    | false => rfl
    | true => have := h i e; simp at this
theorem lor_bit (s i j : Nat) : (s ||| 2 ^ i).testBit j = (s.testBit j || decide (i = j)) := by
  rw [Nat.testBit_or, Nat.testBit_two_pow]
theorem lor_inj {s t i : Nat} (hs : s.testBit i = false) (ht : t.testBit i = false) (h : s ||| 2 ^ i = t ||| 2 ^ i) : s = t := by
  refine Nat.eq_of_testBit_eq fun j => ?_
  have := congrArg (fun x => x.testBit j) h
  simp only [lor_bit] at this
  by_cases e : i = j
  · subst e; rw [hs, ht]
  · simpa [e] using this
theorem Grown.no {S : List Nat} {m : Nat} {is L : List Nat} (h : Grown S m is L) {i s : Nat} (hi : i ∉ is) (hs : s ∈ L) : s.testBit i = false := by
  cases e : s.testBit i with
  | false => rfl
  | true => exact absurd (((h.mem s).mp hs).1 i e) hi
/-- what a set with the thing i is, without it -/
theorem drop_bit {s i : Nat} (h : s.testBit i = true) : ∃ t, t.testBit i = false ∧ t ||| 2 ^ i = s ∧ t &&& s = t := by
  refine ⟨s ^^^ 2 ^ i, ?_, ?_, ?_⟩
  · rw [Nat.testBit_xor, Nat.testBit_two_pow, h]; simp
  · refine Nat.eq_of_testBit_eq fun j => ?_
    rw [lor_bit, Nat.testBit_xor, Nat.testBit_two_pow]
    by_cases e : i = j
    · subst e; simp [h]
    · simp [e]
  · rw [in_iff]
    intro j
    rw [Nat.testBit_xor, Nat.testBit_two_pow]
    by_cases e : i = j
    · subst e; simp [h]
    · simp [e]
theorem Grown.snoc {S : List Nat} {m : Nat} {is L : List Nat} (h : Grown S m is L) {i : Nat} (hi : i ∉ is) : Grown S m (is ++ [i]) (ext S m L i) := by
  unfold ext
  refine ⟨?_, fun s => ?_, ?_, ?_⟩
  · rw [List.nodup_append]
    refine ⟨h.nd, ?_, fun x hx y hy => ?_⟩
    · refine List.Pairwise.map _ (R := fun a b => a ∈ L ∧ b ∈ L ∧ a ≠ b) (fun a b q e => q.2.2 (lor_inj (h.no hi q.1) (h.no hi q.2.1) e)) ?_
      have p : (L.filter fun s => decide (m ≤ support S (s ||| 2 ^ i))).Pairwise fun a b => a ≠ b := (h.nd).filter _
      exact p.imp_of_mem fun ha hb q => ⟨(List.mem_filter.mp ha).1, (List.mem_filter.mp hb).1, q⟩
    · obtain ⟨t, ht, rfl⟩ := List.mem_map.mp hy
      intro q
      have := h.no hi hx
      rw [q, lor_bit] at this
      simp at this
  · rw [List.mem_append, List.mem_map]
    constructor
    · rintro (q | ⟨t, ht, rfl⟩)
      · obtain ⟨a, b⟩ := (h.mem s).mp q
        exact ⟨fun j hj => List.mem_append_left _ (a j hj), b⟩
      · obtain ⟨ht, hc⟩ := List.mem_filter.mp ht
        obtain ⟨a, b⟩ := (h.mem t).mp ht
        refine ⟨fun j hj => ?_, .inr (of_decide_eq_true hc)⟩
        rw [lor_bit] at hj
        rw [List.mem_append, List.mem_singleton]
        rw [Bool.or_eq_true] at hj
        rcases hj with hj | hj
        · exact .inl (a j hj)
        · exact .inr (of_decide_eq_true hj).symm
    · rintro ⟨a, b⟩
      cases e : s.testBit i with
      | false =>
        refine .inl ((h.mem s).mpr ⟨fun j hj => ?_, b⟩)
        have := a j hj
        rw [List.mem_append, List.mem_singleton] at this
        rcases this with q | rfl
        · exact q
        · rw [e] at hj; cases hj
      | true =>
        obtain ⟨t, h1, rfl, h3⟩ := drop_bit e
        have hne : ¬ (t ||| 2 ^ i) = 0 := by
          intro q; rw [q, Nat.zero_testBit] at e; cases e
        have hm : m ≤ support S (t ||| 2 ^ i) := by
          rcases b with b | b
          · exact absurd b hne
          · exact b
        refine .inr ⟨t, List.mem_filter.mpr ⟨(h.mem t).mpr ⟨fun j hj => ?_, ?_⟩, decide_eq_true hm⟩, rfl⟩
        · have := a j (by rw [lor_bit, hj]; rfl)
          rw [List.mem_append, List.mem_singleton] at this
          rcases this with q | rfl
          · exact q
          · rw [h1] at hj; cases hj
        · exact .inr (Nat.le_trans hm (support_mono h3))
  · obtain hL := h.hd
    rw [hL]
    rfl
  · rw [List.length_append, List.length_map, List.length_append]
    have h1 := h.len
    have h2 := List.length_filter_le (fun s => decide (m ≤ support S (s ||| 2 ^ i))) L
    rw [List.length_singleton, Nat.pow_succ]
    omega
theorem grown_ok (S : List Nat) (m : Nat) : ∀ is : List Nat, is.Nodup → Grown S m is (grown S m is) := by
  refine snoc_ind (fun _ => Grown.nil S m) fun is i ih h => ?_
  rw [List.nodup_append] at h
  rw [grown_snoc]
  exact (ih h.1).snoc fun q => h.2.2 i q i (by simp) rfl
/-! ### the things that are often enough -/
def bigs (S : List Nat) (m : Nat) : List Nat := (List.range 64).filter fun i => decide (m ≤ support S (2 ^ i))
theorem nodup_bigs (S : List Nat) (m : Nat) : (bigs S m).Nodup := (List.nodup_range (n := 64)).filter _
theorem mem_bigs {S : List Nat} {m i : Nat} : i ∈ bigs S m ↔ i < 64 ∧ m ≤ support S (2 ^ i) := by
  unfold bigs
  rw [List.mem_filter, List.mem_range, decide_eq_true_eq]
theorem len_bigs {U : Nat} {S : List Nat} {m : Nat} (h : Held U S) (hU : size U ≤ 12) (hm : 1 ≤ m) : (bigs S m).length ≤ 12 := by
  refine Nat.le_trans (filter_le fun i hi p => ?_) hU
  obtain ⟨b, hb, e⟩ := support_pos (l := S) (s := 2 ^ i) (Nat.le_trans hm (of_decide_eq_true p))
  exact in_iff.mp (h.sub b hb) i (in_bit.mp e)
/-- all sets that are often enough, in the order in which they are found -/
def often (S : List Nat) (m : Nat) : List Nat := (grown S m (bigs S m)).tail
theorem len_grown {U : Nat} {S : List Nat} {m : Nat} (h : Held U S) (hU : size U ≤ 12) (hm : 1 ≤ m) {is : List Nat} (hn : is.Nodup) (hi : is.length ≤ (bigs S m).length) : (grown S m is).length ≤ 4096 := by
  have h1 := (grown_ok S m is hn).len
  have h2 := len_bigs h hU hm
  have h3 : 2 ^ is.length ≤ 2 ^ 12 := Nat.pow_le_pow_right (by decide) (by omega)
  have h4 : 2 ^ 12 = 4096 := by decide
  omega
theorem tail_mem {S : List Nat} {m : Nat} {is L : List Nat} (h : Grown S m is L) {s : Nat} : s ∈ L.tail ↔ s ∈ L ∧ s ≠ 0 := by
  have nd := h.nd
  have hd := h.hd
  rw [hd] at nd
  rw [List.nodup_cons] at nd
  rw [hd]
  simp only [List.tail_cons, List.mem_cons]
  constructor
  · intro q
    refine ⟨.inr q, ?_⟩
    rintro rfl
    exact nd.1 q
  · rintro ⟨q | q, n⟩
    · exact absurd q n
    · exact q
theorem nodup_often (S : List Nat) (m : Nat) : (often S m).Nodup := by
  have h := grown_ok S m _ (nodup_bigs S m)
  have nd := h.nd
  rw [h.hd] at nd
  exact (List.nodup_cons.mp nd).2
theorem support_lt {S : List Nat} {s : Nat} (hS : ∀ b ∈ S, b < 2 ^ 64) (h : 1 ≤ support S s) : s < 2 ^ 64 := by
  obtain ⟨b, hb, e⟩ := support_pos h
  exact Nat.lt_of_le_of_lt (le_of_in e) (hS b hb)
theorem mem_often {S : List Nat} {m s : Nat} (hS : ∀ b ∈ S, b < 2 ^ 64) (hm : 1 ≤ m) : s ∈ often S m ↔ 0 < s ∧ m ≤ support S s := by
  have h := grown_ok S m _ (nodup_bigs S m)
  unfold often
  rw [tail_mem h, h.mem]
  constructor
  · rintro ⟨⟨_, b⟩, n⟩
    rcases b with b | b
    · exact absurd b n
    · exact ⟨Nat.pos_of_ne_zero n, b⟩
  · rintro ⟨p, q⟩
    refine ⟨⟨fun i hi => ?_, .inr q⟩, by omega⟩
    have hs := support_lt hS (Nat.le_trans hm q)
    rw [mem_bigs]
    refine ⟨?_, Nat.le_trans q (support_mono (in_bit.mpr hi))⟩
    refine Classical.byContradiction fun c => ?_
    rw [testBit_ge hs (by omega)] at hi
    cases hi
theorem mem_often' {S : List Nat} {m s : Nat} (hS : ∀ b ∈ S, b < 2 ^ 64) (hm : 1 ≤ m) : s ∈ often S m ↔ isOf S m 0 s = true := by
  rw [mem_often hS hm, isOf0]
theorem len_often {U : Nat} {S : List Nat} {m : Nat} (h : Held U S) (hU : size U ≤ 12) (hm : 1 ≤ m) : (often S m).length ≤ 4096 := by
  unfold often
  rw [List.length_tail]
  have := len_grown h hU hm (nodup_bigs S m) (Nat.le_refl _)
  omega
end Dk
end
section
set_option linter.all false
namespace Dk
open Rc52
/-! ### how many things -/
theorem pop_low : ∀ (n r : Nat), 0 < r → r < 2 ^ n → pop n (r &&& (r - 1)) + 1 = pop n r
  | 0, r, h0, h => by simp at h; omega
  | n + 1, r, h0, h => by
    obtain ⟨y, d, hd, rfl⟩ := bit_cases r
    rw [Nat.pow_succ] at h
    rcases hd with rfl | rfl
    · have hy : 0 < y := by omega
      have e : 2 * y + 0 - 1 = 2 * (y - 1) + 1 := by omega
      have e0 : 2 * y + 0 = 2 * y := rfl
      rw [e, e0, land_eo]
      have a1 : 2 * (y &&& (y - 1)) % 2 = 0 := by omega
      have a2 : 2 * (y &&& (y - 1)) / 2 = y &&& (y - 1) := by omega
      have a3 : 2 * y % 2 = 0 := by omega
      have a4 : 2 * y / 2 = y := by omega
      rw [pop, pop, a1, a2, a3, a4]
      have := pop_low n y hy (by omega)
      omega
    · have e : 2 * y + 1 - 1 = 2 * y := by omega
      rw [e, land_oe, Nat.and_self]
      have a1 : 2 * y % 2 = 0 := by omega
      have a2 : 2 * y / 2 = y := by omega
      have a3 : (2 * y + 1) % 2 = 1 := by omega
      have a4 : (2 * y + 1) / 2 = y := by omega
      rw [pop, pop, a1, a2, a3, a4]
      omega
theorem size_low {r : Nat} (h0 : 0 < r) (h : r < 2 ^ 64) : size (r &&& (r - 1)) + 1 = size r := by
  rw [size_pop, size_pop]
  exact pop_low 64 r h0 h
theorem size_zero : size 0 = 0 := by decide +kernel
theorem low_lt {r : Nat} (h0 : 0 < r) : r &&& (r - 1) < r := Nat.lt_of_le_of_lt Nat.and_le_right (by omega)
theorem size_bit {i : Nat} (h : i < 64) : size (2 ^ i) = 1 := by
  have e : 2 ^ i &&& (2 ^ i - 1) = 0 := by
    rw [Nat.and_two_pow_sub_one_eq_mod]
    exact Nat.mod_self _
  have := size_low (r := 2 ^ i) (Nat.two_pow_pos i) (Nat.pow_lt_pow_right (by decide) h)
  rw [e, size_zero] at this
  omega
theorem size_pos {r : Nat} (h0 : 0 < r) (h : r < 2 ^ 64) : 0 < size r := by have := size_low h0 h; omega
theorem size_none {r : Nat} (h : r < 2 ^ 64) (e : size r = 0) : r = 0 := by
  rcases Nat.eq_zero_or_pos r with q | q
  · exact q
  · have := size_pos q h; omega
/-- a set of one thing -/
theorem one_thing {r : Nat} (h : r < 2 ^ 64) (e : size r = 1) : ∃ i, i < 64 ∧ r = 2 ^ i := by
  have h0 : 0 < r := by
    rcases Nat.eq_zero_or_pos r with q | q
    · subst q; rw [size_zero] at e; omega
    · exact q
  have hne : r ≠ 0 := by omega
  obtain ⟨i, hi⟩ := Nat.exists_testBit_of_ne_zero hne
  have hi64 : i < 64 := by
    refine Classical.byContradiction fun c => ?_
    rw [testBit_ge h (by omega)] at hi
    cases hi
  refine ⟨i, hi64, ?_⟩
  have hin : 2 ^ i &&& r = 2 ^ i := in_bit.mpr hi
  refine Classical.byContradiction fun c => ?_
  obtain ⟨t, h1, h2, h3⟩ := drop_bit hi
  have ht : t ≠ 0 := by
    intro q
    subst q
    rw [Nat.zero_or] at h2
    exact c h2.symm
  obtain ⟨j, hj⟩ := Nat.exists_testBit_of_ne_zero ht
  have hjr : r.testBit j = true := in_iff.mp h3 j hj
  have hij : i ≠ j := by rintro rfl; rw [h1] at hj; cases hj
  have hj64 : j < 64 := by
    refine Classical.byContradiction fun c => ?_
    rw [testBit_ge h (by omega)] at hjr
    cases hjr
  have sub : ∀ x ∈ [i, j], x ∈ (List.range 64).filter fun i => r.testBit i := by
    intro x hx
    rw [List.mem_filter, List.mem_range]
    rcases List.mem_cons.mp hx with e1 | hx
    · subst e1
      exact ⟨hi64, hi⟩
    · rw [List.mem_singleton] at hx
      subst hx
      exact ⟨hj64, hjr⟩
  have := List.Nodup.length_le_of_subset (show [i, j].Nodup by simp [hij]) sub
  have e' : ((List.range 64).filter fun i => r.testBit i).length = 1 := e
  rw [e'] at this
  simp at this
/-! ### one thing more -/
def val (S : List Nat) (m s : Nat) : Nat := if m ≤ support S s then support S s else 0
def most (S : List Nat) (m : Nat) (sg : List Nat) (s : Nat) : Nat := sg.foldl (fun a t => if s &&& t = 0 then max a (val S m (s ||| t)) else a) 0
theorem most_snoc (S : List Nat) (m : Nat) (sg : List Nat) (t s : Nat) : most S m (sg ++ [t]) s = if s &&& t = 0 then max (most S m sg s) (val S m (s ||| t)) else most S m sg s := by
  unfold most
  rw [List.foldl_append]
  rfl
theorem most_lt {S : List Nat} {m s c : Nat} : ∀ sg : List Nat, most S m sg s < c ↔ 0 < c ∧ ∀ t ∈ sg, s &&& t = 0 → val S m (s ||| t) < c := by
  refine snoc_ind (by simp [most]) fun sg t ih => ?_
  rw [most_snoc]
  have h1 : (∀ x ∈ sg ++ [t], s &&& x = 0 → val S m (s ||| x) < c) ↔ (∀ x ∈ sg, s &&& x = 0 → val S m (s ||| x) < c) ∧ (s &&& t = 0 → val S m (s ||| t) < c) := by
    constructor
    · intro h; exact ⟨fun x hx => h x (by simp [hx]), h t (by simp)⟩
    · rintro ⟨a, b⟩ x hx
      rcases List.mem_append.mp hx with q | q
      · exact a x q
      · rw [List.mem_singleton] at q; subst q; exact b
  rw [h1]
  by_cases e : s &&& t = 0
  · rw [if_pos e, Nat.max_lt, ih]
    constructor
    · rintro ⟨⟨a, b⟩, d⟩; exact ⟨a, b, fun _ => d⟩
    · rintro ⟨a, b, d⟩; exact ⟨⟨a, b⟩, d e⟩
  · rw [if_neg e, ih]
    constructor
    · rintro ⟨a, b⟩; exact ⟨a, b, fun q => absurd q e⟩
    · rintro ⟨a, b, d⟩; exact ⟨a, b⟩
def singles (S : List Nat) (m : Nat) : List Nat := (often S m).filter fun s => size s == 1
theorem mem_singles {S : List Nat} {m t : Nat} (hS : ∀ b ∈ S, b < 2 ^ 64) (hm : 1 ≤ m) : t ∈ singles S m ↔ ∃ i, i < 64 ∧ t = 2 ^ i ∧ m ≤ support S (2 ^ i) := by
  unfold singles
  rw [List.mem_filter, mem_often hS hm, beq_iff_eq]
  constructor
  · rintro ⟨⟨h0, h1⟩, h2⟩
    obtain ⟨i, hi, rfl⟩ := one_thing (support_lt hS (Nat.le_trans hm h1)) h2
    exact ⟨i, hi, rfl, h1⟩
  · rintro ⟨i, hi, rfl, h⟩
    exact ⟨⟨Nat.two_pow_pos i, h⟩, size_bit hi⟩
theorem most_ok {S : List Nat} {m s c : Nat} (hS : ∀ b ∈ S, b < 2 ^ 64) (hm : 1 ≤ m) (hc : m ≤ c) : most S m (singles S m) s < c ↔ ∀ i, i < 64 → s.testBit i = false → support S (s + 2 ^ i) < c := by
  rw [most_lt]
  have hv : ∀ x, val S m x < c ↔ support S x < c := by
    intro x
    unfold val
    split
    · rfl
    · omega
  constructor
  · rintro ⟨_, h⟩ i hi p
    rw [add_bit p]
    by_cases q : m ≤ support S (2 ^ i)
    · exact (hv _).mp (h _ ((mem_singles hS hm).mpr ⟨i, hi, rfl, q⟩) (bit_apart p))
    · have := support_mono (l := S) (s := 2 ^ i) (t := s ||| 2 ^ i) (in_lor_right s (2 ^ i))
      omega
  · intro h
    refine ⟨by omega, fun t ht p => ?_⟩
    obtain ⟨i, hi, rfl, _⟩ := (mem_singles hS hm).mp ht
    have p' := and_bit.mp p
    rw [hv, ← add_bit p']
    exact h i hi p'
/-- the sets of a kind, as they are found -/
def ofKind (S : List Nat) (m z : Nat) : List Nat := if z = 1 then (often S m).filter fun s => decide (most S m (singles S m) s < support S s)
  else if z = 2 then (often S m).filter fun s => decide (most S m (singles S m) s < m) else often S m
theorem mem_ofKind {S : List Nat} {m z s : Nat} (hS : ∀ b ∈ S, b < 2 ^ 64) (hm : 1 ≤ m) (hz : z ≤ 2) : s ∈ ofKind S m z ↔ isOf S m z s = true := by
  unfold ofKind
  have hz' : z = 0 ∨ z = 1 ∨ z = 2 := by omega
  rcases hz' with rfl | rfl | rfl
  · rw [if_neg (by decide), if_neg (by decide), mem_often' hS hm]
  · rw [if_pos rfl, List.mem_filter, mem_often hS hm, decide_eq_true_eq]
    constructor
    · rintro ⟨⟨a, b⟩, d⟩
      rw [isOf1' (support_lt hS (Nat.le_trans hm b))]
      exact ⟨a, b, (most_ok hS hm b).mp d⟩
    · intro h
      obtain ⟨a, b, _⟩ := isOf1.mp h
      rw [isOf1' (support_lt hS (Nat.le_trans hm b))] at h
      exact ⟨⟨a, b⟩, (most_ok hS hm b).mpr h.2.2⟩
  · rw [if_neg (by decide), if_pos rfl, List.mem_filter, mem_often hS hm, decide_eq_true_eq, isOf2, most_ok hS hm (Nat.le_refl m)]
    constructor
    · rintro ⟨⟨a, b⟩, d⟩; exact ⟨a, b, d⟩
    · rintro ⟨a, b, d⟩; exact ⟨⟨a, b⟩, d⟩
theorem nodup_ofKind (S : List Nat) (m z : Nat) : (ofKind S m z).Nodup := by
  unfold ofKind
  split
  · exact (nodup_often S m).filter _
  · split
    · exact (nodup_often S m).filter _
    · exact nodup_often S m
theorem ofKind_le (S : List Nat) (m z : Nat) : (ofKind S m z).length ≤ (often S m).length := by
  unfold ofKind
  split
  · exact List.length_filter_le _ _
  · split
    · exact List.length_filter_le _ _
    · exact Nat.le_refl _
theorem ofKind_sub {S : List Nat} {m z s : Nat} (h : s ∈ ofKind S m z) : s ∈ often S m := by
  unfold ofKind at h
  split at h
  · exact (List.mem_filter.mp h).1
  · split at h
    · exact (List.mem_filter.mp h).1
    · exact h
theorem nodup_setsOf {S : List Nat} {m z : Nat} (hS : ∀ b ∈ S, b < 2 ^ 64) : (setsOf S m z).Nodup :=
  (pair_setsOf hS).imp fun h e => by subst e; exact before_irr _ h
theorem perm_ofKind {S : List Nat} {m z : Nat} (hS : ∀ b ∈ S, b < 2 ^ 64) (hm : 1 ≤ m) (hz : z ≤ 2) : (ofKind S m z).Perm (setsOf S m z) :=
  (List.perm_ext_iff_of_nodup (nodup_ofKind S m z) (nodup_setsOf hS)).mpr fun s => by rw [mem_ofKind hS hm hz, mem_setsOf' hS hm]
/-- in order -/
theorem order_ofKind {S : List Nat} {m z : Nat} {l : List Nat} (hS : ∀ b ∈ S, b < 2 ^ 64) (hm : 1 ≤ m) (hz : z ≤ 2) (hp : l.Perm (ofKind S m z)) (ho : l.Pairwise fun a b => ¬ before b a = true) : l = setsOf S m z := by
  refine setsOf_uniq hS hm ?_ fun s => by rw [hp.mem_iff, mem_ofKind hS hm hz]
  have nd : l.Nodup := hp.nodup_iff.mpr (nodup_ofKind S m z)
  exact (ho.and nd).imp fun ⟨a, b⟩ => by
    rcases before_total b with q | q
    · exact q
    · exact absurd q a
end Dk
end
section
set_option linter.all false
namespace Dk
open Rc52
/-! ### parts of a set, from the greatest number down -/
theorem next_down : ∀ (n x t u : Nat), t < n → x &&& u = x → t &&& u = t → x < t → x ≤ (t - 1) &&& u
  | 0, x, t, u, h, _, _, _ => by omega
  | n + 1, x, t, u, h, hx, ht, hlt => by
    obtain ⟨a, d, hd, rfl⟩ := bit_cases x
    obtain ⟨b, e, he, rfl⟩ := bit_cases t
    obtain ⟨v, f, hf, rfl⟩ := bit_cases u
    have hd2 : d < 2 := by omega
    have he2 : e < 2 := by omega
    have hf2 : f < 2 := by omega
    rw [land_bits a v d f hd2 hf2] at hx
    rw [land_bits b v e f he2 hf2] at ht
    have hdf : d * f < 2 := by
      rcases hd with rfl | rfl <;> rcases hf with rfl | rfl <;> decide
    have hef : e * f < 2 := by
      rcases he with rfl | rfl <;> rcases hf with rfl | rfl <;> decide
    have h1 : a &&& v = a := by omega
    have h2 : d * f = d := by omega
    have h3 : b &&& v = b := by omega
    have h4 : e * f = e := by omega
    have h5 : d ≤ f := by
      rcases hd with rfl | rfl <;> rcases hf with rfl | rfl <;> omega
    rcases he with rfl | rfl
    · have e1 : 2 * b + 0 - 1 = 2 * (b - 1) + 1 := by omega
      rw [e1, land_bits (b - 1) v 1 f (by decide) hf2]
      have := next_down n a b v (by omega) h1 h3 (by omega)
      omega
    · have e1 : 2 * b + 1 - 1 = 2 * b + 0 := by omega
      rw [e1, land_bits b v 0 f (by decide) hf2, h3]
      omega
theorem down_le {x t u : Nat} (hx : x &&& u = x) (ht : t &&& u = t) (h : x < t) : x ≤ (t - 1) &&& u := next_down (t + 1) x t u (by omega) hx ht h
theorem down_in (t u : Nat) : ((t - 1) &&& u) &&& u = (t - 1) &&& u := by rw [Nat.and_assoc, Nat.and_self]
theorem down_lt {t u : Nat} (h : 0 < t) : (t - 1) &&& u < t := Nat.lt_of_le_of_lt Nat.and_le_left (by omega)
/-- the firsts of the rules of s whose second set is greater than t, in order -/
structure Made (S : List Nat) (num den s t : Nat) (F : List Nat) : Prop where
  pair : F.Pairwise (· < ·)
  mem : ∀ a, a ∈ F ↔ a &&& s = a ∧ 0 < a ∧ a < s - t ∧ num * support S a ≤ den * support S s
theorem Made.start {S : List Nat} {num den s : Nat} (hs : 0 < s) : Made S num den s (s &&& (s - 1)) [] := by
  refine ⟨List.Pairwise.nil, fun a => ⟨fun h => (List.not_mem_nil h).elim, fun ⟨h1, h2, h3, _⟩ => ?_⟩⟩
  exfalso
  have hle : a ≤ s := le_of_in h1
  have hx : (s - a) &&& s = s - a := by rw [sub_xor h1]; exact xor_in h1
  have := down_le (x := s - a) (t := s) hx (Nat.and_self s) (by omega)
  rw [Nat.and_comm] at h3
  omega
theorem sub_in {s t : Nat} (h : t &&& s = t) : (s - t) &&& s = s - t := by rw [sub_xor h]; exact xor_in h
theorem Made.next {S : List Nat} {num den s t : Nat} {F : List Nat} (h : Made S num den s t F) (ht : t &&& s = t) (h0 : 0 < t) (hlt : t < s) :
    Made S num den s ((t - 1) &&& s) (if num * support S (s - t) ≤ den * support S s then F ++ [s - t] else F) := by
  have key : ∀ a, a &&& s = a → (a < s - ((t - 1) &&& s) ↔ a < s - t ∨ a = s - t) := by
    intro a ha
    have hle : a ≤ s := le_of_in ha
    have hd := down_lt (u := s) h0
    constructor
    · intro q
      refine Classical.byContradiction fun c => ?_
      have := down_le (x := s - a) (sub_in ha) ht (by omega)
      omega
    · intro q; omega
  split
  · rename_i c
    refine ⟨?_, fun a => ?_⟩
    · rw [List.pairwise_append]
      refine ⟨h.pair, by simp, fun x hx y hy => ?_⟩
      rw [List.mem_singleton] at hy
      subst hy
      exact ((h.mem x).mp hx).2.2.1
    · rw [List.mem_append, List.mem_singleton, h.mem]
      constructor
      · rintro (⟨a1, a2, a3, a4⟩ | rfl)
        · exact ⟨a1, a2, (key a a1).mpr (.inl a3), a4⟩
        · exact ⟨sub_in ht, by omega, (key _ (sub_in ht)).mpr (.inr rfl), c⟩
      · rintro ⟨a1, a2, a3, a4⟩
        rcases (key a a1).mp a3 with q | q
        · exact .inl ⟨a1, a2, q, a4⟩
        · exact .inr q
  · rename_i c
    refine ⟨h.pair, fun a => ?_⟩
    rw [h.mem]
    constructor
    · rintro ⟨a1, a2, a3, a4⟩
      exact ⟨a1, a2, (key a a1).mpr (.inl a3), a4⟩
    · rintro ⟨a1, a2, a3, a4⟩
      rcases (key a a1).mp a3 with q | q
      · exact ⟨a1, a2, q, a4⟩
      · subst q; exact absurd a4 c
theorem Made.done {S : List Nat} {num den s : Nat} {F : List Nat} (hs : s < 2 ^ 64) (h : Made S num den s 0 F) : F = firsts S num den s :=
  firsts_uniq hs h.pair fun a => by rw [h.mem]; rfl
/-- the rules of one set -/
def ruled (S : List Nat) (num den s : Nat) : List (Nat × Nat) := (firsts S num den s).map fun a => (a, s - a)
theorem rulesOf_ruled (S : List Nat) (m num den : Nat) : rulesOf S m num den = (setsOf S m 0).flatMap (ruled S num den) := rfl
theorem len_ruled {S : List Nat} {num den s : Nat} (hs : s < 2 ^ 64) (h12 : size s ≤ 12) : (ruled S num den s).length ≤ 4096 := by
  unfold ruled firsts
  rw [List.length_map]
  refine Nat.le_trans (List.length_filter_le _ _) ?_
  rw [len_setsIn hs]
  exact Nat.le_trans (Nat.pow_le_pow_right (by decide) h12) (by decide)
theorem flat_snoc {α β : Type} (f : α → List β) (l : List α) (a : α) : (l ++ [a]).flatMap f = l.flatMap f ++ f a := by
  rw [List.flatMap_append]; simp
theorem flat_take {α β : Type} (f : α → List β) (l : List α) (i : Nat) : ((l.take i).flatMap f).length ≤ (l.flatMap f).length := by
  have : l.flatMap f = (l.take i).flatMap f ++ (l.drop i).flatMap f := by rw [← List.flatMap_append, List.take_append_drop]
  rw [this, List.length_append]
  omega
theorem size_of {U : Nat} {S : List Nat} {s : Nat} (h : Held U S) (hU : size U ≤ 12) (hs : 1 ≤ support S s) : size s ≤ 12 := by
  obtain ⟨b, hb, e⟩ := support_pos hs
  exact Nat.le_trans (size_mono (in_trans e (h.sub b hb))) hU
/-- what a rule is, by both -/
theorem rule_of {S : List Nat} {m num den : Nat} {r : Nat × Nat} (hS : ∀ b ∈ S, b < 2 ^ 64) (hm : 1 ≤ m) (h : r ∈ rulesOf S m num den) : r.1 ||| r.2 = r.1 + r.2 ∧ m ≤ support S (r.1 + r.2) ∧ 0 < r.1 + r.2 ∧ 0 < r.1 ∧ m ≤ support S r.1 := by
  obtain ⟨s, hs, h1, h2, h3, h4, h5⟩ := (mem_rulesOf hS).mp h
  rw [mem_setsOf' hS hm, isOf0] at hs
  have e : r.1 + r.2 = s := by rw [h5]; omega
  have ap : r.1 &&& r.2 = 0 := by rw [h5, sub_xor h1]; exact xor_apart.mpr h1
  refine ⟨(add_lor ap).symm, by rw [e]; exact hs.2, by omega, h2, Nat.le_trans hs.2 (support_mono h1)⟩
end Dk
end
section
set_option linter.all false
namespace Dk
open Rc52
/-! ### a thing's turn, set by set -/
def part (S : List Nat) (m : Nat) (L : List Nat) (i q : Nat) : List Nat := L ++ ((L.take q).filter fun s => decide (m ≤ support S (s ||| 2 ^ i))).map fun s => s ||| 2 ^ i
theorem part_zero (S : List Nat) (m : Nat) (L : List Nat) (i : Nat) : part S m L i 0 = L := by unfold part; simp
theorem part_full (S : List Nat) (m : Nat) (L : List Nat) (i : Nat) : part S m L i L.length = ext S m L i := by unfold part ext; rw [List.take_length]
theorem part_succ {S : List Nat} {m : Nat} {L : List Nat} {i q s : Nat} (h : L[q]? = some s) : part S m L i (q + 1) = if m ≤ support S (s ||| 2 ^ i) then part S m L i q ++ [s ||| 2 ^ i] else part S m L i q := by
  unfold part
  rw [List.take_add_one, h]
  simp only [Option.toList_some, List.filter_append, List.map_append, List.filter_cons, List.filter_nil]
  by_cases c : m ≤ support S (s ||| 2 ^ i)
  · rw [if_pos (decide_eq_true c), if_pos c, ← List.append_assoc]; rfl
  · rw [if_neg (fun z => c (of_decide_eq_true z)), if_neg c]; simp
theorem part_fresh {S : List Nat} {m : Nat} {L : List Nat} {i q s : Nat} (nd : L.Nodup) (no : ∀ s ∈ L, s.testBit i = false) (hq : L[q]? = some s) : (s ||| 2 ^ i) ∉ part S m L i q := by
  unfold part
  rw [List.mem_append, List.mem_map]
  have hs : s ∈ L := List.mem_of_getElem? hq
  rintro (h | ⟨t, ht, e⟩)
  · have := no _ h
    rw [lor_bit] at this
    simp at this
  · have ht' := (List.mem_filter.mp ht).1
    have htL : t ∈ L := List.mem_of_mem_take ht'
    have e' := lor_inj (no t htL) (no s hs) e
    subst e'
    obtain ⟨j, hj, ej⟩ := List.mem_iff_getElem.mp ht'
    rw [List.length_take] at hj
    rw [List.getElem_take] at ej
    obtain ⟨hq1, hq2⟩ := List.getElem?_eq_some_iff.mp hq
    have := (List.getElem_inj (h₀ := (by omega : j < L.length)) (h₁ := hq1) nd).mp (ej.trans hq2.symm)
    omega
theorem part_len (S : List Nat) (m : Nat) (L : List Nat) (i q : Nat) : (part S m L i q).length ≤ 2 * L.length := by
  unfold part
  rw [List.length_append, List.length_map]
  have h1 := List.length_filter_le (fun s => decide (m ≤ support S (s ||| 2 ^ i))) (L.take q)
  have h2 : (L.take q).length ≤ L.length := by rw [List.length_take]; omega
  omega
theorem part_sub {S : List Nat} {m : Nat} {L : List Nat} {i q s : Nat} (h : s ∈ L) : s ∈ part S m L i q := List.mem_append_left _ h
theorem part_ne {S : List Nat} {m : Nat} {L : List Nat} {i q : Nat} (h : L ≠ []) : part S m L i q ≠ [] := by
  unfold part
  intro z
  exact h (List.append_eq_nil_iff.mp z).1
theorem tail_snoc {α : Type} {l : List α} (h : l ≠ []) (a : α) : (l ++ [a]).tail = l.tail ++ [a] := by
  cases l with
  | nil => exact absurd rfl h
  | cons b l => rfl
theorem take_not {α : Type} [DecidableEq α] {l : List α} {j : Nat} {i : α} (nd : l.Nodup) (h : l[j]? = some i) : i ∉ l.take j := by
  intro q
  obtain ⟨k, hk, ek⟩ := List.mem_iff_getElem.mp q
  rw [List.length_take] at hk
  rw [List.getElem_take] at ek
  obtain ⟨h1, h2⟩ := List.getElem?_eq_some_iff.mp h
  have := (List.getElem_inj (h₀ := (by omega : k < l.length)) (h₁ := h1) nd).mp (ek.trans h2.symm)
  omega
end Dk
end
section
set_option Elab.async false
set_option linter.all false
set_option maxRecDepth 100000
set_option maxHeartbeats 3000000
namespace L2
open PySem PySem.Spec PyProof.Rows
/-! ### list(d): the keys in a new list -/
theorem vals_of_get : ∀ {xs : List V} {us : List Value}, xs.length = us.length → (∀ (j : Nat) (u : Value), us[j]? = some u → ∃ x, xs[j]? = some x ∧ RelV x u) → Vals xs us
  | [], [], _, _ => .nil
  | x :: xs, u :: us, hl, h => by
    refine .cons ?_ (vals_of_get (by simpa using hl) fun j v hv => ?_)
    · obtain ⟨y, e, r⟩ := h 0 u rfl
      simp at e
      subst e
      exact r
    · obtain ⟨y, e, r⟩ := h (j + 1) v (by simpa using hv)
      exact ⟨y, by simpa using e, r⟩
  | [], _ :: _, hl, _ => absurd hl (by simp)
  | _ :: _, [], hl, _ => absurd hl (by simp)
theorem kv_key {kvs : List (Key × V)} {vs : List (Key × Value)} (h : KV kvs vs) : ∀ {i : Nat} {k : Key} {u : Value}, vs[i]? = some (k, u) → ∃ v, kvs[i]? = some (k, v) := by
  unfold KV at h
  induction h with
  | nil => intro i k u e; simp at e
  | @cons a b l₁ l₂ r t ih =>
    intro i k u e
    cases i with
    | zero =>
      simp only [List.getElem?_cons_zero, Option.some.injEq] at e
      subst e
      obtain ⟨a1, a2⟩ := a
      exact ⟨a2, by simp only [List.getElem?_cons_zero]; rw [show a1 = k from r.1]⟩
    | succ i =>
      simp only [List.getElem?_cons_succ] at e ⊢
      exact ih e
theorem call_list_dict {X : Cx} (hc : X.calm = true) : CallR X (.type "list") (fun xs H Q => ∃ p kvs, xs = [.ref p] ∧ Rd H p (.dK kvs) ∧ ∀ l, H l = none → Q (.ref l) (upd H l (.lst (kvs.map fun kv => kV kv.1)))) := by
  intro pins s σ H xs us Q I r h
  obtain ⟨p, kvs, rfl, hq, q⟩ := h
  obtain ⟨u, rfl, rx⟩ := vals1 r
  cases rx
  obtain ⟨z, hd, vs, rel, dd⟩ := dk_rd I.hok hq
  obtain ⟨ep, hat⟩ := dd.dictAt
  have hl : kvs.length = vs.length := Paired.length rel
  refine PySem.W.kdl_call (PySem.W.kdl_dict (knd := mixKind X.prog X.w) (kvs := vs) (ep := ep) hd) (I.ok.hd hc) hat (by omega) fun h' tk acc' c' kp e hacc => ?_
  have hv : Vals (kvs.map fun kv => kV kv.1) acc'.toList := by
    refine vals_of_get (by rw [List.length_map]; have h1 : acc'.toList.length = acc'.size := Array.length_toList; have h2 := hacc.1; omega) fun j u hu => ?_
    obtain ⟨k, x, hx, hk⟩ := hacc.2 j u (by rw [← Array.getElem?_toList]; exact hu)
    obtain ⟨v, hv⟩ := kv_key rel hx
    exact ⟨kV k, by rw [List.getElem?_map, hv]; rfl, relV_key hk⟩
  exact ⟨.ref s.heap.objs.size, _, I.laid (t' := tk) kp (Nat.le_refl _) (show ObjOk X.prog X.w _ h' _ (.lst (kvs.map fun kv => kV kv.1)) from ⟨by rw [List.length_map]; exact z, acc'.toList, c', hv, by rw [Array.toArray_toList]; exact e⟩), rfl, q _ (I.hok.fresh (Nat.le_refl _))⟩
/-! ### walks over a locked dict -/
theorem for_keys {d : Addr} {o : Obj} {kvs : List (Key × V)} {g : TG} {tb : TS} {D : Ends} {σ : St} {H : Hp} (Pv : Nat → St → Hp → Prop) (h0 : Pv 0 σ H) (hl : ∀ i σ H, i ≤ kvs.length → Pv i σ H → H d = some (.frz o (.dK kvs)))
    (hs : ∀ i k v σ H, kvs[i]? = some (k, v) → Pv i σ H → g (kV k) σ H fun σ2 H2 => tb { D with nx := Pv (i + 1), ct := Pv (i + 1), bk := D.nx } σ2 H2) (hd : ∀ σ H, Pv kvs.length σ H → D.nx σ H) :
    ∃ W : Nat → Nat → St → Hp → Prop, (∃ m, W 0 m σ H) ∧ ∀ i m σ H, W i m σ H →
      ((Itk d o kvs).stop i H ∧ D.nx σ H) ∨ ((Itk d o kvs).go i H ∧ ∃ N : St → Hp → Prop, (∀ σ' H', N σ' H' → ∃ m', m' < m ∧ W (i + 1) m' σ' H') ∧ ∀ x H', (Itk d o kvs).yld i H x H' → g x σ H' fun σ2 H2 => tb { D with nx := N, ct := N, bk := D.nx } σ2 H2) := by
  refine ⟨fun i m σ H => m = kvs.length - i ∧ i ≤ kvs.length ∧ Pv i σ H, ⟨kvs.length, by simp, Nat.zero_le _, h0⟩, ?_⟩
  rintro i m σ H ⟨rfl, hi, p⟩
  have q := hl i σ H hi p
  by_cases hlt : i < kvs.length
  · refine .inr ⟨⟨q, hlt⟩, Pv (i + 1), fun σ' H' p' => ⟨kvs.length - (i + 1), by omega, rfl, hlt, p'⟩, fun x H' y => ?_⟩
    obtain ⟨e, k, v, y1, y2⟩ := y
    subst e y2
    exact hs i k v σ _ y1 p
  · have e : i = kvs.length := by omega
    subst e
    exact .inl ⟨⟨q, Nat.le_refl _⟩, hd σ H p⟩
theorem lc_keys {d : Addr} {o : Obj} {kvs : List (Key × V)} {g : TG} {tt : TT} {te : TE} {vs : List Nat} {σ : St} {H1 : Hp} {D : Addr} {Qd : Hp → Prop} (Pv : Nat → Hp → Prop) (h0 : Pv 0 (upd H1 D (.lst []))) (hl : ∀ i H, i ≤ kvs.length → Pv i H → H d = some (.frz o (.dK kvs)))
    (hs : ∀ i k v H, kvs[i]? = some (k, v) → Pv i H → g (kV k) (wipe σ vs) H fun σ2 H2 => wipe σ2 vs = wipe σ vs ∧ tt σ2 H2 fun b H3 =>
      if b = true then te σ2 H3 fun y H4 => ∃ acc, H4 D = some (.lst acc) ∧ acc.length < sizeLine ∧ Pv (i + 1) (upd H4 D (.lst (acc ++ [y]))) else Pv (i + 1) H3) (hd : ∀ H, Pv kvs.length H → Qd H) :
    ∃ W : Nat → Nat → Hp → Prop, (∃ m, W 0 m (upd H1 D (.lst []))) ∧ ∀ i m H, W i m H →
      ((Itk d o kvs).stop i H ∧ Qd H) ∨ ((Itk d o kvs).go i H ∧ ∃ Nx : Hp → Prop, (∀ H', Nx H' → ∃ m', m' < m ∧ W (i + 1) m' H') ∧ ∀ x H', (Itk d o kvs).yld i H x H' → g x (wipe σ vs) H' fun σ2 H2 => wipe σ2 vs = wipe σ vs ∧ tt σ2 H2 fun b H3 =>
        if b = true then te σ2 H3 fun y H4 => ∃ acc, H4 D = some (.lst acc) ∧ acc.length < sizeLine ∧ Nx (upd H4 D (.lst (acc ++ [y]))) else Nx H3) := by
  refine ⟨fun i m H => m = kvs.length - i ∧ i ≤ kvs.length ∧ Pv i H, ⟨kvs.length, by simp, Nat.zero_le _, h0⟩, ?_⟩
  rintro i m H ⟨rfl, hi, p⟩
  have q := hl i H hi p
  by_cases hlt : i < kvs.length
  · refine .inr ⟨⟨q, hlt⟩, Pv (i + 1), fun H' p' => ⟨kvs.length - (i + 1), by omega, rfl, hlt, p'⟩, fun x H' y => ?_⟩
    obtain ⟨e, k, v, y1, y2⟩ := y
    subst e y2
    exact hs i k v _ y1 p
  · have e : i = kvs.length := by omega
    subst e
    exact .inl ⟨⟨q, Nat.le_refl _⟩, hd H p⟩
/-! ### sorted(xs, key=f), f's values pairs of ints -/
theorem run_at {X : Cx} {k : Nat} {f : Addr} {fd : FuncData} {ps : List Str} {sp : Sp} {A' : Around} {pins : List (Addr × Obj)} {σ : St} {H : Hp} {s : Shared} {Q : VK} {us : List Value} {vs : List V} (F : FnOk X.prog X.w X.K X.mg X.base CX0 k f fd ps sp) (hr : Room k A') (hb : Binds X.K fd ps [])
    (e0 : Env0 X.prog X.w X.K X.mg X.base A' X.stack s H) (I : Inv X pins σ H s) (r : Vals vs us) (h : sp vs H Q E0) : wpAny (model X.prog X.w) A' (call (.ref f) us) (EP X pins σ Q) (fun _ _ => False) s := by
  have hl : us.length = ps.length := by rw [← r.length]; exact F.len _ _ _ _ h
  have hb' := hb s us I.kIn (by rw [List.append_nil]; exact hl)
  rw [List.append_nil] at hb'
  refine wpAny_call (codeAny_mono (F.run A' X.stack s H ⟨us, []⟩ us vs Q E0 hr e0 hb' r h) fun r s' hq => ?_)
  cases r with
  | error e => exact hq
  | ok fl =>
    cases fl with
    | ret u => exact I.after hq
    | next => exact False.elim hq
    | brk => exact False.elim hq
    | cont => exact False.elim hq
def sh0 : Nat → Bool := fun _ => false
theorem key_at {P : Program} {w : World} {H : Hp} {h : Heap} {p : Addr} {i j : Int} (ok : HOk P w H h) (e : H p = some (.tup [.int i, .int j])) :
    G.tupKeyC h sh0 (.ref p) = some [Sum.inl i, Sum.inl j] ∧ ∃ t, TupOf h sh0 (.ref p) (.int i t) := by
  obtain ⟨_, its, r, o, h1, h2, n, h3⟩ := (show ObjOk P w H h p (.tup [.int i, .int j]) from ok p _ e)
  cases r with
  | cons r1 r =>
    cases r with
    | cons r2 r =>
      cases r
      obtain ⟨t1, rfl⟩ := r1
      obtain ⟨t2, rfl⟩ := r2
      refine ⟨G.tupKeyC_of h1 h2 h3 ?_, t1, p, o, _, n, rfl, h1, h2, h3, rfl, fun _ => ⟨_, _, rfl⟩, fun q => absurd q (by decide)⟩
      simp [tupItems, sh0]
/-- what a key is of its number -/
def KeyIs (g : Nat → Nat) (h : Heap) (n : Nat) (p : Keyed) : Prop := (∃ t, p.2 = Value.int (n : Int) t) ∧ G.tupKeyC h sh0 p.1 = some [Sum.inl (g n : Int), Sum.inl (n : Int)]
theorem lex2 {a b c d : Int} (h : lexLt itemOrd [Sum.inl a, Sum.inl b] [Sum.inl c, Sum.inl d] = false) : ¬ (a < c ∨ (a = c ∧ b < d)) := by
  intro q
  have e : lexLt itemOrd [Sum.inl a, Sum.inl b] [Sum.inl c, Sum.inl d] = true := by
    refine lex_true.mpr ?_
    rcases q with q | ⟨rfl, q⟩
    · exact .inl (show decide (a < c) = true from decide_eq_true q)
    · refine .inr ⟨show decide (a < a) = false by simp, lex_true.mpr (.inl (show decide (b < d) = true from decide_eq_true q))⟩
  rw [h] at e
  cases e
def nOf (p : Keyed) : Nat := (numOf p.2).toNat
theorem KeyIs.num {g : Nat → Nat} {h : Heap} {n : Nat} {p : Keyed} (k : KeyIs g h n p) : nOf p = n := by
  obtain ⟨⟨t, e⟩, _⟩ := k
  unfold nOf
  rw [e]
  show (n : Int).toNat = n
  exact Int.toNat_natCast n
theorem sk_out {g : Nat → Nat} {h : Heap} {ns : List Nat} {arr a₀ : Array Keyed} (hk : Paired (KeyIs g h) ns a₀.toList) (hp : arr.Perm a₀) (hs : SortedToK (G.tupKindC h sh0) arr a₀.size) :
    ∃ ns' : List Nat, ns'.Perm ns ∧ (ns'.Pairwise fun a b => ¬ (g b < g a ∨ (g b = g a ∧ b < a))) ∧ Vals (ns'.map fun (b : Nat) => V.int (b : Int)) (arr.map (·.2)).toList := by
  have hpl : arr.toList.Perm a₀.toList := Array.perm_iff_toList_perm.mp hp
  have e0 : ∀ {ns : List Nat} {l : List Keyed}, Paired (KeyIs g h) ns l → l.map nOf = ns ∧ ∀ p ∈ l, KeyIs g h (nOf p) p := by
    intro ns l r
    induction r with
    | nil => exact ⟨rfl, fun p hp => nomatch hp⟩
    | @cons n p ns ps r t ih =>
      have en := r.num
      refine ⟨by rw [List.map_cons, ih.1, en], fun q hq => ?_⟩
      rcases List.mem_cons.mp hq with z | z
      · rw [z, en]; exact r
      · exact ih.2 q z
  obtain ⟨e1, e2⟩ := e0 hk
  have e3 : ∀ p ∈ arr.toList, KeyIs g h (nOf p) p := fun p hq => e2 p (hpl.mem_iff.mp hq)
  refine ⟨arr.toList.map nOf, by rw [← e1]; exact hpl.map nOf, ?_, ?_⟩
  · rw [List.pairwise_map, List.pairwise_iff_getElem]
    intro i j hi hj hij
    have hsz : arr.size = a₀.size := hp.size_eq
    have hj' : j < a₀.size := by rw [← hsz]; simpa using hj
    have q := hs i j (by omega) hj'
    have kk : ∀ (m : Nat) (hm : m < arr.toList.length), KK (G.tupKindC h sh0) arr m = [Sum.inl (g (nOf arr.toList[m]) : Int), Sum.inl (nOf arr.toList[m] : Int)] := by
      intro m hm
      have hm' : m < arr.size := by simpa using hm
      have ea : arr[m]? = some arr.toList[m] := by
        rw [← Array.getElem?_toList, List.getElem?_eq_getElem hm]
      unfold KK
      rw [ea]
      show (G.tupKeyC h sh0 arr.toList[m].1).getD [] = _
      rw [(e3 _ (List.getElem_mem hm)).2]
      rfl
    rw [kk i hi, kk j hj] at q
    have q' := lex2 (show lexLt itemOrd _ _ = false from q)
    omega
  · rw [Array.toList_map]
    have : ∀ l : List Keyed, (∀ p ∈ l, KeyIs g h (nOf p) p) → Vals ((l.map nOf).map fun (b : Nat) => V.int (b : Int)) (l.map (·.2)) := by
      intro l
      induction l with
      | nil => intro _; exact .nil
      | cons p l ih =>
        intro hh
        refine .cons ?_ (ih fun q hq => hh q (List.mem_cons_of_mem _ hq))
        exact (hh p List.mem_cons_self).1
    exact this _ e3
section
variable {X : Cx} {pins : List (Addr × Obj)} {σ : St} {H : Hp} {s : Shared} {A' : Around} {E : Value → Shared → Prop} {P : PySem.Fin → Shared → Prop} {a kS : Addr} {e1 : Nat}
theorem sk_tail {st : SortSt} {ks xs : List V} (I : Inv X pins σ H s) (ha : H a = some (.frz (seqObj "list" #[] e1) (.lst []))) (hk : H kS = some (.lst ks)) (hn : ∀ o u, X.H_0 a ≠ some (.frz o u)) (hfl : failedOf st = none)
    (hx : Vals xs ((arrOf st).map (·.2)).toList) (hz : xs.length ≤ sizeLine)
    (h : ∀ s', Inv X pins σ (upd (upd (upd H kS (.lst [])) a (.lst [])) a (.lst xs)) s' → P (.done (.ret .none)) s') : wpAny (model X.prog X.w) A' (ksk_tail a false e1 (.ref kS) st) P E s := by
  have hka : kS ≠ a := ne_of hk ha (by intro z; cases z)
  obtain ⟨hz1, its, n, ri, ek⟩ := (show ObjOk X.prog X.w H s.heap kS (.lst ks) from I.hok kS _ hk)
  have ek' : s.heap.get? kS = some (seqObj "list" its.toArray n) := ek
  have hlen := ri.length
  obtain ⟨ea, hoa⟩ := (show ObjOk X.prog X.w H s.heap a (.frz (seqObj "list" #[] e1) (.lst [])) from I.hok a _ ha)
  have s1 : Heap.SameBut kS s.heap (s.heap.update kS (Obj.mapSeq fun _ => (#[] : Array Value))) := Heap.SameBut.update ..
  have I1 : Inv X pins σ (upd H kS (.lst [])) { s with heap := s.heap.update kS (Obj.mapSeq fun _ => (#[] : Array Value)) } :=
    I.write (t' := s.toks) (by rw [hk]; trivial) (.inl rfl) (fun b u hb q => (s1.2 b hb).trans q) ⟨_, get?_update_seq ek' _⟩ ⟨Nat.zero_le _, [], _, .nil, get?_update_seq ek' _⟩
  have na1 : (s.heap.update kS (Obj.mapSeq fun _ => (#[] : Array Value))).get? a = some (seqObj "list" #[] e1) := (s1.2 a hka.symm).trans ea
  have s2 := Heap.SameBut.update (s.heap.update kS (Obj.mapSeq fun _ => (#[] : Array Value))) a (Obj.mapSeq fun _ => (arrOf st).map (·.2))
  have I2 := I1.unlock (d := a) (od := seqObj "list" #[] e1) (u := .lst []) (by rw [upd_ne hka.symm]; exact ha) hn
  have hsz : ((arrOf st).map (·.2)).size = xs.length := by
    have h1 := hx.length
    have h2 : ((arrOf st).map (·.2)).toList.length = ((arrOf st).map (·.2)).size := Array.length_toList
    omega
  unfold ksk_tail
  try dsimp only
  refine wpAny_bind (listUpdate_at ek' rfl ?_ (by rw [List.size_toArray]; omega) (Nat.zero_le _))
  refine wpAny_bind (wpAny_letGo (wpAny_bind (seqEpoch_at na1 rfl (wpAny_bind (listUpdate_at na1 rfl ?_ (Nat.zero_le _) ?_)))))
  · simp only [hfl, bne_self_eq_false, Bool.false_eq_true, if_false]
    refine wpAny_pure (h _ ?_)
    have e2 := get?_update_seq na1 (fun _ => (arrOf st).map (·.2))
    exact I2.write (t' := s.toks) (by rw [upd_same]; trivial) (.inl rfl) (fun b u hb q => (s2.2 b hb).trans q) ⟨_, e2⟩ ⟨hz, ((arrOf st).map (·.2)).toList, _, hx, by rw [Array.toArray_toList]; exact e2⟩
  · rw [if_neg Bool.false_ne_true, hsz]
    omega
theorem sk_end {g : Nat → Nat} {ks : List V} {keys : Array Value} {vs : List Value} {ns : List Nat} (I : Inv X pins σ H s) (ha : H a = some (.frz (seqObj "list" #[] e1) (.lst []))) (hk : H kS = some (.lst ks)) (hn : ∀ o u, X.H_0 a ≠ some (.frz o u))
    (hK : Paired (KeyIs g s.heap) ns (keys.toList.zip vs)) (hT : ∃ fs, TupsOf s.heap sh0 keys.toList fs) (hlk : keys.size = vs.length) (hz : ns.length ≤ sizeLine)
    (h : ∀ s' (ns' : List Nat), ns'.Perm ns → (ns'.Pairwise fun a b => ¬ (g b < g a ∨ (g b = g a ∧ b < a))) → Inv X pins σ (upd (upd (upd H kS (.lst [])) a (.lst [])) a (.lst (ns'.map fun (b : Nat) => V.int (b : Int)))) s' → P (.done (.ret .none)) s') :
    wpAny (model X.prog X.w) A' (ksk_end a false vs.toArray e1 (.ref kS) keys) P E s := by
  have hzip : (keys.zip vs.toArray).toList = keys.toList.zip vs := ksk_zip keys vs
  rw [← hzip] at hK
  have hsz : (keys.zip vs.toArray).size = vs.length := by rw [Array.size_zip, hlk, List.size_toArray, Nat.min_self]
  have fin : ∀ st : SortSt, (arrOf st).Perm (keys.zip vs.toArray) → SortedToK (G.tupKindC s.heap sh0) (arrOf st) (keys.zip vs.toArray).size → failedOf st = none → wpAny (model X.prog X.w) A' (ksk_tail a false e1 (.ref kS) st) P E s := by
    intro st h1 h2 h3
    obtain ⟨ns', p1, p2, p3⟩ := sk_out hK h1 h2
    exact sk_tail I ha hk hn h3 p3 (by rw [List.length_map, p1.length_eq]; exact hz) fun s' I' => h s' ns' p1 p2 I'
  unfold ksk_end
  try dsimp only
  simp only [if_false, Bool.false_eq_true]
  by_cases few : vs.toArray.size < 2
  · have h2 := few
    rw [if_pos h2, if_pos h2]
    refine wpAny_bind (wpAny_pure ?_)
    rw [StateT.run_pure]
    refine wpAny_bind (wpAny_pure ?_)
    try dsimp only
    refine fin (SortSt.mk' general' (keys.zip vs.toArray) #[] 7 none) (Array.Perm.refl _) ?_ rfl
    intro i j hij hj
    rw [hsz] at hj
    rw [List.size_toArray] at h2
    have : i = j := by omega
    subst this
    exact KeyOrd.kle_refl _
  · have h2 := few
    rw [if_neg h2, if_neg h2]
    rw [List.size_toArray] at h2
    obtain ⟨fs, hT⟩ := hT
    have ek : keys = keys.toList.toArray := by simp
    refine wpAny_bind ?_
    rw [ek]
    refine tup_kind (shape := sh0) (fs := fs) (by rw [G.TupsOf.length hT, Array.length_toList, hlk]; omega) hT ?_
    rw [← ek]
    refine wpAny_bind (wpAny_mono (G.wpS_sortRunsSt (κ := G.tupKindC s.heap sh0) (kd := tuples' true) (a₀ := keys.zip vs.toArray) (st := SortSt.mk' (tuples' true) (keys.zip vs.toArray) #[] 7 none)
      (Q := fun _ st' => (arrOf st').Perm (keys.zip vs.toArray) ∧ failedOf st' = none ∧ SortedToK (G.tupKindC s.heap sh0) (arrOf st') (keys.zip vs.toArray).size)
      (G.tupC_ltAt true (G.KeepsTups.refl _)) ?_ ⟨Array.Perm.refl _, rfl, rfl⟩ rfl (Stable.refl _) (by rw [hsz]; omega) fun st' a1 a2 a3 _ => ⟨a1, a2, a3⟩) ?_ fun _ _ e => e)
    · intro p hp
      have : ∀ {ns : List Nat} {l : List Keyed}, Paired (KeyIs g s.heap) ns l → ∀ p ∈ l, ∃ l, G.tupKeyC s.heap sh0 p.1 = some l := by
        intro ns l r
        induction r with
        | nil => exact fun p hp => nomatch hp
        | @cons n q ns ps r t ih =>
          intro p hp
          rcases List.mem_cons.mp hp with z | z
          · rw [z]; exact ⟨_, r.2⟩
          · exact ih p z
      exact this hK p hp
    · rintro ⟨⟨⟩, st'⟩ s' ⟨rfl, hp, hf, hs⟩
      try dsimp only
      exact fin st' hp hs hf
end
end L2
end
section
set_option Elab.async false
set_option linter.all false
set_option maxRecDepth 100000
set_option maxHeartbeats 3000000
namespace L2
open PySem PySem.Spec PyProof.Rows
theorem tups_of {P : Program} {w : World} {H : Hp} {h : Heap} {g : Nat → Nat} (ok : HOk P w H h) : ∀ {ps : List Addr} {ns : List Nat} {vs : List Value}, Vals (ns.map fun (b : Nat) => V.int (b : Int)) vs → ps.length = ns.length →
    (∀ (j : Nat) (p : Addr) (n : Nat), ps[j]? = some p → ns[j]? = some n → H p = some (.tup [.int (g n : Int), .int (n : Int)])) → Paired (KeyIs g h) ns ((ps.map Value.ref).zip vs) ∧ ∃ fs, TupsOf h sh0 (ps.map Value.ref) fs
  | [], [], vs, r, _, _ => by
    cases r
    exact ⟨.nil, [], .nil⟩
  | p :: ps, n :: ns, vs, r, hl, hh => by
    rw [List.map_cons] at r
    cases r with
    | @cons x u xs us r1 r2 =>
      obtain ⟨h1, fs, h2⟩ := tups_of ok r2 (by simpa using hl) fun j q m e1 e2 => hh (j + 1) q m (by simpa using e1) (by simpa using e2)
      obtain ⟨k1, t, k2⟩ := key_at ok (hh 0 p n rfl rfl)
      exact ⟨.cons ⟨r1, k1⟩ h1, _, .cons k2 h2⟩
  | [], _ :: _, _, _, hl, _ => absurd hl (by simp)
  | _ :: _, [], _, _, hl, _ => absurd hl (by simp)
/-! the heap while a list is sorted: the items gathered, the new list, the items kept beside it -/
def heapA (h : Heap) (vs : List Value) : Heap := (h.push (seqObj "list" #[] 0)).update h.objs.size (Obj.mapSeq (· ++ vs.toArray))
def heapB (h : Heap) (vs : List Value) : Heap := (heapA h vs).push (seqObj "list" vs.toArray 0)
def heapC (h : Heap) (a : Addr) (vs : List Value) : Heap := (h.update a (Obj.mapSeq fun _ => (#[] : Array Value))).push (seqObj "tuple" vs.toArray 0)
theorem heapA_size (h : Heap) (vs : List Value) : (heapA h vs).objs.size = h.objs.size + 1 := (Heap.size_update ..).trans (size_push' ..)
theorem heapB_size (h : Heap) (vs : List Value) : (heapB h vs).objs.size = h.objs.size + 2 := (size_push' ..).trans (congrArg (· + 1) (heapA_size h vs))
theorem heapB_at (h : Heap) (vs : List Value) : (heapB h vs).get? (h.objs.size + 1) = some (seqObj "list" vs.toArray 0) := by
  have e : (heapB h vs).get? (heapA h vs).objs.size = some (seqObj "list" vs.toArray 0) := Heap.get?_push_size _ rfl
  rw [heapA_size] at e
  exact e
theorem heapB_old {h : Heap} {vs : List Value} {b : Addr} {o : Obj} (q : h.get? b = some o) : (heapB h vs).get? b = some o :=
  Heap.get?_push_of_some _ ((Heap.get?_update_ne _ _ _ _ (Nat.ne_of_lt (Heap.lt_size q))).trans (Heap.get?_push_of_some _ q))
/-- f gives, of each of these numbers, a new pair: g of it, then it -/
def SpKey (g : Nat → Nat) (ns : List Nat) (sp : Sp) : Prop := ∀ n ∈ ns, ∀ (H : Hp) (Q : VK), (∀ p, H p = none → Q (.ref p) (upd H p (.tup [.int (g n : Int), .int (n : Int)]))) → sp [.int (n : Int)] H Q E0
section
variable {X : Cx} {pins : List (Addr × Obj)} {σ : St} {H : Hp} {s : Shared} {A' : Around} {E : Value → Shared → Prop} {P : PySem.Fin → Shared → Prop} {a kS : Addr} {e1 : Nat} {k : Nat} {f : Addr} {fd : FuncData} {ps : List Str} {sp : Sp}
theorem sk_rest {g : Nat → Nat} {vs : List Value} {ns : List Nat} (F : FnOk X.prog X.w X.K X.mg X.base CX0 k f fd ps sp) (hr : Room k A') (hb : Binds X.K fd ps []) (e0 : ∀ H s, Inv X pins σ H s → Env0 X.prog X.w X.K X.mg X.base A' X.stack s H)
    (hsp : SpKey g ns sp) (I : Inv X pins σ H s) (ha : H a = some (.frz (seqObj "list" #[] e1) (.lst []))) (hk : H kS = some (.lst [])) (hn : ∀ o u, X.H_0 a ≠ some (.frz o u)) (rv : Vals (ns.map fun (b : Nat) => V.int (b : Int)) vs) (hz : ns.length ≤ sizeLine)
    (h : ∀ s' H' (ns' : List Nat), ns'.Perm ns → (ns'.Pairwise fun a b => ¬ (g b < g a ∨ (g b = g a ∧ b < a))) → Inv X pins σ H' s' → H' a = some (.lst (ns'.map fun (b : Nat) => V.int (b : Int))) → (∀ b o, H b = some o → b ≠ a → b ≠ kS → H' b = some o) → P (.done (.ret .none)) s') :
    wpAny (model X.prog X.w) A' (ksk_rest a (.ref f) false vs.toArray e1 (.ref kS)) P E s := by
  have hlv : vs.length = ns.length := by have := rv.length; rw [List.length_map] at this; exact this.symm
  unfold ksk_rest
  refine wpAny_bind (wpAny_rule ?_)
  rw [List.forIn_toArray]
  refine wpAny_bind (ksk_fold (fun i s' => ∃ (H' : Hp) (qs : List Addr), Inv X pins σ H' s' ∧ H' a = some (.frz (seqObj "list" #[] e1) (.lst [])) ∧ H' kS = some (.lst (qs.map V.ref)) ∧ qs.length = i ∧ (∀ b o, H b = some o → b ≠ kS → H' b = some o) ∧
      (∀ (j : Nat) (p : Addr) (n : Nat), qs[j]? = some p → ns[j]? = some n → H' p = some (.tup [.int (g n : Int), .int (n : Int)]))) vs 0 s
    ⟨H, [], I, ha, hk, rfl, fun b o e _ => e, fun j p n e _ => by simp at e⟩ ?step ?done)
  case step =>
    rintro j x s' hx ⟨H', qs, I', ha', hk', hl', hs', ht'⟩
    simp only [Nat.zero_add] at hl' ⊢
    obtain ⟨hj, _⟩ := List.getElem?_eq_some_iff.mp hx
    obtain ⟨n, hnj⟩ : ∃ n, ns[j]? = some n := ⟨_, List.getElem?_eq_getElem (by omega)⟩
    obtain ⟨u, hu, ru⟩ := rv.get (i := j) (x := V.int (n : Int)) (by rw [List.getElem?_map, hnj]; rfl)
    rw [hx] at hu
    cases hu
    refine wpAny_bind (wpAny_attempt (wpAny_mono (run_at (Q := fun v H1 => ∃ p, v = .ref p ∧ H' p = none ∧ H1 = upd H' p (.tup [.int (g n : Int), .int (n : Int)])) F hr hb (e0 _ _ I') I' (.cons ru .nil)
      (hsp n (List.mem_of_getElem? hnj) H' _ fun p hp => ⟨p, rfl, hp, rfl⟩)) (fun v s'' he => ?_) fun _ _ hF => hF.elim))
    obtain ⟨v', H1, I1, r1, p, rfl, hp, rfl⟩ := he
    obtain rfl : v = Value.ref p := r1
    try dsimp only
    have nkp : kS ≠ p := ne_of_none hk' hp
    have nap : a ≠ p := ne_of_none ha' hp
    have hk1 : upd H' p (.tup [.int (g n : Int), .int (n : Int)]) kS = some (.lst (qs.map V.ref)) := by rw [upd_ne nkp]; exact hk'
    obtain ⟨hz1, its, n1, ri, ek⟩ := (show ObjOk X.prog X.w _ s''.heap kS (.lst (qs.map V.ref)) from I1.hok kS _ hk1)
    have ek' : s''.heap.get? kS = some (seqObj "list" its.toArray n1) := ek
    have hli := ri.length
    rw [List.length_map] at hli
    have s1 := Heap.SameBut.update s''.heap kS (Obj.mapSeq (·.push (Value.ref p)))
    have hka : kS ≠ a := ne_of hk' ha' (by intro z; cases z)
    refine wpAny_bind (listUpdate_at ek' rfl ?_ (by rw [List.size_toArray]; omega) (by rw [Array.size_push, List.size_toArray]; omega))
    refine wpAny_pure ⟨rfl, upd (upd H' p (.tup [.int (g n : Int), .int (n : Int)])) kS (.lst ((qs ++ [p]).map V.ref)), qs ++ [p], ?_, ?_, upd_same, by rw [List.length_append, hl']; rfl, fun b o e hb => ?_, fun i q m e1 e2 => ?_⟩
    · have e2 := get?_update_seq ek' (·.push (Value.ref p))
      rw [List.push_toArray] at e2
      have rr : Vals ((qs ++ [p]).map V.ref) (its ++ [Value.ref p]) := by
        rw [List.map_append]
        exact ri.append (.cons rfl .nil)
      exact I1.write (t' := s''.toks) (by rw [hk1]; trivial) (.inl rfl) (fun b u hb q => (s1.2 b hb).trans q) ⟨_, e2⟩ ⟨by rw [List.length_map, List.length_append, List.length_singleton]; omega, its ++ [Value.ref p], _, rr, e2⟩
    · rw [upd_ne hka.symm, upd_ne nap]
      exact ha'
    · have e' := hs' b o e hb
      rw [upd_ne hb, upd_ne (ne_of_none e' hp)]
      exact e'
    · have np : ∀ q, q ≠ kS → upd (upd H' p (.tup [.int (g n : Int), .int (n : Int)])) kS (.lst ((qs ++ [p]).map V.ref)) q = upd H' p (.tup [.int (g n : Int), .int (n : Int)]) q := fun q hq => upd_ne hq
      by_cases hi : i < qs.length
      · rw [List.getElem?_append_left hi] at e1
        have e3 := ht' i q m e1 e2
        rw [np q (fun z => by rw [z, hk'] at e3; cases e3), upd_ne (ne_of_none e3 hp)]
        exact e3
      · have hij : i = j := by
          have := (List.getElem?_eq_some_iff.mp e1).1
          rw [List.length_append, List.length_singleton] at this
          omega
        subst hij
        rw [List.getElem?_append_right (by omega), show i - qs.length = 0 by omega] at e1
        have e3 : p = q := by simpa using e1
        subst e3
        rw [hnj] at e2
        cases e2
        rw [np p nkp.symm]
        exact upd_same
  case done =>
    rintro s' ⟨H', qs, I', ha', hk', hl', hs', ht'⟩
    simp only [Nat.zero_add] at hl'
    obtain ⟨hz1, its, n1, ri, ek⟩ := (show ObjOk X.prog X.w _ s'.heap kS (.lst (qs.map V.ref)) from I'.hok kS _ hk')
    have ek' : s'.heap.get? kS = some (seqObj "list" its.toArray n1) := ek
    have eits : its = qs.map Value.ref := by
      have : ∀ {qs : List Addr} {its : List Value}, Vals (qs.map V.ref) its → its = qs.map Value.ref := by
        intro qs
        induction qs with
        | nil => intro its r; cases r; rfl
        | cons q qs ih =>
          intro its r
          rw [List.map_cons] at r
          cases r with
          | cons r1 r2 =>
            rw [List.map_cons, ← ih r2]
            rw [show _ = Value.ref q from r1]
      exact this ri
    subst eits
    obtain ⟨hK, hT⟩ := tups_of (g := g) I'.hok rv (by omega) ht'
    have hka : kS ≠ a := ne_of hk' ha' (by intro z; cases z)
    try dsimp only
    refine wpAny_bind (listItems_at ek' rfl ?_)
    refine sk_end (g := g) (ns := ns) I' ha' hk' hn (by simpa using hK) (by simpa using hT) (by rw [List.size_toArray, List.length_map]; omega) hz fun s2 ns' p1 p2 I2 => ?_
    refine h s2 _ ns' p1 p2 I2 upd_same fun b o e hb hbk => ?_
    rw [upd_ne hb, upd_ne hb, upd_ne hbk]
    exact hs' b o e hbk
theorem sk_sorted {g : Nat → Nat} {l : Addr} {ns : List Nat} {Q : VK} (hc : Room (k + 2) X.A) (F : FnOk X.prog X.w X.K X.mg X.base CX0 k f fd ps sp) (hb : Binds X.K fd ps []) (hsp : SpKey g ns sp) (I : Inv X pins σ H s) (hl : SqL X.K H l (ns.map fun (b : Nat) => V.int (b : Int)))
    (h : ∀ (ns' : List Nat) (p : Addr) (H' : Hp), ns'.Perm ns → (ns'.Pairwise fun a b => ¬ (g b < g a ∨ (g b = g a ∧ b < a))) → H p = none → H' p = some (.lst (ns'.map fun (b : Nat) => V.int (b : Int))) → Same H H' → Q (.ref p) H') :
    wpAny (model X.prog X.w) X.A (call (.builtin "sorted") [.ref l] [(Str.ofString "key", .ref f)]) (EP X pins σ Q) E s := by
  obtain ⟨vs, rv, hL, hz⟩ := I.list hl
  rw [List.length_map] at hz
  have hlv : vs.length = ns.length := by have := rv.length; rw [List.length_map] at this; exact this.symm
  have hZ2 : vs.length ≤ sizeLine := by omega
  refine call_function_entry_kw kind_sorted plain_sorted entry_sorted (ksk_s1 _ _) ?_
  unfold Builtin.«sorted»
  refine wpAny_bind (m := checkCount "sorted" 1 1 _) (wpAny_pure (wpAny_bind (collect_list hL.isList (wpAny_bind (wpAny_newList ?_ hZ2)) hZ2)))
  have ez := heapA_size s.heap vs
  unfold heapA at ez
  rw [ez]
  show wpAny _ _ _ _ _ { s with heap := heapB s.heap vs }
  have hoL := heapB_at s.heap vs
  have keep := fun b o => heapB_old (h := s.heap) (vs := vs) (b := b) (o := o)
  have hsz0 := heapB_size s.heap vs
  generalize heapB s.heap vs = h0 at hoL keep hsz0 ⊢
  generalize hA : s.heap.objs.size + 1 = a at hoL ⊢
  refine wpAny_bind (wpAny_holding (wpAny_call_entry_kw slot_list_sort ⟨_, hoL, rfl⟩ entry_list_sort ?body (ksk_l1 _ _)))
  case body =>
    rw [ksk_t1]
    unfold ksk_tree
    obtain ⟨e1, ho1⟩ : ∃ e1, (h0.update a (Obj.mapSeq fun _ => (#[] : Array Value))).get? a = some (seqObj "list" #[] e1) := ⟨_, get?_update_seq hoL fun _ => #[]⟩
    refine wpAny_bind (listItems_at hoL rfl (wpAny_bind (listUpdate_at hoL rfl ?_ (by rw [List.size_toArray]; exact hZ2) (Nat.zero_le _))))
    refine wpAny_bind (seqEpoch_at ho1 rfl (wpAny_bind (wpAny_newTuple ?_ (by show vs.length ≤ _; exact hZ2))))
    refine wpAny_bind (wpAny_newList (wpAny_holding ?_) (Nat.zero_le _))
    have keepB : ∀ b o, s.heap.get? b = some o → (heapC h0 a vs).get? b = some o := fun b o q =>
      Heap.get?_push_of_some _ ((Heap.get?_update_ne _ _ _ _ (Nat.ne_of_lt (by rw [← hA]; exact Nat.lt_succ_of_lt (Heap.lt_size q)))).trans (keep b o q))
    have hB : (heapC h0 a vs).objs.size = s.heap.objs.size + 3 := by
      unfold heapC
      rw [size_push', Heap.size_update, hsz0]
    have ho2 : (heapC h0 a vs).get? a = some (seqObj "list" #[] e1) := Heap.get?_push_of_some _ ho1
    have hsa : s.heap.objs.size ≤ a := by rw [← hA]; exact Nat.le_succ _
    have hfa : H a = none := I.hok.fresh hsa
    have IB : Inv X pins σ (upd H a (.frz (seqObj "list" #[] e1) (.lst []))) { s with heap := heapC h0 a vs } :=
      I.laid (t' := s.toks) keepB hsa ⟨ho2, Nat.zero_le _, [], e1, .nil, ho2⟩
    have IC := IB.laid (a := (heapC h0 a vs).objs.size) (o := .lst []) (t' := s.toks) (h' := (heapC h0 a vs).push (seqObj "list" #[] 0))
      (fun b o q => Heap.get?_push_of_some _ q) (Nat.le_refl _) ⟨Nat.zero_le _, [], 0, .nil, Heap.get?_push_size _ rfl⟩
    have hka : a ≠ (heapC h0 a vs).objs.size := Nat.ne_of_lt (by rw [hB, ← hA]; exact Nat.lt_add_of_pos_right (show 0 < 2 by decide))
    refine sk_rest (g := g) (ns := ns) (vs := vs) F hc.in1.in1 hb (fun H s I => I.env0.in1.in1) hsp IC (by rw [upd_ne hka]; exact upd_same) upd_same (fun o u e => ?_) rv (by omega) fun s' H' ns' p1 p2 I' e' sm => ⟨_, rfl, ?_⟩
    · have q := I.base.frzs a o u e
      rw [hfa] at q
      cases q
    · refine wpAny_pure ⟨_, rfl, .ref a, H', I', rfl, h ns' a H' p1 p2 hfa e' fun b o q => ?_⟩
      have hba : b ≠ a := ne_of_none q hfa
      have hbk : b ≠ (heapC h0 a vs).objs.size := by
        rw [hB]
        exact Nat.ne_of_lt (Nat.lt_of_lt_of_le (I.hok.lt q) (Nat.le_add_right _ _))
      exact sm b o (by rw [upd_ne hbk, upd_ne hba]; exact q) hba hbk
/-- sorted(e, key=f) -/
def tSortK (K : PySem.W.Frag) (g : Nat → Nat) (sp : Sp) (te : TE) : TE := fun σ H Q => tCons te tNil σ H fun vs H1 => ∃ (l : Addr) (ns : List Nat), vs = [.ref l] ∧ SqL K H1 l (ns.map fun (b : Nat) => V.int (b : Int)) ∧ SpKey g ns sp ∧
  ∀ (ns' : List Nat) (p : Addr) (H' : Hp), ns'.Perm ns → (ns'.Pairwise fun a b => ¬ (g b < g a ∨ (g b = g a ∧ b < a))) → H1 p = none → H' p = some (.lst (ns'.map fun (b : Nat) => V.int (b : Int))) → Same H1 H' → Q (.ref p) H'
theorem pe_sortedK {g : Nat → Nat} {fn : Str} {e : Expr} {te : TE} {p p2 p3 pos : Pos} (hc : Room (k + 2) X.A) (F : FnOk X.prog X.w X.K X.mg X.base CX0 k f fd ps sp) (hb : Binds X.K fd ps []) (hgs : Gl X "sorted") (hms : X.mg "sorted" = none) (hgf : Gl X fn) (hmf : X.mg fn = some (.ref f)) (he : PE X e te)
    (hs : starEach [e] X.env = [(false, eval e X.env)] := by rfl) (hdb : (fn == ("__debug__" : Str)) = false := by decide) :
    PE X (.Call (.Name "sorted" p) [e] [⟨some "key", .Name fn p2, p3⟩] pos) (tSortK X.K g sp te) := by
  intro pins s σ H Q I h
  refine wpAny_Call_Name_kw (ld_blt I hgs hms (show bootBuiltins "sorted" = some (.builtin "sorted") by decide +kernel) ?_)
  have ha : PA X [e] (tCons te tNil) := pa_cons he pa_nil hs
  have hkk : PK X [⟨some "key", .Name fn p2, p3⟩] (tCons (fun _ H Q => Q (.ref f) H) tNil) := pk_cons (fun pins s σ H Q I h => ld_glob I hgf hmf ⟨.ref f, H, I, rfl, h⟩ hdb) pk_nil
  refine callWith_kw (thn (ha pos pins s σ H _ I h) fun us s1 ⟨vs, H1, I1, r, l, ns, ev, hl, hsp, q⟩ => ?_) (by rw [hs]; rfl) (by rw [hs]; rfl)
  subst ev
  obtain ⟨u, rfl, rx⟩ := vals1 r
  obtain rfl : u = Value.ref l := rx
  refine thn (hkk pos pins s1 σ H1 (fun zs H2 => zs = [.ref f] ∧ H2 = H1) I1 ⟨rfl, rfl⟩) fun ws s2 ⟨zs, H2, I2, rz, ez, eH⟩ => ?_
  subst ez eH
  obtain ⟨v, rfl, rv⟩ := vals1 rz
  obtain rfl : v = Value.ref f := rv
  exact sk_sorted hc F hb hsp I2 hl q
end
end L2
end
section
set_option Elab.async false
set_option linter.all false
set_option maxRecDepth 100000
set_option maxHeartbeats 2000000
namespace Dsk
open PySem PySem.Spec PyProof.Rows L2
def top (i : Nat) : Stmt := PySem.Challenge.pw_oftentogetherdesk_s01_answers.main.body.getD i (.Pass ⟨0, 0, 0, 0⟩)
abbrev sHas : Stmt := top 2
abbrev sSup : Stmt := top 3
abbrev sClo : Stmt := top 4
/-! ### numbers as values -/
def nats (l : List Nat) : List V := l.map fun (b : Nat) => V.int (b : Int)
theorem nats_get {l : List Nat} {i : Nat} {y : V} (h : (nats l)[i]? = some y) : ∃ b, l[i]? = some b ∧ y = V.int (b : Int) := by
  unfold nats at h
  rw [List.getElem?_map] at h
  cases e : l[i]? with
  | none => rw [e] at h; cases h
  | some b => rw [e] at h; exact ⟨b, rfl, (Option.some.inj h).symm⟩
theorem nats_len (l : List Nat) : (nats l).length = l.length := by unfold nats; rw [List.length_map]
theorem and_nat (a b : Nat) : Builtin.bitAnd (a : Int) (b : Int) = ((a &&& b : Nat) : Int) := by
  unfold Builtin.bitAnd
  rw [decide_eq_true (Int.natCast_nonneg a), decide_eq_true (Int.natCast_nonneg b)]
  rfl
theorem take_snoc {α : Type} {l : List α} {i : Nat} {x : α} (h : l[i]? = some x) : l.take (i + 1) = l.take i ++ [x] := by
  rw [List.take_add_one, h]
  rfl
theorem sup_snoc (l : List Nat) (b w : Nat) : Rc52.support (l ++ [b]) w = Rc52.support l w + if Rc52.within w b = true then 1 else 0 := by
  unfold Rc52.support
  rw [List.filter_append, List.length_append, List.filter_cons, List.filter_nil]
  cases Rc52.within w b <;> rfl
theorem clo_snoc (l : List Nat) (b w : Nat) : Rc52.closure (l ++ [b]) w = if Rc52.within w b = true then Rc52.closure l w &&& b else Rc52.closure l w := by
  unfold Rc52.closure
  rw [List.filter_append, List.foldl_append, List.filter_cons, List.filter_nil]
  cases Rc52.within w b <;> rfl
theorem within_int (b w : Nat) : decide (V.int (Builtin.bitAnd (b : Int) (w : Int)) = V.int (w : Int)) = Rc52.within w b := by
  rw [dec_int, and_nat, Bool.eq_iff_iff, Dk.within_iff, beq_iff_eq, Nat.and_comm]
  omega
/-! ### the promises -/
def spHas : Sp := fun vs H Q _ => ∃ b w : Nat, vs = [.int (b : Int), .int (w : Int)] ∧ Q (.bl (Rc52.within w b)) H
def spSup (K : PySem.W.Frag) : Sp := fun vs H Q _ => ∃ (a : Addr) (l : List Nat) (w : Nat), vs = [.ref a, .int (w : Int)] ∧ SqL K H a (nats l) ∧ Q (.int (Rc52.support l w : Nat)) H
def spClo (K : PySem.W.Frag) : Sp := fun vs H Q _ => ∃ (a : Addr) (l : List Nat) (w : Nat), vs = [.ref a, .int (w : Int)] ∧ SqL K H a (nats l) ∧ Q (.int (Rc52.closure l w : Nat)) H
section
variable {P : Program} {w : World} {K : PySem.W.Frag} {mg : Str → Option Value} {base : Heap}
theorem scHas : FnScope ["basket", "wanted"] ["basket", "wanted"] (defScope sHas) := ⟨rfl, rfl, rfl, by decide +kernel, rfl, by decide +kernel, by decide +kernel⟩
theorem ok_has {f : Addr} {fd : FuncData} (F : Fun K "has_all" "has_all" sHas f fd) : FnOk P w K mg base CX0 1 f fd ["basket", "wanted"] spHas := by
  refine F.ok scHas (fun vs H Q E h => ?_) (fun cdv A outer s H vs Q E hr h => ?_)
  · obtain ⟨b, w, rfl, _⟩ := h
    rfl
  · obtain ⟨b, w, rfl, k⟩ := h
    refine ⟨_, pss_one (ps_ret (pe_cmpR op_eq (pe_op op_and (pv 0) (pv 1)) (pv 1) (nomark _))), ?_⟩
    refine ⟨_, rfl, _, rfl, _, _, rfl, rfl, _, rfl, rfl, ?_⟩
    show Q (.bl (decide (V.int (Builtin.bitAnd (b : Int) (w : Int)) = V.int (w : Int)))) H
    rw [within_int]
    exact k
theorem scSup : FnScope ["baskets", "wanted", "found", "basket"] ["baskets", "wanted"] (defScope sSup) := ⟨rfl, rfl, rfl, by decide +kernel, rfl, by decide +kernel, by decide +kernel⟩
theorem ok_sup {f fh : Addr} {fd fdh : FuncData} (F : Fun K "support_of" "support_of" sSup f fd) (mgH : mg "has_all" = some (.ref fh)) (FH : Fun K "has_all" "has_all" sHas fh fdh) (bH : Binds K fdh ["basket", "wanted"] []) :
    FnOk P w K mg base CX0 2 f fd ["baskets", "wanted"] (spSup K) := by
  have G : FnOk P w K mg base CX0 1 fh fdh ["basket", "wanted"] spHas := ok_has FH
  refine F.ok scSup (fun vs H Q E h => ?_) (fun cdv A outer s H vs Q E hr h => ?_)
  · obtain ⟨a, l, w, rfl, _⟩ := h
    rfl
  · obtain ⟨a, l, w, rfl, hS, k⟩ := h
    refine ⟨_, pss_cons (ps_set (i := 2) scSup.nd rfl (Or.inl rfl) pe_int)
      (pss_cons (ps_for PassesOwn.never rfl (pi_list (pv 0)) (pg_name (i := 3) scSup.nd rfl (Or.inl rfl))
        (pss_one (ps_if (pt_val (pe_call G hr rfl mgH FH.kp bH .nil pass0 (pa_cons (pv 3) (pa_cons (pv 1) pa_nil))))
          (pss_one (ps_set (i := 2) scSup.nd rfl (Or.inl rfl) (pe_op op_add (pv 2) pe_int))) pss_nil)))
      (pss_one (ps_ret (pv 2)))), ?_⟩
    refine ⟨_, rfl, a, rfl, ⟨_, hS⟩, for_list (K := K) (a := a) (xs := nats l) (fun i σ H' => ∃ v : Option V, σ = [some (.ref a), some (.int (w : Int)), some (.int (Rc52.support (l.take i) w : Nat)), v] ∧ H' = H)
      ⟨none, rfl, rfl⟩ (fun i σ H' _ ⟨_, _, e⟩ => by rw [e]; exact hS) ?_ ?_⟩
    · rintro i y σ H' hi ⟨v, rfl, rfl⟩
      obtain ⟨b, hb, rfl⟩ := nats_get hi
      refine ⟨_, rfl, _, rfl, b, w, rfl, _, rfl, ?_⟩
      refine ite2 (fun c => ?_) (fun c => ?_)
      · refine ⟨_, rfl, _, _, rfl, rfl, ?_⟩
        refine ⟨some (.int (b : Int)), ?_, rfl⟩
        rw [take_snoc hb, sup_snoc, if_pos c]
        rfl
      · refine ⟨some (.int (b : Int)), ?_, rfl⟩
        rw [take_snoc hb, sup_snoc, if_neg c]
        rfl
    · rintro σ H' ⟨v, rfl, rfl⟩
      rw [nats_len, List.take_length]
      exact ⟨_, rfl, k⟩
theorem scClo : FnScope ["baskets", "wanted", "shared", "basket"] ["baskets", "wanted"] (defScope sClo) := ⟨rfl, rfl, rfl, by decide +kernel, rfl, by decide +kernel, by decide +kernel⟩
theorem clo_nil (w : Nat) : ((Rc52.closure [] w : Nat) : Int) = 18446744073709551615 := by
  show (((2 ^ 64 - 1 : Nat) : Nat) : Int) = 18446744073709551615
  decide
theorem ok_clo {f fh : Addr} {fd fdh : FuncData} (F : Fun K "closure_of" "closure_of" sClo f fd) (hall : ∃ t, mg "ALL_THINGS" = some (.int 18446744073709551615 t)) (mgH : mg "has_all" = some (.ref fh)) (FH : Fun K "has_all" "has_all" sHas fh fdh) (bH : Binds K fdh ["basket", "wanted"] []) :
    FnOk P w K mg base CX0 2 f fd ["baskets", "wanted"] (spClo K) := by
  have G : FnOk P w K mg base CX0 1 fh fdh ["basket", "wanted"] spHas := ok_has FH
  obtain ⟨ta, hall⟩ := hall
  refine F.ok scClo (fun vs H Q E h => ?_) (fun cdv A outer s H vs Q E hr h => ?_)
  · obtain ⟨a, l, w, rfl, _⟩ := h
    rfl
  · obtain ⟨a, l, w, rfl, hS, k⟩ := h
    refine ⟨_, pss_cons (ps_set (i := 2) scClo.nd rfl (Or.inl rfl) (pe_glob (v := .int 18446744073709551615) rfl hall ⟨_, rfl⟩))
      (pss_cons (ps_for PassesOwn.never rfl (pi_list (pv 0)) (pg_name (i := 3) scClo.nd rfl (Or.inl rfl))
        (pss_one (ps_if (pt_val (pe_call G hr rfl mgH FH.kp bH .nil pass0 (pa_cons (pv 3) (pa_cons (pv 1) pa_nil))))
          (pss_one (ps_set (i := 2) scClo.nd rfl (Or.inl rfl) (pe_op op_and (pv 2) (pv 3)))) pss_nil)))
      (pss_one (ps_ret (pv 2)))), ?_⟩
    refine ⟨_, rfl, a, rfl, ⟨_, hS⟩, for_list (K := K) (a := a) (xs := nats l) (fun i σ H' => ∃ v : Option V, σ = [some (.ref a), some (.int (w : Int)), some (.int (Rc52.closure (l.take i) w : Nat)), v] ∧ H' = H)
      ⟨none, by rw [List.take_zero, clo_nil]; rfl, rfl⟩ (fun i σ H' _ ⟨_, _, e⟩ => by rw [e]; exact hS) ?_ ?_⟩
    · rintro i y σ H' hi ⟨v, rfl, rfl⟩
      obtain ⟨b, hb, rfl⟩ := nats_get hi
      refine ⟨_, rfl, _, rfl, b, w, rfl, _, rfl, ?_⟩
      refine ite2 (fun c => ?_) (fun c => ?_)
      · refine ⟨_, rfl, _, rfl, _, _, rfl, rfl, ?_⟩
        refine ⟨some (.int (b : Int)), ?_, rfl⟩
        rw [take_snoc hb, clo_snoc, if_pos c, ← and_nat]
        rfl
      · refine ⟨some (.int (b : Int)), ?_, rfl⟩
        rw [take_snoc hb, clo_snoc, if_neg c]
        rfl
    · rintro σ H' ⟨v, rfl, rfl⟩
      rw [nats_len, List.take_length]
      exact ⟨_, rfl, k⟩
end
end Dsk
end
section
set_option Elab.async false
set_option linter.all false
set_option maxRecDepth 100000
set_option maxHeartbeats 2000000
namespace Dsk
open PySem PySem.Spec PyProof.Rows L2
abbrev sBegin : Stmt := top 38
abbrev sBasket : Stmt := top 39
abbrev sSupport : Stmt := top 40
abbrev sClosure : Stmt := top 41
abbrev sCall : Stmt := top 49
structure Txt (mg : Str → Option Value) : Prop where
  all : ∃ t, mg "ALL_THINGS" = some (.int 18446744073709551615 t)
  most : ∃ t, mg "MOST_BASKETS" = some (.int 512 t)
  room : ∃ t, mg "NO_ROOM" = some (.int (-2) t)
  c0 : ∃ t, mg "BEGIN" = some (.int 0 t)
  c1 : ∃ t, mg "BASKET" = some (.int 1 t)
  c2 : ∃ t, mg "SUPPORT" = some (.int 2 t)
  c3 : ∃ t, mg "CLOSURE" = some (.int 3 t)
  c4 : ∃ t, mg "SETS" = some (.int 4 t)
  c5 : ∃ t, mg "SET_AT" = some (.int 5 t)
  c6 : ∃ t, mg "RULES" = some (.int 6 t)
  msets : ∃ t, mg "MOST_SETS" = some (.int 65536 t)
  mrules : ∃ t, mg "MOST_RULES" = some (.int 65536 t)
  mleast : ∃ t, mg "MOST_LEAST" = some (.int 512 t)
  mden : ∃ t, mg "MOST_DEN" = some (.int 1000000 t)
  lkind : ∃ t, mg "LAST_KIND" = some (.int 2 t)
  closed : ∃ t, mg "CLOSED" = some (.int 1 t)
  great : ∃ t, mg "GREATEST" = some (.int 2 t)
  outside : ∃ t, mg "OUTSIDE" = some (.int (-1) t)
  nothere : ∃ t, mg "NOT_THERE" = some (.int (-1) t)
  toomany : ∃ t, mg "TOO_MANY" = some (.int (-2) t)
  len : mg "len" = none
  lst : mg "list" = none
  sum : mg "sum" = none
  max : mg "max" = none
  sorted : mg "sorted" = none
/-- a call's end: the baskets, a new list of what is answered, all else as it was -/
def Ans (H : Hp) (bk : Addr) (out : List Nat × List Int) (Q : VK) : Prop := ∀ (H' : Hp) (r : Addr), H' bk = some (.lst (nats out.1)) → H' r = some (.lst (out.2.map V.int)) → H r = none → (∀ b o, H b = some o → b ≠ bk → H' b = some o) → Q (.ref r) H'
def spBegin : Sp := fun vs H Q _ => ∃ (bk : Addr) (S : List Nat), vs = [.ref bk] ∧ H bk = some (.lst (nats S)) ∧ Ans H bk (Rc52Neutral.step S [[0]]) Q
/-- the calls with one set -/
def spOne (p : Int) : Sp := fun vs H Q _ => ∃ (bk : Addr) (S : List Nat) (a : Nat), vs = [.ref bk, .int (a : Int)] ∧ H bk = some (.lst (nats S)) ∧ S.length ≤ 512 ∧ Ans H bk (Rc52Neutral.step S [[p, (a : Int)]]) Q
section
variable {P : Program} {w : World} {K : PySem.W.Frag} {mg : Str → Option Value} {base : Heap}
/-- the baskets stand, a new list is given back -/
theorem Ans.new {H : Hp} {bk : Addr} {S : List Nat} {out : List Int} {Q : VK} (k : Ans H bk (S, out) Q) (hb : H bk = some (.lst (nats S))) {r : Addr} (hr : H r = none) : Q (.ref r) (upd H r (.lst (out.map V.int))) :=
  k _ r (by rw [upd_ne (ne_of_none hb hr)]; exact hb) upd_same hr fun b o e _ => by rw [upd_ne (ne_of_none e hr)]; exact e
theorem Ans.put {H : Hp} {bk : Addr} {S : List Nat} {S' : List Nat} {out : List Int} {Q : VK} (k : Ans H bk (S', out) Q) (hb : H bk = some (.lst (nats S))) {r : Addr} (hr : upd H bk (.lst (nats S')) r = none) : Q (.ref r) (upd (upd H bk (.lst (nats S'))) r (.lst (out.map V.int))) := by
  have e1 : upd H bk (.lst (nats S')) bk = some (.lst (nats S')) := upd_same
  have n : bk ≠ r := ne_of_none e1 hr
  have hr0 : H r = none := by rw [upd_ne (Ne.symm n)] at hr; exact hr
  exact k _ r (by rw [upd_ne n]; exact e1) upd_same hr0 fun b o e hb' => by rw [upd_ne (ne_of_none e hr0), upd_ne hb']; exact e
theorem scBegin : FnScope ["baskets"] ["baskets"] (defScope sBegin) := ⟨rfl, rfl, rfl, by decide +kernel, rfl, by decide +kernel, by decide +kernel⟩
theorem ok_begin {f : Addr} {fd : FuncData} (F : Fun K "answer_begin" "answer_begin" sBegin f fd) : FnOk P w K mg base CX0 1 f fd ["baskets"] spBegin := by
  refine F.ok scBegin (fun vs H Q E h => ?_) (fun cdv A outer s H vs Q E hr h => ?_)
  · obtain ⟨bk, S, rfl, _⟩ := h
    rfl
  · obtain ⟨bk, S, rfl, hb, k⟩ := h
    refine ⟨_, pss_cons (ps_expr (pe_bm0 PySem.F.plainAttrs_list PySem.F.slot_list_clear PySem.F.type_list_clear mt_clear (pv 0))) (pss_one (ps_ret (pe_lst (pa_cons pe_int pa_nil)))), ?_⟩
    refine ⟨_, rfl, .inl ⟨rfl, _, SqL.of hb⟩, bk, _, rfl, rfl, hb, (by show 1 ≤ sizeLine; decide), fun l hl => ?_⟩
    rw [Dk.step0] at k
    exact k.put (S := S) hb hl
theorem scBasket : FnScope ["baskets", "things", "number"] ["baskets", "things"] (defScope sBasket) := ⟨rfl, rfl, rfl, by decide +kernel, rfl, by decide +kernel, by decide +kernel⟩
theorem ok_basket {f : Addr} {fd : FuncData} (F : Fun K "answer_basket" "answer_basket" sBasket f fd) (T : Txt mg) : FnOk P w K mg base CX0 1 f fd ["baskets", "things"] (spOne 1) := by
  obtain ⟨t1, hmost⟩ := T.most
  obtain ⟨t2, hroom⟩ := T.room
  refine F.ok scBasket (fun vs H Q E h => ?_) (fun cdv A outer s H vs Q E hr h => ?_)
  · obtain ⟨bk, S, a, rfl, _⟩ := h
    rfl
  · obtain ⟨bk, S, a, rfl, hb, hn, k⟩ := h
    refine ⟨_, pss_cons (ps_set (i := 2) scBasket.nd rfl (Or.inl rfl) (pe_callB call_len_seq (by rfl) T.len PySem.boot_len (pa_cons (pv 0) pa_nil)))
      (pss_cons (ps_if (pt_cmpR op_ge (pv 2) (pe_glob (v := .int 512) rfl hmost ⟨_, rfl⟩) (nomark _)) (pss_one (ps_ret (pe_lst (pa_cons (pe_glob (v := .int (-2)) rfl hroom ⟨_, rfl⟩) pa_nil)))) pss_nil)
      (pss_cons (ps_expr (pe_bm PySem.F.plainAttrs_list PySem.F.slot_list_append PySem.F.type_list_append mt_append (pv 0) (pa_cons (pv 1) pa_nil)))
      (pss_one (ps_ret (pe_lst (pa_cons (pv 2) pa_nil)))))), ?_⟩
    refine ⟨_, rfl, bk, _, rfl, .inl (SqL.of hb), ?_⟩
    refine ⟨_, rfl, _, _, rfl, rfl, _, rfl, ?_⟩
    rw [Dk.step1] at k
    refine ite2 (fun c => ?_) (fun c => ?_)
    · rw [if_pos (by simp [nats_len] at c; omega)] at k
      refine ⟨(by show 1 ≤ sizeLine; decide), fun l hl => ?_⟩
      exact k.new hb hl
    · rw [if_neg (by simp [nats_len] at c; omega)] at k
      refine ⟨_, rfl, .inl ⟨rfl, _, SqL.of hb⟩, _, rfl, bk, _, _, rfl, rfl, hb, (by rw [nats_len]; exact Nat.lt_of_le_of_lt hn (by decide)), ?_⟩
      refine ⟨_, rfl, (by show 1 ≤ sizeLine; decide), fun l hl => ?_⟩
      have e : nats S ++ [V.int (a : Int)] = nats (S ++ [(a : Int).toNat]) := by
        unfold nats
        rw [List.map_append]
        rfl
      rw [e] at hl ⊢
      rw [nats_len]
      exact k.put hb hl
theorem scSupport : FnScope ["baskets", "wanted"] ["baskets", "wanted"] (defScope sSupport) := ⟨rfl, rfl, rfl, by decide +kernel, rfl, by decide +kernel, by decide +kernel⟩
theorem ok_support {f fs fh : Addr} {fd fds fdh : FuncData} (F : Fun K "answer_support" "answer_support" sSupport f fd) (mgS : mg "support_of" = some (.ref fs)) (FS : Fun K "support_of" "support_of" sSup fs fds) (bS : Binds K fds ["baskets", "wanted"] [])
    (G : FnOk P w K mg base CX0 2 fs fds ["baskets", "wanted"] (spSup K)) : FnOk P w K mg base CX0 3 f fd ["baskets", "wanted"] (spOne 2) := by
  refine F.ok scSupport (fun vs H Q E h => ?_) (fun cdv A outer s H vs Q E hr h => ?_)
  · obtain ⟨bk, S, a, rfl, _⟩ := h
    rfl
  · obtain ⟨bk, S, a, rfl, hb, hn, k⟩ := h
    refine ⟨_, pss_one (ps_ret (pe_lst (pa_cons (pe_call G hr rfl mgS FS.kp bS .nil pass0 (pa_cons (pv 0) (pa_cons (pv 1) pa_nil))) pa_nil))), ?_⟩
    refine ⟨_, rfl, _, rfl, bk, S, a, rfl, SqL.of hb, ?_⟩
    refine ⟨(by show 1 ≤ sizeLine; decide), fun l hl => ?_⟩
    rw [Dk.step2] at k
    exact k.new hb hl
theorem scClosure : FnScope ["baskets", "wanted", "closure", "closed"] ["baskets", "wanted"] (defScope sClosure) := ⟨rfl, rfl, rfl, by decide +kernel, rfl, by decide +kernel, by decide +kernel⟩
theorem ok_closure {f fs : Addr} {fd fds : FuncData} (F : Fun K "answer_closure" "answer_closure" sClosure f fd) (mgS : mg "closure_of" = some (.ref fs)) (FS : Fun K "closure_of" "closure_of" sClo fs fds) (bS : Binds K fds ["baskets", "wanted"] [])
    (G : FnOk P w K mg base CX0 2 fs fds ["baskets", "wanted"] (spClo K)) : FnOk P w K mg base CX0 3 f fd ["baskets", "wanted"] (spOne 3) := by
  refine F.ok scClosure (fun vs H Q E h => ?_) (fun cdv A outer s H vs Q E hr h => ?_)
  · obtain ⟨bk, S, a, rfl, _⟩ := h
    rfl
  · obtain ⟨bk, S, a, rfl, hb, hn, k⟩ := h
    refine ⟨_, pss_cons (ps_set (i := 2) scClosure.nd rfl (Or.inl rfl) (pe_call G hr rfl mgS FS.kp bS .nil pass0 (pa_cons (pv 0) (pa_cons (pv 1) pa_nil))))
      (pss_cons (ps_set (i := 3) scClosure.nd rfl (Or.inl rfl) (pe_ifExp (pt_cmpR op_eq (pv 2) (pv 1) (nomark _)) pe_int pe_int))
      (pss_one (ps_ret (pe_lst (pa_cons (pv 3) (pa_cons (pv 2) pa_nil)))))), ?_⟩
    refine ⟨_, rfl, _, rfl, bk, S, a, rfl, SqL.of hb, ?_⟩
    refine ⟨_, rfl, _, rfl, rfl, _, rfl, ?_⟩
    rw [Dk.step3] at k
    have e : decide (V.int (Rc52.closure S a : Nat) = V.int (a : Int)) = decide (Rc52.closure S (a : Int).toNat = (a : Int).toNat) := by
      rw [dec_int, Bool.eq_iff_iff, beq_iff_eq, decide_eq_true_eq, Int.toNat_natCast]
      omega
    rw [e]
    refine ite2 (fun c => ?_) (fun c => ?_)
    · rw [if_pos (of_decide_eq_true c)] at k
      refine ⟨_, rfl, _, rfl, (by show 2 ≤ sizeLine; decide), fun l hl => ?_⟩
      exact k.new hb hl
    · rw [if_neg (fun q => c (decide_eq_true q))] at k
      refine ⟨_, rfl, _, rfl, (by show 2 ≤ sizeLine; decide), fun l hl => ?_⟩
      exact k.new hb hl
end
end Dsk
end
section
set_option Elab.async false
set_option linter.all false
set_option maxRecDepth 100000
set_option maxHeartbeats 2000000
namespace L2
open PySem PySem.Spec PyProof.Rows
/-! ### a dict of the text's top, read by an int -/
def atD (D : List (Int × V)) (i : Int) : Option V := (D.find? fun p => decide (p.1 = i)).map (·.2)
/-- the dict at d of the text's own objects: its keys ints, its values told by D -/
def TabK (P : Program) (w : World) (K : PySem.W.Frag) (d : Addr) (D : List (Int × V)) : Prop := ∃ (o : Obj) (kvs : List (Int × Value)), K.lookup d = some o ∧ o.IsDictOf (intKind P w) kvs ∧ Paired (fun (p : Int × V) (q : Int × Value) => p.1 = q.1 ∧ RelV p.2 q.2) D kvs
theorem atD_rel {D : List (Int × V)} {kvs : List (Int × Value)} (h : Paired (fun (p : Int × V) (q : Int × Value) => p.1 = q.1 ∧ RelV p.2 q.2) D kvs) {i : Int} {v : V} (e : atD D i = some v) : ∃ u, valueAt kvs i = some u ∧ RelV v u := by
  induction h with
  | nil => simp [atD] at e
  | @cons p q ps qs r t ih =>
    unfold atD at e ih
    unfold valueAt at ih ⊢
    rw [List.find?_cons] at e ⊢
    rw [← r.1]
    cases hd : decide (p.1 = i) with
    | true =>
      rw [hd] at e
      have e' : p.2 = v := Option.some.inj e
      exact ⟨q.2, rfl, e' ▸ r.2⟩
    | false =>
      rw [hd] at e
      exact ih e
section
variable {X : Cx} {o i : Expr} {td ty : TE} {pos : Pos} {d : Addr} {D : List (Int × V)}
def tTab (d : Addr) (D : List (Int × V)) (td ty : TE) : TE := fun σ H Q => td σ H fun x H1 => ty σ H1 fun y H2 => ∃ k v, x = .ref d ∧ y = .int k ∧ atD D k = some v ∧ Q v H2
theorem pe_dtab (T : TabK X.prog X.w X.K d D) (ho : PE X o td) (hi : PE X i ty) (hs : NoSl i) : PE X (.Subscript o i pos) (tTab d D td ty) := by
  intro pins s σ H Q I h
  obtain ⟨ob, kvs, hk, hd, rel⟩ := T
  refine subD_of PySem.F.slot_dict_getitem.lookup hs (thn (ho pins s σ H _ I h) fun u s1 ⟨x, H1, I1, rx, q1⟩ => thn (hi pins s1 σ H1 _ I1 q1) fun iv s2 ⟨y, H2, I2, ry, k, v, ex, ey, g, q2⟩ => ?_)
  subst ex
  subst ey
  obtain rfl : u = Value.ref d := rx
  obtain ⟨t, rfl⟩ := ry
  obtain ⟨w', hw, rw'⟩ := atD_rel rel g
  have dd : s2.heap.DictOf (intKind X.prog X.w) d kvs := Heap.dictOf_iff.mpr ⟨ob, I2.kIn d ob hk, hd⟩
  exact ⟨dd.typeIs, wpAny_getItem_of (intKind_is X.prog X.w k t) dd.mapOf hw ⟨v, H2, I2.tok _, rw', q2⟩⟩
end
/-- a table of the text's top, by its entries -/
def EntOk (p : Int × Int) (e : DictEntry) : Prop := (∃ t, e.key = .int p.1 t) ∧ (∃ t, e.val = .int p.2 t) ∧ e.hash = hashInt p.1
theorem tab_mk {P : Program} {w : World} {K : PySem.W.Frag} {d : Addr} {es : Array DictEntry} {ep : Nat} {D : List (Int × Int)} (l : K.lookup d = some ⟨.type "dict", none, .dict es ep, #[]⟩) (r : Paired EntOk D es.toList) (nd : (D.map (·.1)).Nodup) :
    TabK P w K d (D.map fun p => (p.1, .int p.2)) := by
  have all : ∀ (D : List (Int × Int)) (el : List DictEntry), Paired EntOk D el → ∃ kvs : List (Int × Value), (∀ e ∈ el, ∃ k, (intKind P w).is k e.key = true ∧ e.hash = (intKind P w).hash k) ∧ Pairs (intKind P w) el kvs ∧ kvs.map (·.1) = D.map (·.1) ∧
      Paired (fun (p : Int × V) (q : Int × Value) => p.1 = q.1 ∧ RelV p.2 q.2) (D.map fun p => (p.1, V.int p.2)) kvs := by
    intro D el h
    induction h with
    | nil => exact ⟨[], (fun _ q => nomatch q), .nil, rfl, .nil⟩
    | @cons p e ps es r t ih =>
      obtain ⟨⟨t1, h1⟩, ⟨t2, h2⟩, h3⟩ := r
      obtain ⟨kvs, i1, i2, i3, i4⟩ := ih
      have his : (intKind P w).is p.1 e.key = true := by rw [h1]; exact intKind_is P w p.1 t1
      refine ⟨(p.1, e.val) :: kvs, ?_, .cons his rfl i2, ?_, .cons ⟨rfl, t2, h2⟩ i4⟩
      · intro x hx
        rcases List.mem_cons.mp hx with q | q
        · subst q
          exact ⟨p.1, his, h3⟩
        · exact i1 x q
      · rw [List.map_cons, List.map_cons, i3]
  obtain ⟨kvs, h1, h2, h3, h4⟩ := all D es.toList r
  exact ⟨_, kvs, l, ⟨es, ep, ⟨rfl, rfl, rfl⟩, rfl, fun e he => h1 e (by simpa using he), h2, by rw [h3]; exact nd⟩, h4⟩
end L2
end
section
set_option Elab.async false
set_option linter.all false
set_option maxRecDepth 100000
set_option maxHeartbeats 2000000
namespace Dsk
open PySem PySem.Spec PyProof.Rows L2
abbrev sAnswers : Stmt := top 50
def spCall (U : Nat) : Sp := fun vs H Q _ => ∃ (bk nb : Addr) (S : List Nat) (p : Int) (args : List Int), vs = [.ref bk, .int p, .ref nb] ∧ H bk = some (.lst (nats S)) ∧ H nb = some (.lst (args.map V.int)) ∧ Dk.Width p args.length ∧
  Rc52Neutral.asked1 [p :: args] = true ∧ Dk.Held U S ∧ Ans H bk (Rc52Neutral.step S [p :: args]) Q
def spAnswers (K : PySem.W.Frag) : Sp := fun vs H Q _ => ∃ (a : Addr) (ns : List Int), vs = [.ref a] ∧ SqL K H a (ns.map V.int) ∧ PyRc52.answers_asked ns = true ∧ ∀ (H' : Hp) (p : Addr), H' p = some (.lst ((PyRc52.answers ns).map V.int)) → Q (.ref p) H'
/-- the numbers behind each call -/
def behind : List (Int × V) := [(0, .int 0), (1, .int 1), (2, .int 1), (3, .int 1), (4, .int 2), (5, .int 3), (6, .int 3), (7, .int 4)]
theorem behind_at {p : Int} {n : Nat} (h : Dk.Width p n) : atD behind p = some (.int (n : Int)) := by
  rcases h with ⟨rfl, rfl⟩ | ⟨rfl, rfl⟩ | ⟨rfl, rfl⟩ | ⟨rfl, rfl⟩ | ⟨rfl, rfl⟩ | ⟨rfl, rfl⟩ | ⟨rfl, rfl⟩ | ⟨rfl, rfl⟩ <;> rfl
theorem drop_at {ns : List Int} {i : Nat} {p : Int} {r : List Int} (h : ns.drop i = p :: r) : ns[i]? = some p := by
  have := List.getElem?_drop (xs := ns) (i := i) (j := 0)
  rw [h] at this
  simpa using this.symm
theorem cut_args {ns : List Int} {i : Nat} {p : Int} {args r : List Int} (h : ns.drop i = p :: (args ++ r)) : cutV (ns.map V.int) (some ((i : Int) + 1)) (some ((i : Int) + 1 + (args.length : Int))) = args.map V.int := by
  have hl : ns.length = i + 1 + args.length + r.length := by
    have h1 := congrArg List.length h
    rw [List.length_drop, List.length_cons, List.length_append] at h1
    omega
  have e1 : ((i : Int) + 1) = ((i + 1 : Nat) : Int) := (Int.natCast_succ i).symm
  have e2 : ((i : Int) + 1 + (args.length : Int)) = ((i + 1 + args.length : Nat) : Int) := by omega
  unfold cutV
  rw [e2, e1, HT.sIx_nat, HT.sIx_nat, List.length_map]
  have m1 : min (i + 1) ns.length = i + 1 := by omega
  have m2 : min (i + 1 + args.length) ns.length = i + 1 + args.length := by omega
  rw [m1, m2, ← List.map_drop, ← List.map_take]
  have d1 : ns.drop (i + 1) = args ++ r := by
    rw [← List.drop_drop, h]; rfl
  rw [d1, show i + 1 + args.length - (i + 1) = args.length by omega, List.take_left]
theorem drop_next {ns : List Int} {i : Nat} {p : Int} {args r : List Int} (h : ns.drop i = p :: (args ++ r)) : ns.drop (i + 1 + args.length) = r := by
  rw [← List.drop_drop, ← List.drop_drop, h]
  simp
/-- what the loop's place is -/
def placeOf (σ : List (Option V)) : Nat := match σ[3]? with
  | some (some (V.int i)) => i.toNat
  | _ => 0
section
variable {P : Program} {w : World} {K : PySem.W.Frag} {mg : Str → Option Value} {base : Heap}
theorem scAnswers : FnScope ["calls", "baskets", "told", "at", "behind", "answer"] ["calls"] (defScope sAnswers) := ⟨rfl, rfl, rfl, by decide +kernel, rfl, by decide +kernel, by decide +kernel⟩
theorem ok_answers {f fc tb : Addr} {fd fdc : FuncData} (F : Fun K "answers" "answers" sAnswers f fd) (T : Txt mg) (mgT : mg "NUMBERS_BEHIND" = some (.ref tb)) (TB : TabK P w K tb behind)
    (mgC : mg "answer_call" = some (.ref fc)) (kpC : PySem.W.keepIn K (.ref fc) = true) (bC : Binds K fdc ["baskets", "call", "numbers"] [])
    (G : ∀ U, U < 2 ^ 64 → Rc52.size U ≤ 12 → FnOk P w K mg base CX0 8 fc fdc ["baskets", "call", "numbers"] (spCall U)) : FnOk P w K mg base CX0 9 f fd ["calls"] (spAnswers K) := by
  refine F.ok scAnswers (fun vs H Q E h => ?_) (fun cdv A outer s H vs Q E hr h => ?_)
  · obtain ⟨a, ns, rfl, _⟩ := h
    rfl
  · obtain ⟨a, ns, rfl, hS, hask, k⟩ := h
    obtain ⟨cs, U, hR, hA, hF, hU, hz, hc, _⟩ := Dk.asked_line hask
    have GC := G U hU hz
    refine ⟨_, pss_cons (ps_set (i := 1) scAnswers.nd rfl (Or.inl rfl) (pe_lst pa_nil))
      (pss_cons (ps_set (i := 2) scAnswers.nd rfl (Or.inl rfl) (pe_lst pa_nil))
      (pss_cons (ps_set (i := 3) scAnswers.nd rfl (Or.inl rfl) pe_int)
      (pss_cons (ps_while PassesOwn.never (pt_cmpR op_lt (pv 3) (pe_callB call_len_seq (by rfl) T.len PySem.boot_len (pa_cons (pv 0) pa_nil)) (nomark _))
        (pss_cons (ps_set (i := 4) scAnswers.nd rfl (Or.inl rfl) (pe_op op_add (pe_op op_add (pv 3) pe_int) (pe_dtab TB (pe_glob (v := .ref tb) rfl mgT rfl) (pe_ix ix_list (pv 0) (pv 3) (fun _ _ => rfl)) (fun _ _ => rfl))))
        (pss_cons (ps_set (i := 5) scAnswers.nd rfl (Or.inl rfl) (pe_call GC hr rfl mgC kpC bC .nil pass0 (pa_cons (pv 1) (pa_cons (pe_ix ix_list (pv 0) (pv 3) (fun _ _ => rfl)) (pa_cons (pe_slice sl_list (pv 0) (po_some (pe_op op_add (pv 3) pe_int)) (po_some (pv 4))) pa_nil)))))
        (pss_cons (ps_expr (pe_bm PySem.F.plainAttrs_list PySem.F.slot_list_append PySem.F.type_list_append mt_append (pv 2) (pa_cons (pe_callB call_len_seq (by rfl) T.len PySem.boot_len (pa_cons (pv 5) pa_nil)) pa_nil)))
        (pss_cons (ps_expr (pe_bm PySem.F.plainAttrs_list PySem.F.slot_list_extend PySem.F.type_list_extend mt_extend (pv 2) (pa_cons (pv 5) pa_nil)))
        (pss_one (ps_set (i := 3) scAnswers.nd rfl (Or.inl rfl) (pv 4))))))))
      (pss_one (ps_ret (pv 2)))))), ?_⟩
    refine ⟨Nat.zero_le _, fun bk hbk => ?_⟩
    refine ⟨Nat.zero_le _, fun tl htl => ?_⟩
    have nbt : bk ≠ tl := ne_of_none (H := upd H bk (.lst [])) upd_same htl
    have s1 : Same H (upd H bk (.lst [])) := fun b o e => by rw [upd_ne (ne_of_none e hbk)]; exact e
    have s2 : Same (upd H bk (.lst [])) (upd (upd H bk (.lst [])) tl (.lst [])) := fun b o e => by rw [upd_ne (ne_of_none e htl)]; exact e
    refine while_by (fun σ H' => ∃ (i : Nat) (S : List Nat) (td : List Int) (cs : List (List (List Int))) (v4 v5 : Option V), σ = [some (.ref a), some (.ref bk), some (.ref tl), some (.int (i : Int)), v4, v5] ∧
        H' bk = some (.lst (nats S)) ∧ H' tl = some (.lst (td.map V.int)) ∧ Same H H' ∧ Dk.Reads (ns.drop i) cs ∧ i ≤ ns.length ∧ Dk.Fine U cs ∧ Dk.Held U S ∧ td ++ PyFlat.told (PyFlat.played Rc52Neutral.step S cs) = PyRc52.answers ns ∧ td.length + 5 * cs.length ≤ 3000)
      (fun σ _ => ns.length - placeOf σ) ?_ ?_ ?_
    · refine ⟨0, [], [], cs, none, none, rfl, ?_, upd_same, s1.trans s2, hR, Nat.zero_le _, hF, .nil, hA.symm, by simp; omega⟩
      rw [upd_ne nbt]
      exact upd_same
    · rintro σ H' ⟨i, S, td, cs, v4, v5, rfl, hb, ht, sm, hR, hi, hF, hH, hT, hc⟩
      refine ⟨_, rfl, _, rfl, a, _, rfl, .inl (sm.seq hS), _, _, rfl, rfl, _, rfl, ?_⟩
      rw [List.length_map]
      refine ite2 (fun c => ?_) (fun c => ?_)
      · have hlt : i < ns.length := by simp at c; omega
        obtain ⟨p, args, r, cs', e1, rfl, hR', hw⟩ := hR.next (by intro q; have := congrArg List.length q; simp at this; omega)
        have hp := drop_at e1
        have hpV : (ns.map V.int)[i]? = some (V.int p) := by rw [List.getElem?_map, hp]; rfl
        refine ⟨_, rfl, _, _, rfl, rfl, _, rfl, _, rfl, a, _, _, _, rfl, rfl, sm.seq hS, atI_nat hpV, p, _, rfl, rfl, behind_at hw, _, _, rfl, rfl, ?_⟩
        refine ⟨_, rfl, _, rfl, _, rfl, a, _, _, _, rfl, rfl, sm.seq hS, atI_nat hpV, _, rfl, _, rfl, _, _, rfl, rfl, _, rfl, _, rfl, _, rfl, a, _, rfl, sm.seq hS, fun nb hnb => ?_⟩
        have hb1 : upd H' nb (.lst (cutV (ns.map V.int) (some ((i : Int) + 1)) (some ((i : Int) + 1 + (args.length : Int))))) bk = some (.lst (nats S)) := by rw [upd_ne (ne_of_none hb hnb)]; exact hb
        have ht1 : upd H' nb (.lst (cutV (ns.map V.int) (some ((i : Int) + 1)) (some ((i : Int) + 1 + (args.length : Int))))) tl = some (.lst (td.map V.int)) := by rw [upd_ne (ne_of_none ht hnb)]; exact ht
        have sm1 : Same H (upd H' nb (.lst (cutV (ns.map V.int) (some ((i : Int) + 1)) (some ((i : Int) + 1 + (args.length : Int)))))) := fun b o e => by rw [upd_ne (ne_of_none (sm b o e) hnb)]; exact sm b o e
        refine ⟨bk, nb, S, p, args, rfl, hb1, by rw [cut_args e1]; exact upd_same, hw, hF.each _ (by simp), hH, fun H2 r2 hb2 hr2 hrn kp => ?_⟩
        have ht2 := kp tl _ ht1 (Ne.symm nbt)
        have ntr : tl ≠ r2 := ne_of_none ht1 hrn
        have sm2 : Same H H2 := fun b o e => kp b o (sm1 b o e) fun q => by rw [q, hbk] at e; cases e
        have hl4 := Dk.step_len S hw
        have hc' : td.length + 5 * (cs'.length + 1) ≤ 3000 := hc
        have big : 3000 < sizeLine := by decide
        refine ⟨_, rfl, .inl ⟨rfl, _, SqL.of ht2⟩, _, rfl, r2, _, rfl, .inl (SqL.of hr2), tl, _, _, rfl, rfl, ht2, (by rw [List.length_map]; omega), ?_⟩
        refine ⟨_, rfl, .inl ⟨rfl, _, SqL.of upd_same⟩, _, rfl, tl, r2, _, _, rfl, rfl, upd_same, (by rw [upd_ne (Ne.symm ntr)]; exact hr2), (by rw [List.length_append, List.length_map, List.length_map, List.length_singleton]; omega), ?_⟩
        refine ⟨_, rfl, ?_⟩
        refine ⟨⟨i + 1 + args.length, (Rc52Neutral.step S [p :: args]).1, td ++ ((((Rc52Neutral.step S [p :: args]).2.length : Nat) : Int) :: (Rc52Neutral.step S [p :: args]).2), cs', some (.int ((i : Int) + 1 + (args.length : Int))), some (.ref r2), ?_, ?_, ?_, ?_, ?_, ?_, hF.tail, Dk.step_held hw hH hF, ?_, ?_⟩, ?_⟩
        · have e2 : ((i : Int) + 1 + (args.length : Int)) = ((i + 1 + args.length : Nat) : Int) := by omega
          rw [← e2]
          rfl
        · rw [upd_ne nbt, upd_ne nbt]
          exact hb2
        · rw [upd_same]
          simp
        · intro b o e
          have nb' : b ≠ tl := fun q => by rw [q] at e; rw [s1 _ _ e] at htl; cases htl
          rw [upd_ne nb', upd_ne nb']
          exact sm2 b o e
        · rw [drop_next e1]
          exact hR'
        · have h1 := congrArg List.length e1
          rw [List.length_drop, List.length_cons, List.length_append] at h1
          omega
        · rw [← hT, Dk.played_cons, Dk.told_cons, List.append_assoc]
        · rw [List.length_append, List.length_cons]
          omega
        · have e2 : ((i : Int) + 1 + (args.length : Int)).toNat = i + 1 + args.length := by omega
          show ns.length - ((i : Int) + 1 + (args.length : Int)).toNat < ns.length - (i : Int).toNat
          rw [e2, Int.toNat_natCast]
          omega
      · have hge : i = ns.length := by simp at c; omega
        subst hge
        have e0 : cs = [] := hR.nil_iff (by simp)
        subst e0
        rw [Dk.played_nil, Dk.told_nil, List.append_nil] at hT
        subst hT
        exact ⟨_, rfl, k _ _ ht⟩
    · intro σ H Q Q' hq h
      obtain ⟨x, h1, y, h2, p, ys, h3, h4, i, j, h5, h6, k, h7, h8⟩ := h
      exact ⟨x, h1, y, h2, p, ys, h3, h4, i, j, h5, h6, k, h7, hq _ _ h8⟩
end
end Dsk
end
section
set_option Elab.async false
set_option linter.all false
set_option maxRecDepth 100000
set_option maxHeartbeats 2000000
namespace Dsk
open PySem PySem.Spec PyProof.Rows L2
abbrev sMany : Stmt := top 9
abbrev sPlace : Stmt := top 10
abbrev sTimes : Stmt := top 11
abbrev sBigs : Stmt := top 12
abbrev sOften : Stmt := top 13
abbrev sMost : Stmt := top 14
abbrev sKind : Stmt := top 15
abbrev sOrder : Stmt := top 16
def spMany : Sp := fun vs H Q _ => ∃ n : Nat, vs = [.int (n : Int)] ∧ n < 2 ^ 64 ∧ Q (.int (Rc52.size n : Nat)) H
def spPlace : Sp := fun vs H Q _ => ∃ n : Nat, vs = [.int (n : Int)] ∧ n < 2 ^ 64 ∧ ∀ p, H p = none → Q (.ref p) (upd H p (.tup [.int (Rc52.size n : Nat), .int (n : Int)]))
/-- each basket, how often it is there -/
def kvT (S : List Nat) : List (Key × V) := (Dk.uniqs S).map fun (b : Nat) => ((Sum.inl (b : Int) : Key), V.int (S.count b : Nat))
def spTimes (K : PySem.W.Frag) : Sp := fun vs H Q _ => ∃ (a : Addr) (S : List Nat), vs = [.ref a] ∧ SqL K H a (nats S) ∧ S.length ≤ 512 ∧ ∀ d, H d = none → Q (.ref d) (upd H d (.dK (kvT S)))
def spBigs (K : PySem.W.Frag) : Sp := fun vs H Q _ => ∃ (a : Addr) (S : List Nat) (m : Nat), vs = [.ref a, .int (m : Int)] ∧ SqL K H a (nats S) ∧ ∀ l, H l = none → Q (.ref l) (upd H l (.lst (nats ((Dk.bigs S m).map fun i => 2 ^ i))))
/-! ### dicts by numbers -/
def kvN (f : Nat → V) (l : List Nat) : List (Key × V) := l.map fun (b : Nat) => ((Sum.inl (b : Int) : Key), f b)
theorem kvN_keys (f : Nat → V) (l : List Nat) : (kvN f l).map (fun kv => kV kv.1) = nats l := by
  unfold kvN nats
  rw [List.map_map]
  rfl
theorem kvN_in (f : Nat → V) {b : Nat} : ∀ {l : List Nat}, b ∈ l → valV (kvN f l) (Sum.inl (b : Int)) = some (f b)
  | [], h => nomatch h
  | a :: l, h => by
    by_cases e : a = b
    · subst e
      exact valV_pos (p := ((Sum.inl (a : Int) : Key), f a)) rfl
    · rw [show kvN f (a :: l) = ((Sum.inl (a : Int) : Key), f a) :: kvN f l from rfl, valV_neg (by intro q; injection q with q; exact e (by omega))]
      exact kvN_in f (by rcases List.mem_cons.mp h with z | z; exact absurd z.symm e; exact z)
theorem kvN_out (f : Nat → V) {b : Nat} : ∀ {l : List Nat}, b ∉ l → valV (kvN f l) (Sum.inl (b : Int)) = none
  | [], _ => rfl
  | a :: l, h => by
    have e : a ≠ b := fun z => h (by rw [z]; exact List.mem_cons_self)
    rw [show kvN f (a :: l) = ((Sum.inl (a : Int) : Key), f a) :: kvN f l from rfl, valV_neg (by intro q; injection q with q; exact e (by omega))]
    exact kvN_out f fun z => h (List.mem_cons_of_mem _ z)
theorem kvN_new (f : Nat → V) {b : Nat} {l : List Nat} (v : V) (h : b ∉ l) : putK (kvN f l) (Sum.inl (b : Int)) v = kvN f l ++ [((Sum.inl (b : Int) : Key), v)] := putK_new v (kvN_out f h)
theorem kvN_snoc (f : Nat → V) (l : List Nat) (b : Nat) : kvN f (l ++ [b]) = kvN f l ++ [((Sum.inl (b : Int) : Key), f b)] := by
  unfold kvN
  rw [List.map_append]
  rfl
theorem kvN_congr {f g : Nat → V} {l : List Nat} (h : ∀ b ∈ l, f b = g b) : kvN f l = kvN g l := by
  unfold kvN
  exact List.map_congr_left fun b hb => by rw [h b hb]
theorem kvN_len (f : Nat → V) (l : List Nat) : (kvN f l).length = l.length := by unfold kvN; rw [List.length_map]
theorem kvN_put (f : Nat → V) {b : Nat} {v : V} : ∀ {l : List Nat}, b ∈ l → putK (kvN f l) (Sum.inl (b : Int)) v = kvN (fun x => if x = b then v else f x) l := by
  intro l h
  unfold putK
  rw [valV_any, kvN_in f h]
  rw [if_pos (show (some (f b)).isSome = true from rfl)]
  unfold kvN
  rw [List.map_map]
  refine List.map_congr_left fun x hx => ?_
  show (if (Sum.inl (x : Int) : Key) = Sum.inl (b : Int) then ((Sum.inl (x : Int) : Key), v) else ((Sum.inl (x : Int) : Key), f x)) = ((Sum.inl (x : Int) : Key), if x = b then v else f x)
  by_cases e : x = b
  · subst e
    rw [if_pos rfl, if_pos rfl]
  · rw [if_neg (by intro q; injection q with q; exact e (by omega)), if_neg e]
theorem kvT_step (S : List Nat) (b : Nat) : putK (kvT S) (Sum.inl (b : Int)) (V.int ((S.count b : Nat) + 1)) = kvT (S ++ [b]) := by
  show putK (kvN (fun b => V.int (S.count b : Nat)) (Dk.uniqs S)) (Sum.inl (b : Int)) (V.int ((S.count b : Nat) + 1)) = kvN (fun x => V.int ((S ++ [b]).count x : Nat)) (Dk.uniqs (S ++ [b]))
  rw [Dk.uniqs_snoc]
  have hc : ∀ x, (S ++ [b]).count x = S.count x + if x = b then 1 else 0 := by
    intro x
    rw [List.count_append, List.count_singleton]
    by_cases e : x = b
    · subst e; simp
    · have e' : ¬ b = x := fun z => e z.symm
      simp [e, e']
  by_cases h : b ∈ Dk.uniqs S
  · rw [if_pos h, kvN_put _ h]
    refine kvN_congr fun x hx => ?_
    rw [hc x]
    by_cases e : x = b
    · subst e
      rw [if_pos rfl, if_pos rfl]
      rfl
    · rw [if_neg e, if_neg e]
      rfl
  · rw [if_neg h, kvN_new _ _ h, kvN_snoc]
    congr 1
    · refine kvN_congr fun x hx => ?_
      rw [hc x, if_neg (fun z => h (by rw [← z]; exact hx))]
      rfl
    · rw [hc b, if_pos rfl]
      rfl
theorem kvT_get (S : List Nat) (b : Nat) : (valV (kvT S) (Sum.inl (b : Int))).getD (V.int 0) = V.int (S.count b : Nat) := by
  by_cases h : b ∈ Dk.uniqs S
  · rw [show valV (kvT S) (Sum.inl (b : Int)) = some (V.int (S.count b : Nat)) from kvN_in _ h]
    rfl
  · rw [show valV (kvT S) (Sum.inl (b : Int)) = none from kvN_out _ h]
    have : S.count b = 0 := List.count_eq_zero.mpr fun z => h ((Dk.mem_uniqs S).mpr z)
    rw [this]
    rfl
def slotNat (j : Nat) (σ : List (Option V)) : Nat := match σ[j]? with
  | some (some (V.int i)) => i.toNat
  | _ => 0
section
variable {P : Program} {w : World} {K : PySem.W.Frag} {mg : Str → Option Value} {base : Heap}
theorem scMany : FnScope ["things", "found", "rest"] ["things"] (defScope sMany) := ⟨rfl, rfl, rfl, by decide +kernel, rfl, by decide +kernel, by decide +kernel⟩
theorem ok_many {f : Addr} {fd : FuncData} (F : Fun K "how_many_things" "how_many_things" sMany f fd) : FnOk P w K mg base CX0 1 f fd ["things"] spMany := by
  refine F.ok scMany (fun vs H Q E h => ?_) (fun cdv A outer s H vs Q E hr h => ?_)
  · obtain ⟨n, rfl, _⟩ := h
    rfl
  · obtain ⟨n, rfl, hn, k⟩ := h
    refine ⟨_, pss_cons (ps_set (i := 1) scMany.nd rfl (Or.inl rfl) pe_int)
      (pss_cons (ps_set (i := 2) scMany.nd rfl (Or.inl rfl) (pv 0))
      (pss_cons (ps_while PassesOwn.never (pt_cmpR op_gt (pv 2) pe_int (nomark _))
        (pss_cons (ps_set (i := 2) scMany.nd rfl (Or.inl rfl) (pe_op op_and (pv 2) (pe_op op_sub (pv 2) pe_int)))
        (pss_one (ps_set (i := 1) scMany.nd rfl (Or.inl rfl) (pe_op op_add (pv 1) pe_int)))))
      (pss_one (ps_ret (pv 1))))), ?_⟩
    refine ⟨_, rfl, while_by (fun σ H' => ∃ r c : Nat, σ = [some (.int (n : Int)), some (.int (c : Int)), some (.int (r : Int))] ∧ H' = H ∧ r < 2 ^ 64 ∧ c + Rc52.size r = Rc52.size n) (fun σ _ => slotNat 2 σ) ⟨n, 0, rfl, rfl, hn, by omega⟩ ?_ ?_⟩
    · rintro σ H' ⟨r, c, rfl, rfl, hr', hc⟩
      refine ⟨_, rfl, _, _, rfl, rfl, _, rfl, ?_⟩
      refine ite2 (fun q => ?_) (fun q => ?_)
      · have h0 : 0 < r := by simp at q; omega
        have e1 : (r : Int) - 1 = ((r - 1 : Nat) : Int) := by omega
        have eb : Builtin.bitAnd (r : Int) ((r : Int) - 1) = ((r &&& (r - 1) : Nat) : Int) := by rw [e1, and_nat]
        refine ⟨_, rfl, _, rfl, _, _, rfl, rfl, _, _, rfl, rfl, _, rfl, _, _, rfl, rfl, ⟨r &&& (r - 1), c + 1, ?_, rfl, Nat.lt_trans (Dk.low_lt h0) hr', by have := Dk.size_low h0 hr'; omega⟩, ?_⟩
        · show [some (V.int (n : Int)), some (V.int ((c : Int) + 1)), some (V.int (Builtin.bitAnd (r : Int) ((r : Int) - 1)))] = _
          rw [eb]
          rfl
        · show (Builtin.bitAnd (r : Int) ((r : Int) - 1)).toNat < (r : Int).toNat
          rw [eb]
          exact Dk.low_lt h0
      · have h0 : r = 0 := by simp at q; omega
        subst h0
        rw [Dk.size_zero, Nat.add_zero] at hc
        subst hc
        exact ⟨_, rfl, k⟩
    · intro σ H Q Q' hq h
      obtain ⟨x, h1, i, j, h5, h6, k, h7, h8⟩ := h
      exact ⟨x, h1, i, j, h5, h6, k, h7, hq _ _ h8⟩
theorem scPlace : FnScope ["things"] ["things"] (defScope sPlace) := ⟨rfl, rfl, rfl, by decide +kernel, rfl, by decide +kernel, by decide +kernel⟩
theorem ok_place {f fm : Addr} {fd fdm : FuncData} (F : Fun K "place_in_order" "place_in_order" sPlace f fd) (mgM : mg "how_many_things" = some (.ref fm)) (kM : PySem.W.keepIn K (.ref fm) = true) (bM : Binds K fdm ["things"] [])
    (G : FnOk P w K mg base CX0 1 fm fdm ["things"] spMany) : FnOk P w K mg base CX0 2 f fd ["things"] spPlace := by
  refine F.ok scPlace (fun vs H Q E h => ?_) (fun cdv A outer s H vs Q E hr h => ?_)
  · obtain ⟨n, rfl, _⟩ := h
    rfl
  · obtain ⟨n, rfl, hn, k⟩ := h
    refine ⟨_, pss_one (ps_ret (pe_tup (pa_cons (pe_call G hr rfl mgM kM bM .nil pass0 (pa_cons (pv 0) pa_nil)) (pa_cons (pv 0) pa_nil)))), ?_⟩
    exact ⟨_, rfl, n, rfl, hn, _, rfl, (by show 2 ≤ sizeLine; decide), fun p hp => k p hp⟩
theorem scTimes : FnScope ["baskets", "times", "basket"] ["baskets"] (defScope sTimes) := ⟨rfl, rfl, rfl, by decide +kernel, rfl, by decide +kernel, by decide +kernel⟩
theorem ok_times {f : Addr} {fd : FuncData} (F : Fun K "times_of_each" "times_of_each" sTimes f fd) : FnOk P w K mg base CX0 1 f fd ["baskets"] (spTimes K) := by
  refine F.ok scTimes (fun vs H Q E h => ?_) (fun cdv A outer s H vs Q E hr h => ?_)
  · obtain ⟨a, S, rfl, _⟩ := h
    rfl
  · obtain ⟨a, S, rfl, hS, hl, k⟩ := h
    have hu := hu_of hr
    refine ⟨_, pss_cons (ps_set (i := 1) scTimes.nd rfl (Or.inl rfl) pe_dnewK)
      (pss_cons (ps_for PassesOwn.never rfl (pi_list (pv 0)) (pg_name (i := 2) scTimes.nd rfl (Or.inl rfl))
        (pss_one (ps_dput hu (pv 1) (pv 2) (pe_op op_add (pe_dget2 hu (pv 1) (pv 2) pe_int ⟨rfl, rfl, rfl, rfl⟩) pe_int) rfl)))
      (pss_one (ps_ret (pv 1)))), ?_⟩
    refine fun d hd => ?_
    have hS' : ∀ o, SqL K (upd H d o) a (nats S) := fun o => Same.seq (fun b o' e => by rw [upd_ne (ne_of_none e hd)]; exact e) hS
    refine ⟨_, rfl, a, rfl, ⟨_, hS' _⟩, for_list (K := K) (a := a) (xs := nats S) (fun i σ H' => ∃ v : Option V, σ = [some (.ref a), some (.ref d), v] ∧ H' = upd H d (.dK (kvT (S.take i))))
      ⟨none, rfl, rfl⟩ (fun i σ H' _ ⟨_, _, e⟩ => by rw [e]; exact hS' _) ?_ ?_⟩
    · rintro i y σ H' hi ⟨v, rfl, rfl⟩
      obtain ⟨b, hb, rfl⟩ := nats_get hi
      have hd' : upd H d (.dK (kvT (S.take i))) d = some (.dK (kvT (S.take i))) := upd_same
      refine ⟨_, rfl, d, rfl, .inl ⟨_, .inl hd'⟩, _, rfl, _, DGet.k (k := Sum.inl (b : Int)) hd', ?_⟩
      rw [kvT_get]
      refine ⟨_, _, rfl, rfl, _, rfl, _, rfl, d, _, rfl, DPut.k (k := Sum.inl (b : Int)) hd' ?_, ?_⟩
      · have h1 := Dk.len_uniqs (S.take i)
        have h2 : (S.take i).length ≤ S.length := by rw [List.length_take]; omega
        have h3 : (kvT (S.take i)).length = (Dk.uniqs (S.take i)).length := by unfold kvT; rw [List.length_map]
        exact small1000 (by omega)
      · refine ⟨some (.int (b : Int)), rfl, ?_⟩
        rw [upd_upd, kvT_step, take_snoc hb]
    · rintro σ H' ⟨v, rfl, rfl⟩
      rw [nats_len, List.take_length]
      exact ⟨_, rfl, k d hd⟩
theorem scBigs : FnScope ["baskets", "least", "found", "thing"] ["baskets", "least"] (defScope sBigs) := ⟨rfl, rfl, rfl, by decide +kernel, rfl, by decide +kernel, by decide +kernel⟩
def bigsTo (S : List Nat) (m i : Nat) : List Nat := ((List.range i).filter fun i => decide (m ≤ Rc52.support S (2 ^ i))).map fun i => 2 ^ i
theorem bigsTo_succ (S : List Nat) (m i : Nat) : bigsTo S m (i + 1) = if m ≤ Rc52.support S (2 ^ i) then bigsTo S m i ++ [2 ^ i] else bigsTo S m i := by
  unfold bigsTo
  rw [List.range_succ, List.filter_append, List.map_append, List.filter_cons, List.filter_nil]
  by_cases h : m ≤ Rc52.support S (2 ^ i)
  · rw [if_pos (decide_eq_true h), if_pos h]; rfl
  · rw [if_neg (fun z => h (of_decide_eq_true z)), if_neg h]; simp
theorem bigsTo_len (S : List Nat) (m i : Nat) : (bigsTo S m i).length ≤ i := by
  unfold bigsTo
  rw [List.length_map]
  exact Nat.le_trans (List.length_filter_le _ _) (by rw [List.length_range]; exact Nat.le_refl _)
theorem nats_snoc (l : List Nat) (b : Nat) : nats l ++ [V.int (b : Int)] = nats (l ++ [b]) := by
  unfold nats
  rw [List.map_append]
  rfl
theorem ok_bigs {f fs : Addr} {fd fds : FuncData} (F : Fun K "often_things" "often_things" sBigs f fd) (T : Txt mg) (mgS : mg "support_of" = some (.ref fs)) (kS : PySem.W.keepIn K (.ref fs) = true) (bS : Binds K fds ["baskets", "wanted"] [])
    (G : FnOk P w K mg base CX0 2 fs fds ["baskets", "wanted"] (spSup K)) : FnOk P w K mg base CX0 3 f fd ["baskets", "least"] (spBigs K) := by
  obtain ⟨ta, hall⟩ := T.all
  refine F.ok scBigs (fun vs H Q E h => ?_) (fun cdv A outer s H vs Q E hr h => ?_)
  · obtain ⟨a, S, m, rfl, _⟩ := h
    rfl
  · obtain ⟨a, S, m, rfl, hS, k⟩ := h
    refine ⟨_, pss_cons (ps_set (i := 2) scBigs.nd rfl (Or.inl rfl) (pe_lst pa_nil))
      (pss_cons (ps_set (i := 3) scBigs.nd rfl (Or.inl rfl) pe_int)
      (pss_cons (ps_while PassesOwn.never (pt_cmpR op_le (pv 3) (pe_glob (v := .int 18446744073709551615) rfl hall ⟨_, rfl⟩) (nomark _))
        (pss_cons (ps_if (pt_cmpR op_ge (pe_call G hr rfl mgS kS bS .nil pass0 (pa_cons (pv 0) (pa_cons (pv 3) pa_nil))) (pv 1) (nomark _))
          (pss_one (ps_expr (pe_bm PySem.F.plainAttrs_list PySem.F.slot_list_append PySem.F.type_list_append mt_append (pv 2) (pa_cons (pv 3) pa_nil)))) pss_nil)
        (pss_one (ps_set (i := 3) scBigs.nd rfl (Or.inl rfl) (pe_op op_mul (pv 3) pe_int)))))
      (pss_one (ps_ret (pv 2))))), ?_⟩
    refine ⟨Nat.zero_le _, fun l hl => ?_⟩
    have hS' : ∀ o, SqL K (upd H l o) a (nats S) := fun o => Same.seq (fun b o' e => by rw [upd_ne (ne_of_none e hl)]; exact e) hS
    refine while_by (fun σ H' => ∃ i : Nat, i ≤ 64 ∧ σ = [some (.ref a), some (.int (m : Int)), some (.ref l), some (.int ((2 ^ i : Nat) : Int))] ∧ H' = upd H l (.lst (nats (bigsTo S m i)))) (fun σ _ => 2 ^ 65 - slotNat 3 σ) ⟨0, by omega, rfl, rfl⟩ ?_ ?_
    · rintro σ H' ⟨i, hi, rfl, rfl⟩
      refine ⟨_, rfl, _, _, rfl, rfl, _, rfl, ?_⟩
      refine ite2 (fun q => ?_) (fun q => ?_)
      · have h64 : i < 64 := by
          refine Classical.byContradiction fun c => ?_
          have : i = 64 := by omega
          subst this
          simp at q
        have hp : 2 ^ (i + 1) ≤ 2 ^ 64 := Nat.pow_le_pow_right (by decide) (by omega)
        have hp' : 2 ^ (i + 1) = 2 * 2 ^ i := by rw [Nat.pow_succ]; omega
        have hpos : 0 < 2 ^ i := Nat.two_pow_pos i
        have hl' : upd H l (.lst (nats (bigsTo S m i))) l = some (.lst (nats (bigsTo S m i))) := upd_same
        have hmul : ((2 ^ i : Nat) : Int) * 2 = ((2 ^ (i + 1) : Nat) : Int) := by rw [hp']; push_cast; omega
        have fall : 2 ^ 65 - (((2 ^ i : Nat) : Int) * 2).toNat < 2 ^ 65 - ((2 ^ i : Nat) : Int).toNat := by
          rw [hmul, Int.toNat_natCast, Int.toNat_natCast]
          have e65 : (2 : Nat) ^ 65 = 2 * 2 ^ 64 := by decide
          omega
        have cm : CMul ((2 ^ i : Nat) : Int) 2 := .inr ⟨by decide, by decide⟩
        refine ⟨_, rfl, _, rfl, a, S, 2 ^ i, rfl, hS' _, _, rfl, _, _, rfl, rfl, _, rfl, ?_⟩
        refine ite2 (fun c => ?_) (fun c => ?_)
        · have c' : m ≤ Rc52.support S (2 ^ i) := by simp at c; omega
          refine ⟨_, rfl, .inl ⟨rfl, _, SqL.of hl'⟩, _, rfl, l, _, _, rfl, rfl, hl', ?_, ?_⟩
          · rw [nats_len]
            exact small1000 (by have := bigsTo_len S m i; omega)
          · refine ⟨_, rfl, _, _, rfl, rfl, cm, ⟨i + 1, by omega, ?_, ?_⟩, fall⟩
            · rw [← hmul]
              rfl
            · rw [upd_upd, nats_snoc, bigsTo_succ, if_pos c']
        · have c' : ¬ m ≤ Rc52.support S (2 ^ i) := by simp at c; omega
          refine ⟨_, rfl, _, _, rfl, rfl, cm, ⟨i + 1, by omega, ?_, ?_⟩, fall⟩
          · rw [← hmul]
            rfl
          · rw [bigsTo_succ, if_neg c']
      · have h64 : i = 64 := by
          refine Classical.byContradiction fun c => ?_
          have hp : 2 ^ i ≤ 2 ^ 63 := Nat.pow_le_pow_right (by decide) (by omega)
          have key : ∀ x : Nat, x ≤ 2 ^ 63 → (x : Int) ≤ 18446744073709551615 := fun x hx => by omega
          exact q (decide_eq_true (key _ hp))
        subst h64
        exact ⟨_, rfl, k l hl⟩
    · intro σ H Q Q' hq h
      obtain ⟨x, h1, i, j, h5, h6, k, h7, h8⟩ := h
      exact ⟨x, h1, i, j, h5, h6, k, h7, hq _ _ h8⟩
end
end Dsk
end
section
set_option Elab.async false
set_option linter.all false
set_option maxRecDepth 100000
set_option maxHeartbeats 2000000
namespace Dsk
open PySem PySem.Spec PyProof.Rows L2
theorem or_nat (a b : Nat) : Builtin.bitOr (a : Int) (b : Int) = ((a ||| b : Nat) : Int) := by
  have nn : ∀ x : Int, Builtin.bitNot (Builtin.bitNot x) = x := by
    intro x
    show -(-x - 1) - 1 = x
    omega
  have lt : ∀ x : Nat, ¬ 0 ≤ Builtin.bitNot (x : Int) := by
    intro x
    show ¬ 0 ≤ -(x : Int) - 1
    omega
  unfold Builtin.bitOr Builtin.bitAnd
  rw [decide_eq_false (lt a), decide_eq_false (lt b)]
  show Builtin.bitNot (Builtin.bitNot (((Builtin.bitNot (Builtin.bitNot (a : Int))).toNat ||| (Builtin.bitNot (Builtin.bitNot (b : Int))).toNat : Nat) : Int)) = _
  rw [nn, nn, nn]
  rfl
theorem ne_bit (b i : Nat) : (!decide (V.int (Builtin.bitAnd (b : Int) ((2 ^ i : Nat) : Int)) = V.int 0)) = b.testBit i := by
  rw [dec_int, and_nat]
  cases e : b.testBit i with
  | false =>
    rw [Dk.and_bit.mpr e]
    rfl
  | true =>
    have : b &&& 2 ^ i ≠ 0 := fun z => by rw [Dk.and_bit.mp z] at e; cases e
    have h2 : (((b &&& 2 ^ i : Nat) : Int) == 0) = false := by
      rw [beq_eq_false_iff_ne]
      omega
    rw [h2]
    rfl
/-- the supports of the sets that are often enough -/
def kvS (S : List Nat) (m : Nat) : List (Key × V) := kvN (fun s => V.int (Rc52.support S s : Nat)) (Dk.often S m)
def spOften (K : PySem.W.Frag) (U : Nat) : Sp := fun vs H Q _ => ∃ (a : Addr) (S : List Nat) (m : Nat), vs = [.ref a, .int (m : Int)] ∧ SqL K H a (nats S) ∧ Dk.Held U S ∧ 1 ≤ m ∧
  ∀ (H' : Hp) (d : Addr), H d = none → H' d = some (.dK (kvS S m)) → Same H H' → Q (.ref d) H'
/-- what stands at the loop's addresses -/
structure HI (H : Hp) (S : List Nat) (dt dh ds lt : Addr) (things : List Nat) (H' : Hp) (L : List Nat) (rs : Nat → Addr) : Prop where
  t : H' dt = some (.dK (kvT S))
  h : H' dh = some (.dK (kvN (fun s => V.ref (rs s)) L))
  s : H' ds = some (.dK (kvN (fun s => V.int (Rc52.support S s : Nat)) L.tail))
  l : H' lt = some (.lst (nats things))
  r : ∀ s ∈ L, H' (rs s) = some (.lst (nats ((Dk.uniqs S).filter fun b => Rc52.within s b)))
  same : Same H H'
theorem HI.new {H : Hp} {S : List Nat} {dt dh ds lt : Addr} {things : List Nat} {H' : Hp} {L : List Nat} {rs : Nat → Addr} (x : HI H S dt dh ds lt things H' L rs) {D : Addr} {o : HO} (hD : H' D = none) : HI H S dt dh ds lt things (upd H' D o) L rs := by
  refine ⟨?_, ?_, ?_, ?_, fun s hs => ?_, fun b o' e => ?_⟩
  · rw [upd_ne (ne_of_none x.t hD)]; exact x.t
  · rw [upd_ne (ne_of_none x.h hD)]; exact x.h
  · rw [upd_ne (ne_of_none x.s hD)]; exact x.s
  · rw [upd_ne (ne_of_none x.l hD)]; exact x.l
  · rw [upd_ne (ne_of_none (x.r s hs) hD)]; exact x.r s hs
  · rw [upd_ne (ne_of_none (x.same b o' e) hD)]; exact x.same b o' e
theorem HI.put {H : Hp} {S : List Nat} {dt dh ds lt : Addr} {things : List Nat} {H' : Hp} {L : List Nat} {rs : Nat → Addr} (x : HI H S dt dh ds lt things H' L rs) (n1 : dt ≠ dh) (n2 : dt ≠ ds) (n3 : dh ≠ ds) (f1 : H dh = none) (f2 : H ds = none) (hne : L ≠ [])
    {s : Nat} {D : Addr} (hs : s ∉ L) (hD : H' D = some (.lst (nats ((Dk.uniqs S).filter fun b => Rc52.within s b)))) :
    HI H S dt dh ds lt things (upd (upd H' dh (.dK (putK (kvN (fun s => V.ref (rs s)) L) (Sum.inl (s : Int)) (.ref D)))) ds (.dK (putK (kvN (fun s => V.int (Rc52.support S s : Nat)) L.tail) (Sum.inl (s : Int)) (.int (Rc52.support S s : Nat))))) (L ++ [s]) (fun y => if y = s then D else rs y) := by
  have hnt : s ∉ L.tail := fun z => hs (List.mem_of_mem_tail z)
  refine ⟨?_, ?_, ?_, ?_, fun y hy => ?_, fun b o' e => ?_⟩
  · rw [upd_ne n2, upd_ne n1]; exact x.t
  · rw [upd_ne n3, upd_same, kvN_new _ _ hs, kvN_snoc, if_pos rfl]
    rw [kvN_congr (f := fun y => V.ref (if y = s then D else rs y)) (g := fun y => V.ref (rs y)) fun b hb => by rw [if_neg (fun z => hs (by rw [← z]; exact hb))]]
  · rw [upd_same, kvN_new _ _ hnt, Dk.tail_snoc hne, kvN_snoc]
  · rw [upd_ne (ne_of x.l x.s (by intro z; cases z)), upd_ne (ne_of x.l x.h (by intro z; cases z))]; exact x.l
  · have key : ∀ (q : Addr) (o : List V), H' q = some (.lst o) → upd (upd H' dh (.dK (putK (kvN (fun s => V.ref (rs s)) L) (Sum.inl (s : Int)) (.ref D)))) ds (.dK (putK (kvN (fun s => V.int (Rc52.support S s : Nat)) L.tail) (Sum.inl (s : Int)) (.int (Rc52.support S s : Nat)))) q = some (.lst o) := by
      intro q o e
      rw [upd_ne (ne_of e x.s (by intro z; cases z)), upd_ne (ne_of e x.h (by intro z; cases z))]
      exact e
    by_cases e : y = s
    · subst e
      rw [if_pos rfl]
      exact key _ _ hD
    · rw [if_neg e]
      have hy' : y ∈ L := by
        rcases List.mem_append.mp hy with z | z
        · exact z
        · rw [List.mem_singleton] at z; exact absurd z e
      exact key _ _ (x.r y hy')
  · rw [upd_ne (ne_of_none e f2), upd_ne (ne_of_none e f1)]; exact x.same b o' e
section
variable {P : Program} {w : World} {K : PySem.W.Frag} {mg : Str → Option Value} {base : Heap}
theorem scOften : FnScope ["baskets", "least", "times", "having", "supports", "thing", "smaller", "still", "support", "basket"] ["baskets", "least"] (defScope sOften) := ⟨rfl, rfl, rfl, by decide +kernel, rfl, by decide +kernel, by decide +kernel⟩
theorem is_list : bootBuiltins "list" = some (.type "list") := by decide +kernel
theorem is_sum : bootBuiltins "sum" = some (.builtin "sum") := by decide +kernel
theorem is_max : bootBuiltins "max" = some (.builtin "max") := by decide +kernel
theorem ok_often {U : Nat} (hU : Rc52.size U ≤ 12) {f ft fb : Addr} {fd fdt fdb : FuncData} (F : Fun K "often_sets" "often_sets" sOften f fd) (T : Txt mg)
    (mgT : mg "times_of_each" = some (.ref ft)) (kT : PySem.W.keepIn K (.ref ft) = true) (bT : Binds K fdt ["baskets"] []) (GT : FnOk P w K mg base CX0 1 ft fdt ["baskets"] (spTimes K))
    (mgB : mg "often_things" = some (.ref fb)) (kB : PySem.W.keepIn K (.ref fb) = true) (bB : Binds K fdb ["baskets", "least"] []) (GB : FnOk P w K mg base CX0 3 fb fdb ["baskets", "least"] (spBigs K)) :
    FnOk P w K mg base CX0 4 f fd ["baskets", "least"] (spOften K U) := by
  obtain ⟨tm, hmost⟩ := T.msets
  refine F.ok scOften (fun vs H Q E h => ?_) (fun cdv A outer s H vs Q E hr h => ?_)
  · obtain ⟨a, S, m, rfl, _⟩ := h
    rfl
  · obtain ⟨a, S, m, rfl, hS, hH, hm, k⟩ := h
    have hu := hu_of hr
    have hr1 : Room 1 _ := hr.mono (by decide)
    refine ⟨_, pss_cons (ps_set (i := 2) scOften.nd rfl (Or.inr rfl) (pe_call GT hr1 rfl mgT kT bT .nil pass0 (pa_cons (pv 0) pa_nil)))
      (pss_cons (ps_set (i := 3) scOften.nd rfl (Or.inl rfl) (pe_disp (pps_cons pe_int (pe_callTy (call_list_dict rfl) rfl T.lst is_list (pa_cons (pv 2) pa_nil)) pps_nil) rfl rfl (by decide) (by decide)))
      (pss_cons (ps_set (i := 4) scOften.nd rfl (Or.inl rfl) pe_dnewK)
      (pss_cons (ps_for PassesOwn.never rfl (pi_list (pe_call GB hr rfl mgB kB bB .nil pass0 (pa_cons (pv 0) (pa_cons (pv 1) pa_nil)))) (pg_name (i := 5) scOften.nd rfl (Or.inr rfl))
        (pss_cons (ps_for PassesOwn.never rfl (pi_list (pe_callTy (call_list_dict rfl) rfl T.lst is_list (pa_cons (pv 3) pa_nil))) (pg_name (i := 6) scOften.nd rfl (Or.inl rfl))
          (pss_cons (ps_setLc (i := 7) (own := [("basket", 9)]) rfl scOften.nd rfl rfl (sw_true rfl rfl rfl rfl) (pi_list (pe_dget hu (pv 3) (pv 6) (fun _ _ => rfl))) (blkOk_by (N := ["baskets", "least", "times", "having", "supports", "thing", "smaller", "still", "support", "basket"]) (sc := defScope sOften) (by decide +kernel))
            (fun _ _ _ _ _ => pg_name (i := 9) scOften.nd rfl (Or.inl rfl)) (fun _ _ _ _ _ => pts_one (pt_cmpR op_ne (pe_op op_and (pv 9) (pv 5)) pe_int (nomark _))) (fun _ _ _ _ _ => pv 9))
          (pss_cons (ps_set (i := 8) scOften.nd rfl (Or.inl rfl) (pe_callB (cr_sum rfl) rfl T.sum is_sum (pa_cons (pe_lc (own := [("basket", 9)]) rfl scOften.nd (pi_list (pv 7)) (blkOk_by (N := ["baskets", "least", "times", "having", "supports", "thing", "smaller", "still", "support", "basket"]) (sc := defScope sOften) (by decide +kernel))
            (fun _ _ _ _ _ => pg_name (i := 9) scOften.nd rfl (Or.inl rfl)) (fun _ _ _ _ _ => pts_nil) (fun _ _ _ _ _ => pe_dget hu (pv 2) (pv 9) (fun _ _ => rfl))) pa_nil)))
          (pss_one (ps_if (pt_cmpR op_ge (pv 8) (pv 1) (nomark _))
            (pss_cons (ps_dput hu (pv 3) (pe_op op_or (pv 6) (pv 5)) (pv 7) rfl)
            (pss_one (ps_dput hu (pv 4) (pe_op op_or (pv 6) (pv 5)) (pv 8) rfl))) pss_nil)))))
        (pss_one (ps_if (pt_cmpR op_gt (pe_callB call_lenD (by rfl) T.len PySem.boot_len (pa_cons (pv 4) pa_nil)) (pe_glob (v := .int 65536) rfl hmost ⟨_, rfl⟩) (nomark _)) (pss_one ps_break) pss_nil))))
      (pss_one (ps_ret (pv 4)))))), ?_⟩
    refine ⟨_, rfl, a, S, rfl, hS, hH.len, fun dt hdt => ?_⟩
    have s1 : Same H (upd H dt (.dK (kvT S))) := fun b o e => by rw [upd_ne (ne_of_none e hdt)]; exact e
    refine fun dh hdh => ?_
    have n1 : dt ≠ dh := ne_of_none (H := upd H dt (.dK (kvT S))) upd_same hdh
    refine ⟨_, rfl, dt, kvT S, rfl, .inl (by rw [upd_ne n1]; exact upd_same), fun l hl => ?_⟩
    have n2 : dh ≠ l := ne_of_none (H := upd (upd H dt (.dK (kvT S))) dh (.dK [])) upd_same hl
    have n3 : dt ≠ l := ne_of_none (H := upd (upd H dt (.dK (kvT S))) dh (.dK [])) (by rw [upd_ne n1]; exact upd_same) hl
    refine ⟨by rw [upd_ne n2]; exact upd_same, [((Sum.inl 0 : Key), V.ref l)], rfl, (by show 1 ≤ 15; decide), ?_⟩
    refine fun ds hds => ?_
    have s2 : Same H (upd (upd (upd (upd H dt (.dK (kvT S))) dh (.dK [])) l (.lst ((kvT S).map fun kv => kV kv.1))) dh (.dK (mergeK [] [((Sum.inl 0 : Key), V.ref l)]))) := fun b o e => by
      have e1 := s1 b o e
      have b1 : b ≠ dh := ne_of_none e1 hdh
      have e2 : upd (upd H dt (.dK (kvT S))) dh (.dK []) b = some o := by rw [upd_ne b1]; exact e1
      rw [upd_ne b1, upd_ne (ne_of_none e2 hl)]
      exact e2
    generalize hH3 : upd (upd (upd (upd H dt (.dK (kvT S))) dh (.dK [])) l (.lst ((kvT S).map fun kv => kV kv.1))) dh (.dK (mergeK [] [((Sum.inl 0 : Key), V.ref l)])) = H3 at s2 hds ⊢
    have a1 : H3 dt = some (.dK (kvT S)) := by rw [← hH3, upd_ne n1, upd_ne n3, upd_ne n1]; exact upd_same
    have a2 : H3 dh = some (.dK (kvN (fun _ => V.ref l) [0])) := by rw [← hH3]; exact upd_same
    have a3 : H3 l = some (.lst (nats (Dk.uniqs S))) := by
      rw [← hH3, upd_ne n2.symm, upd_same]
      rw [show (kvT S).map (fun kv => kV kv.1) = nats (Dk.uniqs S) from kvN_keys _ _]
    have f1 : H dh = none := s1.free hdh
    have f2 : H ds = none := s2.free hds
    have n4 : dt ≠ ds := ne_of_none a1 hds
    have n5 : dh ≠ ds := ne_of_none a2 hds
    have s3 : Same H (upd H3 ds (.dK [])) := fun b o e => by rw [upd_ne (ne_of_none (s2 b o e) hds)]; exact s2 b o e
    refine ⟨_, rfl, _, rfl, a, S, m, rfl, s3.seq hS, fun lt hlt => ?_⟩
    have hi0 : HI H S dt dh ds lt ((Dk.bigs S m).map fun i => 2 ^ i) (upd (upd H3 ds (.dK [])) lt (.lst (nats ((Dk.bigs S m).map fun i => 2 ^ i)))) (Dk.grown S m []) (fun _ => l) := by
      have w1 : upd H3 ds (.dK []) dt = some (.dK (kvT S)) := by rw [upd_ne n4]; exact a1
      have w2 : upd H3 ds (.dK []) dh = some (.dK (kvN (fun _ => V.ref l) [0])) := by rw [upd_ne n5]; exact a2
      have w3 : upd H3 ds (.dK []) ds = some (.dK []) := upd_same
      have w4 : upd H3 ds (.dK []) l = some (.lst (nats (Dk.uniqs S))) := by rw [upd_ne (ne_of_none a3 hds)]; exact a3
      refine ⟨?_, ?_, ?_, upd_same, fun s hs => ?_, fun b o e => ?_⟩
      · rw [upd_ne (ne_of_none w1 hlt)]; exact w1
      · rw [upd_ne (ne_of_none w2 hlt)]; exact w2
      · rw [upd_ne (ne_of_none w3 hlt)]; exact w3
      · rw [upd_ne (ne_of_none w4 hlt)]
        have : s = 0 := by simpa [Dk.grown] using hs
        subst this
        have ef : (Dk.uniqs S).filter (fun b => Rc52.within 0 b) = Dk.uniqs S := List.filter_eq_self.mpr fun b _ => Dk.within_iff.mpr (Nat.zero_and b)
        rw [ef]
        exact w4
      · rw [upd_ne (ne_of_none (s3 b o e) hlt)]; exact s3 b o e
    refine ⟨lt, rfl, ⟨_, SqL.of upd_same⟩, for_list (K := K) (a := lt) (xs := nats ((Dk.bigs S m).map fun i => 2 ^ i)) (fun j σ H' => ∃ (rs : Nat → Addr) (v5 v6 v7 v8 v9 : Option V), σ = [some (.ref a), some (.int (m : Int)), some (.ref dt), some (.ref dh), some (.ref ds), v5, v6, v7, v8, v9] ∧
        HI H S dt dh ds lt ((Dk.bigs S m).map fun i => 2 ^ i) H' (Dk.grown S m ((Dk.bigs S m).take j)) rs)
      ⟨fun _ => l, none, none, none, none, none, rfl, hi0⟩ (fun j σ H' _ ⟨_, _, _, _, _, _, _, x⟩ => SqL.of x.l) ?_ ?_⟩
    · rintro j y σ H' hj ⟨rs, v5, v6, v7, v8, v9, rfl, hi⟩
      obtain ⟨b, hb, rfl⟩ := nats_get hj
      rw [List.getElem?_map] at hb
      obtain ⟨i, hi1, rfl⟩ : ∃ i, (Dk.bigs S m)[j]? = some i ∧ 2 ^ i = b := by
        cases e : (Dk.bigs S m)[j]? with
        | none => rw [e] at hb; cases hb
        | some i => rw [e] at hb; exact ⟨i, rfl, Option.some.inj hb⟩
      have hnd := Dk.nodup_bigs S m
      have hG := Dk.grown_ok S m ((Dk.bigs S m).take j) (hnd.sublist (List.take_sublist _ _))
      have hno : i ∉ (Dk.bigs S m).take j := Dk.take_not hnd hi1
      have hlen : (Dk.grown S m ((Dk.bigs S m).take j)).length ≤ 4096 := Dk.len_grown hH hU hm (hnd.sublist (List.take_sublist _ _)) (by rw [List.length_take]; omega)
      have hnx : Dk.grown S m ((Dk.bigs S m).take (j + 1)) = Dk.ext S m (Dk.grown S m ((Dk.bigs S m).take j)) i := by rw [take_snoc hi1, Dk.grown_snoc]
      generalize Dk.grown S m ((Dk.bigs S m).take j) = L at hi hG hlen hnx
      have hLne : L ≠ [] := by rw [hG.hd]; exact List.cons_ne_nil _ _
      refine ⟨_, rfl, dh, _, rfl, .inl hi.h, fun lk hlk => ?_⟩
      have eK := kvN_keys (fun s => V.ref (rs s)) L
      rw [eK]
      refine ⟨lk, rfl, ⟨_, SqL.of upd_same⟩, for_list (K := K) (a := lk) (xs := nats L) (fun q σ H'' => ∃ (rs : Nat → Addr) (v6 v7 v8 v9 : Option V), σ = [some (.ref a), some (.int (m : Int)), some (.ref dt), some (.ref dh), some (.ref ds), some (.int ((2 ^ i : Nat) : Int)), v6, v7, v8, v9] ∧
          HI H S dt dh ds lt ((Dk.bigs S m).map fun i => 2 ^ i) H'' (Dk.part S m L i q) rs ∧ H'' lk = some (.lst (nats L)))
        ⟨rs, v6, v7, v8, v9, rfl, by rw [Dk.part_zero]; exact hi.new hlk, upd_same⟩ (fun q σ H'' _ ⟨_, _, _, _, _, _, _, x⟩ => SqL.of x) ?_ ?_⟩
      · rintro q y σ H'' hq ⟨rs', v6', v7', v8', v9', rfl, hi', hlk'⟩
        obtain ⟨s, hs, rfl⟩ := nats_get hq
        have hsL : s ∈ L := List.mem_of_getElem? hs
        have hsP : s ∈ Dk.part S m L i q := Dk.part_sub hsL
        have hB := hi'.r s hsP
        have hBl : ((Dk.uniqs S).filter fun b => Rc52.within s b).length ≤ 512 := Nat.le_trans (List.length_filter_le _ _) (Nat.le_trans (Dk.len_uniqs S) hH.len)
        refine ⟨_, rfl, _, rfl, dh, V.ref (rs' s), rfl, (by have z := DGet.k (k := Sum.inl (s : Int)) hi'.h; rw [kvN_in _ hsP] at z; exact z), rs' s, rfl, ⟨_, SqL.of hB⟩, fun D1 hD1 => ?_⟩
        have hB1 : ∀ o, upd H'' D1 o (rs' s) = some (.lst (nats ((Dk.uniqs S).filter fun b => Rc52.within s b))) := fun o => by rw [upd_ne (ne_of_none hB hD1)]; exact hB
        refine lc_list (K := K) (a := rs' s) (xs := nats ((Dk.uniqs S).filter fun b => Rc52.within s b)) (fun n Hc => Hc = upd H'' D1 (.lst (nats ((((Dk.uniqs S).filter fun b => Rc52.within s b).take n).filter fun b => b.testBit i)))) rfl (fun n Hc _ e => by rw [e]; exact SqL.of (hB1 _)) ?_ ?_
        · rintro n x Hc hx rfl
          obtain ⟨b, hb, rfl⟩ := nats_get hx
          refine ⟨rfl, _, rfl, _, rfl, _, _, rfl, rfl, rfl, _, rfl, ?_⟩
          rw [ne_bit]
          refine ite2 (fun c => ?_) (fun c => ?_)
          · refine ⟨_, rfl, _, upd_same, ?_, ?_⟩
            · rw [nats_len]
              have h1 := List.length_filter_le (fun b => b.testBit i) (((Dk.uniqs S).filter fun b => Rc52.within s b).take n)
              have h2 : (((Dk.uniqs S).filter fun b => Rc52.within s b).take n).length ≤ ((Dk.uniqs S).filter fun b => Rc52.within s b).length := by rw [List.length_take]; omega
              exact small1000 (by omega)
            · rw [upd_upd, nats_snoc, take_snoc hb, List.filter_append, List.filter_cons, if_pos c, List.filter_nil]
          · rw [take_snoc hb, List.filter_append, List.filter_cons, if_neg c, List.filter_nil, List.append_nil]
        · rintro Hc rfl
          rw [nats_len, List.take_length, Dk.filter_bit]
          generalize hB' : (Dk.uniqs S).filter (fun b => Rc52.within (s ||| 2 ^ i) b) = B'
          have hB'l : B'.length ≤ 512 := by rw [← hB']; exact Nat.le_trans (List.length_filter_le _ _) (Nat.le_trans (Dk.len_uniqs S) hH.len)
          have hB'm : ∀ b ∈ B', b ∈ Dk.uniqs S := fun b hb => by rw [← hB'] at hb; exact (List.mem_filter.mp hb).1
          have hi2 := hi'.new (o := .lst (nats B')) hD1
          have hD1' : upd H'' D1 (.lst (nats B')) D1 = some (.lst (nats B')) := upd_same
          refine ⟨_, rfl, D1, rfl, ⟨_, SqL.of hD1'⟩, fun D2 hD2 => ?_⟩
          refine lc_list (K := K) (a := D1) (xs := nats B') (fun n Hc => Hc = upd (upd H'' D1 (.lst (nats B'))) D2 (.lst (((B'.take n).map fun b => ((S.count b : Nat) : Int)).map V.int))) rfl (fun n Hc _ e => by rw [e]; exact SqL.of (by rw [upd_ne (ne_of_none hD1' hD2)]; exact hD1')) ?_ ?_
          · rintro n x Hc hx rfl
            obtain ⟨b, hb, rfl⟩ := nats_get hx
            have hbu : b ∈ Dk.uniqs S := hB'm b (List.mem_of_getElem? hb)
            have hi3 := hi2.new (o := .lst (((B'.take n).map fun b => ((S.count b : Nat) : Int)).map V.int)) hD2
            refine ⟨rfl, ?_⟩
            unfold tYes
            refine iteT ⟨_, rfl, _, rfl, dt, V.int (S.count b : Nat), rfl, (by have z := DGet.k (k := Sum.inl (b : Int)) hi3.t; rw [show valV (kvT S) (Sum.inl (b : Int)) = some (V.int (S.count b : Nat)) from kvN_in _ hbu] at z; exact z), _, upd_same, ?_, ?_⟩
            · rw [List.length_map, List.length_map, List.length_take]
              exact small1000 (by omega)
            · rw [upd_upd, take_snoc hb, List.map_append, List.map_append]
              rfl
          · rintro Hc rfl
            rw [nats_len, List.take_length]
            have hi3 := hi2.new (o := .lst ((B'.map fun b => ((S.count b : Nat) : Int)).map V.int)) hD2
            have hD3 : upd (upd H'' D1 (.lst (nats B'))) D2 (.lst ((B'.map fun b => ((S.count b : Nat) : Int)).map V.int)) D1 = some (.lst (nats B')) := by rw [upd_ne (ne_of_none hD1' hD2)]; exact hD1'
            have hlk3 : upd (upd H'' D1 (.lst (nats B'))) D2 (.lst ((B'.map fun b => ((S.count b : Nat) : Int)).map V.int)) lk = some (.lst (nats L)) := by
              have z1 : upd H'' D1 (.lst (nats B')) lk = some (.lst (nats L)) := by rw [upd_ne (ne_of_none hlk' hD1)]; exact hlk'
              rw [upd_ne (ne_of_none z1 hD2)]; exact z1
            refine ⟨D2, B'.map fun b => ((S.count b : Nat) : Int), rfl, SqL.of upd_same, ?_⟩
            have hsum : (B'.map fun b => ((S.count b : Nat) : Int)).sum = (Rc52.support S (s ||| 2 ^ i) : Nat) := by rw [← hB']; exact Dk.sum_support S (s ||| 2 ^ i)
            rw [hsum]
            generalize upd (upd H'' D1 (.lst (nats B'))) D2 (.lst ((B'.map fun b => ((S.count b : Nat) : Int)).map V.int)) = H6 at hi3 hD3 hlk3 ⊢
            have hfresh : (s ||| 2 ^ i) ∉ Dk.part S m L i q := Dk.part_fresh hG.nd (fun t ht => hG.no hno ht) hs
            have hpl := Dk.part_len S m L i q
            have big : 8192 < sizeLine := by decide
            refine ⟨_, rfl, _, rfl, _, _, rfl, rfl, _, rfl, ?_⟩
            refine ite2 (fun c => ?_) (fun c => ?_)
            · have c' : m ≤ Rc52.support S (s ||| 2 ^ i) := by simp at c; omega
              refine ⟨_, rfl, _, rfl, _, rfl, _, rfl, _, _, rfl, rfl, dh, upd H6 dh (.dK (putK (kvN (fun s => V.ref (rs' s)) (Dk.part S m L i q)) (Sum.inl ((s ||| 2 ^ i : Nat) : Int)) (.ref D1))), rfl, ?_, ?_⟩
              · show DPut H6 dh (V.int (Builtin.bitOr (s : Int) ((2 ^ i : Nat) : Int))) _ _
                rw [or_nat]
                exact DPut.k (k := Sum.inl ((s ||| 2 ^ i : Nat) : Int)) hi3.h (by rw [kvN_len]; omega)
              · refine ⟨_, rfl, _, rfl, _, rfl, _, rfl, _, _, rfl, rfl, ds, upd (upd H6 dh (.dK (putK (kvN (fun s => V.ref (rs' s)) (Dk.part S m L i q)) (Sum.inl ((s ||| 2 ^ i : Nat) : Int)) (.ref D1)))) ds (.dK (putK (kvN (fun s => V.int (Rc52.support S s : Nat)) (Dk.part S m L i q).tail) (Sum.inl ((s ||| 2 ^ i : Nat) : Int)) (.int (Rc52.support S (s ||| 2 ^ i) : Nat)))), rfl, ?_, ?_⟩
                · show DPut _ ds (V.int (Builtin.bitOr (s : Int) ((2 ^ i : Nat) : Int))) _ _
                  rw [or_nat]
                  exact DPut.k (k := Sum.inl ((s ||| 2 ^ i : Nat) : Int)) (by rw [upd_ne n5.symm]; exact hi3.s) (by rw [kvN_len, List.length_tail]; omega)
                · refine ⟨fun y => if y = s ||| 2 ^ i then D1 else rs' y, some (.int (s : Int)), some (.ref D1), some (.int (Rc52.support S (s ||| 2 ^ i) : Nat)), v9', rfl, ?_, ?_⟩
                  · rw [Dk.part_succ hs, if_pos c']
                    exact hi3.put n1 n4 n5 f1 f2 (Dk.part_ne hLne) hfresh (by rw [hB']; exact hD3)
                  · rw [upd_ne (ne_of hlk3 hi3.s (by intro z; cases z)), upd_ne (ne_of hlk3 hi3.h (by intro z; cases z))]
                    exact hlk3
            · have c' : ¬ m ≤ Rc52.support S (s ||| 2 ^ i) := by simp at c; omega
              refine ⟨rs', some (.int (s : Int)), some (.ref D1), some (.int (Rc52.support S (s ||| 2 ^ i) : Nat)), v9', rfl, ?_, hlk3⟩
              rw [Dk.part_succ hs, if_neg c']
              exact hi3
      · rintro σ H'' ⟨rs', v6', v7', v8', v9', rfl, hi', hlk'⟩
        rw [nats_len, Dk.part_full, ← hnx] at hi'
        have hlen' : (Dk.grown S m ((Dk.bigs S m).take (j + 1))).length ≤ 4096 := Dk.len_grown hH hU hm (hnd.sublist (List.take_sublist _ _)) (by rw [List.length_take]; omega)
        refine ⟨_, rfl, ds, _, rfl, hi'.s, _, _, rfl, rfl, _, rfl, ?_⟩
        refine ite2 (fun c => ?_) (fun c => ?_)
        · exfalso
          rw [kvN_len, List.length_tail] at c
          simp at c
          omega
        · exact ⟨rs', some (.int ((2 ^ i : Nat) : Int)), v6', v7', v8', v9', rfl, hi'⟩
    · rintro σ H' ⟨rs, v5, v6, v7, v8, v9, rfl, hi⟩
      rw [nats_len, List.length_map, List.take_length] at hi
      exact ⟨_, rfl, k H' ds f2 hi.s hi.same⟩
end
end Dsk
end
section
set_option Elab.async false
set_option linter.all false
set_option maxRecDepth 100000
set_option maxHeartbeats 2000000
namespace Dsk
open PySem PySem.Spec PyProof.Rows L2
theorem eq_zero (a b : Nat) : decide (V.int (Builtin.bitAnd (a : Int) (b : Int)) = V.int 0) = decide (a &&& b = 0) := by
  rw [dec_int, and_nat, Bool.eq_iff_iff, beq_iff_eq, decide_eq_true_eq]
  omega
theorem kvN_at {f : Nat → V} {l : List Nat} {i : Nat} {k : Key} {v : V} (h : (kvN f l)[i]? = some (k, v)) : ∃ s : Nat, l[i]? = some s ∧ k = Sum.inl (s : Int) ∧ v = f s := by
  unfold kvN at h
  rw [List.getElem?_map] at h
  cases e : l[i]? with
  | none => rw [e] at h; cases h
  | some s =>
    rw [e] at h
    have := Option.some.inj h
    injection this with h1 h2
    exact ⟨s, rfl, h1.symm, h2.symm⟩
theorem dec_ne' {i j : Int} (h : i ≠ j) : decide (V.int i = V.int j) = false := by rw [dec_int]; exact beq_eq_false_iff_ne.mpr h
theorem dec_same' {i : Int} : decide (V.int i = V.int i) = true := by rw [dec_int]; exact beq_self_eq_true i
/-- baskets as they can be, and a least -/
structure Fit (U : Nat) (S : List Nat) (m : Nat) : Prop where
  held : Dk.Held U S
  lt : ∀ b ∈ S, b < 2 ^ 64
  few : Rc52.size U ≤ 12
  pos : 1 ≤ m
theorem Fit.len {U : Nat} {S : List Nat} {m : Nat} (h : Fit U S m) : (Dk.often S m).length ≤ 4096 := Dk.len_often h.held h.few h.pos
theorem Fit.below {U : Nat} {S : List Nat} {m s : Nat} (h : Fit U S m) (hs : s ∈ Dk.often S m) : s < 2 ^ 64 ∧ 0 < s ∧ m ≤ Rc52.support S s := by
  obtain ⟨a, b⟩ := (Dk.mem_often h.lt h.pos).mp hs
  exact ⟨Dk.support_lt h.lt (Nat.le_trans h.pos b), a, b⟩
theorem kvS_in {U : Nat} {S : List Nat} {m x : Nat} (h : Fit U S m) (h0 : 0 < x) (hx : m ≤ Rc52.support S x) : valV (kvS S m) (Sum.inl (x : Int)) = some (V.int (Rc52.support S x : Nat)) := kvN_in _ ((Dk.mem_often h.lt h.pos).mpr ⟨h0, hx⟩)
theorem kvS_get {U : Nat} {S : List Nat} {m x : Nat} (h : Fit U S m) (h0 : 0 < x) : (valV (kvS S m) (Sum.inl (x : Int))).getD (V.int 0) = V.int (Dk.val S m x : Nat) := by
  unfold Dk.val
  by_cases c : m ≤ Rc52.support S x
  · rw [kvS_in h h0 c, if_pos c]
    rfl
  · rw [show valV (kvS S m) (Sum.inl (x : Int)) = none from kvN_out _ fun z => c ((Dk.mem_often h.lt h.pos).mp z).2, if_neg c]
    rfl
def spMost (K : PySem.W.Frag) (U : Nat) : Sp := fun vs H Q _ => ∃ (d l : Addr) (S : List Nat) (m : Nat) (sg : List Nat) (s : Nat), vs = [.ref d, .ref l, .int (s : Int)] ∧ Rd H d (.dK (kvS S m)) ∧ SqL K H l (nats sg) ∧ Fit U S m ∧ 0 < s ∧ Q (.int (Dk.most S m sg s : Nat)) H
def spKind (K : PySem.W.Frag) (U : Nat) : Sp := fun vs H Q _ => ∃ (d : Addr) (S : List Nat) (m z : Nat), vs = [.ref d, .int (m : Int), .int (z : Int)] ∧ H d = some (.dK (kvS S m)) ∧ Fit U S m ∧ z ≤ 2 ∧
  ∀ (H' : Hp) (l : Addr), H l = none → H' l = some (.lst (nats (Dk.ofKind S m z))) → Same H H' → Q (.ref l) H'
def spOrder (K : PySem.W.Frag) : Sp := fun vs H Q _ => ∃ (l : Addr) (ns : List Nat), vs = [.ref l] ∧ SqL K H l (nats ns) ∧ (∀ n ∈ ns, n < 2 ^ 64) ∧
  ∀ (ns' : List Nat) (p : Addr) (H' : Hp), ns'.Perm ns → (ns'.Pairwise fun a b => ¬ Rc52.before b a = true) → H p = none → H' p = some (.lst (nats ns')) → Same H H' → Q (.ref p) H'
section
variable {P : Program} {w : World} {K : PySem.W.Frag} {mg : Str → Option Value} {base : Heap}
theorem scOrder : FnScope ["found"] ["found"] (defScope sOrder) := ⟨rfl, rfl, rfl, by decide +kernel, rfl, by decide +kernel, by decide +kernel⟩
theorem ok_order {f fp : Addr} {fd fdp : FuncData} (F : Fun K "in_order" "in_order" sOrder f fd) (T : Txt mg) (mgP : mg "place_in_order" = some (.ref fp)) (bP : Binds K fdp ["things"] [])
    (G : FnOk P w K mg base CX0 2 fp fdp ["things"] spPlace) : FnOk P w K mg base CX0 5 f fd ["found"] (spOrder K) := by
  refine F.ok scOrder (fun vs H Q E h => ?_) (fun cdv A outer s H vs Q E hr h => ?_)
  · obtain ⟨l, ns, rfl, _⟩ := h
    rfl
  · obtain ⟨l, ns, rfl, hl, hn, k⟩ := h
    refine ⟨_, pss_one (ps_ret (pe_sortedK (g := Rc52.size) hr G bP rfl T.sorted rfl mgP (pv 0))), ?_⟩
    refine ⟨_, rfl, l, ns, rfl, hl, fun n hn' H Q q => ⟨n, rfl, hn n hn', q⟩, fun ns' p H' p1 p2 hp e sm => k ns' p H' p1 (p2.imp fun q z => q ?_) hp e sm⟩
    exact Dk.before_iff.mp z
theorem scMost : FnScope ["supports", "singles", "things", "most", "thing"] ["supports", "singles", "things"] (defScope sMost) := ⟨rfl, rfl, rfl, by decide +kernel, rfl, by decide +kernel, by decide +kernel⟩
theorem max_nat (a b : Nat) : (if (b : Int) > (a : Int) then (b : Int) else (a : Int)) = ((max a b : Nat) : Int) := by
  split <;> omega
theorem ok_most {U : Nat} {f : Addr} {fd : FuncData} (F : Fun K "most_support_above" "most_support_above" sMost f fd) (T : Txt mg) : FnOk P w K mg base CX0 1 f fd ["supports", "singles", "things"] (spMost K U) := by
  refine F.ok scMost (fun vs H Q E h => ?_) (fun cdv A outer s H vs Q E hr h => ?_)
  · obtain ⟨d, l, S, m, sg, s, rfl, _⟩ := h
    rfl
  · obtain ⟨d, l, S, m, sg, s, rfl, hd, hl, hF, h0, k⟩ := h
    have hu := hu_of hr
    refine ⟨_, pss_cons (ps_set (i := 3) scMost.nd rfl (Or.inl rfl) pe_int)
      (pss_cons (ps_for PassesOwn.never rfl (pi_list (pv 1)) (pg_name (i := 4) scMost.nd rfl (Or.inl rfl))
        (pss_one (ps_if (pt_cmpR op_eq (pe_op op_and (pv 2) (pv 4)) pe_int (nomark _))
          (pss_one (ps_set (i := 3) scMost.nd rfl (Or.inl rfl) (pe_callB (call_max2 rfl) rfl T.max is_max (pa_cons (pv 3) (pa_cons (pe_dget2 hu (pv 0) (pe_op op_or (pv 2) (pv 4)) pe_int ⟨rfl, rfl, rfl, rfl⟩) pa_nil))))) pss_nil)))
      (pss_one (ps_ret (pv 3)))), ?_⟩
    refine ⟨_, rfl, l, rfl, ⟨_, hl⟩, for_list (K := K) (a := l) (xs := nats sg) (fun i σ H' => ∃ v : Option V, σ = [some (.ref d), some (.ref l), some (.int (s : Int)), some (.int (Dk.most S m (sg.take i) s : Nat)), v] ∧ H' = H)
      ⟨none, rfl, rfl⟩ (fun i σ H' _ ⟨_, _, e⟩ => by rw [e]; exact hl) ?_ ?_⟩
    · rintro i y σ H' hi ⟨v, rfl, rfl⟩
      obtain ⟨t, ht, rfl⟩ := nats_get hi
      refine ⟨_, rfl, _, rfl, _, _, rfl, rfl, rfl, _, rfl, ?_⟩
      rw [eq_zero]
      refine ite2 (fun c => ?_) (fun c => ?_)
      · have c' := of_decide_eq_true c
        refine ⟨_, rfl, _, rfl, d, rfl, .inl ⟨_, hd⟩, _, rfl, _, rfl, _, _, rfl, rfl, valV (kvS S m) (Sum.inl ((s ||| t : Nat) : Int)), ?_, ?_⟩
        · show DGet _ d (V.int (Builtin.bitOr (s : Int) (t : Int))) _
          rw [or_nat]
          exact .inl ⟨_, Sum.inl ((s ||| t : Nat) : Int), hd, rfl, rfl⟩
        · rw [kvS_get hF (Nat.lt_of_lt_of_le h0 Nat.left_le_or)]
          refine ⟨_, _, rfl, ?_⟩
          rw [max_nat]
          refine ⟨some (.int (t : Int)), ?_, rfl⟩
          rw [take_snoc ht, Dk.most_snoc, if_pos c']
          rfl
      · have c' : ¬ s &&& t = 0 := fun z => c (decide_eq_true z)
        refine ⟨some (.int (t : Int)), ?_, rfl⟩
        rw [take_snoc ht, Dk.most_snoc, if_neg c']
        rfl
    · rintro σ H' ⟨v, rfl, rfl⟩
      rw [nats_len, List.take_length]
      exact ⟨_, rfl, k⟩
theorem scKind : FnScope ["supports", "least", "kind", "things", "singles", "found", "bound"] ["supports", "least", "kind"] (defScope sKind) := ⟨rfl, rfl, rfl, by decide +kernel, rfl, by decide +kernel, by decide +kernel⟩
/-- the test of a set's kind -/
def kindTest (S : List Nat) (m z s : Nat) : Bool := decide (Dk.most S m (Dk.singles S m) s < if z = 1 then Rc52.support S s else m)
theorem ofKind_test {S : List Nat} {m z : Nat} (hz : z = 1 ∨ z = 2) : Dk.ofKind S m z = (Dk.often S m).filter (kindTest S m z) := by
  unfold Dk.ofKind kindTest
  rcases hz with rfl | rfl
  · rw [if_pos rfl]
    simp
  · rw [if_neg (by decide), if_pos rfl]
    simp
theorem ok_kind {U : Nat} {f fm fo : Addr} {fd fdm fdo : FuncData} (F : Fun K "sets_of_kind" "sets_of_kind" sKind f fd) (T : Txt mg)
    (mgM : mg "how_many_things" = some (.ref fm)) (kM : PySem.W.keepIn K (.ref fm) = true) (bM : Binds K fdm ["things"] []) (GM : FnOk P w K mg base CX0 1 fm fdm ["things"] spMany)
    (mgO : mg "most_support_above" = some (.ref fo)) (kO : PySem.W.keepIn K (.ref fo) = true) (bO : Binds K fdo ["supports", "singles", "things"] []) (GO : FnOk P w K mg base CX0 1 fo fdo ["supports", "singles", "things"] (spMost K U)) :
    FnOk P w K mg base CX0 2 f fd ["supports", "least", "kind"] (spKind K U) := by
  obtain ⟨t1, hcl⟩ := T.closed
  obtain ⟨t2, hgr⟩ := T.great
  refine F.ok scKind (fun vs H Q E h => ?_) (fun cdv A outer s H vs Q E hr h => ?_)
  · obtain ⟨d, S, m, z, rfl, _⟩ := h
    rfl
  · obtain ⟨d, S, m, z, rfl, hd, hF, hz, k⟩ := h
    have hu := hu_of hr
    refine ⟨_, pss_cons (ps_if (pt_cmpR op_notIn_seq (pv 2) (pe_tup (pa_cons (pe_glob (v := .int 1) rfl hcl ⟨_, rfl⟩) (pa_cons (pe_glob (v := .int 2) rfl hgr ⟨_, rfl⟩) pa_nil))) rfl) (pss_one (ps_ret (pe_callTy (call_list_dict rfl) rfl T.lst is_list (pa_cons (pv 0) pa_nil)))) pss_nil)
      (pss_cons (ps_lock (ps_setLc (i := 4) (own := [("things", 3)]) rfl scKind.nd rfl rfl (sw_true rfl rfl rfl rfl) (pi_keys (pv 0)) (blkOk_by (N := ["supports", "least", "kind", "things", "singles", "found", "bound"]) (sc := defScope sKind) (by decide +kernel)) (fun _ _ _ _ _ => pg_name (i := 3) scKind.nd rfl (Or.inl rfl))
        (fun _ _ _ _ _ => pts_one (pt_cmpR op_eq (pe_call GM hr rfl mgM kM bM .nil pass0 (pa_cons (pv 3) pa_nil)) pe_int (nomark _))) (fun _ _ _ _ _ => pv 3)))
      (pss_cons (ps_set (i := 5) scKind.nd rfl (Or.inl rfl) (pe_lst pa_nil))
      (pss_cons (ps_lock (ps_for PassesOwn.never rfl (pi_keys (pv 0)) (pg_name (i := 3) scKind.nd rfl (Or.inl rfl))
        (pss_cons (ps_set (i := 6) scKind.nd rfl (Or.inl rfl) (pe_ifExp (pt_cmpR op_eq (pv 2) (pe_glob (v := .int 1) rfl hcl ⟨_, rfl⟩) (nomark _)) (pe_dget hu (pv 0) (pv 3) (fun _ _ => rfl)) (pv 1)))
        (pss_one (ps_if (pt_cmpR op_lt (pe_call GO hr rfl mgO kO bO .nil pass0 (pa_cons (pv 0) (pa_cons (pv 4) (pa_cons (pv 3) pa_nil)))) (pv 6) (nomark _))
          (pss_one (ps_expr (pe_bm PySem.F.plainAttrs_list PySem.F.slot_list_append PySem.F.type_list_append mt_append (pv 5) (pa_cons (pv 3) pa_nil)))) pss_nil)))))
      (pss_one (ps_ret (pv 5)))))), ?_⟩
    refine ⟨_, rfl, (by show 2 ≤ sizeLine; decide), fun p hp => ?_⟩
    have sp : Same H (upd H p (.tup [.int 1, .int 2])) := fun b o e => by rw [upd_ne (ne_of_none e hp)]; exact e
    refine ⟨p, _, rfl, .inr (SqT.of upd_same), rfl, rfl, _, rfl, ?_⟩
    have hd1 := sp d _ hd
    generalize upd H p (.tup [.int 1, .int 2]) = H1 at sp hd1 ⊢
    have hl4 := hF.len
    have big : 4096 < sizeLine := by decide
    by_cases hz0 : z = 0
    · subst hz0
      refine iteT ⟨_, rfl, d, _, rfl, .inl hd1, fun l hl => ?_⟩
      refine k _ l (sp.free hl) ?_ fun b o e => by rw [upd_ne (ne_of_none (sp b o e) hl)]; exact sp b o e
      rw [upd_same]
      rw [show (kvS S m).map (fun kv => kV kv.1) = nats (Dk.often S m) from kvN_keys _ _]
      rfl
    · have hz12 : z = 1 ∨ z = 2 := by omega
      have hin : (if true = true then !inV (V.int (z : Int)) [V.int 1, V.int 2] else inV (V.int (z : Int)) [V.int 1, V.int 2]) = false := by
        rcases hz12 with rfl | rfl <;> decide
      rw [hin]
      refine iteF ?_
      refine ⟨d, .dK (kvS S m), hd1, trivial, fun od => ?_⟩
      refine ⟨_, rfl, d, od, rfl, .inl ⟨_, upd_same, fun D hD => ?_⟩⟩
      have ndD : d ≠ D := ne_of_none (H := upd H1 d (.frz od (.dK (kvS S m)))) upd_same hD
      refine lc_keys (d := d) (o := od) (kvs := kvS S m) (fun n Hc => Hc = upd (upd H1 d (.frz od (.dK (kvS S m)))) D (.lst (nats (((Dk.often S m).take n).filter fun s => Rc52.size s == 1)))) rfl (fun n Hc _ e => by rw [e, upd_ne ndD]; exact upd_same) ?_ ?_
      · rintro n key v Hc hkv rfl
        obtain ⟨s, hs, rfl, rfl⟩ := kvN_at hkv
        obtain ⟨hs1, hs2, hs3⟩ := hF.below (List.mem_of_getElem? hs)
        refine ⟨rfl, _, rfl, s, rfl, hs1, rfl, _, rfl, ?_⟩
        have e1 : decide (V.int (Rc52.size s : Nat) = V.int 1) = (Rc52.size s == 1) := by
          rw [dec_int, Bool.eq_iff_iff, beq_iff_eq, beq_iff_eq]
          omega
        rw [e1]
        refine ite2 (fun c => ?_) (fun c => ?_)
        · refine ⟨_, rfl, _, upd_same, ?_, ?_⟩
          · rw [nats_len]
            have h1 := List.length_filter_le (fun s => Rc52.size s == 1) ((Dk.often S m).take n)
            have h2 : ((Dk.often S m).take n).length ≤ (Dk.often S m).length := by rw [List.length_take]; omega
            omega
          · rw [upd_upd, show kV (Sum.inl (s : Int)) = V.int (s : Int) from rfl, nats_snoc, take_snoc hs, List.filter_append, List.filter_cons, if_pos c, List.filter_nil]
        · rw [take_snoc hs, List.filter_append, List.filter_cons, if_neg c, List.filter_nil, List.append_nil]
      · rintro Hc rfl
        rw [show (kvS S m).length = (Dk.often S m).length from kvN_len _ _, List.take_length]
        show _ ∧ _
        refine ⟨by rw [upd_ne ndD]; exact upd_same, ?_⟩
        have b1 : upd (upd (upd H1 d (.frz od (.dK (kvS S m)))) D (.lst (nats ((Dk.often S m).filter fun s => Rc52.size s == 1)))) d (.dK (kvS S m)) d = some (.dK (kvS S m)) := upd_same
        have b2 : upd (upd (upd H1 d (.frz od (.dK (kvS S m)))) D (.lst (nats ((Dk.often S m).filter fun s => Rc52.size s == 1)))) d (.dK (kvS S m)) D = some (.lst (nats (Dk.singles S m))) := by rw [upd_ne ndD.symm]; exact upd_same
        have b3 : Same H (upd (upd (upd H1 d (.frz od (.dK (kvS S m)))) D (.lst (nats ((Dk.often S m).filter fun s => Rc52.size s == 1)))) d (.dK (kvS S m))) := fun b o e => by
          by_cases hb : b = d
          · subst hb
            rw [hd] at e
            cases e
            exact b1
          · have e1 : upd H1 d (.frz od (.dK (kvS S m))) b = some o := by rw [upd_ne hb]; exact sp b o e
            rw [upd_ne hb, upd_ne (ne_of_none e1 hD)]
            exact e1
        generalize upd (upd (upd H1 d (.frz od (.dK (kvS S m)))) D (.lst (nats ((Dk.often S m).filter fun s => Rc52.size s == 1)))) d (.dK (kvS S m)) = H2 at b1 b2 b3 ⊢
        refine ⟨Nat.zero_le _, fun lf hlf => ?_⟩
        have c1 : upd H2 lf (.lst []) d = some (.dK (kvS S m)) := by rw [upd_ne (ne_of_none b1 hlf)]; exact b1
        have c2 : upd H2 lf (.lst []) D = some (.lst (nats (Dk.singles S m))) := by rw [upd_ne (ne_of_none b2 hlf)]; exact b2
        have c3 : Same H (upd H2 lf (.lst [])) := fun b o e => by rw [upd_ne (ne_of_none (b3 b o e) hlf)]; exact b3 b o e
        have flf : H lf = none := b3.free hlf
        have nlD : lf ≠ D := fun z => by rw [z] at hlf; rw [b2] at hlf; cases hlf
        have nld : lf ≠ d := fun z => by rw [z] at hlf; rw [b1] at hlf; cases hlf
        have ndD2 : D ≠ d := ndD.symm
        refine ⟨d, .dK (kvS S m), c1, trivial, fun od2 => ?_⟩
        refine ⟨_, rfl, d, od2, rfl, .inl ⟨_, upd_same, ?_⟩⟩
        refine for_keys (d := d) (o := od2) (kvs := kvS S m) (fun n σ Hc => ∃ v3 v6 : Option V, σ = [some (.ref d), some (.int (m : Int)), some (.int (z : Int)), v3, some (.ref D), some (.ref lf), v6] ∧ Hc d = some (.frz od2 (.dK (kvS S m))) ∧
            Hc D = some (.lst (nats (Dk.singles S m))) ∧ Hc lf = some (.lst (nats (((Dk.often S m).take n).filter (kindTest S m z)))) ∧ ∀ b o, H b = some o → b ≠ d → Hc b = some o)
          ⟨none, none, rfl, upd_same, by rw [upd_ne ndD2]; exact c2, by rw [upd_ne nld]; exact upd_same, fun b o e hb => by rw [upd_ne hb]; exact c3 b o e⟩ (fun n σ Hc _ ⟨_, _, _, x, _⟩ => x) ?_ ?_
        · rintro n key v σ Hc hkv ⟨v3, v6, rfl, g1, g2, g3, g4⟩
          obtain ⟨s, hs, rfl, rfl⟩ := kvN_at hkv
          have hso := List.mem_of_getElem? hs
          obtain ⟨hs1, hs2, hs3⟩ := hF.below hso
          have hget : DGet Hc d (V.int (s : Int)) (some (V.int (Rc52.support S s : Nat))) := .inl ⟨_, Sum.inl (s : Int), .inr ⟨od2, g1⟩, rfl, (kvS_in hF hs2 hs3).symm⟩
          have pass : ∀ bd : Nat, bd = (if z = 1 then Rc52.support S s else m) → (decide (((Dk.most S m (Dk.singles S m) s : Nat) : Int) < (bd : Int)) = true ↔ kindTest S m z s = true) := by
            rintro bd rfl
            unfold kindTest
            rw [decide_eq_true_eq, decide_eq_true_eq]
            omega
          have len3 : (nats (((Dk.often S m).take n).filter (kindTest S m z))).length < sizeLine := by
            rw [nats_len]
            have h1 := List.length_filter_le (kindTest S m z) ((Dk.often S m).take n)
            have h2 : ((Dk.often S m).take n).length ≤ (Dk.often S m).length := by rw [List.length_take]; omega
            omega
          have yes : kindTest S m z s = true → upd Hc lf (.lst (nats (((Dk.often S m).take n).filter (kindTest S m z)) ++ [V.int (s : Int)])) lf = some (.lst (nats (((Dk.often S m).take (n + 1)).filter (kindTest S m z)))) := fun c => by
            rw [upd_same, nats_snoc, take_snoc hs, List.filter_append, List.filter_cons, if_pos c, List.filter_nil]
          have no : ¬ kindTest S m z s = true → Hc lf = some (.lst (nats (((Dk.often S m).take (n + 1)).filter (kindTest S m z)))) := fun c => by
            rw [take_snoc hs, List.filter_append, List.filter_cons, if_neg c, List.filter_nil, List.append_nil]
            exact g3
          refine ⟨_, rfl, rfl, _, rfl, ?_⟩
          rcases hz12 with rfl | rfl
          · rw [show decide (V.int ((1 : Nat) : Int) = V.int 1) = true from dec_same']
            refine iteT ⟨_, rfl, _, rfl, d, _, rfl, hget, ?_⟩
            refine ⟨_, rfl, _, rfl, _, rfl, d, D, S, m, Dk.singles S m, s, rfl, .inr ⟨od2, g1⟩, SqL.of g2, hF, hs2, _, rfl, _, _, rfl, rfl, _, rfl, ?_⟩
            have ps := pass (Rc52.support S s) (by rfl)
            refine ite2 (fun c => ?_) (fun c => ?_)
            · refine ⟨_, rfl, .inl ⟨rfl, _, SqL.of g3⟩, _, rfl, lf, _, _, rfl, rfl, g3, len3, ?_⟩
              exact ⟨some (.int (s : Int)), some (.int ((Rc52.support S s : Nat) : Int)), rfl, by rw [upd_ne nld.symm]; exact g1, by rw [upd_ne nlD.symm]; exact g2, yes (ps.mp c), fun b o e hb => by rw [upd_ne (ne_of_none e flf)]; exact g4 b o e hb⟩
            · exact ⟨some (.int (s : Int)), some (.int ((Rc52.support S s : Nat) : Int)), rfl, g1, g2, no (fun q => c (ps.mpr q)), g4⟩
          · rw [show decide (V.int ((2 : Nat) : Int) = V.int 1) = false from dec_ne' (by decide)]
            refine iteF ⟨_, rfl, ?_⟩
            refine ⟨_, rfl, _, rfl, _, rfl, d, D, S, m, Dk.singles S m, s, rfl, .inr ⟨od2, g1⟩, SqL.of g2, hF, hs2, _, rfl, _, _, rfl, rfl, _, rfl, ?_⟩
            have ps := pass (m) (by rfl)
            refine ite2 (fun c => ?_) (fun c => ?_)
            · refine ⟨_, rfl, .inl ⟨rfl, _, SqL.of g3⟩, _, rfl, lf, _, _, rfl, rfl, g3, len3, ?_⟩
              exact ⟨some (.int (s : Int)), some (.int ((m : Nat) : Int)), rfl, by rw [upd_ne nld.symm]; exact g1, by rw [upd_ne nlD.symm]; exact g2, yes (ps.mp c), fun b o e hb => by rw [upd_ne (ne_of_none e flf)]; exact g4 b o e hb⟩
            · exact ⟨some (.int (s : Int)), some (.int ((m : Nat) : Int)), rfl, g1, g2, no (fun q => c (ps.mpr q)), g4⟩
        · rintro σ Hc ⟨v3, v6, rfl, g1, g2, g3, g4⟩
          rw [show (kvS S m).length = (Dk.often S m).length from kvN_len _ _, List.take_length, ← ofKind_test hz12] at g3
          refine ⟨g1, _, rfl, k _ lf flf (by rw [upd_ne nld]; exact g3) fun b o e => ?_⟩
          by_cases hb : b = d
          · subst hb
            rw [hd] at e
            cases e
            exact upd_same
          · rw [upd_ne hb]
            exact g4 b o e hb
end
end Dsk
end
section
set_option Elab.async false
set_option linter.all false
set_option maxRecDepth 100000
set_option maxHeartbeats 2000000
namespace Dsk
open PySem PySem.Spec PyProof.Rows L2
abbrev sMake : Stmt := top 19
abbrev sAmong : Stmt := top 20
/-- pairs, each at its address -/
def Prs (H : Hp) : List Addr → List (Nat × Nat) → Prop := Paired fun p r => H p = some (.tup [.int (r.1 : Int), .int (r.2 : Int)])
theorem Prs.same {H H' : Hp} (h : ∀ b xs, H b = some (.tup xs) → H' b = some (.tup xs)) : ∀ {ps : List Addr} {R : List (Nat × Nat)}, Prs H ps R → Prs H' ps R := by
  intro ps R r
  unfold Prs at *
  induction r with
  | nil => exact .nil
  | cons a t ih => exact .cons (h _ _ a) ih
theorem Prs.append {H : Hp} : ∀ {ps qs : List Addr} {R R' : List (Nat × Nat)}, Prs H ps R → Prs H qs R' → Prs H (ps ++ qs) (R ++ R') := by
  intro ps qs R R' r r'
  unfold Prs at *
  induction r with
  | nil => exact r'
  | cons a t ih => exact .cons a ih
theorem Prs.len {H : Hp} {ps : List Addr} {R : List (Nat × Nat)} (r : Prs H ps R) : ps.length = R.length := Paired.length r
theorem Prs.get {H : Hp} : ∀ {ps : List Addr} {R : List (Nat × Nat)}, Prs H ps R → ∀ {i : Nat} {x : Nat × Nat}, R[i]? = some x → ∃ p, ps[i]? = some p ∧ H p = some (.tup [.int (x.1 : Int), .int (x.2 : Int)]) := by
  intro ps R r
  unfold Prs at r
  induction r with
  | nil => intro i x e; simp at e
  | cons a t ih =>
    intro i x e
    cases i with
    | zero =>
      simp only [List.getElem?_cons_zero, Option.some.injEq] at e
      subst e
      exact ⟨_, rfl, a⟩
    | succ i => simpa using ih (by simpa using e)
theorem refs_snoc (ps : List Addr) (p : Addr) : ps.map V.ref ++ [V.ref p] = (ps ++ [p]).map V.ref := by rw [List.map_append]; rfl
/-- a share as it can be -/
structure Share (num den : Nat) : Prop where
  n : num ≤ 1000000
  d : den ≤ 1000000
def spMake (U : Nat) : Sp := fun vs H Q _ => ∃ (d : Addr) (S : List Nat) (m s num den : Nat), vs = [.ref d, .int (s : Int), .int (num : Int), .int (den : Int)] ∧ H d = some (.dK (kvS S m)) ∧ Fit U S m ∧ s ∈ Dk.often S m ∧ Share num den ∧
  ∀ (H' : Hp) (l : Addr) (ps : List Addr), H l = none → H' l = some (.lst (ps.map V.ref)) → Prs H' ps (Dk.ruled S num den s) → Same H H' → Q (.ref l) H'
def spAmong (U : Nat) : Sp := fun vs H Q _ => ∃ (d : Addr) (S : List Nat) (m num den : Nat), vs = [.ref d, .int (num : Int), .int (den : Int)] ∧ H d = some (.dK (kvS S m)) ∧ Fit U S m ∧ Share num den ∧
  ∀ (H' : Hp) (l : Addr) (ps : List Addr) (R : List (Nat × Nat)), H l = none → H' l = some (.lst (ps.map V.ref)) → Prs H' ps R → Same H H' → (R = Rc52.rulesOf S m num den ∨ (65536 < R.length ∧ 65536 < (Rc52.rulesOf S m num den).length)) → R.length ≤ 100000 → Q (.ref l) H'
theorem made_len {S : List Nat} {num den s t : Nat} {F : List Nat} (h : Dk.Made S num den s t F) (hs : s < 2 ^ 64) (h12 : Rc52.size s ≤ 12) : F.length ≤ 4096 := by
  have nd : F.Nodup := h.pair.imp fun q e => by omega
  have sub : ∀ x ∈ F, x ∈ Rc52.setsIn s := fun x hx => (Dk.mem_setsIn hs).mpr ((h.mem x).mp hx).1
  have := List.Nodup.length_le_of_subset nd sub
  rw [Dk.len_setsIn hs] at this
  exact Nat.le_trans this (Nat.le_trans (Nat.pow_le_pow_right (by decide) h12) (by decide))
section
variable {P : Program} {w : World} {K : PySem.W.Frag} {mg : Str → Option Value} {base : Heap}
theorem scMake : FnScope ["supports", "both", "num", "den", "enough", "found", "second", "first"] ["supports", "both", "num", "den"] (defScope sMake) := ⟨rfl, rfl, rfl, by decide +kernel, rfl, by decide +kernel, by decide +kernel⟩
theorem ok_make {U : Nat} {f : Addr} {fd : FuncData} (F : Fun K "rules_that_make" "rules_that_make" sMake f fd) : FnOk P w K mg base CX0 1 f fd ["supports", "both", "num", "den"] (spMake U) := by
  refine F.ok scMake (fun vs H Q E h => ?_) (fun cdv A outer s H vs Q E hr h => ?_)
  · obtain ⟨d, S, m, s, num, den, rfl, _⟩ := h
    rfl
  · obtain ⟨d, S, m, s, num, den, rfl, hd, hF, hso, hsh, k⟩ := h
    have hu := hu_of hr
    obtain ⟨hs1, hs2, hs3⟩ := hF.below hso
    have hs12 : Rc52.size s ≤ 12 := Dk.size_of hF.held hF.few (Nat.le_trans hF.pos hs3)
    refine ⟨_, pss_cons (ps_set (i := 4) scMake.nd rfl (Or.inl rfl) (pe_op op_mul (pv 3) (pe_dget hu (pv 0) (pv 1) (fun _ _ => rfl))))
      (pss_cons (ps_set (i := 5) scMake.nd rfl (Or.inl rfl) (pe_lst pa_nil))
      (pss_cons (ps_set (i := 6) scMake.nd rfl (Or.inl rfl) (pe_op op_and (pv 1) (pe_op op_sub (pv 1) pe_int)))
      (pss_cons (ps_while PassesOwn.never (pt_cmpR op_gt (pv 6) pe_int (nomark _))
        (pss_cons (ps_set (i := 7) scMake.nd rfl (Or.inl rfl) (pe_op op_sub (pv 1) (pv 6)))
        (pss_cons (ps_if (pt_cmpR op_ge (pv 4) (pe_op op_mul (pv 2) (pe_dget hu (pv 0) (pv 7) (fun _ _ => rfl))) (nomark _))
          (pss_one (ps_expr (pe_bm PySem.F.plainAttrs_list PySem.F.slot_list_append PySem.F.type_list_append mt_append (pv 5) (pa_cons (pe_tup (pa_cons (pv 7) (pa_cons (pv 6) pa_nil))) pa_nil)))) pss_nil)
        (pss_one (ps_set (i := 6) scMake.nd rfl (Or.inl rfl) (pe_op op_and (pe_op op_sub (pv 6) pe_int) (pv 1)))))))
      (pss_one (ps_ret (pv 5)))))), ?_⟩
    have cm : ∀ (x : Nat) (y : Int), x ≤ 1000000 → CMul (x : Int) y := fun x y hx => .inl ⟨by omega, by omega⟩
    refine ⟨_, rfl, _, rfl, _, rfl, d, V.int (Rc52.support S s : Nat), rfl, (by have z := DGet.k (k := Sum.inl (s : Int)) hd; rw [kvS_in hF hs2 hs3] at z; exact z), _, _, rfl, rfl, cm den _ hsh.d, ?_⟩
    refine ⟨Nat.zero_le _, fun l hl => ?_⟩
    have sm0 : Same H (upd H l (.lst [])) := fun b o e => by rw [upd_ne (ne_of_none e hl)]; exact e
    refine ⟨_, rfl, _, rfl, _, _, rfl, rfl, _, _, rfl, rfl, ?_⟩
    have e0 : (s : Int) - 1 = ((s - 1 : Nat) : Int) := by omega
    have eb : Builtin.bitAnd (s : Int) ((s : Int) - 1) = ((s &&& (s - 1) : Nat) : Int) := by rw [e0, and_nat]
    refine while_by (fun σ H' => ∃ (t : Nat) (Fs : List Nat) (ps : List Addr) (v7 : Option V), σ = [some (.ref d), some (.int (s : Int)), some (.int (num : Int)), some (.int (den : Int)), some (.int ((den : Int) * ((Rc52.support S s : Nat) : Int))), some (.ref l), some (.int (t : Int)), v7] ∧
        H' l = some (.lst (ps.map V.ref)) ∧ Prs H' ps (Fs.map fun a => (a, s - a)) ∧ Same H H' ∧ Dk.Made S num den s t Fs ∧ t &&& s = t ∧ t < s) (fun σ _ => slotNat 6 σ)
      ⟨s &&& (s - 1), [], [], none, (by show [some (V.ref d), some (V.int (s : Int)), some (V.int (num : Int)), some (V.int (den : Int)), some (V.int ((den : Int) * ((Rc52.support S s : Nat) : Int))), some (V.ref l), some (V.int (Builtin.bitAnd (s : Int) ((s : Int) - 1))), none] = _; rw [eb]), upd_same, .nil, sm0, Dk.Made.start hs2, by rw [Nat.and_comm s (s - 1), Dk.down_in], Dk.low_lt hs2⟩ ?_ ?_
    · rintro σ H' ⟨t, Fs, ps, v7, rfl, h1, h2, sm, hM, ht, hts⟩
      refine ⟨_, rfl, _, _, rfl, rfl, _, rfl, ?_⟩
      refine ite2 (fun c => ?_) (fun c => ?_)
      · have h0 : 0 < t := by simp at c; omega
        have hst : s - t ≠ 0 := by omega
        have hin : (s - t) &&& s = s - t := Dk.sub_in ht
        have hsup : m ≤ Rc52.support S (s - t) := Nat.le_trans hs3 (Dk.support_mono hin)
        have e1 : (s : Int) - (t : Int) = ((s - t : Nat) : Int) := by omega
        have e2 : (t : Int) - 1 = ((t - 1 : Nat) : Int) := by omega
        have fl := made_len hM hs1 hs12
        have hpl := h2.len
        rw [List.length_map] at hpl
        have nx := hM.next ht h0 hts
        refine ⟨_, rfl, _, rfl, _, _, rfl, rfl, ?_⟩
        dsimp only
        rw [e1]
        refine ⟨_, rfl, _, rfl, _, rfl, _, rfl, d, V.int (Rc52.support S (s - t) : Nat), rfl, (by have z := DGet.k (k := Sum.inl ((s - t : Nat) : Int)) (sm d _ hd); rw [kvS_in hF (by omega) hsup] at z; exact z), _, _, rfl, rfl, cm num _ hsh.n, _, _, rfl, rfl, _, rfl, ?_⟩
        have ec : (decide ((num : Int) * ((Rc52.support S (s - t) : Nat) : Int) ≤ (den : Int) * ((Rc52.support S s : Nat) : Int)) = true) ↔ num * Rc52.support S (s - t) ≤ den * Rc52.support S s := by
          rw [decide_eq_true_eq, ← Int.natCast_mul, ← Int.natCast_mul]
          exact Int.ofNat_le
        have fin : ∀ (Fs' : List Nat) (ps' : List Addr) (H2 : Hp), H2 l = some (.lst (ps'.map V.ref)) → Prs H2 ps' (Fs'.map fun a => (a, s - a)) → Same H H2 → Dk.Made S num den s ((t - 1) &&& s) Fs' →
            tAsg (tOp (rI0 fun i j => .int (Builtin.bitAnd i j)) (tOp (rI0 fun i j => .int (i - j)) (tVar 6) (tC (.int 1))) (tVar 1)) (gName 6) ⟨fun σ' H' => (∃ (t : Nat) (Fs : List Nat) (ps : List Addr) (v7 : Option V), σ' = [some (.ref d), some (.int (s : Int)), some (.int (num : Int)), some (.int (den : Int)), some (.int ((den : Int) * ((Rc52.support S s : Nat) : Int))), some (.ref l), some (.int (t : Int)), v7] ∧
              H' l = some (.lst (ps.map V.ref)) ∧ Prs H' ps (Fs.map fun a => (a, s - a)) ∧ Same H H' ∧ Dk.Made S num den s t Fs ∧ t &&& s = t ∧ t < s) ∧ slotNat 6 σ' < (t : Int).toNat, fun _ _ => False, fun _ _ => False, fun _ _ => False⟩
            [some (.ref d), some (.int (s : Int)), some (.int (num : Int)), some (.int (den : Int)), some (.int ((den : Int) * ((Rc52.support S s : Nat) : Int))), some (.ref l), some (.int (t : Int)), some (.int ((s - t : Nat) : Int))] H2 := by
          intro Fs' ps' H2 k1 k2 k3 k4
          refine ⟨_, rfl, _, _, rfl, rfl, _, rfl, _, _, rfl, rfl, ?_⟩
          dsimp only
          rw [e2, and_nat]
          exact ⟨⟨(t - 1) &&& s, Fs', ps', some (.int ((s - t : Nat) : Int)), rfl, k1, k2, k3, k4, Dk.down_in t s, Nat.lt_trans (Dk.down_lt h0) hts⟩, Dk.down_lt h0⟩
        refine ite2 (fun q => ?_) (fun q => ?_)
        · rw [if_pos (ec.mp q)] at nx
          refine ⟨_, rfl, .inl ⟨rfl, _, SqL.of h1⟩, _, rfl, _, rfl, (by show 2 ≤ sizeLine; decide), fun p hp => ?_⟩
          have nlp : l ≠ p := ne_of_none h1 hp
          have h1p : upd H' p (.tup [.int ((s - t : Nat) : Int), .int (t : Int)]) l = some (.lst (ps.map V.ref)) := by rw [upd_ne nlp]; exact h1
          refine ⟨l, _, _, rfl, rfl, h1p, ?_, ?_⟩
          · rw [List.length_map]
            exact Nat.lt_of_le_of_lt (by omega : ps.length ≤ 4096) (by decide)
          · refine fin (Fs ++ [s - t]) (ps ++ [p]) _ (by rw [upd_same, refs_snoc]) ?_ (fun b o e => ?_) nx
            · rw [List.map_append]
              have ets : s - (s - t) = t := by omega
              refine Prs.append (h2.same fun b xs e => ?_) (.cons ?_ .nil)
              · rw [upd_ne (fun z => by rw [z, h1] at e; cases e), upd_ne (ne_of_none e hp)]; exact e
              · rw [upd_ne nlp.symm, upd_same]
                show some (HO.tup [V.int ((s - t : Nat) : Int), V.int (t : Int)]) = some (HO.tup [V.int ((s - t : Nat) : Int), V.int ((s - (s - t) : Nat) : Int)])
                rw [ets]
            · rw [upd_ne (ne_of_none e hl), upd_ne (ne_of_none (sm b o e) hp)]; exact sm b o e
        · rw [if_neg (fun z => q (ec.mpr z))] at nx
          exact fin Fs ps H' h1 h2 sm nx
      · have h0 : t = 0 := by simp at c; omega
        subst h0
        have e := hM.done hs1
        subst e
        exact ⟨_, rfl, k H' l ps hl h1 h2 sm⟩
    · intro σ H Q Q' hq h
      obtain ⟨x, h1, i, j, h5, h6, k, h7, h8⟩ := h
      exact ⟨x, h1, i, j, h5, h6, k, h7, hq _ _ h8⟩
theorem scAmong : FnScope ["supports", "num", "den", "found", "both"] ["supports", "num", "den"] (defScope sAmong) := ⟨rfl, rfl, rfl, by decide +kernel, rfl, by decide +kernel, by decide +kernel⟩
theorem ok_among {U : Nat} {f fo fm : Addr} {fd fdo fdm : FuncData} (F : Fun K "rules_among" "rules_among" sAmong f fd) (T : Txt mg)
    (mgO : mg "in_order" = some (.ref fo)) (kO : PySem.W.keepIn K (.ref fo) = true) (bO : Binds K fdo ["found"] []) (GO : FnOk P w K mg base CX0 5 fo fdo ["found"] (spOrder K))
    (mgM : mg "rules_that_make" = some (.ref fm)) (kM : PySem.W.keepIn K (.ref fm) = true) (bM : Binds K fdm ["supports", "both", "num", "den"] []) (GM : FnOk P w K mg base CX0 1 fm fdm ["supports", "both", "num", "den"] (spMake U)) :
    FnOk P w K mg base CX0 6 f fd ["supports", "num", "den"] (spAmong U) := by
  obtain ⟨tm, hmost⟩ := T.mrules
  refine F.ok scAmong (fun vs H Q E h => ?_) (fun cdv A outer s H vs Q E hr h => ?_)
  · obtain ⟨d, S, m, num, den, rfl, _⟩ := h
    rfl
  · obtain ⟨d, S, m, num, den, rfl, hd, hF, hsh, k⟩ := h
    have hr1 : Room 1 _ := hr.mono (by decide)
    refine ⟨_, pss_cons (ps_set (i := 3) scAmong.nd rfl (Or.inl rfl) (pe_lst pa_nil))
      (pss_cons (ps_for PassesOwn.never rfl (pi_list (pe_call GO hr rfl mgO kO bO .nil pass0 (pa_cons (pe_callTy (call_list_dict rfl) rfl T.lst is_list (pa_cons (pv 0) pa_nil)) pa_nil))) (pg_name (i := 4) scAmong.nd rfl (Or.inl rfl))
        (pss_cons (ps_expr (pe_bm PySem.F.plainAttrs_list PySem.F.slot_list_extend PySem.F.type_list_extend mt_extend (pv 3) (pa_cons (pe_call GM hr1 rfl mgM kM bM .nil pass0 (pa_cons (pv 0) (pa_cons (pv 4) (pa_cons (pv 1) (pa_cons (pv 2) pa_nil))))) pa_nil)))
        (pss_one (ps_if (pt_cmpR op_gt (pe_callB call_len_seq (by rfl) T.len PySem.boot_len (pa_cons (pv 3) pa_nil)) (pe_glob (v := .int 65536) rfl hmost ⟨_, rfl⟩) (nomark _)) (pss_one ps_break) pss_nil))))
      (pss_one (ps_ret (pv 3)))), ?_⟩
    refine ⟨Nat.zero_le _, fun l hl => ?_⟩
    have sm0 : Same H (upd H l (.lst [])) := fun b o e => by rw [upd_ne (ne_of_none e hl)]; exact e
    have hl0 : upd H l (.lst []) l = some (.lst []) := upd_same
    generalize upd H l (.lst []) = H1 at sm0 hl0 ⊢
    refine ⟨_, rfl, d, _, rfl, .inl (sm0 d _ hd), fun lk hlk => ?_⟩
    rw [show (kvS S m).map (fun kv => kV kv.1) = nats (Dk.often S m) from kvN_keys _ _]
    have sm1 : Same H1 (upd H1 lk (.lst (nats (Dk.often S m)))) := fun b o e => by rw [upd_ne (ne_of_none e hlk)]; exact e
    refine ⟨lk, Dk.often S m, rfl, SqL.of upd_same, fun n hn => (hF.below hn).1, fun ns' p H2 p1 p2 hp e2 sm2 => ?_⟩
    have hM : ns' = Rc52.setsOf S m 0 := Dk.order_ofKind (z := 0) hF.lt hF.pos (by decide) (by rw [show Dk.ofKind S m 0 = Dk.often S m from rfl]; exact p1) p2
    have sm3 : Same H1 H2 := sm1.trans sm2
    have hpl : H1 p = none := sm1.free hp
    have nlp : l ≠ p := ne_of_none hl0 hpl
    have hMl : ns'.length ≤ 4096 := by rw [p1.length_eq]; exact hF.len
    have hMm : ∀ x ∈ ns', x ∈ Dk.often S m := fun x hx => p1.mem_iff.mp hx
    have hrules : Rc52.rulesOf S m num den = ns'.flatMap (Dk.ruled S num den) := by rw [Dk.rulesOf_ruled, hM]
    refine ⟨p, rfl, ⟨_, SqL.of e2⟩, for_list (K := K) (a := p) (xs := nats ns') (fun j σ H' => ∃ (ps : List Addr) (v4 : Option V), σ = [some (.ref d), some (.int (num : Int)), some (.int (den : Int)), some (.ref l), v4] ∧
        H' l = some (.lst (ps.map V.ref)) ∧ Prs H' ps ((ns'.take j).flatMap (Dk.ruled S num den)) ∧ Same H H' ∧ H' p = some (.lst (nats ns')) ∧ ps.length ≤ 65536)
      ⟨[], none, rfl, sm3 _ _ hl0, .nil, sm0.trans sm3, e2, by simp⟩ (fun j σ H' _ ⟨_, _, _, _, _, _, x, _⟩ => SqL.of x) ?_ ?_⟩
    · rintro j y σ H' hj ⟨ps, v4, rfl, g1, g2, g3, g4, g5⟩
      obtain ⟨s, hs, rfl⟩ := nats_get hj
      have hso := hMm s (List.mem_of_getElem? hs)
      obtain ⟨hs1, hs2, hs3⟩ := hF.below hso
      have hs12 : Rc52.size s ≤ 12 := Dk.size_of hF.held hF.few (Nat.le_trans hF.pos hs3)
      have hrl := Dk.len_ruled (S := S) (num := num) (den := den) hs1 hs12
      refine ⟨_, rfl, .inl ⟨rfl, _, SqL.of g1⟩, _, rfl, _, rfl, _, rfl, _, rfl, d, S, m, s, num, den, rfl, g3 d _ hd, hF, hso, hsh, fun H3 l3 qs k1 k2 k3 k4 => ?_⟩
      have nl3 : l ≠ l3 := ne_of_none g1 k1
      have hql := k3.len
      have hps := g2.len
      have big : 70000 < sizeLine := by decide
      refine ⟨l, l3, _, _, rfl, rfl, k4 _ _ g1, k2, (by rw [List.length_map, List.length_map]; omega), ?_⟩
      have m1 : upd H3 l (.lst (ps.map V.ref ++ qs.map V.ref)) l = some (.lst ((ps ++ qs).map V.ref)) := by rw [upd_same, List.map_append]
      have m2 : Prs (upd H3 l (.lst (ps.map V.ref ++ qs.map V.ref))) (ps ++ qs) ((ns'.take (j + 1)).flatMap (Dk.ruled S num den)) := by
        rw [take_snoc hs, Dk.flat_snoc]
        refine Prs.append (g2.same fun b xs e => ?_) (k3.same fun b xs e => ?_)
        · rw [upd_ne (fun z => by rw [z, g1] at e; cases e)]; exact k4 _ _ e
        · rw [upd_ne (fun z => by rw [z, k4 _ _ g1] at e; cases e)]; exact e
      have m3 : Same H (upd H3 l (.lst (ps.map V.ref ++ qs.map V.ref))) := fun b o e => by rw [upd_ne (ne_of_none e hl)]; exact k4 _ _ (g3 b o e)
      have m4 : upd H3 l (.lst (ps.map V.ref ++ qs.map V.ref)) p = some (.lst (nats ns')) := by rw [upd_ne nlp.symm]; exact k4 _ _ g4
      have m5 : (ps ++ qs).length ≤ 70000 := by rw [List.length_append]; omega
      generalize upd H3 l (.lst (ps.map V.ref ++ qs.map V.ref)) = H4 at m1 m2 m3 m4 ⊢
      refine ⟨_, rfl, l, _, rfl, .inl (SqL.of m1), _, _, rfl, rfl, _, rfl, ?_⟩
      rw [List.length_map]
      refine ite2 (fun c => ?_) (fun c => ?_)
      · have c' : 65536 < (ps ++ qs).length := by simp only [decide_eq_true_eq] at c; omega
        have hfl := Dk.flat_take (Dk.ruled S num den) ns' (j + 1)
        rw [← hrules] at hfl
        have hm2 := m2.len
        exact ⟨_, rfl, k H4 l (ps ++ qs) _ hl m1 m2 m3 (.inr ⟨by omega, by omega⟩) (by omega)⟩
      · have c' : ¬ 65536 < (ps ++ qs).length := by simp only [decide_eq_true_eq] at c; omega
        exact ⟨ps ++ qs, some (.int (s : Int)), rfl, m1, m2, m3, m4, by omega⟩
    · rintro σ H' ⟨ps, v4, rfl, g1, g2, g3, g4, g5⟩
      rw [nats_len, List.take_length, ← hrules] at g2
      have := g2.len
      exact ⟨_, rfl, k H' l ps _ hl g1 g2 g3 (.inl rfl) (by omega)⟩
end
end Dsk
end
section
set_option Elab.async false
set_option linter.all false
set_option maxRecDepth 100000
set_option maxHeartbeats 2000000
namespace Dsk
open PySem PySem.Spec PyProof.Rows L2
abbrev sWithin : Stmt := top 42
abbrev sAskSets : Stmt := top 43
abbrev sAskRules : Stmt := top 44
abbrev sSets : Stmt := top 45
abbrev sSet : Stmt := top 46
abbrev sRules : Stmt := top 47
abbrev sRule : Stmt := top 48
/-- a def of the text that keeps its promise -/
def Ready (P : Program) (w : World) (K : PySem.W.Frag) (mg : Str → Option Value) (base : Heap) (name : Str) (k : Nat) (ps : List Str) (sp : Sp) : Prop :=
  ∃ (f : Addr) (fd : FuncData), mg name = some (.ref f) ∧ PySem.W.keepIn K (.ref f) = true ∧ Binds K fd ps [] ∧ FnOk P w K mg base CX0 k f fd ps sp
def spWithin : Sp := fun vs H Q _ => ∃ n l h : Int, vs = [.int n, .int l, .int h] ∧ Q (.bl (decide (l ≤ n ∧ n ≤ h))) H
def spAskSets : Sp := fun vs H Q _ => ∃ m z : Int, vs = [.int m, .int z] ∧ Q (.bl (Rc52.isLeast m z)) H
def spAskRules : Sp := fun vs H Q _ => ∃ m a b : Int, vs = [.int m, .int a, .int b] ∧ Q (.bl (Rc52.isShare m a b)) H
/-- a call that looks for sets or rules: its own number, then its numbers -/
def spLook (U : Nat) (p : Int) (n : Nat) : Sp := fun vs H Q _ => ∃ (bk : Addr) (S : List Nat) (args : List Int), vs = .ref bk :: args.map V.int ∧ args.length = n ∧ H bk = some (.lst (nats S)) ∧ Dk.Held U S ∧ Ans H bk (Rc52Neutral.step S [p :: args]) Q
theorem Ans.far {H H2 : Hp} {bk : Addr} {S : List Nat} {out : List Int} {Q : VK} (k : Ans H bk (S, out) Q) (hb : H bk = some (.lst (nats S))) (sm : Same H H2) {r : Addr} (hr : H2 r = none) : Q (.ref r) (upd H2 r (.lst (out.map V.int))) :=
  k _ r (by rw [upd_ne (ne_of_none (sm _ _ hb) hr)]; exact sm _ _ hb) upd_same (sm.free hr) fun b o e _ => by rw [upd_ne (ne_of_none (sm b o e) hr)]; exact sm b o e
section
variable {P : Program} {w : World} {K : PySem.W.Frag} {mg : Str → Option Value} {base : Heap}
theorem scWithin : FnScope ["number", "lowest", "highest"] ["number", "lowest", "highest"] (defScope sWithin) := ⟨rfl, rfl, rfl, by decide +kernel, rfl, by decide +kernel, by decide +kernel⟩
theorem ok_within {f : Addr} {fd : FuncData} (F : Fun K "is_within" "is_within" sWithin f fd) : FnOk P w K mg base CX0 1 f fd ["number", "lowest", "highest"] spWithin := by
  refine F.ok scWithin (fun vs H Q E h => ?_) (fun cdv A outer s H vs Q E hr h => ?_)
  · obtain ⟨n, l, h, rfl, _⟩ := h
    rfl
  · obtain ⟨n, l, h, rfl, k⟩ := h
    refine ⟨_, pss_one (ps_ret (pe_and (pe_cmpR op_le (pv 1) (pv 0) (nomark _)) (pe_one (pe_cmpR op_le (pv 0) (pv 2) (nomark _))))), ?_⟩
    refine ⟨_, rfl, _, rfl, _, _, rfl, rfl, _, rfl, ?_⟩
    refine ite2 (fun c => ?_) (fun c => ?_)
    · refine ⟨_, rfl, _, rfl, _, _, rfl, rfl, ?_⟩
      have c' := of_decide_eq_true c
      show Q (V.bl (decide (n ≤ h))) H
      rw [show decide (n ≤ h) = decide (l ≤ n ∧ n ≤ h) by rw [decide_eq_decide]; exact ⟨fun q => ⟨c', q⟩, fun q => q.2⟩]
      exact k
    · rw [decide_eq_false (fun q => c (decide_eq_true q.1))] at k
      exact k
theorem scAskSets : FnScope ["least", "kind"] ["least", "kind"] (defScope sAskSets) := ⟨rfl, rfl, rfl, by decide +kernel, rfl, by decide +kernel, by decide +kernel⟩
theorem ok_askSets {f : Addr} {fd : FuncData} (F : Fun K "may_ask_sets" "may_ask_sets" sAskSets f fd) (T : Txt mg) (hW : Ready P w K mg base "is_within" 1 ["number", "lowest", "highest"] spWithin) : FnOk P w K mg base CX0 2 f fd ["least", "kind"] spAskSets := by
  obtain ⟨fw, fdw, mW, kW, bW, GW⟩ := hW
  obtain ⟨t1, hl⟩ := T.mleast
  obtain ⟨t2, hk⟩ := T.lkind
  refine F.ok scAskSets (fun vs H Q E h => ?_) (fun cdv A outer s H vs Q E hr h => ?_)
  · obtain ⟨m, z, rfl, _⟩ := h
    rfl
  · obtain ⟨m, z, rfl, k⟩ := h
    refine ⟨_, pss_one (ps_ret (pe_and (pe_call GW hr rfl mW kW bW .nil pass0 (pa_cons (pv 0) (pa_cons pe_int (pa_cons (pe_glob (v := .int 512) rfl hl ⟨_, rfl⟩) pa_nil))))
      (pe_one (pe_call GW hr rfl mW kW bW .nil pass0 (pa_cons (pv 1) (pa_cons pe_int (pa_cons (pe_glob (v := .int 2) rfl hk ⟨_, rfl⟩) pa_nil))))))), ?_⟩
    refine ⟨_, rfl, _, _, _, rfl, _, rfl, ?_⟩
    refine ite2 (fun c => ?_) (fun c => ?_)
    · refine ⟨_, rfl, _, _, _, rfl, ?_⟩
      have c' := of_decide_eq_true c
      rw [show decide (0 ≤ z ∧ z ≤ 2) = Rc52.isLeast m z by unfold Rc52.isLeast; rw [decide_eq_decide]; omega]
      exact k
    · rw [show Rc52.isLeast m z = false by unfold Rc52.isLeast; exact decide_eq_false (fun q => c (decide_eq_true ⟨q.1, q.2.1⟩))] at k
      exact k
theorem scAskRules : FnScope ["least", "num", "den"] ["least", "num", "den"] (defScope sAskRules) := ⟨rfl, rfl, rfl, by decide +kernel, rfl, by decide +kernel, by decide +kernel⟩
theorem ok_askRules {f : Addr} {fd : FuncData} (F : Fun K "may_ask_rules" "may_ask_rules" sAskRules f fd) (T : Txt mg) (hW : Ready P w K mg base "is_within" 1 ["number", "lowest", "highest"] spWithin) : FnOk P w K mg base CX0 2 f fd ["least", "num", "den"] spAskRules := by
  obtain ⟨fw, fdw, mW, kW, bW, GW⟩ := hW
  obtain ⟨t1, hl⟩ := T.mleast
  obtain ⟨t2, hk⟩ := T.mden
  refine F.ok scAskRules (fun vs H Q E h => ?_) (fun cdv A outer s H vs Q E hr h => ?_)
  · obtain ⟨m, a, b, rfl, _⟩ := h
    rfl
  · obtain ⟨m, a, b, rfl, k⟩ := h
    refine ⟨_, pss_one (ps_ret (pe_and (pe_call GW hr rfl mW kW bW .nil pass0 (pa_cons (pv 0) (pa_cons pe_int (pa_cons (pe_glob (v := .int 512) rfl hl ⟨_, rfl⟩) pa_nil))))
      (pe_and (pe_call GW hr rfl mW kW bW .nil pass0 (pa_cons (pv 2) (pa_cons pe_int (pa_cons (pe_glob (v := .int 1000000) rfl hk ⟨_, rfl⟩) pa_nil))))
      (pe_one (pe_call GW hr rfl mW kW bW .nil pass0 (pa_cons (pv 1) (pa_cons pe_int (pa_cons (pv 2) pa_nil)))))))), ?_⟩
    refine ⟨_, rfl, _, _, _, rfl, _, rfl, ?_⟩
    refine ite2 (fun c => ?_) (fun c => ?_)
    · have c' := of_decide_eq_true c
      refine ⟨_, rfl, _, _, _, rfl, _, rfl, ?_⟩
      refine ite2 (fun e => ?_) (fun e => ?_)
      · have e' := of_decide_eq_true e
        refine ⟨_, rfl, _, rfl, _, _, _, rfl, ?_⟩
        rw [show decide (0 ≤ a ∧ a ≤ b) = Rc52.isShare m a b by unfold Rc52.isShare; rw [decide_eq_decide]; omega]
        exact k
      · rw [show Rc52.isShare m a b = false by unfold Rc52.isShare; exact decide_eq_false (fun q => e (decide_eq_true ⟨q.2.2.2.2.1, q.2.2.2.2.2⟩))] at k
        exact k
    · rw [show Rc52.isShare m a b = false by unfold Rc52.isShare; exact decide_eq_false (fun q => c (decide_eq_true ⟨q.1, q.2.1⟩))] at k
      exact k
/-! ### sets, set -/
theorem args2 {args : List Int} (h : args.length = 2) : ∃ a b, args = [a, b] := match args, h with | [a, b], _ => ⟨a, b, rfl⟩
theorem args3 {args : List Int} (h : args.length = 3) : ∃ a b c, args = [a, b, c] := match args, h with | [a, b, c], _ => ⟨a, b, c, rfl⟩
theorem args4 {args : List Int} (h : args.length = 4) : ∃ a b c d, args = [a, b, c, d] := match args, h with | [a, b, c, d], _ => ⟨a, b, c, d, rfl⟩
theorem least_nat {m z : Int} (h : Rc52.isLeast m z = true) : ∃ mn zn : Nat, m = (mn : Int) ∧ z = (zn : Int) ∧ 1 ≤ mn ∧ zn ≤ 2 := by
  unfold Rc52.isLeast at h
  have := of_decide_eq_true h
  exact ⟨m.toNat, z.toNat, by omega, by omega, by omega, by omega⟩
theorem share_nat {m a b : Int} (h : Rc52.isShare m a b = true) : ∃ mn an bn : Nat, m = (mn : Int) ∧ a = (an : Int) ∧ b = (bn : Int) ∧ 1 ≤ mn ∧ Share an bn := by
  unfold Rc52.isShare at h
  have := of_decide_eq_true h
  exact ⟨m.toNat, a.toNat, b.toNat, by omega, by omega, by omega, by omega, ⟨by omega, by omega⟩⟩
theorem scSets : FnScope ["baskets", "least", "kind", "supports"] ["baskets", "least", "kind"] (defScope sSets) := ⟨rfl, rfl, rfl, by decide +kernel, rfl, by decide +kernel, by decide +kernel⟩
theorem ok_sets {U : Nat} (hU : U < 2 ^ 64) (h12 : Rc52.size U ≤ 12) {f : Addr} {fd : FuncData} (F : Fun K "answer_sets" "answer_sets" sSets f fd) (T : Txt mg) (hA : Ready P w K mg base "may_ask_sets" 2 ["least", "kind"] spAskSets) (hO : Ready P w K mg base "often_sets" 4 ["baskets", "least"] (spOften K U))
    (hK : Ready P w K mg base "sets_of_kind" 2 ["supports", "least", "kind"] (spKind K U)) : FnOk P w K mg base CX0 5 f fd ["baskets", "least", "kind"] (spLook U 4 2) := by
  obtain ⟨fa, fda, mA, kA, bA, GA⟩ := hA
  obtain ⟨fo, fdo, mO, kO, bO, GO⟩ := hO
  obtain ⟨fk, fdk, mK, kK, bK, GK⟩ := hK
  obtain ⟨t1, hout⟩ := T.outside
  obtain ⟨t2, htoo⟩ := T.toomany
  obtain ⟨t3, hmost⟩ := T.msets
  refine F.ok scSets (fun vs H Q E h => ?_) (fun cdv A outer s H vs Q E hr h => ?_)
  · obtain ⟨bk, S, args, rfl, hl, _⟩ := h
    rw [List.length_cons, List.length_map, hl]
    rfl
  · obtain ⟨bk, S, args, rfl, hl, hb, hH, k⟩ := h
    obtain ⟨m, z, rfl⟩ := args2 hl
    have hr2 : Room 2 _ := hr.mono (by decide)
    refine ⟨_, pss_cons (ps_if (pt_not (pt_val (pe_call GA hr2 rfl mA kA bA .nil pass0 (pa_cons (pv 1) (pa_cons (pv 2) pa_nil))))) (pss_one (ps_ret (pe_lst (pa_cons (pe_glob (v := .int (-1)) rfl hout ⟨_, rfl⟩) pa_nil)))) pss_nil)
      (pss_cons (ps_set (i := 3) scSets.nd rfl (Or.inl rfl) (pe_call GO hr rfl mO kO bO .nil pass0 (pa_cons (pv 0) (pa_cons (pv 1) pa_nil))))
      (pss_cons (ps_if (pt_cmpR op_gt (pe_callB call_lenD (by rfl) T.len PySem.boot_len (pa_cons (pv 3) pa_nil)) (pe_glob (v := .int 65536) rfl hmost ⟨_, rfl⟩) (nomark _)) (pss_one (ps_ret (pe_lst (pa_cons (pe_glob (v := .int (-2)) rfl htoo ⟨_, rfl⟩) pa_nil)))) pss_nil)
      (pss_one (ps_ret (pe_lst (pa_cons (pe_callB call_len_seq (by rfl) T.len PySem.boot_len (pa_cons (pe_call GK hr2 rfl mK kK bK .nil pass0 (pa_cons (pv 3) (pa_cons (pv 1) (pa_cons (pv 2) pa_nil)))) pa_nil)) pa_nil)))))), ?_⟩
    rw [Dk.step4, Dk.kindsOf_few (hH.lt hU) (hH.size h12)] at k
    refine ⟨_, rfl, _, rfl, m, z, rfl, _, rfl, ?_⟩
    cases e : Rc52.isLeast m z with
    | false =>
      rw [e, if_pos rfl] at k
      exact iteT ⟨(by show 1 ≤ sizeLine; decide), fun l hl => k.new hb hl⟩
    | true =>
      rw [e, if_neg (by decide)] at k
      obtain ⟨mn, zn, rfl, rfl, hm, hz⟩ := least_nat e
      have hF : Fit U S mn := ⟨hH, hH.lt hU, h12, hm⟩
      have hlen := hF.len
      refine iteF ⟨_, rfl, _, rfl, bk, S, mn, rfl, SqL.of hb, hH, hm, fun H1 d hd0 hd1 sm1 => ?_⟩
      refine ⟨_, rfl, d, _, rfl, hd1, _, _, rfl, rfl, _, rfl, ?_⟩
      rw [show (kvS S mn).length = (Dk.often S mn).length from kvN_len _ _]
      refine ite2 (fun c => ?_) (fun c => ?_)
      · exfalso
        simp only [decide_eq_true_eq] at c
        omega
      · refine ⟨_, rfl, _, rfl, _, rfl, d, S, mn, zn, rfl, hd1, hF, hz, fun H2 l e1 e2 sm2 => ?_⟩
        refine ⟨l, _, rfl, .inl (SqL.of e2), (by show 1 ≤ sizeLine; decide), fun r hr' => ?_⟩
        have el : ((nats (Dk.ofKind S mn zn)).length : Int) = ((Rc52.setsOf S (mn : Int).toNat (zn : Int).toNat).length : Int) := by
          rw [nats_len, Int.toNat_natCast, Int.toNat_natCast, (Dk.perm_ofKind (hH.lt hU) hm hz).length_eq]
        rw [el]
        exact Ans.far k hb (sm1.trans sm2) hr'
theorem scSet : FnScope ["baskets", "least", "kind", "k", "supports", "found"] ["baskets", "least", "kind", "k"] (defScope sSet) := ⟨rfl, rfl, rfl, by decide +kernel, rfl, by decide +kernel, by decide +kernel⟩
theorem pick_in {α : Type} {l : List α} {k : Int} (h : 0 ≤ k ∧ k ≤ (l.length : Int) - 1) : ∃ x, l[k.toNat]? = some x ∧ Rc52.pick l k = some x := by
  have hk : k.toNat < l.length := by omega
  refine ⟨l[k.toNat], List.getElem?_eq_getElem hk, ?_⟩
  unfold Rc52.pick
  rw [if_neg (by omega)]
  exact List.getElem?_eq_getElem hk
theorem pick_out {α : Type} {l : List α} {k : Int} (h : ¬ (0 ≤ k ∧ k ≤ (l.length : Int) - 1)) : Rc52.pick l k = none := by
  unfold Rc52.pick
  by_cases c : k < 0
  · rw [if_pos c]
  · rw [if_neg c]
    exact List.getElem?_eq_none (by omega)
theorem ok_set {U : Nat} (hU : U < 2 ^ 64) (h12 : Rc52.size U ≤ 12) {f : Addr} {fd : FuncData} (F : Fun K "answer_set" "answer_set" sSet f fd) (T : Txt mg) (hA : Ready P w K mg base "may_ask_sets" 2 ["least", "kind"] spAskSets) (hO : Ready P w K mg base "often_sets" 4 ["baskets", "least"] (spOften K U))
    (hK : Ready P w K mg base "sets_of_kind" 2 ["supports", "least", "kind"] (spKind K U)) (hI : Ready P w K mg base "in_order" 5 ["found"] (spOrder K)) (hW : Ready P w K mg base "is_within" 1 ["number", "lowest", "highest"] spWithin) :
    FnOk P w K mg base CX0 6 f fd ["baskets", "least", "kind", "k"] (spLook U 5 3) := by
  obtain ⟨fa, fda, mA, kA, bA, GA⟩ := hA
  obtain ⟨fo, fdo, mO, kO, bO, GO⟩ := hO
  obtain ⟨fk, fdk, mK, kK, bK, GK⟩ := hK
  obtain ⟨fi, fdi, mI, kI, bI, GI⟩ := hI
  obtain ⟨fw, fdw, mW, kW, bW, GW⟩ := hW
  obtain ⟨t1, hout⟩ := T.outside
  obtain ⟨t2, htoo⟩ := T.toomany
  obtain ⟨t3, hmost⟩ := T.msets
  obtain ⟨t4, hnot⟩ := T.nothere
  refine F.ok scSet (fun vs H Q E h => ?_) (fun cdv A outer s H vs Q E hr h => ?_)
  · obtain ⟨bk, S, args, rfl, hl, _⟩ := h
    rw [List.length_cons, List.length_map, hl]
    rfl
  · obtain ⟨bk, S, args, rfl, hl, hb, hH, k⟩ := h
    obtain ⟨m, z, kk, rfl⟩ := args3 hl
    have hr2 : Room 2 _ := hr.mono (by decide)
    have hr4 : Room 4 _ := hr.mono (by decide)
    have hr1 : Room 1 _ := hr.mono (by decide)
    have hu := hu_of hr
    refine ⟨_, pss_cons (ps_if (pt_not (pt_val (pe_call GA hr2 rfl mA kA bA .nil pass0 (pa_cons (pv 1) (pa_cons (pv 2) pa_nil))))) (pss_one (ps_ret (pe_lst (pa_cons (pe_glob (v := .int (-1)) rfl hout ⟨_, rfl⟩) pa_nil)))) pss_nil)
      (pss_cons (ps_set (i := 4) scSet.nd rfl (Or.inl rfl) (pe_call GO hr4 rfl mO kO bO .nil pass0 (pa_cons (pv 0) (pa_cons (pv 1) pa_nil))))
      (pss_cons (ps_if (pt_cmpR op_gt (pe_callB call_lenD (by rfl) T.len PySem.boot_len (pa_cons (pv 4) pa_nil)) (pe_glob (v := .int 65536) rfl hmost ⟨_, rfl⟩) (nomark _)) (pss_one (ps_ret (pe_lst (pa_cons (pe_glob (v := .int (-2)) rfl htoo ⟨_, rfl⟩) pa_nil)))) pss_nil)
      (pss_cons (ps_set (i := 5) scSet.nd rfl (Or.inl rfl) (pe_call GI hr rfl mI kI bI .nil pass0 (pa_cons (pe_call GK hr2 rfl mK kK bK .nil pass0 (pa_cons (pv 4) (pa_cons (pv 1) (pa_cons (pv 2) pa_nil)))) pa_nil)))
      (pss_cons (ps_if (pt_not (pt_val (pe_call GW hr1 rfl mW kW bW .nil pass0 (pa_cons (pv 3) (pa_cons pe_int (pa_cons (pe_op op_sub (pe_callB call_len_seq (by rfl) T.len PySem.boot_len (pa_cons (pv 5) pa_nil)) pe_int) pa_nil)))))) (pss_one (ps_ret (pe_lst (pa_cons (pe_glob (v := .int (-1)) rfl hnot ⟨_, rfl⟩) pa_nil)))) pss_nil)
      (pss_one (ps_ret (pe_lst (pa_cons (pe_dget hu (pv 4) (pe_ix ix_list (pv 5) (pv 3) (fun _ _ => rfl)) (fun _ _ => rfl)) (pa_cons (pe_ix ix_list (pv 5) (pv 3) (fun _ _ => rfl)) pa_nil))))))))), ?_⟩
    rw [Dk.step5, Dk.kindsOf_few (hH.lt hU) (hH.size h12)] at k
    refine ⟨_, rfl, _, rfl, m, z, rfl, _, rfl, ?_⟩
    cases e : Rc52.isLeast m z with
    | false =>
      rw [e, if_pos rfl] at k
      exact iteT ⟨(by show 1 ≤ sizeLine; decide), fun l hl => k.new hb hl⟩
    | true =>
      rw [e, if_neg (by decide)] at k
      obtain ⟨mn, zn, rfl, rfl, hm, hz⟩ := least_nat e
      have hF : Fit U S mn := ⟨hH, hH.lt hU, h12, hm⟩
      have hlen := hF.len
      refine iteF ⟨_, rfl, _, rfl, bk, S, mn, rfl, SqL.of hb, hH, hm, fun H1 d hd0 hd1 sm1 => ?_⟩
      refine ⟨_, rfl, d, _, rfl, hd1, _, _, rfl, rfl, _, rfl, ?_⟩
      rw [show (kvS S mn).length = (Dk.often S mn).length from kvN_len _ _]
      refine ite2 (fun c => ?_) (fun c => ?_)
      · exfalso
        simp only [decide_eq_true_eq] at c
        omega
      · refine ⟨_, rfl, _, rfl, _, rfl, d, S, mn, zn, rfl, hd1, hF, hz, fun H2 l e1 e2 sm2 => ?_⟩
        refine ⟨l, Dk.ofKind S mn zn, rfl, SqL.of e2, fun n hn => (hF.below (Dk.ofKind_sub hn)).1, fun ns' p H3 p1 p2 q1 q2 sm3 => ?_⟩
        have hM : ns' = Rc52.setsOf S mn zn := Dk.order_ofKind hF.lt hF.pos hz p1 p2
        rw [Int.toNat_natCast, Int.toNat_natCast, ← hM] at k
        have sm : Same H H3 := sm1.trans (sm2.trans sm3)
        have hd3 : H3 d = some (.dK (kvS S mn)) := sm3 _ _ (sm2 _ _ hd1)
        refine ⟨_, rfl, _, rfl, p, _, rfl, .inl (SqL.of q2), _, _, rfl, rfl, kk, 0, _, rfl, _, rfl, ?_⟩
        rw [nats_len]
        by_cases c2 : 0 ≤ kk ∧ kk ≤ (ns'.length : Int) - 1
        · rw [decide_eq_true c2]
          obtain ⟨x, hx1, hx2⟩ := pick_in c2
          rw [hx2] at k
          have hxo : x ∈ Dk.often S mn := Dk.ofKind_sub (p1.mem_iff.mp (List.mem_of_getElem? hx1))
          have hxV : (nats ns')[kk.toNat]? = some (V.int (x : Int)) := by unfold nats; rw [List.getElem?_map, hx1]; rfl
          have hat : atI (nats ns') kk = some (V.int (x : Int)) := at_of (j := kk.toNat) (by omega) hxV
          refine iteF ⟨_, rfl, _, rfl, _, rfl, p, _, _, _, rfl, rfl, SqL.of q2, hat, d, V.int (Rc52.support S x : Nat), rfl, (by have zz := DGet.k (k := Sum.inl (x : Int)) hd3; rw [show valV (kvS S mn) (Sum.inl (x : Int)) = some (V.int (Rc52.support S x : Nat)) from kvN_in _ hxo] at zz; exact zz), _, rfl, _, rfl, p, _, _, _, rfl, rfl, SqL.of q2, hat, (by show 2 ≤ sizeLine; decide), fun r hr' => ?_⟩
          exact Ans.far k hb sm hr'
        · rw [decide_eq_false c2]
          rw [pick_out c2] at k
          exact iteT ⟨(by show 1 ≤ sizeLine; decide), fun r hr' => Ans.far k hb sm hr'⟩
end
end Dsk
end
section
set_option Elab.async false
set_option linter.all false
set_option maxRecDepth 100000
set_option maxHeartbeats 2000000
namespace Dsk
open PySem PySem.Spec PyProof.Rows L2
section
variable {P : Program} {w : World} {K : PySem.W.Frag} {mg : Str → Option Value} {base : Heap}
theorem scRules : FnScope ["baskets", "least", "num", "den", "supports", "found"] ["baskets", "least", "num", "den"] (defScope sRules) := ⟨rfl, rfl, rfl, by decide +kernel, rfl, by decide +kernel, by decide +kernel⟩
theorem ok_rules {U : Nat} (hU : U < 2 ^ 64) (h12 : Rc52.size U ≤ 12) {f : Addr} {fd : FuncData} (F : Fun K "answer_rules" "answer_rules" sRules f fd) (T : Txt mg) (hA : Ready P w K mg base "may_ask_rules" 2 ["least", "num", "den"] spAskRules) (hO : Ready P w K mg base "often_sets" 4 ["baskets", "least"] (spOften K U))
    (hM : Ready P w K mg base "rules_among" 6 ["supports", "num", "den"] (spAmong U)) : FnOk P w K mg base CX0 7 f fd ["baskets", "least", "num", "den"] (spLook U 6 3) := by
  obtain ⟨fa, fda, mA, kA, bA, GA⟩ := hA
  obtain ⟨fo, fdo, mO, kO, bO, GO⟩ := hO
  obtain ⟨fm, fdm, mM, kM, bM, GM⟩ := hM
  obtain ⟨t1, hout⟩ := T.outside
  obtain ⟨t2, htoo⟩ := T.toomany
  obtain ⟨t3, hmost⟩ := T.msets
  obtain ⟨t4, hmr⟩ := T.mrules
  refine F.ok scRules (fun vs H Q E h => ?_) (fun cdv A outer s H vs Q E hr h => ?_)
  · obtain ⟨bk, S, args, rfl, hl, _⟩ := h
    rw [List.length_cons, List.length_map, hl]
    rfl
  · obtain ⟨bk, S, args, rfl, hl, hb, hH, k⟩ := h
    obtain ⟨m, a, b, rfl⟩ := args3 hl
    have hr2 : Room 2 _ := hr.mono (by decide)
    have hr4 : Room 4 _ := hr.mono (by decide)
    refine ⟨_, pss_cons (ps_if (pt_not (pt_val (pe_call GA hr2 rfl mA kA bA .nil pass0 (pa_cons (pv 1) (pa_cons (pv 2) (pa_cons (pv 3) pa_nil)))))) (pss_one (ps_ret (pe_lst (pa_cons (pe_glob (v := .int (-1)) rfl hout ⟨_, rfl⟩) pa_nil)))) pss_nil)
      (pss_cons (ps_set (i := 4) scRules.nd rfl (Or.inl rfl) (pe_call GO hr4 rfl mO kO bO .nil pass0 (pa_cons (pv 0) (pa_cons (pv 1) pa_nil))))
      (pss_cons (ps_if (pt_cmpR op_gt (pe_callB call_lenD (by rfl) T.len PySem.boot_len (pa_cons (pv 4) pa_nil)) (pe_glob (v := .int 65536) rfl hmost ⟨_, rfl⟩) (nomark _)) (pss_one (ps_ret (pe_lst (pa_cons (pe_glob (v := .int (-2)) rfl htoo ⟨_, rfl⟩) pa_nil)))) pss_nil)
      (pss_cons (ps_set (i := 5) scRules.nd rfl (Or.inl rfl) (pe_call GM hr rfl mM kM bM .nil pass0 (pa_cons (pv 4) (pa_cons (pv 2) (pa_cons (pv 3) pa_nil)))))
      (pss_cons (ps_if (pt_cmpR op_gt (pe_callB call_len_seq (by rfl) T.len PySem.boot_len (pa_cons (pv 5) pa_nil)) (pe_glob (v := .int 65536) rfl hmr ⟨_, rfl⟩) (nomark _)) (pss_one (ps_ret (pe_lst (pa_cons (pe_glob (v := .int (-2)) rfl htoo ⟨_, rfl⟩) pa_nil)))) pss_nil)
      (pss_one (ps_ret (pe_lst (pa_cons (pe_callB call_len_seq (by rfl) T.len PySem.boot_len (pa_cons (pv 5) pa_nil)) pa_nil)))))))), ?_⟩
    rw [Dk.step6, Dk.sharesOf_few (hH.lt hU) (hH.size h12)] at k
    refine ⟨_, rfl, _, rfl, _, rfl, m, a, b, rfl, _, rfl, ?_⟩
    cases e : Rc52.isShare m a b with
    | false =>
      rw [e, if_pos rfl] at k
      exact iteT ⟨(by show 1 ≤ sizeLine; decide), fun l hl => k.new hb hl⟩
    | true =>
      rw [e, if_neg (by decide)] at k
      obtain ⟨mn, an, bn, rfl, rfl, rfl, hm, hsh⟩ := share_nat e
      have hF : Fit U S mn := ⟨hH, hH.lt hU, h12, hm⟩
      have hlen := hF.len
      rw [Int.toNat_natCast, Int.toNat_natCast, Int.toNat_natCast] at k
      refine iteF ⟨_, rfl, _, rfl, bk, S, mn, rfl, SqL.of hb, hH, hm, fun H1 d hd0 hd1 sm1 => ?_⟩
      refine ⟨_, rfl, d, _, rfl, hd1, _, _, rfl, rfl, _, rfl, ?_⟩
      rw [show (kvS S mn).length = (Dk.often S mn).length from kvN_len _ _]
      refine ite2 (fun c => ?_) (fun c => ?_)
      · exfalso
        simp only [decide_eq_true_eq] at c
        omega
      · refine ⟨_, rfl, _, rfl, _, rfl, d, S, mn, an, bn, rfl, hd1, hF, hsh, fun H2 l ps R e1 e2 e3 sm2 e4 e5 => ?_⟩
        have hpl := e3.len
        have sm : Same H H2 := sm1.trans sm2
        refine ⟨_, rfl, l, _, rfl, .inl (SqL.of e2), _, _, rfl, rfl, _, rfl, ?_⟩
        rw [List.length_map]
        refine ite2 (fun c2 => ?_) (fun c2 => ?_)
        · have c3 : 65536 < (Rc52.rulesOf S mn an bn).length := by
            simp only [decide_eq_true_eq] at c2
            rcases e4 with e4 | e4
            · rw [← e4]; omega
            · exact e4.2
          rw [if_pos c3] at k
          exact ⟨(by show 1 ≤ sizeLine; decide), fun r hr' => Ans.far k hb sm hr'⟩
        · have c3 : R = Rc52.rulesOf S mn an bn := by
            simp only [decide_eq_true_eq] at c2
            rcases e4 with e4 | e4
            · exact e4
            · omega
          rw [← c3, if_neg (by simp only [decide_eq_true_eq] at c2; omega)] at k
          refine ⟨_, rfl, l, _, rfl, .inl (SqL.of e2), (by show 1 ≤ sizeLine; decide), fun r hr' => ?_⟩
          rw [List.length_map, hpl]
          exact Ans.far k hb sm hr'
theorem scRule : FnScope ["baskets", "least", "num", "den", "k", "supports", "found", "first", "second"] ["baskets", "least", "num", "den", "k"] (defScope sRule) := ⟨rfl, rfl, rfl, by decide +kernel, rfl, by decide +kernel, by decide +kernel⟩
theorem ok_rule {U : Nat} (hU : U < 2 ^ 64) (h12 : Rc52.size U ≤ 12) {f : Addr} {fd : FuncData} (F : Fun K "answer_rule" "answer_rule" sRule f fd) (T : Txt mg) (hA : Ready P w K mg base "may_ask_rules" 2 ["least", "num", "den"] spAskRules) (hO : Ready P w K mg base "often_sets" 4 ["baskets", "least"] (spOften K U))
    (hM : Ready P w K mg base "rules_among" 6 ["supports", "num", "den"] (spAmong U)) (hW : Ready P w K mg base "is_within" 1 ["number", "lowest", "highest"] spWithin) : FnOk P w K mg base CX0 7 f fd ["baskets", "least", "num", "den", "k"] (spLook U 7 4) := by
  obtain ⟨fa, fda, mA, kA, bA, GA⟩ := hA
  obtain ⟨fo, fdo, mO, kO, bO, GO⟩ := hO
  obtain ⟨fm, fdm, mM, kM, bM, GM⟩ := hM
  obtain ⟨fw, fdw, mW, kW, bW, GW⟩ := hW
  obtain ⟨t1, hout⟩ := T.outside
  obtain ⟨t2, htoo⟩ := T.toomany
  obtain ⟨t3, hmost⟩ := T.msets
  obtain ⟨t4, hmr⟩ := T.mrules
  obtain ⟨t5, hnot⟩ := T.nothere
  refine F.ok scRule (fun vs H Q E h => ?_) (fun cdv A outer s H vs Q E hr h => ?_)
  · obtain ⟨bk, S, args, rfl, hl, _⟩ := h
    rw [List.length_cons, List.length_map, hl]
    rfl
  · obtain ⟨bk, S, args, rfl, hl, hb, hH, k⟩ := h
    obtain ⟨m, a, b, kk, rfl⟩ := args4 hl
    have hr1 : Room 1 _ := hr.mono (by decide)
    have hr2 : Room 2 _ := hr.mono (by decide)
    have hr4 : Room 4 _ := hr.mono (by decide)
    have hu := hu_of hr
    refine ⟨_, pss_cons (ps_if (pt_not (pt_val (pe_call GA hr2 rfl mA kA bA .nil pass0 (pa_cons (pv 1) (pa_cons (pv 2) (pa_cons (pv 3) pa_nil)))))) (pss_one (ps_ret (pe_lst (pa_cons (pe_glob (v := .int (-1)) rfl hout ⟨_, rfl⟩) pa_nil)))) pss_nil)
      (pss_cons (ps_set (i := 5) scRule.nd rfl (Or.inl rfl) (pe_call GO hr4 rfl mO kO bO .nil pass0 (pa_cons (pv 0) (pa_cons (pv 1) pa_nil))))
      (pss_cons (ps_if (pt_cmpR op_gt (pe_callB call_lenD (by rfl) T.len PySem.boot_len (pa_cons (pv 5) pa_nil)) (pe_glob (v := .int 65536) rfl hmost ⟨_, rfl⟩) (nomark _)) (pss_one (ps_ret (pe_lst (pa_cons (pe_glob (v := .int (-2)) rfl htoo ⟨_, rfl⟩) pa_nil)))) pss_nil)
      (pss_cons (ps_set (i := 6) scRule.nd rfl (Or.inl rfl) (pe_call GM hr rfl mM kM bM .nil pass0 (pa_cons (pv 5) (pa_cons (pv 2) (pa_cons (pv 3) pa_nil)))))
      (pss_cons (ps_if (pt_cmpR op_gt (pe_callB call_len_seq (by rfl) T.len PySem.boot_len (pa_cons (pv 6) pa_nil)) (pe_glob (v := .int 65536) rfl hmr ⟨_, rfl⟩) (nomark _)) (pss_one (ps_ret (pe_lst (pa_cons (pe_glob (v := .int (-2)) rfl htoo ⟨_, rfl⟩) pa_nil)))) pss_nil)
      (pss_cons (ps_if (pt_not (pt_val (pe_call GW hr1 rfl mW kW bW .nil pass0 (pa_cons (pv 4) (pa_cons pe_int (pa_cons (pe_op op_sub (pe_callB call_len_seq (by rfl) T.len PySem.boot_len (pa_cons (pv 6) pa_nil)) pe_int) pa_nil)))))) (pss_one (ps_ret (pe_lst (pa_cons (pe_glob (v := .int (-1)) rfl hnot ⟨_, rfl⟩) pa_nil)))) pss_nil)
      (pss_cons (ps_set (i := 7) scRule.nd rfl (Or.inl rfl) (pe_ix ix_tup (pe_ix ix_list (pv 6) (pv 4) (fun _ _ => rfl)) pe_int (fun _ _ => rfl)))
      (pss_cons (ps_set (i := 8) scRule.nd rfl (Or.inl rfl) (pe_ix ix_tup (pe_ix ix_list (pv 6) (pv 4) (fun _ _ => rfl)) pe_int (fun _ _ => rfl)))
      (pss_one (ps_ret (pe_lst (pa_cons (pe_dget hu (pv 5) (pe_op op_or (pv 7) (pv 8)) (fun _ _ => rfl)) (pa_cons (pv 7) (pa_cons (pv 8) (pa_cons (pe_dget hu (pv 5) (pv 7) (fun _ _ => rfl)) pa_nil)))))))))))))), ?_⟩
    rw [Dk.step7, Dk.sharesOf_few (hH.lt hU) (hH.size h12)] at k
    refine ⟨_, rfl, _, rfl, _, rfl, m, a, b, rfl, _, rfl, ?_⟩
    cases e : Rc52.isShare m a b with
    | false =>
      rw [e, if_pos rfl] at k
      exact iteT ⟨(by show 1 ≤ sizeLine; decide), fun l hl => k.new hb hl⟩
    | true =>
      rw [e, if_neg (by decide)] at k
      obtain ⟨mn, an, bn, rfl, rfl, rfl, hm, hsh⟩ := share_nat e
      have hF : Fit U S mn := ⟨hH, hH.lt hU, h12, hm⟩
      have hlen := hF.len
      rw [Int.toNat_natCast, Int.toNat_natCast, Int.toNat_natCast] at k
      refine iteF ⟨_, rfl, _, rfl, bk, S, mn, rfl, SqL.of hb, hH, hm, fun H1 d hd0 hd1 sm1 => ?_⟩
      refine ⟨_, rfl, d, _, rfl, hd1, _, _, rfl, rfl, _, rfl, ?_⟩
      rw [show (kvS S mn).length = (Dk.often S mn).length from kvN_len _ _]
      refine ite2 (fun c => ?_) (fun c => ?_)
      · exfalso
        simp only [decide_eq_true_eq] at c
        omega
      · refine ⟨_, rfl, _, rfl, _, rfl, d, S, mn, an, bn, rfl, hd1, hF, hsh, fun H2 l ps R e1 e2 e3 sm2 e4 e5 => ?_⟩
        have hpl := e3.len
        have sm : Same H H2 := sm1.trans sm2
        have hd2 := sm2 _ _ hd1
        refine ⟨_, rfl, l, _, rfl, .inl (SqL.of e2), _, _, rfl, rfl, _, rfl, ?_⟩
        rw [List.length_map]
        refine ite2 (fun c2 => ?_) (fun c2 => ?_)
        · have c3 : 65536 < (Rc52.rulesOf S mn an bn).length := by
            simp only [decide_eq_true_eq] at c2
            rcases e4 with e4 | e4
            · rw [← e4]; omega
            · exact e4.2
          rw [if_pos c3] at k
          exact ⟨(by show 1 ≤ sizeLine; decide), fun r hr' => Ans.far k hb sm hr'⟩
        · have c3 : R = Rc52.rulesOf S mn an bn := by
            simp only [decide_eq_true_eq] at c2
            rcases e4 with e4 | e4
            · exact e4
            · omega
          have c4 : ¬ 65536 < R.length := by simp only [decide_eq_true_eq] at c2; omega
          rw [← c3, if_neg c4] at k
          refine ⟨_, rfl, _, rfl, l, _, rfl, .inl (SqL.of e2), _, _, rfl, rfl, kk, 0, _, rfl, _, rfl, ?_⟩
          rw [List.length_map, hpl]
          by_cases c5 : 0 ≤ kk ∧ kk ≤ (R.length : Int) - 1
          · rw [decide_eq_true c5]
            obtain ⟨x, hx1, hx2⟩ := pick_in c5
            rw [hx2] at k
            obtain ⟨p, hp1, hp2⟩ := e3.get hx1
            obtain ⟨r1, r2, r3, r4, r5⟩ := Dk.rule_of hF.lt hF.pos (c3 ▸ List.mem_of_getElem? hx1)
            have hxV : (ps.map V.ref)[kk.toNat]? = some (V.ref p) := by rw [List.getElem?_map, hp1]; rfl
            have hat : atI (ps.map V.ref) kk = some (V.ref p) := at_of (j := kk.toNat) (by omega) hxV
            refine iteF ⟨_, rfl, _, rfl, l, _, _, _, rfl, rfl, SqL.of e2, hat, p, _, _, _, rfl, rfl, SqT.of hp2, at_of (j := 0) rfl rfl, ?_⟩
            refine ⟨_, rfl, _, rfl, l, _, _, _, rfl, rfl, SqL.of e2, hat, p, _, _, _, rfl, rfl, SqT.of hp2, at_of (j := 1) rfl rfl, ?_⟩
            refine ⟨_, rfl, _, rfl, _, rfl, _, _, rfl, rfl, d, V.int (Rc52.support S (x.1 + x.2) : Nat), rfl, ?_, ?_⟩
            · show DGet _ d (V.int (Builtin.bitOr (x.1 : Int) (x.2 : Int))) _
              rw [or_nat, r1]
              have zz := DGet.k (k := Sum.inl ((x.1 + x.2 : Nat) : Int)) hd2
              rw [kvS_in hF r3 r2] at zz
              exact zz
            · refine ⟨_, rfl, _, rfl, _, rfl, _, rfl, d, V.int (Rc52.support S x.1 : Nat), rfl, ?_, ?_⟩
              · have zz := DGet.k (k := Sum.inl (x.1 : Int)) hd2
                rw [kvS_in hF r4 r5] at zz
                exact zz
              · exact ⟨(by show 4 ≤ sizeLine; decide), fun r hr' => Ans.far k hb sm hr'⟩
          · rw [decide_eq_false c5]
            rw [pick_out c5] at k
            exact iteT ⟨(by show 1 ≤ sizeLine; decide), fun r hr' => Ans.far k hb sm hr'⟩
end
end Dsk
end
section
set_option Elab.async false
set_option linter.all false
set_option maxRecDepth 100000
set_option maxHeartbeats 2000000
namespace Dsk
open PySem PySem.Spec PyProof.Rows L2
section
variable {P : Program} {w : World} {K : PySem.W.Frag} {mg : Str → Option Value} {base : Heap}
theorem scCall : FnScope ["baskets", "call", "numbers"] ["baskets", "call", "numbers"] (defScope sCall) := ⟨rfl, rfl, rfl, by decide +kernel, rfl, by decide +kernel, by decide +kernel⟩
theorem ok_call {U : Nat} {f : Addr} {fd : FuncData} (F : Fun K "answer_call" "answer_call" sCall f fd) (T : Txt mg) (h0 : Ready P w K mg base "answer_begin" 1 ["baskets"] spBegin) (h1 : Ready P w K mg base "answer_basket" 1 ["baskets", "things"] (spOne 1)) (h2 : Ready P w K mg base "answer_support" 3 ["baskets", "wanted"] (spOne 2)) (h3 : Ready P w K mg base "answer_closure" 3 ["baskets", "wanted"] (spOne 3)) (h4 : Ready P w K mg base "answer_sets" 5 ["baskets", "least", "kind"] (spLook U 4 2)) (h5 : Ready P w K mg base "answer_set" 6 ["baskets", "least", "kind", "k"] (spLook U 5 3)) (h6 : Ready P w K mg base "answer_rules" 7 ["baskets", "least", "num", "den"] (spLook U 6 3)) (h7 : Ready P w K mg base "answer_rule" 7 ["baskets", "least", "num", "den", "k"] (spLook U 7 4)) :
    FnOk P w K mg base CX0 8 f fd ["baskets", "call", "numbers"] (spCall U) := by
  obtain ⟨f0, fd0, m0, k0, b0, G0⟩ := h0
  obtain ⟨f1, fd1, m1, k1, b1, G1⟩ := h1
  obtain ⟨f2, fd2, m2, k2, b2, G2⟩ := h2
  obtain ⟨f3, fd3, m3, k3, b3, G3⟩ := h3
  obtain ⟨f4, fd4, m4, k4, b4, G4⟩ := h4
  obtain ⟨f5, fd5, m5, k5, b5, G5⟩ := h5
  obtain ⟨f6, fd6, m6, k6, b6, G6⟩ := h6
  obtain ⟨f7, fd7, m7, k7, b7, G7⟩ := h7
  obtain ⟨t0, hc0⟩ := T.c0
  obtain ⟨t1, hc1⟩ := T.c1
  obtain ⟨t2, hc2⟩ := T.c2
  obtain ⟨t3, hc3⟩ := T.c3
  obtain ⟨t4, hc4⟩ := T.c4
  obtain ⟨t5, hc5⟩ := T.c5
  obtain ⟨t6, hc6⟩ := T.c6
  refine F.ok scCall (fun vs H Q E h => ?_) (fun cdv A outer s H vs Q E hr h => ?_)
  · obtain ⟨bk, nb, S, p, args, rfl, _⟩ := h
    rfl
  · obtain ⟨bk, nb, S, p, args, rfl, hb, hn, hw, hask, hH, k⟩ := h
    have r0 : Room 1 _ := hr.mono (by decide)
    have r1 : Room 1 _ := hr.mono (by decide)
    have r2 : Room 3 _ := hr.mono (by decide)
    have r3 : Room 3 _ := hr.mono (by decide)
    have r4 : Room 5 _ := hr.mono (by decide)
    have r5 : Room 6 _ := hr.mono (by decide)
    have r6 : Room 7 _ := hr.mono (by decide)
    have r7 : Room 7 _ := hr.mono (by decide)
    refine ⟨_, pss_cons (ps_if (pt_cmpR op_eq (pv 1) (pe_glob (v := .int 0) rfl hc0 ⟨_, rfl⟩) (nomark _)) (pss_one (ps_ret (pe_call G0 r0 rfl m0 k0 b0 .nil pass0 (pa_cons (pv 0) pa_nil)))) pss_nil)
      (pss_cons (ps_if (pt_cmpR op_eq (pv 1) (pe_glob (v := .int 1) rfl hc1 ⟨_, rfl⟩) (nomark _)) (pss_one (ps_ret (pe_call G1 r1 rfl m1 k1 b1 .nil pass0 (pa_cons (pv 0) (pa_cons (pe_ix ix_list (pv 2) pe_int (fun _ _ => rfl)) pa_nil))))) pss_nil)
      (pss_cons (ps_if (pt_cmpR op_eq (pv 1) (pe_glob (v := .int 2) rfl hc2 ⟨_, rfl⟩) (nomark _)) (pss_one (ps_ret (pe_call G2 r2 rfl m2 k2 b2 .nil pass0 (pa_cons (pv 0) (pa_cons (pe_ix ix_list (pv 2) pe_int (fun _ _ => rfl)) pa_nil))))) pss_nil)
      (pss_cons (ps_if (pt_cmpR op_eq (pv 1) (pe_glob (v := .int 3) rfl hc3 ⟨_, rfl⟩) (nomark _)) (pss_one (ps_ret (pe_call G3 r3 rfl m3 k3 b3 .nil pass0 (pa_cons (pv 0) (pa_cons (pe_ix ix_list (pv 2) pe_int (fun _ _ => rfl)) pa_nil))))) pss_nil)
      (pss_cons (ps_if (pt_cmpR op_eq (pv 1) (pe_glob (v := .int 4) rfl hc4 ⟨_, rfl⟩) (nomark _)) (pss_one (ps_ret (pe_call G4 r4 rfl m4 k4 b4 .nil pass0 (pa_cons (pv 0) (pa_cons (pe_ix ix_list (pv 2) pe_int (fun _ _ => rfl)) (pa_cons (pe_ix ix_list (pv 2) pe_int (fun _ _ => rfl)) pa_nil)))))) pss_nil)
      (pss_cons (ps_if (pt_cmpR op_eq (pv 1) (pe_glob (v := .int 5) rfl hc5 ⟨_, rfl⟩) (nomark _)) (pss_one (ps_ret (pe_call G5 r5 rfl m5 k5 b5 .nil pass0 (pa_cons (pv 0) (pa_cons (pe_ix ix_list (pv 2) pe_int (fun _ _ => rfl)) (pa_cons (pe_ix ix_list (pv 2) pe_int (fun _ _ => rfl)) (pa_cons (pe_ix ix_list (pv 2) pe_int (fun _ _ => rfl)) pa_nil))))))) pss_nil)
      (pss_cons (ps_if (pt_cmpR op_eq (pv 1) (pe_glob (v := .int 6) rfl hc6 ⟨_, rfl⟩) (nomark _)) (pss_one (ps_ret (pe_call G6 r6 rfl m6 k6 b6 .nil pass0 (pa_cons (pv 0) (pa_cons (pe_ix ix_list (pv 2) pe_int (fun _ _ => rfl)) (pa_cons (pe_ix ix_list (pv 2) pe_int (fun _ _ => rfl)) (pa_cons (pe_ix ix_list (pv 2) pe_int (fun _ _ => rfl)) pa_nil))))))) pss_nil)
      (pss_one (ps_ret (pe_call G7 r7 rfl m7 k7 b7 .nil pass0 (pa_cons (pv 0) (pa_cons (pe_ix ix_list (pv 2) pe_int (fun _ _ => rfl)) (pa_cons (pe_ix ix_list (pv 2) pe_int (fun _ _ => rfl)) (pa_cons (pe_ix ix_list (pv 2) pe_int (fun _ _ => rfl)) (pa_cons (pe_ix ix_list (pv 2) pe_int (fun _ _ => rfl)) pa_nil)))))))))))))), ?_⟩
    have one : ∀ a : Int, args = [a] → Rc52Neutral.natural a 64 = true → ∃ n : Nat, a = (n : Int) := fun a _ h => ⟨a.toNat, by rw [Dk.natural_iff] at h; omega⟩
    rcases hw with ⟨rfl, hl⟩ | ⟨rfl, hl⟩ | ⟨rfl, hl⟩ | ⟨rfl, hl⟩ | ⟨rfl, hl⟩ | ⟨rfl, hl⟩ | ⟨rfl, hl⟩ | ⟨rfl, hl⟩
    · match args, hl, hask with
      | [], _, hask =>
        refine ⟨_, rfl, rfl, _, rfl, ?_⟩
        rw [dec_same']
        exact iteT ⟨_, rfl, bk, S, rfl, hb, k⟩
    · match args, hl, hask with
      | [a], _, hask =>
        obtain ⟨n, rfl⟩ := one a rfl hask
        refine ⟨_, rfl, rfl, _, rfl, ?_⟩
        rw [dec_ne' (by decide)]
        refine iteF ⟨_, rfl, rfl, _, rfl, ?_⟩
        rw [dec_same']
        exact iteT ⟨_, rfl, _, rfl, nb, _, _, _, rfl, rfl, SqL.of hn, at_of (j := 0) rfl rfl, bk, S, n, rfl, hb, hH.len, k⟩
    · match args, hl, hask with
      | [a], _, hask =>
        obtain ⟨n, rfl⟩ := one a rfl hask
        refine ⟨_, rfl, rfl, _, rfl, ?_⟩
        rw [dec_ne' (by decide)]
        refine iteF ⟨_, rfl, rfl, _, rfl, ?_⟩
        rw [dec_ne' (by decide)]
        refine iteF ⟨_, rfl, rfl, _, rfl, ?_⟩
        rw [dec_same']
        exact iteT ⟨_, rfl, _, rfl, nb, _, _, _, rfl, rfl, SqL.of hn, at_of (j := 0) rfl rfl, bk, S, n, rfl, hb, hH.len, k⟩
    · match args, hl, hask with
      | [a], _, hask =>
        obtain ⟨n, rfl⟩ := one a rfl hask
        refine ⟨_, rfl, rfl, _, rfl, ?_⟩
        rw [dec_ne' (by decide)]
        refine iteF ⟨_, rfl, rfl, _, rfl, ?_⟩
        rw [dec_ne' (by decide)]
        refine iteF ⟨_, rfl, rfl, _, rfl, ?_⟩
        rw [dec_ne' (by decide)]
        refine iteF ⟨_, rfl, rfl, _, rfl, ?_⟩
        rw [dec_same']
        exact iteT ⟨_, rfl, _, rfl, nb, _, _, _, rfl, rfl, SqL.of hn, at_of (j := 0) rfl rfl, bk, S, n, rfl, hb, hH.len, k⟩
    · match args, hl, hask with
      | [a, b], _, hask =>
        refine ⟨_, rfl, rfl, _, rfl, ?_⟩
        rw [dec_ne' (by decide)]
        refine iteF ⟨_, rfl, rfl, _, rfl, ?_⟩
        rw [dec_ne' (by decide)]
        refine iteF ⟨_, rfl, rfl, _, rfl, ?_⟩
        rw [dec_ne' (by decide)]
        refine iteF ⟨_, rfl, rfl, _, rfl, ?_⟩
        rw [dec_ne' (by decide)]
        refine iteF ⟨_, rfl, rfl, _, rfl, ?_⟩
        rw [dec_same']
        exact iteT ⟨_, rfl, _, rfl, nb, _, _, _, rfl, rfl, SqL.of hn, at_of (j := 0) rfl rfl, _, rfl, nb, _, _, _, rfl, rfl, SqL.of hn, at_of (j := 1) rfl rfl, bk, S, [a, b], rfl, rfl, hb, hH, k⟩
    · match args, hl, hask with
      | [a, b, c], _, hask =>
        refine ⟨_, rfl, rfl, _, rfl, ?_⟩
        rw [dec_ne' (by decide)]
        refine iteF ⟨_, rfl, rfl, _, rfl, ?_⟩
        rw [dec_ne' (by decide)]
        refine iteF ⟨_, rfl, rfl, _, rfl, ?_⟩
        rw [dec_ne' (by decide)]
        refine iteF ⟨_, rfl, rfl, _, rfl, ?_⟩
        rw [dec_ne' (by decide)]
        refine iteF ⟨_, rfl, rfl, _, rfl, ?_⟩
        rw [dec_ne' (by decide)]
        refine iteF ⟨_, rfl, rfl, _, rfl, ?_⟩
        rw [dec_same']
        exact iteT ⟨_, rfl, _, rfl, nb, _, _, _, rfl, rfl, SqL.of hn, at_of (j := 0) rfl rfl, _, rfl, nb, _, _, _, rfl, rfl, SqL.of hn, at_of (j := 1) rfl rfl, _, rfl, nb, _, _, _, rfl, rfl, SqL.of hn, at_of (j := 2) rfl rfl, bk, S, [a, b, c], rfl, rfl, hb, hH, k⟩
    · match args, hl, hask with
      | [a, b, c], _, hask =>
        refine ⟨_, rfl, rfl, _, rfl, ?_⟩
        rw [dec_ne' (by decide)]
        refine iteF ⟨_, rfl, rfl, _, rfl, ?_⟩
        rw [dec_ne' (by decide)]
        refine iteF ⟨_, rfl, rfl, _, rfl, ?_⟩
        rw [dec_ne' (by decide)]
        refine iteF ⟨_, rfl, rfl, _, rfl, ?_⟩
        rw [dec_ne' (by decide)]
        refine iteF ⟨_, rfl, rfl, _, rfl, ?_⟩
        rw [dec_ne' (by decide)]
        refine iteF ⟨_, rfl, rfl, _, rfl, ?_⟩
        rw [dec_ne' (by decide)]
        refine iteF ⟨_, rfl, rfl, _, rfl, ?_⟩
        rw [dec_same']
        exact iteT ⟨_, rfl, _, rfl, nb, _, _, _, rfl, rfl, SqL.of hn, at_of (j := 0) rfl rfl, _, rfl, nb, _, _, _, rfl, rfl, SqL.of hn, at_of (j := 1) rfl rfl, _, rfl, nb, _, _, _, rfl, rfl, SqL.of hn, at_of (j := 2) rfl rfl, bk, S, [a, b, c], rfl, rfl, hb, hH, k⟩
    · match args, hl, hask with
      | [a, b, c, d], _, hask =>
        refine ⟨_, rfl, rfl, _, rfl, ?_⟩
        rw [dec_ne' (by decide)]
        refine iteF ⟨_, rfl, rfl, _, rfl, ?_⟩
        rw [dec_ne' (by decide)]
        refine iteF ⟨_, rfl, rfl, _, rfl, ?_⟩
        rw [dec_ne' (by decide)]
        refine iteF ⟨_, rfl, rfl, _, rfl, ?_⟩
        rw [dec_ne' (by decide)]
        refine iteF ⟨_, rfl, rfl, _, rfl, ?_⟩
        rw [dec_ne' (by decide)]
        refine iteF ⟨_, rfl, rfl, _, rfl, ?_⟩
        rw [dec_ne' (by decide)]
        refine iteF ⟨_, rfl, rfl, _, rfl, ?_⟩
        rw [dec_ne' (by decide)]
        exact iteF ⟨_, rfl, _, rfl, nb, _, _, _, rfl, rfl, SqL.of hn, at_of (j := 0) rfl rfl, _, rfl, nb, _, _, _, rfl, rfl, SqL.of hn, at_of (j := 1) rfl rfl, _, rfl, nb, _, _, _, rfl, rfl, SqL.of hn, at_of (j := 2) rfl rfl, _, rfl, nb, _, _, _, rfl, rfl, SqL.of hn, at_of (j := 3) rfl rfl, bk, S, [a, b, c, d], rfl, rfl, hb, hH, k⟩
end
end Dsk
end
set_option Elab.async false
set_option linter.all false
set_option maxRecDepth 100000
set_option maxHeartbeats 3000000
namespace Dsk
open PySem PySem.Spec PyProof.Rows L2
open PySem.W (Codec)
theorem tab8 {P : Program} {w : World} {K : PySem.W.Frag} {d : Addr} {ep : Nat} {k0 v0 k1 v1 k2 v2 k3 v3 k4 v4 k5 v5 k6 v6 k7 v7 : Tok} (l : K.lookup d = some ⟨.type "dict", none, .dict #[⟨0, .int 0 k0, .int 0 v0⟩, ⟨1, .int 1 k1, .int 1 v1⟩, ⟨2, .int 2 k2, .int 1 v2⟩, ⟨3, .int 3 k3, .int 1 v3⟩, ⟨4, .int 4 k4, .int 2 v4⟩, ⟨5, .int 5 k5, .int 3 v5⟩, ⟨6, .int 6 k6, .int 3 v6⟩, ⟨7, .int 7 k7, .int 4 v7⟩] ep, #[]⟩) : TabK P w K d behind :=
  tab_mk (D := [(0, 0), (1, 1), (2, 1), (3, 1), (4, 2), (5, 3), (6, 3), (7, 4)]) l (.cons ⟨⟨_, rfl⟩, ⟨_, rfl⟩, (by show (0 : Int) = hashInt 0; decide +kernel)⟩ (.cons ⟨⟨_, rfl⟩, ⟨_, rfl⟩, (by show (1 : Int) = hashInt 1; decide +kernel)⟩ (.cons ⟨⟨_, rfl⟩, ⟨_, rfl⟩, (by show (2 : Int) = hashInt 2; decide +kernel)⟩ (.cons ⟨⟨_, rfl⟩, ⟨_, rfl⟩, (by show (3 : Int) = hashInt 3; decide +kernel)⟩ (.cons ⟨⟨_, rfl⟩, ⟨_, rfl⟩, (by show (4 : Int) = hashInt 4; decide +kernel)⟩ (.cons ⟨⟨_, rfl⟩, ⟨_, rfl⟩, (by show (5 : Int) = hashInt 5; decide +kernel)⟩ (.cons ⟨⟨_, rfl⟩, ⟨_, rfl⟩, (by show (6 : Int) = hashInt 6; decide +kernel)⟩ (.cons ⟨⟨_, rfl⟩, ⟨_, rfl⟩, (by show (7 : Int) = hashInt 7; decide +kernel)⟩ .nil)))))))) (by decide)
theorem all_mk {P : Program} {w : World} {K : PySem.W.Frag} {h : Heap} {mg : Str → Option Value} {fa : Addr} (X : K.In h) (G : h.Ns mainGlobals mg) (hfa : mg "answers" = some (.ref fa))
    {f0 : Addr} {od0 an0 : Option Addr} {sl0 : Array (Option Value)} {oc0 kV0 dc0 pm0 cd0 ct0 : Value}
    {f1 : Addr} {od1 an1 : Option Addr} {sl1 : Array (Option Value)} {oc1 kV1 dc1 pm1 cd1 ct1 : Value}
    {f2 : Addr} {od2 an2 : Option Addr} {sl2 : Array (Option Value)} {oc2 kV2 dc2 pm2 cd2 ct2 : Value}
    {f3 : Addr} {od3 an3 : Option Addr} {sl3 : Array (Option Value)} {oc3 kV3 dc3 pm3 cd3 ct3 : Value}
    {f4 : Addr} {od4 an4 : Option Addr} {sl4 : Array (Option Value)} {oc4 kV4 dc4 pm4 cd4 ct4 : Value}
    {f5 : Addr} {od5 an5 : Option Addr} {sl5 : Array (Option Value)} {oc5 kV5 dc5 pm5 cd5 ct5 : Value}
    {f6 : Addr} {od6 an6 : Option Addr} {sl6 : Array (Option Value)} {oc6 kV6 dc6 pm6 cd6 ct6 : Value}
    {f7 : Addr} {od7 an7 : Option Addr} {sl7 : Array (Option Value)} {oc7 kV7 dc7 pm7 cd7 ct7 : Value}
    {f8 : Addr} {od8 an8 : Option Addr} {sl8 : Array (Option Value)} {oc8 kV8 dc8 pm8 cd8 ct8 : Value}
    {f9 : Addr} {od9 an9 : Option Addr} {sl9 : Array (Option Value)} {oc9 kV9 dc9 pm9 cd9 ct9 : Value}
    {f10 : Addr} {od10 an10 : Option Addr} {sl10 : Array (Option Value)} {oc10 kV10 dc10 pm10 cd10 ct10 : Value}
    {f11 : Addr} {od11 an11 : Option Addr} {sl11 : Array (Option Value)} {oc11 kV11 dc11 pm11 cd11 ct11 : Value}
    {f12 : Addr} {od12 an12 : Option Addr} {sl12 : Array (Option Value)} {oc12 kV12 dc12 pm12 cd12 ct12 : Value}
    {f13 : Addr} {od13 an13 : Option Addr} {sl13 : Array (Option Value)} {oc13 kV13 dc13 pm13 cd13 ct13 : Value}
    {f14 : Addr} {od14 an14 : Option Addr} {sl14 : Array (Option Value)} {oc14 kV14 dc14 pm14 cd14 ct14 : Value}
    {f15 : Addr} {od15 an15 : Option Addr} {sl15 : Array (Option Value)} {oc15 kV15 dc15 pm15 cd15 ct15 : Value}
    {f16 : Addr} {od16 an16 : Option Addr} {sl16 : Array (Option Value)} {oc16 kV16 dc16 pm16 cd16 ct16 : Value}
    {f17 : Addr} {od17 an17 : Option Addr} {sl17 : Array (Option Value)} {oc17 kV17 dc17 pm17 cd17 ct17 : Value}
    {f18 : Addr} {od18 an18 : Option Addr} {sl18 : Array (Option Value)} {oc18 kV18 dc18 pm18 cd18 ct18 : Value}
    {f19 : Addr} {od19 an19 : Option Addr} {sl19 : Array (Option Value)} {oc19 kV19 dc19 pm19 cd19 ct19 : Value}
    {f20 : Addr} {od20 an20 : Option Addr} {sl20 : Array (Option Value)} {oc20 kV20 dc20 pm20 cd20 ct20 : Value}
    {f21 : Addr} {od21 an21 : Option Addr} {sl21 : Array (Option Value)} {oc21 kV21 dc21 pm21 cd21 ct21 : Value}
    {f22 : Addr} {od22 an22 : Option Addr} {sl22 : Array (Option Value)} {oc22 kV22 dc22 pm22 cd22 ct22 : Value}
    {f23 : Addr} {od23 an23 : Option Addr} {sl23 : Array (Option Value)} {oc23 kV23 dc23 pm23 cd23 ct23 : Value}
    {f24 : Addr} {od24 an24 : Option Addr} {sl24 : Array (Option Value)} {oc24 kV24 dc24 pm24 cd24 ct24 : Value}
    {f25 : Addr} {od25 an25 : Option Addr} {sl25 : Array (Option Value)} {oc25 kV25 dc25 pm25 cd25 ct25 : Value}
    {tc0 : Tok}
    {tc1 : Tok}
    {tc2 : Tok}
    {tc3 : Tok}
    {tc4 : Tok}
    {tc5 : Tok}
    {tc6 : Tok}
    {tc7 : Tok}
    {tc8 : Tok}
    {tc9 : Tok}
    {tc10 : Tok}
    {tc11 : Tok}
    {tc12 : Tok}
    {tc13 : Tok}
    {tc14 : Tok}
    {tc15 : Tok}
    {tc16 : Tok}
    {tc17 : Tok}
    {tc18 : Tok}
    {tc19 : Tok}
    {tb0 : Addr} {ep0 : Nat} {tk0_0 tv0_0 : Tok} {tk0_1 tv0_1 : Tok} {tk0_2 tv0_2 : Tok} {tk0_3 tv0_3 : Tok} {tk0_4 tv0_4 : Tok} {tk0_5 tv0_5 : Tok} {tk0_6 tv0_6 : Tok} {tk0_7 tv0_7 : Tok}
    (a0 : PySem.W.nsIn K mainGlobals "has_all" = some (some (.ref f0)))
    (l0 : K.lookup f0 = some ⟨oc0, od0, .func (PySem.W.fnOf "has_all" "has_all" (defArgs sHas) (defBody sHas) (defScope sHas) .none kV0 dc0 pm0 an0 cd0 ct0), sl0⟩)
    (c0 : PySem.W.codeIn K cd0 "has_all" = true)
    (k0 : PySem.W.keepIn K (.ref f0) = true)
    (a1 : PySem.W.nsIn K mainGlobals "support_of" = some (some (.ref f1)))
    (l1 : K.lookup f1 = some ⟨oc1, od1, .func (PySem.W.fnOf "support_of" "support_of" (defArgs sSup) (defBody sSup) (defScope sSup) .none kV1 dc1 pm1 an1 cd1 ct1), sl1⟩)
    (c1 : PySem.W.codeIn K cd1 "support_of" = true)
    (k1 : PySem.W.keepIn K (.ref f1) = true)
    (a2 : PySem.W.nsIn K mainGlobals "closure_of" = some (some (.ref f2)))
    (l2 : K.lookup f2 = some ⟨oc2, od2, .func (PySem.W.fnOf "closure_of" "closure_of" (defArgs sClo) (defBody sClo) (defScope sClo) .none kV2 dc2 pm2 an2 cd2 ct2), sl2⟩)
    (c2 : PySem.W.codeIn K cd2 "closure_of" = true)
    (k2 : PySem.W.keepIn K (.ref f2) = true)
    (a3 : PySem.W.nsIn K mainGlobals "how_many_things" = some (some (.ref f3)))
    (l3 : K.lookup f3 = some ⟨oc3, od3, .func (PySem.W.fnOf "how_many_things" "how_many_things" (defArgs sMany) (defBody sMany) (defScope sMany) .none kV3 dc3 pm3 an3 cd3 ct3), sl3⟩)
    (c3 : PySem.W.codeIn K cd3 "how_many_things" = true)
    (k3 : PySem.W.keepIn K (.ref f3) = true)
    (a4 : PySem.W.nsIn K mainGlobals "place_in_order" = some (some (.ref f4)))
    (l4 : K.lookup f4 = some ⟨oc4, od4, .func (PySem.W.fnOf "place_in_order" "place_in_order" (defArgs sPlace) (defBody sPlace) (defScope sPlace) .none kV4 dc4 pm4 an4 cd4 ct4), sl4⟩)
    (c4 : PySem.W.codeIn K cd4 "place_in_order" = true)
    (k4 : PySem.W.keepIn K (.ref f4) = true)
    (a5 : PySem.W.nsIn K mainGlobals "times_of_each" = some (some (.ref f5)))
    (l5 : K.lookup f5 = some ⟨oc5, od5, .func (PySem.W.fnOf "times_of_each" "times_of_each" (defArgs sTimes) (defBody sTimes) (defScope sTimes) .none kV5 dc5 pm5 an5 cd5 ct5), sl5⟩)
    (c5 : PySem.W.codeIn K cd5 "times_of_each" = true)
    (k5 : PySem.W.keepIn K (.ref f5) = true)
    (a6 : PySem.W.nsIn K mainGlobals "often_things" = some (some (.ref f6)))
    (l6 : K.lookup f6 = some ⟨oc6, od6, .func (PySem.W.fnOf "often_things" "often_things" (defArgs sBigs) (defBody sBigs) (defScope sBigs) .none kV6 dc6 pm6 an6 cd6 ct6), sl6⟩)
    (c6 : PySem.W.codeIn K cd6 "often_things" = true)
    (k6 : PySem.W.keepIn K (.ref f6) = true)
    (a7 : PySem.W.nsIn K mainGlobals "often_sets" = some (some (.ref f7)))
    (l7 : K.lookup f7 = some ⟨oc7, od7, .func (PySem.W.fnOf "often_sets" "often_sets" (defArgs sOften) (defBody sOften) (defScope sOften) .none kV7 dc7 pm7 an7 cd7 ct7), sl7⟩)
    (c7 : PySem.W.codeIn K cd7 "often_sets" = true)
    (k7 : PySem.W.keepIn K (.ref f7) = true)
    (a8 : PySem.W.nsIn K mainGlobals "most_support_above" = some (some (.ref f8)))
    (l8 : K.lookup f8 = some ⟨oc8, od8, .func (PySem.W.fnOf "most_support_above" "most_support_above" (defArgs sMost) (defBody sMost) (defScope sMost) .none kV8 dc8 pm8 an8 cd8 ct8), sl8⟩)
    (c8 : PySem.W.codeIn K cd8 "most_support_above" = true)
    (k8 : PySem.W.keepIn K (.ref f8) = true)
    (a9 : PySem.W.nsIn K mainGlobals "sets_of_kind" = some (some (.ref f9)))
    (l9 : K.lookup f9 = some ⟨oc9, od9, .func (PySem.W.fnOf "sets_of_kind" "sets_of_kind" (defArgs sKind) (defBody sKind) (defScope sKind) .none kV9 dc9 pm9 an9 cd9 ct9), sl9⟩)
    (c9 : PySem.W.codeIn K cd9 "sets_of_kind" = true)
    (k9 : PySem.W.keepIn K (.ref f9) = true)
    (a10 : PySem.W.nsIn K mainGlobals "in_order" = some (some (.ref f10)))
    (l10 : K.lookup f10 = some ⟨oc10, od10, .func (PySem.W.fnOf "in_order" "in_order" (defArgs sOrder) (defBody sOrder) (defScope sOrder) .none kV10 dc10 pm10 an10 cd10 ct10), sl10⟩)
    (c10 : PySem.W.codeIn K cd10 "in_order" = true)
    (k10 : PySem.W.keepIn K (.ref f10) = true)
    (a11 : PySem.W.nsIn K mainGlobals "rules_that_make" = some (some (.ref f11)))
    (l11 : K.lookup f11 = some ⟨oc11, od11, .func (PySem.W.fnOf "rules_that_make" "rules_that_make" (defArgs sMake) (defBody sMake) (defScope sMake) .none kV11 dc11 pm11 an11 cd11 ct11), sl11⟩)
    (c11 : PySem.W.codeIn K cd11 "rules_that_make" = true)
    (k11 : PySem.W.keepIn K (.ref f11) = true)
    (a12 : PySem.W.nsIn K mainGlobals "rules_among" = some (some (.ref f12)))
    (l12 : K.lookup f12 = some ⟨oc12, od12, .func (PySem.W.fnOf "rules_among" "rules_among" (defArgs sAmong) (defBody sAmong) (defScope sAmong) .none kV12 dc12 pm12 an12 cd12 ct12), sl12⟩)
    (c12 : PySem.W.codeIn K cd12 "rules_among" = true)
    (k12 : PySem.W.keepIn K (.ref f12) = true)
    (a13 : PySem.W.nsIn K mainGlobals "answer_begin" = some (some (.ref f13)))
    (l13 : K.lookup f13 = some ⟨oc13, od13, .func (PySem.W.fnOf "answer_begin" "answer_begin" (defArgs sBegin) (defBody sBegin) (defScope sBegin) .none kV13 dc13 pm13 an13 cd13 ct13), sl13⟩)
    (c13 : PySem.W.codeIn K cd13 "answer_begin" = true)
    (k13 : PySem.W.keepIn K (.ref f13) = true)
    (a14 : PySem.W.nsIn K mainGlobals "answer_basket" = some (some (.ref f14)))
    (l14 : K.lookup f14 = some ⟨oc14, od14, .func (PySem.W.fnOf "answer_basket" "answer_basket" (defArgs sBasket) (defBody sBasket) (defScope sBasket) .none kV14 dc14 pm14 an14 cd14 ct14), sl14⟩)
    (c14 : PySem.W.codeIn K cd14 "answer_basket" = true)
    (k14 : PySem.W.keepIn K (.ref f14) = true)
    (a15 : PySem.W.nsIn K mainGlobals "answer_support" = some (some (.ref f15)))
    (l15 : K.lookup f15 = some ⟨oc15, od15, .func (PySem.W.fnOf "answer_support" "answer_support" (defArgs sSupport) (defBody sSupport) (defScope sSupport) .none kV15 dc15 pm15 an15 cd15 ct15), sl15⟩)
    (c15 : PySem.W.codeIn K cd15 "answer_support" = true)
    (k15 : PySem.W.keepIn K (.ref f15) = true)
    (a16 : PySem.W.nsIn K mainGlobals "answer_closure" = some (some (.ref f16)))
    (l16 : K.lookup f16 = some ⟨oc16, od16, .func (PySem.W.fnOf "answer_closure" "answer_closure" (defArgs sClosure) (defBody sClosure) (defScope sClosure) .none kV16 dc16 pm16 an16 cd16 ct16), sl16⟩)
    (c16 : PySem.W.codeIn K cd16 "answer_closure" = true)
    (k16 : PySem.W.keepIn K (.ref f16) = true)
    (a17 : PySem.W.nsIn K mainGlobals "is_within" = some (some (.ref f17)))
    (l17 : K.lookup f17 = some ⟨oc17, od17, .func (PySem.W.fnOf "is_within" "is_within" (defArgs sWithin) (defBody sWithin) (defScope sWithin) .none kV17 dc17 pm17 an17 cd17 ct17), sl17⟩)
    (c17 : PySem.W.codeIn K cd17 "is_within" = true)
    (k17 : PySem.W.keepIn K (.ref f17) = true)
    (a18 : PySem.W.nsIn K mainGlobals "may_ask_sets" = some (some (.ref f18)))
    (l18 : K.lookup f18 = some ⟨oc18, od18, .func (PySem.W.fnOf "may_ask_sets" "may_ask_sets" (defArgs sAskSets) (defBody sAskSets) (defScope sAskSets) .none kV18 dc18 pm18 an18 cd18 ct18), sl18⟩)
    (c18 : PySem.W.codeIn K cd18 "may_ask_sets" = true)
    (k18 : PySem.W.keepIn K (.ref f18) = true)
    (a19 : PySem.W.nsIn K mainGlobals "may_ask_rules" = some (some (.ref f19)))
    (l19 : K.lookup f19 = some ⟨oc19, od19, .func (PySem.W.fnOf "may_ask_rules" "may_ask_rules" (defArgs sAskRules) (defBody sAskRules) (defScope sAskRules) .none kV19 dc19 pm19 an19 cd19 ct19), sl19⟩)
    (c19 : PySem.W.codeIn K cd19 "may_ask_rules" = true)
    (k19 : PySem.W.keepIn K (.ref f19) = true)
    (a20 : PySem.W.nsIn K mainGlobals "answer_sets" = some (some (.ref f20)))
    (l20 : K.lookup f20 = some ⟨oc20, od20, .func (PySem.W.fnOf "answer_sets" "answer_sets" (defArgs sSets) (defBody sSets) (defScope sSets) .none kV20 dc20 pm20 an20 cd20 ct20), sl20⟩)
    (c20 : PySem.W.codeIn K cd20 "answer_sets" = true)
    (k20 : PySem.W.keepIn K (.ref f20) = true)
    (a21 : PySem.W.nsIn K mainGlobals "answer_set" = some (some (.ref f21)))
    (l21 : K.lookup f21 = some ⟨oc21, od21, .func (PySem.W.fnOf "answer_set" "answer_set" (defArgs sSet) (defBody sSet) (defScope sSet) .none kV21 dc21 pm21 an21 cd21 ct21), sl21⟩)
    (c21 : PySem.W.codeIn K cd21 "answer_set" = true)
    (k21 : PySem.W.keepIn K (.ref f21) = true)
    (a22 : PySem.W.nsIn K mainGlobals "answer_rules" = some (some (.ref f22)))
    (l22 : K.lookup f22 = some ⟨oc22, od22, .func (PySem.W.fnOf "answer_rules" "answer_rules" (defArgs sRules) (defBody sRules) (defScope sRules) .none kV22 dc22 pm22 an22 cd22 ct22), sl22⟩)
    (c22 : PySem.W.codeIn K cd22 "answer_rules" = true)
    (k22 : PySem.W.keepIn K (.ref f22) = true)
    (a23 : PySem.W.nsIn K mainGlobals "answer_rule" = some (some (.ref f23)))
    (l23 : K.lookup f23 = some ⟨oc23, od23, .func (PySem.W.fnOf "answer_rule" "answer_rule" (defArgs sRule) (defBody sRule) (defScope sRule) .none kV23 dc23 pm23 an23 cd23 ct23), sl23⟩)
    (c23 : PySem.W.codeIn K cd23 "answer_rule" = true)
    (k23 : PySem.W.keepIn K (.ref f23) = true)
    (a24 : PySem.W.nsIn K mainGlobals "answer_call" = some (some (.ref f24)))
    (l24 : K.lookup f24 = some ⟨oc24, od24, .func (PySem.W.fnOf "answer_call" "answer_call" (defArgs sCall) (defBody sCall) (defScope sCall) .none kV24 dc24 pm24 an24 cd24 ct24), sl24⟩)
    (c24 : PySem.W.codeIn K cd24 "answer_call" = true)
    (k24 : PySem.W.keepIn K (.ref f24) = true)
    (a25 : PySem.W.nsIn K mainGlobals "answers" = some (some (.ref f25)))
    (l25 : K.lookup f25 = some ⟨oc25, od25, .func (PySem.W.fnOf "answers" "answers" (defArgs sAnswers) (defBody sAnswers) (defScope sAnswers) .none kV25 dc25 pm25 an25 cd25 ct25), sl25⟩)
    (c25 : PySem.W.codeIn K cd25 "answers" = true)
    (k25 : PySem.W.keepIn K (.ref f25) = true)
    (cn0 : PySem.W.nsIn K mainGlobals "ALL_THINGS" = some (some (.int 18446744073709551615 tc0)))
    (cn1 : PySem.W.nsIn K mainGlobals "MOST_BASKETS" = some (some (.int 512 tc1)))
    (cn2 : PySem.W.nsIn K mainGlobals "NO_ROOM" = some (some (.int (-2) tc2)))
    (cn3 : PySem.W.nsIn K mainGlobals "BEGIN" = some (some (.int 0 tc3)))
    (cn4 : PySem.W.nsIn K mainGlobals "BASKET" = some (some (.int 1 tc4)))
    (cn5 : PySem.W.nsIn K mainGlobals "SUPPORT" = some (some (.int 2 tc5)))
    (cn6 : PySem.W.nsIn K mainGlobals "CLOSURE" = some (some (.int 3 tc6)))
    (cn7 : PySem.W.nsIn K mainGlobals "SETS" = some (some (.int 4 tc7)))
    (cn8 : PySem.W.nsIn K mainGlobals "SET_AT" = some (some (.int 5 tc8)))
    (cn9 : PySem.W.nsIn K mainGlobals "RULES" = some (some (.int 6 tc9)))
    (cn10 : PySem.W.nsIn K mainGlobals "MOST_SETS" = some (some (.int 65536 tc10)))
    (cn11 : PySem.W.nsIn K mainGlobals "MOST_RULES" = some (some (.int 65536 tc11)))
    (cn12 : PySem.W.nsIn K mainGlobals "MOST_LEAST" = some (some (.int 512 tc12)))
    (cn13 : PySem.W.nsIn K mainGlobals "MOST_DEN" = some (some (.int 1000000 tc13)))
    (cn14 : PySem.W.nsIn K mainGlobals "LAST_KIND" = some (some (.int 2 tc14)))
    (cn15 : PySem.W.nsIn K mainGlobals "CLOSED" = some (some (.int 1 tc15)))
    (cn16 : PySem.W.nsIn K mainGlobals "GREATEST" = some (some (.int 2 tc16)))
    (cn17 : PySem.W.nsIn K mainGlobals "OUTSIDE" = some (some (.int (-1) tc17)))
    (cn18 : PySem.W.nsIn K mainGlobals "NOT_THERE" = some (some (.int (-1) tc18)))
    (cn19 : PySem.W.nsIn K mainGlobals "TOO_MANY" = some (some (.int (-2) tc19)))
    (n0 : PySem.W.nsIn K mainGlobals "len" = some none)
    (n1 : PySem.W.nsIn K mainGlobals "list" = some none)
    (n2 : PySem.W.nsIn K mainGlobals "sum" = some none)
    (n3 : PySem.W.nsIn K mainGlobals "max" = some none)
    (n4 : PySem.W.nsIn K mainGlobals "sorted" = some none)
    (t0 : PySem.W.nsIn K mainGlobals "NUMBERS_BEHIND" = some (some (.ref tb0)))
    (d0 : K.lookup tb0 = some ⟨.type "dict", none, .dict #[⟨0, .int 0 tk0_0, .int 0 tv0_0⟩, ⟨1, .int 1 tk0_1, .int 1 tv0_1⟩, ⟨2, .int 2 tk0_2, .int 1 tv0_2⟩, ⟨3, .int 3 tk0_3, .int 1 tv0_3⟩, ⟨4, .int 4 tk0_4, .int 2 tv0_4⟩, ⟨5, .int 5 tk0_5, .int 3 tv0_5⟩, ⟨6, .int 6 tk0_6, .int 3 tv0_6⟩, ⟨7, .int 7 tk0_7, .int 4 tv0_7⟩] ep0, #[]⟩) :
    ∃ fd : FuncData, (∀ (s : Shared) (us : List Value), us.length = (["calls"] : List Str).length → BindsTo s fd ⟨us, []⟩ ((["calls"] : List Str).zip us)) ∧ ∀ base : Heap, K.In base → base.Ns mainGlobals mg → FnOk P w K mg base CX0 9 fa fd ["calls"] (spAnswers K) := by
  have e := hfa.symm.trans (PySem.W.mg_of X G a25)
  cases e
  have T : Txt mg := ⟨⟨_, PySem.W.mg_of X G cn0⟩, ⟨_, PySem.W.mg_of X G cn1⟩, ⟨_, PySem.W.mg_of X G cn2⟩, ⟨_, PySem.W.mg_of X G cn3⟩, ⟨_, PySem.W.mg_of X G cn4⟩, ⟨_, PySem.W.mg_of X G cn5⟩, ⟨_, PySem.W.mg_of X G cn6⟩, ⟨_, PySem.W.mg_of X G cn7⟩, ⟨_, PySem.W.mg_of X G cn8⟩, ⟨_, PySem.W.mg_of X G cn9⟩, ⟨_, PySem.W.mg_of X G cn10⟩, ⟨_, PySem.W.mg_of X G cn11⟩, ⟨_, PySem.W.mg_of X G cn12⟩, ⟨_, PySem.W.mg_of X G cn13⟩, ⟨_, PySem.W.mg_of X G cn14⟩, ⟨_, PySem.W.mg_of X G cn15⟩, ⟨_, PySem.W.mg_of X G cn16⟩, ⟨_, PySem.W.mg_of X G cn17⟩, ⟨_, PySem.W.mg_of X G cn18⟩, ⟨_, PySem.W.mg_of X G cn19⟩, PySem.W.mg_none_of X G n0, PySem.W.mg_none_of X G n1, PySem.W.mg_none_of X G n2, PySem.W.mg_none_of X G n3, PySem.W.mg_none_of X G n4⟩
  have F0 := fun_mk (st := sHas) l0 c0 k0
  have F1 := fun_mk (st := sSup) l1 c1 k1
  have F2 := fun_mk (st := sClo) l2 c2 k2
  have F3 := fun_mk (st := sMany) l3 c3 k3
  have F4 := fun_mk (st := sPlace) l4 c4 k4
  have F5 := fun_mk (st := sTimes) l5 c5 k5
  have F6 := fun_mk (st := sBigs) l6 c6 k6
  have F7 := fun_mk (st := sOften) l7 c7 k7
  have F8 := fun_mk (st := sMost) l8 c8 k8
  have F9 := fun_mk (st := sKind) l9 c9 k9
  have F10 := fun_mk (st := sOrder) l10 c10 k10
  have F11 := fun_mk (st := sMake) l11 c11 k11
  have F12 := fun_mk (st := sAmong) l12 c12 k12
  have F13 := fun_mk (st := sBegin) l13 c13 k13
  have F14 := fun_mk (st := sBasket) l14 c14 k14
  have F15 := fun_mk (st := sSupport) l15 c15 k15
  have F16 := fun_mk (st := sClosure) l16 c16 k16
  have F17 := fun_mk (st := sWithin) l17 c17 k17
  have F18 := fun_mk (st := sAskSets) l18 c18 k18
  have F19 := fun_mk (st := sAskRules) l19 c19 k19
  have F20 := fun_mk (st := sSets) l20 c20 k20
  have F21 := fun_mk (st := sSet) l21 c21 k21
  have F22 := fun_mk (st := sRules) l22 c22 k22
  have F23 := fun_mk (st := sRule) l23 c23 k23
  have F24 := fun_mk (st := sCall) l24 c24 k24
  have F25 := fun_mk (st := sAnswers) l25 c25 k25
  have b0 := F0.binds (ps := ["basket", "wanted"]) fun _ _ _ _ _ _ us hl => match us, hl with | [_, _], _ => rfl
  have b1 := F1.binds (ps := ["baskets", "wanted"]) fun _ _ _ _ _ _ us hl => match us, hl with | [_, _], _ => rfl
  have b2 := F2.binds (ps := ["baskets", "wanted"]) fun _ _ _ _ _ _ us hl => match us, hl with | [_, _], _ => rfl
  have b3 := F3.binds (ps := ["things"]) fun _ _ _ _ _ _ us hl => match us, hl with | [_], _ => rfl
  have b4 := F4.binds (ps := ["things"]) fun _ _ _ _ _ _ us hl => match us, hl with | [_], _ => rfl
  have b5 := F5.binds (ps := ["baskets"]) fun _ _ _ _ _ _ us hl => match us, hl with | [_], _ => rfl
  have b6 := F6.binds (ps := ["baskets", "least"]) fun _ _ _ _ _ _ us hl => match us, hl with | [_, _], _ => rfl
  have b7 := F7.binds (ps := ["baskets", "least"]) fun _ _ _ _ _ _ us hl => match us, hl with | [_, _], _ => rfl
  have b8 := F8.binds (ps := ["supports", "singles", "things"]) fun _ _ _ _ _ _ us hl => match us, hl with | [_, _, _], _ => rfl
  have b9 := F9.binds (ps := ["supports", "least", "kind"]) fun _ _ _ _ _ _ us hl => match us, hl with | [_, _, _], _ => rfl
  have b10 := F10.binds (ps := ["found"]) fun _ _ _ _ _ _ us hl => match us, hl with | [_], _ => rfl
  have b11 := F11.binds (ps := ["supports", "both", "num", "den"]) fun _ _ _ _ _ _ us hl => match us, hl with | [_, _, _, _], _ => rfl
  have b12 := F12.binds (ps := ["supports", "num", "den"]) fun _ _ _ _ _ _ us hl => match us, hl with | [_, _, _], _ => rfl
  have b13 := F13.binds (ps := ["baskets"]) fun _ _ _ _ _ _ us hl => match us, hl with | [_], _ => rfl
  have b14 := F14.binds (ps := ["baskets", "things"]) fun _ _ _ _ _ _ us hl => match us, hl with | [_, _], _ => rfl
  have b15 := F15.binds (ps := ["baskets", "wanted"]) fun _ _ _ _ _ _ us hl => match us, hl with | [_, _], _ => rfl
  have b16 := F16.binds (ps := ["baskets", "wanted"]) fun _ _ _ _ _ _ us hl => match us, hl with | [_, _], _ => rfl
  have b17 := F17.binds (ps := ["number", "lowest", "highest"]) fun _ _ _ _ _ _ us hl => match us, hl with | [_, _, _], _ => rfl
  have b18 := F18.binds (ps := ["least", "kind"]) fun _ _ _ _ _ _ us hl => match us, hl with | [_, _], _ => rfl
  have b19 := F19.binds (ps := ["least", "num", "den"]) fun _ _ _ _ _ _ us hl => match us, hl with | [_, _, _], _ => rfl
  have b20 := F20.binds (ps := ["baskets", "least", "kind"]) fun _ _ _ _ _ _ us hl => match us, hl with | [_, _, _], _ => rfl
  have b21 := F21.binds (ps := ["baskets", "least", "kind", "k"]) fun _ _ _ _ _ _ us hl => match us, hl with | [_, _, _, _], _ => rfl
  have b22 := F22.binds (ps := ["baskets", "least", "num", "den"]) fun _ _ _ _ _ _ us hl => match us, hl with | [_, _, _, _], _ => rfl
  have b23 := F23.binds (ps := ["baskets", "least", "num", "den", "k"]) fun _ _ _ _ _ _ us hl => match us, hl with | [_, _, _, _, _], _ => rfl
  have b24 := F24.binds (ps := ["baskets", "call", "numbers"]) fun _ _ _ _ _ _ us hl => match us, hl with | [_, _, _], _ => rfl
  refine ⟨PySem.W.fnOf "answers" "answers" (defArgs sAnswers) (defBody sAnswers) (defScope sAnswers) .none kV25 dc25 pm25 an25 cd25 ct25, fun s us hu => match us, hu with | [_], _ => .of_eq rfl, fun base _ _ => ?_⟩
  have G0 : FnOk P w K mg base CX0 1 f0 _ ["basket", "wanted"] spHas := ok_has F0
  have G1 : FnOk P w K mg base CX0 2 f1 _ ["baskets", "wanted"] (spSup K) := ok_sup F1 (PySem.W.mg_of X G a0) F0 b0
  have G2 : FnOk P w K mg base CX0 2 f2 _ ["baskets", "wanted"] (spClo K) := ok_clo F2 T.all (PySem.W.mg_of X G a0) F0 b0
  have G3 : FnOk P w K mg base CX0 1 f3 _ ["things"] spMany := ok_many F3
  have G4 : FnOk P w K mg base CX0 2 f4 _ ["things"] spPlace := ok_place F4 (PySem.W.mg_of X G a3) k3 b3 G3
  have G5 : FnOk P w K mg base CX0 1 f5 _ ["baskets"] (spTimes K) := ok_times F5
  have G6 : FnOk P w K mg base CX0 3 f6 _ ["baskets", "least"] (spBigs K) := ok_bigs F6 T (PySem.W.mg_of X G a1) k1 b1 G1
  have G10 : FnOk P w K mg base CX0 5 f10 _ ["found"] (spOrder K) := ok_order F10 T (PySem.W.mg_of X G a4) b4 G4
  have G13 : FnOk P w K mg base CX0 1 f13 _ ["baskets"] spBegin := ok_begin F13
  have G14 : FnOk P w K mg base CX0 1 f14 _ ["baskets", "things"] (spOne 1) := ok_basket F14 T
  have G15 : FnOk P w K mg base CX0 3 f15 _ ["baskets", "wanted"] (spOne 2) := ok_support (fh := f0) (fdh := PySem.W.fnOf "has_all" "has_all" (defArgs sHas) (defBody sHas) (defScope sHas) .none kV0 dc0 pm0 an0 cd0 ct0) F15 (PySem.W.mg_of X G a1) F1 b1 G1
  have G16 : FnOk P w K mg base CX0 3 f16 _ ["baskets", "wanted"] (spOne 3) := ok_closure F16 (PySem.W.mg_of X G a2) F2 b2 G2
  have G17 : FnOk P w K mg base CX0 1 f17 _ ["number", "lowest", "highest"] spWithin := ok_within F17
  have G18 : FnOk P w K mg base CX0 2 f18 _ ["least", "kind"] spAskSets := ok_askSets F18 T ⟨f17, _, PySem.W.mg_of X G a17, k17, b17, G17⟩
  have G19 : FnOk P w K mg base CX0 2 f19 _ ["least", "num", "den"] spAskRules := ok_askRules F19 T ⟨f17, _, PySem.W.mg_of X G a17, k17, b17, G17⟩
  refine ok_answers F25 T (PySem.W.mg_of X G t0) (tab8 d0) (PySem.W.mg_of X G a24) k24 b24 (fun U hU hz => ?_)
  have G7 : FnOk P w K mg base CX0 4 f7 _ ["baskets", "least"] (spOften K U) := ok_often hz F7 T (PySem.W.mg_of X G a5) k5 b5 G5 (PySem.W.mg_of X G a6) k6 b6 G6
  have G8 : FnOk P w K mg base CX0 1 f8 _ ["supports", "singles", "things"] (spMost K U) := ok_most F8 T
  have G9 : FnOk P w K mg base CX0 2 f9 _ ["supports", "least", "kind"] (spKind K U) := ok_kind F9 T (PySem.W.mg_of X G a3) k3 b3 G3 (PySem.W.mg_of X G a8) k8 b8 G8
  have G11 : FnOk P w K mg base CX0 1 f11 _ ["supports", "both", "num", "den"] (spMake U) := ok_make F11
  have G12 : FnOk P w K mg base CX0 6 f12 _ ["supports", "num", "den"] (spAmong U) := ok_among F12 T (PySem.W.mg_of X G a10) k10 b10 G10 (PySem.W.mg_of X G a11) k11 b11 G11
  have G20 : FnOk P w K mg base CX0 5 f20 _ ["baskets", "least", "kind"] (spLook U 4 2) := ok_sets hU hz F20 T ⟨f18, _, PySem.W.mg_of X G a18, k18, b18, G18⟩ ⟨f7, _, PySem.W.mg_of X G a7, k7, b7, G7⟩ ⟨f9, _, PySem.W.mg_of X G a9, k9, b9, G9⟩
  have G21 : FnOk P w K mg base CX0 6 f21 _ ["baskets", "least", "kind", "k"] (spLook U 5 3) := ok_set hU hz F21 T ⟨f18, _, PySem.W.mg_of X G a18, k18, b18, G18⟩ ⟨f7, _, PySem.W.mg_of X G a7, k7, b7, G7⟩ ⟨f9, _, PySem.W.mg_of X G a9, k9, b9, G9⟩ ⟨f10, _, PySem.W.mg_of X G a10, k10, b10, G10⟩ ⟨f17, _, PySem.W.mg_of X G a17, k17, b17, G17⟩
  have G22 : FnOk P w K mg base CX0 7 f22 _ ["baskets", "least", "num", "den"] (spLook U 6 3) := ok_rules hU hz F22 T ⟨f19, _, PySem.W.mg_of X G a19, k19, b19, G19⟩ ⟨f7, _, PySem.W.mg_of X G a7, k7, b7, G7⟩ ⟨f12, _, PySem.W.mg_of X G a12, k12, b12, G12⟩
  have G23 : FnOk P w K mg base CX0 7 f23 _ ["baskets", "least", "num", "den", "k"] (spLook U 7 4) := ok_rule hU hz F23 T ⟨f19, _, PySem.W.mg_of X G a19, k19, b19, G19⟩ ⟨f7, _, PySem.W.mg_of X G a7, k7, b7, G7⟩ ⟨f12, _, PySem.W.mg_of X G a12, k12, b12, G12⟩ ⟨f17, _, PySem.W.mg_of X G a17, k17, b17, G17⟩
  exact ok_call F24 T ⟨f13, _, PySem.W.mg_of X G a13, k13, b13, G13⟩ ⟨f14, _, PySem.W.mg_of X G a14, k14, b14, G14⟩ ⟨f15, _, PySem.W.mg_of X G a15, k15, b15, G15⟩ ⟨f16, _, PySem.W.mg_of X G a16, k16, b16, G16⟩ ⟨f20, _, PySem.W.mg_of X G a20, k20, b20, G20⟩ ⟨f21, _, PySem.W.mg_of X G a21, k21, b21, G21⟩ ⟨f22, _, PySem.W.mg_of X G a22, k22, b22, G22⟩ ⟨f23, _, PySem.W.mg_of X G a23, k23, b23, G23⟩
end Dsk
open PySem PySem.W PyProof.Rows
set_option maxRecDepth 100000 in
set_option maxHeartbeats 0 in
theorem PySem.Challenge.cw_oftentogetherdesk_s01_answers_holds : PySem.Challenge.rw_oftentogetherdesk_s01_answers.Holds := by
  w_on; k_headS; (case hw => exact ⟨[.list [.int 0]], by decide +kernel, by decide +kernel⟩)
  k_fillS
  refine L2.walk_specK (r := PySem.Challenge.rw_oftentogetherdesk_s01_answers) (k := 9) (CX := L2.CX0) (ps := ["calls"]) (sp := Dsk.spAnswers) (by decide +kernel) rfl rfl ⟨rfl, by decide, by decide⟩ (fun w h Y => PySem.W.kIn_of Y) ?F ?S (fun _ _ _ _ z => z)
  case F =>
    intro w mg fa h Y KX G hmg
    refine' Dsk.all_mk KX G hmg ?a0 ?l0 ?c0 ?k0 ?a1 ?l1 ?c1 ?k1 ?a2 ?l2 ?c2 ?k2 ?a3 ?l3 ?c3 ?k3 ?a4 ?l4 ?c4 ?k4 ?a5 ?l5 ?c5 ?k5 ?a6 ?l6 ?c6 ?k6 ?a7 ?l7 ?c7 ?k7 ?a8 ?l8 ?c8 ?k8 ?a9 ?l9 ?c9 ?k9 ?a10 ?l10 ?c10 ?k10 ?a11 ?l11 ?c11 ?k11 ?a12 ?l12 ?c12 ?k12 ?a13 ?l13 ?c13 ?k13 ?a14 ?l14 ?c14 ?k14 ?a15 ?l15 ?c15 ?k15 ?a16 ?l16 ?c16 ?k16 ?a17 ?l17 ?c17 ?k17 ?a18 ?l18 ?c18 ?k18 ?a19 ?l19 ?c19 ?k19 ?a20 ?l20 ?c20 ?k20 ?a21 ?l21 ?c21 ?k21 ?a22 ?l22 ?c22 ?k22 ?a23 ?l23 ?c23 ?k23 ?a24 ?l24 ?c24 ?k24 ?a25 ?l25 ?c25 ?k25 ?cn0 ?cn1 ?cn2 ?cn3 ?cn4 ?cn5 ?cn6 ?cn7 ?cn8 ?cn9 ?cn10 ?cn11 ?cn12 ?cn13 ?cn14 ?cn15 ?cn16 ?cn17 ?cn18 ?cn19 ?n0 ?n1 ?n2 ?n3 ?n4 ?t0 ?d0
    (case a0 => k_is)
    (case l0 => k_is)
    (case c0 => k_is)
    (case k0 => k_is)
    (case a1 => k_is)
    (case l1 => k_is)
    (case c1 => k_is)
    (case k1 => k_is)
    (case a2 => k_is)
    (case l2 => k_is)
    (case c2 => k_is)
    (case k2 => k_is)
    (case a3 => k_is)
    (case l3 => k_is)
    (case c3 => k_is)
    (case k3 => k_is)
    (case a4 => k_is)
    (case l4 => k_is)
    (case c4 => k_is)
    (case k4 => k_is)
    (case a5 => k_is)
    (case l5 => k_is)
    (case c5 => k_is)
    (case k5 => k_is)
    (case a6 => k_is)
    (case l6 => k_is)
    (case c6 => k_is)
    (case k6 => k_is)
    (case a7 => k_is)
    (case l7 => k_is)
    (case c7 => k_is)
    (case k7 => k_is)
    (case a8 => k_is)
    (case l8 => k_is)
    (case c8 => k_is)
    (case k8 => k_is)
    (case a9 => k_is)
    (case l9 => k_is)
    (case c9 => k_is)
    (case k9 => k_is)
    (case a10 => k_is)
    (case l10 => k_is)
    (case c10 => k_is)
    (case k10 => k_is)
    (case a11 => k_is)
    (case l11 => k_is)
    (case c11 => k_is)
    (case k11 => k_is)
    (case a12 => k_is)
    (case l12 => k_is)
    (case c12 => k_is)
    (case k12 => k_is)
    (case a13 => k_is)
    (case l13 => k_is)
    (case c13 => k_is)
    (case k13 => k_is)
    (case a14 => k_is)
    (case l14 => k_is)
    (case c14 => k_is)
    (case k14 => k_is)
    (case a15 => k_is)
    (case l15 => k_is)
    (case c15 => k_is)
    (case k15 => k_is)
    (case a16 => k_is)
    (case l16 => k_is)
    (case c16 => k_is)
    (case k16 => k_is)
    (case a17 => k_is)
    (case l17 => k_is)
    (case c17 => k_is)
    (case k17 => k_is)
    (case a18 => k_is)
    (case l18 => k_is)
    (case c18 => k_is)
    (case k18 => k_is)
    (case a19 => k_is)
    (case l19 => k_is)
    (case c19 => k_is)
    (case k19 => k_is)
    (case a20 => k_is)
    (case l20 => k_is)
    (case c20 => k_is)
    (case k20 => k_is)
    (case a21 => k_is)
    (case l21 => k_is)
    (case c21 => k_is)
    (case k21 => k_is)
    (case a22 => k_is)
    (case l22 => k_is)
    (case c22 => k_is)
    (case k22 => k_is)
    (case a23 => k_is)
    (case l23 => k_is)
    (case c23 => k_is)
    (case k23 => k_is)
    (case a24 => k_is)
    (case l24 => k_is)
    (case c24 => k_is)
    (case k24 => k_is)
    (case a25 => k_is)
    (case l25 => k_is)
    (case c25 => k_is)
    (case k25 => k_is)
    (case cn0 => k_is)
    (case cn1 => k_is)
    (case cn2 => k_is)
    (case cn3 => k_is)
    (case cn4 => k_is)
    (case cn5 => k_is)
    (case cn6 => k_is)
    (case cn7 => k_is)
    (case cn8 => k_is)
    (case cn9 => k_is)
    (case cn10 => k_is)
    (case cn11 => k_is)
    (case cn12 => k_is)
    (case cn13 => k_is)
    (case cn14 => k_is)
    (case cn15 => k_is)
    (case cn16 => k_is)
    (case cn17 => k_is)
    (case cn18 => k_is)
    (case cn19 => k_is)
    (case n0 => k_is)
    (case n1 => k_is)
    (case n2 => k_is)
    (case n3 => k_is)
    (case n4 => k_is)
    (case t0 => k_is)
    (case d0 => k_is)
  case S =>
    intro K H xs a hO hwi hask hx
    cases hx with
    | cons h1 h2 =>
      cases h2
      cases h1 with
      | lst hs ha =>
        have e := L2.ints_dw a.1 _ ha
        subst e
        exact ⟨_, a.1, rfl, hs, hask, fun H' p hp => .lst (L2.SqL.of hp) (L2.dw_ints _)⟩
