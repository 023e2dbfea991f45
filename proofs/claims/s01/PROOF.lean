import PyProof.Rows.All
import Wide.All
import OpenK.AllK
import Wide.FinOn
import PyProof.EqAt
import PyProof.EqKinds
import PyProof.TupleCall
import KE.BitLaws
import Open.SpecLaws
import KE.OsHead
import KE.OsGo
import KE.KDictSum
import PyProof.Rows.SortShellAny
import PySi23
import KE.KSortedM
import PySem.Challenge.RW_singlemail_s01_answers
-- CHANGE: your row's module here, as the last of these rows
set_option Elab.async false
set_option linter.all false
set_option maxRecDepth 100000
namespace L2
open PySem PySem.Spec PyProof.Rows
/-- a key: an int or a str -/
abbrev Key := Sum Int Str
def keyIs : Key → Value → Bool
  | .inl k, v => Value.isInt k v
  | .inr x, v => Value.isStrOf x v
def keyH (w : World) : Key → Int
  | .inl k => hashInt k
  | .inr x => hashStr w x
theorem keyIs_shape : ∀ {k : Key} {v : Value}, keyIs k v = true → (∃ i t, k = Sum.inl i ∧ v = Value.int i t) ∨ (∃ x t, k = Sum.inr x ∧ v = Value.str x t)
  | .inl i, v, h => by
    obtain ⟨t, e⟩ := Value.isInt_shape (k := i) (v := v) h
    exact .inl ⟨i, t, rfl, e⟩
  | .inr x, v, h => by
    obtain ⟨t, e⟩ := Value.isStrOf_shape (x := x) (v := v) h
    exact .inr ⟨x, t, rfl, e⟩
theorem keyIs_int (i : Int) (t : Tok) : keyIs (.inl i) (.int i t) = true := by simp [keyIs, Value.isInt]
theorem keyIs_str (x : Str) (t : Tok) : keyIs (.inr x) (.str x t) = true := by simp [keyIs, Value.isStrOf]
theorem key_ll (a b : Int) : decide ((Sum.inl a : Key) = Sum.inl b) = (a == b) := by
  by_cases e : a = b
  · subst e; simp
  · have h : ¬ (Sum.inl a : Key) = Sum.inl b := fun q => e (Sum.inl.inj q)
    rw [decide_eq_false h]
    exact (beq_eq_false_iff_ne.mpr e).symm
theorem key_rr (a b : Str) : decide ((Sum.inr a : Key) = Sum.inr b) = decide (a = b) := by
  by_cases e : a = b
  · subst e; simp
  · have h : ¬ (Sum.inr a : Key) = Sum.inr b := fun q => e (Sum.inr.inj q)
    rw [decide_eq_false h, decide_eq_false e]
theorem key_lr (a : Int) (b : Str) : decide ((Sum.inl a : Key) = Sum.inr b) = false := decide_eq_false (fun q => nomatch q)
theorem key_rl (a : Str) (b : Int) : decide ((Sum.inr a : Key) = Sum.inl b) = false := decide_eq_false (fun q => nomatch q)
def mixKind (prog : Program) (w : World) : PySem.KeyKind prog w Key where
  is := keyIs
  hash := keyH w
  inj := fun v a b ha hb => by
    rcases keyIs_shape ha with ⟨i, t, rfl, rfl⟩ | ⟨x, t, rfl, rfl⟩
    · rcases keyIs_shape hb with ⟨j, u, rfl, e⟩ | ⟨y, u, rfl, e⟩
      · injection e with e1 _; rw [e1]
      · exact nomatch e
    · rcases keyIs_shape hb with ⟨j, u, rfl, e⟩ | ⟨y, u, rfl, e⟩
      · exact nomatch e
      · injection e with e1 _; rw [e1]
  byValue := fun k v h => by
    rcases keyIs_shape h with ⟨i, t, rfl, rfl⟩ | ⟨x, t, rfl, rfl⟩ <;> rfl
  pyHash := fun hv h => by
    rcases keyIs_shape hv with ⟨i, t, rfl, rfl⟩ | ⟨x, t, rfl, rfl⟩
    · exact wpAny_pyHash_int h
    · exact wpAny_pyHash_str h
  eqBool := fun hu hv h => by
    rcases keyIs_shape hu with ⟨i, t, rfl, rfl⟩ | ⟨x, t, rfl, rfl⟩
    · rcases keyIs_shape hv with ⟨j, u, rfl, rfl⟩ | ⟨y, u, rfl, rfl⟩
      · rw [key_ll] at h; exact wpAny_eqBool_int h
      · rw [key_lr] at h; exact SeqAt.EqAt.int_str i t y u _ _ _ _ h
    · rcases keyIs_shape hv with ⟨j, u, rfl, rfl⟩ | ⟨y, u, rfl, rfl⟩
      · rw [key_rl] at h; exact SeqAt.EqAt.str_int x t j u _ _ _ _ h
      · rw [key_rr] at h; exact wpAny_eqBool_str h
  «strs» := fun k x t v h => by
    rcases keyIs_shape h with ⟨i, u, rfl, e⟩ | ⟨y, u, rfl, e⟩
    · exact nomatch e
    · injection e with e1 _
      subst e1
      cases v <;> rfl
theorem mixKind_int (prog : Program) (w : World) (i : Int) (t : Tok) : (mixKind prog w).is (.inl i) (.int i t) = true := keyIs_int i t
theorem mixKind_str (prog : Program) (w : World) (x : Str) (t : Tok) : (mixKind prog w).is (.inr x) (.str x t) = true := keyIs_str x t
end L2
namespace L2
open PySem PySem.Spec PyProof.Rows
/-- a value, without the heap -/
inductive V where
  | non | bl (b : Bool) | int (i : Int) | str (x : Str) | byt (b : Array UInt8) | flt (b : UInt64) | ref (a : Addr) | ty (n : String)
  deriving DecidableEq
def RelV : V → Value → Prop
  | .non, u => u = Value.none
  | .bl b, u => u = Value.bool b
  | .int i, u => ∃ t, u = Value.int i t
  | .str x, u => ∃ t, u = Value.str x t
  | .byt b, u => ∃ t, u = Value.bytes b t
  | .flt b, u => ∃ t, u = Value.float b t
  | .ref a, u => u = Value.ref a
  | .ty n, u => u = Value.type n
abbrev Vals : List V → List Value → Prop := Paired RelV
theorem Vals.length {xs : List V} {us : List Value} (r : Vals xs us) : xs.length = us.length := Paired.length r
theorem Vals.get : ∀ {xs : List V} {us : List Value} {i : Nat} {x : V}, Vals xs us → xs[i]? = some x → ∃ u, us[i]? = some u ∧ RelV x u
  | _, _, _, _, .nil, e => by simp at e
  | _, _, 0, _, .cons r _, e => by simp at e; subst e; exact ⟨_, rfl, r⟩
  | _, _, i + 1, x, .cons _ t, e => by
    obtain ⟨u, h1, h2⟩ := Vals.get (i := i) (x := x) t (by simpa using e)
    exact ⟨u, by simpa using h1, h2⟩
theorem Vals.append : ∀ {xs ys : List V} {us ws : List Value}, Vals xs us → Vals ys ws → Vals (xs ++ ys) (us ++ ws)
  | _, _, _, _, .nil, s => s
  | _, _, _, _, .cons r t, s => .cons r (Vals.append t s)
theorem Vals.take : ∀ {xs : List V} {us : List Value} (n : Nat), Vals xs us → Vals (xs.take n) (us.take n)
  | _, _, 0, _ => .nil
  | _, _, _ + 1, .nil => .nil
  | _, _, n + 1, .cons r t => .cons r (Vals.take n t)
theorem Vals.drop : ∀ {xs : List V} {us : List Value} (n : Nat), Vals xs us → Vals (xs.drop n) (us.drop n)
  | _, _, 0, r => r
  | _, _, _ + 1, .nil => .nil
  | _, _, n + 1, .cons _ t => Vals.drop n t
def RelO : Option V → Option Value → Prop
  | some v, some u => RelV v u
  | none, none => True
  | _, _ => False
def KV {κ : Type} : List (κ × V) → List (κ × Value) → Prop := Paired fun (p : κ × V) (q : κ × Value) => p.1 = q.1 ∧ RelV p.2 q.2
/-- a key of a dict (00_mix): an int or a text -/
def kV : Key → V
  | .inl i => .int i
  | .inr x => .str x
/-- what stands at a tracked address -/
inductive HO where
  /-- a list -/
  | lst (xs : List V)
  /-- a tuple (never changes) -/
  | tup (xs : List V)
  /-- a dict whose keys are ints and texts; one whose keys are tuples of ints and texts (the empty one is both) -/
  | dK (kvs : List (Key × V)) | dT (kvs : List (List Key × V))
  /-- a set of ints: its members, its size -/
  | set (S : Int → Bool) (n : Nat)
  /-- an instance of the class at C, its dict at dx, its attributes -/
  | ins (C dx : Addr) (fs : List (Str × V))
  /-- the dict of the instance at x -/
  | own (x : Addr)
  /-- the dict of an exception -/
  | xd (fs : List (Str × V))
  /-- a bound method, f of x -/
  | met (f x : Addr)
  /-- a range object lo, lo + 1, .. below hi -/
  | rng (lo hi : Int)
  /-- a thing that is known to the object (the script; a dict while a loop walks it): read, never written while it is so -/
  | frz (o : Obj) (u : HO)
  /-- a code object's table -/
  | tbl (ps : Array Value)
  /-- any other thing, by what is true of its one object (a def of one's own: SetO a S n := HO.ext fun h => ..) -/
  | ext (φ : Heap → Prop)
abbrev Hp := Addr → Option HO
def upd (H : Hp) (a : Addr) (o : HO) : Hp := fun b => if b = a then some o else H b
theorem upd_same {H : Hp} {a : Addr} {o : HO} : upd H a o a = some o := by unfold upd; rw [if_pos rfl]
theorem upd_ne {H : Hp} {a b : Addr} {o : HO} (h : b ≠ a) : upd H a o b = H b := by unfold upd; rw [if_neg h]
theorem upd_upd {H : Hp} {a : Addr} {o u : HO} : upd (upd H a o) a u = upd H a u := by
  funext b; unfold upd; split <;> rfl
/-- two objects of different content stand apart -/
theorem ne_of {H : Hp} {a b : Addr} {o u : HO} (h : H a = some o) (h' : H b = some u) (d : o ≠ u) : a ≠ b := by
  intro e; subst e; rw [h] at h'; exact d (Option.some.inj h')
theorem ne_of_none {H : Hp} {a b : Addr} {o : HO} (h : H a = some o) (h' : H b = none) : a ≠ b := by
  intro e; subst e; rw [h] at h'; cases h'
section
variable (P : Program) (w : World)
def ObjOk (H : Hp) (h : Heap) (a : Addr) : HO → Prop
  | .lst xs => xs.length ≤ sizeLine ∧ ∃ (its : List Value) (n : Nat), Vals xs its ∧ h.get? a = some { cls := .type "list", data := .seq its.toArray n }
  | .tup xs => xs.length ≤ sizeLine ∧ ∃ its : List Value, Vals xs its ∧ IsTup h a its.toArray
  | .dK kvs => kvs.length ≤ sizeLine ∧ (a == sysModules) = false ∧ ∃ vs, KV kvs vs ∧ h.DictOf (mixKind P w) a vs
  | .dT kvs => kvs.length ≤ sizeLine ∧ (a == sysModules) = false ∧ ∃ xs : List (List Key × Addr × Value),
      Paired (fun (p : List Key × V) (q : List Key × Addr × Value) => p.1 = q.1 ∧ H q.2.1 = some (.tup (p.1.map kV)) ∧ RelV p.2 q.2.2) kvs xs ∧
      ∃ o es ep, h.get? a = some o ∧ o.ExactDict ∧ o.data = .dict es ep ∧ es.toList = xs.map (entryOfKey (tupleKind (mixKind P w))) ∧ (xs.map (·.1)).Nodup
  | .set S n => h.SetOf (intKind P w) a S n
  | .ins C dx fs => H dx = some (.own a) ∧ fs.length ≤ 1000 ∧ dx ≠ a ∧ h.get? a = some (PySem.W.instObj C dx) ∧
      ∃ mA, h.Ns1 dx mA ∧ (∀ f, RelO (fs.lookup f) (mA f)) ∧ PySem.Within mA (fs.map (·.1))
  | .own _ => ∃ o, h.get? a = some o
  | .xd fs => ∃ mA, h.Ns1 a mA ∧ ∀ f, RelO (fs.lookup f) (mA f)
  | .rng lo hi => ∃ t u v, h.get? a = some { cls := .type "range", data := .fields #[.int lo t, .int hi u, .int 1 v] }
  | .frz o u => h.get? a = some o ∧ ObjOk H h a u
  | .tbl ps => h.get? a = some { cls := .none, data := .fields ps }
  | .met f x => h.get? a = some (PySem.W.methodObj (.ref f) (.ref x))
  | .ext φ => φ h ∧ (∃ o, h.get? a = some o) ∧ ∀ h1 h2 : Heap, φ h1 → (∀ o, h1.get? a = some o → h2.get? a = some o) → φ h2
/-- the abstract heap is held -/
def HOk (H : Hp) (h : Heap) : Prop := ∀ a o, H a = some o → ObjOk P w H h a o
end
section
variable {P : Program} {w : World} {H H' : Hp} {h h' : Heap} {a : Addr} {o : HO}
theorem ObjOk.lt (x : ObjOk P w H h a o) : a < h.objs.size := by
  cases o with
  | lst xs => obtain ⟨_, _, _, _, e⟩ := x; exact Heap.lt_size e
  | tup xs => obtain ⟨_, _, _, p⟩ := x; exact p.lt
  | dK kvs => obtain ⟨_, _, _, _, o, _, _, e, _⟩ := x; exact Heap.lt_size e
  | dT kvs => obtain ⟨_, _, _, _, o, _, _, e, _⟩ := x; exact Heap.lt_size e
  | set S n => obtain ⟨o, _, _, _, e, _⟩ := x; exact Heap.lt_size e
  | ins C dx fs => obtain ⟨_, _, _, e, _⟩ := x; exact Heap.lt_size e
  | own y => obtain ⟨_, e⟩ := x; exact Heap.lt_size e
  | xd fs => obtain ⟨_, ⟨_, _, _, e, _⟩, _⟩ := x; exact Heap.lt_size e
  | rng lo hi => obtain ⟨_, _, _, e⟩ := x; exact Heap.lt_size e
  | frz ob u => obtain ⟨e, _⟩ := x; exact Heap.lt_size e
  | tbl ps => exact Heap.lt_size (show h.get? a = some _ from x)
  | met f y => exact Heap.lt_size (show h.get? a = some _ from x)
  | ext φ => obtain ⟨_, ⟨_, e⟩, _⟩ := x; exact Heap.lt_size e
theorem Paired.mapP {α β : Type} {F G : α → β → Prop} : ∀ {l₁ : List α} {l₂ : List β}, Paired F l₁ l₂ → (∀ a b, F a b → G a b) → Paired G l₁ l₂
  | _, _, .nil, _ => .nil
  | _, _, .cons r t, f => .cons (f _ _ r) (Paired.mapP t f)
/-- what an object's description leans on: its own object, its own dict, the tuples -/
theorem ObjOk.stay (x : ObjOk P w H h a o) (k : ∀ b u, (b = a ∨ H b = some (.own a)) → h.get? b = some u → h'.get? b = some u)
    (ho : ∀ b, H b = some (.own a) → H' b = some (.own a)) (ht : ∀ b xs, H b = some (.tup xs) → H' b = some (.tup xs)) : ObjOk P w H' h' a o := by
  induction o with
  | lst xs => obtain ⟨z, its, n, r, e⟩ := x; exact ⟨z, its, n, r, k _ _ (.inl rfl) e⟩
  | tup xs => obtain ⟨z, its, r, ob, e, c⟩ := x; exact ⟨z, its, r, ob, k _ _ (.inl rfl) e, c⟩
  | dK kvs => obtain ⟨z, y, vs, r, ob, es, ep, e, c⟩ := x; exact ⟨z, y, vs, r, ob, es, ep, k _ _ (.inl rfl) e, c⟩
  | dT kvs =>
    obtain ⟨z, y, xs, r, ob, es, ep, e, c⟩ := x
    exact ⟨z, y, xs, Paired.mapP r fun p q z => ⟨z.1, ht _ _ z.2.1, z.2.2⟩, ob, es, ep, k _ _ (.inl rfl) e, c⟩
  | set S n => obtain ⟨ob, es, ep, t, e, c⟩ := x; exact ⟨ob, es, ep, t, k _ _ (.inl rfl) e, c⟩
  | ins C dx fs =>
    obtain ⟨d, z, ne, e, mA, ⟨od, es, ep, e2, c⟩, r⟩ := x
    exact ⟨ho _ d, z, ne, k _ _ (.inl rfl) e, mA, ⟨od, es, ep, k _ _ (.inr d) e2, c⟩, r⟩
  | own y => obtain ⟨ob, e⟩ := x; exact ⟨ob, k _ _ (.inl rfl) e⟩
  | xd fs => obtain ⟨mA, ⟨od, es, ep, e, c⟩, r⟩ := x; exact ⟨mA, ⟨od, es, ep, k _ _ (.inl rfl) e, c⟩, r⟩
  | rng lo hi => obtain ⟨t, u, v, e⟩ := x; exact ⟨t, u, v, k _ _ (.inl rfl) e⟩
  | frz ob u ih => obtain ⟨e, q⟩ := x; exact ⟨k _ _ (.inl rfl) e, ih q⟩
  | tbl ps =>
    have e : h.get? a = some { cls := .none, data := .fields ps } := x
    show h'.get? a = some { cls := .none, data := .fields ps }
    exact k a _ (.inl rfl) e
  | met f y =>
    have e : h.get? a = some (PySem.W.methodObj (.ref f) (.ref y)) := x
    show h'.get? a = some (PySem.W.methodObj (.ref f) (.ref y))
    exact k a _ (.inl rfl) e
  | ext φ => obtain ⟨p, ⟨o, e⟩, st⟩ := x; exact ⟨st _ _ p fun o q => k _ _ (.inl rfl) q, ⟨o, k _ _ (.inl rfl) e⟩, st⟩
theorem HOk.lt (x : HOk P w H h) (e : H a = some o) : a < h.objs.size := (x a o e).lt
theorem HOk.fresh (x : HOk P w H h) (e : h.objs.size ≤ a) : H a = none := by
  cases q : H a with
  | none => rfl
  | some u => exact absurd (Nat.lt_of_lt_of_le (x.lt q) e) (Nat.lt_irrefl _)
/-- every object of the heap is kept -/
theorem HOk.kept (x : HOk P w H h) (k : ∀ b u, h.get? b = some u → h'.get? b = some u) : HOk P w H h' := fun a o e =>
  (x a o e).stay (fun b u _ q => k b u q) (fun _ q => q) fun _ _ q => q
/-- a new object is laid and tracked -/
theorem HOk.laid (x : HOk P w H h) (k : ∀ b u, h.get? b = some u → h'.get? b = some u) (hp : h.objs.size ≤ a) (new : ObjOk P w (upd H a o) h' a o) : HOk P w (upd H a o) h' := fun b u e => by
  have hn := x.fresh hp
  by_cases hb : b = a
  · subst hb; rw [upd_same] at e; cases e; exact new
  · rw [upd_ne hb] at e
    exact (x b u e).stay (fun c v _ q => k c v q) (fun c q => by rw [upd_ne (ne_of_none q hn)]; exact q) fun c xs q => by rw [upd_ne (ne_of_none q hn)]; exact q
end
/-- what may be read as u: it is u, or a known u -/
def Rd (H : Hp) (a : Addr) (u : HO) : Prop := H a = some u ∨ ∃ o, H a = some (.frz o u)
theorem Rd.ok {P : Program} {w : World} {H : Hp} {h : Heap} {a : Addr} {u : HO} (r : Rd H a u) (x : HOk P w H h) : ObjOk P w H h a u := by
  rcases r with r | ⟨o, r⟩
  · exact x a u r
  · obtain ⟨_, q⟩ := x a _ r
    exact q
/-- what may be written -/
def Mut : Option HO → Prop
  | some (.lst _) => True
  | some (.dK _) => True
  | some (.dT _) => True
  | some (.set _ _) => True
  | some (.ins _ _ _) => True
  | some (.ext _) => True
  | _ => False
section
variable {P : Program} {w : World} {H : Hp} {h h' : Heap} {x e : Addr} {o' : HO}
/-- the object at e is changed: x itself, or the dict of the instance x -/
theorem HOk.write (ok : HOk P w H h) (mu : Mut (H x)) (he : e = x ∨ H e = some (.own x)) (k : ∀ b u, b ≠ e → h.get? b = some u → h'.get? b = some u) (heo : ∃ u, h'.get? e = some u)
    (new : ObjOk P w (upd H x o') h' x o') : HOk P w (upd H x o') h' := fun b u q => by
  have nown : ∀ c y, H c = some (.own y) → c ≠ x := fun c y r z => by subst z; rw [r] at mu; exact mu
  have ntup : ∀ c xs, H c = some (.tup xs) → c ≠ x := fun c xs r z => by subst z; rw [r] at mu; exact mu
  by_cases hb : b = x
  · subst hb; rw [upd_same] at q; cases q; exact new
  · rw [upd_ne hb] at q
    by_cases hbe : b = e
    · have q' : H b = some (.own x) := by
        rcases he with z | z
        · exact absurd (hbe.trans z) hb
        · rw [hbe]; exact z
      rw [q] at q'; cases q'
      obtain ⟨v, hv⟩ := heo
      exact ⟨v, by rw [hbe]; exact hv⟩
    · refine (ok b u q).stay (fun c v hc r => k c v ?_ r) (fun c r => by rw [upd_ne (nown c b r)]; exact r) fun c xs r => by rw [upd_ne (ntup c xs r)]; exact r
      rcases hc with rfl | hc
      · exact hbe
      · rintro rfl
        rcases he with z | z
        · exact nown c b hc z
        · rw [hc] at z; cases z; exact hb rfl
end
structure Un (fs ex : List Addr) (H H' : Hp) (h h' : Heap) : Prop where
  keep : ∀ b o, h.get? b = some o → H b = none → b ∉ fs → b ∉ ex → h'.get? b = some o
  slot : ∀ b o, h.get? b = some o → H b = none → b ∈ fs → b ∉ ex → ∃ sl, h'.get? b = some { o with slots := sl }
  free : ∀ b o, h.get? b = some o → H b = none → b ∉ ex → H' b = none
  there : ∀ b o, h.get? b = some o → b ∉ ex → ∃ o', h'.get? b = some o'
  tups : ∀ b xs, H b = some (.tup xs) → H' b = some (.tup xs)
  frzs : ∀ b o u, H b = some (.frz o u) → H' b = some (.frz o u)
  tbls : ∀ b ps, H b = some (.tbl ps) → ∃ more, H' b = some (.tbl (ps ++ more))
section
variable {fs fs' ex ex' : List Addr} {H H1 H2 : Hp} {h h1 h2 h' : Heap} {a x e : Addr} {o : HO}
theorem Un.any (u : Un fs ex H H1 h h1) {b : Addr} {ob : Obj} (q : h.get? b = some ob) (n : H b = none) (hx : b ∉ ex) : ∃ sl, h1.get? b = some { ob with slots := sl } := by
  by_cases hb : b ∈ fs
  · exact u.slot b ob q n hb hx
  · exact ⟨ob.slots, u.keep b ob q n hb hx⟩
theorem Un.kept (k : ∀ b u, h.get? b = some u → h'.get? b = some u) : Un fs ex H H h h' :=
  ⟨fun b ob q _ _ _ => k b ob q, fun b ob q _ _ _ => ⟨ob.slots, k b ob q⟩, fun _ _ _ n _ => n, fun b ob q _ => ⟨ob, k b ob q⟩, fun _ _ q => q, fun _ _ _ q => q, fun _ ps q => ⟨#[], by rw [q]; simp⟩⟩
theorem Un.refl : Un fs ex H H h h := Un.kept fun _ _ q => q
theorem Un.laid (k : ∀ b u, h.get? b = some u → h'.get? b = some u) (hp : h.objs.size ≤ a) (hn : H a = none) : Un fs ex H (upd H a o) h h' where
  keep := fun b u q _ _ _ => k b u q
  slot := fun b u q _ _ _ => ⟨u.slots, k b u q⟩
  free := fun b u q n _ => by rw [upd_ne (Nat.ne_of_lt (Nat.lt_of_lt_of_le (Heap.lt_size q) hp))]; exact n
  there := fun b u q _ => ⟨u, k b u q⟩
  tups := fun b xs q => by rw [upd_ne (ne_of_none q hn)]; exact q
  frzs := fun b u xs q => by rw [upd_ne (ne_of_none q hn)]; exact q
  tbls := fun b ps q => ⟨#[], by rw [upd_ne (ne_of_none q hn), q]; simp⟩
theorem Un.write (mu : Mut (H x)) (he : e = x ∨ H e = some (.own x)) (k : ∀ b u, b ≠ e → h.get? b = some u → h'.get? b = some u) (heo : ∃ u, h'.get? e = some u) : Un fs ex H (upd H x o) h h' := by
  have hx : ∀ b, H b = none → b ≠ x := fun b n z => by subst z; rw [n] at mu; exact mu
  have hb : ∀ b, H b = none → b ≠ e := fun b n z => by
    subst z
    rcases he with r | r
    · exact hx b n r
    · rw [n] at r; cases r
  have hm : ∀ b u, H b = some u → ¬ Mut (some u) → b ≠ x := fun b u q nm z => by subst z; rw [q] at mu; exact nm mu
  refine ⟨fun b u q n _ _ => k b u (hb b n) q, fun b u q n _ _ => ⟨u.slots, k b u (hb b n) q⟩, fun b u q n _ => by rw [upd_ne (hx b n)]; exact n, fun b u q _ => ?_,
    fun b xs q => by rw [upd_ne (hm b _ q fun z => z)]; exact q, fun b u xs q => by rw [upd_ne (hm b _ q fun z => z)]; exact q, fun b ps q => ⟨#[], by rw [upd_ne (hm b _ q fun z => z), q]; simp⟩⟩
  by_cases hbe : b = e
  · subst hbe; exact heo
  · exact ⟨u, k b u hbe q⟩
end
def trk (h : Heap) (H : Hp) : List Addr := (List.range h.objs.size).filter fun a => (H a).isSome
def hidT (h : Heap) (H : Hp) : Heap := PySem.W.hideAll h (trk h H)
theorem hidT_size (h : Heap) (H : Hp) : (hidT h H).objs.size = h.objs.size := PySem.W.hideAll_size _ _
theorem hidT_get {h : Heap} {H : Hp} {b : Addr} {o : Obj} (e : h.get? b = some o) (n : H b = none) : (hidT h H).get? b = some o :=
  PySem.W.hideAll_get _ e fun hm => by
    have q : (H b).isSome = true := (List.mem_filter.mp hm).2
    rw [n] at q; simp at q
theorem of_hidT {h : Heap} {H : Hp} {b : Addr} {o : Obj} (e : (hidT h H).get? b = some o) : h.get? b = some o ∧ H b = none := by
  have e' : h.get? b = some o := PySem.W.of_hideAll (trk h H) e
  refine ⟨e', ?_⟩
  cases q : H b with
  | none => rfl
  | some x =>
    have hm : b ∈ trk h H := List.mem_filter.mpr ⟨List.mem_range.mpr (Heap.lt_size e'), by simp [q]⟩
    have z : (hidT h H).get? b = none := PySem.W.hideAll_none (trk h H) hm
    rw [z] at e; cases e
def allNews (g h : Heap) (L : Addr) : List (Addr × Obj) := (List.range h.objs.size).filterMap fun a => if a = L ∨ (g.get? a).isSome = true then none else (h.get? a).map fun o => (a, o)
def rest (g h : Heap) (L d : Addr) : List (Addr × Obj) := (allNews g h L).filter fun p => decide (p.1 ≠ d)
end L2
namespace L2
open PySem PySem.Spec PyProof.Rows
/-- the module's facts, over the base: the heap at the law's entry without what is tracked there -/
structure Mod (K : PySem.W.Frag) (mg : Str → Option Value) (base : Heap) : Prop where
  kin : K.In base
  glob : base.Ns mainGlobals mg
  blt : ∃ mb, base.Ns builtinsNs mb ∧ ∀ x : Str, x ≠ "__name__" → mb x = bootBuiltins x
  nolimit : base.NoLimit
/-- the context: a def's body (or a comprehension's block) running. base: fixed through the whole law; s₀, H₀: the entry; outer: the frames whose slots others may change (a def's callers); stack: all frames that run;
   ex: iterators that were made ahead of the entry and are walked here (a comprehension's); fn: the names whose cells were made at the entry (a def: all; a comprehension's block: its own); calm: not within an except suite; pn: pins that every state bears; xe: what is wanted of an exception that leaves the code -/
structure Cx where
  prog : Program
  w : World
  K : PySem.W.Frag
  mg : Str → Option Value
  base : Heap
  A : Around
  N : List Str
  s_0 : Shared
  H_0 : Hp
  env : Env
  outer : List Env
  stack : List Env
  ex : List Addr
  fn : Str → Bool
  calm : Bool
  pn : List (Addr × Obj)
  xe : Value → Shared → Prop
/-- the callers' frames -/
def frs (l : List Env) : List Addr := l.filterMap (·.frame)
abbrev Cx.fs (X : Cx) : List Addr := frs X.outer
def Vis (sc : Scope) (x : Str) : Prop := sc.names.lookup x = some .local ∨ sc.names.lookup x = some .cell ∨ sc.names.lookup x = some .free
def Loc (sc : Scope) (x : Str) : Prop := sc.names.lookup x = some .local ∨ sc.names.lookup x = some .cell
def Look (env : Env) (h : Heap) (m : Str → Option Value) (x : Str) (u : Value) : Prop :=
  (env.kindOf x = some .local ∧ m x = some u) ∨ ((env.kindOf x = some .cell ∨ env.kindOf x = some .free) ∧ ∃ c, env.cells.lookup x = some c ∧ h.IsCell c (some u))
structure Cx.Ok (X : Cx) : Prop where
  mod : Mod X.K X.mg X.base
  kind : X.env.scope.kind = .function
  glob : X.env.globals = mainGlobals
  blt : X.env.builtins = builtinsNs
  above : X.s_0.heap.objs.size ≤ X.env.locals
  inj : ∀ x y c, X.env.cells.lookup x = some c → X.env.cells.lookup y = some c → x = y
  has : ∀ x, (X.env.kindOf x = some .cell ∨ X.env.kindOf x = some .free) → ∃ c, X.env.cells.lookup x = some c
  cab : ∀ x c, X.fn x = true → X.env.cells.lookup x = some c → X.s_0.heap.objs.size ≤ c
  hd : X.calm = true → X.A.handled = none
  frames : X.A.frames = some X.stack
  stk : X.stack = X.outer ∨ (X.stack = X.env :: X.outer ∧ X.env.frame = some X.env.locals)
  exf : ∀ b ∈ X.ex, b ≠ X.env.locals ∧ ∀ x c, X.env.cells.lookup x = some c → c ≠ b
  bs : ∀ b o, X.base.get? b = some o → X.s_0.heap.get? b = some o ∧ X.H_0 b = none
  bsz : X.base.objs.size ≤ X.s_0.heap.objs.size
  noex : ∀ b o, X.base.get? b = some o → b ∉ X.ex
  exfs : ∀ b ∈ X.ex, b ∉ X.fs
  funs : X.s_0.heap.FunFrames X.base X.outer
  frf : ∀ b ∈ X.fs, X.H_0 b = none
structure Inv (X : Cx) (pins : List (Addr × Obj)) (σ : List (Option V)) (H : Hp) (s : Shared) : Prop where
  ok : X.Ok
  os : s.os = X.s_0.os
  bare : AllBare s.gens
  base : Un X.fs X.ex X.H_0 H X.s_0.heap s.heap
  loc : ∃ m, s.heap.Ns X.env.locals m ∧ ∀ (i : Nat) (x : Str) (v : V), X.N[i]? = some x → σ[i]? = some (some v) → Vis X.env.scope x → ∃ u, RelV v u ∧ Look X.env s.heap m x u
  cell : ∀ x c, X.env.cells.lookup x = some c → ∃ v, s.heap.IsCell c v
  free : H X.env.locals = none
  freeC : ∀ x c, X.env.cells.lookup x = some c → H c = none
  pin : ∀ p ∈ X.pn ++ pins, s.heap.get? p.1 = some p.2 ∧ H p.1 = none ∧ p.1 ≠ X.env.locals ∧ p.1 ∉ X.fs ∧ ∀ v, p.2.data ≠ .cell v
  hok : HOk X.prog X.w H s.heap
  len : σ.length = X.N.length
section
variable {X : Cx} {pins : List (Addr × Obj)} {σ : List (Option V)} {H H' : Hp} {s : Shared} {h' : Heap}
theorem Cx.Ok.nofr (ok : X.Ok) {b : Addr} {o : Obj} (e : X.base.get? b = some o) : b ∉ X.fs := fun hb => by
  have := (ok.funs.mem hb).1
  rw [e] at this; cases this
theorem Inv.bs (I : Inv X pins σ H s) : ∀ b o, X.base.get? b = some o → s.heap.get? b = some o ∧ H b = none := fun b o e =>
  ⟨I.base.keep b o (I.ok.bs b o e).1 (I.ok.bs b o e).2 (I.ok.nofr e) (I.ok.noex b o e), I.base.free b o (I.ok.bs b o e).1 (I.ok.bs b o e).2 (I.ok.noex b o e)⟩
theorem Inv.bk (I : Inv X pins σ H s) : ∀ b o, X.base.get? b = some o → s.heap.get? b = some o := fun b o e => (I.bs b o e).1
theorem Inv.mod (I : Inv X pins σ H s) : Mod X.K X.mg X.base := I.ok.mod
theorem Inv.kIn (I : Inv X pins σ H s) : X.K.In s.heap := I.ok.mod.kin.keeps I.bk
theorem Inv.lt (I : Inv X pins σ H s) : X.env.locals < s.heap.objs.size := let ⟨_, hn, _⟩ := I.loc; hn.lt
theorem Inv.sz (I : Inv X pins σ H s) : X.s_0.heap.objs.size ≤ s.heap.objs.size := Nat.le_trans I.ok.above (Nat.le_of_lt I.lt)
theorem Inv.nofs (I : Inv X pins σ H s) {a : Addr} (h : s.heap.objs.size ≤ a) : a ∉ X.fs := fun hb => by
  obtain ⟨_, o, ho, _⟩ := I.ok.funs.mem hb
  exact absurd (Nat.lt_of_lt_of_le (Heap.lt_size ho) (Nat.le_trans I.sz h)) (Nat.lt_irrefl _)
theorem Inv.cne (I : Inv X pins σ H s) : ∀ x c, X.env.cells.lookup x = some c → c ≠ X.env.locals := fun x c e z => by
  obtain ⟨v, o, ho, hd⟩ := I.cell x c e
  obtain ⟨m, ⟨o', es, ep, ho', hd', _⟩, _⟩ := I.loc
  rw [z, ho'] at ho; cases ho; rw [hd'] at hd; cases hd
theorem Inv.funs (I : Inv X pins σ H s) : s.heap.FunFrames X.base X.outer := by
  have all : ∀ (l : List Env), (∀ b ∈ frs l, b ∈ X.fs) → X.s_0.heap.FunFrames X.base l → s.heap.FunFrames X.base l := by
    intro l
    induction l with
    | nil => intro _ _; trivial
    | cons env r ih =>
      intro hs hl
      obtain ⟨hk, ⟨L, o, hf, hn, ho, hd⟩, hr⟩ := hl
      have hL : L ∈ X.fs := hs L (by unfold frs; rw [List.filterMap_cons, hf]; exact List.mem_cons_self)
      obtain ⟨sl, e⟩ := I.base.slot L o ho (I.ok.frf L hL) hL fun z => I.ok.exfs L z hL
      exact ⟨hk, ⟨L, _, hf, hn, e, hd⟩, ih (fun b hb => hs b (by unfold frs; rw [List.filterMap_cons, hf]; exact List.mem_cons_of_mem _ hb)) hr⟩
  exact all X.outer (fun _ hb => hb) I.ok.funs
/-- the frames that run, for a call -/
theorem Inv.stack (I : Inv X pins σ H s) : s.heap.FunFrames X.base X.stack := by
  rcases I.ok.stk with e | ⟨e, hf⟩
  · rw [e]; exact I.funs
  · rw [e]
    obtain ⟨m, hn, _⟩ := I.loc
    refine .cons (by rw [I.ok.kind]; decide) hf hn ?_ I.funs
    exact Heap.get?_none_of_le (Nat.le_trans I.ok.bsz I.ok.above)
theorem Inv.stkSub (I : Inv X pins σ H s) : ∀ b ∈ frs X.stack, b ∈ X.env.locals :: X.fs := fun b hb => by
  rcases I.ok.stk with e | ⟨e, hf⟩
  · rw [e] at hb; exact List.mem_cons_of_mem _ hb
  · rw [e] at hb
    unfold frs at hb
    rw [List.filterMap_cons, hf] at hb
    exact hb
theorem Inv.stkFree (I : Inv X pins σ H s) : ∀ b ∈ frs X.stack, H b = none := fun b hb => by
  rcases List.mem_cons.mp (I.stkSub b hb) with e | hb
  · rw [e]; exact I.free
  · obtain ⟨_, o, ho, _⟩ := I.ok.funs.mem hb
    exact I.base.free b o ho (I.ok.frf b hb) fun z => I.ok.exfs b z hb
/-- THE STEP: the untracked objects but the frame and the records at ch are kept (the callers' frames up to slots), the frame's map is kept, the new abstract heap is held -/
theorem Inv.step {g' : Array GenState} {t' : Nat} {d' : Drawn} {ch : List Addr} (I : Inv X pins σ H s)
    (hch : ∀ b ∈ ch, (b ∈ X.ex ∨ X.s_0.heap.objs.size ≤ b) ∧ b ≠ X.env.locals ∧ (∀ x c, X.env.cells.lookup x = some c → c ≠ b) ∧ ∀ p ∈ X.pn ++ pins, p.1 ≠ b)
    (keep : ∀ b o, b ≠ X.env.locals → b ∉ X.fs → b ∉ ch → s.heap.get? b = some o → H b = none → h'.get? b = some o)
    (slot : ∀ b o, b ≠ X.env.locals → b ∈ X.fs → b ∉ ch → s.heap.get? b = some o → H b = none → ∃ sl, h'.get? b = some { o with slots := sl }) (free : ∀ b o, b ∉ ch → s.heap.get? b = some o → H b = none → H' b = none)
    (there : ∀ b o, b ∉ ch → s.heap.get? b = some o → ∃ o', h'.get? b = some o')
    (tups : ∀ b xs, H b = some (.tup xs) → H' b = some (.tup xs)) (frzs : ∀ b o u, H b = some (.frz o u) → H' b = some (.frz o u)) (tbls : ∀ b ps, H b = some (.tbl ps) → ∃ more, H' b = some (.tbl (ps ++ more)))
    (ns : ∀ m, s.heap.Ns X.env.locals m → h'.Ns X.env.locals m) (hok : HOk X.prog X.w H' h') (hg : AllBare g') :
    Inv X pins σ H' { s with heap := h', gens := g', drawn := d', toks := t' } := by
  have neL : ∀ b o, X.s_0.heap.get? b = some o → b ≠ X.env.locals := fun b o e => Nat.ne_of_lt (Nat.lt_of_lt_of_le (Heap.lt_size e) I.ok.above)
  have neC : ∀ b o, X.s_0.heap.get? b = some o → b ∉ X.ex → b ∉ ch := fun b o e hx hb => by
    rcases (hch b hb).1 with z | z
    · exact hx z
    · exact absurd (Nat.lt_of_lt_of_le (Heap.lt_size e) z) (Nat.lt_irrefl _)
  have cellK : ∀ x c, X.env.cells.lookup x = some c → ∀ v, s.heap.IsCell c v → h'.IsCell c v := fun x c e v ⟨o, ho, hd⟩ => by
    have nch : c ∉ ch := fun z => (hch c z).2.2.1 x c e rfl
    by_cases hc : c ∈ X.fs
    · obtain ⟨sl, q⟩ := slot c o (I.cne x c e) hc nch ho (I.freeC x c e)
      exact ⟨_, q, hd⟩
    · exact ⟨o, keep c o (I.cne x c e) hc nch ho (I.freeC x c e), hd⟩
  refine ⟨I.ok, I.os, hg, ⟨fun b o e n hb hx => ?_, fun b o e n hb hx => ?_, fun b o e n hx => ?_, fun b o e hx => ?_, fun b xs e => tups b xs (I.base.tups b xs e), fun b o xs e => frzs b o xs (I.base.frzs b o xs e), fun b ps e => ?_⟩, ?_, fun x c e => ?_, ?_, fun x c e => ?_, fun p hp => ?_, hok, I.len⟩
  · exact keep b o (neL b o e) hb (neC b o e hx) (I.base.keep b o e n hb hx) (I.base.free b o e n hx)
  · obtain ⟨sl, e1⟩ := I.base.slot b o e n hb hx
    obtain ⟨sl', e2⟩ := slot b _ (neL b o e) hb (neC b o e hx) e1 (I.base.free b o e n hx)
    exact ⟨sl', e2⟩
  · obtain ⟨o', e1⟩ := I.base.there b o e hx
    exact free b o' (neC b o e hx) e1 (I.base.free b o e n hx)
  · obtain ⟨o', e1⟩ := I.base.there b o e hx
    exact there b o' (neC b o e hx) e1
  · obtain ⟨m1, e1⟩ := I.base.tbls b ps e
    obtain ⟨m2, e2⟩ := tbls b _ e1
    exact ⟨m1 ++ m2, by rw [e2, Array.append_assoc]⟩
  · obtain ⟨m, hn, hl⟩ := I.loc
    refine ⟨m, ns m hn, fun i x v e1 e2 e3 => ?_⟩
    obtain ⟨u, r, l⟩ := hl i x v e1 e2 e3
    refine ⟨u, r, ?_⟩
    rcases l with l | ⟨k, c, e, z⟩
    · exact .inl l
    · exact .inr ⟨k, c, e, cellK x c e _ z⟩
  · obtain ⟨v, z⟩ := I.cell x c e
    exact ⟨v, cellK x c e v z⟩
  · obtain ⟨m, ⟨o, _, _, ho, _⟩, _⟩ := I.loc
    exact free _ o (fun z => (hch _ z).2.1 rfl) ho I.free
  · obtain ⟨v, o, ho, hd⟩ := I.cell x c e
    exact free c o (fun z => (hch c z).2.2.1 x c e rfl) ho (I.freeC x c e)
  · obtain ⟨e, n, ne, nf, d⟩ := I.pin p hp
    have nch : p.1 ∉ ch := fun z => (hch p.1 z).2.2.2 p hp rfl
    exact ⟨keep p.1 p.2 ne nf nch e n, free p.1 p.2 nch e n, ne, nf, d⟩
/-- .. where the frame's own object is kept too -/
theorem Inv.un {t' : Nat} (I : Inv X pins σ H s) (u : Un X.fs [] H H' s.heap h') (hok : HOk X.prog X.w H' h') : Inv X pins σ H' { s with heap := h', toks := t' } := by
  obtain ⟨m, ⟨o, es, ep, ho, r⟩, _⟩ := id I.loc
  obtain ⟨sl, hL⟩ := u.any ho I.free (by simp)
  exact I.step (g' := s.gens) (d' := s.drawn) (ch := []) (fun _ z => nomatch z) (fun b o _ hb _ e n => u.keep b o e n hb (by simp)) (fun b o _ hb _ e n => u.slot b o e n hb (by simp)) (fun b o _ e n => u.free b o e n (by simp)) (fun b o _ e => u.there b o e (by simp)) u.tups u.frzs u.tbls (fun m' hm => by
    obtain ⟨o', es', ep', ho', r'⟩ := hm
    rw [ho] at ho'; cases ho'
    exact ⟨_, es', ep', hL, r'⟩) hok I.bare
/-- behind a call (or a comprehension's block): the slots of this frame may have changed too, the records at ch may have turned -/
theorem Inv.call {g' : Array GenState} {t' : Nat} {d' : Drawn} {ch : List Addr} (I : Inv X pins σ H s) (u : Un (frs X.stack) ch H H' s.heap h') (hok : HOk X.prog X.w H' h') (hg : AllBare g')
    (hch : ∀ b ∈ ch, (b ∈ X.ex ∨ X.s_0.heap.objs.size ≤ b) ∧ b ≠ X.env.locals ∧ (∀ x c, X.env.cells.lookup x = some c → c ≠ b) ∧ ∀ p ∈ X.pn ++ pins, p.1 ≠ b) :
    Inv X pins σ H' { s with heap := h', gens := g', drawn := d', toks := t' } := by
  obtain ⟨m, ⟨o, es, ep, ho, r⟩, _⟩ := id I.loc
  obtain ⟨sl, hL⟩ := u.any ho I.free fun z => (hch _ z).2.1 rfl
  exact I.step (ch := ch) hch (fun b o hL hb hc e n => u.keep b o e n (fun z => (List.mem_cons.mp (I.stkSub b z)).elim hL hb) hc) (fun b o _ _ hc e n => u.any e n hc) (fun b o hc e n => u.free b o e n hc) (fun b o hc e => u.there b o e hc) u.tups u.frzs u.tbls (fun m' hm => by
    obtain ⟨o', es', ep', ho', r'⟩ := hm
    rw [ho] at ho'; cases ho'
    exact ⟨_, es', ep', hL, r'⟩) hok hg
/-- an untracked record of ours (an iterator) has turned -/
theorem Inv.turned {t' : Nat} {it : Addr} (I : Inv X pins σ H s) (k : ∀ b o, b ≠ it → s.heap.get? b = some o → h'.get? b = some o) (hn : H it = none) (hL : it ≠ X.env.locals)
    (h1 : it ∈ X.ex ∨ X.s_0.heap.objs.size ≤ it) (h2 : ∀ x c, X.env.cells.lookup x = some c → c ≠ it) (h3 : ∀ p ∈ X.pn ++ pins, p.1 ≠ it) : Inv X pins σ H { s with heap := h', toks := t' } := by
  have nit : ∀ b u, H b = some u → b ≠ it := fun b u e z => by rw [z, hn] at e; cases e
  refine I.step (g' := s.gens) (d' := s.drawn) (ch := [it]) (fun b hb => ?_) (fun b o _ _ hc e _ => k b o (fun z => hc (by simp [z])) e) (fun b o _ _ hc e _ => ⟨o.slots, k b o (fun z => hc (by simp [z])) e⟩) (fun _ _ _ _ n => n)
    (fun b o hc e => ⟨o, k b o (fun z => hc (by simp [z])) e⟩) (fun _ _ e => e) (fun _ _ _ e => e) (fun b ps e => ⟨#[], by rw [e]; simp⟩) (fun m hm => ?_) (fun b u e => ?_) I.bare
  · have e : b = it := by simpa using hb
    subst e
    exact ⟨h1, hL, h2, h3⟩
  · obtain ⟨o, es, ep, ho, r⟩ := hm
    exact ⟨o, es, ep, k _ o (Ne.symm hL) ho, r⟩
  · refine (I.hok b u e).stay (fun c v hc q => k c v ?_ q) (fun _ q => q) fun _ _ q => q
    rcases hc with z | z
    · rw [z]; exact nit b u e
    · exact nit c _ z
theorem Inv.tok (I : Inv X pins σ H s) (t : Nat) : Inv X pins σ H { s with toks := t } := I.un (h' := s.heap) (t' := t) Un.refl I.hok
/-- all objects kept -/
theorem Inv.kept {t' : Nat} (I : Inv X pins σ H s) (k : ∀ b u, s.heap.get? b = some u → h'.get? b = some u) : Inv X pins σ H { s with heap := h', toks := t' } := I.un (Un.kept k) (I.hok.kept k)
/-- a new object laid and tracked -/
theorem Inv.laid {a : Addr} {o : HO} {t' : Nat} (I : Inv X pins σ H s) (k : ∀ b u, s.heap.get? b = some u → h'.get? b = some u) (hp : s.heap.objs.size ≤ a) (new : ObjOk X.prog X.w (upd H a o) h' a o) :
    Inv X pins σ (upd H a o) { s with heap := h', toks := t' } := I.un (Un.laid k hp (I.hok.fresh hp)) (I.hok.laid k hp new)
/-- an object written -/
theorem Inv.write {x e : Addr} {o : HO} {t' : Nat} (I : Inv X pins σ H s) (mu : Mut (H x)) (he : e = x ∨ H e = some (.own x)) (k : ∀ b u, b ≠ e → s.heap.get? b = some u → h'.get? b = some u) (heo : ∃ u, h'.get? e = some u)
    (new : ObjOk X.prog X.w (upd H x o) h' x o) : Inv X pins σ (upd H x o) { s with heap := h', toks := t' } := I.un (Un.write mu he k heo) (I.hok.write mu he k heo new)
/-- forgetting slots, pins -/
theorem Inv.weak {σ' : List (Option V)} (I : Inv X pins σ H s) (hl : σ'.length = σ.length) (w : ∀ (i : Nat) v, σ'[i]? = some (some v) → σ[i]? = some (some v)) : Inv X pins σ' H s :=
  ⟨I.ok, I.os, I.bare, I.base, let ⟨m, hn, hl'⟩ := I.loc; ⟨m, hn, fun i x v e1 e2 e3 => hl' i x v e1 (w i v e2) e3⟩, I.cell, I.free, I.freeC, I.pin, I.hok, hl.trans I.len⟩
theorem Inv.pins_of {pins' : List (Addr × Obj)} (I : Inv X pins σ H s) (h : ∀ p ∈ pins', s.heap.get? p.1 = some p.2 ∧ H p.1 = none ∧ p.1 ≠ X.env.locals ∧ p.1 ∉ X.fs ∧ ∀ v, p.2.data ≠ .cell v) : Inv X pins' σ H s :=
  ⟨I.ok, I.os, I.bare, I.base, I.loc, I.cell, I.free, I.freeC, fun p hp => (List.mem_append.mp hp).elim (fun z => I.pin p (List.mem_append_left _ z)) (h p), I.hok, I.len⟩
theorem nodup_ix {N : List Str} (hN : N.Nodup) {i j : Nat} {x : Str} (a : N[i]? = some x) (b : N[j]? = some x) : i = j := by
  obtain ⟨h1, e1⟩ := List.getElem?_eq_some_iff.mp a
  obtain ⟨h2, e2⟩ := List.getElem?_eq_some_iff.mp b
  exact (List.getElem_inj hN).mp (e1.trans e2.symm)
/-- a name is stored; what changed -/
theorem store_ok2 {M : Model} {A : Around} {E : Value → Shared → Prop} {i : Nat} {x : Str} {v : V} {u : Value} {Q : Unit → Shared → Prop} (I : Inv X pins σ H s) (hN : X.N.Nodup) (hi : X.N[i]? = some x) (hx : Loc X.env.scope x) (r : RelV v u)
    (h : ∀ s', Inv X pins (σ.set i (some v)) H s' → (∃ a, Heap.SameBut a s.heap s'.heap ∧ (a = X.env.locals ∨ X.env.cells.lookup x = some a)) → Q () s') (hf : X.fn x = true ∨ X.env.scope.names.lookup x = some .local := by first | exact .inl rfl | exact .inr rfl | assumption) : wpAny M A (storeName X.env x u) Q E s := by
  obtain ⟨m, hn, hl⟩ := id I.loc
  have hcls : (X.env.scope.kind == .class || (X.env.scope.kind == .module && X.env.locals != X.env.globals)) = false := by rw [I.ok.kind]; rfl
  have hiσ : i < σ.length := by rw [I.len]; exact (List.getElem?_eq_some_iff.mp hi).1
  have cne := I.cne
  have tracked : ∀ {a : Addr} {h' : Heap}, (∃ o, s.heap.get? a = some o ∧ H a = none) → Heap.SameBut a s.heap h' → HOk X.prog X.w H h' := fun {a h'} ha hs b ob e => by
    obtain ⟨_, _, hfree⟩ := ha
    refine (I.hok b ob e).stay (fun c w' hc q => (hs.2 c ?_).trans q) (fun _ q => q) fun _ _ q => q
    rintro rfl
    rcases hc with rfl | hc
    · rw [hfree] at e; cases e
    · rw [hfree] at hc; cases hc
  rcases hx with hk | hk
  · refine wpAny_storeName_local hk hn (fun h' hn' hs => ?_) hcls
    obtain ⟨oL, _, _, hoL, _⟩ := id hn
    refine h _ ⟨I.ok, I.os, I.bare, ⟨fun b o e n hb hx => ?_, fun b o e n hb hx => ?_, I.base.free, fun b o e hx => ?_, I.base.tups, I.base.frzs, I.base.tbls⟩, ⟨_, hn', fun j y v' e1 e2 e3 => ?_⟩, fun y c e => ?_, I.free, I.freeC, fun p hp => ?_, tracked ⟨oL, hoL, I.free⟩ hs, by simpa using I.len⟩ ⟨_, hs, .inl rfl⟩
    · exact (hs.2 b (Nat.ne_of_lt (Nat.lt_of_lt_of_le (Heap.lt_size e) I.ok.above))).trans (I.base.keep b o e n hb hx)
    · obtain ⟨sl, e1⟩ := I.base.slot b o e n hb hx
      exact ⟨sl, (hs.2 b (Nat.ne_of_lt (Nat.lt_of_lt_of_le (Heap.lt_size e) I.ok.above))).trans e1⟩
    · obtain ⟨o', e1⟩ := I.base.there b o e hx
      exact ⟨o', (hs.2 b (Nat.ne_of_lt (Nat.lt_of_lt_of_le (Heap.lt_size e) I.ok.above))).trans e1⟩
    · by_cases hj : j = i
      · subst hj
        rw [hi] at e1; cases e1
        rw [List.getElem?_set_self hiσ] at e2
        cases e2
        exact ⟨u, r, .inl ⟨hk, by simp⟩⟩
      · rw [List.getElem?_set_ne (Ne.symm hj)] at e2
        obtain ⟨u', r', q⟩ := hl j y v' e1 e2 e3
        refine ⟨u', r', ?_⟩
        rcases q with ⟨k, e⟩ | ⟨k, c, e, z⟩
        · refine .inl ⟨k, ?_⟩
          have : y ≠ x := fun e => hj (nodup_ix hN e1 (e ▸ hi))
          simp [this, e]
        · exact .inr ⟨k, c, e, z.sameBut hs (cne y c e)⟩
    · obtain ⟨w', z⟩ := I.cell y c e
      exact ⟨w', z.sameBut hs (cne y c e)⟩
    · obtain ⟨e, n, ne, nf, d⟩ := I.pin p hp
      exact ⟨(hs.2 p.1 ne).trans e, n, ne, nf, d⟩
  · have hfn : X.fn x = true := by
      rcases hf with z | z
      · exact z
      · rw [z] at hk; cases hk
    obtain ⟨c, hc⟩ := I.ok.has x (.inl hk)
    obtain ⟨w', z⟩ := I.cell x c hc
    refine wpAny_storeName_cell I.ok.kind hk hc z (fun h' hc' hs => ?_)
    obtain ⟨oc, hoc, hocd⟩ := id z
    refine h { s with heap := h' } ⟨I.ok, I.os, I.bare, ⟨fun b o e n hb hx => ?_, fun b o e n hb hx => ?_, I.base.free, fun b o e hx => ?_, I.base.tups, I.base.frzs, I.base.tbls⟩, ⟨m, hn.sameBut hs (Ne.symm (cne x c hc)), fun j y v' e1 e2 e3 => ?_⟩, fun y c' e => ?_, I.free, I.freeC, fun p hp => ?_, tracked ⟨oc, hoc, I.freeC x c hc⟩ hs, by simpa using I.len⟩ ⟨c, hs, .inr hc⟩
    · exact (hs.2 b (Nat.ne_of_lt (Nat.lt_of_lt_of_le (Heap.lt_size e) (I.ok.cab x c hfn hc)))).trans (I.base.keep b o e n hb hx)
    · obtain ⟨sl, e1⟩ := I.base.slot b o e n hb hx
      exact ⟨sl, (hs.2 b (Nat.ne_of_lt (Nat.lt_of_lt_of_le (Heap.lt_size e) (I.ok.cab x c hfn hc)))).trans e1⟩
    · obtain ⟨o', e1⟩ := I.base.there b o e hx
      exact ⟨o', (hs.2 b (Nat.ne_of_lt (Nat.lt_of_lt_of_le (Heap.lt_size e) (I.ok.cab x c hfn hc)))).trans e1⟩
    · by_cases hj : j = i
      · subst hj
        rw [hi] at e1; cases e1
        rw [List.getElem?_set_self hiσ] at e2
        cases e2
        exact ⟨u, r, .inr ⟨.inl hk, c, hc, hc'⟩⟩
      · rw [List.getElem?_set_ne (Ne.symm hj)] at e2
        obtain ⟨u', r', q⟩ := hl j y v' e1 e2 e3
        refine ⟨u', r', ?_⟩
        rcases q with q | ⟨k, c', e, z'⟩
        · exact .inl q
        · refine .inr ⟨k, c', e, z'.sameBut hs ?_⟩
          rintro rfl
          exact hj (nodup_ix hN e1 (I.ok.inj _ _ _ e hc ▸ hi))
    · by_cases hcc : c' = c
      · subst hcc; exact ⟨_, hc'⟩
      · obtain ⟨w2, z2⟩ := I.cell y c' e
        exact ⟨w2, z2.sameBut hs hcc⟩
    · obtain ⟨e, n, ne, nf, d⟩ := I.pin p hp
      refine ⟨(hs.2 p.1 ?_).trans e, n, ne, nf, d⟩
      intro q
      rw [q, hoc] at e
      have q' : oc = p.2 := Option.some.inj e
      exact d w' (by rw [← q']; exact hocd)
theorem store_ok {M : Model} {A : Around} {E : Value → Shared → Prop} {i : Nat} {x : Str} {v : V} {u : Value} {Q : Unit → Shared → Prop} (I : Inv X pins σ H s) (hN : X.N.Nodup) (hi : X.N[i]? = some x) (hx : Loc X.env.scope x) (r : RelV v u)
    (h : ∀ s', Inv X pins (σ.set i (some v)) H s' → Q () s') (hf : X.fn x = true ∨ X.env.scope.names.lookup x = some .local := by first | exact .inl rfl | exact .inr rfl | assumption) : wpAny M A (storeName X.env x u) Q E s :=
  store_ok2 I hN hi hx r (fun s' I' _ => h s' I') hf
/-- behind a call or a block, the state as it is -/
theorem Inv.call' {s' : Shared} {ch : List Addr} (I : Inv X pins σ H s) (ho : s'.os = s.os) (u : Un (frs X.stack) ch H H' s.heap s'.heap) (hok : HOk X.prog X.w H' s'.heap) (hg : AllBare s'.gens)
    (hch : ∀ b ∈ ch, (b ∈ X.ex ∨ X.s_0.heap.objs.size ≤ b) ∧ b ≠ X.env.locals ∧ (∀ x c, X.env.cells.lookup x = some c → c ≠ b) ∧ ∀ p ∈ X.pn ++ pins, p.1 ≠ b) : Inv X pins σ H' s' := by
  obtain ⟨h', g', d', t', o'⟩ := s'
  have e : o' = s.os := ho
  subst e
  exact I.call (g' := g') (t' := t') (d' := d') u hok hg hch
end
/-- an exception: its class, its own dict's address (where it has one), the abstract heap behind it -/
abbrev XK := Value → Option Addr → Hp → Prop
abbrev St := List (Option V)
abbrev VK := V → Hp → Prop
/-- an expression's reading; a test's; an argument list's -/
abbrev TE := St → Hp → VK → Prop
abbrev TT := St → Hp → (Bool → Hp → Prop) → Prop
abbrev TA := St → Hp → (List V → Hp → Prop) → Prop
/-- what is wanted behind a statement -/
structure Ends where
  nx : St → Hp → Prop
  rt : VK
  bk : St → Hp → Prop := fun _ _ => False
  ct : St → Hp → Prop := fun _ _ => False
abbrev TS := Ends → St → Hp → Prop
def EP (X : Cx) (pins : List (Addr × Obj)) (σ : St) (Q : VK) (u : Value) (s' : Shared) : Prop := ∃ v H', Inv X pins σ H' s' ∧ RelV v u ∧ Q v H'
def TP (X : Cx) (pins : List (Addr × Obj)) (σ : St) (Q : Bool → Hp → Prop) (b : Bool) (s' : Shared) : Prop := ∃ H', Inv X pins σ H' s' ∧ Q b H'
def AP (X : Cx) (pins : List (Addr × Obj)) (σ : St) (Q : List V → Hp → Prop) (us : List Value) (s' : Shared) : Prop := ∃ vs H', Inv X pins σ H' s' ∧ Vals vs us ∧ Q vs H'
def SP (X : Cx) (pins : List (Addr × Obj)) (D : Ends) (f : Flow) (s' : Shared) : Prop :=
  match f with
  | .next => ∃ σ' H', Inv X pins σ' H' s' ∧ D.nx σ' H'
  | .brk => ∃ σ' H', Inv X pins σ' H' s' ∧ D.bk σ' H'
  | .cont => ∃ σ' H', Inv X pins σ' H' s' ∧ D.ct σ' H'
  | .ret u => ∃ v σ' H', Inv X pins σ' H' s' ∧ RelV v u ∧ D.rt v H'
def PE (X : Cx) (e : Expr) (t : TE) : Prop :=
  ∀ (pins : List (Addr × Obj)) (s : Shared) (σ : St) (H : Hp) (Q : VK), Inv X pins σ H s → t σ H Q → wpAny (model X.prog X.w) X.A (eval e X.env) (EP X pins σ Q) X.xe s
def PT (X : Cx) (e : Expr) (t : TT) : Prop :=
  ∀ (pins : List (Addr × Obj)) (s : Shared) (σ : St) (H : Hp) (Q : Bool → Hp → Prop), Inv X pins σ H s → t σ H Q → wpAny (model X.prog X.w) X.A (isTrue e X.env (eval e X.env)) (TP X pins σ Q) X.xe s
/-- a test whatever its 'whole' is (and, or) -/
def PW (X : Cx) (e : Expr) (t : TT) : Prop :=
  ∀ (whole : Sem Value) (pins : List (Addr × Obj)) (s : Shared) (σ : St) (H : Hp) (Q : Bool → Hp → Prop), Inv X pins σ H s → t σ H Q → wpAny (model X.prog X.w) X.A (isTrue e X.env whole) (TP X pins σ Q) X.xe s
theorem PW.pt {X : Cx} {e : Expr} {t : TT} (h : PW X e t) : PT X e t := h _
/-- an argument list (no star), from the left -/
def PA (X : Cx) (es : List Expr) (t : TA) : Prop :=
  ∀ (pos : Pos) (pins : List (Addr × Obj)) (s : Shared) (σ : St) (H : Hp) (Q : List V → Hp → Prop), Inv X pins σ H s → t σ H Q → wpAny (model X.prog X.w) X.A (spliced (backTo pos (starEach es X.env))) (AP X pins σ Q) X.xe s
def PS (X : Cx) (st : Stmt) (t : TS) : Prop :=
  ∀ (pins : List (Addr × Obj)) (s : Shared) (σ : St) (H : Hp) (D : Ends), Inv X pins σ H s → t D σ H → wpAny (model X.prog X.w) X.A (exec st X.env) (SP X pins D) X.xe s
def PSs (X : Cx) (st : List Stmt) (t : TS) : Prop :=
  ∀ (pins : List (Addr × Obj)) (s : Shared) (σ : St) (H : Hp) (D : Ends), Inv X pins σ H s → t D σ H → wpAny (model X.prog X.w) X.A (execs st X.env) (SP X pins D) X.xe s
/-- weaken the end -/
theorem thn {α : Type} {t : Sem α} {Q Q' : α → Shared → Prop} {M : Model} {A : Around} {E : Value → Shared → Prop} {s : Shared} (h : wpAny M A t Q E s) (hQ : ∀ a s, Q a s → Q' a s) : wpAny M A t Q' E s := wpAny_mono h hQ fun _ _ x => x
end L2
namespace L2
open PySem PySem.Spec PyProof.Rows
section
variable {X : Cx}
def tVar (i : Nat) : TE := fun σ H Q => ∃ v, σ[i]? = some (some v) ∧ Q v H
def tC (v : V) : TE := fun _ H Q => Q v H
theorem pe_var {i : Nat} {x : Str} {pos : Pos} (hN : X.N[i]? = some x) (hv : Vis X.env.scope x) (hd : (x == ("__debug__" : Str)) = false := by decide) (hcd : (x == ("__classdict__" : Str)) = false := by decide) : PE X (.Name x pos) (tVar i) := by
  intro pins s σ H Q I h
  obtain ⟨v, e, h⟩ := h
  obtain ⟨m, hn, hl⟩ := I.loc
  obtain ⟨u, r, l⟩ := hl i x v hN e hv
  have fin : EP X pins σ Q u s := ⟨v, H, I, r, h⟩
  rcases l with ⟨hk, hm⟩ | ⟨hk, c, hc, hcell⟩
  · exact wpAny_Name (wpAny_loadName_local I.ok.kind hk hn hm fin) hd
  · rcases hk with hk | hk
    · exact wpAny_Name (wpAny_loadName_cell I.ok.kind hk hc hcell fin) hd
    · exact wpAny_Name (wpAny_loadName_free I.ok.kind hk hc hcell fin hcd) hd
theorem pe_int {i j pos} : PE X (.Constant (.int i) j pos) (tC (.int i)) := fun _ _ _ H _ I h => wpAny_Constant_int ⟨.int i, H, I.tok _, ⟨_, rfl⟩, h⟩
theorem pe_bl {b j pos} : PE X (.Constant (.bool b) j pos) (tC (.bl b)) := fun _ _ _ H _ I h => Constant_bool ⟨.bl b, H, I, rfl, h⟩
theorem pe_non {j pos} : PE X (.Constant .none j pos) (tC .non) := fun _ _ _ H _ I h => Constant_none ⟨.non, H, I, rfl, h⟩
/-- a global name of the def -/
def Gl (X : Cx) (x : Str) : Prop := X.env.kindOf x = some .globalImplicit
theorem ld_glob {E : Value → Shared → Prop} {pins : List (Addr × Obj)} {s : Shared} {σ : St} {H : Hp} {x : Str} {u : Value} {pos : Pos} {Q : Value → Shared → Prop} (I : Inv X pins σ H s) (hg : Gl X x) (hm : X.mg x = some u) (h : Q u s)
    (hd : (x == ("__debug__" : Str)) = false := by decide) : wpAny (model X.prog X.w) X.A (eval (.Name x pos) X.env) Q E s :=
  Calls.Name_function_global I.ok.kind hg (Calls.loadGlobal_global (by rw [I.ok.glob]; exact I.mod.glob.keeps I.bk) hm h) hd
theorem ld_blt {E : Value → Shared → Prop} {pins : List (Addr × Obj)} {s : Shared} {σ : St} {H : Hp} {x : Str} {u : Value} {pos : Pos} {Q : Value → Shared → Prop} (I : Inv X pins σ H s) (hg : Gl X x) (hm : X.mg x = none) (hv : bootBuiltins x = some u) (h : Q u s)
    (hn : x ≠ "__name__" := by decide) (hd : (x == ("__debug__" : Str)) = false := by decide) : wpAny (model X.prog X.w) X.A (eval (.Name x pos) X.env) Q E s := by
  obtain ⟨mb, h1, h2⟩ := I.mod.blt
  exact Calls.Name_function_global I.ok.kind hg (Calls.loadGlobal_builtin (by rw [I.ok.glob]; exact I.mod.glob.keeps I.bk) hm (by rw [I.ok.blt]; exact h1.keeps I.bk) ((h2 x hn).trans hv) h) hd
/-- a module's constant, a class, a function, as a value -/
theorem pe_glob {x : Str} {v : V} {u : Value} {pos : Pos} (hg : Gl X x) (hm : X.mg x = some u) (r : RelV v u) (hd : (x == ("__debug__" : Str)) = false := by decide) : PE X (.Name x pos) (tC v) :=
  fun _ _ _ H _ I h => ld_glob I hg hm ⟨v, H, I, r, h⟩ hd
variable {a b : Expr} {ta tb : TE} {pos : Pos}
def PC (X : Cx) (op : CmpOp) (a b : Expr) (t : TE) : Prop :=
  ∀ (pins : List (Addr × Obj)) (s : Shared) (σ : St) (H : Hp) (Q : VK), Inv X pins σ H s → t σ H Q →
    wpAny (model X.prog X.w) X.A (eval a X.env) (fun v s₁ => wpAny (model X.prog X.w) X.A (eval b X.env) (fun u s₂ => wpAny (model X.prog X.w) X.A (compareOp op v u) (EP X pins σ Q) X.xe s₂) X.xe s₁) X.xe s
/-- a comparison as a value, as a test -/
def tB (t : TE) : TT := fun σ H Q => t σ H fun x H1 => ∃ c, x = .bl c ∧ Q c H1
theorem pt_cmp {op : CmpOp} {t : TE} (h : PC X op a b t) (h1 : behindInMarks op b = false := by first | exact nobehind _ (by decide) (by decide) | rfl) : PT X (.Compare a [op] [b] pos) (tB t) := by
  intro pins s σ H Q I hw
  refine wpAny_isTrue_Compare1 (thn (h pins s σ H _ I hw) fun v s1 h1 => thn h1 fun u s2 h2 => thn h2 fun c s3 ⟨x, H1, I1, r1, q1⟩ => ?_) h1
  obtain ⟨d, rfl, q⟩ := q1
  cases r1
  exact wpAny_truthy_bool ⟨H1, I1, q⟩
/-- an expression whose value is a bool, as a test -/
theorem pt_val {e : Expr} {t : TE} (h : PE X e t) (he : ∀ whole, isTrue e X.env whole = (do let v ← whole; standAt e.pos; holding [v] (truthy v)) := by intro _; rfl) : PT X e (tB t) := by
  intro pins s σ H Q I hw
  refine isTrue_plain (thn (h pins s σ H _ I hw) fun v s1 ⟨x, H1, I1, r1, q1⟩ => ?_) (he _)
  obtain ⟨d, rfl, q⟩ := q1
  cases r1
  exact wpAny_truthy_bool ⟨H1, I1, q⟩
variable {tA tB' : TT} {rest : List Expr}
def tAnd (t u : TT) : TT := fun σ H Q => t σ H fun c H1 => if c = true then u σ H1 Q else Q false H1
def tOr (t u : TT) : TT := fun σ H Q => t σ H fun c H1 => if c = true then Q true H1 else u σ H1 Q
def tNot (t : TT) : TT := fun σ H Q => t σ H fun c H1 => Q (!c) H1
theorem pw_and1 (ha : PT X a tA) : PW X (.BoolOp .And [a] pos) tA := by
  intro wh pins s σ H Q I h
  refine isTrue_and (thn (ha pins s σ H Q I h) fun c s1 e => ?_)
  cases c with
  | true => exact isTrue_and_nil e
  | false => exact e
theorem pw_or1 (ha : PT X a tA) : PW X (.BoolOp .Or [a] pos) tA := by
  intro wh pins s σ H Q I h
  refine isTrue_or (thn (ha pins s σ H Q I h) fun c s1 e => ?_)
  cases c with
  | false => exact isTrue_or_nil e
  | true => exact e
theorem pw_and (ha : PT X a tA) (hb : PW X (.BoolOp .And (b :: rest) pos) tB') : PW X (.BoolOp .And (a :: b :: rest) pos) (tAnd tA tB') := by
  intro wh pins s σ H Q I h
  refine isTrue_and (thn (ha pins s σ H _ I h) fun c s1 ⟨H1, I1, q1⟩ => ?_)
  cases c with
  | true => exact hb wh pins s1 σ H1 Q I1 q1
  | false => exact ⟨H1, I1, q1⟩
theorem pw_or (ha : PT X a tA) (hb : PW X (.BoolOp .Or (b :: rest) pos) tB') : PW X (.BoolOp .Or (a :: b :: rest) pos) (tOr tA tB') := by
  intro wh pins s σ H Q I h
  refine isTrue_or (thn (ha pins s σ H _ I h) fun c s1 ⟨H1, I1, q1⟩ => ?_)
  cases c with
  | true => exact ⟨H1, I1, q1⟩
  | false => exact hb wh pins s1 σ H1 Q I1 q1
theorem pt_not (ha : PT X a tA) : PT X (.UnaryOp .Not a pos) (tNot tA) := by
  intro pins s σ H Q I h
  exact isTrue_not (ha pins s σ H (fun c H1 => Q (!c) H1) I h)
/-- .. as values (bools) -/
def tAndV (ta tb : TE) : TE := fun σ H Q => ta σ H fun x H1 => ∃ c, x = .bl c ∧ if c = true then tb σ H1 Q else Q (.bl false) H1
def tOrV (ta tb : TE) : TE := fun σ H Q => ta σ H fun x H1 => ∃ c, x = .bl c ∧ if c = true then Q (.bl true) H1 else tb σ H1 Q
def tNotV (ta : TE) : TE := fun σ H Q => ta σ H fun x H1 => ∃ c, x = .bl c ∧ Q (.bl (!c)) H1
theorem pe_one {op} {t : TE} (h : PE X a t) : PE X (.BoolOp op [a] pos) t := fun pins s σ H Q I hw => BoolOp_one (h pins s σ H Q I hw)
theorem pe_and (ha : PE X a ta) (hb : PE X (.BoolOp .And (b :: rest) pos) tb) : PE X (.BoolOp .And (a :: b :: rest) pos) (tAndV ta tb) := by
  intro pins s σ H Q I h
  refine BoolOp_and (thn (ha pins s σ H _ I h) fun v s1 ⟨x, H1, I1, r1, q1⟩ => ?_)
  obtain ⟨c, rfl, q1⟩ := q1
  cases r1
  refine wpAny_truthy_bool ?_
  cases c with
  | true => exact hb pins s1 σ H1 Q I1 q1
  | false => exact ⟨.bl false, H1, I1, rfl, q1⟩
theorem pe_or (ha : PE X a ta) (hb : PE X (.BoolOp .Or (b :: rest) pos) tb) : PE X (.BoolOp .Or (a :: b :: rest) pos) (tOrV ta tb) := by
  intro pins s σ H Q I h
  refine BoolOp_or (thn (ha pins s σ H _ I h) fun v s1 ⟨x, H1, I1, r1, q1⟩ => ?_)
  obtain ⟨c, rfl, q1⟩ := q1
  cases r1
  refine wpAny_truthy_bool ?_
  cases c with
  | false => exact hb pins s1 σ H1 Q I1 q1
  | true => exact ⟨.bl true, H1, I1, rfl, q1⟩
/-- a if t else b -/
def tIf (t : TT) (ta tb : TE) : TE := fun σ H Q => t σ H fun c H1 => if c = true then ta σ H1 Q else tb σ H1 Q
theorem pe_ifExp {c : Expr} (hc : PT X c tA) (ha : PE X a ta) (hb : PE X b tb) : PE X (.IfExp c a b pos) (tIf tA ta tb) := by
  intro pins s σ H Q I h
  refine wpAny_IfExp (thn (hc pins s σ H _ I h) fun d s1 ⟨H1, I1, q1⟩ => ?_)
  cases d with
  | true => exact ha pins s1 σ H1 Q I1 q1
  | false => exact hb pins s1 σ H1 Q I1 q1
end
end L2
namespace L2
open PySem PySem.Spec PyProof.Rows
def SqL (K : PySem.W.Frag) (H : Hp) (a : Addr) (xs : List V) : Prop :=
  Rd H a (.lst xs) ∨
    ∃ (o : Obj) (its : Array Value) (n : Nat), K.lookup a = some o ∧ o.cls = .type "list" ∧ o.dict = none ∧ o.data = .seq its n ∧ its.size ≤ sizeLine ∧ Vals xs its.toList
def SqT (K : PySem.W.Frag) (H : Hp) (a : Addr) (xs : List V) : Prop :=
  Rd H a (.tup xs) ∨
    ∃ (o : Obj) (its : Array Value) (n : Nat), K.lookup a = some o ∧ o.cls = .type "tuple" ∧ o.data = .seq its n ∧ its.size ≤ sizeLine ∧ Vals xs its.toList
def absV : Value → Option V
  | .none => some .non
  | .bool b => some (.bl b)
  | .int i _ => some (.int i)
  | .str x _ => some (.str x)
  | .bytes b _ => some (.byt b)
  | .float b _ => some (.flt b)
  | .ref a => some (.ref a)
  | .type n => some (.ty n)
  | _ => none
theorem RelV.abs {x : V} {u : Value} (r : RelV x u) : absV u = some x := by
  cases x with
  | non => cases r; rfl
  | bl _ => cases r; rfl
  | int _ => obtain ⟨t, rfl⟩ := r; rfl
  | str _ => obtain ⟨t, rfl⟩ := r; rfl
  | byt _ => obtain ⟨t, rfl⟩ := r; rfl
  | flt _ => obtain ⟨t, rfl⟩ := r; rfl
  | ref _ => cases r; rfl
  | ty _ => cases r; rfl
theorem RelV.inj {x y : V} {u : Value} (r : RelV x u) (q : RelV y u) : x = y := Option.some.inj (r.abs.symm.trans q.abs)
theorem Vals.inj : ∀ {xs ys : List V} {us : List Value}, Vals xs us → Vals ys us → xs = ys
  | _, _, _, .nil, .nil => rfl
  | _, _, _, .cons r t, .cons r' t' => by rw [r.inj r', Vals.inj t t']
section
variable {X : Cx} {pins : List (Addr × Obj)} {σ : St} {H : Hp} {s : Shared} {a : Addr} {xs ys : List V}
theorem SqL.of {K : PySem.W.Frag} (h : H a = some (.lst xs)) : SqL K H a xs := .inl (.inl h)
theorem SqT.of {K : PySem.W.Frag} (h : H a = some (.tup xs)) : SqT K H a xs := .inl (.inl h)
theorem Inv.list (I : Inv X pins σ H s) (h : SqL X.K H a xs) : ∃ its : List Value, Vals xs its ∧ PlainL s.heap a its.toArray ∧ xs.length ≤ sizeLine := by
  rcases h with h | ⟨o, its, n, hk, hc, hd, hs, hz, r⟩
  · obtain ⟨z, its, n, r, e⟩ := h.ok I.hok
    exact ⟨its, r, ⟨_, n, e, rfl, rfl, rfl⟩, z⟩
  · refine ⟨its.toList, r, ⟨o, n, I.kIn a o hk, hc, hd, by simpa using hs⟩, ?_⟩
    have e := r.length
    simp only [Array.length_toList] at e
    omega
theorem Inv.tuple (I : Inv X pins σ H s) (h : SqT X.K H a xs) : ∃ its : List Value, Vals xs its ∧ IsTup s.heap a its.toArray ∧ xs.length ≤ sizeLine := by
  rcases h with h | ⟨o, its, n, hk, hc, hs, hz, r⟩
  · obtain ⟨z, its, r, p⟩ := h.ok I.hok
    exact ⟨its, r, p, z⟩
  · refine ⟨its.toList, r, ⟨o, I.kIn a o hk, hc, n, by simpa using hs⟩, ?_⟩
    have e := r.length
    simp only [Array.length_toList] at e
    omega
theorem Inv.list_inj (I : Inv X pins σ H s) (h : SqL X.K H a xs) (h' : SqL X.K H a ys) : xs = ys := by
  obtain ⟨its, r, ⟨o, n, e, _, _, d⟩, _⟩ := I.list h
  obtain ⟨its', r', ⟨o', n', e', _, _, d'⟩, _⟩ := I.list h'
  rw [e] at e'; cases e'
  rw [d] at d'
  injection d' with d1 _
  have : its = its' := by simpa using congrArg Array.toList d1
  subst this
  exact r.inj r'
end
abbrev Cx.wish (X : Cx) (E : Value → Shared → Prop) : Cx := { X with xe := E }
/-- no exception leaves -/
abbrev Cx.nox (X : Cx) : Cx := X.wish fun _ _ => False
theorem Cx.Ok.wish {X : Cx} (ok : X.Ok) (E : Value → Shared → Prop) : (X.wish E).Ok :=
  ⟨ok.mod, ok.kind, ok.glob, ok.blt, ok.above, ok.inj, ok.has, ok.cab, ok.hd, ok.frames, ok.stk, ok.exf, ok.bs, ok.bsz, ok.noex, ok.exfs, ok.funs, ok.frf⟩
theorem Cx.Ok.unwish {X : Cx} {E : Value → Shared → Prop} (ok : (X.wish E).Ok) : X.Ok :=
  ⟨ok.mod, ok.kind, ok.glob, ok.blt, ok.above, ok.inj, ok.has, ok.cab, ok.hd, ok.frames, ok.stk, ok.exf, ok.bs, ok.bsz, ok.noex, ok.exfs, ok.funs, ok.frf⟩
section
variable {X : Cx} {pins : List (Addr × Obj)} {σ : St} {H : Hp} {s : Shared} {E : Value → Shared → Prop}
theorem Inv.wish (I : Inv X pins σ H s) (E : Value → Shared → Prop) : Inv (X.wish E) pins σ H s := ⟨I.ok.wish E, I.os, I.bare, I.base, I.loc, I.cell, I.free, I.freeC, I.pin, I.hok, I.len⟩
theorem Inv.unwish (I : Inv (X.wish E) pins σ H s) : Inv X pins σ H s := ⟨I.ok.unwish, I.os, I.bare, I.base, I.loc, I.cell, I.free, I.freeC, I.pin, I.hok, I.len⟩
theorem SP.unwish {D : Ends} {f : Flow} {s' : Shared} (h : SP (X.wish E) pins D f s') : SP X pins D f s' := by
  cases f with
  | next => obtain ⟨σ', H', I, q⟩ := h; exact ⟨σ', H', I.unwish, q⟩
  | brk => obtain ⟨σ', H', I, q⟩ := h; exact ⟨σ', H', I.unwish, q⟩
  | cont => obtain ⟨σ', H', I, q⟩ := h; exact ⟨σ', H', I.unwish, q⟩
  | ret u => obtain ⟨v, σ', H', I, r, q⟩ := h; exact ⟨v, σ', H', I.unwish, r, q⟩
theorem PSs.nox {st : List Stmt} {t : TS} (h : PSs X.nox st t) : PSs X st t := fun pins s σ H D I hw =>
  wpAny_mono (h pins s σ H D (I.wish _) hw) (fun _ _ q => q.unwish) fun _ _ z => False.elim z
end
section
variable {X : Cx} {st : Stmt} {rest : List Stmt} {t u : TS} {e : Expr} {te : TE} {pos : Pos}
def tNext : TS := fun D σ H => D.nx σ H
def tSeq (t u : TS) : TS := fun D σ H => t { D with nx := u D } σ H
theorem pss_nil : PSs X [] tNext := fun _ _ σ H _ I h => wpAny_execs_nil ⟨σ, H, I, h⟩
theorem pss_cons (h1 : PS X st t) (h2 : PSs X rest u) : PSs X (st :: rest) (tSeq t u) := by
  intro pins s σ H D I h
  refine wpAny_execs_cons (thn (h1 pins s σ H { D with nx := u D } I h) fun f s1 q => ?_)
  cases f with
  | next =>
    obtain ⟨σ', H', I', q⟩ := q
    exact h2 pins s1 σ' H' D I' q
  | ret v => exact q
  | brk => exact q
  | cont => exact q
theorem pss_one (h1 : PS X st t) : PSs X [st] t := by
  intro pins s σ H D I h
  refine wpAny_execs_cons (thn (h1 pins s σ H D I h) fun f s1 q => ?_)
  cases f with
  | next => exact wpAny_execs_nil q
  | ret v => exact q
  | brk => exact q
  | cont => exact q
/-- in a def's body nothing is shown -/
theorem Inv.quiet {pins : List (Addr × Obj)} {σ : St} {H : Hp} {s : Shared} (I : Inv X pins σ H s) : interactive X.env = false := by simp [interactive, I.ok.kind]
/-- an expression whose value is dropped -/
def tDrop (te : TE) : TS := fun D σ H => te σ H fun _ H1 => D.nx σ H1
theorem ps_expr (he : PE X e te) (hs : swapsWith e none pos.line X.env = pure false := by rfl) : PS X (.Expr e pos) (tDrop te) := by
  intro pins s σ H D I h
  exact wpAny_Expr_any (thn (he pins s σ H _ I h) fun v s1 ⟨x, H1, I1, r1, q1⟩ => ⟨σ, H1, I1, q1⟩) I.quiet hs
def tRet (te : TE) : TS := fun D σ H => te σ H D.rt
theorem ps_ret (he : PE X e te) : PS X (.Return (some e) pos) (tRet te) := by
  intro pins s σ H D I h
  exact wpAny_Return_some (thn (he pins s σ H _ I h) fun v s1 ⟨x, H1, I1, r1, q1⟩ => ⟨x, σ, H1, I1, r1, q1⟩)
def tRetN : TS := fun D _ H => D.rt .non H
def tIfS (c : TT) (t u : TS) : TS := fun D σ H => c σ H fun b H1 => if b = true then t D σ H1 else u D σ H1
theorem ps_if {c : Expr} {a b : List Stmt} {tc : TT} (hc : PT X c tc) (ha : PSs X a t) (hb : PSs X b u) : PS X (.If c a b pos) (tIfS tc t u) := by
  intro pins s σ H D I h
  refine wpAny_If (thn (hc pins s σ H _ I h) fun d s1 ⟨H1, I1, q1⟩ => ?_)
  cases d with
  | true => exact ha pins s1 σ H1 D I1 q1
  | false => exact hb pins s1 σ H1 D I1 q1
end
abbrev TG := V → St → Hp → (St → Hp → Prop) → Prop
abbrev TGs := List V → St → Hp → (St → Hp → Prop) → Prop
def PG (X : Cx) (target : Expr) (t : TG) : Prop :=
  ∀ (pins : List (Addr × Obj)) (s : Shared) (σ : St) (H : Hp) (v : V) (u : Value) (Q : St → Hp → Prop), Inv X pins σ H s → RelV v u → t v σ H Q →
    wpAny (model X.prog X.w) X.A (assign target X.env u) (fun _ s' => ∃ σ' H', Inv X pins σ' H' s' ∧ Q σ' H') X.xe s
/-- several targets, one after another -/
def PGs (X : Cx) (ts : List Expr) (t : TGs) : Prop :=
  ∀ (pins : List (Addr × Obj)) (s : Shared) (σ : St) (H : Hp) (vs : List V) (us : List Value) (Q : St → Hp → Prop), Inv X pins σ H s → Vals vs us → t vs σ H Q →
    wpAny (model X.prog X.w) X.A (assignInOrder ((assignEach ts X.env).map (·.2)) us) (fun _ s' => ∃ σ' H', Inv X pins σ' H' s' ∧ Q σ' H') X.xe s
section
variable {X : Cx} {pos : Pos}
def gName (i : Nat) : TG := fun v σ H Q => Q (σ.set i (some v)) H
theorem pg_name {i : Nat} {x : Str} (hN : X.N.Nodup) (hi : X.N[i]? = some x) (hx : Loc X.env.scope x) (hf : X.fn x = true ∨ X.env.scope.names.lookup x = some .local := by first | exact .inl rfl | exact .inr rfl | assumption) : PG X (.Name x pos) (gName i) := by
  intro pins s σ H v u Q I r h
  exact wpAny_assign_Name (store_ok I hN hi hx r (fun s' I' => ⟨_, H, I', h⟩) hf)
def gNil : TGs := fun vs σ H Q => vs = [] ∧ Q σ H
def gCons (t : TG) (u : TGs) : TGs := fun vs σ H Q => ∃ v r, vs = v :: r ∧ t v σ H fun σ' H' => u r σ' H' Q
theorem pgs_nil : PGs X [] gNil := by
  intro pins s σ H vs us Q I r h
  obtain ⟨e, h⟩ := h
  subst e
  cases r
  exact assignInOrder_nil ⟨σ, H, I, h⟩
theorem pgs_cons {e : Expr} {es : List Expr} {t : TG} {u : TGs} (h1 : PG X e t) (h2 : PGs X es u)
    (hs : (assignEach (e :: es) X.env).map (·.2) = assign e X.env :: (assignEach es X.env).map (·.2) := by rfl) : PGs X (e :: es) (gCons t u) := by
  intro pins s σ H vs us Q I r h
  obtain ⟨v, vr, e1, h⟩ := h
  subst e1
  cases r with
  | cons r rr =>
    rw [hs]
    refine assignInOrder_cons (thn (h1 pins s σ H _ _ _ I r h) fun _ s1 ⟨σ1, H1, I1, q1⟩ => ?_)
    exact h2 pins s1 σ1 H1 _ _ Q I1 rr q1
/-- (a, b, ..) = a tuple of that length -/
def gTup (K : PySem.W.Frag) (n : Nat) (t : TGs) : TG := fun v σ H Q => ∃ a xs, v = .ref a ∧ SqT K H a xs ∧ xs.length = n ∧ t xs σ H Q
theorem pg_tup {es : List Expr} {k : Nat} {t : TGs} {n : Nat} (hc : X.calm = true) (h : PGs X es t)
    (hn : (assignEach es X.env).length = n := by rfl) (hst : (assignEach es X.env).findIdx? (·.1) = none := by rfl) : PG X (.Tuple es k pos) (gTup X.K n t) := by
  intro pins s σ H v u Q I r hw
  obtain ⟨a, xs, e1, hq, hl, hw⟩ := hw
  subst e1
  cases r
  obtain ⟨its, rv, ht, hz⟩ := I.tuple hq
  refine assign_Tuple_tuple (I.ok.hd hc) ht (by simp [hn, ← hl, rv.length]) hst fun h' hx => ?_
  have I1 : Inv X pins σ H { s with heap := h' } := I.kept (t' := s.toks) fun b o e => hx b o (Nat.ne_of_lt (Heap.lt_size e)) e
  exact h pins _ σ H xs _ Q I1 (by simpa using rv) hw
/-- target = value -/
def tAsg (te : TE) (g : TG) : TS := fun D σ H => te σ H fun x H1 => g x σ H1 D.nx
/-- name = value -/
theorem ps_set {i : Nat} {x : Str} {e : Expr} {te : TE} {pos' : Pos} (hN : X.N.Nodup) (hi : X.N[i]? = some x) (hx : Loc X.env.scope x) (he : PE X e te) (hs : swapsWith e (some (.Name x pos')) pos.line X.env = pure false := by rfl) (hf : X.fn x = true ∨ X.env.scope.names.lookup x = some .local := by first | exact .inl rfl | exact .inr rfl | assumption) :
    PS X (.Assign [.Name x pos'] e pos) (tAsg te (gName i)) := by
  intro pins s σ H D I h
  refine wpAny_Assign_Name (thn (he pins s σ H _ I h) fun v s1 ⟨y, H1, I1, r1, q1⟩ => ?_) hs
  exact store_ok I1 hN hi hx r1 (fun s2 I2 => ⟨_, H1, I2, q1⟩) hf
end
section
variable {X : Cx} {pos : Pos}
/-- the invariant W with its measure -/
def tWhile (c : TT) (tb : TS) : TS := fun D σ H => ∃ W : Nat → St → Hp → Prop, (∃ m, W m σ H) ∧ ∀ m σ H, W m σ H →
  c σ H fun b H1 => if b = true then ∃ N : St → Hp → Prop, (∀ σ' H', N σ' H' → ∃ m', m' < m ∧ W m' σ' H') ∧ tb { D with nx := N, ct := N, bk := D.nx } σ H1 else D.nx σ H1
theorem ps_while {c : Expr} {body : List Stmt} {tc : TT} {tb : TS} (hp : PassesOwn (model X.prog X.w) X.A X.env X.xe) (hc : PT X c tc) (hb : PSs X body tb) : PS X (.While c body [] pos) (tWhile tc tb) := by
  intro pins s σ H D I h
  obtain ⟨W, ⟨m0, w0⟩, turn⟩ := h
  refine wpAny_While (codeAny_whileLoop (fun n s' => ∃ σ' H', Inv X pins σ' H' s' ∧ W n σ' H') ?_ m0 ⟨σ, H, I, w0⟩)
  rintro n s1 ⟨σ1, H1, I1, w1⟩
  refine wpAny_passesOwn hp (thn (hc pins s1 σ1 H1 _ I1 (turn n σ1 H1 w1)) fun b s2 ⟨H2, I2, q2⟩ => ?_)
  cases b with
  | true =>
    obtain ⟨N, hN, q2⟩ := q2
    rw [if_pos rfl]
    refine wpAny_passesOwn hp (thn (hb pins s2 σ1 H2 _ I2 q2) fun f s3 q3 => ?_)
    cases f with
    | next =>
      obtain ⟨σ3, H3, I3, n3⟩ := q3
      obtain ⟨m', hm, w3⟩ := hN σ3 H3 n3
      exact ⟨m', hm, σ3, H3, I3, w3⟩
    | cont =>
      obtain ⟨σ3, H3, I3, n3⟩ := q3
      obtain ⟨m', hm, w3⟩ := hN σ3 H3 n3
      exact ⟨m', hm, σ3, H3, I3, w3⟩
    | brk => exact q3
    | ret v => exact q3
  | false =>
    rw [if_neg Bool.false_ne_true]
    exact wpAny_execs_nil ⟨σ1, H2, I2, q2⟩
end
/-- at turn i: it yields x (the heap may grow), or it stops -/
structure It where
  go : Nat → Hp → Prop
  yld : Nat → Hp → V → Hp → Prop
  stop : Nat → Hp → Prop
/-- the iterator's own objects may turn: they are not the frame's, not pinned, younger than the entry (or a comprehension's own) -/
def FpOk (X : Cx) (pins : List (Addr × Obj)) (H : Hp) (b : Addr) : Prop :=
  H b = none ∧ b ≠ X.env.locals ∧ b ∉ X.fs ∧ (b ∈ X.ex ∨ X.s_0.heap.objs.size ≤ b) ∧ (∀ x c, X.env.cells.lookup x = some c → c ≠ b) ∧ ∀ p ∈ X.pn ++ pins, p.1 ≠ b
theorem Inv.fpOk {X : Cx} {pins : List (Addr × Obj)} {σ : St} {H H' : Hp} {s : Shared} {b : Addr} (I : Inv X pins σ H s) (hb : s.heap.objs.size ≤ b) (hn : H' b = none) : FpOk X pins H' b := by
  refine ⟨hn, Nat.ne_of_gt (Nat.lt_of_lt_of_le I.lt hb), I.nofs hb, .inr (Nat.le_trans I.sz hb), fun x c e z => ?_, fun p hp z => ?_⟩
  · obtain ⟨v, q⟩ := I.cell x c e
    exact absurd (Nat.lt_of_lt_of_le q.lt (by rw [z]; exact hb)) (Nat.lt_irrefl _)
  · exact absurd (Nat.lt_of_lt_of_le (Heap.lt_size (I.pin p hp).1) (by rw [z]; exact hb)) (Nat.lt_irrefl _)
structure Turn (P : Program) (w : World) (K : PySem.W.Frag) (tg : Expr) (J : It) (fp : List Addr) (it : Addr) (tn : Nat → Heap → Prop) : Prop where
  mem : it ∈ fp
  obj : ∀ i h, tn i h → ∀ b ∈ fp, ∃ o, h.get? b = some o ∧ ∀ v, o.data ≠ .cell v
  keep : ∀ i h h', tn i h → (∀ b ∈ fp, ∀ o, h.get? b = some o → h'.get? b = some o) → tn i h'
  item : ∀ (X : Cx), X.prog = P → X.w = w → X.K = K → X.calm = true → ∀ (i : Nat) (pins : List (Addr × Obj)) (s : Shared) (σ : St) (H : Hp) (E : Value → Shared → Prop), Inv X pins σ H s → (∀ b ∈ fp, FpOk X pins H b) → tn i s.heap → J.go i H →
    wpAny (model P w) X.A (pyNext (.ref it)) (fun r s1 => ∃ u, r = some u ∧
      wpAny (model P w) X.A (letOwnedTupleGo tg (.ref it) u) (fun _ s2 => ∃ x H', Inv X pins σ H' s2 ∧ RelV x u ∧ J.yld i H x H' ∧ tn (i + 1) s2.heap ∧ ∀ b ∈ fp, H' b = none) E s1) E s
  done : ∀ (X : Cx), X.prog = P → X.w = w → X.K = K → X.calm = true → ∀ (i : Nat) (pins : List (Addr × Obj)) (s : Shared) (σ : St) (H : Hp) (E : Value → Shared → Prop), Inv X pins σ H s → (∀ b ∈ fp, FpOk X pins H b) → tn i s.heap → J.stop i H →
    wpAny (model P w) X.A (pyNext (.ref it)) (fun r s1 => r = none ∧ Inv X pins σ H s1) E s
  self : ∀ (A : Around) (i : Nat) (s : Shared) (Q : Value → Shared → Prop) (E : Value → Shared → Prop), tn i s.heap → Q (.ref it) s → wpAny (model P w) A (pyIter (.ref it)) Q E s
abbrev TI := St → Hp → (It → Hp → Prop) → Prop
/-- an iterator has come -/
def PIE (X : Cx) (pins : List (Addr × Obj)) (σ : St) (tg : Expr) (R : It → Hp → Prop) (itv : Value) (s2 : Shared) : Prop :=
  ∃ (it : Addr) (fp : List Addr) (tn : Nat → Heap → Prop) (J : It) (H' : Hp), itv = .ref it ∧ Inv X pins σ H' s2 ∧ Turn X.prog X.w X.K tg J fp it tn ∧ tn 0 s2.heap ∧ (∀ b ∈ fp, FpOk X pins H' b) ∧ R J H'
def PI (X : Cx) (tg iter : Expr) (wi : TI) : Prop :=
  ∀ (pins : List (Addr × Obj)) (s : Shared) (σ : St) (H : Hp) (R : It → Hp → Prop), Inv X pins σ H s → wi σ H R →
    wpAny (model X.prog X.w) X.A (eval iter X.env) (fun v s1 => wpAny (model X.prog X.w) X.A (pyIter v) (PIE X pins σ tg R) X.xe s1) X.xe s
/-- the step ahead of the store is nothing for an iterator that keeps no tuple -/
theorem go_of {M : Model} {A : Around} {E : Value → Shared → Prop} {s : Shared} {tg : Expr} {it : Addr} {u : Value} {o : Obj} {n : String} {vs : Array Value} {Q : Unit → Shared → Prop} (ho : s.heap.get? it = some o) (hc : o.cls = .type n) (hd : o.data = .fields vs)
    (hn : ["enumerate", "zip", "dict_itemiterator", "dict_reverseitemiterator", "odict_iterator", "itertools.zip_longest", "itertools.pairwise"].contains n = false) (hQ : Q () s) : wpAny M A (letOwnedTupleGo tg (.ref it) u) Q E s := by
  unfold letOwnedTupleGo
  cases tg <;> first
    | exact wpAny_pure hQ
    | (cases u <;> first
        | exact wpAny_pure hQ
        | (refine wpAny_bind (wpAny_load ho ?_)
           rw [hc, hd]
           show wpAny M A (if (["enumerate", "zip", "dict_itemiterator", "dict_reverseitemiterator", "odict_iterator", "itertools.zip_longest", "itertools.pairwise"].contains n && vs[0]? == some (rawInt _)) = true then _ else _) Q E s
           rw [if_neg (by intro h; rw [hn, Bool.false_and] at h; cases h)]
           exact wpAny_pure hQ))
/-- the list at a, as it stands at each turn (a loop may append to it) -/
def Itl (K : PySem.W.Frag) (a : Addr) : It :=
  ⟨fun i H => ∃ xs x, SqL K H a xs ∧ xs[i]? = some x, fun i H x H' => H' = H ∧ ∀ xs, SqL K H a xs → xs[i]? = some x, fun i H => ∃ xs, SqL K H a xs ∧ xs.length ≤ i⟩
/-- lo, lo + 1, .. (n of them) -/
def Itr (lo : Int) (n : Nat) : It := ⟨fun i _ => i < n, fun i H x H' => H' = H ∧ x = .int (lo + i), fun i _ => n ≤ i⟩
theorem turn_list {P : Program} {w : World} {K : PySem.W.Frag} {tg : Expr} (a it : Addr) : Turn P w K tg (Itl K a) [it] it (fun i h => h.IsListIter it a i) where
  mem := by simp
  obj := fun i h st b hb => by
    have e : b = it := by simpa using hb
    subst e
    obtain ⟨o, e, c, d⟩ := st
    exact ⟨o, e, fun v z => by rw [d] at z; cases z⟩
  keep := fun i h h' st k => st.at fun o e => k it (by simp) o e
  item := by
    intro X hP hw hK hc i pins s σ H E I hf st hg
    subst hP hw hK
    obtain ⟨xs, x, hq, hx⟩ := hg
    obtain ⟨its, rv, p, hz⟩ := I.list hq
    obtain ⟨u, hu, ru⟩ := rv.get hx
    obtain ⟨f0, f1, f2, f3, f4, f5⟩ := hf it (by simp)
    refine wpAny_pyNext_list_item st p.isList (x := u) (by simpa using hu) fun h' st' sb => ?_
    have I1 : Inv X pins σ H { s with heap := h' } := I.turned (t' := s.toks) (fun b o hb e => (sb.2 b hb).trans e) f0 f1 f3 f4 f5
    obtain ⟨o, e, c, d⟩ := id st'
    exact ⟨u, rfl, go_of (s := { s with heap := h' }) e c d (by decide) ⟨x, H, I1, ru, ⟨rfl, fun ys hy => by rw [I.list_inj hy hq]; exact hx⟩, st', fun b hb => (hf b hb).1⟩⟩
  done := by
    intro X hP hw hK hc i pins s σ H E I hf st hg
    subst hP hw hK
    obtain ⟨xs, hq, hx⟩ := hg
    obtain ⟨its, rv, p, hz⟩ := I.list hq
    obtain ⟨f0, f1, f2, f3, f4, f5⟩ := hf it (by simp)
    have hl := rv.length
    exact wpAny_pyNext_list_end (I.ok.hd hc) st p.isList (by simp; omega) fun h' eb => ⟨rfl, I.turned (t' := s.toks) (fun b o hb e => eb b o hb e) f0 f1 f3 f4 f5⟩
  self := fun _ _ _ _ _ st h => wpAny_pyIter_listiter st h
theorem turn_range {P : Program} {w : World} {K : PySem.W.Frag} {tg : Expr} (it : Addr) (lo : Int) (n : Nat) : Turn P w K tg (Itr lo n) [it] it (fun i h => IsRangeIter h it (lo + (i : Nat) * 1) ((n : Int) - (i : Nat)) 1) where
  mem := by simp
  obj := fun i h st b hb => by
    have e : b = it := by simpa using hb
    subst e
    exact ⟨_, st, fun v z => by
      have z' : Data.fields _ = Data.cell v := z
      cases z'⟩
  keep := fun i h h' st k => k it (by simp) _ st
  item := by
    intro X hP hw hK hc i pins s σ H E I hf st hg
    subst hP hw hK
    obtain ⟨f0, f1, f2, f3, f4, f5⟩ := hf it (by simp)
    have W := Walks.range (prog := X.prog) (w := X.w) (I.ok.hd hc) it lo 1 n
    refine W.item i s _ _ hg st fun v h' tk hv st' kk => ?_
    obtain ⟨t, rfl⟩ := hv
    have I1 : Inv X pins σ H { s with heap := h', toks := tk } := I.turned (fun b o hb e => kk b o (by simpa using hb) e) f0 f1 f3 f4 f5
    refine ⟨_, rfl, go_of (s := { s with heap := h', toks := tk }) (n := "range_iterator") st' rfl rfl (by decide) ⟨.int (lo + i), H, I1, ⟨t, ?_⟩, ⟨rfl, rfl⟩, st', fun b hb => (hf b hb).1⟩⟩
    rw [Int.mul_one]
  done := by
    intro X hP hw hK hc i pins s σ H E I hf st hg
    subst hP hw hK
    obtain ⟨f0, f1, f2, f3, f4, f5⟩ := hf it (by simp)
    exact wpAny_pyNext_range_end (I.ok.hd hc) st (by have : n ≤ i := hg; omega) fun h' eb => ⟨rfl, I.turned (t' := s.toks) (fun b o hb e => eb b o hb e) f0 f1 f3 f4 f5⟩
  self := fun _ _ _ _ _ st h => wpAny_pyIter_rangeiter st h
end L2
namespace L2
open PySem PySem.Spec PyProof.Rows
section
variable {X : Cx} {tg : Expr}
def iList (K : PySem.W.Frag) (tl : TE) : TI := fun σ H R => tl σ H fun x H1 => ∃ a, x = .ref a ∧ (∃ xs, SqL K H1 a xs) ∧ R (Itl K a) H1
theorem pi_list {l : Expr} {tl : TE} (hl : PE X l tl) : PI X tg l (iList X.K tl) := by
  intro pins s σ H R I h
  refine thn (hl pins s σ H _ I h) fun v s1 ⟨x, H1, I1, r1, q1⟩ => ?_
  obtain ⟨a, e, ⟨xs, hq⟩, q⟩ := q1
  subst e
  cases r1
  obtain ⟨its, rv, p, hz⟩ := I1.list hq
  refine wpAny_pyIter_list p.isList ?_
  refine ⟨s1.heap.objs.size, [s1.heap.objs.size], _, _, H1, rfl, I1.kept (t' := s1.toks) fun b o e => Heap.get?_push_of_some _ e, turn_list a _, ⟨_, Heap.get?_push_size _ rfl, rfl, rfl⟩, fun b hb => ?_, q⟩
  have e : b = s1.heap.objs.size := by simpa using hb
  subst e
  exact I1.fpOk (Nat.le_refl _) (I1.hok.fresh (Nat.le_refl _))
/-- a range object just made, walked -/
theorem range_it {pins : List (Addr × Obj)} {σ : St} {H : Hp} {s : Shared} {R : It → Hp → Prop} {E : Value → Shared → Prop} {lo hi : Int} {t u v : Tok} {tk : Nat} (I : Inv X pins σ H s) (h1 : -(2 ^ 62) ≤ lo) (h2 : lo < 2 ^ 62) (h3 : -(2 ^ 62) ≤ hi) (h4 : hi < 2 ^ 62)
    (q : R (Itr lo (hi - lo).toNat) H) : wpAny (model X.prog X.w) X.A (pyIter (.ref s.heap.objs.size)) (PIE X pins σ tg R) E { s with heap := s.heap.push { cls := .type "range", data := .fields #[.int lo t, .int hi u, .int 1 v] }, toks := tk } := by
  refine wpAny_pyIter_range (IsRange.new ..) (small_one h1 h2 h3 h4) ?_
  have I1 : Inv X pins σ H { s with heap := s.heap.push { cls := .type "range", data := .fields #[.int lo t, .int hi u, .int 1 v] }, toks := tk } := I.kept fun b o e => Heap.get?_push_of_some _ e
  refine ⟨(s.heap.push { cls := .type "range", data := .fields #[.int lo t, .int hi u, .int 1 v] }).objs.size, [(s.heap.push { cls := .type "range", data := .fields #[.int lo t, .int hi u, .int 1 v] }).objs.size], _, _, H, rfl,
    I1.kept (t' := tk) fun b o e => Heap.get?_push_of_some _ e, turn_range _ lo (hi - lo).toNat, ?_, fun b hb => ?_, q⟩
  · have e1 : lo + ((0 : Nat) : Int) * 1 = lo := by simp
    have e2 : (((hi - lo).toNat : Nat) : Int) - ((0 : Nat) : Int) = Builtin.Range.rangeSize lo hi 1 := by rw [rangeSize_one]; split <;> omega
    show IsRangeIter _ _ (lo + ((0 : Nat) : Int) * 1) ((((hi - lo).toNat : Nat) : Int) - ((0 : Nat) : Int)) 1
    rw [e1, e2]
    exact Heap.get?_push_size _ rfl
  · have e : b = (s.heap.push { cls := .type "range", data := .fields #[.int lo t, .int hi u, .int 1 v] }).objs.size := by simpa using hb
    subst e
    exact I1.fpOk (Nat.le_refl _) (I1.hok.fresh (Nat.le_refl _))
def iRng1 (ta : TA) : TI := fun σ H R => ta σ H fun vs H1 => ∃ j : Int, vs = [.int j] ∧ -(2 ^ 62) ≤ j ∧ j < 2 ^ 62 ∧ R (Itr 0 j.toNat) H1
theorem pi_range1 {a : Expr} {ta : TA} {p pos : Pos} (hg : Gl X "range") (hm : X.mg "range" = none) (ha : PA X [a] ta) (hs : starEach [a] X.env = [(false, eval a X.env)] := by rfl) : PI X tg (.Call (.Name "range" p) [a] [] pos) (iRng1 ta) := by
  intro pins s σ H R I h
  refine Call_ (ld_blt I hg hm boot_range (PyProof.Rows.callWith_type1 (thn (ha pos pins s σ H _ I h) fun us s1 ⟨vs, H1, I1, r1, q1⟩ => ?_) hs rfl))
  obtain ⟨j, e, q1, q2, q⟩ := q1
  subst e
  cases r1 with
  | cons r rr =>
    cases rr
    obtain ⟨t, rfl⟩ := r
    exact call_range_1 (range_it I1 (by omega) (by omega) q1 q2 (by simpa using q))
/-- W: the invariant by the turn and a measure; N: what the body is to reach -/
def tFor (wi : TI) (g : TG) (tb : TS) : TS := fun D σ H => wi σ H fun J H1 => ∃ W : Nat → Nat → St → Hp → Prop, (∃ m, W 0 m σ H1) ∧ ∀ i m σ H, W i m σ H →
  (J.stop i H ∧ D.nx σ H) ∨ (J.go i H ∧ ∃ N : St → Hp → Prop, (∀ σ' H', N σ' H' → ∃ m', m' < m ∧ W (i + 1) m' σ' H') ∧ ∀ x H', J.yld i H x H' → g x σ H' fun σ2 H2 => tb { D with nx := N, ct := N, bk := D.nx } σ2 H2)
/-- the records at fp as they stand -/
def pinsAt (fp : List Addr) (h : Heap) : List (Addr × Obj) := fp.filterMap fun b => (h.get? b).map fun o => (b, o)
theorem mem_pinsAt {fp : List Addr} {h : Heap} {b : Addr} {o : Obj} (hb : b ∈ fp) (e : h.get? b = some o) : (b, o) ∈ pinsAt fp h := List.mem_filterMap.mpr ⟨b, hb, by rw [e]; rfl⟩
theorem of_pinsAt {fp : List Addr} {h : Heap} {p : Addr × Obj} (hp : p ∈ pinsAt fp h) : p.1 ∈ fp ∧ h.get? p.1 = some p.2 := by
  obtain ⟨b, hb, e⟩ := List.mem_filterMap.mp hp
  cases q : h.get? b with
  | none => rw [q] at e; cases e
  | some o =>
    rw [q] at e
    have e' : (b, o) = p := Option.some.inj e
    subst e'
    exact ⟨hb, q⟩
theorem Inv.pinned {pins : List (Addr × Obj)} {σ : St} {H : Hp} {s : Shared} {fp : List Addr} (I : Inv X pins σ H s) (hf : ∀ b ∈ fp, FpOk X pins H b) (ho : ∀ b ∈ fp, ∃ o, s.heap.get? b = some o ∧ ∀ v, o.data ≠ .cell v) : Inv X (pins ++ pinsAt fp s.heap) σ H s :=
  I.pins_of fun p hp => (List.mem_append.mp hp).elim (fun z => I.pin p (List.mem_append_right _ z)) fun z => by
    obtain ⟨hb, e⟩ := of_pinsAt z
    obtain ⟨f0, f1, f2, _⟩ := hf p.1 hb
    obtain ⟨o, e', d⟩ := ho p.1 hb
    rw [e] at e'; cases e'
    exact ⟨e, f0, f1, f2, d⟩
theorem Inv.unpinned {pins pl : List (Addr × Obj)} {σ : St} {H : Hp} {s : Shared} (I : Inv X (pins ++ pl) σ H s) : Inv X pins σ H s := I.pins_of fun p hp => I.pin p (List.mem_append_right _ (List.mem_append_left _ hp))
theorem ps_for {iter : Expr} {body : List Stmt} {wi : TI} {g : TG} {tb : TS} {pos : Pos} (hp : PassesOwn (model X.prog X.w) X.A X.env X.xe) (hc : X.calm = true) (hi : PI X tg iter wi) (hg : PG X tg g) (hb : PSs X body tb)
    (hs : ∀ x, foldedSetIterable iter X.env x = pure x := by intro _; rfl) : PS X (.For tg iter body [] pos) (tFor wi g tb) := by
  intro pins s σ H D I h
  refine wpAny_For (thn (hi pins s σ H _ I h) fun v s1 h1 => thn h1 fun itv s2 h2 => ?_) hs
  obtain ⟨it, fp, tn, J, H2, e, I2, T, st2, f2, W, ⟨m0, w0⟩, turn⟩ := h2
  subst e
  -- what stays true of the iterator's objects through the loop
  have stat : ∀ {H' : Hp}, (∀ b ∈ fp, H' b = none) → ∀ b ∈ fp, FpOk X pins H' b := fun hn b hb => ⟨hn b hb, (f2 b hb).2⟩
  refine codeAny_forLoop_any (fun n s' => ∃ i σ' H', Inv X pins σ' H' s' ∧ tn i s'.heap ∧ (∀ b ∈ fp, H' b = none) ∧ W i n σ' H') ?_ m0 ⟨0, σ, H2, I2, st2, fun b hb => (f2 b hb).1, w0⟩
  rintro n s3 ⟨i, σ3, H3, I3, st3, fr3, w3⟩
  rcases turn i n σ3 H3 w3 with ⟨stop, qn⟩ | ⟨go, N, hN, step⟩
  · refine wpAny_passesOwn hp (thn (T.done X rfl rfl rfl hc i pins s3 σ3 H3 X.xe I3 (stat fr3) st3 stop) fun r s4 ⟨hr, I4⟩ => ?_)
    subst hr
    exact wpAny_execs_nil ⟨σ3, H3, I4, qn⟩
  · refine wpAny_passesOwn hp (thn (T.item X rfl rfl rfl hc i pins s3 σ3 H3 X.xe I3 (stat fr3) st3 go) fun r s4 ⟨u, hr, h4⟩ => ?_)
    subst hr
    refine wpAny_passesOwn hp (thn h4 fun _ s5 ⟨x, H5, I5, r5, y5, st5, fr5⟩ => ?_)
    have I5' := I5.pinned (stat fr5) (T.obj _ _ st5)
    refine wpAny_passesOwn hp (thn (hg _ s5 σ3 H5 x u _ I5' r5 (step x H5 y5)) fun _ s6 ⟨σ6, H6, I6, q6⟩ => ?_)
    refine wpAny_passesOwn hp (thn (hb _ s6 σ6 H6 _ I6 q6) fun f s7 q7 => ?_)
    have again : ∀ {σ7 : St} {H7 : Hp}, Inv X (pins ++ pinsAt fp s5.heap) σ7 H7 s7 → N σ7 H7 → ∃ m, m < n ∧ ∃ i σ' H', Inv X pins σ' H' s7 ∧ tn i s7.heap ∧ (∀ b ∈ fp, H' b = none) ∧ W i m σ' H' := fun {σ7 H7} I7 n7 => by
      obtain ⟨m', hm, w7⟩ := hN σ7 H7 n7
      refine ⟨m', hm, i + 1, σ7, H7, I7.unpinned, T.keep _ _ _ st5 fun b hb o e => (I7.pin (b, o) (List.mem_append_right _ (List.mem_append_right _ (mem_pinsAt hb e)))).1, fun b hb => ?_, w7⟩
      obtain ⟨o, e, d⟩ := T.obj _ _ st5 b hb
      exact (I7.pin (b, o) (List.mem_append_right _ (List.mem_append_right _ (mem_pinsAt hb e)))).2.1
    cases f with
    | next => obtain ⟨σ7, H7, I7, n7⟩ := q7; exact again I7 n7
    | cont => obtain ⟨σ7, H7, I7, n7⟩ := q7; exact again I7 n7
    | brk => obtain ⟨σ7, H7, I7, q7⟩ := q7; exact ⟨σ7, H7, I7.unpinned, q7⟩
    | ret v => obtain ⟨x7, σ7, H7, I7, r7, q7⟩ := q7; exact ⟨x7, σ7, H7, I7.unpinned, r7, q7⟩
end
/-- over a list that the body leaves as it is -/
theorem for_list {K : PySem.W.Frag} {a : Addr} {xs : List V} {g : TG} {tb : TS} {D : Ends} {σ : St} {H : Hp} (Pv : Nat → St → Hp → Prop) (h0 : Pv 0 σ H) (hl : ∀ i σ H, i ≤ xs.length → Pv i σ H → SqL K H a xs)
    (hs : ∀ i x σ H, xs[i]? = some x → Pv i σ H → g x σ H fun σ2 H2 => tb { D with nx := Pv (i + 1), ct := Pv (i + 1), bk := D.nx } σ2 H2) (hd : ∀ σ H, Pv xs.length σ H → D.nx σ H) :
    ∃ W : Nat → Nat → St → Hp → Prop, (∃ m, W 0 m σ H) ∧ ∀ i m σ H, W i m σ H →
      ((Itl K a).stop i H ∧ D.nx σ H) ∨ ((Itl K a).go i H ∧ ∃ N : St → Hp → Prop, (∀ σ' H', N σ' H' → ∃ m', m' < m ∧ W (i + 1) m' σ' H') ∧ ∀ x H', (Itl K a).yld i H x H' → g x σ H' fun σ2 H2 => tb { D with nx := N, ct := N, bk := D.nx } σ2 H2) := by
  refine ⟨fun i m σ H => m = xs.length - i ∧ i ≤ xs.length ∧ Pv i σ H, ⟨xs.length, by simp, Nat.zero_le _, h0⟩, ?_⟩
  rintro i m σ H ⟨rfl, hi, p⟩
  have q := hl i σ H hi p
  by_cases hlt : i < xs.length
  · refine .inr ⟨⟨xs, xs[i], q, by simp [hlt]⟩, Pv (i + 1), fun σ' H' p' => ⟨xs.length - (i + 1), by omega, rfl, hlt, p'⟩, fun x H' y => ?_⟩
    obtain ⟨e, y⟩ := y
    subst e
    exact hs i x σ _ (y xs q) p
  · have e : i = xs.length := by omega
    subst e
    exact .inl ⟨⟨xs, q, Nat.le_refl _⟩, hd σ H p⟩
theorem for_range {lo : Int} {n : Nat} {g : TG} {tb : TS} {D : Ends} {σ : St} {H : Hp} (Pv : Nat → St → Hp → Prop) (h0 : Pv 0 σ H)
    (hs : ∀ i σ H, i < n → Pv i σ H → g (.int (lo + i)) σ H fun σ2 H2 => tb { D with nx := Pv (i + 1), ct := Pv (i + 1), bk := D.nx } σ2 H2) (hd : ∀ σ H, Pv n σ H → D.nx σ H) :
    ∃ W : Nat → Nat → St → Hp → Prop, (∃ m, W 0 m σ H) ∧ ∀ i m σ H, W i m σ H →
      ((Itr lo n).stop i H ∧ D.nx σ H) ∨ ((Itr lo n).go i H ∧ ∃ N : St → Hp → Prop, (∀ σ' H', N σ' H' → ∃ m', m' < m ∧ W (i + 1) m' σ' H') ∧ ∀ x H', (Itr lo n).yld i H x H' → g x σ H' fun σ2 H2 => tb { D with nx := N, ct := N, bk := D.nx } σ2 H2) := by
  refine ⟨fun i m σ H => m = n - i ∧ i ≤ n ∧ Pv i σ H, ⟨n, by simp, Nat.zero_le _, h0⟩, ?_⟩
  rintro i m σ H ⟨rfl, hi, p⟩
  by_cases hlt : i < n
  · refine .inr ⟨hlt, Pv (i + 1), fun σ' H' p' => ⟨n - (i + 1), by omega, rfl, hlt, p'⟩, fun x H' y => ?_⟩
    obtain ⟨e, y⟩ := y
    subst e y
    exact hs i σ _ hlt p
  · have e : i = n := by omega
    subst e
    exact .inl ⟨Nat.le_refl _, hd σ H p⟩
/-- while, by a word and a measure of the state -/
theorem while_by {c : TT} {tb : TS} {D : Ends} {σ : St} {H : Hp} (Pv : St → Hp → Prop) (μ : St → Hp → Nat) (h0 : Pv σ H)
    (hs : ∀ σ H, Pv σ H → c σ H fun b H1 => if b = true then tb { D with nx := fun σ' H' => Pv σ' H' ∧ μ σ' H' < μ σ H, ct := fun σ' H' => Pv σ' H' ∧ μ σ' H' < μ σ H, bk := D.nx } σ H1 else D.nx σ H1)
    (mono : ∀ σ H Q Q', (∀ b H1, Q b H1 → Q' b H1) → c σ H Q → c σ H Q') : tWhile c tb D σ H := by
  refine ⟨fun m σ H => m = μ σ H ∧ Pv σ H, ⟨_, rfl, h0⟩, ?_⟩
  rintro m σ H ⟨rfl, p⟩
  refine mono σ H _ _ (fun b H1 q => ?_) (hs σ H p)
  cases b with
  | true => exact ⟨_, fun σ' H' ⟨p', l⟩ => ⟨_, l, rfl, p'⟩, q⟩
  | false => exact q
end L2
namespace L2
open PySem PySem.Spec PyProof.Rows
abbrev R2 := V → V → Hp → VK → Prop
/-- a two-place operation on values: f is binaryOp op, inplaceOp op or compareOp op -/
def OpR (X : Cx) (f : Value → Value → Sem Value) (r : R2) : Prop :=
  ∀ (pins : List (Addr × Obj)) (s : Shared) (σ : St) (H : Hp) (x y : V) (v u : Value) (Q : VK), Inv X pins σ H s → RelV x v → RelV y u → r x y H Q →
    wpAny (model X.prog X.w) X.A (f v u) (EP X pins σ Q) X.xe s
/-- a one-place operation -/
def UnR (X : Cx) (f : Value → Sem Value) (r : V → Hp → VK → Prop) : Prop :=
  ∀ (pins : List (Addr × Obj)) (s : Shared) (σ : St) (H : Hp) (x : V) (v : Value) (Q : VK), Inv X pins σ H s → RelV x v → r x H Q →
    wpAny (model X.prog X.w) X.A (f v) (EP X pins σ Q) X.xe s
/-- a call of a value that is known (a builtin, a type) with values -/
def CallR (X : Cx) (f : Value) (r : List V → Hp → VK → Prop) : Prop :=
  ∀ (pins : List (Addr × Obj)) (s : Shared) (σ : St) (H : Hp) (xs : List V) (us : List Value) (Q : VK), Inv X pins σ H s → Vals xs us → r xs H Q →
    wpAny (model X.prog X.w) X.A (call f us) (EP X pins σ Q) X.xe s
def tOp (r : R2) (ta tb : TE) : TE := fun σ H Q => ta σ H fun x H1 => tb σ H1 fun y H2 => r x y H2 Q
def tUn (r : V → Hp → VK → Prop) (ta : TE) : TE := fun σ H Q => ta σ H fun x H1 => r x H1 Q
/-- ints in, under C, and a value out -/
def rI (C : Int → Int → Prop) (g : Int → Int → V) : R2 := fun x y H Q => ∃ i j, x = .int i ∧ y = .int j ∧ C i j ∧ Q (g i j) H
def rI0 (g : Int → Int → V) : R2 := fun x y H Q => ∃ i j, x = .int i ∧ y = .int j ∧ Q (g i j) H
def rU (g : Int → V) : V → Hp → VK → Prop := fun x H Q => ∃ i, x = .int i ∧ Q (g i) H
section
variable {X : Cx} {a b c : Expr} {ta tb tc : TE} {pos : Pos}
theorem binT (ha : PE X a ta) (hb : PE X b tb) {pins : List (Addr × Obj)} {s : Shared} {σ : St} {H : Hp} {R : V → V → Hp → Prop} (I : Inv X pins σ H s)
    (h : ta σ H fun x H1 => tb σ H1 fun y H2 => R x y H2) {Q : Value → Shared → Prop} {f : Value → Value → Sem Value}
    (hf : ∀ v u s2 x y H2, Inv X pins σ H2 s2 → RelV x v → RelV y u → R x y H2 → wpAny (model X.prog X.w) X.A (f v u) Q X.xe s2) :
    wpAny (model X.prog X.w) X.A (eval a X.env) (fun v s₁ => wpAny (model X.prog X.w) X.A (eval b X.env) (fun u s₂ => wpAny (model X.prog X.w) X.A (f v u) Q X.xe s₂) X.xe s₁) X.xe s := by
  refine thn (ha pins s σ H _ I h) fun v s1 ⟨x, H1, I1, r1, q1⟩ => ?_
  refine thn (hb pins s1 σ H1 _ I1 q1) fun u s2 ⟨y, H2, I2, r2, q2⟩ => ?_
  exact hf v u s2 x y H2 I2 r1 r2 q2
theorem pe_op {op : Operator} {r : R2} (ho : OpR X (binaryOp op) r) (ha : PE X a ta) (hb : PE X b tb) : PE X (.BinOp a op b pos) (tOp r ta tb) := by
  intro pins s σ H Q I h
  exact wpAny_BinOp (binT ha hb I h fun v u s2 x y H2 I2 rx ry q => ho pins s2 σ H2 x y v u Q I2 rx ry q)
theorem pe_un {op : UnaryOp} {r : V → Hp → VK → Prop} (ho : UnR X (unaryOp op) r) (ha : PE X a ta) : PE X (.UnaryOp op a pos) (tUn r ta) := by
  intro pins s σ H Q I h
  exact UnaryOp_ (thn (ha pins s σ H _ I h) fun v s1 ⟨x, H1, I1, r1, q1⟩ => ho pins s1 σ H1 x v Q I1 r1 q1)
theorem opI {f : Value → Value → Sem Value} {C : Int → Int → Prop} {g : Int → Int → Int}
    (rule : ∀ (i j : Int) (t u : Tok) (s : Shared) (Q : Value → Shared → Prop) (E : Value → Shared → Prop), C i j → Q (.int (g i j) s.toks) { s with toks := s.toks + 1 } → wpAny (model X.prog X.w) X.A (f (.int i t) (.int j u)) Q E s) :
    OpR X f (rI C fun i j => .int (g i j)) := by
  intro pins s σ H x y v u Q I rx ry h
  obtain ⟨i, j, rfl, rfl, hc, q⟩ := h
  obtain ⟨t, rfl⟩ := rx
  obtain ⟨t', rfl⟩ := ry
  exact rule i j t t' s _ _ hc ⟨.int (g i j), H, I.tok _, ⟨_, rfl⟩, q⟩
theorem opI0 {f : Value → Value → Sem Value} {g : Int → Int → Int}
    (rule : ∀ (i j : Int) (t u : Tok) (s : Shared) (Q : Value → Shared → Prop) (E : Value → Shared → Prop), Q (.int (g i j) s.toks) { s with toks := s.toks + 1 } → wpAny (model X.prog X.w) X.A (f (.int i t) (.int j u)) Q E s) :
    OpR X f (rI0 fun i j => .int (g i j)) := by
  intro pins s σ H x y v u Q I rx ry h
  obtain ⟨i, j, rfl, rfl, q⟩ := h
  obtain ⟨t, rfl⟩ := rx
  obtain ⟨t', rfl⟩ := ry
  exact rule i j t t' s _ _ ⟨.int (g i j), H, I.tok _, ⟨_, rfl⟩, q⟩
theorem opB0 {f : Value → Value → Sem Value} {g : Int → Int → Bool}
    (rule : ∀ (i j : Int) (t u : Tok) (s : Shared) (Q : Value → Shared → Prop) (E : Value → Shared → Prop), Q (.bool (g i j)) s → wpAny (model X.prog X.w) X.A (f (.int i t) (.int j u)) Q E s) :
    OpR X f (rI0 fun i j => .bl (g i j)) := by
  intro pins s σ H x y v u Q I rx ry h
  obtain ⟨i, j, rfl, rfl, q⟩ := h
  obtain ⟨t, rfl⟩ := rx
  obtain ⟨t', rfl⟩ := ry
  exact rule i j t t' s _ _ ⟨.bl (g i j), H, I, rfl, q⟩
def CMul (i j : Int) : Prop := (-(2 ^ 64) < i ∧ i < 2 ^ 64) ∨ (-(2 ^ 64) < j ∧ j < 2 ^ 64)
theorem CMul.ok {i j : Int} (h : CMul i j) : IntMulOk i j := by
  rcases h with ⟨h1, h2⟩ | ⟨h1, h2⟩
  · exact .of_left (intBits_le_64 h1 h2)
  · exact .of_right (intBits_le_64 h1 h2)
theorem two_pow_nn (k : Nat) : (0 : Int) ≤ 2 ^ k := by
  rw [two_pow_cast]
  exact Int.natCast_nonneg _
theorem op_add : OpR X (binaryOp .Add) (rI0 fun i j => .int (i + j)) := opI0 fun _ _ _ _ _ _ _ q => add_int q
theorem op_sub : OpR X (binaryOp .Sub) (rI0 fun i j => .int (i - j)) := opI0 fun _ _ _ _ _ _ _ q => sub_int q
theorem op_mul : OpR X (binaryOp .Mult) (rI CMul fun i j => .int (i * j)) := opI fun _ _ _ _ _ _ _ hc q => mul_int q hc.ok
/-- % by a positive divisor of any size -/
theorem op_mod : OpR X (binaryOp .Mod) (rI (fun _ j => 0 < j) fun i j => .int (i % j)) := opI fun i j _ _ _ _ _ hc q => by
  have h1 : (0 : Int) < j := hc
  exact mod_int' (by omega) (by rw [Int.fmod_eq_emod_of_nonneg i (by omega)]; exact q)
theorem op_shr : OpR X (binaryOp .RShift) (rI (fun _ j => 0 ≤ j) fun i j => .int (i / 2 ^ j.toNat)) := opI fun i j _ _ _ _ _ hc q =>
  rshift_int hc (by rw [Int.fdiv_eq_ediv_of_nonneg i (two_pow_nn _)]; exact q)
theorem op_and : OpR X (binaryOp .BitAnd) (rI0 fun i j => .int (Builtin.bitAnd i j)) := opI0 fun _ _ _ _ _ _ _ q => and_int q
theorem unI {f : Value → Sem Value} {g : Int → Int}
    (rule : ∀ (i : Int) (t : Tok) (s : Shared) (Q : Value → Shared → Prop) (E : Value → Shared → Prop), Q (.int (g i) s.toks) { s with toks := s.toks + 1 } → wpAny (model X.prog X.w) X.A (f (.int i t)) Q E s) :
    UnR X f (rU fun i => .int (g i)) := by
  intro pins s σ H x v Q I rx h
  obtain ⟨i, rfl, q⟩ := h
  obtain ⟨t, rfl⟩ := rx
  exact rule i t s _ _ ⟨.int (g i), H, I.tok _, ⟨_, rfl⟩, q⟩
theorem un_neg : UnR X (unaryOp .USub) (rU fun i => .int (-i)) := unI fun _ _ _ _ _ q => neg_int q
end
/-- the scalars that == tells apart as data does -/
def scal : V → V → Bool
  | .non, .non => true | .non, .int _ => true | .int _, .non => true | .non, .bl _ => true | .bl _, .non => true | .non, .str _ => true | .str _, .non => true
  | .int _, .int _ => true | .bl _, .bl _ => true | .str _, .str _ => true | .byt _, .byt _ => true
  | .int _, .str _ => true | .str _, .int _ => true | .bl _, .str _ => true | .str _, .bl _ => true
  | _, _ => false
def rEq : R2 := fun x y H Q => scal x y = true ∧ Q (.bl (decide (x = y))) H
def rNe : R2 := fun x y H Q => scal x y = true ∧ Q (.bl (!decide (x = y))) H
theorem dec_int {i j : Int} : decide (V.int i = V.int j) = (i == j) := by
  rw [Bool.eq_iff_iff]
  simp
theorem dec_bl {i j : Bool} : decide (V.bl i = V.bl j) = (i == j) := by
  rw [Bool.eq_iff_iff]
  simp
theorem dec_str {i j : Str} : decide (V.str i = V.str j) = (i == j) := by
  rw [Bool.eq_iff_iff]
  simp
theorem dec_byt {i j : Array UInt8} : decide (V.byt i = V.byt j) = (i.toList == j.toList) := by
  rw [Bool.eq_iff_iff]
  cases i
  cases j
  simp
section
variable {X : Cx} {a b c : Expr} {ta tb tc : TE} {pos : Pos}
theorem fin_bl {pins : List (Addr × Obj)} {σ : St} {H : Hp} {s : Shared} {Q : VK} {k k' : Bool} (I : Inv X pins σ H s) (q : Q (.bl k) H) (e : k = k') : EP X pins σ Q (.bool k') s := by
  subst e
  exact ⟨.bl k, H, I, rfl, q⟩
theorem op_eq : OpR X (compareOp .Eq) rEq := by
  intro pins s σ H x y v u Q I rx ry h
  obtain ⟨hs, q⟩ := h
  cases x with
  | non =>
    cases rx
    cases y with
    | non => cases ry; exact PySem.EqNone.eq_none_none (fin_bl I q (by simp))
    | bl j => cases ry; exact PySem.EqNone.eq_none_bool (fin_bl I q (by simp))
    | int j => obtain ⟨t', rfl⟩ := ry; exact PySem.EqNone.eq_none_int (fin_bl I q (by simp))
    | str j => obtain ⟨t', rfl⟩ := ry; exact PySem.EqNone.eq_none_str (fin_bl I q (by simp))
    | _ => exact absurd (show false = true from hs) Bool.false_ne_true
  | bl i =>
    cases rx
    cases y with
    | non => cases ry; exact PySem.EqNone.eq_bool_none (fin_bl I q (by simp))
    | bl j => cases ry; exact eq_bool (fin_bl I q dec_bl)
    | str j => obtain ⟨t', rfl⟩ := ry; exact PySem.EqMixed.eq_bool_str (fin_bl I q (by simp))
    | _ => exact absurd (show false = true from hs) Bool.false_ne_true
  | int i =>
    obtain ⟨t, rfl⟩ := rx
    cases y with
    | non => cases ry; exact PySem.EqNone.eq_int_none (fin_bl I q (by simp))
    | int j => obtain ⟨t', rfl⟩ := ry; exact eq_int (fin_bl I q dec_int)
    | str j => obtain ⟨t', rfl⟩ := ry; exact PySem.EqMixed.eq_int_str (fin_bl I q (by simp))
    | _ => exact absurd (show false = true from hs) Bool.false_ne_true
  | str i =>
    obtain ⟨t, rfl⟩ := rx
    cases y with
    | non => cases ry; exact PySem.EqNone.eq_str_none (fin_bl I q (by simp))
    | bl j => cases ry; exact PySem.EqMixed.eq_str_bool (fin_bl I q (by simp))
    | int j => obtain ⟨t', rfl⟩ := ry; exact PySem.EqMixed.eq_str_int (fin_bl I q (by simp))
    | str j => obtain ⟨t', rfl⟩ := ry; exact eq_str (fin_bl I q dec_str)
    | _ => exact absurd (show false = true from hs) Bool.false_ne_true
  | byt i =>
    obtain ⟨t, rfl⟩ := rx
    cases y with
    | byt j => obtain ⟨t', rfl⟩ := ry; exact PySem.W.eq_bytes (fin_bl I q dec_byt)
    | _ => exact absurd (show false = true from hs) Bool.false_ne_true
  | _ => cases y <;> exact absurd (show false = true from hs) Bool.false_ne_true
theorem op_ne : OpR X (compareOp .NotEq) rNe := by
  intro pins s σ H x y v u Q I rx ry h
  obtain ⟨hs, q⟩ := h
  cases x with
  | non =>
    cases rx
    cases y with
    | non => cases ry; exact PySem.EqNone.ne_none_none (fin_bl I q (by simp))
    | bl j => cases ry; exact PySem.EqNone.ne_none_bool (fin_bl I q (by simp))
    | int j => obtain ⟨t', rfl⟩ := ry; exact PySem.EqNone.ne_none_int (fin_bl I q (by simp))
    | str j => obtain ⟨t', rfl⟩ := ry; exact PySem.EqNone.ne_none_str (fin_bl I q (by simp))
    | _ => exact absurd (show false = true from hs) Bool.false_ne_true
  | bl i =>
    cases rx
    cases y with
    | non => cases ry; exact PySem.EqNone.ne_bool_none (fin_bl I q (by simp))
    | bl j => cases ry; exact ne_bool (fin_bl I q (congrArg not dec_bl))
    | str j => obtain ⟨t', rfl⟩ := ry; exact PySem.EqMixed.ne_bool_str (fin_bl I q (by simp))
    | _ => exact absurd (show false = true from hs) Bool.false_ne_true
  | int i =>
    obtain ⟨t, rfl⟩ := rx
    cases y with
    | non => cases ry; exact PySem.EqNone.ne_int_none (fin_bl I q (by simp))
    | int j => obtain ⟨t', rfl⟩ := ry; exact ne_int (fin_bl I q (congrArg not dec_int))
    | str j => obtain ⟨t', rfl⟩ := ry; exact PySem.EqMixed.ne_int_str (fin_bl I q (by simp))
    | _ => exact absurd (show false = true from hs) Bool.false_ne_true
  | str i =>
    obtain ⟨t, rfl⟩ := rx
    cases y with
    | non => cases ry; exact PySem.EqNone.ne_str_none (fin_bl I q (by simp))
    | bl j => cases ry; exact PySem.EqMixed.ne_str_bool (fin_bl I q (by simp))
    | int j => obtain ⟨t', rfl⟩ := ry; exact PySem.EqMixed.ne_str_int (fin_bl I q (by simp))
    | str j => obtain ⟨t', rfl⟩ := ry; exact ne_str (fin_bl I q (congrArg not dec_str))
    | _ => exact absurd (show false = true from hs) Bool.false_ne_true
  | byt i =>
    obtain ⟨t, rfl⟩ := rx
    cases y with
    | byt j => obtain ⟨t', rfl⟩ := ry; exact PySem.W.ne_bytes (fin_bl I q (congrArg not dec_byt))
    | _ => exact absurd (show false = true from hs) Bool.false_ne_true
  | _ => cases y <;> exact absurd (show false = true from hs) Bool.false_ne_true
theorem op_lt : OpR X (compareOp .Lt) (rI0 fun i j => .bl (decide (i < j))) := opB0 fun _ _ _ _ _ _ _ q => lt_int q
theorem op_le : OpR X (compareOp .LtE) (rI0 fun i j => .bl (decide (i ≤ j))) := opB0 fun _ _ _ _ _ _ _ q => le_int q
theorem op_gt : OpR X (compareOp .Gt) (rI0 fun i j => .bl (decide (j < i))) := opB0 fun _ _ _ _ _ _ _ q => gt_int q
theorem op_ge : OpR X (compareOp .GtE) (rI0 fun i j => .bl (decide (j ≤ i))) := opB0 fun _ _ _ _ _ _ _ q => ge_int q
theorem op_notN : OpR X (compareOp .IsNot) (fun x y H Q => y = .non ∧ Q (.bl (!decide (x = .non))) H) := by
  intro pins s σ H x y v u Q I rx ry h
  obtain ⟨rfl, q⟩ := h
  cases ry
  refine isnot_none_gen (fin_bl I q ?_)
  cases x <;> first
    | (cases rx; rfl)
    | (obtain ⟨t, rfl⟩ := rx; rfl)
theorem nomark (b : Expr) {op : CmpOp} (h : op ≠ .In := by decide) (h2 : op ≠ .NotIn := by decide) : behindInMarks op b = false := by
  have e1 : (op == CmpOp.In) = false := by cases op <;> first | rfl | exact absurd rfl h
  have e2 : (op == CmpOp.NotIn) = false := by cases op <;> first | rfl | exact absurd rfl h2
  cases b <;> simp [behindInMarks, e1, e2]
/-- a comparison as a value; hm: nomark b, or (for in, not in) by with_unfolding_all rfl -/
theorem pe_cmpR {op : CmpOp} {r : R2} (ho : OpR X (compareOp op) r) (ha : PE X a ta) (hb : PE X b tb) (hm : behindInMarks op b = false) : PE X (.Compare a [op] [b] pos) (tOp r ta tb) := by
  intro pins s σ H Q I h
  exact wpAny_Compare1 (binT ha hb I h fun v u s2 x y H2 I2 rx ry q => ho pins s2 σ H2 x y v u Q I2 rx ry q) hm
/-- a reading of a value as a test -/
def tTest (t : TE) : TT := fun σ H Q => t σ H fun x H' => ∃ k, x = .bl k ∧ Q k H'
theorem pt_cmpR {op : CmpOp} {r : R2} (ho : OpR X (compareOp op) r) (ha : PE X a ta) (hb : PE X b tb) (hm : behindInMarks op b = false) : PT X (.Compare a [op] [b] pos) (tTest (tOp r ta tb)) := by
  intro pins s σ H Q I h
  refine wpAny_isTrue_Compare1 (thn (ha pins s σ H _ I h) fun v s1 ⟨x, H1, I1, r1, q1⟩ => thn (hb pins s1 σ H1 _ I1 q1) fun u s2 ⟨y, H2, I2, r2, q2⟩ =>
    thn (ho pins s2 σ H2 x y v u _ I2 r1 r2 q2) fun c s3 ⟨z, H3, I3, r3, k, e, q3⟩ => ?_) hm
  subst e
  cases r3
  exact wpAny_truthy_bool ⟨H3, I3, q3⟩
theorem line63 : (sizeLine : Nat) < 2 ^ 63 := by rw [sizeLine_eq]; decide
theorem vals1 {x : V} {us : List Value} (r : Vals [x] us) : ∃ u, us = [u] ∧ RelV x u := by
  cases r with
  | cons r1 r2 => cases r2; exact ⟨_, rfl, r1⟩
/-- len of a str, a bytes, a list, a tuple -/
def LenV (K : PySem.W.Frag) (x : V) (H : Hp) (n : Nat) : Prop :=
  match x with
  | .str y => y.length ≤ sizeLine ∧ n = y.length
  | .byt y => y.size ≤ sizeLine ∧ n = y.size
  | .ref p => (∃ xs, SqL K H p xs ∧ n = xs.length) ∨ ∃ xs, SqT K H p xs ∧ n = xs.length
  | _ => False
theorem call_len : CallR X (.builtin "len") (fun xs H Q => ∃ x n, xs = [x] ∧ LenV X.K x H n ∧ Q (.int n) H) := by
  intro pins s σ H xs us Q I r h
  obtain ⟨x, n, rfl, e, q⟩ := h
  obtain ⟨u, rfl, rx⟩ := vals1 r
  have hl := line63
  have hs : sizeLine = 16777216 := sizeLine_eq
  cases x with
  | str y =>
    obtain ⟨t, rfl⟩ := rx
    obtain ⟨hy, e'⟩ : y.length ≤ sizeLine ∧ n = y.length := e
    subst e'
    exact len_str (by omega) ⟨.int _, H, I.tok _, ⟨_, rfl⟩, q⟩
  | byt y =>
    obtain ⟨t, rfl⟩ := rx
    obtain ⟨hy, e'⟩ : y.size ≤ sizeLine ∧ n = y.size := e
    subst e'
    exact PySem.W.len_bytes (by omega) ⟨.int _, H, I.tok _, ⟨_, rfl⟩, q⟩
  | ref p =>
    cases rx
    have e' : (∃ xs, SqL X.K H p xs ∧ n = xs.length) ∨ ∃ xs, SqT X.K H p xs ∧ n = xs.length := e
    rcases e' with ⟨xs, hx, e'⟩ | ⟨xs, hx, e'⟩
    · subst e'
      obtain ⟨its, r', pl, hz⟩ := I.list hx
      have hlen := r'.length
      exact Calls.call_len_list pl.isList (by simp only [List.size_toArray]; omega) ⟨.int xs.length, H, I.tok _, ⟨_, by simp only [List.size_toArray]; rw [hlen]⟩, q⟩
    · subst e'
      obtain ⟨its, r', pl, hz⟩ := I.tuple hx
      have hlen := r'.length
      exact len_tuple pl (by simp only [List.size_toArray]; omega) ⟨.int xs.length, H, I.tok _, ⟨_, by simp only [List.size_toArray]; rw [hlen]⟩, q⟩
  | _ => exact (show False from e).elim
end
end L2
namespace L2
open PySem PySem.Spec PyProof.Rows
structure ObjM (h : Heap) (x dx C : Addr) (mA : Str → Option Value) : Prop where
  obj : h.get? x = some (PySem.W.instObj C dx)
  ns : h.Ns1 dx mA
  ne : dx ≠ x
theorem lookIn_ns {h : Heap} {dx : Addr} {mA : Str → Option Value} (n : h.Ns1 dx mA) : ∃ od, h.get? dx = some od ∧ ∀ name, PySem.W.lookIn name od = some (mA name) := by
  obtain ⟨o, es, ep, ho, hd, hk, _, hm⟩ := n
  refine ⟨o, ho, fun name => ?_⟩
  have e := hm name
  unfold nsFind findBy at e
  rw [← Array.find?_toList] at e
  unfold PySem.W.lookIn
  rw [hd]
  dsimp only
  split
  · rename_i y q
    rw [q] at e
    exact congrArg some e
  · rename_i q
    rw [q] at e
    have a : es.toList.any (·.refKey) = false := by
      rw [List.any_eq_false]
      intro y hy
      obtain ⟨z, t, hkey⟩ := hk y (Array.mem_toList_iff.mp hy)
      simp [DictEntry.refKey, hkey]
    have a' : ¬ es.toList.any (·.refKey) = true := by rw [a]; exact Bool.false_ne_true
    rw [if_neg a']
    exact congrArg some e
theorem ObjM.look {h : Heap} {x dx C : Addr} {mA : Str → Option Value} (I : ObjM h x dx C mA) : ∃ od, PySem.W.InstAt h x (PySem.W.instObj C dx) C (some od) ∧ ∀ name, PySem.W.lookIn name od = some (mA name) :=
  let ⟨od, ho, hl⟩ := lookIn_ns I.ns
  ⟨od, ⟨I.obj, rfl, rfl, ho⟩, hl⟩
section
variable {prog : Program} {w : World} {A : Around} {E : Value → Shared → Prop} {s : Shared} {K : PySem.W.Frag} {x dx C f : Addr} {mA : Str → Option Value} {name : Str} {v : Value}
theorem get_map {expr : Bool} {Q : Value → Shared → Prop} (X : K.In s.heap) (I : ObjM s.heap x dx C mA) (hg : PySem.W.plainGet K C name = true) (hh : PySem.W.hasDictIn K C = true)
    (ha : PySem.W.findIn K (.ref C) name = some none) (hv : mA name = some v) (hv' : PySem.W.handedIn v = true) (h : Q v { s with toks := s.toks + 1 }) :
    wpAny (model prog w) A (getAttr (.ref x) name expr) Q E s := by
  obtain ⟨od, J, hl⟩ := I.look
  exact PySem.W.get_value X J (PySem.W.plainGet_of hg).1 (PySem.W.findObj_own hh ha rfl (by rw [hl, hv])) hv' h
theorem get_meth {pl : Sem Bool} {Q : Value × List Value → Shared → Prop} (X : K.In s.heap) (I : ObjM s.heap x dx C mA) (hg : PySem.W.plainGet K C name = true)
    (hf : PySem.W.findIn K (.ref C) name = some (some (.ref f))) (ht : PySem.W.isFn K (.ref f) = true) (hv : mA name = none) (h : Q (.ref f, [.ref x]) s) :
    wpAny (model prog w) A (getMethod (.ref x) name pl) Q E s := by
  obtain ⟨od, J, hl⟩ := I.look
  exact PySem.W.method_fn X J (PySem.W.plainGet_of hg).1 (PySem.W.plainGet_of hg).2 hf (beq_iff_eq.mp ht) (by show (PySem.W.lookIn name od).map (·.isSome) = some false; rw [hl, hv]; rfl) h
theorem set_map {ns : List Str} {Q : Unit → Shared → Prop} (X : K.In s.heap) (I : ObjM s.heap x dx C mA)
    (hs : PySem.W.findIn K (.ref C) "__setattr__" = some (some (.builtin "object.__setattr__"))) (hp : PySem.W.plainOver K C = true) (ht : PySem.W.takerIn K C name = some none) (hh : PySem.W.hasDictIn K C = true)
    (hw : PySem.Within mA ns) (hsz : ns.length ≤ sizeLine)
    (h : ∀ h', ObjM h' x dx C (fun y => if y = name then some v else mA y) → Heap.SameBut dx s.heap h' → Q () { s with heap := h', toks := s.toks + 2 }) :
    wpAny (model prog w) A (setAttr (.ref x) name v) Q E s := by
  obtain ⟨od, J, hl⟩ := I.look
  refine PySem.W.set_plain X J hs (PySem.W.osa_open (s := { s with toks := s.toks + 1 }) (r := none) X J hp ht fun b => ?_)
  obtain ⟨cd, hc, hd'⟩ := PySem.W.any_some hh
  have hx : s.heap.get? x = some ⟨.ref C, some dx, .plain, #[]⟩ := I.obj
  refine wpAny_bind (wpAny_pure (wpAny_bind (wpAny_bind (wpAny_loadPart hx (wpAny_bind (PySem.W.Looks.here (s := { s with toks := s.toks + 1 }) (PySem.W.looks_clsIn X hc) ?_))))))
  rw [hd']
  refine wpAny_pure (a := some dx) (wpAny_bind (wpAny_pure (wpAny_bind ?_)))
  refine wpAny_nsSet1 (s := { s with toks := s.toks + 1 }) I.ns fun h' hn2 hs2 => ?_
  obtain ⟨oD, esD, epD, hoD, hdD, hcD⟩ := hn2.count (PySem.Within.cons name v hw)
  refine wpAny_bind (wpAny_lookBehind hoD (by rw [hdD]; exact pastItsLine_dict (Nat.le_trans hcD (by rw [List.length_cons]; omega))) ?_)
  exact wpAny_pure (h _ ⟨(hs2.2 _ (Ne.symm I.ne)).trans I.obj, hn2, I.ne⟩ hs2)
/-- C(..): the dict at the heap's end, the instance behind it; then its __init__ -/
theorem make_map {R : Result → Shared → Prop} {vs : List Value} {kw : List (Str × Value)} (X : K.In s.heap) (hm : PySem.W.makesIn K C = true)
    (hi : PySem.W.findIn K (.ref C) "__init__" = some (some (.ref f))) (hf : PySem.W.typeIn K (.ref f) = some (.type "function"))
    (h : codeAny (model prog w) (A.under (.builtin "type.__call__" ⟨.ref C :: vs, kw⟩)) (.call (.ref f) ⟨.ref (s.heap.objs.size + 1) :: vs, kw⟩) (PySem.W.InitBack (s.heap.objs.size + 1) R)
      { s with heap := (s.heap.push PySem.W.emptyDict).push (PySem.W.instObj C s.heap.objs.size) }) :
    codeAny (model prog w) A (.call (.ref C) ⟨vs, kw⟩) R s := by
  obtain ⟨hh, g, d, t, os⟩ := s
  exact PySem.W.make_core (PySem.W.makes_of X hm) (PySem.W.looks_findIn X hi) (fun self => PySem.W.bind_fn X self hf) (.inl rfl) h
end
def putF (f : Str) (v : V) : List (Str × V) → List (Str × V)
  | [] => [(f, v)]
  | (g, x) :: r => if g = f then (g, v) :: r else (g, x) :: putF f v r
theorem lookup_putF (f g : Str) (v : V) : ∀ fs : List (Str × V), (putF f v fs).lookup g = if g = f then some v else fs.lookup g
  | [] => by
    show List.lookup g [(f, v)] = _
    by_cases h : g = f
    · have hb : (g == f) = true := beq_iff_eq.mpr h
      simp only [List.lookup, hb, if_pos h]
    · have hb : (g == f) = false := beq_eq_false_iff_ne.mpr h
      simp only [List.lookup, hb, if_neg h]
  | (k, x) :: r => by
    have ih := lookup_putF f g v r
    rw [show putF f v ((k, x) :: r) = (if k = f then (k, v) :: r else (k, x) :: putF f v r) from rfl]
    by_cases hk : k = f
    · rw [if_pos hk]
      by_cases h : g = k
      · have hb : (g == k) = true := beq_iff_eq.mpr h
        simp only [List.lookup, hb, if_pos (h.trans hk)]
      · have hb : (g == k) = false := beq_eq_false_iff_ne.mpr h
        simp only [List.lookup, hb, if_neg (fun e : g = f => h (e.trans hk.symm))]
    · rw [if_neg hk]
      by_cases h : g = k
      · have hb : (g == k) = true := beq_iff_eq.mpr h
        simp only [List.lookup, hb, if_neg (fun e : g = f => hk (h.symm.trans e))]
      · have hb : (g == k) = false := beq_eq_false_iff_ne.mpr h
        simp only [List.lookup, hb]
        exact ih
theorem keys_putF (f : Str) (v : V) : ∀ fs : List (Str × V), f ∈ (putF f v fs).map (·.1) ∧ ∀ g, g ∈ fs.map (·.1) → g ∈ (putF f v fs).map (·.1)
  | [] => ⟨by simp [putF], fun g h => by simp at h⟩
  | (k, x) :: r => by
    obtain ⟨i1, i2⟩ := keys_putF f v r
    rw [show putF f v ((k, x) :: r) = (if k = f then (k, v) :: r else (k, x) :: putF f v r) from rfl]
    by_cases hk : k = f
    · rw [if_pos hk]
      subst hk
      exact ⟨by simp, fun g h => by simpa using h⟩
    · rw [if_neg hk]
      refine ⟨?_, fun g h => ?_⟩
      · rw [List.map_cons]
        exact List.mem_cons_of_mem _ i1
      · rw [List.map_cons] at h ⊢
        rcases List.mem_cons.mp h with e | e
        · exact List.mem_cons.mpr (.inl e)
        · exact List.mem_cons_of_mem _ (i2 g e)
theorem length_putF (f : Str) (v : V) : ∀ fs : List (Str × V), (putF f v fs).length ≤ fs.length + 1
  | [] => by simp [putF]
  | (k, x) :: r => by
    have ih := length_putF f v r
    rw [show putF f v ((k, x) :: r) = (if k = f then (k, v) :: r else (k, x) :: putF f v r) from rfl]
    by_cases hk : k = f
    · rw [if_pos hk, List.length_cons, List.length_cons]; omega
    · rw [if_neg hk, List.length_cons, List.length_cons]; omega
theorem RelO.some_of {v : V} {o : Option Value} (r : RelO (some v) o) : ∃ u, o = some u ∧ RelV v u := by
  cases o with
  | none => exact (show False from r).elim
  | some u => exact ⟨u, rfl, r⟩
theorem RelO.none_of {o : Option Value} (r : RelO none o) : o = none := by
  cases o with
  | none => rfl
  | some u => exact (show False from r).elim
theorem handed_of {v : V} {u : Value} (r : RelV v u) : PySem.W.handedIn u = true := by
  cases v with
  | non => cases (show u = Value.none from r); rfl
  | bl b => cases (show u = Value.bool b from r); rfl
  | int i => obtain ⟨t, e⟩ := (show ∃ t, u = Value.int i t from r); cases e; rfl
  | str x => obtain ⟨t, e⟩ := (show ∃ t, u = Value.str x t from r); cases e; rfl
  | byt b => obtain ⟨t, e⟩ := (show ∃ t, u = Value.bytes b t from r); cases e; rfl
  | flt b => obtain ⟨t, e⟩ := (show ∃ t, u = Value.float b t from r); cases e; rfl
  | ref a => cases (show u = Value.ref a from r); rfl
  | ty n => cases (show u = Value.type n from r); rfl
section
variable {P : Program} {w : World} {H H' : Hp} {h h' : Heap} {a C dx : Addr} {fs fs' : List (Str × V)}
theorem ins_get (hok : HOk P w H h) (e : H a = some (.ins C dx fs)) : ∃ mA, ObjM h a dx C mA ∧ (∀ f, RelO (fs.lookup f) (mA f)) ∧ PySem.Within mA (fs.map (·.1)) ∧ fs.length ≤ 1000 ∧ H dx = some (.own a) := by
  obtain ⟨d, z, ne, ob, mA, n, r, q⟩ := (show ObjOk P w H h a (.ins C dx fs) from hok a _ e)
  exact ⟨mA, ⟨ob, n, ne⟩, r, q, z, d⟩
end
structure Cls (K : PySem.W.Frag) (C : Addr) : Prop where
  pg : PySem.W.plainGet K C Str.empty = true
  hd : PySem.W.hasDictIn K C = true
  po : PySem.W.plainOver K C = true
  sa : PySem.W.findIn K (.ref C) "__setattr__" = some (some (.builtin "object.__setattr__"))
theorem Cls.get {K : PySem.W.Frag} {C : Addr} (c : Cls K C) (f : Str) : PySem.W.plainGet K C f = true := c.pg
/-- no class of it has the name -/
def NoAttr (K : PySem.W.Frag) (C : Addr) (f : Str) : Prop := PySem.W.findIn K (.ref C) f = some none
theorem NoAttr.taker {K : PySem.W.Frag} {C : Addr} {f : Str} (n : NoAttr K C f) : PySem.W.takerIn K C f = some none := by
  unfold PySem.W.takerIn
  rw [show PySem.W.findIn K (.ref C) f = some none from n]
  rfl
/-- a method: a plain def of the class or of one above it -/
structure Meth (K : PySem.W.Frag) (C : Addr) (m : Str) (f : Addr) : Prop where
  at_ : PySem.W.findIn K (.ref C) m = some (some (.ref f))
  fn : PySem.W.isFn K (.ref f) = true
  kp : PySem.W.keepIn K (.ref f) = true
section
variable {X : Cx} {pins : List (Addr × Obj)} {σ : St} {H : Hp} {s : Shared} {a C dx : Addr} {fs : List (Str × V)} {f : Str} {v : V} {A : Around} {E : Value → Shared → Prop}
theorem getattr_ok {b : Bool} {Q : Value → Shared → Prop} (I : Inv X pins σ H s) (e : H a = some (.ins C dx fs)) (c : Cls X.K C) (n : NoAttr X.K C f) (l : fs.lookup f = some v)
    (h : ∀ u s', Inv X pins σ H s' → RelV v u → Q u s') : wpAny (model X.prog X.w) A (getAttr (.ref a) f b) Q E s := by
  obtain ⟨mA, O, r, _, _, _⟩ := ins_get I.hok e
  obtain ⟨u, hu, ru⟩ := RelO.some_of (v := v) (o := mA f) (by rw [← l]; exact r f)
  exact get_map I.kIn O (c.get f) c.hd n hu (handed_of ru) (h u _ (I.tok _) ru)
theorem getmeth_ok {m : Str} {g : Addr} {pl : Sem Bool} {Q : Value × List Value → Shared → Prop} (I : Inv X pins σ H s) (e : H a = some (.ins C dx fs)) (c : Cls X.K C) (k : Meth X.K C m g) (l : fs.lookup m = none)
    (h : Q (.ref g, [.ref a]) s) : wpAny (model X.prog X.w) A (getMethod (.ref a) m pl) Q E s := by
  obtain ⟨mA, O, r, _, _, _⟩ := ins_get I.hok e
  have hn : mA m = none := RelO.none_of (by rw [← l]; exact r m)
  exact get_meth I.kIn O (c.get m) k.at_ k.fn hn h
theorem setattr_ok {y : V} {u : Value} {Q : Unit → Shared → Prop} (I : Inv X pins σ H s) (e : H a = some (.ins C dx fs)) (c : Cls X.K C) (n : NoAttr X.K C f) (hl : fs.length < 1000) (ry : RelV y u)
    (h : ∀ s', Inv X pins σ (upd H a (.ins C dx (putF f y fs))) s' → Q () s') : wpAny (model X.prog X.w) A (setAttr (.ref a) f u) Q E s := by
  obtain ⟨mA, O, r, wi, _, ho⟩ := ins_get I.hok e
  have hz : (fs.map (·.1)).length ≤ sizeLine := by rw [List.length_map, sizeLine_eq]; omega
  refine set_map I.kIn O c.sa c.po n.taker c.hd wi hz fun h' O' sb => h _ ?_
  have hd : ∃ o, h'.get? dx = some o := let ⟨o, _, _, e', _⟩ := O'.ns; ⟨o, e'⟩
  refine I.write (x := a) (e := dx) (by rw [e]; exact True.intro) (.inr ho) (fun b q hb z => (sb.2 b hb).trans z) hd ?_
  refine ⟨by rw [upd_ne O.ne]; exact ho, ?_, O.ne, O'.obj, _, O'.ns, fun g => ?_, fun g hg => ?_⟩
  · have := length_putF f y fs; omega
  · show RelO ((putF f y fs).lookup g) (if g = f then some u else mA g)
    rw [lookup_putF]
    by_cases q : g = f
    · rw [if_pos q, if_pos q]; exact ry
    · rw [if_neg q, if_neg q]; exact r g
  · by_cases q : g = f
    · rw [q]; exact (keys_putF f y fs).1
    · refine (keys_putF f y fs).2 g (wi g fun z => hg ?_)
      show (if g = f then some u else mA g) = none
      rw [if_neg q]; exact z
/-- a new instance, tracked, without attributes -/
theorem Inv.made (I : Inv X pins σ H s) : Inv X pins σ (upd (upd H s.heap.objs.size (.own (s.heap.objs.size + 1))) (s.heap.objs.size + 1) (.ins C s.heap.objs.size []))
    { s with heap := (s.heap.push PySem.W.emptyDict).push (PySem.W.instObj C s.heap.objs.size) } := by
  have e1 : (s.heap.push PySem.W.emptyDict).get? s.heap.objs.size = some PySem.W.emptyDict := Heap.get?_push_size s.heap rfl
  have e2 : ((s.heap.push PySem.W.emptyDict).push (PySem.W.instObj C s.heap.objs.size)).get? (s.heap.objs.size + 1) = some (PySem.W.instObj C s.heap.objs.size) := by
    have := Heap.get?_push_size (s.heap.push PySem.W.emptyDict) (o := PySem.W.instObj C s.heap.objs.size) rfl
    rwa [Heap.size_push] at this
  have e3 : (s.heap.push PySem.W.emptyDict).Ns s.heap.objs.size (fun _ => none) := ⟨PySem.W.emptyDict, #[], _, e1, rfl, (fun e he => absurd he (by simp)), fun _ => rfl⟩
  have I1 := I.laid (a := s.heap.objs.size) (o := .own (s.heap.objs.size + 1)) (h' := s.heap.push PySem.W.emptyDict) (t' := s.toks) (fun b u q => Heap.get?_push_of_some _ q) (Nat.le_refl _) ⟨_, e1⟩
  refine I1.laid (a := s.heap.objs.size + 1) (o := .ins C s.heap.objs.size []) (t' := s.toks) (fun b u q => Heap.get?_push_of_some _ q) (Nat.le_of_eq (Heap.size_push _ _)) ?_
  have ne : s.heap.objs.size ≠ s.heap.objs.size + 1 := Nat.ne_of_lt (Nat.lt_succ_self _)
  refine ⟨by rw [upd_ne ne, upd_same], Nat.zero_le _, ne, e2, fun _ => none, (Heap.Ns1.of_empty e3).at fun o q => Heap.get?_push_of_some _ q, fun _ => True.intro, fun y hy => absurd rfl hy⟩
/-- e.f where nothing but the object is asked: through attributeBase (super) and the last hold -/
theorem attr_of {prog : Program} {w : World} {env : Env} {e : Expr} {f : Str} {pos : Pos} {s : Shared} {Q : Value → Shared → Prop} (hb : attributeBase e f env (eval e env) = eval e env)
    (h : wpAny (model prog w) A (eval e env) (fun o s₁ => wpAny (model prog w) A (getAttr o f true) Q E s₁) E s) : wpAny (model prog w) A (eval (.Attribute e f pos) env) Q E s :=
  Attribute_any_ h (by rw [arm_eval_Attribute, hb])
end
/-- e.f, an attribute of the instance -/
def tFld (K : PySem.W.Frag) (ta : TE) (f : Str) : TE := fun σ H Q => ta σ H fun x H1 => ∃ a C dx fs v, x = .ref a ∧ H1 a = some (.ins C dx fs) ∧ Cls K C ∧ NoAttr K C f ∧ fs.lookup f = some v ∧ Q v H1
/-- e.f = value -/
def sFld (K : PySem.W.Frag) (ta tv : TE) (f : Str) : TS := fun D σ H => tv σ H fun y H1 => ta σ H1 fun x H2 => ∃ a C dx fs, x = .ref a ∧ H2 a = some (.ins C dx fs) ∧ Cls K C ∧ NoAttr K C f ∧ fs.length < 1000 ∧
  D.nx σ (upd H2 a (.ins C dx (putF f y fs)))
section
variable {X : Cx} {o e value : Expr} {f : Str} {pos pos' tpos : Pos} {ta tv : TE}
theorem pe_fld (he : PE X e ta) (hb : attributeBase e f X.env (eval e X.env) = eval e X.env) : PE X (.Attribute e f pos) (tFld X.K ta f) := by
  intro pins s σ H Q I h
  refine attr_of hb (thn (he pins s σ H _ I h) fun u s1 ⟨x, H1, I1, rx, a, C, dx, fs, v, ex, ea, c, n, l, q⟩ => ?_)
  subst ex
  obtain rfl : u = Value.ref a := rx
  exact getattr_ok I1 ea c n l fun u' s2 I2 ru => ⟨v, H1, I2, ru, q⟩
theorem ps_fld (ha : PE X o ta) (hv : PE X value tv) (hs : swapsWith value (some (.Attribute o f pos')) pos.line X.env = pure false) : PS X (.Assign [.Attribute o f pos'] value pos) (sFld X.K ta tv f) := by
  intro pins s σ H D I h
  refine plainObj_wpAny_Assign_Attribute (thn (hv pins s σ H _ I h) fun u s1 ⟨y, H1, I1, ry, q⟩ => thn (ha pins s1 σ H1 _ I1 q) fun ov s2 ⟨x, H2, I2, rx, a, C, dx, fs, ex, ea, c, n, l, q2⟩ => ?_) hs
  subst ex
  obtain rfl : ov = Value.ref a := rx
  exact setattr_ok I2 ea c n l ry fun s3 I3 => ⟨σ, _, I3, q2⟩
end
section
variable {X : Cx} {pins : List (Addr × Obj)} {σ : St} {H : Hp} {s : Shared} {A : Around} {E : Value → Shared → Prop} {Q : Value → Shared → Prop} {c : Value} {b : Bool}
end
end L2
namespace L2
open PySem PySem.Spec PyProof.Rows
structure Room (k : Nat) (A : Around) : Prop where
  hd : A.handled = none
  dp : A.depth + 3 * k + 5 < recursionLimit
  un : A.units + 16 * k + 200 < cLine
theorem Room.mono {j k : Nat} {A : Around} (r : Room k A) (h : j ≤ k) : Room j A := ⟨r.hd, by have := r.dp; omega, by have := r.un; omega⟩
theorem Room.deeper {k : Nat} {A : Around} (r : Room (k + 1) A) (env : Env) : Room k (A.deeper env) :=
  ⟨r.hd, by have := r.dp; show A.depth + 1 + 3 * k + 5 < _; omega, by have := r.un; show A.units + 3 + 16 * k + 200 < _; omega⟩
theorem make_depth {A : Around} {C : Addr} {us : List Value} {kw : List (Str × Value)} : (A.under (.builtin "type.__call__" ⟨.ref C :: us, kw⟩)).depth = A.depth + 1 := by
  first | rfl | simp [Around.under, Code.weight, Code.isCreation, Code.isGuard, Code.isCaller, Code.frames, Code.isFrame, guardIds]
theorem make_units {A : Around} {C : Addr} {us : List Value} {kw : List (Str × Value)} : (A.under (.builtin "type.__call__" ⟨.ref C :: us, kw⟩)).units = A.units + 1 := by
  first | rfl | simp [Around.under, Code.cUnits, Code.frames, Code.isFrame]
theorem Room.make {k : Nat} {A : Around} (r : Room (k + 1) A) (C : Addr) (us : List Value) (kw : List (Str × Value)) : Room k (A.under (.builtin "type.__call__" ⟨.ref C :: us, kw⟩)) :=
  ⟨r.hd, by have := r.dp; rw [make_depth]; omega, by have := r.un; rw [make_units]; omega⟩
theorem Room.depth {k : Nat} {A : Around} (r : Room k A) : A.depth < recursionLimit := by have := r.dp; omega
theorem Room.units {k : Nat} {A : Around} (r : Room k A) : A.units + 64 < cLine := by have := r.un; omega
def tNil : TA := fun _ H Q => Q [] H
def tCons (ta : TE) (tr : TA) : TA := fun σ H Q => ta σ H fun x H1 => tr σ H1 fun xs H2 => Q (x :: xs) H2
section
variable {X : Cx} {e : Expr} {es : List Expr} {te : TE} {t : TA} {pos : Pos}
theorem pa_nil : PA X [] tNil := fun _ _ _ _ H Q I h => Calls.spliced_nil ⟨[], H, I, .nil, h⟩
theorem pa_cons (ha : PE X e te) (hr : PA X es t) (hs : starEach (e :: es) X.env = (false, eval e X.env) :: starEach es X.env := by rfl) : PA X (e :: es) (tCons te t) := by
  intro pos pins s σ H Q I h
  rw [hs]
  show wpAny _ _ (spliced ((false, eval e X.env) :: backTo pos (starEach es X.env))) _ _ s
  refine Calls.spliced_cons (thn (ha pins s σ H _ I h) fun u s1 ⟨x, H1, I1, r1, q1⟩ => ?_)
  exact thn (hr pos pins s1 σ H1 _ I1 q1) fun us s2 ⟨xs, H2, I2, r2, q2⟩ => ⟨x :: xs, H2, I2, .cons r1 r2, q2⟩
/-- a tuple, a list of written items -/
def tTup (t : TA) : TE := fun σ H Q => t σ H fun xs H1 => xs.length ≤ sizeLine ∧ ∀ p, H1 p = none → Q (.ref p) (upd H1 p (.tup xs))
def tLst (t : TA) : TE := fun σ H Q => t σ H fun xs H1 => xs.length ≤ sizeLine ∧ ∀ p, H1 p = none → Q (.ref p) (upd H1 p (.lst xs))
theorem pe_tup {x1} (h : PA X es t) : PE X (.Tuple es x1 pos) (tTup t) := by
  intro pins s σ H Q I hq
  refine wpAny_Tuple_spliced (thn (h pos pins s σ H _ I hq) fun us s1 ⟨xs, H1, I1, r, z, q⟩ => ⟨by rw [← r.length]; exact z, ?_⟩)
  have hf : H1 s1.heap.objs.size = none := I1.hok.fresh (Nat.le_refl _)
  refine ⟨.ref s1.heap.objs.size, upd H1 s1.heap.objs.size (.tup xs), I1.laid (t' := s1.toks) (fun b u e => Heap.get?_push_of_some _ e) (Nat.le_refl _) ?_, rfl, q _ hf⟩
  exact ⟨z, us, r, ⟨_, Heap.get?_push_size _ rfl, rfl, _, rfl⟩⟩
theorem pe_lst (h : PA X es t) : PE X (.List es pos) (tLst t) := by
  intro pins s σ H Q I hq
  refine wpAny_List_spliced (thn (h pos pins s σ H _ I hq) fun us s1 ⟨xs, H1, I1, r, z, q⟩ => ⟨by rw [← r.length]; exact z, ?_⟩)
  have hf : H1 s1.heap.objs.size = none := I1.hok.fresh (Nat.le_refl _)
  refine ⟨.ref s1.heap.objs.size, upd H1 s1.heap.objs.size (.lst xs), I1.laid (t' := s1.toks) (fun b u e => Heap.get?_push_of_some _ e) (Nat.le_refl _) ?_, rfl, q _ hf⟩
  exact ⟨z, us, 0, r, Heap.get?_push_size _ rfl⟩
end
/-- a def's promise: the bound arguments in the parameters' order, the heap, the wanted end, the wanted exception -/
abbrev Sp := List V → Hp → VK → XK → Prop
/-- how an exception lies behind a call (file 08 gives it): the callers' frames, abstract heap and state ahead of the call, the wish, the exception, the state -/
abbrev CXT := List Env → Hp → Shared → XK → Value → Shared → Prop
/-- the state at a call -/
structure Env0 (P : Program) (w : World) (K : PySem.W.Frag) (mg : Str → Option Value) (base : Heap) (A : Around) (outer : List Env) (s : Shared) (H : Hp) : Prop where
  frames : A.frames = some outer
  mod : Mod K mg base
  bs : ∀ b o, base.get? b = some o → s.heap.get? b = some o ∧ H b = none
  bsz : base.objs.size ≤ s.heap.objs.size
  funs : s.heap.FunFrames base outer
  frf : ∀ b ∈ frs outer, H b = none
  hok : HOk P w H s.heap
  bare : AllBare s.gens
/-- a call's end -/
def CE (outer : List Env) (P : Program) (w : World) (H : Hp) (s : Shared) (Q : VK) (u : Value) (s' : Shared) : Prop :=
  ∃ v H', s'.os = s.os ∧ AllBare s'.gens ∧ Un (frs outer) [] H H' s.heap s'.heap ∧ HOk P w H' s'.heap ∧ RelV v u ∧ Q v H'
def CR (CX : CXT) (outer : List Env) (P : Program) (w : World) (H : Hp) (s : Shared) (Q : VK) (E : XK) (r : Result) (s' : Shared) : Prop :=
  match r with
  | .ok (.ret u) => CE outer P w H s Q u s'
  | .ok _ => False
  | .error e => CX outer H s E e s'
structure FnOk (P : Program) (w : World) (K : PySem.W.Frag) (mg : Str → Option Value) (base : Heap) (CX : CXT) (k : Nat) (f : Addr) (fd : FuncData) (ps : List Str) (sp : Sp) : Prop where
  len : ∀ vs H Q E, sp vs H Q E → vs.length = ps.length
  run : ∀ (A : Around) (outer : List Env) (s : Shared) (H : Hp) (args : Args) (us : List Value) (vs : List V) (Q : VK) (E : XK), Room k A → Env0 P w K mg base A outer s H → BindsTo s fd args (ps.zip us) → Vals vs us → sp vs H Q E →
    codeAny (model P w) A (.call (.ref f) args) (CR CX outer P w H s Q E) s
theorem Env0.make {P : Program} {w : World} {K : PySem.W.Frag} {mg : Str → Option Value} {base : Heap} {A : Around} {outer : List Env} {s : Shared} {H : Hp} (e : Env0 P w K mg base A outer s H) (C : Addr) (us : List Value) (kw : List (Str × Value)) :
    Env0 P w K mg base (A.under (.builtin "type.__call__" ⟨.ref C :: us, kw⟩)) outer s H := ⟨by first | exact e.frames | (simpa [Around.under, Code.envs, Code.isFrame, pushEnvs] using e.frames), e.mod, e.bs, e.bsz, e.funs, e.frf, e.hok, e.bare⟩
section
variable {X : Cx} {pins : List (Addr × Obj)} {σ : St} {H : Hp} {s s' : Shared}
/-- from a body: what a callee wants -/
theorem Inv.env0 (I : Inv X pins σ H s) : Env0 X.prog X.w X.K X.mg X.base X.A X.stack s H :=
  ⟨I.ok.frames, I.ok.mod, I.bs, Nat.le_trans I.ok.bsz I.sz, I.stack, I.stkFree, I.hok, I.bare⟩
/-- behind a call -/
theorem Inv.after {Q : VK} {u : Value} (I : Inv X pins σ H s) (h : CE X.stack X.prog X.w H s Q u s') : EP X pins σ Q u s' := by
  obtain ⟨v, H', os, bare, un, hok, r, q⟩ := h
  obtain ⟨hh, g, d, t, os'⟩ := s'
  obtain rfl : os' = s.os := os
  exact ⟨v, H', I.call (h' := hh) (g' := g) (d' := d) (t' := t) (ch := []) un hok bare (fun b z => absurd z (by simp)), r, q⟩
end
/-- f(..): the written arguments, then the defaults dvs; E: what is wanted of an exception -/
def tCall (sp : Sp) (dvs : List V) (E : XK) (t : TA) : TE := fun σ H Q => t σ H fun vs H1 => sp (vs ++ dvs) H1 Q E
/-- o.m(..) of an instance of the class at C -/
def tMeth (C : Addr) (m : Str) (sp : Sp) (dvs : List V) (E : XK) (ta : TE) (t : TA) : TE := fun σ H Q => ta σ H fun x H1 => ∃ a dx fs, x = .ref a ∧ H1 a = some (.ins C dx fs) ∧ fs.lookup m = none ∧
  t σ H1 fun vs H2 => sp (x :: (vs ++ dvs)) H2 Q E
/-- C(..): a new instance and its dict, then __init__ -/
def tMake (C : Addr) (sp : Sp) (dvs : List V) (E : XK) (t : TA) : TE := fun σ H Q => t σ H fun vs H1 => ∀ x dx, H1 x = none → H1 dx = none → dx ≠ x →
  sp (.ref x :: (vs ++ dvs)) (upd (upd H1 dx (.own x)) x (.ins C dx [])) (fun v H2 => v = .non ∧ Q (.ref x) H2) E
/-- how the parameters are bound: us the positional arguments, kw the keywords' values by name, ds the defaults that fill up -/
def Binds (K : PySem.W.Frag) (fd : FuncData) (ps : List Str) (ds : List Value) : Prop :=
  ∀ (s : Shared) (us : List Value), K.In s.heap → (us ++ ds).length = ps.length → BindsTo s fd ⟨us, []⟩ (ps.zip (us ++ ds))
/-- every parameter is given -/
theorem Binds.all {K : PySem.W.Frag} {fd : FuncData} {ps : List Str} (h : ∀ us : List Value, us.length = ps.length → bindArgs fd ⟨us, []⟩ = pure (ps.zip us)) : Binds K fd ps [] := fun s us _ hl => by
  rw [List.append_nil] at hl ⊢
  exact .of_eq (h us hl)
/-- an exception of a callee reaches what this body wants of exceptions -/
def Passes (CX : CXT) (X : Cx) (E : XK) : Prop := ∀ (pins : List (Addr × Obj)) (σ : St) (H : Hp) (s : Shared) (e : Value) (s' : Shared), Inv X pins σ H s → CX X.stack H s E e s' → X.xe e s'
section
variable {X : Cx} {CX : CXT} {k : Nat} {f C : Addr} {fd : FuncData} {ps : List Str} {sp : Sp} {dvs : List V} {ds : List Value} {E : XK} {x m : Str} {p pos apos : Pos} {e o : Expr} {es : List Expr} {ta : TE} {t : TA}
/-- the callee runs -/
theorem run_fn {pins : List (Addr × Obj)} {σ : St} {H : Hp} {s : Shared} {Q : VK} {us : List Value} {vs : List V} (F : FnOk X.prog X.w X.K X.mg X.base CX k f fd ps sp) (hr : Room k X.A) (hb : Binds X.K fd ps ds) (hd : Vals dvs ds) (hx : Passes CX X E)
    (I : Inv X pins σ H s) (r : Vals vs us) (h : sp (vs ++ dvs) H Q E) : wpAny (model X.prog X.w) X.A (call (.ref f) us) (EP X pins σ Q) X.xe s := by
  have r2 : Vals (vs ++ dvs) (us ++ ds) := r.append hd
  have hl : (us ++ ds).length = ps.length := by rw [← r2.length]; exact F.len _ _ _ _ h
  refine wpAny_call (codeAny_mono (F.run X.A X.stack s H ⟨us, []⟩ (us ++ ds) (vs ++ dvs) Q E hr I.env0 (hb s us I.kIn hl) r2 h) fun r s' hq => ?_)
  cases r with
  | error e => exact hx pins σ H s e s' I hq
  | ok fl =>
    cases fl with
    | ret u => exact I.after hq
    | next => exact False.elim hq
    | brk => exact False.elim hq
    | cont => exact False.elim hq
theorem pe_call (F : FnOk X.prog X.w X.K X.mg X.base CX k f fd ps sp) (hr : Room k X.A) (hg : Gl X x) (hm : X.mg x = some (.ref f)) (hk : PySem.W.keepIn X.K (.ref f) = true) (hb : Binds X.K fd ps ds) (hd : Vals dvs ds) (hx : Passes CX X E)
    (ha : PA X (e :: es) t) (hdb : (x == ("__debug__" : Str)) = false := by decide) (he : starEach (e :: es) X.env = (false, eval e X.env) :: starEach es X.env := by rfl) (hpl : (backTo pos (starEach es X.env)).any (·.1) = false := by rfl) :
    PE X (.Call (.Name x p) (e :: es) [] pos) (tCall sp dvs E t) := by
  intro pins s σ H Q I h
  refine wpAny_Call_Name_kw (ld_glob I hg hm ?_ hdb)
  refine PySem.W.callWith_K (h₀ := X.base) I.ok.mod.kin hk (thn (ha pos pins s σ H _ I h) fun us s1 ⟨vs, H1, I1, r, q⟩ => ⟨I1.kIn, ?_⟩) he hpl
  exact run_fn F hr hb hd hx I1 r q
/-- o.m(e, ..) -/
theorem pe_meth {pl : Sem Bool} (he : PE X o ta) (c : Cls X.K C) (hm : Meth X.K C m f) (F : FnOk X.prog X.w X.K X.mg X.base CX k f fd ps sp) (hr : Room k X.A) (hb : Binds X.K fd ps ds) (hd : Vals dvs ds) (hx : Passes CX X E) (ha : PA X (e :: es) t)
    (hst : starEach (e :: es) X.env = (false, eval e X.env) :: starEach es X.env := by rfl) (hpl : (backTo pos (starEach es X.env)).any (·.1) = false := by rfl)
    (ht : eval (.Call (.Attribute o m apos) (e :: es) [] pos) X.env = (do
      let ov ← eval o X.env
      standAt apos.atName
      let (f, first) ← holding [ov] (getMethod ov m pl)
      callWith pos f first (backTo pos (starEach (e :: es) X.env)) (backToKw pos (keywordEach [] X.env))) := by rfl) :
    PE X (.Call (.Attribute o m apos) (e :: es) [] pos) (tMeth C m sp dvs E ta t) := by
  intro pins s σ H Q I h
  refine PySem.W.methodCall_KW (pl := pl) (thn (he pins s σ H _ I h) fun u s1 ⟨x, H1, I1, rx, a, dx, fs, ex, ea, l, q⟩ => ?_) ht
  subst ex
  obtain rfl : u = Value.ref a := rx
  refine getmeth_ok I1 ea c hm l ?_
  refine PySem.W.callWith_K (first := [.ref a]) (h₀ := X.base) I.ok.mod.kin hm.kp (thn (ha pos pins s1 σ H1 _ I1 q) fun us s2 ⟨vs, H2, I2, r, q2⟩ => ⟨I2.kIn, ?_⟩) hst hpl
  exact run_fn (us := .ref a :: us) (vs := .ref a :: vs) F hr hb hd hx I2 (.cons rfl r) q2
/-- o.m() -/
theorem pe_meth0 {pl : Sem Bool} (he : PE X o ta) (c : Cls X.K C) (hm : Meth X.K C m f) (F : FnOk X.prog X.w X.K X.mg X.base CX k f fd ps sp) (hr : Room k X.A) (hb : Binds X.K fd ps ds) (hd : Vals dvs ds) (hx : Passes CX X E)
    (ht : eval (.Call (.Attribute o m apos) [] [] pos) X.env = (do
      let ov ← eval o X.env
      standAt apos.atName
      let (f, first) ← holding [ov] (getMethod ov m pl)
      callWith pos f first (backTo pos (starEach [] X.env)) (backToKw pos (keywordEach [] X.env))) := by rfl) :
    PE X (.Call (.Attribute o m apos) [] [] pos) (tMeth C m sp dvs E ta tNil) := by
  intro pins s σ H Q I h
  refine PySem.W.methodCall_KW (pl := pl) (thn (he pins s σ H _ I h) fun u s1 ⟨x, H1, I1, rx, a, dx, fs, ex, ea, l, q⟩ => ?_) ht
  subst ex
  obtain rfl : u = Value.ref a := rx
  refine getmeth_ok I1 ea c hm l ?_
  exact PySem.W.callWith_K0 (first := [.ref a]) I1.kIn hm.kp (run_fn (us := [.ref a]) (vs := [.ref a]) F hr hb hd hx I1 (.cons rfl .nil) q)
/-- what a class must have to be made -/
structure Mk (K : PySem.W.Frag) (C f : Addr) : Prop where
  makes : PySem.W.makesIn K C = true
  init : PySem.W.findIn K (.ref C) "__init__" = some (some (.ref f))
  fn : PySem.W.isFn K (.ref f) = true
  kp : PySem.W.keepIn K (.ref C) = true
theorem run_make {pins : List (Addr × Obj)} {σ : St} {H : Hp} {s : Shared} {Q : VK} {us : List Value} {vs : List V} (M : Mk X.K C f) (F : FnOk X.prog X.w X.K X.mg X.base CX k f fd ps sp) (hr : Room (k + 1) X.A) (hb : Binds X.K fd ps ds) (hd : Vals dvs ds)
    (hx : Passes CX X E) (I : Inv X pins σ H s) (r : Vals vs us)
    (h : ∀ x dx, H x = none → H dx = none → dx ≠ x → sp (.ref x :: (vs ++ dvs)) (upd (upd H dx (.own x)) x (.ins C dx [])) (fun v H2 => v = .non ∧ Q (.ref x) H2) E) :
    wpAny (model X.prog X.w) X.A (call (.ref C) us) (EP X pins σ Q) X.xe s := by
  have hq := h (s.heap.objs.size + 1) s.heap.objs.size (I.hok.fresh (Nat.le_succ _)) (I.hok.fresh (Nat.le_refl _)) (Nat.ne_of_lt (Nat.lt_succ_self _))
  have I2 := Inv.made (C := C) I
  have r2 : Vals (V.ref (s.heap.objs.size + 1) :: (vs ++ dvs)) (Value.ref (s.heap.objs.size + 1) :: (us ++ ds)) := .cons rfl (r.append hd)
  have hl : (Value.ref (s.heap.objs.size + 1) :: us ++ ds).length = ps.length := by
    have e := r2.length
    rw [F.len _ _ _ _ hq] at e
    exact e.symm
  refine wpAny_call (make_map (f := f) I.kIn M.makes M.init (beq_iff_eq.mp M.fn) (codeAny_mono (F.run _ X.stack _ _ ⟨Value.ref (s.heap.objs.size + 1) :: us, []⟩ (Value.ref (s.heap.objs.size + 1) :: (us ++ ds)) _ _ E (hr.make C us [])
    (I2.env0.make C us []) (hb _ (Value.ref (s.heap.objs.size + 1) :: us) I2.kIn hl) r2 hq) fun r s' hq' => ?_))
  cases r with
  | error e => exact hx pins σ _ _ e s' I2 hq'
  | ok fl =>
    cases fl with
    | ret u =>
      obtain ⟨v, H', I3, rv, ev, q3⟩ := I2.after hq'
      subst ev
      exact ⟨rv, ⟨V.ref (s.heap.objs.size + 1), H', I3, rfl, q3⟩⟩
    | next => exact False.elim hq'
    | brk => exact False.elim hq'
    | cont => exact False.elim hq'
theorem pe_make (M : Mk X.K C f) (F : FnOk X.prog X.w X.K X.mg X.base CX k f fd ps sp) (hr : Room (k + 1) X.A) (hg : Gl X x) (hm : X.mg x = some (.ref C)) (hb : Binds X.K fd ps ds) (hd : Vals dvs ds) (hx : Passes CX X E)
    (ha : PA X (e :: es) t) (hdb : (x == ("__debug__" : Str)) = false := by decide) (he : starEach (e :: es) X.env = (false, eval e X.env) :: starEach es X.env := by rfl) (hpl : (backTo pos (starEach es X.env)).any (·.1) = false := by rfl) :
    PE X (.Call (.Name x p) (e :: es) [] pos) (tMake C sp dvs E t) := by
  intro pins s σ H Q I h
  refine wpAny_Call_Name_kw (ld_glob I hg hm ?_ hdb)
  refine PySem.W.callWith_K (h₀ := X.base) I.ok.mod.kin M.kp (thn (ha pos pins s σ H _ I h) fun us s1 ⟨vs, H1, I1, r, q⟩ => ⟨I1.kIn, ?_⟩) he hpl
  exact run_make M F hr hb hd hx I1 r q
theorem pe_make0 (M : Mk X.K C f) (F : FnOk X.prog X.w X.K X.mg X.base CX k f fd ps sp) (hr : Room (k + 1) X.A) (hg : Gl X x) (hm : X.mg x = some (.ref C)) (hb : Binds X.K fd ps ds) (hd : Vals dvs ds) (hx : Passes CX X E)
    (hdb : (x == ("__debug__" : Str)) = false := by decide) : PE X (.Call (.Name x p) [] [] pos) (tMake C sp dvs E tNil) := by
  intro pins s σ H Q I h
  refine wpAny_Call_Name_kw (ld_glob I hg hm ?_ hdb)
  exact PySem.W.callWith_K0 I.kIn M.kp (run_make (us := []) M F hr hb hd hx I .nil h)
end
section
variable {X : Cx} {CX : CXT} {k : Nat} {f C : Addr} {fd : FuncData} {ps ks : List Str} {sp : Sp} {E : XK} {x m : Str} {p pos apos kpos : Pos} {e o : Expr} {es : List Expr} {kws : List Keyword} {te ta : TE} {t tk : TA} {nm : Option Str}
variable {g : List Value → List Value → List Value} {gV : List V → List V → List V}
end
/-- names: the parameters first -/
structure FnScope (N P : List Str) (sc : Scope) : Prop where
  kind : sc.kind = .function
  co : sc.isCoroutine = false
  gen : sc.isGenerator = false
  nd : N.Nodup
  pre : N.take P.length = P
  par : ∀ x ∈ P, sc.names.lookup x = some .local ∨ sc.names.lookup x = some .cell
  nofree : ∀ y ∈ sc.names, y.2 ≠ .free
theorem bindL_out {kindOf : Str → Option NameKind} {x : Str} : ∀ {binds : List (Str × Value)} {m : Str → Option Value}, (∀ v, (x, v) ∉ binds) → bindL kindOf binds m x = m x
  | [], _, _ => rfl
  | (n, v) :: r, m, h => by
    unfold bindL
    rw [bindL_out fun w hw => h w (List.mem_cons_of_mem _ hw)]
    split
    · have : x ≠ n := by rintro rfl; exact h v List.mem_cons_self
      simp [this]
    · rfl
theorem bindC_out {kindOf : Str → Option NameKind} {x : Str} : ∀ {binds : List (Str × Value)} {m : Str → Option Value}, (∀ v, (x, v) ∉ binds) → bindC kindOf binds m x = m x
  | [], _, _ => rfl
  | (n, v) :: r, m, h => by
    unfold bindC
    rw [bindC_out fun w hw => h w (List.mem_cons_of_mem _ hw)]
    split
    · rfl
    · have : x ≠ n := by rintro rfl; exact h v List.mem_cons_self
      simp [this]
theorem bindL_get {kindOf : Str → Option NameKind} {x : Str} {v : Value} : ∀ {P : List Str} {vs : List Value} {i : Nat} {m : Str → Option Value}, P.Nodup → P[i]? = some x → vs[i]? = some v → kindOf x = some .local →
    bindL kindOf (P.zip vs) m x = some v
  | [], _, _, _, _, h, _, _ => by simp at h
  | _ :: _, [], _, _, _, _, h, _ => by simp at h
  | p :: P, w :: vs, 0, m, nd, h1, h2, hk => by
    simp at h1 h2; subst h1; subst h2
    show bindL kindOf ((p, w) :: P.zip vs) m p = _
    unfold bindL
    rw [bindL_out fun v hv => (List.nodup_cons.mp nd).1 (List.of_mem_zip hv).1, if_pos hk]
    simp
  | p :: P, w :: vs, i + 1, m, nd, h1, h2, hk => by
    show bindL kindOf ((p, w) :: P.zip vs) m x = _
    unfold bindL
    exact bindL_get (i := i) (List.nodup_cons.mp nd).2 (by simpa using h1) (by simpa using h2) hk
theorem bindC_get {kindOf : Str → Option NameKind} {x : Str} {v : Value} : ∀ {P : List Str} {vs : List Value} {i : Nat} {m : Str → Option Value}, P.Nodup → P[i]? = some x → vs[i]? = some v → kindOf x ≠ some .local →
    bindC kindOf (P.zip vs) m x = some v
  | [], _, _, _, _, h, _, _ => by simp at h
  | _ :: _, [], _, _, _, _, h, _ => by simp at h
  | p :: P, w :: vs, 0, m, nd, h1, h2, hk => by
    simp at h1 h2; subst h1; subst h2
    show bindC kindOf ((p, w) :: P.zip vs) m p = _
    unfold bindC
    rw [bindC_out fun v hv => (List.nodup_cons.mp nd).1 (List.of_mem_zip hv).1, if_neg hk]
    simp
  | p :: P, w :: vs, i + 1, m, nd, h1, h2, hk => by
    show bindC kindOf ((p, w) :: P.zip vs) m x = _
    unfold bindC
    exact bindC_get (i := i) (List.nodup_cons.mp nd).2 (by simpa using h1) (by simpa using h2) hk
/-- the names' values at the entry -/
def start (N : List Str) (vs : List V) : St := vs.map some ++ List.replicate (N.length - vs.length) none
/-- the context of a def's body, at its entry; an exception leaves the frame, then lies as CX says -/
def cxOf (CX : CXT) (P : Program) (w : World) (K : PySem.W.Frag) (mg : Str → Option Value) (base : Heap) (N : List Str) (qual : Str) (scope : Scope) (f : Addr) (cd : Value) (A : Around) (outer : List Env) (s : Shared) (H : Hp) (E : XK) : Cx where
  prog := P
  w := w
  K := K
  mg := mg
  base := base
  A := A.deeper (envOfC qual scope s.heap.objs.size f cd)
  N := N
  s_0 := s
  H_0 := H
  env := envOfC qual scope s.heap.objs.size f cd
  outer := outer
  stack := envOfC qual scope s.heap.objs.size f cd :: outer
  ex := []
  calm := true
  fn := fun _ => true
  pn := []
  xe := fun e s' => wpAny (model P w) (A.deeper (envOfC qual scope s.heap.objs.size f cd)) (leaving (envOfC qual scope s.heap.objs.size f cd) e) (fun _ s'' => CX outer H s E e s'') (fun e' s'' => CX outer H s E e' s'') s'
theorem cell_has {sc : Scope} {n : Nat} {x : Str} (h : sc.names.lookup x = some .cell) : ∃ c, (cellsFrom n sc.names []).lookup x = some c := by
  have q := PySem.W.cellsFrom_some sc.names n [] (.inl h)
  exact Option.isSome_iff_exists.mp q
theorem inv_start {CX : CXT} {P : Program} {w : World} {K : PySem.W.Frag} {mg : Str → Option Value} {base : Heap} {N ps : List Str} {qual : Str} {scope : Scope} {f : Addr} {cd : Value} {A : Around} {outer : List Env} {s s1 : Shared} {H : Hp} {E : XK} {us : List Value} {vs : List V}
    (S : FnScope N ps scope) (hd : A.handled = none) (e0 : Env0 P w K mg base A outer s H) (hl : vs.length = ps.length) (r : Vals vs us)
    (x : InCallC s s.heap.objs.size (bindL (envOfC qual scope s.heap.objs.size f cd).kindOf (ps.zip us) fun _ => none) (cellsFrom (s.heap.objs.size + 1) scope.names []) (bindC (envOfC qual scope s.heap.objs.size f cd).kindOf (ps.zip us) fun _ => none) s1) :
    Inv (cxOf CX P w K mg base N qual scope f cd A outer s H E) [] (start N vs) H s1 := by
  have hpl : ps.length ≤ N.length := by have := congrArg List.length S.pre; rw [List.length_take] at this; omega
  obtain ⟨h1, tk, rfl, hk⟩ := x.done
  have noA : ∀ b : Addr, b ∉ (cxOf CX P w K mg base N qual scope f cd A outer s H E).ex := fun b z => absurd (show b ∈ ([] : List Addr) from z) (by simp)
  refine ⟨⟨e0.mod, S.kind, rfl, rfl, Nat.le_refl _, fun y z c h1 h2 => ?_, fun y hy => ?_, fun y c _ h => ?_, fun _ => hd, Around.frames_deeper e0.frames, .inr ⟨rfl, rfl⟩, fun b z => absurd z (noA b), e0.bs, e0.bsz, fun b _ _ => noA b, fun b z => absurd z (noA b), e0.funs, e0.frf⟩,
    rfl, e0.bare, Un.kept hk, ⟨_, x.toInCall.ns, fun i y v h1 h2 h3 => ?_⟩, fun y c h => ⟨_, x.cell y c h⟩, e0.hok.fresh (Nat.le_refl _), fun y c h => ?_, fun p hp => absurd (show p ∈ ([] : List (Addr × Obj)) from hp) (by simp), e0.hok.kept hk, ?_⟩
  · exact name_of_addr x.apart (PySem.mem_of_lookup h1) (PySem.mem_of_lookup h2)
  · have hy : scope.names.lookup y = some .cell ∨ scope.names.lookup y = some .free := hy
    rcases hy with hy | hy
    · exact cell_has hy
    · exact absurd rfl (S.nofree _ (PySem.mem_of_lookup hy))
  · exact Nat.le_of_lt (x.above y c (PySem.mem_of_lookup h))
  · have hi : i < vs.length := by
      unfold start at h2
      by_cases hi : i < vs.length
      · exact hi
      · rw [List.getElem?_append_right (by simpa using hi)] at h2
        rw [List.getElem?_replicate] at h2
        split at h2 <;> cases h2
    have ha : vs[i]? = some v := by
      unfold start at h2
      rw [List.getElem?_append_left (by simpa using hi), List.getElem?_map] at h2
      cases e : vs[i]? with
      | none => rw [e] at h2; cases h2
      | some a => rw [e] at h2; cases h2; rfl
    obtain ⟨u, hu, rv⟩ := r.get ha
    have hp : ps[i]? = some y := by
      rw [← S.pre, List.getElem?_take_of_lt (by omega)]; exact h1
    have ndP : ps.Nodup := by rw [← S.pre]; exact S.nd.sublist (List.take_sublist _ _)
    refine ⟨u, rv, ?_⟩
    rcases S.par y (List.mem_of_getElem? hp) with k | k
    · exact .inl ⟨k, bindL_get ndP hp hu k⟩
    · obtain ⟨c, e⟩ := cell_has (n := s.heap.objs.size + 1) k
      refine .inr ⟨.inl k, c, e, ?_⟩
      have q := x.cell y c e
      rw [bindC_get ndP hp hu (by show scope.names.lookup y ≠ _; rw [k]; decide)] at q
      exact q
  · exact e0.hok.fresh (Nat.le_of_lt (x.above y c (PySem.mem_of_lookup h)))
  · unfold start
    show _ = N.length
    rw [List.length_append, List.length_map, List.length_replicate]
    omega
/-- THE RULE: a def (or a method) of the text, by its body. The body's reading t is chosen for each entry; it is run at the parameters' values -/
theorem fn_of {CX : CXT} {P : Program} {w : World} {K : PySem.W.Frag} {mg : Str → Option Value} {base : Heap} {k : Nat} {f : Addr} {name qual : Str} {params : Arguments} {body : List Stmt} {scope : Scope} {dV kV doc pm cdv ct oc : Value} {an od : Option Addr}
    {osl : Array (Option Value)} {N ps : List Str} {sp : Sp} (lk : K.lookup f = some ⟨oc, od, .func (PySem.W.fnOf name qual params body scope dV kV doc pm an cdv ct), osl⟩) (hcd : PySem.W.codeIn K cdv qual = true) (S : FnScope N ps scope)
    (len : ∀ vs H Q E, sp vs H Q E → vs.length = ps.length)
    (hbody : ∀ (A : Around) (outer : List Env) (s : Shared) (H : Hp) (vs : List V) (Q : VK) (E : XK), Room k (A.deeper (envOfC qual scope s.heap.objs.size f cdv)) → sp vs H Q E →
      ∃ t, PSs (cxOf CX P w K mg base N qual scope f cdv A outer s H E) body t ∧ t { nx := fun _ H' => Q .non H', rt := Q } (start N vs) H) :
    FnOk P w K mg base CX (k + 1) f (PySem.W.fnOf name qual params body scope dV kV doc pm an cdv ct) ps sp := by
  refine ⟨len, fun A outer s H args us vs Q E hr e0 hb r hsp => ?_⟩
  have hl := len _ _ _ _ hsp
  have KX : K.In s.heap := e0.mod.kin.keeps fun b o e => (e0.bs b o e).1
  have lim : s.heap.NoLimit := e0.mod.nolimit.keeps fun b o e => (e0.bs b o e).1
  have hkind : ∀ y ∈ ps.zip us, scope.names.lookup y.1 = some .local ∨ (scope.names.lookup y.1 = some .cell ∧ ((cellsFrom (s.heap.objs.size + 1) scope.names []).lookup y.1).isSome = true) := fun ⟨n, v⟩ hy => by
    rcases S.par n (List.of_mem_zip hy).1 with q | q
    · exact .inl q
    · exact .inr ⟨q, PySem.W.cellsFrom_some _ _ _ (.inl q)⟩
  refine codeAny_call_function hr.depth (KX _ _ lk) rfl S.co S.gen rfl (PySem.W.codeRec_of KX hcd) (hb _ _ _ _ ?_)
  refine wpAny_newFunctionEnv_cells S.kind hkind fun env he s1 x => ?_
  subst he
  refine ⟨lim.keeps x.toInCall.keep, codeAny_func ?_⟩
  obtain ⟨t, ht, hq⟩ := hbody A outer s H vs Q E (hr.deeper _) hsp
  have I : Inv (cxOf CX P w K mg base N qual scope f cdv A outer s H E) [] (start N vs) H s1 := inv_start S hr.hd e0 hl r x
  refine wpAny_mono (ht [] s1 (start N vs) H _ I hq) (fun fl s' hs => ?_) fun e s' hs => hs
  have fin : ∀ {σ' : St} {H' : Hp} {v : V} {u : Value}, Inv (cxOf CX P w K mg base N qual scope f cdv A outer s H E) [] σ' H' s' → RelV v u → Q v H' → CE outer P w H s Q u s' :=
    fun {σ' H' v u} J rv q => ⟨v, H', J.os, J.bare, J.base, J.hok, rv, q⟩
  cases fl with
  | ret u =>
    obtain ⟨v, σ', H', J, rv, q⟩ := hs
    exact fin J rv q
  | next =>
    obtain ⟨σ', H', J, q⟩ := hs
    exact fin (v := V.non) (u := Value.none) J rfl q
  | brk =>
    obtain ⟨_, _, _, q⟩ := hs
    exact False.elim q
  | cont =>
    obtain ⟨_, _, _, q⟩ := hs
    exact False.elim q
end L2
namespace L2
open PySem PySem.Spec PyProof.Rows
section
variable {X : Cx} {x : Str} {p pos : Pos} {e : Expr} {es : List Expr} {t : TA} {id T : String} {r : List V → Hp → VK → Prop}
def tCB (r : List V → Hp → VK → Prop) (t : TA) : TE := fun σ H Q => t σ H fun vs H1 => r vs H1 Q
/-- f(e, ..), f a built-in function -/
theorem pe_callB (hc : CallR X (.builtin id) r) (hg : Gl X x) (hm : X.mg x = none) (hv : bootBuiltins x = some (.builtin id)) (ha : PA X (e :: es) t) (hn : x ≠ "__name__" := by decide) (hdb : (x == ("__debug__" : Str)) = false := by decide)
    (he : starEach (e :: es) X.env = (false, eval e X.env) :: starEach es X.env := by rfl) (hpl : (backTo pos (starEach es X.env)).any (·.1) = false := by rfl) : PE X (.Call (.Name x p) (e :: es) [] pos) (tCB r t) := by
  intro pins s σ H Q I h
  refine wpAny_Call_Name_kw (ld_blt I hg hm hv ?_ hn hdb)
  exact PyProof.Rows.callWith_builtin1 (thn (ha pos pins s σ H _ I h) fun us s1 ⟨vs, H1, I1, r1, q1⟩ => hc pins s1 σ H1 vs us Q I1 r1 q1) he hpl
/-- T(e, ..), T a built-in type -/
theorem pe_callTy (hc : CallR X (.type T) r) (hg : Gl X x) (hm : X.mg x = none) (hv : bootBuiltins x = some (.type T)) (ha : PA X (e :: es) t) (hn : x ≠ "__name__" := by decide) (hdb : (x == ("__debug__" : Str)) = false := by decide)
    (he : starEach (e :: es) X.env = (false, eval e X.env) :: starEach es X.env := by rfl) (hpl : (backTo pos (starEach es X.env)).any (·.1) = false := by rfl) : PE X (.Call (.Name x p) (e :: es) [] pos) (tCB r t) := by
  intro pins s σ H Q I h
  refine wpAny_Call_Name_kw (ld_blt I hg hm hv ?_ hn hdb)
  exact PyProof.Rows.callWith_type1 (thn (ha pos pins s σ H _ I h) fun us s1 ⟨vs, H1, I1, r1, q1⟩ => hc pins s1 σ H1 vs us Q I1 r1 q1) he hpl
end
end L2
namespace HT
open PySem PyProof.Rows
section
open PySem.SeqAt
open PySem.AutoSeq1 (wpAny_loadPart')
open PySem.MeetsSeq PySem.MeetsSeq2 PySem.MeetsSeq3
end
section
variable {prog : Program} {w : World} {A : Around} {E : Value → Shared → Prop} {s : Shared}
/-- a slice's bound as a place among n (d where it is left out) -/
def sIx (n d : Nat) : Option Int → Nat
  | none => d
  | some v => if v < 0 then (v + (n : Int)).toNat else min v.toNat n
theorem sIx_none (n d : Nat) : sIx n d none = d := rfl
theorem sIx_nat (n d k : Nat) : sIx n d (some (k : Int)) = min k n := by
  show (if (k : Int) < 0 then ((k : Int) + (n : Int)).toNat else min (k : Int).toNat n) = min k n
  rw [if_neg (by omega), Int.toNat_natCast]
end
end HT
namespace L2
open PySem PySem.Spec PyProof.Rows
abbrev TO := St → Hp → (Option Int → Hp → Prop) → Prop
/-- a slice's part (left out, or an int) -/
def PO (X : Cx) (e : Option Expr) (t : TO) : Prop :=
  ∀ (pins : List (Addr × Obj)) (s : Shared) (σ : St) (H : Hp) (Q : Option Int → Hp → Prop), Inv X pins σ H s → t σ H Q →
    wpAny (model X.prog X.w) X.A (evalPart e X.env) (fun u s' => ∃ o H', Inv X pins σ H' s' ∧ IsPart u o ∧ Q o H') X.xe s
def tNoPart : TO := fun _ H Q => Q none H
def tPart (t : TE) : TO := fun σ H Q => t σ H fun x H1 => ∃ i, x = .int i ∧ Q (some i) H1
section
variable {X : Cx} {e : Expr} {te : TE} {lo hi : Option Expr} {tl th : TO} {pos p2 : Pos}
theorem po_none : PO X none tNoPart := by
  intro pins s σ H Q I h
  rw [evalPart_none]
  exact wpAny_pure ⟨none, H, I, .none, h⟩
theorem po_some (h : PE X e te) : PO X (some e) (tPart te) := by
  intro pins s σ H Q I hw
  rw [evalPart_some]
  refine thn (h pins s σ H _ I hw) fun u s1 ⟨x, H1, I1, r1, q1⟩ => ?_
  obtain ⟨i, rfl, q⟩ := q1
  obtain ⟨t, rfl⟩ := r1
  exact ⟨some i, H1, I1, .int i t, q⟩
/-- what a slice of a value is, by values: the slice object stands at sl -/
def SlR (X : Cx) (r : V → Option Int → Option Int → Hp → VK → Prop) : Prop :=
  ∀ (pins : List (Addr × Obj)) (s : Shared) (σ : St) (H : Hp) (x : V) (v vl vu : Value) (lo hi : Option Int) (sl : Addr) (Q : VK), Inv X pins σ H s → RelV x v → s.heap.IsSliceOf sl vl vu .none → IsPart vl lo → IsPart vu hi → r x lo hi H Q →
    ∃ T id, typeLookup (.type T) "__getitem__" = pure (some (.builtin id)) ∧ s.TypeIs v T ∧ wpAny (model X.prog X.w) X.A (getItem v (.ref sl)) (EP X pins σ Q) X.xe s
def tSl (r : V → Option Int → Option Int → Hp → VK → Prop) (te : TE) (tl th : TO) : TE := fun σ H Q => te σ H fun x H1 => tl σ H1 fun l H2 => th σ H2 fun u H3 => r x l u H3 Q
/-- a[lo:hi], any a -/
theorem pe_slice {r : V → Option Int → Option Int → Hp → VK → Prop} (hr : SlR X r) (he : PE X e te) (hl : PO X lo tl) (hu : PO X hi th) : PE X (.Subscript e (.Slice lo hi none p2) pos) (tSl r te tl th) := by
  intro pins s σ H Q I h
  refine Subscript_ (thn (he pins s σ H _ I h) fun v s1 ⟨x, H1, I1, r1, q1⟩ => ?_)
  refine wpAny_Slice (thn (hl pins s1 σ H1 _ I1 q1) fun vl s2 ⟨l, H2, I2, pl, q2⟩ => thn (hu pins s2 σ H2 _ I2 q2) fun vu s3 ⟨u, H3, I3, pu, q3⟩ => ?_)
  rw [evalPart_none]
  refine wpAny_pure ?_
  have I4 : Inv X pins σ H3 { s3 with heap := s3.heap.push { cls := .type "slice", data := .fields #[vl, vu, .none] } } := I3.kept (t' := s3.toks) fun b ob q => Heap.get?_push_of_some _ q
  obtain ⟨T, id, hT, ht, hg⟩ := hr pins { s3 with heap := s3.heap.push { cls := .type "slice", data := .fields #[vl, vu, .none] } } σ H3 x v vl vu l u s3.heap.objs.size Q I4 r1 (Heap.IsSliceOf.new ..) pl pu q3
  show wpAny (model X.prog X.w) X.A (subscriptTail e (.Slice lo hi none p2) v (.ref s3.heap.objs.size)) (EP X pins σ Q) X.xe { s3 with heap := s3.heap.push { cls := .type "slice", data := .fields #[vl, vu, .none] } }
  exact tail_any (ops := [.ref s3.heap.objs.size, v]) ht hT hg (by with_unfolding_all rfl)
/-- the items of xs[lo:hi] -/
def cutV (xs : List V) (lo hi : Option Int) : List V := (xs.drop (HT.sIx xs.length 0 lo)).take (HT.sIx xs.length xs.length hi - HT.sIx xs.length 0 lo)
theorem cutV_length (xs : List V) (lo hi : Option Int) : (cutV xs lo hi).length ≤ xs.length := by
  unfold cutV
  rw [List.length_take, List.length_drop]
  omega
end
end L2
namespace L2
open PySem PySem.Spec PyProof.Rows
/-- the place that an index of any sign means -/
def ixN (n : Nat) (i : Int) : Option Nat := if 0 ≤ i then (if i < n then some i.toNat else none) else if -(n : Int) ≤ i then some (i + n).toNat else none
def atI {α : Type} (xs : List α) (i : Int) : Option α := (ixN xs.length i).bind fun j => xs[j]?
theorem ixN_seq {n : Nat} {i : Int} {j : Nat} (h : ixN n i = some j) : seqIndex? i n = some j ∧ j < n ∧ -(n : Int) ≤ i ∧ i < n := by
  unfold ixN at h
  by_cases h0 : 0 ≤ i
  · rw [if_pos h0] at h
    by_cases h1 : i < n
    · rw [if_pos h1] at h
      have e : i.toNat = j := Option.some.inj h
      exact ⟨by rw [seqIndex_of h0 h1, e], by omega, by omega, h1⟩
    · rw [if_neg h1] at h; cases h
  · rw [if_neg h0] at h
    by_cases h1 : -(n : Int) ≤ i
    · rw [if_pos h1] at h
      have e : (i + n).toNat = j := Option.some.inj h
      exact ⟨by rw [seqIndex_neg (by omega) h1, e], by omega, h1, by omega⟩
    · rw [if_neg h1] at h; cases h
theorem atI_get {α : Type} {xs : List α} {i : Int} {v : α} (h : atI xs i = some v) : ∃ j, seqIndex? i xs.length = some j ∧ xs[j]? = some v ∧ j < xs.length ∧ -(xs.length : Int) ≤ i ∧ i < xs.length := by
  unfold atI at h
  cases e : ixN xs.length i with
  | none => rw [e] at h; cases h
  | some j =>
    rw [e] at h
    obtain ⟨h1, h2, h3, h4⟩ := ixN_seq e
    exact ⟨j, h1, h, h2, h3, h4⟩
theorem atI_nat {α : Type} {xs : List α} {j : Nat} {v : α} (h : xs[j]? = some v) : atI xs (j : Int) = some v := by
  have hj : j < xs.length := (List.getElem?_eq_some_iff.mp h).1
  have e : ixN xs.length (j : Int) = some j := by
    unfold ixN
    rw [if_pos (by omega), if_pos (by omega)]; simp
  unfold atI; rw [e]; exact h
/-- what stands as an index of a plain subscript -/
def PlainIx (b : Expr) : Prop := ∀ o i, subscripted b false o i = operate [o, i] (getItem o i)
/-- a subscript by values -/
def IxR (X : Cx) (r : R2) : Prop :=
  ∀ (value slice : Expr) (pins : List (Addr × Obj)) (s : Shared) (σ : St) (H : Hp) (x y : V) (v u : Value) (Q : VK), Inv X pins σ H s → RelV x v → RelV y u → r x y H Q →
    subscripted slice false v u = operate [v, u] (getItem v u) → wpAny (model X.prog X.w) X.A (subscriptTail value slice v u) (EP X pins σ Q) X.xe s
/-- a call of a builtin's method by values: the receiver, the arguments -/
def MtR (X : Cx) (id : String) (r : V → List V → Hp → VK → Prop) : Prop :=
  ∀ (pins : List (Addr × Obj)) (s : Shared) (σ : St) (H : Hp) (x : V) (xs : List V) (v : Value) (us : List Value) (Q : VK), Inv X pins σ H s → RelV x v → Vals xs us → r x xs H Q →
    wpAny (model X.prog X.w) X.A (call (.builtin id) (v :: us)) (EP X pins σ Q) X.xe s
section
variable {X : Cx} {a b : Expr} {ta tb : TE} {pos : Pos}
/-- a[b] -/
theorem pe_ix {r : R2} (hr : IxR X r) (ha : PE X a ta) (hb : PE X b tb) (hs : PlainIx b) : PE X (.Subscript a b pos) (tOp r ta tb) := by
  intro pins s σ H Q I h
  exact Subscript_ (binT ha hb I h fun v u s2 x y H2 I2 rx ry q => hr a b pins s2 σ H2 x y v u Q I2 rx ry q (hs _ _))
def rIxL (K : PySem.W.Frag) : R2 := fun x y H Q => ∃ p xs i v, x = .ref p ∧ y = .int i ∧ SqL K H p xs ∧ atI xs i = some v ∧ Q v H
def rIxT (K : PySem.W.Frag) : R2 := fun x y H Q => ∃ p xs i v, x = .ref p ∧ y = .int i ∧ SqT K H p xs ∧ atI xs i = some v ∧ Q v H
theorem ix_list : IxR X (rIxL X.K) := by
  intro value slice pins s σ H x y v u Q I rx ry h hs
  obtain ⟨p, xs, i, z, rfl, rfl, hq, he, q⟩ := h
  cases rx
  obtain ⟨t, rfl⟩ := ry
  obtain ⟨its, r, pl, hz⟩ := I.list hq
  obtain ⟨j, h1, h2, h3, h4, h5⟩ := atI_get he
  obtain ⟨w, ew, rw'⟩ := r.get h2
  have hl := r.length
  have hn := line63
  have fin : EP X pins σ Q w s := ⟨z, H, I, rw', q⟩
  by_cases h0 : 0 ≤ i
  · have hj : i.toNat = j := by
      rw [seqIndex_of h0 h5] at h1
      exact Option.some.inj h1
    exact item_listR pl.isList h0 (by omega) (by rw [hj]; simpa using ew) fin hs
  · have hj : (i + (its.toArray.size : Int)).toNat = j := by
      rw [seqIndex_neg (by omega) h4] at h1
      rw [List.size_toArray, ← hl]
      exact Option.some.inj h1
    exact subscriptTail_builtinR (x := w) pl.isList.typeIs slot_list_getitem.lookup
      (wpAny_getItem_list_neg (Q := fun r s' => r = w ∧ EP X pins σ Q r s') pl.isList (by omega) (by rw [List.size_toArray] <;> omega) (by omega) (by rw [hj]; simpa using ew) ⟨rfl, fin⟩) hs
theorem ix_tup : IxR X (rIxT X.K) := by
  intro value slice pins s σ H x y v u Q I rx ry h hs
  obtain ⟨p, xs, i, z, rfl, rfl, hq, he, q⟩ := h
  cases rx
  obtain ⟨t, rfl⟩ := ry
  obtain ⟨its, r, pl, hz⟩ := I.tuple hq
  obtain ⟨j, h1, h2, h3, h4, h5⟩ := atI_get he
  obtain ⟨w, ew, rw'⟩ := r.get h2
  have hl := r.length
  have hn := line63
  have fin : EP X pins σ Q w s := ⟨z, H, I, rw', q⟩
  exact subscriptTail_builtinR (x := w) pl.typeIs slot_tuple_getitem.lookup
    (getItem_tuple (j := j) (Q := fun r s' => r = w ∧ EP X pins σ Q r s') pl (by omega) (by omega) (by rw [List.size_toArray, ← hl]; exact h1) (by simpa using ew) ⟨rfl, fin⟩) hs
theorem slice_bounds (lo hi : Option Int) (n : Nat) : (sliceBounds lo hi none n).1 = ((HT.sIx n 0 lo : Nat) : Int) ∧ (sliceBounds lo hi none n).2.1 = ((HT.sIx n n hi : Nat) : Int) ∧ (sliceBounds lo hi none n).2.2 = 1 := by
  refine ⟨?_, ?_, rfl⟩
  · cases lo with
    | none => simp [sliceBounds, HT.sIx]
    | some i =>
      simp only [sliceBounds, HT.sIx, Option.getD_none, show (1 : Int) > 0 by decide, if_true]
      by_cases h : i < 0
      · simp only [h, if_true] <;> omega
      · simp only [h, if_false] <;> omega
  · cases hi with
    | none => simp [sliceBounds, HT.sIx]
    | some i =>
      simp only [sliceBounds, HT.sIx, Option.getD_none, show (1 : Int) > 0 by decide, if_true]
      by_cases h : i < 0
      · simp only [h, if_true] <;> omega
      · simp only [h, if_false] <;> omega
theorem slicePick_cut (its : List Value) (lo hi : Option Int) : slicePick its.toArray lo hi none = ((its.drop (HT.sIx its.length 0 lo)).take (HT.sIx its.length its.length hi - HT.sIx its.length 0 lo)).toArray := by
  obtain ⟨h1, h2, h3⟩ := slice_bounds lo hi its.toArray.size
  unfold slicePick
  rw [h1, h2, h3]
  simp only [sliceRange_one, pick_run, List.size_toArray] <;> rfl
/-- xs[lo:hi] of a list: a new list -/
def rSlL (K : PySem.W.Frag) : V → Option Int → Option Int → Hp → VK → Prop := fun x lo hi H Q => ∃ a xs, x = .ref a ∧ SqL K H a xs ∧ ∀ p, H p = none → Q (.ref p) (upd H p (.lst (cutV xs lo hi)))
theorem sl_list : SlR X (rSlL X.K) := by
  intro pins s σ H x v vl vu lo hi sl Q I rx hs pl pu h
  obtain ⟨a, xs, rfl, hx, q⟩ := h
  cases rx
  obtain ⟨its, r, ht, hz⟩ := I.list hx
  have hlen := r.length
  refine ⟨"list", _, slot_list_getitem.lookup, ht.isList.typeIs, ?_⟩
  refine wpAny_getItem_list_slice ht.isList hs pl pu .none (by simp) ?_ (by rw [List.size_toArray] <;> omega)
  rw [slicePick_cut, ← hlen]
  refine ⟨.ref s.heap.objs.size, _, I.laid (t' := s.toks) (o := .lst (cutV xs lo hi)) (fun b ob q => Heap.get?_push_of_some _ q) (Nat.le_refl _) ?_, rfl, q _ (I.hok.fresh (Nat.le_refl _))⟩
  exact ⟨Nat.le_trans (cutV_length xs lo hi) hz, _, 0, (r.drop (HT.sIx xs.length 0 lo)).take (HT.sIx xs.length xs.length hi - HT.sIx xs.length 0 lo), Heap.get?_push_size _ rfl⟩
def flatV : V → Bool
  | .non => true
  | .bl _ => true
  | .int _ => true
  | .str _ => true
  | _ => false
/-- == of flat values -/
def eqV : V → V → Bool
  | .non, .non => true
  | .bl a, .bl b => a == b
  | .bl a, .int b => (if a then 1 else 0) == b
  | .int a, .bl b => a == (if b then 1 else 0)
  | .int a, .int b => a == b
  | .str a, .str b => a == b
  | _, _ => false
theorem eqAt_V {A : Around} {s : Shared} {y x : V} {u v : Value} (ry : RelV y u) (rx : RelV x v) (fy : flatV y = true) (fx : flatV x = true) : SeqAt.EqAt A s u v (eqV y x) := by
  cases y with
  | non =>
    cases ry
    cases x with
    | non => cases rx; exact SeqAt.EqAt.same _
    | bl b => cases rx; exact SeqAt.EqAt.none_bool b
    | int b => obtain ⟨t, rfl⟩ := rx; exact SeqAt.EqAt.none_int b t
    | str b => obtain ⟨t, rfl⟩ := rx; exact SeqAt.EqAt.none_str b t
    | _ => exact absurd (show false = true from fx) Bool.false_ne_true
  | bl a =>
    cases ry
    cases x with
    | non => cases rx; exact SeqAt.EqAt.bool_none a
    | bl b => cases rx; exact SeqAt.EqAt.bool_bool a b
    | int b => obtain ⟨t, rfl⟩ := rx; exact SeqAt.EqAt.bool_int a b t
    | str b => obtain ⟨t, rfl⟩ := rx; exact SeqAt.EqAt.bool_str a b t
    | _ => exact absurd (show false = true from fx) Bool.false_ne_true
  | int a =>
    obtain ⟨t', rfl⟩ := ry
    cases x with
    | non => cases rx; exact SeqAt.EqAt.int_none a t'
    | bl b => cases rx; exact SeqAt.EqAt.int_bool a t' b
    | int b => obtain ⟨t, rfl⟩ := rx; exact SeqAt.EqAt.int_int a t' b t
    | str b => obtain ⟨t, rfl⟩ := rx; exact SeqAt.EqAt.int_str a t' b t
    | _ => exact absurd (show false = true from fx) Bool.false_ne_true
  | str a =>
    obtain ⟨t', rfl⟩ := ry
    cases x with
    | non => cases rx; exact SeqAt.EqAt.str_none a t'
    | bl b => cases rx; exact SeqAt.EqAt.str_bool a t' b
    | int b => obtain ⟨t, rfl⟩ := rx; exact SeqAt.EqAt.str_int a t' b t
    | str b => obtain ⟨t, rfl⟩ := rx; exact SeqAt.EqAt.str_str a t' b t
    | _ => exact absurd (show false = true from fx) Bool.false_ne_true
  | _ => exact absurd (show false = true from fy) Bool.false_ne_true
/-- the items' answers, read off the values (a value's own answer does not lean on its token) -/
def eqU (x : V) (u : Value) : Bool := match u with
  | .none => eqV .non x
  | .bool b => eqV (.bl b) x
  | .int i _ => eqV (.int i) x
  | .str z _ => eqV (.str z) x
  | _ => false
theorem eqU_of {x y : V} {u : Value} (r : RelV y u) (f : flatV y = true) : eqU x u = eqV y x := by
  cases y with
  | non => cases r; rfl
  | bl b => cases r; rfl
  | int i => obtain ⟨t, rfl⟩ := r; rfl
  | str z => obtain ⟨t, rfl⟩ := r; rfl
  | _ => exact absurd (show false = true from f) Bool.false_ne_true
theorem any_eqU {x : V} : ∀ {xs : List V} {us : List Value}, Vals xs us → xs.all flatV = true → us.any (eqU x) = xs.any fun y => eqV y x
  | _, _, .nil, _ => rfl
  | y :: xs, u :: us, .cons r t, f => by
    rw [List.all_cons, Bool.and_eq_true] at f
    rw [List.any_cons, List.any_cons, eqU_of r f.1, any_eqU t f.2]
theorem mem_eqAt {A : Around} {s : Shared} {x : V} {v : Value} (rx : RelV x v) (fx : flatV x = true) : ∀ {xs : List V} {us : List Value}, Vals xs us → xs.all flatV = true → ∀ u ∈ us, SeqAt.EqAt A s u v (eqU x u)
  | _, _, .nil, _ => fun u hu => by cases hu
  | y :: xs, u :: us, .cons r t, f => fun u' hu => by
    rw [List.all_cons, Bool.and_eq_true] at f
    rcases List.mem_cons.mp hu with rfl | hu
    · rw [eqU_of r f.1]; exact eqAt_V r rx f.1 fx
    · exact mem_eqAt rx fx t f.2 u' hu
def inV (x : V) (xs : List V) : Bool := xs.any fun y => eqV y x
/-- x in a list or tuple of flat items -/
def rIn (K : PySem.W.Frag) (neg : Bool) : R2 := fun x y H Q => ∃ p xs, y = .ref p ∧ (SqL K H p xs ∨ SqT K H p xs) ∧ flatV x = true ∧ xs.all flatV = true ∧ Q (.bl (if neg then !inV x xs else inV x xs)) H
theorem op_in_seq : OpR X (compareOp .In) (rIn X.K false) := by
  intro pins s σ H x y v u Q I rx ry h
  obtain ⟨p, xs, rfl, hq, fx, fs, q⟩ := h
  cases ry
  rcases hq with hq | hq
  · obtain ⟨its, r, pl, hz⟩ := I.list hq
    refine SeqAt.in_listAt (eqU x) pl.isList (fun w hw => mem_eqAt rx fx r fs w (by simpa using hw)) ⟨.bl _, H, I, rfl, ?_⟩
    rw [show its.toArray.any (eqU x) = its.any (eqU x) by simp, any_eqU r fs]
    exact q
  · obtain ⟨its, r, pl, hz⟩ := I.tuple hq
    refine SeqAt.in_tupleAt (eqU x) pl (fun w hw => mem_eqAt rx fx r fs w (by simpa using hw)) ⟨.bl _, H, I, rfl, ?_⟩
    rw [show its.toArray.any (eqU x) = its.any (eqU x) by simp, any_eqU r fs]
    exact q
theorem call_len_seq : CallR X (.builtin "len") (fun xs H Q => ∃ p ys, xs = [.ref p] ∧ (SqL X.K H p ys ∨ SqT X.K H p ys) ∧ Q (.int ys.length) H) := by
  intro pins s σ H xs us Q I r h
  obtain ⟨p, ys, rfl, hq, q⟩ := h
  obtain ⟨u, rfl, rx⟩ := vals1 r
  cases rx
  have hn := line63
  rcases hq with hq | hq
  · obtain ⟨its, r', pl, hz⟩ := I.list hq
    have hlen := r'.length
    exact Calls.call_len_list pl.isList (by simp only [List.size_toArray] <;> omega) ⟨.int ys.length, H, I.tok _, ⟨s.toks + 1, by rw [List.size_toArray, hlen]⟩, q⟩
  · obtain ⟨its, r', pl, hz⟩ := I.tuple hq
    have hlen := r'.length
    exact len_tuple pl (by simp only [List.size_toArray] <;> omega) ⟨.int ys.length, H, I.tok _, ⟨s.toks + 1, by rw [List.size_toArray, hlen]⟩, q⟩
theorem call_list_of : CallR X (.type "list") (fun xs H Q => ∃ p ys, xs = [.ref p] ∧ (SqL X.K H p ys ∨ SqT X.K H p ys) ∧ ∀ l, H l = none → Q (.ref l) (upd H l (.lst ys))) := by
  intro pins s σ H xs us Q I r h
  obtain ⟨p, ys, rfl, hq, q⟩ := h
  obtain ⟨u, rfl, rx⟩ := vals1 r
  cases rx
  have fin : ∀ (its : List Value), Vals ys its → ys.length ≤ sizeLine → ∀ (h' : Heap) (c' : Nat), (∀ b o', s.heap.get? b = some o' → h'.get? b = some o') →
      h'.get? s.heap.objs.size = some { cls := .type "list", dict := none, data := .seq its.toArray c', slots := #[] } → EP X pins σ Q (.ref s.heap.objs.size) { s with heap := h' } := fun its r' hz h' c' kp e =>
    ⟨.ref s.heap.objs.size, _, I.laid (t' := s.toks) kp (Nat.le_refl _) (show ObjOk X.prog X.w _ h' _ (.lst ys) from ⟨hz, its, c', r', e⟩), rfl, q _ (I.hok.fresh (Nat.le_refl _))⟩
  rcases hq with hq | hq
  · obtain ⟨its, r', pl, hz⟩ := I.list hq
    have hlen := r'.length
    obtain ⟨o, ho, hc, n, hd⟩ := pl.isList
    exact call_list_seq p (.inl rfl) ho hc hd (fun h' c' kp e => fin its r' hz h' c' kp e) (by simp only [List.size_toArray] <;> omega)
  · obtain ⟨its, r', pl, hz⟩ := I.tuple hq
    have hlen := r'.length
    obtain ⟨o, ho, hc, n, hd⟩ := pl
    exact call_list_seq p (.inr rfl) ho hc hd (fun h' c' kp e => fin its r' hz h' c' kp e) (by simp only [List.size_toArray] <;> omega)
/-- the value is of that builtin type -/
def tyV (K : PySem.W.Frag) (T : String) (x : V) (H : Hp) : Prop := match x with
  | .str _ => T = "str"
  | .int _ => T = "int"
  | .ref p => (T = "list" ∧ ∃ xs, SqL K H p xs) ∨ (T = "tuple" ∧ ∃ o, K.lookup p = some o ∧ o.cls = .type "tuple" ∧ o.dict = none) ∨
      (T = "dict" ∧ ((∃ kvs, H p = some (.dK kvs)) ∨ ∃ kvs, H p = some (.dT kvs))) ∨ (T = "set" ∧ ∃ S n, H p = some (.set S n))
  | _ => False
theorem tyV_is {pins : List (Addr × Obj)} {σ : St} {H : Hp} {s : Shared} {T : String} {x : V} {v : Value} (I : Inv X pins σ H s) (r : RelV x v) (ty : tyV X.K T x H) :
    s.TypeIs v T ∧ ∀ a, v = .ref a → ∃ ob, s.heap.get? a = some ob ∧ ob.dict = none := by
  cases x with
  | str z =>
    obtain ⟨t, rfl⟩ := r
    cases (show T = "str" from ty)
    exact ⟨typeIs_str s z t, fun _ e => nomatch e⟩
  | int i =>
    obtain ⟨t, rfl⟩ := r
    cases (show T = "int" from ty)
    exact ⟨typeIs_int s i t, fun _ e => nomatch e⟩
  | ref p =>
    cases r
    rcases ty with ⟨rfl, xs, hq⟩ | ⟨rfl, o, hk, hc, hd⟩ | ⟨rfl, hk⟩ | ⟨rfl, S, n, hk⟩
    · obtain ⟨its, _, pl, _⟩ := I.list hq
      refine ⟨pl.isList.typeIs, fun a e => ?_⟩
      cases e
      obtain ⟨o, n, e, c, hd, _⟩ := pl
      exact ⟨o, e, hd⟩
    · refine ⟨⟨o, I.kIn p o hk, hc⟩, fun a e => ?_⟩
      cases e
      exact ⟨o, I.kIn _ o hk, hd⟩
    · have z : ∃ o, s.heap.get? p = some o ∧ o.ExactDict := by
        rcases hk with ⟨kvs, hk⟩ | ⟨kvs, hk⟩
        · obtain ⟨_, _, _, _, o, _, _, e, ex, _⟩ := I.hok p _ hk
          exact ⟨o, e, ex⟩
        · obtain ⟨_, _, _, _, o, _, _, e, ex, _⟩ := I.hok p _ hk
          exact ⟨o, e, ex⟩
      obtain ⟨o, e, ex⟩ := z
      refine ⟨⟨o, e, ex.1⟩, fun a e2 => ?_⟩
      cases e2
      exact ⟨o, e, ex.2.1⟩
    · obtain ⟨o, _, _, _, e, ex, _⟩ := I.hok p _ hk
      refine ⟨⟨o, e, ex.1⟩, fun a e2 => ?_⟩
      cases e2
      exact ⟨o, e, ex.2.1⟩
  | _ => exact False.elim ty
def tBM (K : PySem.W.Frag) (T : String) (r : V → List V → Hp → VK → Prop) (to : TE) (t : TA) : TE := fun σ H Q => to σ H fun x H1 => tyV K T x H1 ∧ t σ H1 fun xs H2 => r x xs H2 Q
variable {o e : Expr} {es : List Expr} {to : TE} {t : TA} {name : Str} {apos cpos : Pos} {T id : String} {r : V → List V → Hp → VK → Prop}
theorem pe_bm (pa : PlainAttrs T) (slot : Slot T name id) (hty : typeOf (.builtin id) = pure (.type "method_descriptor")) (hm : MtR X id r) (ho : PE X o to) (ha : PA X (e :: es) t)
    (hbase : attributeBase o name X.env (eval o X.env) = eval o X.env := by rfl)
    (hfew : ((backTo cpos (starEach (e :: es) X.env)).all (fun x => !x.1) && (backToKw cpos (keywordEach [] X.env)).all (fun x => x.1.isSome)
      && decide ((e :: es).length + ([] : List Keyword).length + (if ([] : List Keyword).isEmpty then 0 else 1) < 30)) = true := by rfl)
    (hline : (apos.endLine == cpos.line) = true := by rfl) (hs : starEach (e :: es) X.env = (false, eval e X.env) :: starEach es X.env := by rfl) (hplain : (backTo cpos (starEach es X.env)).any (·.1) = false := by rfl) :
    PE X (.Call (.Attribute o name apos) (e :: es) [] cpos) (tBM X.K T r to t) := by
  intro pins s σ H Q I h
  refine wpAny_Call_method_late hbase hfew hline rfl (thn (ho pins s σ H _ I h) fun v s1 ⟨x, H1, I1, r1, ty, q1⟩ => ?_)
  obtain ⟨h1, h2⟩ := tyV_is I1 r1 ty
  refine ⟨T, id, pa, slot, hty, h1, h2, ?_⟩
  have hA := ha cpos pins s1 σ H1 _ I1 q1
  rw [hs] at hA ⊢
  refine Calls.callWith_builtin (by show (false || (backTo cpos (starEach es X.env)).any (·.1)) = false; rw [hplain] <;> rfl) (Calls.evalArgs_plain ?_)
  exact thn hA fun us s2 ⟨vs, H2, I2, r2, q2⟩ => hm pins s2 σ H2 x vs v us Q I2 r1 r2 q2
/- xs.append(e), list.index on a module's tuple .. are MtR facts of 06m -/
end
end L2
namespace L2
open PySem PySem.Spec PyProof.Rows
def MtM (X : Cx) (id : String) (r : V → List V → Hp → VK → Prop) : Prop :=
  ∀ (pins : List (Addr × Obj)) (s : Shared) (σ : St) (H : Hp) (x : V) (xs : List V) (v : Value) (us : List Value) (Q : VK), Inv X pins σ H s → RelV x v → Vals xs us → r x xs H Q →
    wpAny (model X.prog X.w) X.A (call (.builtin id) (v :: us)) (EP X pins σ Q) X.xe s
theorem Vals.one : ∀ {x : V} {us : List Value}, Vals [x] us → ∃ u, us = [u] ∧ RelV x u
  | _, _, .cons r .nil => ⟨_, rfl, r⟩
theorem Vals.eraseIdx : ∀ {xs : List V} {us : List Value} (i : Nat), Vals xs us → Vals (xs.eraseIdx i) (us.eraseIdx i)
  | _, _, _, .nil => .nil
  | _, _, 0, .cons _ t => t
  | _, _, i + 1, .cons r t => .cons r (Vals.eraseIdx i t)
theorem len_erase {α : Type} : ∀ (l : List α) (i : Nat), (l.eraseIdx i).length ≤ l.length
  | [], _ => Nat.le_refl _
  | _ :: _, 0 => Nat.le_succ _
  | _ :: r, i + 1 => Nat.succ_le_succ (len_erase r i)
section
variable {X : Cx} {pins : List (Addr × Obj)} {σ : St} {H : Hp} {s : Shared} {l b : Addr} {xs ys zs : List V}
theorem Inv.lset {its its' : List Value} {n : Nat} {f : Array Value → Array Value} {t' : Nat} (I : Inv X pins σ H s) (hH : H l = some (.lst xs))
    (e : s.heap.get? l = some { cls := .type "list", data := .seq its.toArray n }) (hf : f its.toArray = its'.toArray) (hv : Vals ys its') (hz : ys.length ≤ sizeLine) :
    Inv X pins σ (upd H l (.lst ys)) { s with heap := s.heap.update l (Obj.mapSeq f), toks := t' } := by
  have q := PySem.IsL.update e f
  rw [hf] at q
  refine I.write (x := l) (e := l) (by rw [hH]; exact trivial) (.inl rfl) (fun b' u hb hu => (Heap.get?_update_other s.heap (Obj.mapSeq f) (Ne.symm hb)).trans hu) ⟨_, q⟩ ?_
  exact ⟨hz, its', _, hv, q⟩
theorem Inv.lnew {its : List Value} {t' : Nat} (I : Inv X pins σ H s) (hv : Vals ys its) (hz : ys.length ≤ sizeLine) :
    Inv X pins σ (upd H s.heap.objs.size (.lst ys)) { s with heap := s.heap.push { cls := .type "list", data := .seq its.toArray }, toks := t' } :=
  I.laid (fun _ _ q => Heap.get?_push_of_some _ q) (Nat.le_refl _) ⟨hz, its, 0, hv, Heap.get?_push_size _ rfl⟩
theorem Inv.fresh (I : Inv X pins σ H s) : H s.heap.objs.size = none := I.hok.fresh (Nat.le_refl _)
theorem Inv.lstM (I : Inv X pins σ H s) (hH : H l = some (.lst xs)) : xs.length ≤ sizeLine ∧ ∃ (its : List Value) (n : Nat), Vals xs its ∧ xs.length = its.length ∧ s.heap.get? l = some { cls := .type "list", data := .seq its.toArray n } := by
  obtain ⟨z, its, n, r, e⟩ := I.hok l _ hH
  exact ⟨z, its, n, r, r.length, e⟩
theorem notLongL {n : Nat} (h : n ≤ sizeLine) : Builtin.List.listTooLong n = false := by
  unfold Builtin.List.listTooLong
  exact decide_eq_false (by omega)
end
section
variable {X : Cx}
def rAppend : V → List V → Hp → VK → Prop := fun x vs H Q => ∃ l xs y, x = .ref l ∧ vs = [y] ∧ H l = some (.lst xs) ∧ xs.length < sizeLine ∧ Q .non (upd H l (.lst (xs ++ [y])))
theorem mt_append : MtM X "list.append" rAppend := by
  intro pins s σ H x vs v us Q I rx rv h
  obtain ⟨l, xs, y, rfl, rfl, hH, hz, q⟩ := h
  cases rx
  obtain ⟨u, rfl, ru⟩ := rv.one
  obtain ⟨z, its, n, r, hl, e⟩ := I.lstM hH
  refine call_meets F.slot_list_append ⟨_, e, rfl⟩ F.entry_list_append (F.args_list_append_2 _ _) (PySem.list_append l its.toArray n u (by rw [List.size_toArray]; omega)) ⟨e, ?_⟩
  refine ⟨.non, _, I.lset (its' := its ++ [u]) hH e (by simp) (r.append (.cons ru .nil)) ?_, rfl, q⟩
  rw [List.length_append, List.length_singleton]
  omega
def rExtend : V → List V → Hp → VK → Prop := fun x vs H Q => ∃ l b xs zs, x = .ref l ∧ vs = [.ref b] ∧ H l = some (.lst xs) ∧ H b = some (.lst zs) ∧ xs.length + zs.length ≤ sizeLine ∧ Q .non (upd H l (.lst (xs ++ zs)))
theorem mt_extend : MtM X "list.extend" rExtend := by
  intro pins s σ H x vs v us Q I rx rv h
  obtain ⟨l, b, xs, zs, rfl, rfl, hH, hB, hz, q⟩ := h
  cases rx
  obtain ⟨u, rfl, ru⟩ := rv.one
  cases ru
  obtain ⟨z, its, n, r, hl, e⟩ := I.lstM hH
  obtain ⟨z2, its2, n2, r2, hl2, e2⟩ := I.lstM hB
  have hsz : its.toArray.size + its2.toArray.size ≤ sizeLine := by rw [List.size_toArray, List.size_toArray]; omega
  have hlong : ¬ (!its.toArray.isEmpty && Builtin.List.listTooLong (its.toArray.size + its2.toArray.size)) = true := by
    rw [notLongL hsz, Bool.and_false]
    exact Bool.false_ne_true
  refine call_meets F.slot_list_extend ⟨_, e, rfl⟩ F.entry_list_extend (F.args_list_extend_2 _ _)
    (AutoSeq1.list_extend_list_list_0 l its.toArray n b its2.toArray n2 hlong (by rw [List.size_toArray]; omega) (by omega)) ⟨e, e2, ?_⟩
  refine ⟨.non, _, I.lset (its' := its ++ its2) hH e (by simp) (r.append r2) ?_, rfl, q⟩
  rw [List.length_append]
  omega
def rPopAt : V → List V → Hp → VK → Prop := fun x vs H Q => ∃ l xs i k y, x = .ref l ∧ vs = [.int i] ∧ H l = some (.lst xs) ∧ -(2 ^ 63) ≤ i ∧ i < 2 ^ 63 ∧ seqIndex? i xs.length = some k ∧ xs[k]? = some y ∧ Q y (upd H l (.lst (xs.eraseIdx k)))
theorem mt_popAt : MtM X "list.pop" rPopAt := by
  intro pins s σ H x vs v us Q I rx rv h
  obtain ⟨l, xs, i, k, y, rfl, rfl, hH, h1, h2, hk, hy, q⟩ := h
  cases rx
  obtain ⟨u, rfl, ru⟩ := rv.one
  obtain ⟨t, rfl⟩ := ru
  obtain ⟨z, its, n, r, hl, e⟩ := I.lstM hH
  obtain ⟨w, hw, rw'⟩ := r.get hy
  refine call_meets F.slot_list_pop ⟨_, e, rfl⟩ F.entry_list_pop (F.args_list_pop_2 _ _)
    (MeetsSeq.list_pop_at l its.toArray n i t k w (fitsIndex_both h1 h2) (by rw [List.size_toArray, ← hl]; exact hk) (by rw [← Array.getElem?_toList]; exact hw) (by rw [List.size_toArray]; omega)) ⟨e, ?_⟩
  refine ⟨y, _, I.lset (its' := its.eraseIdx k) hH e ?_ (r.eraseIdx k) ?_, rw', q⟩
  · show its.toArray.eraseIdxIfInBounds k = (its.eraseIdx k).toArray
    rw [List.eraseIdxIfInBounds_toArray]
  · have := len_erase xs k
    omega
def rCat : R2 := fun x y H Q => ∃ l b xs zs, x = .ref l ∧ y = .ref b ∧ H l = some (.lst xs) ∧ H b = some (.lst zs) ∧ xs.length + zs.length ≤ sizeLine ∧ ∀ p, H p = none → Q (.ref p) (upd H p (.lst (xs ++ zs)))
theorem op_cat : OpR X (binaryOp .Add) rCat := by
  intro pins s σ H x y v u Q I rx ry h
  obtain ⟨l, b, xs, zs, rfl, rfl, hH, hB, hz, q⟩ := h
  cases rx
  cases ry
  obtain ⟨z, its, n, r, hl, e⟩ := I.lstM hH
  obtain ⟨z2, its2, n2, r2, hl2, e2⟩ := I.lstM hB
  refine PySem.P.add_list e e2 ?_ (by rw [List.size_toArray, List.size_toArray]; omega)
  have ea : its.toArray ++ its2.toArray = (its ++ its2).toArray := by simp
  rw [ea]
  exact ⟨.ref _, _, I.lnew (t' := s.toks) (r.append r2) (by rw [List.length_append]; omega), rfl, q _ I.fresh⟩
end
section
variable {prog : Program} {w : World} {A : Around} {E : Value → Shared → Prop} {s : Shared}
set_option maxRecDepth 100000 in
end
section
variable {X : Cx}
end
end L2
namespace L2
open PySem PySem.Spec PyProof.Rows
theorem Vals.ints : ∀ {ns : List Int} {us : List Value}, Vals (ns.map V.int) us → IntsAre us ns
  | [], us, h => by
    rw [List.map_nil] at h
    cases h
    exact IntsAre.nil
  | n :: ns, us, h => by
    rw [List.map_cons] at h
    cases h with
    | cons r t =>
      obtain ⟨k, rfl⟩ := r
      exact IntsAre.cons n k (Vals.ints t)
theorem vals_of_ints : ∀ {us : List Value} {ns : List Int}, IntsAre us ns → Vals (ns.map V.int) us
  | _, _, .nil => by rw [List.map_nil]; exact Paired.nil
  | _, _, .cons n t h => by rw [List.map_cons]; exact Paired.cons (show RelV (V.int n) (Value.int n t) from ⟨t, rfl⟩) (vals_of_ints h)
theorem Vals.ref1 {a : Addr} {us : List Value} (r : Vals [V.ref a] us) : us = [Value.ref a] := by
  cases r with
  | cons r t =>
    cases t
    cases r
    rfl
section
variable {prog : Program} {w : World} {A : Around} {E : Value → Shared → Prop} {s : Shared} {l : Addr} {its : List Value} {ns : List Int} {Q : Value → Shared → Prop}
theorem sum_raw (hh : A.handled = none) (hl : s.heap.IsList l its.toArray) (hi : IntsAre its ns)
    (h : ∀ h' tk t', (∀ b o, s.heap.get? b = some o → h'.get? b = some o) → Q (.int ns.sum t') { s with heap := h', toks := tk }) : wpAny (model prog w) A (call (.builtin "sum") [.ref l]) Q E s := by
  obtain ⟨xs, e⟩ := hi.allInts.items
  have hn : numsOf (intItems xs).toList = ns := by rw [← e]; exact hi.numsOf
  rw [nums_intItems] at hn
  rw [e] at hl
  refine PySem.sum_intListG hh hl fun h' tk t' hk => ?_
  have := h h' tk t' hk
  rw [preSum_eq, List.take_of_length_le (by simp), hn]; exact this
end
section
variable {X : Cx}
/-- sum(xs) of a list of ints -/
def rSum (K : PySem.W.Frag) : List V → Hp → VK → Prop := fun vs H Q => ∃ (a : Addr) (ns : List Int), vs = [V.ref a] ∧ SqL K H a (ns.map V.int) ∧ Q (.int ns.sum) H
theorem cr_sum (hc : X.calm = true) : CallR X (.builtin "sum") (rSum X.K) := by
  intro pins s σ H vs us Q I r h
  obtain ⟨a, ns, rfl, hs, q⟩ := h
  obtain ⟨its, rv, hl, _⟩ := I.list hs
  rw [Vals.ref1 r]
  exact sum_raw (I.ok.hd hc) hl.isList rv.ints fun h' tk t' hk => ⟨.int _, H, I.kept hk, ⟨_, rfl⟩, q⟩
end
section
variable {X : Cx}
end
section
variable {X : Cx}
end
section
variable {X : Cx}
end
mutual
inductive Dp (K : PySem.W.Frag) (H : Hp) : V → PyData → Prop
  | non : Dp K H .non .none
  | bl (b : Bool) : Dp K H (.bl b) (.bool b)
  | int (i : Int) : Dp K H (.int i) (.int i)
  | str (x : Str) : Dp K H (.str x) (.str x)
  | lst {a : Addr} {xs : List V} {ds : List PyData} : SqL K H a xs → DpAll K H xs ds → Dp K H (.ref a) (.list ds)
  | tup {a : Addr} {xs : List V} {ds : List PyData} : SqT K H a xs → DpAll K H xs ds → Dp K H (.ref a) (.tuple ds)
inductive DpAll (K : PySem.W.Frag) (H : Hp) : List V → List PyData → Prop
  | nil : DpAll K H [] []
  | cons {v : V} {vs : List V} {d : PyData} {ds : List PyData} : Dp K H v d → DpAll K H vs ds → DpAll K H (v :: vs) (d :: ds)
end
section
variable {X : Cx} {pins : List (Addr × Obj)} {σ : St} {H : Hp} {s : Shared}
mutual
theorem Dp.reads (I : Inv X pins σ H s) : ∀ (d : PyData) (v : V) (u : Value), Dp X.K H v d → RelV v u → ∃ as, Reads s.heap u d as
  | .none, _, _, h, r => by
    cases h
    cases r
    exact ⟨_, Reads.none⟩
  | .bool b, _, _, h, r => by
    cases h
    cases r
    exact ⟨_, Reads.bool b⟩
  | .int i, _, _, h, r => by
    cases h
    obtain ⟨t, rfl⟩ := r
    exact ⟨_, Reads.int i t⟩
  | .str x, _, _, h, r => by
    cases h
    obtain ⟨t, rfl⟩ := r
    exact ⟨_, Reads.str x t⟩
  | .list ds, _, _, h, r => by
    cases h with
    | lst hs ha =>
      cases r
      obtain ⟨its, rv, ⟨o, n, ho, hc, _, hd⟩, _⟩ := I.list hs
      obtain ⟨as, hr⟩ := Dp.readsAll I ds _ its ha rv
      exact ⟨_, Reads.list ho hc hd hr⟩
  | .tuple ds, _, _, h, r => by
    cases h with
    | tup hs ha =>
      cases r
      obtain ⟨its, rv, ⟨o, ho, hc, n, hd⟩, _⟩ := I.tuple hs
      obtain ⟨as, hr⟩ := Dp.readsAll I ds _ its ha rv
      exact ⟨_, Reads.tuple ho hc hd hr⟩
  | .dict _, _, _, h, _ => by cases h
theorem Dp.readsAll (I : Inv X pins σ H s) : ∀ (ds : List PyData) (vs : List V) (us : List Value), DpAll X.K H vs ds → Vals vs us → ∃ as, ReadsAll s.heap us ds as
  | [], _, _, h, r => by
    cases h
    cases r
    exact ⟨_, ReadsAll.nil⟩
  | d :: ds, _, _, h, r => by
    cases h with
    | cons h1 h2 =>
      cases r with
      | cons r1 r2 =>
        obtain ⟨as, q1⟩ := Dp.reads I d _ _ h1 r1
        obtain ⟨bs, q2⟩ := Dp.readsAll I ds _ _ h2 r2
        exact ⟨_, ReadsAll.cons q1 q2⟩
end
end
section
variable {X : Cx}
def rEqD (K : PySem.W.Frag) : R2 := fun x y H Q => ∃ d e, Dp K H x d ∧ Dp K H y e ∧ SeqAt.shaped d = true ∧ SeqAt.shaped e = true ∧ Q (.bl (PyData.eqv d e)) H
def rNeD (K : PySem.W.Frag) : R2 := fun x y H Q => ∃ d e, Dp K H x d ∧ Dp K H y e ∧ SeqAt.shaped d = true ∧ SeqAt.shaped e = true ∧ Q (.bl (!PyData.eqv d e)) H
theorem op_eqD (hu : X.A.units + 64 < cLine) : OpR X (compareOp .Eq) (rEqD X.K) := by
  intro pins s σ H x y v u Q I rx ry h
  obtain ⟨d, e, hd, he, sd, se, q⟩ := h
  obtain ⟨as, r1⟩ := Dp.reads I d x v hd rx
  obtain ⟨bs, r2⟩ := Dp.reads I e y u he ry
  exact SeqAt.compareEq_shaped r1 r2 sd se hu ⟨.bl _, H, I, rfl, q⟩
theorem op_neD (hu : X.A.units + 64 < cLine) : OpR X (compareOp .NotEq) (rNeD X.K) := by
  intro pins s σ H x y v u Q I rx ry h
  obtain ⟨d, e, hd, he, sd, se, q⟩ := h
  obtain ⟨as, r1⟩ := Dp.reads I d x v hd rx
  obtain ⟨bs, r2⟩ := Dp.reads I e y u he ry
  exact SeqAt.compareNe_shaped r1 r2 sd se hu ⟨.bl _, H, I, rfl, q⟩
end
end L2
namespace L2
open PySem PySem.Spec PyProof.Rows
abbrev CellAt (h : Heap) (c : Addr) (v : Option Value) : Prop := h.IsCell c v
def relS (scope sc : Scope) : Scope :=
  { scope with names := scope.names.map fun (n, k) => if (k == .free && sc.kind == .function && sc.names.lookup n == some .cell) then (n, .cell) else (n, k) }
def cloFrom (cells : List (Str × Addr)) : List (Str × NameKind) → List (Str × Addr) → List (Str × Addr)
  | [], acc => acc
  | (n, k) :: r, acc => if k == .free then cloFrom cells r ((n, (cells.lookup n).getD 0) :: acc) else cloFrom cells r acc
theorem closure_loop (env : Env) (f : Str × NameKind → List (Str × Addr) → Sem (ForInStep (List (Str × Addr))))
    (hf : ∀ n k c, f (n, k) c = if k == .free then (do let a ← cellOf env n; pure (.yield ((n, a) :: c))) else pure (.yield c)) :
    ∀ (names : List (Str × NameKind)) (acc : List (Str × Addr)), (∀ y ∈ names, y.2 = .free → ∃ c, env.cells.lookup y.1 = some c) → forIn names acc f = pure (cloFrom env.cells names acc)
  | [], acc, _ => by rw [List.forIn_nil]; rfl
  | (n, k) :: r, acc, h => by
    rw [List.forIn_cons, hf]
    have ih := fun acc => closure_loop env f hf r acc fun y hy => h y (List.mem_cons_of_mem _ hy)
    unfold cloFrom
    by_cases hk : (k == NameKind.free) = true
    · rw [if_pos hk, if_pos hk]
      obtain ⟨c, hc⟩ := h (n, k) List.mem_cons_self (by simpa using hk)
      have e : cellOf env n = pure c := by unfold cellOf; rw [hc]
      rw [e]
      have e2 : (env.cells.lookup n).getD 0 = c := by rw [hc]; rfl
      rw [e2]
      exact ih _
    · rw [if_neg hk, if_neg hk]
      exact ih _
theorem closure_ok {scope : Scope} {env : Env} (h : ∀ y ∈ scope.names, y.2 = .free → ∃ c, env.cells.lookup y.1 = some c) : closureFor scope env = pure (cloFrom env.cells scope.names []) := by
  simp only [closureFor]
  rw [closure_loop env _ (fun n k c => rfl) scope.names [] h]
  rfl
theorem mem_lookup {α : Type} : ∀ {l : List (Str × α)} {n : Str} {c : α}, (n, c) ∈ l → ∃ c', l.lookup n = some c'
  | (k, v) :: r, n, c, h => by
    rw [List.lookup_cons]
    cases hb : n == k with
    | true => exact ⟨_, rfl⟩
    | false =>
      rcases List.mem_cons.mp h with e | h
      · cases e; simp at hb
      · exact mem_lookup h
theorem cloFrom_mem {cells : List (Str × Addr)} : ∀ {names : List (Str × NameKind)} {acc : List (Str × Addr)} {n : Str} {c : Addr}, (n, c) ∈ cloFrom cells names acc → (n, c) ∈ acc ∨ ((n, .free) ∈ names ∧ c = (cells.lookup n).getD 0)
  | [], _, _, _, h => .inl h
  | (m, k) :: r, acc, n, c, h => by
    unfold cloFrom at h
    split at h
    · rename_i hk
      have hk : k = .free := by simpa using hk
      rcases cloFrom_mem h with h | ⟨h1, h2⟩
      · rcases List.mem_cons.mp h with e | h
        · cases e; exact .inr ⟨hk ▸ List.mem_cons_self, rfl⟩
        · exact .inl h
      · exact .inr ⟨List.mem_cons_of_mem _ h1, h2⟩
    · rcases cloFrom_mem h with h | ⟨h1, h2⟩
      · exact .inl h
      · exact .inr ⟨List.mem_cons_of_mem _ h1, h2⟩
theorem cloFrom_acc {cells : List (Str × Addr)} : ∀ {names : List (Str × NameKind)} {acc : List (Str × Addr)} {p : Str × Addr}, p ∈ acc → p ∈ cloFrom cells names acc
  | [], _, _, h => h
  | (m, k) :: r, acc, p, h => by
    unfold cloFrom
    split
    · exact cloFrom_acc (List.mem_cons_of_mem _ h)
    · exact cloFrom_acc h
theorem cloFrom_has {cells : List (Str × Addr)} : ∀ {names : List (Str × NameKind)} {acc : List (Str × Addr)} {n : Str}, (n, .free) ∈ names → (n, (cells.lookup n).getD 0) ∈ cloFrom cells names acc
  | (m, k) :: r, acc, n, h => by
    unfold cloFrom
    rcases List.mem_cons.mp h with e | h
    · cases e
      exact cloFrom_acc List.mem_cons_self
    · split
      · exact cloFrom_has h
      · exact cloFrom_has h
theorem cells_mem : ∀ {names : List (Str × NameKind)} {h : Heap} {acc : List (Str × Addr)} {x : Str} {c : Addr}, (x, c) ∈ cellsFrom h.objs.size names acc →
    (x, c) ∈ acc ∨ ((x, .cell) ∈ names ∧ h.objs.size ≤ c ∧ CellAt (pushCells h names) c none)
  | [], _, _, _, _, h => .inl h
  | (n, k) :: r, h, acc, x, c, hm => by
    unfold cellsFrom at hm
    unfold pushCells
    split at hm
    · rename_i hk
      rw [if_pos hk]
      have hk : k = .cell := by simpa using hk
      rw [← Heap.size_push h { cls := .type "cell", data := .cell none }] at hm
      rcases cells_mem hm with hm | ⟨h1, h2, h3⟩
      · rcases List.mem_cons.mp hm with e | hm
        · cases e
          exact .inr ⟨hk ▸ List.mem_cons_self, Nat.le_refl _, _, pushCells_keeps r _ _ _ (Heap.get?_push_size _ rfl), rfl⟩
        · exact .inl hm
      · rw [Heap.size_push] at h2
        exact .inr ⟨List.mem_cons_of_mem _ h1, Nat.le_of_succ_le h2, h3⟩
    · rename_i hk
      rw [if_neg hk]
      rcases cells_mem hm with hm | ⟨h1, h2, h3⟩
      · exact .inl hm
      · exact .inr ⟨List.mem_cons_of_mem _ h1, h2, h3⟩
theorem cells_acc : ∀ {names : List (Str × NameKind)} {n : Nat} {acc : List (Str × Addr)} {p : Str × Addr}, p ∈ acc → p ∈ cellsFrom n names acc
  | [], _, _, _, h => h
  | (m, k) :: r, n, acc, p, h => by
    unfold cellsFrom
    split
    · exact cells_acc (List.mem_cons_of_mem _ h)
    · exact cells_acc h
theorem cells_has : ∀ {names : List (Str × NameKind)} {n : Nat} {acc : List (Str × Addr)} {x : Str}, (x, .cell) ∈ names → ∃ c, (x, c) ∈ cellsFrom n names acc
  | (m, k) :: r, n, acc, x, h => by
    unfold cellsFrom
    rcases List.mem_cons.mp h with e | h
    · cases e
      exact ⟨n, cells_acc List.mem_cons_self⟩
    · split
      · exact cells_has h
      · exact cells_has h
theorem cells_inj : ∀ {names : List (Str × NameKind)} {h : Heap} {acc : List (Str × Addr)} {x y : Str} {c : Addr}, (∀ p ∈ acc, p.2 < h.objs.size) → (∀ x y c, (x, c) ∈ acc → (y, c) ∈ acc → x = y) →
    (x, c) ∈ cellsFrom h.objs.size names acc → (y, c) ∈ cellsFrom h.objs.size names acc → x = y
  | [], _, _, _, _, _, _, hi, h1, h2 => hi _ _ _ h1 h2
  | (n, k) :: r, h, acc, x, y, c, hl, hi, h1, h2 => by
    unfold cellsFrom at h1 h2
    split at h1
    · rename_i hk
      rw [if_pos hk] at h2
      rw [← Heap.size_push h { cls := .type "cell", data := .cell none }] at h1 h2
      refine cells_inj (h := h.push _) (fun p hp => ?_) (fun x y c a b => ?_) h1 h2
      · rw [Heap.size_push]
        rcases List.mem_cons.mp hp with rfl | hp
        · exact Nat.lt_succ_self _
        · exact Nat.lt_succ_of_lt (hl p hp)
      · rcases List.mem_cons.mp a with e | a <;> rcases List.mem_cons.mp b with e' | b
        · cases e; cases e'; rfl
        · cases e; exact absurd (hl _ b) (Nat.lt_irrefl _)
        · cases e'; exact absurd (hl _ a) (Nat.lt_irrefl _)
        · exact hi _ _ _ a b
    · rename_i hk
      rw [if_neg hk] at h2
      exact cells_inj hl hi h1 h2
theorem newEnv_comp {M : Model} {A : Around} {E : Value → Shared → Prop} {s : Shared} {scope : Scope} {globals : Addr} {closure : List (Str × Addr)} {qual : Str} {func : Option Addr} {code : Value} {around : Env} {builtins : Addr} {Q : Env → Shared → Prop}
    (h : Q (newEnv scope s.heap.objs.size globals (cellsFrom (s.heap.objs.size + 1) scope.names closure) qual func code (some around) builtins)
      { s with heap := pushCells (s.heap.push { cls := .type "dict", data := .dict #[] }) scope.names }) :
    wpAny M A (newFunctionEnv scope globals closure [] qual func code (some around) builtins) Q E s := by
  simp only [newFunctionEnv, Option.isSome_some, if_true]
  refine wpAny_bind (wpAny_alloc ?_)
  refine wpAny_bind (wpAny_layCells _ (fun n k c => rfl) scope.names closure _ _ ?_)
  rw [show ({ s with heap := s.heap.push { cls := .type "dict", data := .dict #[] } } : Shared).heap.objs.size = s.heap.objs.size + 1 from Heap.size_push ..]
  rw [List.forIn_nil]
  exact wpAny_bind (wpAny_pure (wpAny_pure h))
/-- every name of the written scope, in the scope that runs -/
theorem lookup_relS {sc : Scope} : ∀ {names : List (Str × NameKind)} {x : Str} {k : NameKind},
    (names.map fun (n, k) => if (k == NameKind.free && sc.kind == .function && sc.names.lookup n == some .cell) then (n, NameKind.cell) else (n, k)).lookup x = some k →
    ∃ k', names.lookup x = some k' ∧ (k = k' ∨ (k' = .free ∧ k = .cell))
  | [], _, _, h => by simp at h
  | (n, k₀) :: r, x, k, h => by
    have ih := @lookup_relS sc r x k
    have h' : List.lookup x ((if (k₀ == NameKind.free && sc.kind == .function && sc.names.lookup n == some .cell) = true then (n, NameKind.cell) else (n, k₀)) :: (r.map _)) = some k := h
    cases hx : x == n with
    | true =>
      simp only [List.lookup_cons, hx]
      by_cases hc : (k₀ == NameKind.free && sc.kind == .function && sc.names.lookup n == some .cell) = true
      · rw [if_pos hc] at h'
        simp only [List.lookup_cons, hx] at h'
        cases h'
        simp only [Bool.and_eq_true, beq_iff_eq] at hc
        exact ⟨k₀, rfl, .inr ⟨hc.1.1, rfl⟩⟩
      · rw [if_neg hc] at h'
        simp only [List.lookup_cons, hx] at h'
        cases h'
        exact ⟨_, rfl, .inl rfl⟩
    | false =>
      simp only [List.lookup_cons, hx]
      by_cases hc : (k₀ == NameKind.free && sc.kind == .function && sc.names.lookup n == some .cell) = true
      · rw [if_pos hc] at h'
        simp only [List.lookup_cons, hx] at h'
        exact ih h'
      · rw [if_neg hc] at h'
        simp only [List.lookup_cons, hx] at h'
        exact ih h'
/-- the names of a comprehension's block: its own (with their places in N), or captured -/
structure BlkOk (N : List Str) (sc scope : Scope) (own : List (Str × Nat)) : Prop where
  kind : scope.kind = .function
  uniq : ∀ y ∈ scope.names, scope.names.lookup y.1 = some y.2
  ix : ∀ p ∈ own, N[p.2]? = some p.1
  free : ∀ y ∈ scope.names, y.2 = .free → sc.names.lookup y.1 = some .cell ∨ sc.names.lookup y.1 = some .free
  own : ∀ y ∈ scope.names, y.2 = .local ∨ y.2 = .cell → y.1 ∈ own.map (·.1) ∨ y.1 ∉ N
/-- the slots of the block's own names forgotten -/
def wipe (σ : St) : List Nat → St
  | [] => σ
  | v :: vs => (wipe σ vs).set v none
theorem wipe_length (σ : St) : ∀ vs : List Nat, (wipe σ vs).length = σ.length
  | [] => rfl
  | v :: vs => by unfold wipe; rw [List.length_set, wipe_length σ vs]
theorem wipe_some {σ : St} {i : Nat} {x : V} : ∀ {vs : List Nat}, (wipe σ vs)[i]? = some (some x) → σ[i]? = some (some x) ∧ i ∉ vs
  | [], h => ⟨h, by simp⟩
  | v :: vs, h => by
    unfold wipe at h
    by_cases hi : v = i
    · subst hi
      by_cases hv : v < (wipe σ vs).length
      · rw [List.getElem?_set_self hv] at h; cases h
      · rw [List.getElem?_eq_none (by simpa using hv)] at h; cases h
    · rw [List.getElem?_set_ne hi] at h
      obtain ⟨h1, h2⟩ := wipe_some h
      exact ⟨h1, by simp only [List.mem_cons, not_or]; exact ⟨fun e => hi e.symm, h2⟩⟩
/-- the context of a block that starts at s, its iterator's objects at fp -/
abbrev Cx.blk (X : Cx) (s : Shared) (H : Hp) (scope : Scope) (cenv : Env) (fp : List Addr) : Cx := { X with s_0 := s, H_0 := H, env := cenv, outer := X.stack, ex := fp, fn := fun x => scope.names.lookup x == some .cell, pn := [], xe := fun _ _ => False }
section
variable {X : Cx} {pins : List (Addr × Obj)} {σ : St} {H : Hp} {s : Shared}
theorem block_start {scope : Scope} {own : List (Str × Nat)} {fp : List Addr} (I : Inv X pins σ H s) (ok : BlkOk X.N X.env.scope scope own) (hN : X.N.Nodup) (hfp : ∀ b ∈ fp, FpOk X pins H b ∧ b < s.heap.objs.size) :
    Inv (X.blk s H scope (compEnvC scope (cellsFrom (s.heap.objs.size + 1) scope.names (cloFrom X.env.cells scope.names [])) s.heap.objs.size X.env) fp) [] (wipe σ (own.map (·.2))) H { s with heap := pushCells (s.heap.push { cls := .type "dict", data := .dict #[] }) scope.names } := by
  have hfree : ∀ y ∈ scope.names, y.2 = .free → ∃ c, X.env.cells.lookup y.1 = some c := fun y hy e => by
    rcases ok.free y hy e with k | k
    · exact I.ok.has _ (.inl k)
    · exact I.ok.has _ (.inr k)
  generalize hcenv : compEnvC scope (cellsFrom (s.heap.objs.size + 1) scope.names (cloFrom X.env.cells scope.names [])) s.heap.objs.size X.env = cenv
  have kp : ∀ b o, s.heap.get? b = some o → (pushCells (s.heap.push { cls := .type "dict", data := .dict #[] }) scope.names).get? b = some o := fun b o e => pushCells_keeps _ _ _ _ (Heap.get?_push_of_some _ e)
  have hL : cenv.locals = s.heap.objs.size := by rw [← hcenv]; rfl
  have hcl : cenv.cells = cellsFrom (s.heap.objs.size + 1) scope.names (cloFrom X.env.cells scope.names []) := by rw [← hcenv]; rfl
  have hsc : cenv.scope = relS scope X.env.scope := by rw [← hcenv]; rfl
  rw [← Heap.size_push s.heap { cls := .type "dict", data := .dict #[] }] at hcl
  have cm : ∀ {y c}, (y, c) ∈ cloFrom X.env.cells scope.names [] → X.env.cells.lookup y = some c ∧ c < s.heap.objs.size := fun {y c} hm => by
    rcases cloFrom_mem hm with hm | ⟨h1, rfl⟩
    · cases hm
    · obtain ⟨c, hc⟩ := hfree _ h1 rfl
      rw [hc]
      obtain ⟨w, z⟩ := I.cell _ _ hc
      exact ⟨rfl, z.lt⟩
  have mem : ∀ {y c}, cenv.cells.lookup y = some c → (X.env.cells.lookup y = some c ∧ c < s.heap.objs.size) ∨ (s.heap.objs.size + 1 ≤ c ∧ CellAt (pushCells (s.heap.push { cls := .type "dict", data := .dict #[] }) scope.names) c none) := fun {y c} e => by
    rw [hcl] at e
    rcases cells_mem (PySem.mem_of_lookup e) with hm | ⟨_, h2, h3⟩
    · exact .inl (cm hm)
    · rw [Heap.size_push] at h2; exact .inr ⟨h2, h3⟩
  have look : ∀ {y}, scope.names.lookup y = some .free → ∃ c, cenv.cells.lookup y = some c ∧ X.env.cells.lookup y = some c := fun {y} hl => by
    have hy : (y, NameKind.free) ∈ scope.names := PySem.mem_of_lookup hl
    obtain ⟨c', e'⟩ := mem_lookup (cells_acc (names := scope.names) (n := (s.heap.push { cls := .type "dict", data := .dict #[] }).objs.size) (cloFrom_has (cells := X.env.cells) (acc := []) hy))
    rw [← hcl] at e'
    refine ⟨c', e', ?_⟩
    rw [hcl] at e'
    rcases cells_mem (PySem.mem_of_lookup e') with hm | ⟨h1, _, _⟩
    · exact (cm hm).1
    · have := ok.uniq _ h1
      rw [hl] at this; cases this
  have okB : (X.blk s H scope cenv fp).Ok := by
    refine ⟨I.ok.mod, by show cenv.scope.kind = _; rw [hsc]; exact ok.kind, by show cenv.globals = _; rw [← hcenv]; exact I.ok.glob, by show cenv.builtins = _; rw [← hcenv]; exact I.ok.blt, by show s.heap.objs.size ≤ cenv.locals; rw [hL]; exact Nat.le_refl _,
      fun y z c e1 e2 => ?_, fun y hy => ?_, fun y c z e => ?_, I.ok.hd, I.ok.frames, .inl rfl, fun b hb => ⟨?_, fun y c e z => ?_⟩, I.bs, Nat.le_trans I.ok.bsz I.sz, fun b o e hb => ?_, fun b hb z => ?_, I.stack, I.stkFree⟩
    · have e1 : cenv.cells.lookup y = some c := e1
      have e2 : cenv.cells.lookup z = some c := e2
      rw [hcl] at e1 e2
      refine cells_inj (fun p hp => ?_) (fun y z c a b => I.ok.inj y z c (cm a).1 (cm b).1) (PySem.mem_of_lookup e1) (PySem.mem_of_lookup e2)
      rw [Heap.size_push]
      exact Nat.lt_succ_of_lt (cm (y := p.1) (c := p.2) hp).2
    · show ∃ c, cenv.cells.lookup y = some c
      have key : ∀ k, cenv.kindOf y = some k → (k = .cell ∨ k = .free) → ∃ c, cenv.cells.lookup y = some c := fun k hk hk' => by
        unfold Env.kindOf at hk
        rw [hsc] at hk
        obtain ⟨k', e, r⟩ := lookup_relS hk
        have : k' = .cell ∨ k' = .free := by
          rcases r with rfl | ⟨rfl, _⟩
          · exact hk'
          · exact .inr rfl
        rcases this with rfl | rfl
        · obtain ⟨c, hm⟩ := cells_has (n := (s.heap.push { cls := .type "dict", data := .dict #[] }).objs.size) (acc := cloFrom X.env.cells scope.names []) (PySem.mem_of_lookup e)
          obtain ⟨c', e'⟩ := mem_lookup hm
          exact ⟨c', by rw [hcl]; exact e'⟩
        · obtain ⟨c, h1, _⟩ := look e
          exact ⟨c, h1⟩
      rcases hy with hy | hy
      · exact key _ hy (.inl rfl)
      · exact key _ hy (.inr rfl)
    · have z : (scope.names.lookup y == some NameKind.cell) = true := z
      have z : scope.names.lookup y = some .cell := by simpa using z
      have e : cenv.cells.lookup y = some c := e
      rw [hcl] at e
      rcases cells_mem (PySem.mem_of_lookup e) with hm | ⟨_, h2, _⟩
      · rcases cloFrom_mem hm with hm | ⟨h1, _⟩
        · cases hm
        · have q := ok.uniq _ h1
          rw [z] at q; cases q
      · rw [Heap.size_push] at h2
        exact Nat.le_of_succ_le h2
    · show b ≠ cenv.locals
      rw [hL]; exact Nat.ne_of_lt (hfp b hb).2
    · have e : cenv.cells.lookup y = some c := e
      rcases mem e with ⟨h1, _⟩ | ⟨h1, _⟩
      · exact (hfp b hb).1.2.2.2.2.1 y c h1 z
      · have h2 : s.heap.objs.size + 1 ≤ b := by rw [← z]; exact h1
        exact absurd (Nat.lt_of_lt_of_le (hfp b hb).2 (Nat.le_of_succ_le h2)) (Nat.lt_irrefl _)
    · rcases (hfp b hb).1.2.2.2.1 with z | z
      · exact I.ok.noex b o e z
      · exact absurd (Nat.lt_of_lt_of_le (Heap.lt_size e) (Nat.le_trans I.ok.bsz z)) (Nat.lt_irrefl _)
    · rcases List.mem_cons.mp (I.stkSub b z) with z | z
      · exact (hfp b hb).1.2.1 z
      · exact (hfp b hb).1.2.2.1 z
  refine ⟨okB, rfl, I.bare, Un.kept kp, ⟨fun _ => none, ?_, fun i y av e1 e2 e3 => ?_⟩, fun y c e => ?_, ?_, fun y c e => ?_, fun p hp => ?_, I.hok.kept kp, by rw [wipe_length]; exact I.len⟩
  · show Heap.Ns _ cenv.locals _
    rw [hL]
    exact Heap.Ns.keeps (Heap.Ns.new ..) fun b o e => pushCells_keeps _ _ _ _ e
  · obtain ⟨e2, hne⟩ := wipe_some e2
    have hfr : scope.names.lookup y = some .free ∧ (cenv.kindOf y = some .cell ∨ cenv.kindOf y = some .free) := by
      have key : ∀ k, cenv.scope.names.lookup y = some k → k = .local ∨ k = .cell ∨ k = .free → scope.names.lookup y = some .free ∧ (cenv.kindOf y = some .cell ∨ cenv.kindOf y = some .free) := fun k hk hk' => by
        have hk0 := hk
        rw [hsc] at hk
        obtain ⟨k', e, r⟩ := lookup_relS hk
        have no : ¬ (k' = .local ∨ k' = .cell) := fun hh => by
          rcases ok.own _ (PySem.mem_of_lookup e) hh with e' | e'
          · obtain ⟨p, hp, hpy⟩ := List.mem_map.mp e'
            have e3 := ok.ix p hp
            have : p.1 = y := hpy
            rw [this] at e3
            exact hne (List.mem_map.mpr ⟨p, hp, nodup_ix hN e3 e1⟩)
          · exact e' (List.mem_of_getElem? e1)
        rcases r with rfl | ⟨rfl, rfl⟩
        · rcases hk' with rfl | rfl | rfl
          · exact absurd (.inl rfl) no
          · exact absurd (.inr rfl) no
          · exact ⟨e, .inr hk0⟩
        · exact ⟨e, .inl hk0⟩
      have e3 : Vis cenv.scope y := e3
      rcases e3 with e3 | e3 | e3
      · exact key _ e3 (.inl rfl)
      · exact key _ e3 (.inr (.inl rfl))
      · exact key _ e3 (.inr (.inr rfl))
    obtain ⟨m, hn, hl⟩ := I.loc
    have hvis : Vis X.env.scope y := (ok.free _ (PySem.mem_of_lookup hfr.1) rfl).elim (fun k => .inr (.inl k)) (fun k => .inr (.inr k))
    obtain ⟨w, r, q⟩ := hl i y av e1 e2 hvis
    refine ⟨w, r, .inr ⟨hfr.2, ?_⟩⟩
    obtain ⟨c, h1, h2⟩ := look hfr.1
    rcases q with ⟨k, _⟩ | ⟨_, c', e', z⟩
    · have k : X.env.scope.names.lookup y = some .local := k
      rcases ok.free _ (PySem.mem_of_lookup hfr.1) rfl with k' | k' <;> rw [show X.env.scope.names.lookup y = _ from k'] at k <;> cases k
    · rw [h2] at e'; cases e'
      exact ⟨c, h1, z.keeps kp⟩
  · have e : cenv.cells.lookup y = some c := e
    rcases mem e with ⟨h1, _⟩ | ⟨_, z⟩
    · obtain ⟨w, z⟩ := I.cell y c h1
      exact ⟨w, z.keeps kp⟩
    · exact ⟨_, z⟩
  · show H cenv.locals = none
    rw [hL]; exact I.hok.fresh (Nat.le_refl _)
  · have e : cenv.cells.lookup y = some c := e
    rcases mem e with ⟨h1, _⟩ | ⟨h1, _⟩
    · exact I.freeC y c h1
    · exact I.hok.fresh (Nat.le_of_succ_le h1)
  · exact absurd (show p ∈ ([] : List (Addr × Obj)) ++ [] from hp) (by simp)
/-- an item appended to a tracked list -/
theorem app_ok {E : Value → Shared → Prop} {D : Addr} {xs : List V} {y : V} {v : Value} {Q : Value → Shared → Prop} (I : Inv X pins σ H s) (hD : H D = some (.lst xs)) (hz : xs.length < sizeLine) (r : RelV y v)
    (h : ∀ s', Inv X pins σ (upd H D (.lst (xs ++ [y]))) s' → Q .none s') : wpAny (model X.prog X.w) X.A (call (.builtin "list.append") [.ref D, v]) Q E s := by
  obtain ⟨hz', its, n, ri, e⟩ := I.hok D _ hD
  have hl := ri.length
  refine append_at (hsz := by rw [List.size_toArray]; omega) e fun h' sb ho' => ?_
  refine h { s with heap := h' } (I.write (t' := s.toks) (by rw [hD]; trivial) (.inl rfl) (fun b u hb q => (sb.2 b hb).trans q) ⟨_, ho'⟩ ⟨by rw [List.length_append]; exact hz, its ++ [v], n + 1, ri.append (.cons r .nil), ?_⟩)
  rw [ho']
  simp
/-- a clause's tests -/
def PTs (X : Cx) (ifs : List Expr) (t : TT) : Prop :=
  ∀ (pins : List (Addr × Obj)) (s : Shared) (σ : St) (H : Hp) (Q : Bool → Hp → Prop), Inv X pins σ H s → t σ H Q →
    wpAny (model X.prog X.w) X.A (forIn ifs true fun c r => if r = true then do let ok ← isTrue c X.env (eval c X.env); pure (ForInStep.yield ok) else pure (ForInStep.yield r)) (TP X pins σ Q) X.xe s
def tYes : TT := fun _ H Q => Q true H
theorem pts_nil : PTs X [] tYes := fun _ _ _ H _ I h => wpAny_tests_nil ⟨H, I, h⟩
theorem pts_one {c : Expr} {t : TT} (h : PT X c t) : PTs X [c] t := fun pins s σ H Q I hw => wpAny_tests_one (h pins s σ H Q I hw)
end
theorem thnF {α : Type} {t : Sem α} {Q Q' : α → Shared → Prop} {M : Model} {A : Around} {E : Value → Shared → Prop} {s : Shared} (h : wpAny M A t Q (fun _ _ => False) s) (hQ : ∀ a s, Q a s → Q' a s) : wpAny M A t Q' E s := wpAny_mono h hQ fun _ _ z => False.elim z
/-- the loop of a list comprehension's block, the target of any form (codeAny_compLoop_tests asks a target that no tuple goes to; statement and proof follow it, PyProof/CompMap.lean:41-61, with the step letOwnedTupleGo kept) -/
theorem compLoop_any {prog : Program} {w : World} {A : Around} {R : Result → Shared → Prop} {s : Shared} {elt target iter : Expr} {ifs : List Expr} {scope : Scope} {pos : Pos} {it acc : Value} {env : Env} (I : Nat → Shared → Prop)
    (turn : ∀ n s, I n s → wpAny (model prog w) A (pyNext it) (fun r s₁ => match r with
      | none => R (.ok .next) s₁
      | some v => wpAny (model prog w) A (letOwnedTupleGo target it v) (fun _ s₁' => wpAny (model prog w) A (assign target env v) (fun _ s₂ =>
          wpAny (model prog w) A (forIn ifs true fun c r => if r = true then do let ok ← isTrue c env (eval c env); pure (ForInStep.yield ok) else pure (ForInStep.yield r)) (fun ok s₃ =>
            if ok = true then wpAny (model prog w) A (eval elt env) (fun x s₄ =>
              wpAny (model prog w) A (call (.builtin "list.append") [acc, x]) (fun _ s₅ => ∃ m, m < n ∧ I m s₅) (notedBy (model prog w) A env fun e s' => R (.error e) s') s₄) (notedBy (model prog w) A env fun e s' => R (.error e) s') s₃
            else ∃ m, m < n ∧ I m s₃) (notedBy (model prog w) A env fun e s' => R (.error e) s') s₂) (notedBy (model prog w) A env fun e s' => R (.error e) s') s₁') (notedBy (model prog w) A env fun e s' => R (.error e) s') s₁) (notedBy (model prog w) A env fun e s' => R (.error e) s') s)
    (n : Nat) (h : I n s) :
    codeAny (model prog w) A (.compLoop (.ListComp elt [⟨target, iter, ifs, 0⟩] scope pos) 0 it acc env) R s := by
  refine codeAny_loop rfl I (fun n s hI => ?_) n h
  show wpAny _ A ((compTurn (.ListComp elt [⟨target, iter, ifs, 0⟩] scope pos) 0 it acc env).onRaise (fun x => do noteFrame x env; theTreesLotGoes x)) _ _ s
  refine wpAny_noted ?_
  rw [compTurn_list]
  refine wpAny_bind (wpAny_standAt (wpAny_bind (wpAny_mono (turn n s hI) (fun r s₁ h₁ => ?_) fun _ _ h' => h')))
  cases r with
  | none => exact wpAny_pure h₁
  | some v =>
    refine wpAny_bind (wpAny_mono h₁ (fun _ s₁' h₁' => ?_) fun _ _ h' => h')
    refine wpAny_bind (wpAny_mono h₁' (fun _ s₂ h₂ => wpAny_bind (wpAny_mono h₂ (fun ok s₃ h₃ => ?_) fun _ _ h' => h')) fun _ _ h' => h')
    cases ok with
    | false => exact wpAny_pure ⟨rfl, h₃⟩
    | true =>
      exact wpAny_bind (wpAny_bind (wpAny_mono h₃ (fun x s₄ h₄ => wpAny_bind (wpAny_mono h₄ (fun _ s₅ h₅ => wpAny_pure (wpAny_pure ⟨rfl, h₅⟩)) fun _ _ h' => h')) fun _ _ h' => h'))
section
variable {X : Cx}
/-- [elt for target in iter if ..]: D the new list; W by the turn and a measure, Nx what a turn is to reach -/
def tLc (wi : TI) (g : TG) (tt : TT) (te : TE) (vs : List Nat) : TE := fun σ H Q => wi σ H fun J H1 => ∀ D, H1 D = none → ∃ W : Nat → Nat → Hp → Prop, (∃ m, W 0 m (upd H1 D (.lst []))) ∧ ∀ i m H, W i m H →
  (J.stop i H ∧ Q (.ref D) H) ∨ (J.go i H ∧ ∃ Nx : Hp → Prop, (∀ H', Nx H' → ∃ m', m' < m ∧ W (i + 1) m' H') ∧ ∀ x H', J.yld i H x H' → g x (wipe σ vs) H' fun σ2 H2 => wipe σ2 vs = wipe σ vs ∧ tt σ2 H2 fun b H3 =>
    if b = true then te σ2 H3 fun y H4 => ∃ acc, H4 D = some (.lst acc) ∧ acc.length < sizeLine ∧ Nx (upd H4 D (.lst (acc ++ [y]))) else Nx H3)
theorem lc_core {pins : List (Addr × Obj)} {s : Shared} {σ : St} {H : Hp} {Q : VK} {elt tg iter : Expr} {ifs : List Expr} {scope : Scope} {own : List (Str × Nat)} {pos pos' : Pos} {wi : TI} {g : TG} {tt : TT} {te : TE} {use : Option (Value → Sem Unit)} {Qf : Value → Shared → Prop}
    (hc : X.calm = true) (hN : X.N.Nodup) (I : Inv X pins σ H s) (hi : PI X tg iter wi) (ok : BlkOk X.N X.env.scope scope own)
    (hg : ∀ (s : Shared) (H : Hp) (C : Addr) (cl : List (Str × Addr)) (fp : List Addr), PG (X.blk s H scope (compEnvC scope cl C X.env) fp) tg g) (ht : ∀ (s : Shared) (H : Hp) (C : Addr) (cl : List (Str × Addr)) (fp : List Addr), PTs (X.blk s H scope (compEnvC scope cl C X.env) fp) ifs tt)
    (he : ∀ (s : Shared) (H : Hp) (C : Addr) (cl : List (Str × Addr)) (fp : List Addr), PE (X.blk s H scope (compEnvC scope cl C X.env) fp) elt te) (hs : ∀ x, foldedSetIterable iter X.env x = pure x)
    (h : tLc wi g tt te (own.map (·.2)) σ H Q)
    (hRR : ∀ D C s' m H', Inv X pins σ H' s' → Q (.ref D) H' → s'.heap.Ns C m → FpOk X pins H' C → compPost (model X.prog X.w) X.A X.xe use Qf (.ref D) C (.ok .next) s') :
    wpAny (model X.prog X.w) X.A (comprehension (.ListComp elt [⟨tg, iter, ifs, 0⟩] scope pos) scope X.env pos' (newList []) false (eval iter X.env) use) Qf X.xe s := by
  have hfree : ∀ y ∈ scope.names, y.2 = .free → ∃ c, X.env.cells.lookup y.1 = some c := fun y hy e => by
    rcases ok.free y hy e with k | k
    · exact I.ok.has _ (.inl k)
    · exact I.ok.has _ (.inr k)
  refine wpAny_comprehension_free (use := use) rfl hs (closure_ok hfree) ok.kind (fun y hy e => by rw [ok.uniq y hy, e])
    (thn (hi pins s σ H _ I h) fun xv s1 hx => thn hx fun itv s2 h2 => ?_)
  obtain ⟨it, fp, tn, J, H2, e, I2, T, st2, f2, q⟩ := h2
  subst e
  refine wpAny_newObj_type (newEnv_comp ?_) (by show 0 ≤ sizeLine; decide)
  generalize hD : s2.heap.objs.size = D
  have hDn : H2 D = none := I2.hok.fresh (Nat.le_of_eq hD)
  obtain ⟨W, ⟨m0, w0⟩, turn⟩ := q D hDn
  -- the new list
  generalize hs3 : ({ s2 with heap := s2.heap.push { cls := .type "list", data := .seq ([] : List Value).toArray } } : Shared) = s3
  have I3 : Inv X pins σ (upd H2 D (.lst [])) s3 := by
    rw [← hs3]
    refine I2.laid (t' := s2.toks) (fun b o e => Heap.get?_push_of_some _ e) (Nat.le_of_eq hD) ⟨Nat.zero_le _, [], 0, .nil, ?_⟩
    rw [← hD]
    exact Heap.get?_push_size _ rfl
  have h3 : s3.heap = s2.heap.push { cls := .type "list", data := .seq ([] : List Value).toArray } := by rw [← hs3]
  have sz : ∀ b ∈ fp, b < s2.heap.objs.size := fun b hb => by
    obtain ⟨o, e, _⟩ := T.obj _ _ st2 b hb
    exact Heap.lt_size e
  have f3 : ∀ b ∈ fp, FpOk X pins (upd H2 D (.lst [])) b ∧ b < s3.heap.objs.size := fun b hb => by
    have hlt := sz b hb
    refine ⟨⟨?_, (f2 b hb).2⟩, by rw [h3, Heap.size_push]; exact Nat.lt_succ_of_lt hlt⟩
    rw [upd_ne (by rw [← hD]; exact Nat.ne_of_lt hlt)]
    exact (f2 b hb).1
  have st3 : tn 0 s3.heap := T.keep _ _ _ st2 fun b _ o e => by rw [h3]; exact Heap.get?_push_of_some _ e
  have I4 := block_start I3 ok hN f3
  have pg := hg s3 (upd H2 D (.lst [])) s3.heap.objs.size (cellsFrom (s3.heap.objs.size + 1) scope.names (cloFrom X.env.cells scope.names [])) fp
  have pt := ht s3 (upd H2 D (.lst [])) s3.heap.objs.size (cellsFrom (s3.heap.objs.size + 1) scope.names (cloFrom X.env.cells scope.names [])) fp
  have pe := he s3 (upd H2 D (.lst [])) s3.heap.objs.size (cellsFrom (s3.heap.objs.size + 1) scope.names (cloFrom X.env.cells scope.names [])) fp
  show codeAny _ _ (.compStart (.ListComp elt [⟨tg, iter, ifs, 0⟩] scope pos) 0 (.ref it) (.ref D) (compEnvC scope (cellsFrom (s3.heap.objs.size + 1) scope.names (cloFrom X.env.cells scope.names [])) s3.heap.objs.size X.env)) (compPost (model X.prog X.w) X.A X.xe use Qf (.ref D) s3.heap.objs.size) { s3 with heap := pushCells (s3.heap.push { cls := .type "dict", data := .dict #[] }) scope.names }
  have nfp : ∀ b ∈ fp, (upd H2 D (.lst [])) b = none := fun b hb => (f3 b hb).1.1
  generalize hce : compEnvC scope (cellsFrom (s3.heap.objs.size + 1) scope.names (cloFrom X.env.cells scope.names [])) s3.heap.objs.size X.env = ce at I4 pg pt pe ⊢
  have cL : ce.locals = s3.heap.objs.size := by subst hce; rfl
  generalize hH3 : upd H2 D (.lst []) = H3 at I3 I4 pg pt pe w0 nfp f3
  generalize hs4 : ({ s3 with heap := pushCells (s3.heap.push { cls := .type "dict", data := .dict #[] }) scope.names } : Shared) = s4 at I4 ⊢
  have st4 : tn 0 s4.heap := T.keep _ _ _ st3 fun b _ o e => by rw [← hs4]; exact pushCells_keeps _ _ _ _ (Heap.get?_push_of_some _ e)
  have stat : ∀ {σ' : St} {H' : Hp} {s' : Shared}, Inv (X.blk s3 H3 scope ce fp) [] σ' H' s' → (∀ b ∈ fp, H' b = none) → ∀ b ∈ fp, FpOk (X.blk s3 H3 scope ce fp) [] H' b := fun {σ' H' s'} I' hn b hb =>
    ⟨hn b hb, (I'.ok.exf b hb).1, I'.ok.exfs b hb, .inl hb, fun x c e => (I'.ok.exf b hb).2 x c e, fun p hp => absurd (show p ∈ ([] : List (Addr × Obj)) ++ [] from hp) (by simp)⟩
  have loop : codeAny (model X.prog X.w) X.A (.compLoop (.ListComp elt [⟨tg, iter, ifs, 0⟩] scope pos) 0 (.ref it) (.ref D) ce) (compPost (model X.prog X.w) X.A X.xe use Qf (.ref D) s3.heap.objs.size) s4 := by
    refine compLoop_any (fun n s' => ∃ i H', Inv (X.blk s3 H3 scope ce fp) [] (wipe σ (own.map (·.2))) H' s' ∧ tn i s'.heap ∧ (∀ b ∈ fp, H' b = none) ∧ W i n H') ?_ m0 ⟨0, H3, I4, st4, nfp, w0⟩
    rintro n s5 ⟨i, H5, I5, st5, n5, w5⟩
    rcases turn i n H5 w5 with ⟨stop, qq⟩ | ⟨go, Nx, hNx, step⟩
    · have td := T.done (X.blk s3 H3 scope ce fp) rfl rfl rfl hc i [] s5 _ H5 (fun _ _ => False) I5 (stat I5 n5) st5 stop
      refine thnF td fun r s6 ⟨hr, I6⟩ => ?_
      subst hr
      -- back in the def's context
      have I7 : Inv X pins σ H5 s6 := I3.call' (ch := fp) I6.os I6.base I6.hok I6.bare fun b hb => ⟨(f3 b hb).1.2.2.2.1, (f3 b hb).1.2.1, (f3 b hb).1.2.2.2.2.1, (f3 b hb).1.2.2.2.2.2⟩
      have nC : H5 s3.heap.objs.size = none := by
        have z : H5 ce.locals = none := I6.free
        rw [cL] at z
        exact z
      obtain ⟨m, hn, _⟩ := I6.loc
      have hn : s6.heap.Ns ce.locals m := hn
      rw [cL] at hn
      exact hRR D s3.heap.objs.size s6 m H5 I7 qq hn (I3.fpOk (Nat.le_refl _) nC)
    · have ti := T.item (X.blk s3 H3 scope ce fp) rfl rfl rfl hc i [] s5 _ H5 (fun _ _ => False) I5 (stat I5 n5) st5 go
      refine thnF ti fun r s6 ⟨u, hr, h6⟩ => ?_
      subst hr
      refine thnF h6 fun _ s7 ⟨x, H7, I7, r7, y7, st7, n7⟩ => ?_
      have I7' := I7.pinned (stat I7 n7) (T.obj _ _ st7)
      refine thnF (pg _ s7 _ H7 x u _ I7' r7 (step x H7 y7)) fun _ s8 ⟨σ8, H8, I8, hw8, q8⟩ => ?_
      refine thnF (pt _ s8 σ8 H8 _ I8 q8) fun b s9 ⟨H9, I9, q9⟩ => ?_
      -- the turn's end
      have fin : ∀ {s' : Shared} {H' : Hp}, Inv (X.blk s3 H3 scope ce fp) ([] ++ pinsAt fp s7.heap) σ8 H' s' → Nx H' → ∃ m, m < n ∧ ∃ i H', Inv (X.blk s3 H3 scope ce fp) [] (wipe σ (own.map (·.2))) H' s' ∧ tn i s'.heap ∧ (∀ b ∈ fp, H' b = none) ∧ W i m H' := fun {s' H'} I' nx => by
        obtain ⟨m', hm, w'⟩ := hNx H' nx
        have pin' : ∀ b ∈ fp, ∀ o, s7.heap.get? b = some o → s'.heap.get? b = some o ∧ H' b = none := fun b hb o e =>
          let z := I'.pin (b, o) (List.mem_append_right _ (List.mem_append_right _ (mem_pinsAt hb e)))
          ⟨z.1, z.2.1⟩
        have hl : (wipe σ (own.map (·.2))).length = σ8.length := by rw [← hw8, wipe_length]
        refine ⟨m', hm, i + 1, H', (I'.unpinned (pins := [])).weak hl (fun j v e => ?_), T.keep _ _ _ st7 fun b hb o e => (pin' b hb o e).1, fun b hb => ?_, w'⟩
        · rw [← hw8] at e
          exact (wipe_some e).1
        · obtain ⟨o, e, _⟩ := T.obj _ _ st7 b hb
          exact (pin' b hb o e).2
      cases b with
      | false =>
        simp only [Bool.false_eq_true, if_false] at q9 ⊢
        exact fin I9 q9
      | true =>
        simp only [if_true] at q9 ⊢
        refine thnF (pe _ s9 σ8 H9 _ I9 q9) fun z s10 ⟨yv, H10, I10, r10, acc, hD10, hz10, nx⟩ => ?_
        exact app_ok (X := X.blk s3 H3 scope ce fp) I10 hD10 hz10 r10 fun s11 I11 => fin I11 nx
  exact codeAny_compStart_list loop (T.self X.A 0 _ _ _ st4 loop)
/-- as a value -/
theorem pe_lc {elt tg iter : Expr} {ifs : List Expr} {scope : Scope} {own : List (Str × Nat)} {pos : Pos} {wi : TI} {g : TG} {tt : TT} {te : TE} (hc : X.calm = true) (hN : X.N.Nodup) (hi : PI X tg iter wi) (ok : BlkOk X.N X.env.scope scope own)
    (hg : ∀ (s : Shared) (H : Hp) (C : Addr) (cl : List (Str × Addr)) (fp : List Addr), PG (X.blk s H scope (compEnvC scope cl C X.env) fp) tg g) (ht : ∀ (s : Shared) (H : Hp) (C : Addr) (cl : List (Str × Addr)) (fp : List Addr), PTs (X.blk s H scope (compEnvC scope cl C X.env) fp) ifs tt)
    (he : ∀ (s : Shared) (H : Hp) (C : Addr) (cl : List (Str × Addr)) (fp : List Addr), PE (X.blk s H scope (compEnvC scope cl C X.env) fp) elt te) (hs : ∀ x, foldedSetIterable iter X.env x = pure x := by intro _; rfl) :
    PE X (.ListComp elt [⟨tg, iter, ifs, 0⟩] scope pos) (tLc wi g tt te (own.map (·.2))) := by
  intro pins s σ H Q I h
  rw [eval_ListComp]
  refine lc_core hc hN I hi ok hg ht he hs h fun D C s' m H' I' q hn f => ⟨m, hn, fun h'' sb => ?_⟩
  obtain ⟨f0, f1, f2, f3, f4, f5⟩ := f
  exact ⟨.ref D, H', I'.turned (t' := s'.toks) (fun b o hb e => (sb.2 b hb).trans e) f0 f1 f3 f4 f5, rfl, q⟩
end
/-- over a list that the block leaves as it is -/
theorem lc_list {K : PySem.W.Frag} {a : Addr} {xs : List V} {g : TG} {tt : TT} {te : TE} {vs : List Nat} {σ : St} {H1 : Hp} {D : Addr} {Qd : Hp → Prop} (Pv : Nat → Hp → Prop) (h0 : Pv 0 (upd H1 D (.lst []))) (hl : ∀ i H, i ≤ xs.length → Pv i H → SqL K H a xs)
    (hs : ∀ i x H, xs[i]? = some x → Pv i H → g x (wipe σ vs) H fun σ2 H2 => wipe σ2 vs = wipe σ vs ∧ tt σ2 H2 fun b H3 =>
      if b = true then te σ2 H3 fun y H4 => ∃ acc, H4 D = some (.lst acc) ∧ acc.length < sizeLine ∧ Pv (i + 1) (upd H4 D (.lst (acc ++ [y]))) else Pv (i + 1) H3) (hd : ∀ H, Pv xs.length H → Qd H) :
    ∃ W : Nat → Nat → Hp → Prop, (∃ m, W 0 m (upd H1 D (.lst []))) ∧ ∀ i m H, W i m H →
      ((Itl K a).stop i H ∧ Qd H) ∨ ((Itl K a).go i H ∧ ∃ Nx : Hp → Prop, (∀ H', Nx H' → ∃ m', m' < m ∧ W (i + 1) m' H') ∧ ∀ x H', (Itl K a).yld i H x H' → g x (wipe σ vs) H' fun σ2 H2 => wipe σ2 vs = wipe σ vs ∧ tt σ2 H2 fun b H3 =>
        if b = true then te σ2 H3 fun y H4 => ∃ acc, H4 D = some (.lst acc) ∧ acc.length < sizeLine ∧ Nx (upd H4 D (.lst (acc ++ [y]))) else Nx H3) := by
  refine ⟨fun i m H => m = xs.length - i ∧ i ≤ xs.length ∧ Pv i H, ⟨xs.length, by simp, Nat.zero_le _, h0⟩, ?_⟩
  rintro i m H ⟨rfl, hi, p⟩
  have q := hl i H hi p
  by_cases hlt : i < xs.length
  · refine .inr ⟨⟨xs, xs[i], q, by simp [hlt]⟩, Pv (i + 1), fun H' p' => ⟨xs.length - (i + 1), by omega, rfl, hlt, p'⟩, fun x H' y => ?_⟩
    obtain ⟨e, y⟩ := y
    subst e
    exact hs i x _ (y xs q) p
  · have e : i = xs.length := by omega
    subst e
    exact .inl ⟨⟨xs, q, Nat.le_refl _⟩, hd H p⟩
end L2
namespace L2
open PySem PySem.Spec PyProof.Rows
section
variable {prog : Program} {w : World} {A : Around} {R : Result → Shared → Prop} {s : Shared} {elt t0 i0 t1 i1 : Expr} {ifs0 ifs1 : List Expr} {scope : Scope} {pos : Pos} {it acc : Value} {env : Env}
end
section
variable {X : Cx}
end
end L2
namespace L2
open PySem PySem.Spec PyProof.Rows
section
variable {κ : Type} [DecidableEq κ]
def valV (kvs : List (κ × V)) (k : κ) : Option V := (kvs.find? fun kv => decide (kv.1 = k)).map (·.2)
/-- in its place, or at the end -/
def putK (kvs : List (κ × V)) (k : κ) (v : V) : List (κ × V) :=
  if (kvs.any fun kv => decide (kv.1 = k)) = true then kvs.map (fun kv => if kv.1 = k then (kv.1, v) else kv) else kvs ++ [(k, v)]
def dropK (kvs : List (κ × V)) (k : κ) : List (κ × V) := kvs.filter fun kv => decide (kv.1 ≠ k)
theorem valV_pos {p : κ × V} {r : List (κ × V)} {k : κ} (e : p.1 = k) : valV (p :: r) k = some p.2 := by simp [valV, List.find?_cons, e]
theorem valV_neg {p : κ × V} {r : List (κ × V)} {k : κ} (e : ¬ p.1 = k) : valV (p :: r) k = valV r k := by simp [valV, List.find?_cons, e]
theorem valV_any (k : κ) : ∀ kvs : List (κ × V), (kvs.any fun kv => decide (kv.1 = k)) = (valV kvs k).isSome
  | [] => rfl
  | p :: r => by
    rw [List.any_cons]
    by_cases e : p.1 = k
    · simp only [valV_pos e, decide_eq_true e, Bool.true_or, Option.isSome_some]
    · rw [valV_neg e, decide_eq_false e, Bool.false_or]; exact valV_any k r
theorem valV_map (k j : κ) (y : V) : ∀ kvs : List (κ × V), valV (kvs.map fun kv => if kv.1 = k then (kv.1, y) else kv) j = (valV kvs j).map fun x => if j = k then y else x
  | [] => rfl
  | p :: r => by
    have ih := valV_map k j y r
    rw [List.map_cons]
    by_cases h : p.1 = k
    · rw [if_pos h]
      by_cases e : p.1 = j
      · rw [valV_pos (p := (p.1, y)) e, valV_pos e, Option.map_some, if_pos (e.symm.trans h)]
      · rw [valV_neg (p := (p.1, y)) e, valV_neg e, ih]
    · rw [if_neg h]
      by_cases e : p.1 = j
      · rw [valV_pos (p := p) e, valV_pos e, Option.map_some, if_neg (fun z => h (e.trans z))]
      · rw [valV_neg (p := p) e, valV_neg e, ih]
theorem valV_snoc (k j : κ) (y : V) : ∀ kvs : List (κ × V), valV kvs k = none → valV (kvs ++ [(k, y)]) j = if j = k then some y else valV kvs j
  | [], _ => by
    by_cases e : k = j
    · rw [if_pos e.symm]; exact valV_pos (p := (k, y)) e
    · rw [if_neg (fun z => e z.symm)]; exact valV_neg (p := (k, y)) e
  | p :: r, hn => by
    rw [List.cons_append]
    have hk : ¬ p.1 = k := fun z => by rw [valV_pos z] at hn; cases hn
    rw [valV_neg hk] at hn
    have ih := valV_snoc k j y r hn
    by_cases e : p.1 = j
    · rw [valV_pos e, valV_pos e, if_neg (fun z => hk (e.trans z))]
    · rw [valV_neg e, valV_neg e, ih]
theorem valV_put (kvs : List (κ × V)) (k j : κ) (y : V) : valV (putK kvs k y) j = if j = k then some y else valV kvs j := by
  unfold putK
  by_cases a : (kvs.any fun kv => decide (kv.1 = k)) = true
  · rw [if_pos a, valV_map]
    rw [valV_any] at a
    by_cases e : j = k
    · obtain ⟨x, hx⟩ := Option.isSome_iff_exists.mp a
      rw [if_pos e, e, hx, Option.map_some, if_pos rfl]
    · rw [if_neg e]
      cases valV kvs j with
      | none => rfl
      | some x => rw [Option.map_some, if_neg e]
  · rw [if_neg a]
    refine valV_snoc k j y kvs ?_
    rw [valV_any] at a
    cases q : valV kvs k with
    | none => rfl
    | some x => rw [q] at a; exact (a rfl).elim
theorem length_putK (kvs : List (κ × V)) (k : κ) (v : V) : (putK kvs k v).length ≤ kvs.length + 1 := by
  unfold putK
  split
  · rw [List.length_map]; omega
  · rw [List.length_append, List.length_cons, List.length_nil]; omega
theorem putK_new {kvs : List (κ × V)} {k : κ} (v : V) (h : valV kvs k = none) : putK kvs k v = kvs ++ [(k, v)] := by
  unfold putK
  rw [valV_any, h]
  exact if_neg (by decide)
theorem RelO.isSome_eq {o : Option V} {u : Option Value} (r : RelO o u) : o.isSome = u.isSome := by
  cases o with
  | none => cases u with
    | none => rfl
    | some _ => exact (show False from r).elim
  | some _ => cases u with
    | none => exact (show False from r).elim
    | some _ => rfl
/-- raw tables of the same keys -/
theorem KV.val {kvs : List (κ × V)} {vs : List (κ × Value)} (r : KV kvs vs) (k : κ) : RelO (valV kvs k) (valueAt vs k) := by
  unfold KV at r
  induction r with
  | nil => exact True.intro
  | @cons p q ps qs h t ih =>
    obtain ⟨h1, h2⟩ := h
    by_cases e : p.1 = k
    · have e' : q.1 = k := h1.symm.trans e
      have b : valueAt (q :: qs) k = some q.2 := by simp [valueAt, List.find?_cons, e']
      rw [valV_pos e, b]; exact h2
    · have e' : ¬ q.1 = k := fun z => e (h1.trans z)
      have b : valueAt (q :: qs) k = valueAt qs k := by simp [valueAt, List.find?_cons, e']
      rw [valV_neg e, b]; exact ih
theorem KV.any {kvs : List (κ × V)} {vs : List (κ × Value)} (r : KV kvs vs) (k : κ) : (kvs.any fun kv => decide (kv.1 = k)) = vs.any fun kv => decide (kv.1 = k) := by
  unfold KV at r
  induction r with
  | nil => rfl
  | cons h t ih => rw [List.any_cons, List.any_cons, ih, h.1]
theorem KV.repl {kvs : List (κ × V)} {vs : List (κ × Value)} (r : KV kvs vs) (k : κ) {y : V} {u : Value} (ry : RelV y u) :
    KV (kvs.map fun kv => if kv.1 = k then (kv.1, y) else kv) (vs.map fun kv => if kv.1 = k then (kv.1, u) else kv) := by
  unfold KV at r ⊢
  induction r with
  | nil => exact .nil
  | @cons p q ps qs h t ih =>
    rw [List.map_cons, List.map_cons]
    refine .cons ?_ ih
    obtain ⟨h1, h2⟩ := h
    by_cases e : p.1 = k
    · rw [if_pos e, if_pos (h1.symm.trans e)]; exact ⟨h1, ry⟩
    · rw [if_neg e, if_neg (fun z => e (h1.trans z))]; exact ⟨h1, h2⟩
theorem KV.put {kvs : List (κ × V)} {vs : List (κ × Value)} (r : KV kvs vs) (k : κ) {y : V} {u : Value} (ry : RelV y u) : KV (putK kvs k y) (stored vs k u) := by
  unfold putK stored
  rw [r.any k]
  by_cases e : (vs.any fun kv => decide (kv.1 = k)) = true
  · rw [if_pos e, if_pos e]; exact r.repl k ry
  · rw [if_neg e, if_neg e]; exact Paired.snoc r ⟨rfl, ry⟩
theorem KV.drop {kvs : List (κ × V)} {vs : List (κ × Value)} (r : KV kvs vs) (k : κ) : KV (dropK kvs k) (without vs k) := by
  unfold KV at r ⊢
  unfold dropK without
  induction r with
  | nil => exact .nil
  | @cons p q ps qs h t ih =>
    obtain ⟨h1, h2⟩ := h
    rw [List.filter_cons, List.filter_cons]
    by_cases e : p.1 = k
    · have a : ¬ decide (p.1 ≠ k) = true := by simp [e]
      have b : ¬ decide (q.1 ≠ k) = true := by simp [h1.symm.trans e]
      rw [if_neg a, if_neg b]; exact ih
    · have e' : ¬ q.1 = k := fun z => e (h1.trans z)
      have a : decide (p.1 ≠ k) = true := by simp [e]
      have b : decide (q.1 ≠ k) = true := by simp [e']
      rw [if_pos a, if_pos b]; exact .cons ⟨h1, h2⟩ ih
theorem KV.keys {kvs : List (κ × V)} {vs : List (κ × Value)} (r : KV kvs vs) : kvs.map (·.1) = vs.map (·.1) := by
  unfold KV at r
  induction r with
  | nil => rfl
  | cons h t ih => rw [List.map_cons, List.map_cons, ih, h.1]
theorem KV.length {kvs : List (κ × V)} {vs : List (κ × Value)} (r : KV kvs vs) : kvs.length = vs.length := Paired.length r
theorem dropK_le (kvs : List (κ × V)) (k : κ) : (dropK kvs k).length ≤ kvs.length := List.length_filter_le _ _
end
theorem kV_is {P : Program} {w : World} {k : Key} {u : Value} (r : RelV (kV k) u) : (mixKind P w).is k u = true := by
  cases k with
  | inl i => obtain ⟨t, e⟩ := (show ∃ t, u = Value.int i t from r); subst e; exact mixKind_int P w i t
  | inr x => obtain ⟨t, e⟩ := (show ∃ t, u = Value.str x t from r); subst e; exact mixKind_str P w x t
theorem items_are {P : Program} {w : World} : ∀ {ks : List Key} {us : List Value}, Vals (ks.map kV) us → ItemsAre (mixKind P w) ks us
  | [], _, r => by rw [List.map_nil] at r; cases r; exact .nil
  | k :: ks, _, r => by
    rw [List.map_cons] at r
    cases r with
    | cons h t => exact .cons (kV_is h) (items_are t)
/-- raw entries of a dict with tuple keys -/
abbrev KT (H : Hp) : List (List Key × V) → List (List Key × Addr × Value) → Prop := Paired fun p q => p.1 = q.1 ∧ H q.2.1 = some (.tup (p.1.map kV)) ∧ RelV p.2 q.2.2
theorem KT.val {H : Hp} {kvs : List (List Key × V)} {xs : List (List Key × Addr × Value)} (r : KT H kvs xs) (k : List Key) : RelO (valV kvs k) ((atKey xs k).map (·.2)) := by
  induction r with
  | nil => exact True.intro
  | @cons p q ps qs h t ih =>
    obtain ⟨h1, _, h2⟩ := h
    by_cases e : p.1 = k
    · have e' : q.1 = k := h1.symm.trans e
      have b : atKey (q :: qs) k = some q.2 := by simp [atKey, List.find?_cons, e']
      rw [valV_pos e, b]; exact h2
    · have e' : ¬ q.1 = k := fun z => e (h1.trans z)
      have b : atKey (q :: qs) k = atKey qs k := by simp [atKey, List.find?_cons, e']
      rw [valV_neg e, b]; exact ih
theorem KT.repl {H : Hp} {kvs : List (List Key × V)} {xs : List (List Key × Addr × Value)} (r : KT H kvs xs) (k : List Key) {y : V} {u : Value} (ry : RelV y u) :
    KT H (kvs.map fun kv => if kv.1 = k then (kv.1, y) else kv) (xs.map (putAt k u)) := by
  induction r with
  | nil => exact .nil
  | @cons p q ps qs h t ih =>
    rw [List.map_cons, List.map_cons]
    refine .cons ?_ ih
    obtain ⟨h1, h2, h3⟩ := h
    unfold putAt
    by_cases e : p.1 = k
    · rw [if_pos e, if_pos (h1.symm.trans e)]; exact ⟨h1, h2, ry⟩
    · rw [if_neg e, if_neg (fun z => e (h1.trans z))]; exact ⟨h1, h2, h3⟩
theorem KT.put {H : Hp} {kvs : List (List Key × V)} {xs : List (List Key × Addr × Value)} (r : KT H kvs xs) (k : List Key) {b : Addr} {y : V} {u : Value} (hb : H b = some (.tup (k.map kV))) (ry : RelV y u) :
    KT H (putK kvs k y) (storedH xs k b u) := by
  have e : (kvs.any fun kv => decide (kv.1 = k)) = (atKey xs k).isSome := by
    rw [valV_any, (r.val k).isSome_eq, Option.isSome_map]
  unfold putK storedH
  rw [e]
  by_cases q : (atKey xs k).isSome = true
  · rw [if_pos q, if_pos q]; exact r.repl k ry
  · rw [if_neg q, if_neg q]; exact Paired.snoc r ⟨rfl, hb, ry⟩
theorem KT.keeps {H H' : Hp} {kvs : List (List Key × V)} {xs : List (List Key × Addr × Value)} (r : KT H kvs xs) (ht : ∀ b ys, H b = some (.tup ys) → H' b = some (.tup ys)) : KT H' kvs xs :=
  Paired.mapP r fun _ _ z => ⟨z.1, ht _ _ z.2.1, z.2.2⟩
section
variable {P : Program} {w : World} {H : Hp} {h : Heap} {a : Addr}
theorem rd_of {u : HO} (ok : HOk P w H h) (e : Rd H a u) : ObjOk P w H h a u := e.ok ok
theorem dk_rd {kvs : List (Key × V)} (ok : HOk P w H h) (e : Rd H a (.dK kvs)) : kvs.length ≤ sizeLine ∧ (a == sysModules) = false ∧ ∃ vs, KV kvs vs ∧ h.DictOf (mixKind P w) a vs :=
  show ObjOk P w H h a (.dK kvs) from rd_of ok e
theorem dk_of {kvs : List (Key × V)} (ok : HOk P w H h) (e : H a = some (.dK kvs)) : kvs.length ≤ sizeLine ∧ (a == sysModules) = false ∧ ∃ vs, KV kvs vs ∧ h.DictOf (mixKind P w) a vs := dk_rd ok (.inl e)
/-- a tracked tuple of ints and texts is a key -/
theorem key_of {ks : List Key} (ok : HOk P w H h) (e : H a = some (.tup (ks.map kV))) : (tupleKind (mixKind P w)).is h ks a := by
  obtain ⟨_, its, r, o, h1, h2, n, h3⟩ := (show ObjOk P w H h a (.tup (ks.map kV)) from ok a _ e)
  exact ⟨o, its.toArray, n, h1, h2, h3, by simpa using items_are r⟩
theorem dt_rd {kvs : List (List Key × V)} (ok : HOk P w H h) (e : Rd H a (.dT kvs)) : kvs.length ≤ sizeLine ∧ (a == sysModules) = false ∧
    ∃ xs, KT H kvs xs ∧ h.DictOfH (tupleKind (mixKind P w)) a xs := by
  obtain ⟨z, y, xs, r, o, es, ep, h1, h2, h3, h4, h5⟩ := (show ObjOk P w H h a (.dT kvs) from rd_of ok e)
  refine ⟨z, y, xs, r, o, es, ep, h1, h2, h3, h4, fun x hx => ?_, h5⟩
  have all : ∀ {l : List (List Key × V)} {m : List (List Key × Addr × Value)}, KT H l m → ∀ x ∈ m, (tupleKind (mixKind P w)).is h x.1 x.2.1 := by
    intro l m q
    induction q with
    | nil => intro x hx; exact nomatch hx
    | @cons p q ps qs hq t ih =>
      intro x hx
      rcases List.mem_cons.mp hx with e | hx
      · subst e
        exact key_of ok (by rw [← hq.1]; exact hq.2.1)
      · exact ih x hx
  exact all r x hx
theorem dt_of {kvs : List (List Key × V)} (ok : HOk P w H h) (e : H a = some (.dT kvs)) : kvs.length ≤ sizeLine ∧ (a == sysModules) = false ∧
    ∃ xs, KT H kvs xs ∧ h.DictOfH (tupleKind (mixKind P w)) a xs := dt_rd ok (.inl e)
end
/-- what the dict at a holds at the key y -/
def DGet (H : Hp) (a : Addr) (y : V) (r : Option V) : Prop :=
  (∃ kvs k, Rd H a (.dK kvs) ∧ y = kV k ∧ r = valV kvs k) ∨ ∃ kvs k b, Rd H a (.dT kvs) ∧ y = .ref b ∧ H b = some (.tup (k.map kV)) ∧ r = valV kvs k
/-- the heap behind a[y] = v -/
def DPut (H : Hp) (a : Addr) (y v : V) (H' : Hp) : Prop :=
  (∃ kvs k, H a = some (.dK kvs) ∧ y = kV k ∧ kvs.length < sizeLine ∧ H' = upd H a (.dK (putK kvs k v))) ∨
  ∃ kvs k b, H a = some (.dT kvs) ∧ y = .ref b ∧ H b = some (.tup (k.map kV)) ∧ kvs.length < sizeLine ∧ H' = upd H a (.dT (putK kvs k v))
theorem DGet.k {H : Hp} {a : Addr} {kvs : List (Key × V)} {k : Key} (e : H a = some (.dK kvs)) : DGet H a (kV k) (valV kvs k) := .inl ⟨kvs, k, .inl e, rfl, rfl⟩
theorem DPut.k {H : Hp} {a : Addr} {kvs : List (Key × V)} {k : Key} {v : V} (e : H a = some (.dK kvs)) (hl : kvs.length < sizeLine) : DPut H a (kV k) v (upd H a (.dK (putK kvs k v))) := .inl ⟨kvs, k, e, rfl, hl, rfl⟩
section
variable {X : Cx} {pins : List (Addr × Obj)} {σ : St} {H : Hp} {s : Shared} {a : Addr} {y v : V} {u r : Value} {o : Option V} {A : Around} {E : Value → Shared → Prop}
theorem Inv.big (I : Inv X pins σ H s) : sysModules < s.heap.objs.size := by
  have h : mainGlobals < s.heap.objs.size := (I.mod.glob.keeps I.bk).lt
  exact Nat.lt_trans (by decide) h
/-- d[y], there -/
theorem d_getItem {Q : Value → Shared → Prop} (hu : A.units + 1 < cLine) (I : Inv X pins σ H s) (g : DGet H a y (some v)) (ry : RelV y u) (h : ∀ w' s', Inv X pins σ H s' → RelV v w' → Q w' s') :
    wpAny (model X.prog X.w) A (getItem (.ref a) u) Q E s := by
  rcases g with ⟨kvs, k, e, ey, l⟩ | ⟨kvs, k, b, e, ey, eb, l⟩
  · subst ey
    obtain ⟨z, hd, vs, rel, dd⟩ := dk_rd I.hok e
    obtain ⟨w', hw, rw'⟩ := RelO.some_of (v := v) (o := valueAt vs k) (by rw [l]; exact rel.val k)
    exact wpAny_getItem_of (kV_is ry) dd.mapOf hw (h w' _ (I.tok _) rw')
  · subst ey
    cases (show u = Value.ref b from ry)
    obtain ⟨z, hd, xs, rel, dd⟩ := dt_rd I.hok e
    obtain ⟨w', hw, rw'⟩ := RelO.some_of (v := v) (o := (atKey xs k).map (·.2)) (by rw [l]; exact rel.val k)
    obtain ⟨p, hp, hp2⟩ := Option.map_eq_some_iff.mp hw
    refine wpAny_getItem_heap (tupleKind_room_in1 hu) (key_of I.hok eb) dd hp ?_
    rw [hp2]
    exact h w' _ (I.tok _) rw'
theorem d_notIn {Q : Value → Shared → Prop} (hu : A.units + 1 < cLine) (I : Inv X pins σ H s) (g : DGet H a y o) (ry : RelV y u) (h : ∀ s', Inv X pins σ H s' → Q (.bool (!o.isSome)) s') :
    wpAny (model X.prog X.w) A (compareOp .NotIn u (.ref a)) Q E s := by
  rcases g with ⟨kvs, k, e, ey, l⟩ | ⟨kvs, k, b, e, ey, eb, l⟩
  · subst ey
    obtain ⟨z, hd, vs, rel, dd⟩ := dk_rd I.hok e
    refine wpAny_notIn_of (kV_is ry) hd dd.mapOf ?_
    rw [← (rel.val k).isSome_eq, ← l]
    exact h _ (I.tok _)
  · subst ey
    cases (show u = Value.ref b from ry)
    obtain ⟨z, hd, xs, rel, dd⟩ := dt_rd I.hok e
    refine wpAny_notIn_heap (tupleKind_room_in1 hu) (key_of I.hok eb) hd dd ?_
    have q := (rel.val k).isSome_eq
    rw [Option.isSome_map] at q
    rw [← q, ← l]
    exact h _ (I.tok _)
/-- a dict's object is replaced -/
theorem d_write {h' : Heap} {t' : Nat} {ob : HO} (I : Inv X pins σ H s) (mu : Mut (H a)) (hs : Heap.SameBut a s.heap h') (he : ∃ q, h'.get? a = some q) (new : ObjOk X.prog X.w (upd H a ob) h' a ob) :
    Inv X pins σ (upd H a ob) { s with heap := h', toks := t' } :=
  I.write (x := a) (e := a) mu (.inl rfl) (fun b q hb z => (hs.2 b hb).trans z) he new
theorem dk_new {P : Program} {w : World} {H' : Hp} {h' : Heap} {kvs : List (Key × V)} {vs : List (Key × Value)} (z : kvs.length ≤ sizeLine) (hd : (a == sysModules) = false) (rel : KV kvs vs) (dd : h'.DictOf (mixKind P w) a vs) :
    ObjOk P w H' h' a (.dK kvs) := ⟨z, hd, vs, rel, dd⟩
/-- d[y] = v -/
theorem d_setItem {H' : Hp} {Q : Unit → Shared → Prop} (hu : A.units + 1 < cLine) (I : Inv X pins σ H s) (g : DPut H a y v H') (ry : RelV y u) (rv : RelV v r) (h : ∀ s', Inv X pins σ H' s' → Q () s') :
    wpAny (model X.prog X.w) A (setItem (.ref a) u r) Q E s := by
  rcases g with ⟨kvs, k, e, ey, l, eH⟩ | ⟨kvs, k, b, e, ey, eb, l, eH⟩
  · subst ey eH
    obtain ⟨z, hd, vs, rel, dd⟩ := dk_of I.hok e
    have hz : vs.length ≤ sizeLine := by rw [← rel.length]; exact z
    have hl : (putK kvs k v).length ≤ sizeLine := by have := length_putK kvs k v; omega
    refine wpAny_setItem_pairs (hsz := hz) (kV_is ry) dd fun h' dd' hs => h _ ?_
    have he : ∃ q, h'.get? a = some q := let ⟨q, _, _, hq, _⟩ := dd'; ⟨q, hq⟩
    exact d_write I (by rw [e]; exact True.intro) hs he (dk_new hl hd (rel.put k rv) dd')
  · subst ey eH
    cases (show u = Value.ref b from ry)
    obtain ⟨z, hd, xs, rel, dd⟩ := dt_of I.hok e
    have hz : xs.length ≤ sizeLine := by rw [← Paired.length rel]; exact z
    have hl : (putK kvs k v).length ≤ sizeLine := by have := length_putK kvs k v; omega
    refine wpAny_setItem_heap (hsz := hz) (tupleKind_room_in1 hu) (key_of I.hok eb) dd fun h' dd' hs => h _ ?_
    obtain ⟨q, es, ep, hq, h2, h3, h4, _, h5⟩ := dd'
    refine d_write I (by rw [e]; exact True.intro) hs ⟨q, hq⟩ ⟨hl, hd, _, (rel.put k eb rv).keeps fun c ys ec => ?_, q, es, ep, hq, h2, h3, h4, h5⟩
    rw [upd_ne (ne_of ec e (fun z => nomatch z))]
    exact ec
end
section
variable {X : Cx} {pins : List (Addr × Obj)} {σ : St} {H : Hp} {s : Shared} {a : Addr} {kvs : List (Key × V)} {k : Key} {u : Value} {A : Around} {E : Value → Shared → Prop}
/-- d.pop(k[, x]), there -/
theorem d_pop {v : V} {more : List Value} {Q : Value → Shared → Prop} (I : Inv X pins σ H s) (e : H a = some (.dK kvs)) (ry : RelV (kV k) u) (l : valV kvs k = some v) (hm : more = [] ∨ ∃ x, more = [x])
    (h : ∀ w' s', Inv X pins σ (upd H a (.dK (dropK kvs k))) s' → RelV v w' → Q w' s') : wpAny (model X.prog X.w) A (call (.builtin "dict.pop") (.ref a :: u :: more)) Q E s := by
  obtain ⟨z, hd, vs, rel, dd⟩ := dk_of I.hok e
  obtain ⟨w', hw, rw'⟩ := RelO.some_of (v := v) (o := valueAt vs k) (by rw [← l]; exact rel.val k)
  have hp : (keyPart u).isSome = true := by
    cases k with
    | inl i => obtain ⟨t, q⟩ := (show ∃ t, u = Value.int i t from ry); subst q; rfl
    | inr x => obtain ⟨t, q⟩ := (show ∃ t, u = Value.str x t from ry); subst q; rfl
  have ha : argsOk "dict.pop" ⟨.ref a :: u :: more, []⟩ := by
    rcases hm with q | ⟨x, q⟩
    · subst q; exact PySem.F.args_dict_pop_2 _ _
    · subst q; exact PySem.F.args_dict_pop_3 _ _ _
  refine call_meetsIn PySem.F.slot_dict_pop dd.typeIs PySem.F.entry_dict_pop ha (meets_dict_pop_there (mixKind X.prog X.w) a (kV_is ry) more hm hp)
    ⟨vs, w', dd, by rw [← rel.length]; exact z, hw, fun h' dd' hs => h w' _ ?_ rw'⟩
  have he : ∃ q, h'.get? a = some q := let ⟨q, _, _, hq, _⟩ := dd'; ⟨q, hq⟩
  exact d_write I (by rw [e]; exact True.intro) hs he (dk_new (Nat.le_trans (dropK_le kvs k) z) hd (rel.drop k) dd')
end
/-- the element of a subscription, not a slice -/
def NoSl (i : Expr) : Prop := ∀ ov iv, subscripted i false ov iv = operate [ov, iv] (getItem ov iv)
theorem subD_of {prog : Program} {w : World} {A : Around} {E : Value → Shared → Prop} {s : Shared} {env : Env} {value slice : Expr} {pos : Pos} {T id : String} {Q : Value → Shared → Prop}
    (hl : typeLookup (.type T) "__getitem__" = pure (some (.builtin id))) (hs : NoSl slice)
    (h : wpAny (model prog w) A (eval value env) (fun o s₁ => wpAny (model prog w) A (eval slice env) (fun i s₂ => s₂.TypeIs o T ∧ wpAny (model prog w) A (getItem o i) Q E s₂) E s₁) E s) :
    wpAny (model prog w) A (eval (.Subscript value slice pos) env) Q E s := by
  refine Subscript_ (wpAny_mono h (fun o s₁ h₁ => wpAny_mono h₁ (fun i s₂ h₂ => ?_) fun _ _ x => x) fun _ _ x => x)
  obtain ⟨hT, h₂⟩ := h₂
  unfold subscriptTail
  refine wpAny_bind ?_
  rw [getitemInPython_of_ne hT.not_modules]
  refine wpAny_bind (wpAny_specialOf hT hl ?_)
  have fin : wpAny (model prog w) A (subscripted slice false o i) (fun r s₃ => wpAny (model prog w) A (letTemporaryGo value o r >>= fun _ => pure r) Q E s₃) E s₂ := by
    rw [hs o i]
    exact wpAny_operating (wpAny_mono h₂ (fun r s₃ h₃ => wpAny_bind (wpAny_letTemporaryGo (wpAny_pure h₃))) fun _ _ x => x)
  first
    | exact wpAny_pure (wpAny_bind fin)
    | exact wpAny_bind (wpAny_pure (wpAny_bind fin))
    | exact wpAny_bind fin
theorem dict_typeIs {X : Cx} {pins : List (Addr × Obj)} {σ : St} {H : Hp} {s : Shared} {a : Addr} {y : V} {o : Option V} (I : Inv X pins σ H s) (g : DGet H a y o) : s.TypeIs (.ref a) "dict" := by
  rcases g with ⟨kvs, k, e, _, _⟩ | ⟨kvs, k, b, e, _, _, _⟩
  · obtain ⟨_, _, vs, _, dd⟩ := dk_rd I.hok e
    exact dd.typeIs
  · obtain ⟨_, _, xs, _, dd⟩ := dt_rd I.hok e
    exact dd.typeIs
/-- d[y] -/
def tDGet (td ty : TE) : TE := fun σ H Q => td σ H fun x H1 => ty σ H1 fun y H2 => ∃ a v, x = .ref a ∧ DGet H2 a y (some v) ∧ Q v H2
/-- y in d, y not in d -/
def tDIn (ty td : TE) : TE := fun σ H Q => ty σ H fun y H1 => td σ H1 fun x H2 => ∃ a o, x = .ref a ∧ DGet H2 a y o ∧ Q (.bl o.isSome) H2
def tDNotIn (ty td : TE) : TE := fun σ H Q => ty σ H fun y H1 => td σ H1 fun x H2 => ∃ a o, x = .ref a ∧ DGet H2 a y o ∧ Q (.bl (!o.isSome)) H2
/-- d[y] = v -/
def sDPut (td ty tv : TE) : TS := fun D σ H => tv σ H fun v H1 => td σ H1 fun x H2 => ty σ H2 fun y H3 => ∃ a H4, x = .ref a ∧ DPut H3 a y v H4 ∧ D.nx σ H4
section
variable {X : Cx} {o i e value : Expr} {pos pos' tpos : Pos} {td ty tv : TE}
theorem pe_dget (hu : X.A.units + 1 < cLine) (ho : PE X o td) (hi : PE X i ty) (hs : NoSl i) : PE X (.Subscript o i pos) (tDGet td ty) := by
  intro pins s σ H Q I h
  refine subD_of PySem.F.slot_dict_getitem.lookup hs (thn (ho pins s σ H _ I h) fun u s1 ⟨x, H1, I1, rx, q1⟩ => thn (hi pins s1 σ H1 _ I1 q1) fun iv s2 ⟨y, H2, I2, ry, a, v, ex, g, q2⟩ => ?_)
  subst ex
  obtain rfl : u = Value.ref a := rx
  exact ⟨dict_typeIs I2 g, d_getItem hu I2 g ry fun w' s3 I3 rw' => ⟨v, H2, I3, rw', q2⟩⟩
theorem pc_dnotin (hu : X.A.units + 1 < cLine) (hi : PE X i ty) (ho : PE X o td) : PC X .NotIn i o (tDNotIn ty td) := by
  intro pins s σ H Q I h
  refine thn (hi pins s σ H _ I h) fun iv s1 ⟨y, H1, I1, ry, q1⟩ => thn (ho pins s1 σ H1 _ I1 q1) fun u s2 ⟨x, H2, I2, rx, a, ov, ex, g, q2⟩ => ?_
  subst ex
  obtain rfl : u = Value.ref a := rx
  exact d_notIn hu I2 g ry fun s3 I3 => ⟨.bl (!ov.isSome), H2, I3, rfl, q2⟩
theorem ps_dput (hu : X.A.units + 1 < cLine) (ho : PE X o td) (hi : PE X i ty) (hv : PE X value tv) (hs : swapsWith value (some (.Subscript o i pos')) pos.line X.env = pure false) :
    PS X (.Assign [.Subscript o i pos'] value pos) (sDPut td ty tv) := by
  intro pins s σ H D I h
  refine wpAny_Assign_Subscript (thn (hv pins s σ H _ I h) fun r s1 ⟨v, H1, I1, rv, q1⟩ => thn (ho pins s1 σ H1 _ I1 q1) fun u s2 ⟨x, H2, I2, rx, q2⟩ => thn (hi pins s2 σ H2 _ I2 q2) fun iv s3 ⟨y, H3, I3, ry, a, H4, ex, g, q3⟩ => ?_) hs
  subst ex
  obtain rfl : u = Value.ref a := rx
  exact d_setItem hu I3 g ry rv fun s4 I4 => ⟨σ, H4, I4, q3⟩
end
theorem dk_empty {P : Program} {w : World} {H : Hp} (h : Heap) (hb : sysModules < h.objs.size) : ObjOk P w H (h.push { cls := .type "dict", data := .dict #[] }) h.objs.size (.dK []) :=
  ⟨Nat.zero_le _, beq_eq_false_iff_ne.mpr (Ne.symm (Nat.ne_of_lt hb)), [], .nil, Heap.DictOf.new h⟩
/-- {}, to be a dict of the kind that is wanted -/
def tDNewK : TE := fun _ H Q => ∀ p, H p = none → Q (.ref p) (upd H p (.dK []))
section
variable {X : Cx} {pos : Pos}
theorem pe_dnewK : PE X (.Dict [] [] pos) tDNewK := fun pins s σ H Q I h =>
  wpAny_Dict_empty ⟨.ref s.heap.objs.size, _, I.laid (a := s.heap.objs.size) (o := .dK []) (t' := s.toks) (fun _ _ q => Heap.get?_push_of_some _ q) (Nat.le_refl _) (dk_empty s.heap I.big), rfl, h _ (I.hok.fresh (Nat.le_refl _))⟩
end
/-- a method call o.m(e) of a built-in, with one argument: what must be seen of the text -/
structure M1 (X : Cx) (o : Expr) (m : Str) (apos : Pos) (e : Expr) (cpos : Pos) : Prop where
  base : attributeBase o m X.env (eval o X.env) = eval o X.env
  few : ((backTo cpos (starEach [e] X.env)).all (fun x => !x.1) && (backToKw cpos (keywordEach [] X.env)).all (fun x => x.1.isSome)
    && decide (([e] : List Expr).length + ([] : List Keyword).length + (if ([] : List Keyword).isEmpty then 0 else 1) < 30)) = true
  line : (apos.endLine == cpos.line) = true
  trees : backTo cpos (starEach [e] X.env) = [(false, eval e X.env)]
structure M2 (X : Cx) (o : Expr) (m : Str) (apos : Pos) (e f : Expr) (cpos : Pos) : Prop where
  base : attributeBase o m X.env (eval o X.env) = eval o X.env
  few : ((backTo cpos (starEach [e, f] X.env)).all (fun x => !x.1) && (backToKw cpos (keywordEach [] X.env)).all (fun x => x.1.isSome)
    && decide (([e, f] : List Expr).length + ([] : List Keyword).length + (if ([] : List Keyword).isEmpty then 0 else 1) < 30)) = true
  line : (apos.endLine == cpos.line) = true
  trees : backTo cpos (starEach [e, f] X.env) = [(false, eval e X.env), (false, eval f X.env)]
/-- a is a dict, whatever its keys -/
def IsD (H : Hp) (a : Addr) : Prop := (∃ kvs, Rd H a (.dK kvs)) ∨ ∃ kvs, Rd H a (.dT kvs)
theorem isD_at {X : Cx} {pins : List (Addr × Obj)} {σ : St} {H : Hp} {s : Shared} {a : Addr} (I : Inv X pins σ H s) (d : IsD H a) :
    s.TypeIs (.ref a) "dict" ∧ (∀ b, Value.ref a = .ref b → ∃ ob, s.heap.get? b = some ob ∧ ob.dict = none) ∧ (a == sysModules) = false := by
  rcases d with ⟨kvs, e⟩ | ⟨kvs, e⟩
  · obtain ⟨_, hd, vs, _, dd⟩ := dk_rd I.hok e
    refine ⟨dd.typeIs, fun b q => ?_, hd⟩
    cases q
    obtain ⟨ob, _, _, h1, h2, _⟩ := dd
    exact ⟨ob, h1, h2.2.1⟩
  · obtain ⟨_, hd, xs, _, dd⟩ := dt_rd I.hok e
    refine ⟨dd.typeIs, fun b q => ?_, hd⟩
    cases q
    obtain ⟨ob, _, _, h1, h2, _⟩ := dd
    exact ⟨ob, h1, h2.2.1⟩
section
variable {X : Cx} {pins : List (Addr × Obj)} {σ : St} {H : Hp} {s : Shared} {a : Addr} {y d : V} {u r : Value} {o : Option V} {A : Around} {E : Value → Shared → Prop}
end
/-- d.pop(k): there; d.pop(k, x): there or not -/
def tDPop1 (td ty : TE) : TE := fun σ H Q => td σ H fun x H1 => ∃ a, x = .ref a ∧ IsD H1 a ∧ ty σ H1 fun y H2 => ∃ kvs k v, H2 a = some (.dK kvs) ∧ y = kV k ∧ valV kvs k = some v ∧ Q v (upd H2 a (.dK (dropK kvs k)))
section
variable {X : Cx} {o e f : Expr} {apos cpos : Pos} {td ty tx : TE}
theorem pe_dpop1 (ho : PE X o td) (he : PE X e ty) (m : M1 X o "pop" apos e cpos) : PE X (.Call (.Attribute o "pop" apos) [e] [] cpos) (tDPop1 td ty) := by
  intro pins s σ H Q I h
  refine wpAny_Call_method m.base m.few m.line PySem.F.plainAttrs_dict PySem.F.slot_dict_pop PySem.F.type_dict_pop (thn (ho pins s σ H _ I h) fun u s1 ⟨x, H1, I1, rx, a, ex, d, q1⟩ => ?_)
  subst ex
  obtain rfl : u = Value.ref a := rx
  obtain ⟨t1, t2, _⟩ := isD_at I1 d
  refine ⟨t1, t2, ?_⟩
  rw [m.trees]
  refine Calls.callWith_builtin rfl (Calls.evalArgs_plain (Calls.spliced_cons (thn (he pins s1 σ H1 _ I1 q1) fun iv s2 ⟨y, H2, I2, ry, kvs, k, v, ea, ey, l, q2⟩ => Calls.spliced_nil ?_)))
  subst ey
  exact d_pop I2 ea ry l (.inl rfl) fun w' s3 I3 rw' => ⟨v, _, I3, rw', q2⟩
end
section
variable {X : Cx} {pins : List (Addr × Obj)} {σ : St} {H : Hp} {s : Shared} {a : Addr} {kvs : List (Key × V)} {A : Around} {E : Value → Shared → Prop}
end
section
variable {X : Cx} {pins : List (Addr × Obj)} {σ : St} {H : Hp} {s : Shared} {a : Addr} {y : V} {u : Value} {A : Around} {E : Value → Shared → Prop}
end
end L2
namespace L2
open PySem PySem.Spec PyProof.Rows
section
variable {prog : Program} {w : World} {A : Around} {E : Value → Shared → Prop}
end
section
variable {X : Cx}
end
end L2
namespace L2
open PySem PySem.Spec PyProof.Rows
section
variable {X : Cx} {pins : List (Addr × Obj)} {σ : St} {H : Hp} {s : Shared} {h' : Heap}
/-- .. and one new object is laid -/
theorem Inv.turnedNew {t' : Nat} {ch : List Addr} {T : Addr} {ob : HO} (I : Inv X pins σ H s) (k : ∀ b o, b ∉ ch → s.heap.get? b = some o → h'.get? b = some o) (hf : ∀ b ∈ ch, FpOk X pins H b) (hT : s.heap.objs.size ≤ T)
    (new : ObjOk X.prog X.w (upd H T ob) h' T ob) : Inv X pins σ (upd H T ob) { s with heap := h', toks := t' } := by
  have hn : H T = none := I.hok.fresh hT
  have nit : ∀ b u, H b = some u → b ∉ ch := fun b u e z => by
    have q := (hf b z).1
    rw [q] at e; cases e
  refine I.step (g' := s.gens) (d' := s.drawn) (ch := ch) (fun b hb => ⟨(hf b hb).2.2.2.1, (hf b hb).2.1, (hf b hb).2.2.2.2.1, (hf b hb).2.2.2.2.2⟩) (fun b o _ _ hc e _ => k b o hc e) (fun b o _ _ hc e _ => ⟨o.slots, k b o hc e⟩)
    (fun b o _ e n => ?_) (fun b o hc e => ⟨o, k b o hc e⟩) (fun b xs e => ?_) (fun b o u e => ?_) (fun b ps e => ⟨#[], ?_⟩) (fun m hm => ?_) (fun b u e => ?_) I.bare
  · rw [upd_ne (Nat.ne_of_lt (Nat.lt_of_lt_of_le (Heap.lt_size e) hT))]; exact n
  · rw [upd_ne (ne_of_none e hn)]; exact e
  · rw [upd_ne (ne_of_none e hn)]; exact e
  · rw [upd_ne (ne_of_none e hn), e]; simp
  · obtain ⟨o, es, ep, ho, r⟩ := hm
    exact ⟨o, es, ep, k _ o (fun z => (hf _ z).2.1 rfl) ho, r⟩
  · by_cases hb : b = T
    · subst hb
      rw [upd_same] at e
      cases e
      exact new
    · rw [upd_ne hb] at e
      refine (I.hok b u e).stay (fun c v hc q => k c v ?_ q) (fun c q => by rw [upd_ne (ne_of_none q hn)]; exact q) fun c xs q => by rw [upd_ne (ne_of_none q hn)]; exact q
      rcases hc with z | z
      · rw [z]; exact nit b u e
      · exact nit c _ z
theorem Inv.lock {d : Addr} {u : HO} (I : Inv X pins σ H s) (h : H d = some u) (mu : Mut (some u)) : ∃ od, Inv X pins σ (upd H d (.frz od u)) s := by
  have x := I.hok d u h
  have ex : ∃ od, s.heap.get? d = some od := by
    cases u with
    | lst xs => obtain ⟨_, _, _, _, e⟩ := x; exact ⟨_, e⟩
    | dK kvs => obtain ⟨_, _, _, _, o, _, _, e, _⟩ := x; exact ⟨o, e⟩
    | dT kvs => obtain ⟨_, _, _, _, o, _, _, e, _⟩ := x; exact ⟨o, e⟩
    | set S n => obtain ⟨o, _, _, _, e, _⟩ := x; exact ⟨o, e⟩
    | ins C dx fs => obtain ⟨_, _, _, e, _⟩ := x; exact ⟨_, e⟩
    | ext φ => obtain ⟨_, ⟨_, e⟩, _⟩ := x; exact ⟨_, e⟩
    | _ => exact False.elim mu
  obtain ⟨od, e⟩ := ex
  have new : ObjOk X.prog X.w (upd H d (.frz od u)) s.heap d (.frz od u) := by
    refine ⟨e, x.stay (fun b v _ q => q) (fun b q => ?_) fun b xs q => ?_⟩
    · rw [upd_ne (fun z => by rw [z, h] at q; cases q; exact mu)]; exact q
    · rw [upd_ne (fun z => by rw [z, h] at q; cases q; exact mu)]; exact q
  exact ⟨od, I.write (x := d) (e := d) (t' := s.toks) (h' := s.heap) (by rw [h]; exact mu) (.inl rfl) (fun b v _ q => q) ⟨od, e⟩ new⟩
theorem Inv.nofrz {d : Addr} {u : HO} (I : Inv X pins σ H s) (h : H d = some u) (mu : Mut (some u)) : ∀ o' u', X.H_0 d ≠ some (.frz o' u') := fun o' u' e => by
  have q := I.base.frzs d o' u' e
  rw [h] at q
  cases q
  exact mu
theorem Inv.unlock {d : Addr} {od : Obj} {u : HO} (I : Inv X pins σ H s) (h : H d = some (.frz od u)) (hn : ∀ o' u', X.H_0 d ≠ some (.frz o' u')) : Inv X pins σ (upd H d u) s := by
  have neH : ∀ b o, H b = some o → (∀ o' u', o ≠ .frz o' u') → b ≠ d := fun b o e hne z => by
    rw [z, h] at e
    cases e
    exact hne _ _ rfl
  have neN : ∀ b, H b = none → b ≠ d := fun b e z => by rw [z, h] at e; cases e
  refine ⟨I.ok, I.os, I.bare, ⟨I.base.keep, I.base.slot, fun b o e n hx => ?_, I.base.there, fun b xs e => ?_, fun b o x e => ?_, fun b ps e => ?_⟩, I.loc, I.cell, ?_, fun x c e => ?_, fun p hp => ?_, fun b o e => ?_, I.len⟩
  · rw [upd_ne (neN b (I.base.free b o e n hx))]; exact I.base.free b o e n hx
  · have q := I.base.tups b xs e
    rw [upd_ne (neH b _ q (fun _ _ z => nomatch z))]; exact q
  · have q := I.base.frzs b o x e
    rw [upd_ne (fun z => by rw [z] at e; exact hn _ _ e)]; exact q
  · obtain ⟨m, q⟩ := I.base.tbls b ps e
    exact ⟨m, by rw [upd_ne (neH b _ q (fun _ _ z => nomatch z))]; exact q⟩
  · rw [upd_ne (neN _ I.free)]; exact I.free
  · rw [upd_ne (neN c (I.freeC x c e))]; exact I.freeC x c e
  · obtain ⟨e, n, r⟩ := I.pin p hp
    exact ⟨e, by rw [upd_ne (neN _ n)]; exact n, r⟩
  · by_cases hb : b = d
    · rw [hb, upd_same] at e
      cases e
      rw [hb]
      obtain ⟨_, x⟩ := I.hok d _ h
      exact x.stay (fun c v _ q => q) (fun c q => by rw [upd_ne (neH c _ q (fun _ _ z => nomatch z))]; exact q) fun c xs q => by rw [upd_ne (neH c _ q (fun _ _ z => nomatch z))]; exact q
    · rw [upd_ne hb] at e
      exact (I.hok b o e).stay (fun c v _ q => q) (fun c q => by rw [upd_ne (neH c _ q (fun _ _ z => nomatch z))]; exact q) fun c xs q => by rw [upd_ne (neH c _ q (fun _ _ z => nomatch z))]; exact q
end
/-- the statement runs while the thing at d is locked (read, not written); d and what stands there are the reading's choice -/
def tLock (t : TS) : TS := fun D σ H => ∃ d u, H d = some u ∧ Mut (some u) ∧ ∀ od, t ⟨fun σ' H' => H' d = some (.frz od u) ∧ D.nx σ' (upd H' d u), fun v H' => H' d = some (.frz od u) ∧ D.rt v (upd H' d u), fun σ' H' => H' d = some (.frz od u) ∧ D.bk σ' (upd H' d u), fun σ' H' => H' d = some (.frz od u) ∧ D.ct σ' (upd H' d u)⟩ σ (upd H d (.frz od u))
section
variable {X : Cx}
theorem ps_lock {st : Stmt} {t : TS} (h : PS X st t) : PS X st (tLock t) := by
  intro pins s σ H D I hw
  obtain ⟨d, u, hd, mu, hw⟩ := hw
  obtain ⟨od, I1⟩ := I.lock hd mu
  refine thn (h pins s σ _ _ I1 (hw od)) fun f s1 q => ?_
  cases f with
  | next => obtain ⟨σ', H', I2, e, q⟩ := q; exact ⟨σ', _, I2.unlock e (I.nofrz hd mu), q⟩
  | brk => obtain ⟨σ', H', I2, e, q⟩ := q; exact ⟨σ', _, I2.unlock e (I.nofrz hd mu), q⟩
  | cont => obtain ⟨σ', H', I2, e, q⟩ := q; exact ⟨σ', _, I2.unlock e (I.nofrz hd mu), q⟩
  | ret v => obtain ⟨x, σ', H', I2, r, e, q⟩ := q; exact ⟨x, σ', _, I2.unlock e (I.nofrz hd mu), r, q⟩
theorem pi_one {tg : Expr} {pins : List (Addr × Obj)} {σ : St} {H : Hp} {s : Shared} {R : It → Hp → Prop} {J : It} {tn : Nat → Heap → Prop} {tk : Nat} (I : Inv X pins σ H s) (o : Obj)
    (T : Turn X.prog X.w X.K tg J [s.heap.objs.size] s.heap.objs.size tn) (st : tn 0 (s.heap.push o)) (q : R J H) : PIE X pins σ tg R (.ref s.heap.objs.size) { s with heap := s.heap.push o, toks := tk } := by
  refine ⟨s.heap.objs.size, [s.heap.objs.size], tn, J, H, rfl, I.kept fun b ob e => Heap.get?_push_of_some _ e, T, st, fun b hb => ?_, q⟩
  have e : b = s.heap.objs.size := by simpa using hb
  subst e
  exact I.fpOk (Nat.le_refl _) (I.hok.fresh (Nat.le_refl _))
end
/-- lo, lo + c, .. (n of them) -/
def Itc (lo c : Int) (n : Nat) : It := ⟨fun i _ => i < n, fun i H x H' => H' = H ∧ x = .int (lo + (i : Nat) * c), fun i _ => n ≤ i⟩
theorem turn_rangeC {P : Program} {w : World} {K : PySem.W.Frag} {tg : Expr} (it : Addr) (lo c : Int) (n : Nat) : Turn P w K tg (Itc lo c n) [it] it (fun i h => IsRangeIter h it (lo + (i : Nat) * c) ((n : Int) - (i : Nat)) c) where
  mem := by simp
  obj := fun i h st b hb => by
    have e : b = it := by simpa using hb
    subst e
    exact ⟨_, st, fun v z => nomatch z⟩
  keep := fun i h h' st k => k it (by simp) _ st
  item := by
    intro X hP hw hK hc i pins s σ H E I hf st hg
    subst hP hw hK
    obtain ⟨f0, f1, f2, f3, f4, f5⟩ := hf it (by simp)
    have W := Walks.range (prog := X.prog) (w := X.w) (I.ok.hd hc) it lo c n
    refine W.item i s _ _ hg st fun v h' tk hv st' kk => ?_
    obtain ⟨t, rfl⟩ := hv
    have I1 : Inv X pins σ H { s with heap := h', toks := tk } := I.turned (fun b o hb e => kk b o (by simpa using hb) e) f0 f1 f3 f4 f5
    exact ⟨_, rfl, go_of (s := { s with heap := h', toks := tk }) (n := "range_iterator") st' rfl rfl (by decide) ⟨.int (lo + (i : Nat) * c), H, I1, ⟨t, rfl⟩, ⟨rfl, rfl⟩, st', fun b hb => (hf b hb).1⟩⟩
  done := by
    intro X hP hw hK hc i pins s σ H E I hf st hg
    subst hP hw hK
    obtain ⟨f0, f1, f2, f3, f4, f5⟩ := hf it (by simp)
    exact wpAny_pyNext_range_end (I.ok.hd hc) st (by have : n ≤ i := hg; omega) fun h' eb => ⟨rfl, I.turned (t' := s.toks) (fun b o hb e => eb b o hb e) f0 f1 f3 f4 f5⟩
  self := fun A i s Q E st h => wpAny_pyIter_rangeiter st h
/-- range(i, j, c): small bounds, n items -/
def RgC (i j c : Int) (n : Nat) : Prop := c ≠ 0 ∧ c.natAbs < 1073741824 ∧ Builtin.Range.small i j c = true ∧ Builtin.Range.rangeSize i j c = n
theorem RgC.neg {i j : Int} (ha : -(2 ^ 62) ≤ i) (ha' : i < 2 ^ 62) (hb : -(2 ^ 62) ≤ j) (hb' : j < 2 ^ 62) : RgC i j (-1) (i - j).toNat :=
  ⟨by decide, by decide, PySem.W.small_down ha ha' hb hb', PySem.W.rangeSize_downNat i j⟩
def iRng3 (ta : TA) : TI := fun σ H R => ta σ H fun vs H1 => ∃ (i j c : Int) (n : Nat), vs = [.int i, .int j, .int c] ∧ RgC i j c n ∧ R (Itc i c n) H1
section
variable {X : Cx} {tg : Expr}
theorem pi_range3 {a b c : Expr} {ta : TA} {p pos : Pos} (hg : Gl X "range") (hm : X.mg "range" = none) (ha : PA X [a, b, c] ta)
    (hs : starEach [a, b, c] X.env = (false, eval a X.env) :: starEach [b, c] X.env := by rfl) (hpl : (backTo pos (starEach [b, c] X.env)).any (·.1) = false := by rfl) :
    PI X tg (.Call (.Name "range" p) [a, b, c] [] pos) (iRng3 ta) := by
  intro pins s σ H R I h
  refine Call_ (ld_blt I hg hm boot_range (PyProof.Rows.callWith_type1 (thn (ha pos pins s σ H _ I h) fun us s1 ⟨vs, H1, I1, r1, q1⟩ => ?_) hs hpl))
  obtain ⟨i, j, k, n, e, ⟨c0, c1, c2, c3⟩, q⟩ := q1
  subst e
  cases r1 with
  | cons r rr =>
    cases rr with
    | cons r' rr =>
      cases rr with
      | cons r'' rr =>
        cases rr
        obtain ⟨t, rfl⟩ := r
        obtain ⟨t', rfl⟩ := r'
        obtain ⟨t'', rfl⟩ := r''
        refine call_range_3 c0 ?_ (.inl (PyProof.noPylong_small c1))
        refine wpAny_pyIter_range (IsRange.new ..) c2 ?_
        have I2 : Inv X pins σ H1 { s1 with heap := s1.heap.push { cls := .type "range", data := .fields #[.int i t, .int j t', .int k t''] } } := I1.kept (t' := s1.toks) fun b o e => Heap.get?_push_of_some _ e
        refine pi_one (tk := s1.toks) I2 _ (turn_rangeC _ i k n) ?_ q
        have e1 : i + ((0 : Nat) : Int) * k = i := by simp
        have e2 : (n : Int) - ((0 : Nat) : Int) = Builtin.Range.rangeSize i j k := by rw [c3]; simp
        show IsRangeIter _ _ (i + ((0 : Nat) : Int) * k) ((n : Int) - ((0 : Nat) : Int)) k
        rw [e1, e2]
        exact Heap.get?_push_size _ rfl
end
section
variable {X : Cx} {tg : Expr}
end
section
variable {prog : Program} {w : World} {A : Around} {E : Value → Shared → Prop} {s : Shared}
end
theorem kv_get {κ : Type} {kvs : List (κ × V)} {vs : List (κ × Value)} (h : KV kvs vs) : ∀ {i : Nat} {k : κ} {v : V}, kvs[i]? = some (k, v) → ∃ u, vs[i]? = some (k, u) ∧ RelV v u := by
  unfold KV at h
  induction h with
  | nil => intro i k v e; simp at e
  | @cons a b l₁ l₂ r t ih =>
    intro i k v e
    cases i with
    | zero =>
      simp only [List.getElem?_cons_zero, Option.some.injEq] at e
      subst e
      refine ⟨b.2, ?_, r.2⟩
      simp only [List.getElem?_cons_zero]
      exact congrArg some (Prod.ext r.1.symm rfl)
    | succ j =>
      simp only [List.getElem?_cons_succ] at e ⊢
      exact ih e
theorem paired_get {α β : Type} {G : α → β → Prop} {l₁ : List α} {l₂ : List β} (h : Paired G l₁ l₂) : ∀ {i : Nat} {a : α}, l₁[i]? = some a → ∃ b, l₂[i]? = some b ∧ G a b := by
  induction h with
  | nil => intro i a e; simp at e
  | @cons a b l₁ l₂ r t ih =>
    intro i a' e
    cases i with
    | zero =>
      simp only [List.getElem?_cons_zero, Option.some.injEq] at e
      subst e
      exact ⟨b, rfl, r⟩
    | succ j =>
      simp only [List.getElem?_cons_succ] at e ⊢
      exact ih e
theorem relV_key {k : Key} {u : Value} (h : keyIs k u = true) : RelV (kV k) u := by
  rcases keyIs_shape h with ⟨i, t, rfl, rfl⟩ | ⟨x, t, rfl, rfl⟩
  · exact ⟨t, rfl⟩
  · exact ⟨t, rfl⟩
section
variable {X : Cx} {pins : List (Addr × Obj)} {σ : St} {H : Hp} {s : Shared} {d : Addr} {o : Obj}
theorem Inv.frzK {kvs : List (Key × V)} (I : Inv X pins σ H s) (h : H d = some (.frz o (.dK kvs))) :
    (d == sysModules) = false ∧ s.heap.get? d = some o ∧ o.ExactDict ∧ ∃ (es : Array DictEntry) (ep : Nat) (vs : List (Key × Value)), o.data = .dict es ep ∧ es.size = kvs.length ∧ KV kvs vs ∧ s.heap.DictAt (mixKind X.prog X.w) d vs ep := by
  obtain ⟨hd, z, hs, vs, kv, o', es, ep, ho, hx, hdt, r⟩ := I.hok d _ h
  rw [hd] at ho
  cases ho
  refine ⟨hs, hd, hx, es, ep, vs, hdt, ?_, kv, o, es, hd, hx, hdt, r⟩
  have l1 := r.2.1.length
  have l2 : kvs.length = vs.length := Paired.length kv
  rw [Array.length_toList] at l1
  omega
end
/-- the values -/
def Itd (d : Addr) (o : Obj) (kvs : List (Key × V)) : It :=
  ⟨fun i H => H d = some (.frz o (.dK kvs)) ∧ i < kvs.length, fun i H x H' => H' = H ∧ ∃ k, kvs[i]? = some (k, x), fun i H => H d = some (.frz o (.dK kvs)) ∧ kvs.length ≤ i⟩
/-- the pairs, each a new tuple -/
def Iti (d : Addr) (o : Obj) (kvs : List (Key × V)) : It :=
  ⟨fun i H => H d = some (.frz o (.dK kvs)) ∧ i < kvs.length, fun i H x H' => ∃ T k v, kvs[i]? = some (k, v) ∧ x = .ref T ∧ H T = none ∧ H' = upd H T (.tup [kV k, v]), fun i H => H d = some (.frz o (.dK kvs)) ∧ kvs.length ≤ i⟩
theorem dict_ep {o : Obj} {es es' : Array DictEntry} {ep ep' : Nat} (h : o.data = .dict es ep) (h' : o.data = .dict es' ep') : es' = es ∧ ep' = ep := by
  rw [h] at h'
  cases h'
  exact ⟨rfl, rfl⟩
section
variable {P : Program} {w : World} {K : PySem.W.Frag} {tg : Expr} {d : Addr} {o : Obj} {es : Array DictEntry} {ep : Nat}
theorem turn_vals {kvs : List (Key × V)} (it : Addr) (hod : o.data = .dict es ep) : Turn P w K tg (Itd d o kvs) [it] it (fun i h => h.IsValIter it d i kvs.length ep) where
  mem := by simp
  obj := fun i h st b hb => by
    have e : b = it := by simpa using hb
    subst e
    obtain ⟨oi, e, c, dd⟩ := st
    exact ⟨oi, e, fun v z => by rw [dd] at z; cases z⟩
  keep := fun i h h' st k => st.at fun oi e => k it (by simp) oi e
  item := by
    intro X hP hw hK hc i pins s σ H E I hf st hg
    subst hP hw hK
    obtain ⟨hd, hi⟩ := hg
    obtain ⟨f0, f1, f2, f3, f4, f5⟩ := hf it (by simp)
    obtain ⟨hs, hgd, hx, es', ep', vs, hdt, hsz, kv, hm⟩ := I.frzK hd
    obtain ⟨rfl, rfl⟩ := dict_ep hod hdt
    obtain ⟨⟨k, v⟩, hkv⟩ : ∃ p, kvs[i]? = some p := ⟨kvs[i], List.getElem?_eq_getElem hi⟩
    obtain ⟨u, hu, ru⟩ := kv_get kv hkv
    have hl : kvs.length = vs.length := Paired.length kv
    rw [hl] at st
    refine wpAny_pyNext_values_item st hm hu fun h' st' sb => ?_
    have I1 : Inv X pins σ H { s with heap := h' } := I.turned (t' := s.toks) (fun b ob hb e => (sb.2 b hb).trans e) f0 f1 f3 f4 f5
    obtain ⟨oi, e, c, dd⟩ := id st'
    refine ⟨u, rfl, go_of (s := { s with heap := h' }) e c dd (by decide) ⟨v, H, I1, ru, ⟨rfl, k, hkv⟩, ?_, fun b hb => (hf b hb).1⟩⟩
    show h'.IsValIter it d (i + 1) kvs.length _
    rw [hl]
    exact st'
  done := by
    intro X hP hw hK hc i pins s σ H E I hf st hg
    subst hP hw hK
    obtain ⟨hd, hi⟩ := hg
    obtain ⟨f0, f1, f2, f3, f4, f5⟩ := hf it (by simp)
    obtain ⟨hs, hgd, hx, es', ep', vs, hdt, hsz, kv, hm⟩ := I.frzK hd
    obtain ⟨rfl, rfl⟩ := dict_ep hod hdt
    have hl : kvs.length = vs.length := Paired.length kv
    rw [hl] at st
    exact wpAny_pyNext_values_end (I.ok.hd hc) st hm (List.getElem?_eq_none (by omega)) fun h' eb => ⟨rfl, I.turned (t' := s.toks) (fun b ob hb e => eb b ob hb e) f0 f1 f3 f4 f5⟩
  self := fun A i s Q E st h => wpAny_pyIter_valiter st h
theorem turn_items {kvs : List (Key × V)} {elts : List Expr} {kk : Nat} {tpos : Pos} (it : Addr) (hod : o.data = .dict es ep) :
    Turn P w K (.Tuple elts kk tpos) (Iti d o kvs) [it] it (fun i h => ∃ ok ov, IsItemIter h it d i kvs.length ep ok ov) where
  mem := by simp
  obj := fun i h st b hb => by
    have e : b = it := by simpa using hb
    subst e
    obtain ⟨ok, ov, e⟩ := st
    exact ⟨_, e, fun v z => nomatch z⟩
  keep := fun i h h' st k => let ⟨ok, ov, e⟩ := st; ⟨ok, ov, k it (by simp) _ e⟩
  item := by
    intro X hP hw hK hc i pins s σ H E I hf st hg
    subst hP hw hK
    obtain ⟨hd, hi⟩ := hg
    obtain ⟨hs, hgd, hx, es', ep', vs, hdt, hsz, kv, hm⟩ := I.frzK hd
    obtain ⟨rfl, rfl⟩ := dict_ep hod hdt
    obtain ⟨⟨k, v⟩, hkv⟩ : ∃ p, kvs[i]? = some p := ⟨kvs[i], List.getElem?_eq_getElem hi⟩
    obtain ⟨u, hu, ru⟩ := kv_get kv hkv
    have hl : kvs.length = vs.length := Paired.length kv
    obtain ⟨ok, ov, he⟩ := st
    rw [hl] at he
    have hlt : it < s.heap.objs.size := Heap.lt_size he
    refine wpAny_pyNext_items_item he hm hu fun key h' hkey ho hT hz hk => ?_
    refine ⟨_, rfl, wpAny_letOwnedTupleGo_items (s := { s with heap := h' }) ho fun h'' he' sb => ?_⟩
    have hT2 : h''.get? s.heap.objs.size = some { cls := .type "tuple", data := .seq #[key, u] } := (sb.2 _ (Nat.ne_of_gt hlt)).trans hT
    have new : ObjOk X.prog X.w (upd H s.heap.objs.size (.tup [kV k, v])) h'' s.heap.objs.size (.tup [kV k, v]) :=
      ⟨by show 2 ≤ sizeLine; decide, [key, u], .cons (relV_key (show keyIs k key = true from hkey)) (.cons ru .nil), ⟨_, hT2, rfl, _, rfl⟩⟩
    have I1 : Inv X pins σ (upd H s.heap.objs.size (.tup [kV k, v])) { s with heap := h'' } :=
      I.turnedNew (t' := s.toks) (ch := [it]) (fun b ob hb e => (sb.2 b (by simpa using hb)).trans (hk b ob (by simpa using hb) e)) hf (Nat.le_refl _) new
    refine ⟨.ref s.heap.objs.size, _, I1, rfl, ⟨_, k, v, hkv, rfl, I.hok.fresh (Nat.le_refl _), rfl⟩, ⟨key, u, ?_⟩, fun b hb => ?_⟩
    · rw [hl]; exact he'
    · have e : b = it := by simpa using hb
      rw [e, upd_ne (Nat.ne_of_lt hlt)]
      exact (hf it (by simp)).1
  done := by
    intro X hP hw hK hc i pins s σ H E I hf st hg
    subst hP hw hK
    obtain ⟨hd, hi⟩ := hg
    obtain ⟨f0, f1, f2, f3, f4, f5⟩ := hf it (by simp)
    obtain ⟨hs, hgd, hx, es', ep', vs, hdt, hsz, kv, hm⟩ := I.frzK hd
    obtain ⟨rfl, rfl⟩ := dict_ep hod hdt
    have hl : kvs.length = vs.length := Paired.length kv
    obtain ⟨ok, ov, he⟩ := st
    rw [hl] at he
    exact wpAny_pyNext_items_end (I.ok.hd hc) he hm (List.getElem?_eq_none (by omega)) fun h' eb => ⟨rfl, I.turned (t' := s.toks) (fun b ob hb e => eb b ob hb e) f0 f1 f3 f4 f5⟩
  self := fun A i s Q E st h => let ⟨_, _, e⟩ := st; PySem.W.kcp_self e h
end
def iVals (td : TE) : TI := fun σ H R => td σ H fun x H1 => ∃ d o kvs, x = .ref d ∧ H1 d = some (.frz o (.dK kvs)) ∧ R (Itd d o kvs) H1
def iItems (td : TE) : TI := fun σ H R => td σ H fun x H1 => ∃ d o kvs, x = .ref d ∧ H1 d = some (.frz o (.dK kvs)) ∧ R (Iti d o kvs) H1
section
variable {X : Cx} {tg e : Expr} {td : TE} {apos cpos : Pos}
theorem pi_values (he : PE X e td) (hbase : attributeBase e "values" X.env (eval e X.env) = eval e X.env := by rfl) (hline : (apos.endLine == cpos.line) = true := by rfl) : PI X tg (.Call (.Attribute e "values" apos) [] [] cpos) (iVals td) := by
  intro pins s σ H R I h
  refine wpAny_Call_method (T := "dict") (id := "dict.values") hbase rfl hline F.plainAttrs_dict F.slot_dict_values F.type_dict_values (thn (he pins s σ H _ I h) fun u s1 ⟨x, H1, I1, rx, d, o, kvs, ex, hd, q⟩ => ?_)
  subst ex
  obtain rfl : u = Value.ref d := rx
  obtain ⟨hs, hgd, hx, es, ep, vs, hdt, hsz, kv, hm⟩ := I1.frzK hd
  have hl : kvs.length = vs.length := Paired.length kv
  refine ⟨hm.dictOf.typeIs, hm.dictOf.mapOf.noDict, ?_⟩
  have I2 : Inv X pins σ H1 { s1 with heap := s1.heap.push { cls := .type "dict_values", data := .fields #[.ref d] } } := I1.kept (t' := s1.toks) fun b ob q => Heap.get?_push_of_some _ q
  have fin : wpAny (model X.prog X.w) X.A (pyIter (.ref s1.heap.objs.size)) (PIE X pins σ tg R) X.xe { s1 with heap := s1.heap.push { cls := .type "dict_values", data := .fields #[.ref d] } } := by
    refine wpAny_pyIter_values (d := d) (knd := mixKind X.prog X.w) ⟨_, Heap.get?_push_size _ rfl, rfl, rfl⟩ (hm.push _) (pi_one (tk := s1.toks) I2 _ (turn_vals _ hdt) ⟨_, Heap.get?_push_size _ rfl, rfl, ?_⟩ q)
    rw [hl] <;> rfl
  show wpAny _ _ (callWith cpos (.builtin "dict.values") [.ref d] [] []) _ X.xe s1
  exact method_meetsIn F.slot_dict_values F.entry_dict_values rfl (PySem.evalArgs_none ⟨rfl, hm.dictOf.typeIs, F.args_dict_values_1 _, _, meets_dict_values (mixKind X.prog X.w) d hs, ⟨vs, hm.dictOf⟩, fin⟩)
theorem pi_items {elts : List Expr} {kk : Nat} {tpos : Pos} (he : PE X e td) (hbase : attributeBase e "items" X.env (eval e X.env) = eval e X.env := by rfl) (hline : (apos.endLine == cpos.line) = true := by rfl) :
    PI X (.Tuple elts kk tpos) (.Call (.Attribute e "items" apos) [] [] cpos) (iItems td) := by
  intro pins s σ H R I h
  refine wpAny_Call_method (T := "dict") (id := "dict.items") hbase rfl hline F.plainAttrs_dict F.slot_dict_items F.type_dict_items (thn (he pins s σ H _ I h) fun u s1 ⟨x, H1, I1, rx, d, o, kvs, ex, hd, q⟩ => ?_)
  subst ex
  obtain rfl : u = Value.ref d := rx
  obtain ⟨hs, hgd, hx, es, ep, vs, hdt, hsz, kv, hm⟩ := I1.frzK hd
  have hl : kvs.length = vs.length := Paired.length kv
  refine ⟨hm.dictOf.typeIs, hm.dictOf.mapOf.noDict, ?_⟩
  have I2 : Inv X pins σ H1 { s1 with heap := s1.heap.push { cls := .type "dict_items", data := .fields #[.ref d] } } := I1.kept (t' := s1.toks) fun b ob q => Heap.get?_push_of_some _ q
  have fin : wpAny (model X.prog X.w) X.A (pyIter (.ref s1.heap.objs.size)) (PIE X pins σ (.Tuple elts kk tpos) R) X.xe { s1 with heap := s1.heap.push { cls := .type "dict_items", data := .fields #[.ref d] } } := by
    refine wpAny_pyIter_items (d := d) (knd := mixKind X.prog X.w) ⟨_, Heap.get?_push_size _ rfl, rfl, rfl⟩ (hm.push _) (pi_one (tk := s1.toks) I2 _ (turn_items _ hdt) ⟨.none, .none, ?_⟩ q)
    rw [hl]
    exact Heap.get?_push_size _ rfl
  show wpAny _ _ (callWith cpos (.builtin "dict.items") [.ref d] [] []) _ X.xe s1
  exact method_meetsIn F.slot_dict_items F.entry_dict_items rfl (PySem.evalArgs_none ⟨rfl, hm.dictOf.typeIs, F.args_dict_items_1 _, _, meets_dict_items (mixKind X.prog X.w) d hs, ⟨vs, hm.dictOf⟩, fin⟩)
end
end L2
section 
namespace Bits
open PySem PyProof.Rows
end Bits
end 
section 
namespace TL
open PySem PySem.Builtin PySem.Builtin.Str PySem.StrLaws
end TL
end 
namespace L2
open PySem PySem.Spec PyProof.Rows
section
variable {X : Cx} {pins : List (Addr × Obj)} {σ : St} {H : Hp} {s : Shared} {Q : VK}
end
section
variable {X : Cx}
end
section
variable {X : Cx} {o e : Expr} {to te : TE}
end
end L2
namespace L2
open PySem PySem.Spec PyProof.Rows
section
variable {X : Cx}
end
end L2
namespace Att
open PySem PySem.W PySem.Calls PyProof.Rows
section
variable {prog : Program} {w : World} {A : Around} {E : Value → Shared → Prop} {s : Shared} {K : Frag}
end
end Att
namespace L2
open PySem PySem.Spec PyProof.Rows
theorem vals_ints : ∀ {vs : List Value} {ns : List Int}, IntsAre vs ns → Vals (ns.map V.int) vs
  | _, _, .nil => .nil
  | _, _, .cons n t h => .cons ⟨t, rfl⟩ (vals_ints h)
end L2
namespace L2
open PySem PySem.Spec PyProof.Rows
end L2
/- THE LAST THEOREM (shape; LID, My.* are yours):
   My.Adr: a structure of the addresses that your layer names (classes, functions); My.Txt K t: a structure (Prop) of the equations over K;
   My.txt_mk : {K} {implicit addresses ..} (e1 : nsIn K mainGlobals "law" = some (some (.ref f))) (e2 : K.lookup f = some ⟨oc, od, .func (fnOf "law" "law" params body scope dV kV doc pm an cdv ct), sl⟩) (e3 : codeIn K cdv "law" = true) .. : ∃ t, My.Txt K t
set_option maxRecDepth 100000 in
set_option maxHeartbeats 0 in
theorem PySem.Challenge.cw_LID_holds : PySem.Challenge.rw_LID.Holds := by
  w_on; o_law; k_head; (case hw => w_witness2)
  k_fill
  refine L2.walk_of (l := PySem.Challenge.rw_LID) (n := 63) (k := 40) (x := "script") (CX := fun w => ..) (sp := fun _ => My.sp_law) rfl (by decide) rfl ⟨rfl, by decide, by decide⟩ (fun w h Y => PySem.W.kIn_of Y) ?F ?S ?C
  case F =>
    intro w mg fa h KX G hmg
    have T : ∃ t, My.Txt (L2.KOf KX) t := by
      dsimp only [L2.KOf]                          -- K must stand as «<heap const> w.params» for k_is
      refine' My.txt_mk ?e1 ?e2 ?e3 ..
      (case e1 => PySem.W.k_is)                    -- in the order: a name -> its address -> its object -> its parts
      (case e2 => PySem.W.k_is)
      ..
    obtain ⟨t, T⟩ := T
    have e0 := hmg.symm.trans (PySem.W.mg_of KX G T.law)
    cases e0                                       -- fa is the law's own address
    exact ⟨_, fun s u => .of_eq rfl, fun base kb nb => My.law_fn T kb nb⟩     -- if «.of_eq rfl» comes too early: refine' ⟨_, ?b, fun base kb nb => My.law_fn T kb nb⟩; exact fun s u => .of_eq rfl
  case S => exact fun w H a ns hl hO hS => ..
  case C => exact ..
(the tactic k_is has no namespace: write k_is) -/
namespace L2
open PySem PySem.Spec PyProof.Rows
/-- the j-th statement of a class's body -/
def inClass (s : Stmt) (j : Nat) : Stmt := match s with
  | .ClassDef _ _ _ body _ _ _ _ _ _ _ => body.getD j (.Pass ⟨0, 0, 0, 0⟩)
  | _ => .Pass ⟨0, 0, 0, 0⟩
def defArgs (s : Stmt) : Arguments := match s with
  | .FunctionDef _ a _ _ _ _ _ _ _ _ => a
  | _ => { posonlyargs := [], args := [], vararg := none, kwonlyargs := [], kw_defaults := [], kwarg := none, defaults := [] }
def defBody (s : Stmt) : List Stmt := match s with
  | .FunctionDef _ _ b _ _ _ _ _ _ _ => b
  | _ => []
def defScope (s : Stmt) : Scope := match s with
  | .FunctionDef _ _ _ _ _ _ sc _ _ _ => sc
  | _ => { kind := .function, names := [], isGenerator := false, isCoroutine := false }
abbrev CX0 : CXT := fun _ _ _ _ _ _ => False
abbrev E0 : XK := fun _ _ _ => False
theorem pass0 {X : Cx} : Passes CX0 X E0 := fun _ _ _ _ _ _ _ h => h.elim
structure Fun (K : PySem.W.Frag) (x qual : Str) (st : Stmt) (f : Addr) (fd : FuncData) : Prop where
  ex : ∃ (oc : Value) (od : Option Addr) (kV doc pm : Value) (an : Option Addr) (cdv ct : Value) (osl : Array (Option Value)),
    fd = PySem.W.fnOf x qual (defArgs st) (defBody st) (defScope st) .none kV doc pm an cdv ct ∧ K.lookup f = some ⟨oc, od, .func fd, osl⟩ ∧ PySem.W.codeIn K cdv qual = true
  kp : PySem.W.keepIn K (.ref f) = true
section
variable {P : Program} {w : World} {K : PySem.W.Frag} {mg : Str → Option Value} {base : Heap}
/-- THE RULE for a def: its body as a term of rules, and the reading of that term -/
theorem Fun.ok {x qual : Str} {st : Stmt} {f : Addr} {fd : FuncData} {N ps : List Str} {k : Nat} {sp : Sp} (F : Fun K x qual st f fd) (S : FnScope N ps (defScope st)) (len : ∀ vs H Q E, sp vs H Q E → vs.length = ps.length)
    (hbody : ∀ (cdv : Value) (A : Around) (outer : List Env) (s : Shared) (H : Hp) (vs : List V) (Q : VK) (E : XK), Room k (A.deeper (envOfC qual (defScope st) s.heap.objs.size f cdv)) → sp vs H Q E →
      ∃ t, PSs (cxOf CX0 P w K mg base N qual (defScope st) f cdv A outer s H E).nox (defBody st) t ∧ t { nx := fun _ H' => Q .non H', rt := Q } (start N vs) H) : FnOk P w K mg base CX0 (k + 1) f fd ps sp := by
  obtain ⟨oc, od, kV, doc, pm, an, cdv, ct, osl, rfl, lk, hcd⟩ := F.ex
  refine fn_of lk hcd S len fun A outer s H vs Q E hr hsp => ?_
  obtain ⟨t, h, q⟩ := hbody cdv A outer s H vs Q E hr hsp
  exact ⟨t, h.nox, q⟩
/-- how its arguments bind (no defaults): h is «fun _ _ _ _ _ _ us hl => match us, hl with | [_, _], _ => rfl», one _ a parameter -/
theorem Fun.binds {x qual : Str} {st : Stmt} {f : Addr} {fd : FuncData} {ps : List Str} (F : Fun K x qual st f fd)
    (h : ∀ (kV doc pm : Value) (an : Option Addr) (cdv ct : Value) (us : List Value), us.length = ps.length → bindArgs (PySem.W.fnOf x qual (defArgs st) (defBody st) (defScope st) .none kV doc pm an cdv ct) ⟨us, []⟩ = pure (ps.zip us)) : Binds K fd ps [] := by
  obtain ⟨oc, od, kV, doc, pm, an, cdv, ct, osl, rfl, lk, hcd⟩ := F.ex
  exact .all (h kV doc pm an cdv ct)
theorem fun_mk {x qual : Str} {st : Stmt} {f : Addr} {oc : Value} {od an : Option Addr} {osl : Array (Option Value)} {kV doc pm cdv ct : Value} (l : K.lookup f = some ⟨oc, od, .func (PySem.W.fnOf x qual (defArgs st) (defBody st) (defScope st) .none kV doc pm an cdv ct), osl⟩)
    (c : PySem.W.codeIn K cdv qual = true) (k : PySem.W.keepIn K (.ref f) = true) : Fun K x qual st f (PySem.W.fnOf x qual (defArgs st) (defBody st) (defScope st) .none kV doc pm an cdv ct) := ⟨⟨oc, od, kV, doc, pm, an, cdv, ct, osl, rfl, l, c⟩, k⟩
end
theorem hu_of {A : Around} {k : Nat} (hr : Room k A) : A.units + 1 < cLine := Nat.lt_of_le_of_lt (Nat.add_le_add_left (by decide : 1 ≤ 64) _) hr.units
section
variable {X : Cx}
theorem pv (i : Nat) {x : Str} {pos : Pos} (hN : X.N[i]? = some x := by rfl) (hv : Vis X.env.scope x := by first | exact Or.inl rfl | exact Or.inr (Or.inl rfl) | exact Or.inr (Or.inr rfl)) (hd : (x == ("__debug__" : Str)) = false := by decide)
    (hcd : (x == ("__classdict__" : Str)) = false := by decide) : PE X (.Name x pos) (tVar i) := pe_var hN hv hd hcd
end
/-- all that was tracked is as it was -/
def Same (H H' : Hp) : Prop := ∀ b o, H b = some o → H' b = some o
theorem Same.refl (H : Hp) : Same H H := fun _ _ h => h
theorem Same.trans {H H1 H2 : Hp} (a : Same H H1) (b : Same H1 H2) : Same H H2 := fun c o h => b c o (a c o h)
theorem Same.free {H H' : Hp} (e : Same H H') {l : Addr} (h : H' l = Option.none) : H l = Option.none := by
  cases q : H l with
  | none => rfl
  | some o =>
    rw [e l o q] at h
    cases h
section
variable {κ : Type} [DecidableEq κ]
theorem valV_not {kvs : List (κ × V)} {k : κ} (h : valV kvs k = none) : ¬ k ∈ kvs.map (·.1) := by
  intro m
  obtain ⟨p, hp, e⟩ := List.mem_map.mp m
  have q : (kvs.any fun kv => decide (kv.1 = k)) = true := List.any_eq_true.mpr ⟨p, hp, decide_eq_true e⟩
  rw [valV_any, h] at q
  exact absurd q (by simp)
theorem valV_in {kvs : List (κ × V)} {k : κ} {v : V} (h : valV kvs k = some v) : k ∈ kvs.map (·.1) := by
  have q : (kvs.any fun kv => decide (kv.1 = k)) = true := by
    rw [valV_any, h]
    all_goals rfl
  obtain ⟨p, hp, e⟩ := List.any_eq_true.mp q
  exact List.mem_map.mpr ⟨p, hp, of_decide_eq_true e⟩
theorem nd_snoc : ∀ {l : List κ} {k : κ}, l.Nodup → ¬ k ∈ l → (l ++ [k]).Nodup
  | [], k, _, _ => by simp
  | a :: r, k, h, hk => by
    obtain ⟨h1, h2⟩ := List.nodup_cons.mp h
    show (a :: (r ++ [k])).Nodup
    refine List.nodup_cons.mpr ⟨fun m => ?_, nd_snoc h2 fun m => hk (List.mem_cons.mpr (Or.inr m))⟩
    rcases List.mem_append.mp m with q | q
    · exact h1 q
    · exact hk (List.mem_cons.mpr (Or.inl (List.mem_singleton.mp q).symm))
theorem nd_putK {kvs : List (κ × V)} {k : κ} (v : V) (hn : (kvs.map (·.1)).Nodup) (h : valV kvs k = none) : ((putK kvs k v).map (·.1)).Nodup := by
  rw [putK_new v h, List.map_append]
  exact nd_snoc hn (valV_not h)
theorem dropK_pos {p : κ × V} {r : List (κ × V)} {k : κ} (e : p.1 = k) : dropK (p :: r) k = dropK r k := by
  unfold dropK
  rw [List.filter_cons, if_neg (by simp [e])]
theorem dropK_neg {p : κ × V} {r : List (κ × V)} {k : κ} (e : ¬ p.1 = k) : dropK (p :: r) k = p :: dropK r k := by
  unfold dropK
  rw [List.filter_cons, if_pos (by simp [e])]
theorem dropK_mem {kvs : List (κ × V)} {k : κ} {p : κ × V} (h : p ∈ dropK kvs k) : p ∈ kvs := (List.mem_filter.mp h).1
theorem nd_dropK : ∀ {kvs : List (κ × V)} {k : κ}, (kvs.map (·.1)).Nodup → ((dropK kvs k).map (·.1)).Nodup
  | [], _, _ => List.nodup_nil
  | p :: r, k, h => by
    have h : (p.1 :: r.map (·.1)).Nodup := h
    obtain ⟨h1, h2⟩ := List.nodup_cons.mp h
    by_cases e : p.1 = k
    · rw [dropK_pos e]
      exact nd_dropK h2
    · rw [dropK_neg e]
      show (p.1 :: (dropK r k).map (·.1)).Nodup
      refine List.nodup_cons.mpr ⟨fun m => h1 ?_, nd_dropK h2⟩
      obtain ⟨q, hq, eq⟩ := List.mem_map.mp m
      exact List.mem_map.mpr ⟨q, dropK_mem hq, eq⟩
end
end L2



section
set_option Elab.async false
set_option linter.all false
set_option maxRecDepth 100000
set_option maxHeartbeats 2000000
namespace L2
open PySem PySem.Spec PyProof.Rows
open PySem.W (WData Codec OpenSpec Well WellAll ReadsW ReadsAllW)
mutual
/-- x stands for the datum d, lists and tuples all the way -/
inductive Dw (K : PySem.W.Frag) (H : Hp) : V → WData → Prop
  | non : Dw K H .non .none
  | bl (b : Bool) : Dw K H (.bl b) (.bool b)
  | int (i : Int) : Dw K H (.int i) (.int i)
  | str (x : Str) : Dw K H (.str x) (.str x)
  | byt (b : Array UInt8) : Dw K H (.byt b) (.bytes b.toList)
  | lst {a : Addr} {xs : List V} {ds : List WData} : SqL K H a xs → DwAll K H xs ds → Dw K H (.ref a) (.list ds)
  | tup {a : Addr} {xs : List V} {ds : List WData} : SqT K H a xs → DwAll K H xs ds → Dw K H (.ref a) (.tuple ds)
inductive DwAll (K : PySem.W.Frag) (H : Hp) : List V → List WData → Prop
  | nil : DwAll K H [] []
  | cons {v : V} {vs : List V} {d : WData} {ds : List WData} : Dw K H v d → DwAll K H vs ds → DwAll K H (v :: vs) (d :: ds)
end
theorem dw_ints {K : PySem.W.Frag} {H : Hp} : ∀ ns : List Int, DwAll K H (ns.map V.int) (ns.map WData.int)
  | [] => .nil
  | n :: r => .cons (.int n) (dw_ints r)
theorem ints_dw {K : PySem.W.Frag} {H : Hp} : ∀ (ns : List Int) (xs : List V), DwAll K H xs (ns.map WData.int) → xs = ns.map V.int
  | [], xs, h => by
    cases h
    rfl
  | n :: r, xs, h => by
    cases h with
    | cons h1 h2 =>
      cases h1
      rw [ints_dw r _ h2] <;> rfl
section
variable {P : Program} {w : World} {K : PySem.W.Frag} {H : Hp} {h : Heap} {R : PySem.W.WRecords} {cl : Str → Option Addr}
theorem sqL_at {a : Addr} {xs : List V} (hok : HOk P w H h) (KX : K.In h) (q : SqL K H a xs) : ∃ (its : List Value) (o : Obj) (n : Nat), Vals xs its ∧ h.get? a = some o ∧ o.cls = .type "list" ∧ o.data = .seq its.toArray n := by
  rcases q with q | ⟨o, its, n, e, hc, _, hd, _, hv⟩
  · obtain ⟨_, its, n, hv, e⟩ := (show ObjOk P w H h a (.lst xs) from q.ok hok)
    exact ⟨its, _, n, hv, e, rfl, rfl⟩
  · exact ⟨its.toList, o, n, hv, KX _ _ e, hc, by simp [hd]⟩
theorem sqT_at {a : Addr} {xs : List V} (hok : HOk P w H h) (KX : K.In h) (q : SqT K H a xs) : ∃ (its : List Value) (o : Obj) (n : Nat), Vals xs its ∧ h.get? a = some o ∧ o.cls = .type "tuple" ∧ o.data = .seq its.toArray n := by
  rcases q with q | ⟨o, its, n, e, hc, hd, _, hv⟩
  · obtain ⟨_, its, hv, o, e, hc, n, hd⟩ := (show ObjOk P w H h a (.tup xs) from q.ok hok)
    exact ⟨its, o, n, hv, e, hc, hd⟩
  · exact ⟨its.toList, o, n, hv, KX _ _ e, hc, by simp [hd]⟩
mutual
theorem Dw.reads (hok : HOk P w H h) (KX : K.In h) : ∀ (d : WData) (v : V) (u : Value), Dw K H v d → RelV v u → ∃ as, ReadsW R cl h u d as
  | .none, _, _, x, r => by
    cases x
    cases r
    exact ⟨_, ReadsW.none⟩
  | .bool b, _, _, x, r => by
    cases x
    cases r
    exact ⟨_, ReadsW.bool b⟩
  | .int i, _, _, x, r => by
    cases x
    obtain ⟨t, rfl⟩ := r
    exact ⟨_, ReadsW.int i t⟩
  | .str s, _, _, x, r => by
    cases x
    obtain ⟨t, rfl⟩ := r
    exact ⟨_, ReadsW.str s t⟩
  | .bytes b, _, _, x, r => by
    cases x
    obtain ⟨t, rfl⟩ := r
    exact ⟨_, ReadsW.bytes _ t⟩
  | .list ds, _, _, x, r => by
    cases x with
    | lst hs ha =>
      cases r
      obtain ⟨its, o, n, rv, ho, hc, hd⟩ := sqL_at hok KX hs
      obtain ⟨as, hr⟩ := Dw.readsAll hok KX ds _ its ha rv
      exact ⟨_, ReadsW.list ho hc hd hr⟩
  | .tuple ds, _, _, x, r => by
    cases x with
    | tup hs ha =>
      cases r
      obtain ⟨its, o, n, rv, ho, hc, hd⟩ := sqT_at hok KX hs
      obtain ⟨as, hr⟩ := Dw.readsAll hok KX ds _ its ha rv
      exact ⟨_, ReadsW.tuple ho hc hd hr⟩
  | .float _, _, _, x, _ => by cases x
  | .dict _, _, _, x, _ => by cases x
  | .bytearray _, _, _, x, _ => by cases x
  | .set _, _, _, x, _ => by cases x
  | .frozenset _, _, _, x, _ => by cases x
  | .obj _ _, _, _, x, _ => by cases x
theorem Dw.readsAll (hok : HOk P w H h) (KX : K.In h) : ∀ (ds : List WData) (vs : List V) (us : List Value), DwAll K H vs ds → Vals vs us → ∃ as, ReadsAllW R cl h us ds as
  | [], _, _, x, r => by
    cases x
    cases r
    exact ⟨_, ReadsAllW.nil⟩
  | d :: ds, _, _, x, r => by
    cases x with
    | cons h1 h2 =>
      cases r with
      | cons r1 r2 =>
        obtain ⟨as, q1⟩ := Dw.reads hok KX d _ _ h1 r1
        obtain ⟨bs, q2⟩ := Dw.readsAll hok KX ds _ _ h2 r2
        exact ⟨_, ReadsAllW.cons q1 q2⟩
end
end
mutual
/-- data that a codec tells -/
def plW : WData → Bool
  | .none => true
  | .bool _ => true
  | .int _ => true
  | .str _ => true
  | .bytes _ => true
  | .list xs => plWs xs
  | .tuple xs => plWs xs
  | _ => false
def plWs : List WData → Bool
  | [] => true
  | x :: r => plW x && plWs r
end
theorem plWs_map {α : Type} {f : α → WData} (h : ∀ a, plW (f a) = true) : ∀ l : List α, plWs (l.map f) = true
  | [] => rfl
  | x :: r => by
    show (plW (f x) && plWs (r.map f)) = true
    rw [h x, plWs_map h r] <;> rfl
theorem pl_enc : ∀ (c : Codec) (a : c.denote), plW (c.enc a) = true
  | .unit, _ => rfl
  | .bool, _ => rfl
  | .int _ _, _ => rfl
  | .nat _ _, _ => rfl
  | .u8, _ => rfl
  | .bytes _ _, _ => rfl
  | .text _ _ _ _, _ => rfl
  | .list _ _ c, a => plWs_map (fun x => pl_enc c x) a
  | .pair c d, a => by
    show (plW (c.enc a.1) && (plW (d.enc a.2) && true)) = true
    rw [pl_enc c a.1, pl_enc d a.2] <;> rfl
  | .triple c d e, a => by
    show (plW (c.enc a.1) && (plW (d.enc a.2.1) && (plW (e.enc a.2.2) && true))) = true
    rw [pl_enc c a.1, pl_enc d a.2.1, pl_enc e a.2.2] <;> rfl
  | .option c, none => rfl
  | .option c, some x => pl_enc c x
theorem pl_encAll : ∀ (cs : List Codec) (a : Codec.denoteAll cs), plWs (Codec.encAll cs a) = true
  | [], _ => rfl
  | c :: cs, a => by
    show (plW (c.enc a.1) && plWs (Codec.encAll cs a.2)) = true
    rw [pl_enc c a.1, pl_encAll cs a.2] <;> rfl
theorem weight_mem : ∀ {xs : List WData} {d : WData}, d ∈ xs → d.weight ≤ WData.weightAll xs
  | [], d, h => absurd h (by simp)
  | x :: r, d, h => by
    show d.weight ≤ x.weight + 1 + WData.weightAll r
    rcases List.mem_cons.mp h with e | m
    · rw [e]
      omega
    · have z := weight_mem m
      omega
def toV : Value → V
  | .none => .non
  | .bool b => .bl b
  | .int i _ => .int i
  | .str x _ => .str x
  | .bytes b _ => .byt b
  | .ref a => .ref a
  | _ => .non
/-- a value of the arguments, its objects among A -/
def OkU (A : List Addr) : Value → Prop
  | .none => True
  | .bool _ => True
  | .int _ _ => True
  | .str _ _ => True
  | .bytes _ _ => True
  | .ref a => a ∈ A
  | _ => False
theorem OkU.mono {A B : List Addr} (h : ∀ a ∈ A, a ∈ B) : ∀ {u : Value}, OkU A u → OkU B u := fun {u} x => by
  cases u with
  | ref a => exact h a x
  | none => trivial
  | bool b => trivial
  | int i t => trivial
  | str s t => trivial
  | bytes b t => trivial
  | _ => exact False.elim x
theorem relV_toV {A : List Addr} {u : Value} (x : OkU A u) : RelV (toV u) u := by
  cases u with
  | ref a => rfl
  | none => rfl
  | bool b => rfl
  | int i t => exact ⟨t, rfl⟩
  | str s t => exact ⟨t, rfl⟩
  | bytes b t => exact ⟨t, rfl⟩
  | _ => exact False.elim x
theorem vals_toV {A : List Addr} : ∀ {vs : List Value}, (∀ u ∈ vs, OkU A u) → Vals (vs.map toV) vs
  | [], _ => .nil
  | u :: r, h => .cons (relV_toV (h u (List.mem_cons_self ..))) (vals_toV fun x hx => h x (List.mem_cons_of_mem _ hx))
/-- an object of the arguments -/
def ArgOb (h : Heap) (A : List Addr) (a : Addr) : Prop := ∃ vs : List Value, vs.length ≤ sizeLine ∧ (∀ u ∈ vs, OkU A u) ∧
  (h.get? a = some { cls := .type "list", data := .seq vs.toArray } ∨ h.get? a = some { cls := .type "tuple", data := .seq vs.toArray })
theorem ArgOb.mono {h : Heap} {A B : List Addr} {a : Addr} (k : ∀ a ∈ A, a ∈ B) (x : ArgOb h A a) : ArgOb h B a := by
  obtain ⟨vs, h1, h2, h3⟩ := x
  exact ⟨vs, h1, fun u hu => (h2 u hu).mono k, h3⟩
theorem wellAll_len {P : Params} {h : Heap} : ∀ {vs : List Value} {ds : List WData}, WellAll P h vs ds → vs.length = ds.length
  | _, _, .nil => rfl
  | _, _, .cons _ b => by
    show _ + 1 = _ + 1
    rw [wellAll_len b]
theorem well_list {P : Params} {h : Heap} {v : Value} {ds : List WData} (x : Well P h v (.list ds)) : ∃ (a : Addr) (vs : List Value), v = .ref a ∧ h.get? a = some { cls := .type "list", data := .seq vs.toArray } ∧ WellAll P h vs ds := by
  cases x with
  | list ho hall => exact ⟨_, _, rfl, ho, hall⟩
theorem well_tuple {P : Params} {h : Heap} {v : Value} {ds : List WData} (x : Well P h v (.tuple ds)) : ∃ (a : Addr) (vs : List Value), v = .ref a ∧ h.get? a = some { cls := .type "tuple", data := .seq vs.toArray } ∧ WellAll P h vs ds := by
  cases x with
  | tuple ho hall => exact ⟨_, _, rfl, ho, hall⟩
theorem well_cons {P : Params} {h : Heap} {us : List Value} {d : WData} {ds : List WData} (x : WellAll P h us (d :: ds)) : ∃ (v : Value) (vs : List Value), us = v :: vs ∧ Well P h v d ∧ WellAll P h vs ds := by
  cases x with
  | cons a b => exact ⟨_, _, rfl, a, b⟩
theorem line_of {n : Nat} (h : n ≤ 1048576) : n ≤ sizeLine := Nat.le_trans h (by decide)
section
variable {P : Params} {h : Heap}
mutual
theorem area_one : ∀ (d : WData) (v : Value), Well P h v d → plW d = true → d.weight ≤ 1048576 → ∃ A : List Addr, OkU A v ∧ ∀ a ∈ A, ArgOb h A a
  | .none, _, x, _, _ => by
    cases x
    exact ⟨[], trivial, fun a m => absurd m (by simp)⟩
  | .bool b, _, x, _, _ => by
    cases x
    exact ⟨[], trivial, fun a m => absurd m (by simp)⟩
  | .int i, _, x, _, _ => by
    cases x
    exact ⟨[], trivial, fun a m => absurd m (by simp)⟩
  | .str s, _, x, _, _ => by
    cases x
    exact ⟨[], trivial, fun a m => absurd m (by simp)⟩
  | .bytes b, _, x, _, _ => by
    cases x
    exact ⟨[], trivial, fun a m => absurd m (by simp)⟩
  | .list ds, _, x, p, z => by
    obtain ⟨a, vs, rfl, ho, hall⟩ := well_list x
    have z2 : WData.weightAll ds ≤ 1048576 := z
    obtain ⟨A, h1, h2⟩ := area_all ds _ hall p fun d hd => Nat.le_trans (weight_mem hd) z2
    have k : ∀ b ∈ A, b ∈ a :: A := fun b hb => List.mem_cons_of_mem _ hb
    refine ⟨a :: A, List.mem_cons_self .., fun b hb => ?_⟩
    rcases List.mem_cons.mp hb with e | m
    · rw [e]
      exact ⟨vs, line_of (by rw [wellAll_len hall]; exact Nat.le_trans (PySem.W.length_le_weightAllW ds) z2), fun u hu => (h1 u hu).mono k, .inl ho⟩
    · exact (h2 b m).mono k
  | .tuple ds, _, x, p, z => by
    obtain ⟨a, vs, rfl, ho, hall⟩ := well_tuple x
    have z2 : WData.weightAll ds ≤ 1048576 := z
    obtain ⟨A, h1, h2⟩ := area_all ds _ hall p fun d hd => Nat.le_trans (weight_mem hd) z2
    have k : ∀ b ∈ A, b ∈ a :: A := fun b hb => List.mem_cons_of_mem _ hb
    refine ⟨a :: A, List.mem_cons_self .., fun b hb => ?_⟩
    rcases List.mem_cons.mp hb with e | m
    · rw [e]
      exact ⟨vs, line_of (by rw [wellAll_len hall]; exact Nat.le_trans (PySem.W.length_le_weightAllW ds) z2), fun u hu => (h1 u hu).mono k, .inr ho⟩
    · exact (h2 b m).mono k
  | .float _, _, _, p, _ => Bool.noConfusion (show false = true from p)
  | .dict _, _, _, p, _ => Bool.noConfusion (show false = true from p)
  | .bytearray _, _, _, p, _ => Bool.noConfusion (show false = true from p)
  | .set _, _, _, p, _ => Bool.noConfusion (show false = true from p)
  | .frozenset _, _, _, p, _ => Bool.noConfusion (show false = true from p)
  | .obj _ _, _, _, p, _ => Bool.noConfusion (show false = true from p)
theorem area_all : ∀ (ds : List WData) (vs : List Value), WellAll P h vs ds → plWs ds = true → (∀ d ∈ ds, d.weight ≤ 1048576) → ∃ A : List Addr, (∀ u ∈ vs, OkU A u) ∧ ∀ a ∈ A, ArgOb h A a
  | [], _, x, _, _ => by
    cases x
    exact ⟨[], fun u m => absurd m (by simp), fun a m => absurd m (by simp)⟩
  | d :: ds, _, x, p, z => by
    obtain ⟨v, vs, rfl, x1, x2⟩ := well_cons x
    have q : plW d = true ∧ plWs ds = true := Bool.and_eq_true_iff.mp p
    obtain ⟨A, a1, a2⟩ := area_one d v x1 q.1 (z d (List.mem_cons_self ..))
    obtain ⟨B, b1, b2⟩ := area_all ds vs x2 q.2 fun e he => z e (List.mem_cons_of_mem _ he)
    have kA : ∀ b ∈ A, b ∈ A ++ B := fun b hb => List.mem_append.mpr (.inl hb)
    have kB : ∀ b ∈ B, b ∈ A ++ B := fun b hb => List.mem_append.mpr (.inr hb)
    refine ⟨A ++ B, fun u hu => ?_, fun b hb => ?_⟩
    · rcases List.mem_cons.mp hu with e | m
      · rw [e]
        exact a1.mono kA
      · exact (b1 u m).mono kB
    · rcases List.mem_append.mp hb with m | m
      · exact (a2 b m).mono kA
      · exact (b2 b m).mono kB
end
end
/-- what is tracked of an argument's object -/
def hoOf (o : Obj) : Option HO := match o.data with
  | .seq vs _ => if (o.cls == Value.type "list") = true then some (.frz o (.lst (vs.toList.map toV))) else some (.frz o (.tup (vs.toList.map toV)))
  | _ => none
def argH (K : PySem.W.Frag) (h : Heap) (A : List Addr) : Hp := fun b => if b ∈ A then (if (K.lookup b).isNone = true then (h.get? b).bind hoOf else none) else none
/-- nothing is tracked but what is known to the object -/
def OnlyF (H : Hp) : Prop := ∀ b, H b = none ∨ ∃ o u, H b = some (.frz o u)
theorem hoOf_lst (vs : List Value) : hoOf { cls := .type "list", data := .seq vs.toArray } = some (.frz { cls := .type "list", data := .seq vs.toArray } (.lst (vs.map toV))) := by
  show (if (Value.type "list" == Value.type "list") = true then some (HO.frz { cls := .type "list", data := .seq vs.toArray } (.lst (vs.toArray.toList.map toV))) else some (HO.frz { cls := .type "list", data := .seq vs.toArray } (.tup (vs.toArray.toList.map toV)))) = _
  rw [if_pos (beq_self_eq_true _)]
theorem hoOf_tup (vs : List Value) : hoOf { cls := .type "tuple", data := .seq vs.toArray } = some (.frz { cls := .type "tuple", data := .seq vs.toArray } (.tup (vs.map toV))) := by
  show (if (Value.type "tuple" == Value.type "list") = true then some (HO.frz { cls := .type "tuple", data := .seq vs.toArray } (.lst (vs.toArray.toList.map toV))) else some (HO.frz { cls := .type "tuple", data := .seq vs.toArray } (.tup (vs.toArray.toList.map toV)))) = _
  rw [if_neg (by decide)]
section
variable {P : Program} {w : World} {K : PySem.W.Frag} {h : Heap} {A : List Addr}
theorem argH_at {b : Addr} {o : Obj} (hb : b ∈ A) (hk : K.lookup b = none) (e : h.get? b = some o) : argH K h A b = hoOf o := by
  unfold argH
  rw [if_pos hb, hk, if_pos (show (none : Option Obj).isNone = true from rfl), e] <;> rfl
theorem of_argH {b : Addr} {u : HO} (q : argH K h A b = some u) : b ∈ A ∧ K.lookup b = none := by
  unfold argH at q
  by_cases hb : b ∈ A
  · rw [if_pos hb] at q
    cases hk : K.lookup b with
    | none => exact ⟨hb, rfl⟩
    | some o =>
      rw [hk, if_neg (by simp)] at q
      cases q
  · rw [if_neg hb] at q
    cases q
/-- what stands tracked -/
theorem argH_is (ar : ∀ a ∈ A, ArgOb h A a) {b : Addr} {u : HO} (q : argH K h A b = some u) : K.lookup b = none ∧ ∃ vs : List Value, vs.length ≤ sizeLine ∧ (∀ u ∈ vs, OkU A u) ∧
    ((h.get? b = some { cls := .type "list", data := .seq vs.toArray } ∧ u = .frz { cls := .type "list", data := .seq vs.toArray } (.lst (vs.map toV))) ∨
     (h.get? b = some { cls := .type "tuple", data := .seq vs.toArray } ∧ u = .frz { cls := .type "tuple", data := .seq vs.toArray } (.tup (vs.map toV)))) := by
  obtain ⟨hb, hk⟩ := of_argH q
  obtain ⟨vs, h1, h2, h3⟩ := ar b hb
  refine ⟨hk, vs, h1, h2, ?_⟩
  rcases h3 with e | e
  · rw [argH_at hb hk e, hoOf_lst] at q
    exact .inl ⟨e, (Option.some.inj q).symm⟩
  · rw [argH_at hb hk e, hoOf_tup] at q
    exact .inr ⟨e, (Option.some.inj q).symm⟩
theorem argH_only (ar : ∀ a ∈ A, ArgOb h A a) : OnlyF (argH K h A) := fun b => by
  cases q : argH K h A b with
  | none => exact .inl rfl
  | some u =>
    obtain ⟨_, vs, _, _, ⟨_, e⟩ | ⟨_, e⟩⟩ := argH_is ar q
    · exact .inr ⟨_, _, by rw [e]⟩
    · exact .inr ⟨_, _, by rw [e]⟩
theorem argH_ok (ar : ∀ a ∈ A, ArgOb h A a) : HOk P w (argH K h A) h := fun b u q => by
  obtain ⟨_, vs, h1, h2, ⟨e, rfl⟩ | ⟨e, rfl⟩⟩ := argH_is ar q
  · exact ⟨e, by rw [List.length_map]; exact h1, vs, _, vals_toV h2, e⟩
  · exact ⟨e, by rw [List.length_map]; exact h1, vs, vals_toV h2, _, e, rfl, _, rfl⟩
theorem seq_inj {c c' : Value} {vs us : List Value} (e : (some { cls := c, data := .seq vs.toArray } : Option Obj) = some { cls := c', data := .seq us.toArray }) : c = c' ∧ vs = us := by
  have e1 := Option.some.inj e
  have e2 : c = c' := congrArg Obj.cls e1
  have e3 : Data.seq vs.toArray = Data.seq us.toArray := congrArg Obj.data e1
  injection e3 with e4
  refine ⟨e2, ?_⟩
  have e5 := congrArg Array.toList e4
  simpa using e5
/-- a list argument -/
theorem argL (KX : K.In h) (ar : ∀ a ∈ A, ArgOb h A a) {a : Addr} {vs : List Value} (ha : a ∈ A) (e : h.get? a = some { cls := .type "list", data := .seq vs.toArray }) : (∀ u ∈ vs, OkU A u) ∧ SqL K (argH K h A) a (vs.map toV) := by
  obtain ⟨us, h1, h2, h3⟩ := ar a ha
  have hu : us = vs := by
    rcases h3 with q | q
    · rw [e] at q
      exact (seq_inj q).2.symm
    · rw [e] at q
      exact absurd (Value.type.inj (seq_inj q).1) (by decide)
  subst hu
  refine ⟨h2, ?_⟩
  cases hk : K.lookup a with
  | none => exact .inl (.inr ⟨_, by rw [argH_at ha hk e, hoOf_lst]⟩)
  | some o =>
    have e2 := KX a o hk
    rw [e] at e2
    obtain rfl := Option.some.inj e2
    exact .inr ⟨_, us.toArray, _, hk, rfl, rfl, rfl, by rw [List.size_toArray]; exact h1, by simpa using vals_toV h2⟩
theorem argT (KX : K.In h) (ar : ∀ a ∈ A, ArgOb h A a) {a : Addr} {vs : List Value} (ha : a ∈ A) (e : h.get? a = some { cls := .type "tuple", data := .seq vs.toArray }) : (∀ u ∈ vs, OkU A u) ∧ SqT K (argH K h A) a (vs.map toV) := by
  obtain ⟨us, h1, h2, h3⟩ := ar a ha
  have hu : us = vs := by
    rcases h3 with q | q
    · rw [e] at q
      exact absurd (Value.type.inj (seq_inj q).1) (by decide)
    · rw [e] at q
      exact (seq_inj q).2.symm
  subst hu
  refine ⟨h2, ?_⟩
  cases hk : K.lookup a with
  | none => exact .inl (.inr ⟨_, by rw [argH_at ha hk e, hoOf_tup]⟩)
  | some o =>
    have e2 := KX a o hk
    rw [e] at e2
    obtain rfl := Option.some.inj e2
    exact .inr ⟨_, us.toArray, _, hk, rfl, rfl, by rw [List.size_toArray]; exact h1, by simpa using vals_toV h2⟩
mutual
theorem dw_one {Pm : Params} (KX : K.In h) (ar : ∀ a ∈ A, ArgOb h A a) : ∀ (d : WData) (v : Value), Well Pm h v d → plW d = true → OkU A v → Dw K (argH K h A) (toV v) d
  | .none, _, x, _, _ => by
    cases x
    exact .non
  | .bool b, _, x, _, _ => by
    cases x
    exact .bl b
  | .int i, _, x, _, _ => by
    cases x
    exact .int i
  | .str s, _, x, _, _ => by
    cases x
    exact .str s
  | .bytes b, _, x, _, _ => by
    cases x
    have z := Dw.byt (K := K) (H := argH K h A) b.toArray
    exact z
  | .list ds, _, x, p, hu => by
    obtain ⟨a, vs, rfl, ho, hall⟩ := well_list x
    obtain ⟨h2, hs⟩ := argL KX ar hu ho
    exact .lst hs (dw_all KX ar ds _ hall p h2)
  | .tuple ds, _, x, p, hu => by
    obtain ⟨a, vs, rfl, ho, hall⟩ := well_tuple x
    obtain ⟨h2, hs⟩ := argT KX ar hu ho
    exact .tup hs (dw_all KX ar ds _ hall p h2)
  | .float _, _, _, p, _ => Bool.noConfusion (show false = true from p)
  | .dict _, _, _, p, _ => Bool.noConfusion (show false = true from p)
  | .bytearray _, _, _, p, _ => Bool.noConfusion (show false = true from p)
  | .set _, _, _, p, _ => Bool.noConfusion (show false = true from p)
  | .frozenset _, _, _, p, _ => Bool.noConfusion (show false = true from p)
  | .obj _ _, _, _, p, _ => Bool.noConfusion (show false = true from p)
theorem dw_all {Pm : Params} (KX : K.In h) (ar : ∀ a ∈ A, ArgOb h A a) : ∀ (ds : List WData) (vs : List Value), WellAll Pm h vs ds → plWs ds = true → (∀ u ∈ vs, OkU A u) → DwAll K (argH K h A) (vs.map toV) ds
  | [], _, x, _, _ => by
    cases x
    exact .nil
  | d :: ds, _, x, p, hu => by
    obtain ⟨v, vs, rfl, x1, x2⟩ := well_cons x
    have q : plW d = true ∧ plWs ds = true := Bool.and_eq_true_iff.mp p
    exact .cons (dw_one KX ar d v x1 q.1 (hu _ (List.mem_cons_self ..))) (dw_all KX ar ds vs x2 q.2 fun u m => hu u (List.mem_cons_of_mem _ m))
end
end
theorem spec_call {P : Program} {w : World} {K : PySem.W.Frag} {mg mb : Str → Option Value} {CX : CXT} {k : Nat} {fa : Addr} {fd : FuncData} {ps : List Str} {sp : Sp} {s₁ : Shared} {vals : List Value} {ds : List WData} {R : PySem.W.WRecords} {cl : Str → Option Addr} {d0 : WData}
    (KX : K.In s₁.heap) (hns : s₁.heap.Ns mainGlobals mg) (hb : s₁.heap.Ns builtinsNs mb) (hbb : ∀ x : Str, x ≠ "__name__" → mb x = bootBuiltins x) (hlim : s₁.heap.NoLimit) (hg : s₁.gens = #[])
    (hwl : WellAll w.params s₁.heap vals ds) (hpl : plWs ds = true) (hwt : ∀ d ∈ ds, d.weight ≤ 1048576) (hr : Room k callerA)
    (F : ∀ base : Heap, K.In base → base.Ns mainGlobals mg → FnOk P w K mg base CX k fa fd ps sp) (hbind : ∀ (s : Shared) (us : List Value), us.length = ps.length → BindsTo s fd ⟨us, []⟩ (ps.zip us)) (hlen : ds.length = ps.length)
    (hsp : ∀ (H : Hp) (xs : List V), OnlyF H → DwAll K H xs ds → sp xs H (fun v H' => Dw K H' v d0) fun _ _ _ => False)
    (hCX : ∀ H e s', CX [] H s₁ (fun _ _ _ => False) e s' → False) :
    codeAny (model P w) callerA (.call (.ref fa) ⟨vals, []⟩) (fun r s' => ∃ u as, r = .ok (.ret u) ∧ ReadsW R cl s'.heap u d0 as ∧ OldK s₁.heap s'.heap ∧ s'.os = s₁.os ∧ AllBare s'.gens) s₁ := by
  obtain ⟨A, ho, ar⟩ := area_all ds vals hwl hpl hwt
  have hO : OnlyF (argH K s₁.heap A) := argH_only ar
  have hok : HOk P w (argH K s₁.heap A) s₁.heap := argH_ok ar
  have hS := dw_all KX ar ds vals hwl hpl ho
  have hV := vals_toV ho
  have hK : ∀ b u, argH K s₁.heap A b = some u → K.lookup b = none := fun b u q => (argH_is ar q).1
  have noA : ∀ {b : Addr} {o : Obj} {es : Array DictEntry} {ep : Nat}, s₁.heap.get? b = some o → o.data = .dict es ep → argH K s₁.heap A b = none := fun {b o es ep} e d => by
    cases q : argH K s₁.heap A b with
    | none => rfl
    | some u =>
      obtain ⟨_, vs, _, _, ⟨e2, _⟩ | ⟨e2, _⟩⟩ := argH_is ar q
      · rw [e2] at e
        cases e
        have d' : Data.seq vs.toArray _ = Data.dict es ep := d
        cases d'
      · rw [e2] at e
        cases e
        have d' : Data.seq vs.toArray _ = Data.dict es ep := d
        cases d'
  generalize argH K s₁.heap A = H at hO hok hS hK noA
  have base_of : ∀ {b : Addr} {o : Obj}, s₁.heap.get? b = some o → H b = none → (hidT s₁.heap H).get? b = some o := fun e n => hidT_get e n
  have nsK : ∀ {b : Addr} {m : Str → Option Value}, s₁.heap.Ns b m → (hidT s₁.heap H).Ns b m := fun {b m} ⟨o, es, ep, e, d, r⟩ => ⟨o, es, ep, base_of e (noA e d), d, r⟩
  have nK : ∀ b o, K.lookup b = some o → H b = none := fun b o e => by
    cases q : H b with
    | none => rfl
    | some u =>
      rw [hK b u q] at e
      cases e
  have hKb : K.In (hidT s₁.heap H) := fun b o e => base_of (KX b o e) (nK b o e)
  have hM : Mod K mg (hidT s₁.heap H) := ⟨hKb, nsK hns, ⟨mb, nsK hb, hbb⟩, let ⟨mc, h1, h2⟩ := hlim; ⟨mc, nsK h1, h2⟩⟩
  have e0 : Env0 P w K mg (hidT s₁.heap H) callerA [] s₁ H := ⟨rfl, hM, fun b o e => of_hidT e, Nat.le_of_eq (hidT_size _ _), trivial, fun b hb => absurd (show b ∈ ([] : List Addr) from hb) (by simp), hok, .of_eq hg⟩
  have hl : vals.length = ps.length := by rw [wellAll_len hwl]; exact hlen
  refine codeAny_mono ((F _ hKb (nsK hns)).run callerA [] s₁ H ⟨vals, []⟩ vals (vals.map toV) _ _ hr e0 (hbind s₁ vals hl) hV (hsp H _ hO hS)) fun r s' x => ?_
  cases r with
  | error e => exact (hCX H e s' x).elim
  | ok fl =>
    cases fl with
    | next => exact False.elim x
    | brk => exact False.elim x
    | cont => exact False.elim x
    | ret u =>
      obtain ⟨v, H', os, bare, un, hok', r', q⟩ := x
      have kept : ∀ b o, s₁.heap.get? b = some o → s'.heap.get? b = some o := fun b o e => by
        cases q2 : H b with
        | none => exact un.keep b o e q2 (by intro z; exact absurd (show b ∈ ([] : List Addr) from z) (by simp)) (by simp)
        | some u2 =>
          rcases hO b with z | ⟨ob, u3, z⟩
          · rw [q2] at z
            cases z
          · have z2 := un.frzs b ob _ z
            obtain ⟨e1, _⟩ := hok b _ z
            obtain ⟨e2, _⟩ := hok' b _ z2
            rw [e] at e1
            cases e1
            exact e2
      have KX' : K.In s'.heap := fun b o e => kept b o (KX b o e)
      obtain ⟨as, hrd⟩ := Dw.reads (R := R) (cl := cl) hok' KX' d0 v u q r'
      exact ⟨u, as, rfl, hrd, OldK.of_keep kept, os, bare⟩
theorem layable_weight {ds : List WData} (h : WData.layableAll ds = true) : ∀ d ∈ ds, d.weight ≤ 1048576 := fun d hd =>
  (PySem.W.layableW_iff.mp (List.all_eq_true.mp h d hd)).2.2
theorem encAll_len : ∀ (cs : List Codec) (a : Codec.denoteAll cs), (Codec.encAll cs a).length = cs.length
  | [], _ => rfl
  | c :: cs, a => by
    show (Codec.encAll cs a.2).length + 1 = cs.length + 1
    rw [encAll_len cs a.2]
/-- the goal that k_headS leaves (case hc), from the promise of the row's def: whatever the arguments that the codecs let and the row asks for, the def gives what stands for enc (f ..) -/
theorem walk_spec {r : OpenSpec} {k : Nat} {q : Program} {loose : List Str} {XP : (Str → Option Value) → Heap → Prop} {YP : World → Heap → Prop} {d : DefRec} {K : Params → PySem.W.Frag} {CX : World → CXT} {ps : List Str} {sp : World → Sp}
    (hwell : r.wellSaid = true) (hdf : d.params.defaults = []) (hlen : r.args.length = ps.length) (hr : Room k callerA)
    (hY : ∀ (w : World) (h : Heap), YP w h → (K w.params).In h)
    (F : ∀ (w : World) (mg : Str → Option Value) (fa : Addr) (h : Heap), YP w h → (K w.params).In h → h.Ns mainGlobals mg → mg d.name = some (.ref fa) →
      ∃ fd : FuncData, (∀ (s : Shared) (us : List Value), us.length = ps.length → BindsTo s fd ⟨us, []⟩ (ps.zip us)) ∧
        ∀ base : Heap, (K w.params).In base → base.Ns mainGlobals mg → FnOk r.prog w (K w.params) mg base (CX w) k fa fd ps (sp w))
    (hsp : ∀ (w : World) (H : Hp) (xs : List V) (a : Codec.denoteAll r.args), OnlyF H → Codec.withinAll r.args a = true → Codec.app r.args r.asked a = true → DwAll (K w.params) H xs (Codec.encAll r.args a) →
      sp w xs H (fun v H' => Dw (K w.params) H' v (r.ret.enc (Codec.app r.args r.f a))) fun _ _ _ => False)
    (hCX : ∀ (w : World) (H : Hp) (s : Shared) (e : Value) (s' : Shared), CX w [] H s (fun _ _ _ => False) e s' → False) :
    PySem.W.WalkOS q loose XP YP r d [] (fun f vs => PySem.call f vs) := by
  intro w s_0 s₁ mg mb G Y fa o pm cd doc dV kV ho hd hcd hD hmg hg args vals as hpre hlay hrd hwl hlo
  obtain ⟨a, e1, e2⟩ := PySem.W.os_pre_some hpre
  obtain ⟨e3, hwi⟩ := Codec.encAll_of_decAll r.args args a e1
  subst e3
  have KX := hY w _ Y
  obtain ⟨fd, hb, hF⟩ := F w mg fa _ Y KX G.T.g hmg
  refine PySem.W.enter_call (codeAny_mono (spec_call (R := []) (cl := classAt s_0.heap) (d0 := r.ret.enc (Codec.app r.args r.f a)) KX G.T.g G.T.b G.T.builtins G.T.nolimit hg hwl (pl_encAll _ _) (layable_weight hlay) hr hF hb (by rw [encAll_len]; exact hlen)
    (fun H xs hO hS => hsp w H xs a hO hwi e2 hS) fun H e s' => hCX w H s₁ e s') fun r' s' hq => ?_)
  obtain ⟨u, as', rfl, h1, h2, h3, h4⟩ := hq
  exact ⟨.inl ⟨u, _, as', rfl, fun _ => rfl, h1, (OpenSpec.post_iff hwell hwi _ _).mpr rfl, fun z => Bool.noConfusion (show false = true from z)⟩, h2, h3, h4⟩
/-- the same where the promise hangs on the written part alone -/
theorem walk_specK {r : OpenSpec} {k : Nat} {q : Program} {loose : List Str} {XP : (Str → Option Value) → Heap → Prop} {YP : World → Heap → Prop} {d : DefRec} {K : Params → PySem.W.Frag} {CX : CXT} {ps : List Str} {sp : PySem.W.Frag → Sp}
    (hwell : r.wellSaid = true) (hdf : d.params.defaults = []) (hlen : r.args.length = ps.length) (hr : Room k callerA)
    (hY : ∀ (w : World) (h : Heap), YP w h → (K w.params).In h)
    (F : ∀ (w : World) (mg : Str → Option Value) (fa : Addr) (h : Heap), YP w h → (K w.params).In h → h.Ns mainGlobals mg → mg d.name = some (.ref fa) →
      ∃ fd : FuncData, (∀ (s : Shared) (us : List Value), us.length = ps.length → BindsTo s fd ⟨us, []⟩ (ps.zip us)) ∧
        ∀ base : Heap, (K w.params).In base → base.Ns mainGlobals mg → FnOk r.prog w (K w.params) mg base CX k fa fd ps (sp (K w.params)))
    (hsp : ∀ (K : PySem.W.Frag) (H : Hp) (xs : List V) (a : Codec.denoteAll r.args), OnlyF H → Codec.withinAll r.args a = true → Codec.app r.args r.asked a = true → DwAll K H xs (Codec.encAll r.args a) →
      sp K xs H (fun v H' => Dw K H' v (r.ret.enc (Codec.app r.args r.f a))) fun _ _ _ => False)
    (hCX : ∀ (H : Hp) (s : Shared) (e : Value) (s' : Shared), CX [] H s (fun _ _ _ => False) e s' → False) :
    PySem.W.WalkOS q loose XP YP r d [] (fun f vs => PySem.call f vs) :=
  walk_spec (K := K) (CX := fun _ => CX) (sp := fun w => sp (K w.params)) hwell hdf hlen hr hY F (fun w H xs a h1 h2 h3 h4 => hsp (K w.params) H xs a h1 h2 h3 h4) fun _ H s e s' => hCX H s e s'
end L2
-- rests on (row put in by the clerk, for the bench that shows a file only what it spells): KE.SpHead KE.OsShapes
end



set_option Elab.async false
set_option linter.all false
set_option maxRecDepth 100000
namespace Sm
open PySem PySem.Spec PyProof.Rows L2
theorem scal_ii (i j : Int) : scal (.int i) (.int j) = true := rfl
theorem scal_bb (i j : Bool) : scal (.bl i) (.bl j) = true := rfl
theorem cxK {CX : CXT} {P : Program} {w : World} {K : PySem.W.Frag} {mg : Str → Option Value} {base : Heap} {N : List Str} {qual : Str} {scope : Scope} {f : Addr} {cdv : Value} {A : Around} {outer : List Env} {s : Shared} {H : Hp} {E : XK} :
    (cxOf CX P w K mg base N qual scope f cdv A outer s H E).K = K := rfl
theorem kV_inl (i : Int) : kV (Sum.inl i) = V.int i := rfl
theorem pe_gi {X : Cx} {x : Str} {n : Int} {t : Tok} {pos : Pos} (hg : Gl X x) (hm : X.mg x = some (.int n t)) (hd : (x == ("__debug__" : Str)) = false := by decide) : PE X (.Name x pos) (tC (.int n)) := pe_glob hg hm ⟨t, rfl⟩ hd
theorem pe_gr {X : Cx} {x : Str} {a : Addr} {pos : Pos} (hg : Gl X x) (hm : X.mg x = some (.ref a)) (hd : (x == ("__debug__" : Str)) = false := by decide) : PE X (.Name x pos) (tC (.ref a)) := pe_glob hg hm (show RelV (.ref a) (.ref a) from rfl) hd
def tCut (t : TE) : TE := fun σ H Q => ∃ R : VK, t σ H R ∧ ∀ v H', R v H' → Q v H'
theorem pe_cut {X : Cx} {e : Expr} {t : TE} (h : PE X e t) : PE X e (tCut t) := fun pins s σ H Q I ⟨R, h1, h2⟩ => thn (h pins s σ H R I h1) fun u s' ⟨v, H', I', r, q⟩ => ⟨v, H', I', r, h2 v H' q⟩
def tCutS (t : TS) : TS := fun D σ H => ∃ N : L2.St → Hp → Prop, t { D with nx := N } σ H ∧ ∀ σ' H', N σ' H' → D.nx σ' H'
theorem ps_cut {X : Cx} {st : Stmt} {t : TS} (h : PS X st t) : PS X st (tCutS t) := fun pins s σ H D I ⟨N, h1, h2⟩ => thn (h pins s σ H { D with nx := N } I h1) fun f s' q => by
  cases f with
  | next => obtain ⟨σ', H', I', q⟩ := q; exact ⟨σ', H', I', h2 _ _ q⟩
  | brk => exact q
  | cont => exact q
  | ret u => exact q
theorem for_items {d : Addr} {o : Obj} {kvs : List (Key × V)} {g : TG} {tb : TS} {D : Ends} {σ : L2.St} {H : Hp} (Pv : Nat → L2.St → Hp → Prop) (h0 : Pv 0 σ H) (hl : ∀ i σ H, i ≤ kvs.length → Pv i σ H → H d = some (.frz o (.dK kvs)))
    (hs : ∀ i k v T σ H, kvs[i]? = some (k, v) → Pv i σ H → H T = none → g (.ref T) σ (upd H T (.tup [kV k, v])) fun σ2 H2 => tb { D with nx := Pv (i + 1), ct := Pv (i + 1), bk := D.nx } σ2 H2) (hd : ∀ σ H, Pv kvs.length σ H → D.nx σ H) :
    ∃ W : Nat → Nat → L2.St → Hp → Prop, (∃ m, W 0 m σ H) ∧ ∀ i m σ H, W i m σ H →
      ((Iti d o kvs).stop i H ∧ D.nx σ H) ∨ ((Iti d o kvs).go i H ∧ ∃ N : L2.St → Hp → Prop, (∀ σ' H', N σ' H' → ∃ m', m' < m ∧ W (i + 1) m' σ' H') ∧ ∀ x H', (Iti d o kvs).yld i H x H' → g x σ H' fun σ2 H2 => tb { D with nx := N, ct := N, bk := D.nx } σ2 H2) := by
  refine ⟨fun i m σ H => m = kvs.length - i ∧ i ≤ kvs.length ∧ Pv i σ H, ⟨kvs.length, by simp, Nat.zero_le _, h0⟩, ?_⟩
  rintro i m σ H ⟨rfl, hi, p⟩
  have q := hl i σ H hi p
  by_cases hlt : i < kvs.length
  · refine .inr ⟨⟨q, hlt⟩, Pv (i + 1), fun σ' H' p' => ⟨kvs.length - (i + 1), by omega, rfl, hlt, p'⟩, fun x H' y => ?_⟩
    obtain ⟨T, k, v, e, ex, hT, e'⟩ := y
    subst ex e'
    exact hs i k v T σ H e p hT
  · have e : i = kvs.length := by omega
    subst e
    exact .inl ⟨⟨q, Nat.le_refl _⟩, hd σ H p⟩
theorem for_vals {d : Addr} {o : Obj} {kvs : List (Key × V)} {g : TG} {tb : TS} {D : Ends} {σ : L2.St} {H : Hp} (Pv : Nat → L2.St → Hp → Prop) (h0 : Pv 0 σ H) (hl : ∀ i σ H, i ≤ kvs.length → Pv i σ H → H d = some (.frz o (.dK kvs)))
    (hs : ∀ i k v σ H, kvs[i]? = some (k, v) → Pv i σ H → g v σ H fun σ2 H2 => tb { D with nx := Pv (i + 1), ct := Pv (i + 1), bk := D.nx } σ2 H2) (hd : ∀ σ H, Pv kvs.length σ H → D.nx σ H) :
    ∃ W : Nat → Nat → L2.St → Hp → Prop, (∃ m, W 0 m σ H) ∧ ∀ i m σ H, W i m σ H →
      ((Itd d o kvs).stop i H ∧ D.nx σ H) ∨ ((Itd d o kvs).go i H ∧ ∃ N : L2.St → Hp → Prop, (∀ σ' H', N σ' H' → ∃ m', m' < m ∧ W (i + 1) m' σ' H') ∧ ∀ x H', (Itd d o kvs).yld i H x H' → g x σ H' fun σ2 H2 => tb { D with nx := N, ct := N, bk := D.nx } σ2 H2) := by
  refine ⟨fun i m σ H => m = kvs.length - i ∧ i ≤ kvs.length ∧ Pv i σ H, ⟨kvs.length, by simp, Nat.zero_le _, h0⟩, ?_⟩
  rintro i m σ H ⟨rfl, hi, p⟩
  have q := hl i σ H hi p
  by_cases hlt : i < kvs.length
  · refine .inr ⟨⟨q, hlt⟩, Pv (i + 1), fun σ' H' p' => ⟨kvs.length - (i + 1), by omega, rfl, hlt, p'⟩, fun x H' y => ?_⟩
    obtain ⟨e', k, e⟩ := y
    subst e'
    exact hs i k x σ _ e p
  · have e : i = kvs.length := by omega
    subst e
    exact .inl ⟨⟨q, Nat.le_refl _⟩, hd σ H p⟩
def rEqP (K : PySem.W.Frag) : R2 := fun x y H Q => ∃ p q a b c d, x = .ref p ∧ y = .ref q ∧ SqT K H p [.int a, .int b] ∧ SqT K H q [.int c, .int d] ∧ Q (.bl (decide (a = c ∧ b = d))) H
theorem op_eqP {X : Cx} (hu : X.A.units + 64 < cLine) : OpR X (compareOp .Eq) (rEqP X.K) := by
  intro pins s σ H x y v u Q I rx ry h
  obtain ⟨p, q, a, b, c, d, rfl, rfl, hp, hq, hQ⟩ := h
  refine op_eqD hu pins s σ H _ _ v u Q I rx ry ⟨.tuple [.int a, .int b], .tuple [.int c, .int d], .tup hp (.cons (.int _) (.cons (.int _) .nil)), .tup hq (.cons (.int _) (.cons (.int _) .nil)), ?_, ?_, ?_⟩
  · show (true && true) = true; rfl
  · show (true && true) = true; rfl
  · have e : PyData.eqv (.tuple [.int a, .int b]) (.tuple [.int c, .int d]) = decide (a = c ∧ b = d) := by
      simp only [PyData.eqv, PyData.eqvAll, Bool.and_true]
      by_cases h1 : a = c <;> by_cases h2 : b = d <;> simp [h1, h2]
    rw [e]; exact hQ
/-- all but what stands at d is as it was -/
def But (d : Addr) (H H' : Hp) : Prop := ∀ b o, H b = some o → b ≠ d → H' b = some o
theorem SqT.but {K : PySem.W.Frag} {d : Addr} {H H' : Hp} {p : Addr} {xs : List V} (e : But d H H') (hd : ∀ ys o, H d ≠ some (.tup ys) ∧ H d ≠ some (.frz o (.tup ys))) (h : SqT K H p xs) : SqT K H' p xs := by
  rcases h with (h | ⟨o, h⟩) | h
  · exact .inl (.inl (e _ _ h fun q => (hd xs default).1 (q ▸ h)))
  · exact .inl (.inr ⟨o, e _ _ h fun q => (hd xs o).2 (q ▸ h)⟩)
  · exact .inr h
theorem Same.tup {K : PySem.W.Frag} {H H' : Hp} {a : Addr} {xs : List V} (e : Same H H') (h : SqT K H a xs) : SqT K H' a xs := by
  rcases h with (h | ⟨o, h⟩) | h
  · exact .inl (.inl (e _ _ h))
  · exact .inl (.inr ⟨o, e _ _ h⟩)
  · exact .inr h
end Sm



set_option Elab.async false
set_option linter.all false
set_option maxRecDepth 100000
namespace Sm
open PySem PySem.Spec PyProof.Rows L2
theorem ints_at : ∀ {vs : List Value} {ns : List Int}, vs.length = ns.length → (∀ (j : Nat) (v : Value), vs[j]? = some v → ∃ n t, ns[j]? = some n ∧ v = Value.int n t) → IntsAre vs ns
  | [], [], _, _ => .nil
  | [], _ :: _, h, _ => by simp at h
  | _ :: _, [], h, _ => by simp at h
  | v :: vs, n :: ns, h, k => by
    obtain ⟨n', t, e1, e2⟩ := k 0 v rfl
    cases e1
    subst e2
    exact .cons n t (ints_at (by simpa using h) fun j u hu => k (j + 1) u hu)
def rSortedD : List V → Hp → VK → Prop := fun vs H Q => ∃ (a : Addr) (kvs : List (Key × V)) (ns : List Int), vs = [V.ref a] ∧ H a = some (.dK kvs) ∧ kvs.map (·.1) = ns.map Sum.inl ∧
  ∀ (ns' : List Int) (p : Addr), ns'.Perm ns → ns'.Pairwise (· ≤ ·) → H p = none → Q (.ref p) (upd H p (.lst (ns'.map V.int)))
theorem cr_sortedD {X : Cx} (hc : X.calm = true) : CallR X (.builtin "sorted") rSortedD := by
  intro pins s σ H vs us Q I r h
  obtain ⟨a, kvs, ns, rfl, ha, hk, q⟩ := h
  obtain ⟨z, lo, ps, rel, hd⟩ := dk_of I.hok ha
  obtain ⟨ep, hat⟩ := hd.dictAt
  rw [Vals.ref1 r]
  have hkl : ps.length = ns.length := by
    have := congrArg List.length hk
    rw [List.length_map, List.length_map] at this
    rw [← rel.length]; exact this
  have hz : ps.length ≤ sizeLine := by rw [← rel.length]; exact z
  refine Calls.call_function_entry kind_sorted plain_sorted entry_sorted (args_sorted1 _) ?_
  unfold Builtin.«sorted»
  refine wpAny_bind (m := checkCount "sorted" 1 1 _) (wpAny_pure ?_)
  refine wpAny_bind (PySem.W.kdu_collect (A := X.A.in1) (PySem.W.kdl_dict (knd := mixKind X.prog X.w) (kvs := ps) (ep := ep) lo) (I.ok.hd hc) hat hz fun h' tk acc hk' hacc => ?_)
  have hl : acc.toList.length = ns.length := by rw [Array.length_toList]; exact hacc.1.trans hkl
  have hi : IntsAre acc.toList ns := ints_at hl fun j v e => by
    obtain ⟨k, x, e1, e2⟩ := hacc.2 j v (by rw [← Array.getElem?_toList]; exact e)
    have e3 : (ps.map (·.1))[j]? = some k := by rw [List.getElem?_map, e1]; rfl
    rw [← rel.keys, hk, List.getElem?_map] at e3
    obtain ⟨n, e4, e5⟩ := Option.map_eq_some_iff.mp e3
    subst e5
    obtain ⟨t, e6⟩ := Value.isInt_shape (k := n) (v := v) e2
    exact ⟨n, t, e4, e6⟩
  have hL : acc.toList.length ≤ sizeLine := by rw [hl, ← hkl]; exact hz
  have I1 : Inv X pins σ H { s with heap := h', toks := tk } := I.kept hk'
  refine wpAny_bind (wpAny_newList ?_ hL)
  have hoL : (h'.push (seqObj "list" acc.toList.toArray 0)).get? h'.objs.size = some (seqObj "list" acc.toList.toArray 0) := Heap.get?_push_size _ rfl
  refine wpAny_bind (wpAny_holding (wpAny_call_entry slot_list_sort ⟨_, hoL, rfl⟩ entry_list_sort (list_sort_treeAny hoL hi hL fun out ns' a1 a2 a3 => ⟨_, rfl, ?_⟩) (args_list_sort _)))
  refine wpAny_pure ⟨_, rfl, ?_⟩
  obtain ⟨e, he'⟩ := sortedHeap_at (vs := acc.toList) (out := out) hoL
  have hlen : (ns'.map V.int).length ≤ sizeLine := by rw [List.length_map, a2.length_eq, ← hkl]; exact hz
  refine ⟨.ref h'.objs.size, upd H h'.objs.size (.lst (ns'.map V.int)), I1.laid (t' := tk) (fun b u hb => ?_) (Nat.le_refl _) ⟨hlen, out.toList, e, vals_of_ints a1, he'⟩, rfl, q ns' _ a2 a3 (I1.hok.fresh (Nat.le_refl _))⟩
  have hlt : b < h'.objs.size := Heap.lt_size hb
  rw [sortedHeap_old (Nat.ne_of_lt hlt) (by rw [size_push']; exact Nat.lt_succ_of_lt hlt)]
  exact Heap.get?_push_of_some _ hb
def every2 {α : Type} : List α → List α
  | a :: _ :: r => a :: every2 r
  | [a] => [a]
  | [] => []
theorem every2_len {α : Type} : ∀ l : List α, (every2 l).length ≤ l.length
  | _ :: _ :: r => by have := every2_len r; simp only [every2, List.length_cons]; omega
  | [_] => Nat.le_refl _
  | [] => Nat.le_refl _
theorem pick2 {α : Type} : ∀ l : List α, (List.range ((l.length + 1) / 2)).filterMap (fun k => l[2 * k]?) = every2 l
  | a :: b :: r => by
    have e : ((a :: b :: r).length + 1) / 2 = (r.length + 1) / 2 + 1 := by simp only [List.length_cons]; omega
    have h := pick2 r
    rw [e, List.range_succ_eq_map, List.filterMap_cons]
    simp only [Nat.mul_zero, List.getElem?_cons_zero, every2]
    rw [List.filterMap_map]
    refine congrArg (a :: ·) (Eq.trans ?_ h)
    congr 1
  | [a] => by simp [every2, List.range_succ]
  | [] => by simp [every2]
theorem fm_congr {α β : Type} {f g : α → Option β} : ∀ {l : List α}, (∀ x ∈ l, f x = g x) → l.filterMap f = l.filterMap g
  | [], _ => rfl
  | a :: l, h => by rw [List.filterMap_cons, List.filterMap_cons, h a (List.mem_cons_self ..), fm_congr fun x hx => h x (List.mem_cons_of_mem _ hx)]
theorem vals_every2 : ∀ {xs : List V} {us : List Value}, Vals xs us → Vals (every2 xs) (every2 us)
  | _, _, .nil => .nil
  | _, _, .cons h .nil => .cons h .nil
  | _, _, .cons h (.cons _ t) => .cons h (vals_every2 t)
theorem slicePick2 (its : List Value) (i : Nat) : slicePick its.toArray (some (i : Int)) none (some 2) = (every2 (its.drop i)).toArray := by
  have hb : sliceBounds (some (i : Int)) none (some 2) its.length = (((min i its.length : Nat) : Int), (its.length : Int), 2) := by
    simp only [sliceBounds, Option.getD_some, show (2 : Int) > 0 by decide, if_true]
    have h1 : ¬ (i : Int) < 0 := by omega
    simp only [h1, if_false]
    refine Prod.ext ?_ rfl
    show max (0 : Int) (min (i : Int) (its.length : Int)) = ((min i its.length : Nat) : Int)
    omega
  unfold slicePick
  rw [List.size_toArray, hb]
  congr 1
  unfold sliceRange
  simp only [show (2 : Int) > 0 by decide, if_true]
  by_cases hi : i < its.length
  · have e0 : min i its.length = i := Nat.min_eq_left (Nat.le_of_lt hi)
    rw [e0, if_pos (by omega)]
    have e1 : (((its.length : Int) - (i : Int) + 2 - 1) / 2).toNat = ((its.drop i).length + 1) / 2 := by rw [List.length_drop]; omega
    rw [e1, List.filterMap_map, ← pick2 (its.drop i)]
    refine fm_congr fun k _ => ?_
    have e2 : ((i : Int) + 2 * (k : Int)).toNat = i + 2 * k := by omega
    show its.toArray[((i : Int) + 2 * (k : Int)).toNat]? = _
    rw [e2, List.getElem?_toArray, List.getElem?_drop]
  · have e0 : min i its.length = its.length := Nat.min_eq_right (by omega)
    rw [e0, if_neg (by omega), List.drop_eq_nil_of_le (by omega)]
    rfl
def tSl2 (K : PySem.W.Frag) (te : TE) (tl th ts : TO) : TE := fun σ H Q => te σ H fun x H1 => tl σ H1 fun l H2 => th σ H2 fun u H3 => ts σ H3 fun st H4 => ∃ (a : Addr) (xs : List V) (i : Nat), x = .ref a ∧ SqL K H4 a xs ∧ l = some (i : Int) ∧ u = none ∧ st = some 2 ∧ ∀ p, H4 p = none → Q (.ref p) (upd H4 p (.lst (every2 (xs.drop i))))
theorem pe_slice2 {X : Cx} {e : Expr} {te : TE} {lo hi : Option Expr} {st : Expr} {tl th ts : TO} {pos p2 : Pos} (he : PE X e te) (hl : PO X lo tl) (hu : PO X hi th) (hs : PO X (some st) ts) : PE X (.Subscript e (.Slice lo hi (some st) p2) pos) (tSl2 X.K te tl th ts) := by
  intro pins s σ H Q I h
  refine Subscript_ (thn (he pins s σ H _ I h) fun v s1 ⟨x, H1, I1, r1, q1⟩ => ?_)
  refine wpAny_Slice (thn (hl pins s1 σ H1 _ I1 q1) fun vl s2 ⟨l, H2, I2, pl, q2⟩ => thn (hu pins s2 σ H2 _ I2 q2) fun vu s3 ⟨u, H3, I3, pu, q3⟩ => thn (hs pins s3 σ H3 _ I3 q3) fun vs s4 ⟨stp, H4, I4, pst, q4⟩ => ?_)
  obtain ⟨a, xs, i, rfl, hx, rfl, rfl, rfl, q⟩ := q4
  have I5 : Inv X pins σ H4 { s4 with heap := s4.heap.push { cls := .type "slice", data := .fields #[vl, vu, vs] } } := I4.kept (t' := s4.toks) fun b ob q => Heap.get?_push_of_some _ q
  cases r1
  obtain ⟨its, r, ht, hz⟩ := I5.list hx
  have hlen := r.length
  show wpAny (model X.prog X.w) X.A (subscriptTail e (.Slice lo hi (some st) p2) (.ref a) (.ref s4.heap.objs.size)) (EP X pins σ Q) X.xe { s4 with heap := s4.heap.push { cls := .type "slice", data := .fields #[vl, vu, vs] } }
  refine tail_any (ops := [.ref a, .ref s4.heap.objs.size]) ht.isList.typeIs slot_list_getitem.lookup ?_ (by with_unfolding_all rfl)
  refine wpAny_getItem_list_slice ht.isList (Heap.IsSliceOf.new ..) pl pu pst (by simp) ?_ (by rw [List.size_toArray] <;> omega)
  rw [slicePick2]
  refine ⟨.ref _, _, I5.laid (t' := s4.toks) (o := .lst (every2 (xs.drop i))) (fun b ob q => Heap.get?_push_of_some _ q) (Nat.le_refl _) ?_, rfl, q _ (I5.hok.fresh (Nat.le_refl _))⟩
  have h1 := every2_len (xs.drop i)
  rw [List.length_drop] at h1
  exact ⟨by omega, _, 0, vals_every2 (r.drop i), Heap.get?_push_size _ rfl⟩
def rNeP (K : PySem.W.Frag) : R2 := fun x y H Q => ∃ p q a b c d, x = .ref p ∧ y = .ref q ∧ SqT K H p [.int a, .int b] ∧ SqT K H q [.int c, .int d] ∧ Q (.bl (!decide (a = c ∧ b = d))) H
theorem op_neP {X : Cx} (hu : X.A.units + 64 < cLine) : OpR X (compareOp .NotEq) (rNeP X.K) := by
  intro pins s σ H x y v u Q I rx ry h
  obtain ⟨p, q, a, b, c, d, rfl, rfl, hp, hq, hQ⟩ := h
  refine op_neD hu pins s σ H _ _ v u Q I rx ry ⟨.tuple [.int a, .int b], .tuple [.int c, .int d], .tup hp (.cons (.int _) (.cons (.int _) .nil)), .tup hq (.cons (.int _) (.cons (.int _) .nil)), ?_, ?_, ?_⟩
  · show (true && true) = true; rfl
  · show (true && true) = true; rfl
  · have e : PyData.eqv (.tuple [.int a, .int b]) (.tuple [.int c, .int d]) = decide (a = c ∧ b = d) := by
      simp only [PyData.eqv, PyData.eqvAll, Bool.and_true]
      by_cases h1 : a = c <;> by_cases h2 : b = d <;> simp [h1, h2]
    rw [e]; exact hQ
/-- xs == [], xs of at most one int -/
def rEqN (K : PySem.W.Frag) : R2 := fun x y H Q => ∃ p q, x = .ref p ∧ y = .ref q ∧ SqL K H q [] ∧ ((SqL K H p [] ∧ Q (.bl true) H) ∨ ∃ a, SqL K H p [.int a] ∧ Q (.bl false) H)
theorem op_eqN {X : Cx} (hu : X.A.units + 64 < cLine) : OpR X (compareOp .Eq) (rEqN X.K) := by
  intro pins s σ H x y v u Q I rx ry h
  obtain ⟨p, q, rfl, rfl, hq, h⟩ := h
  rcases h with ⟨hp, hQ⟩ | ⟨a, hp, hQ⟩
  · exact op_eqD hu pins s σ H _ _ v u Q I rx ry ⟨.list [], .list [], .lst hp .nil, .lst hq .nil, rfl, rfl, hQ⟩
  · exact op_eqD hu pins s σ H _ _ v u Q I rx ry ⟨.list [.int a], .list [], .lst hp (.cons (.int _) .nil), .lst hq .nil, rfl, rfl, hQ⟩
theorem lc_rangeC {lo c : Int} {n : Nat} {g : TG} {tt : TT} {te : TE} {vs : List Nat} {σ : L2.St} {H1 : Hp} {D : Addr} {Qd : Hp → Prop} (Pv : Nat → Hp → Prop) (h0 : Pv 0 (upd H1 D (.lst [])))
    (hs : ∀ i H, i < n → Pv i H → g (.int (lo + (i : Nat) * c)) (wipe σ vs) H fun σ2 H2 => wipe σ2 vs = wipe σ vs ∧ tt σ2 H2 fun b H3 =>
      if b = true then te σ2 H3 fun y H4 => ∃ acc, H4 D = some (.lst acc) ∧ acc.length < sizeLine ∧ Pv (i + 1) (upd H4 D (.lst (acc ++ [y]))) else Pv (i + 1) H3) (hd : ∀ H, Pv n H → Qd H) :
    ∃ W : Nat → Nat → Hp → Prop, (∃ m, W 0 m (upd H1 D (.lst []))) ∧ ∀ i m H, W i m H →
      ((Itc lo c n).stop i H ∧ Qd H) ∨ ((Itc lo c n).go i H ∧ ∃ Nx : Hp → Prop, (∀ H', Nx H' → ∃ m', m' < m ∧ W (i + 1) m' H') ∧ ∀ x H', (Itc lo c n).yld i H x H' → g x (wipe σ vs) H' fun σ2 H2 => wipe σ2 vs = wipe σ vs ∧ tt σ2 H2 fun b H3 =>
        if b = true then te σ2 H3 fun y H4 => ∃ acc, H4 D = some (.lst acc) ∧ acc.length < sizeLine ∧ Nx (upd H4 D (.lst (acc ++ [y]))) else Nx H3) := by
  refine ⟨fun i m H => m = n - i ∧ i ≤ n ∧ Pv i H, ⟨n, by simp, Nat.zero_le _, h0⟩, ?_⟩
  rintro i m H ⟨rfl, hi, p⟩
  by_cases hlt : i < n
  · refine .inr ⟨hlt, Pv (i + 1), fun H' p' => ⟨n - (i + 1), by omega, rfl, hlt, p'⟩, fun x H' y => ?_⟩
    obtain ⟨e, y⟩ := y
    subst e y
    exact hs i _ hlt p
  · have e : i = n := by omega
    subst e
    exact .inl ⟨Nat.le_refl _, hd H p⟩
/-- a slice between two places -/
theorem cut_nat (xs : List V) (a n : Nat) : cutV xs (some (a : Int)) (some ((a : Int) + (n : Int))) = (xs.drop a).take n := by
  have sx : ∀ (j d : Nat), HT.sIx xs.length d (some (j : Int)) = min j xs.length := fun j d => HT.sIx_nat _ _ _
  have e : (a : Int) + (n : Int) = ((a + n : Nat) : Int) := by omega
  unfold cutV
  rw [e, sx, sx]
  by_cases h : a ≤ xs.length
  · rw [Nat.min_eq_left h]
    by_cases h2 : a + n ≤ xs.length
    · rw [Nat.min_eq_left h2]; congr 1; omega
    · rw [Nat.min_eq_right (by omega), List.take_of_length_le (by rw [List.length_drop]; omega), List.take_of_length_le (by rw [List.length_drop]; omega)]
  · rw [List.drop_eq_nil_of_le (by omega), List.drop_eq_nil_of_le (by omega)]; simp
theorem cut_nat2 (xs : List V) (a b : Nat) : cutV xs (some (a : Int)) (some (b : Int)) = (xs.drop a).take (b - a) := by
  by_cases h : a ≤ b
  · have := cut_nat xs a (b - a)
    have e : (a : Int) + ((b - a : Nat) : Int) = (b : Int) := by omega
    rw [e] at this; exact this
  · have sx : ∀ (j d : Nat), HT.sIx xs.length d (some (j : Int)) = min j xs.length := fun j d => HT.sIx_nat _ _ _
    unfold cutV
    rw [sx, sx]
    have e1 : b - a = 0 := by omega
    have e2 : min b xs.length - min a xs.length = 0 := by omega
    rw [e1, e2]; rfl
theorem cut_to (xs : List V) (b : Nat) : cutV xs none (some (b : Int)) = xs.take b := by
  unfold cutV
  rw [HT.sIx_none, HT.sIx_nat, List.drop_zero, Nat.sub_zero]
  by_cases h : b ≤ xs.length
  · rw [Nat.min_eq_left h]
  · rw [Nat.min_eq_right (by omega), List.take_of_length_le (Nat.le_refl _), List.take_of_length_le (by omega)]
theorem bitAnd255 (x : Int) : Builtin.bitAnd x 255 = x % 256 := by
  exact bitAnd_m8 x
end Sm



set_option Elab.async false
set_option linter.all false
namespace Sm
open Si23
theorem mem_zipIdx0 {α : Type} {l : List α} {x : α} {j : Nat} : (x, j) ∈ l.zipIdx ↔ l[j]? = some x := by
  rw [List.mem_zipIdx_iff_getElem?]
/-- another socket is in the way -/
theorem taken_iff {s : St} {k a p : Nat} {peer : Option (Nat × Nat)} : s.taken k a p peer = true ↔
    ∃ (j : Nat) (x : Sock), s.socks[j]? = some (some x) ∧ j ≠ k ∧ x.port ≠ 0 ∧ x.port = p ∧ (x.at_ = 0 ∨ a = 0 ∨ x.at_ = a) ∧ x.peer = peer := by
  unfold St.taken
  rw [List.any_eq_true]
  constructor
  · rintro ⟨⟨y, j⟩, hm, h⟩
    rw [mem_zipIdx0] at hm
    cases y with
    | none => simp at h
    | some x =>
      refine ⟨j, x, hm, ?_⟩
      simp only [meets, Bool.and_eq_true, bne_iff_ne, ne_eq, beq_iff_eq, Bool.or_eq_true] at h
      exact ⟨h.1, h.2.1, h.2.2.1.1, h.2.2.1.2, h.2.2.2⟩
  · rintro ⟨j, x, hm, h1, h2, h3, h4, h5⟩
    refine ⟨(some x, j), mem_zipIdx0.mpr hm, ?_⟩
    simp only [meets, Bool.and_eq_true, bne_iff_ne, ne_eq, beq_iff_eq, Bool.or_eq_true]
    exact ⟨h1, h2, ⟨h3, h4⟩, h5⟩
theorem used_iff {s : St} {p : Nat} : s.used p = true ↔ ∃ (j : Nat) (x : Sock), s.socks[j]? = some (some x) ∧ x.port = p := by
  unfold St.used
  rw [List.any_eq_true]
  constructor
  · rintro ⟨y, hm, h⟩
    obtain ⟨j, hj⟩ := List.mem_iff_getElem?.mp hm
    cases y with
    | none => simp at h
    | some x => exact ⟨j, x, hj, by simpa using h⟩
  · rintro ⟨j, x, hm, h⟩
    exact ⟨some x, List.mem_of_getElem? hm, by simpa using h⟩
/-- the port i steps from the turn on -/
def portAt (s : St) (i : Nat) : Nat := 49152 + (s.turn + i) % 16384
theorem free_some {s : St} {i : Nat} (hi : i < 16384) (h : s.used (portAt s i) = false) (hb : ∀ j, j < i → s.used (portAt s j) = true) : s.free = some (portAt s i) := by
  have e : (List.range FREE).find? (fun i => !s.used (FIRST + (s.turn + i) % FREE)) = some i := by
    rw [List.find?_eq_some_iff_getElem]
    refine ⟨by show (!s.used (portAt s i)) = true; rw [h]; rfl, i, by rw [List.length_range]; exact hi, by simp, fun j hj => ?_⟩
    have hb' := hb j hj
    simp only [List.getElem_range]
    show (!(!s.used (portAt s j))) = true
    rw [hb']; rfl
  unfold St.free
  rw [e]; rfl
theorem free_none {s : St} (h : ∀ j, j < 16384 → s.used (portAt s j) = true) : s.free = none := by
  have e : (List.range FREE).find? (fun i => !s.used (FIRST + (s.turn + i) % FREE)) = none := by
    rw [List.find?_eq_none]
    intro j hj
    have hj' : j < 16384 := List.mem_range.mp hj
    have hb' : s.used (FIRST + (s.turn + j) % FREE) = true := h j hj'
    rw [hb']; simp
  unfold St.free
  rw [e]; rfl
end Sm



set_option Elab.async false
set_option linter.all false
set_option maxRecDepth 100000
namespace Sm
open PySem PySem.Spec PyProof.Rows L2
def top (i : Nat) : Stmt := PySem.Challenge.pw_singlemail_s01_answers.main.body.getD i (.Pass ⟨0, 0, 0, 0⟩)
abbrev s_Answer_init : Stmt := inClass (top 4) 0
abbrev s_plain : Stmt := top 5
abbrev s_packet_sent : Stmt := top 6
abbrev s_error_told : Stmt := top 7
abbrev s_something_now : Stmt := top 8
abbrev s_written : Stmt := top 9
abbrev s_number_at : Stmt := top 16
abbrev s_written_bytes : Stmt := top 17
abbrev s_two_by_two : Stmt := top 18
abbrev s_whole_total : Stmt := top 19
abbrev s_datagram : Stmt := top 20
abbrev s_is_datagram : Stmt := top 21
abbrev s_port_from : Stmt := top 22
abbrev s_port_to : Stmt := top 23
abbrev s_body_of : Stmt := top 24
abbrev s_is_packet_start : Stmt := top 25
abbrev s_packet_from : Stmt := top 26
abbrev s_packet_to : Stmt := top 27
abbrev s_Message_init : Stmt := inClass (top 33) 0
abbrev s_Socket_init : Stmt := inClass (top 34) 0
abbrev s_meets : Stmt := top 35
abbrev s_fits_at_any : Stmt := top 36
abbrev s_fits : Stmt := top 37
abbrev s_has_address : Stmt := top 38
abbrev s_rank : Stmt := top 39
abbrev s_sent_there : Stmt := top 40
abbrev s_has_something : Stmt := top 41
abbrev s_weight : Stmt := top 42
abbrev s_has_room : Stmt := top 43
abbrev s_get_message : Stmt := top 44
abbrev s_drop_others : Stmt := top 45
abbrev s_port_of_round : Stmt := top 62
abbrev s_Machine_init : Stmt := inClass (top 63) 0
abbrev s_Machine_begins : Stmt := inClass (top 63) 1
abbrev s_Machine_opens : Stmt := inClass (top 63) 2
abbrev s_Machine_close : Stmt := inClass (top 63) 3
abbrev s_Machine_bind : Stmt := inClass (top 63) 4
abbrev s_Machine_connect : Stmt := inClass (top 63) 5
abbrev s_Machine_hear : Stmt := inClass (top 63) 6
abbrev s_Machine_send : Stmt := inClass (top 63) 7
abbrev s_Machine_came : Stmt := inClass (top 63) 8
abbrev s_Machine_problem : Stmt := inClass (top 63) 9
abbrev s_Machine_take : Stmt := inClass (top 63) 10
abbrev s_Machine_told : Stmt := inClass (top 63) 11
abbrev s_Machine_let_peer_go : Stmt := inClass (top 63) 12
abbrev s_Machine_take_peer : Stmt := inClass (top 63) 13
abbrev s_Machine_is_met : Stmt := inClass (top 63) 14
abbrev s_Machine_port_for : Stmt := inClass (top 63) 15
abbrev s_Machine_free_port : Stmt := inClass (top 63) 16
abbrev s_Machine_give : Stmt := inClass (top 63) 17
abbrev s_Machine_hearing : Stmt := inClass (top 63) 18
abbrev s_Machine_best_fitting : Stmt := inClass (top 63) 19
abbrev s_Machine_hand_over : Stmt := inClass (top 63) 20
abbrev s_answers : Stmt := top 77
abbrev s_called : Stmt := top 78
abbrev s_called_for_a_number : Stmt := top 79
theorem sc_Answer_init : FnScope ["self", "number", "figures", "row", "wanted"] ["self", "number", "figures", "row", "wanted"] (defScope s_Answer_init) := ⟨rfl, rfl, rfl, by decide +kernel, rfl, by decide +kernel, by decide +kernel⟩
theorem sc_plain : FnScope ["number"] ["number"] (defScope s_plain) := ⟨rfl, rfl, rfl, by decide +kernel, rfl, by decide +kernel, by decide +kernel⟩
theorem sc_packet_sent : FnScope ["from_address", "to_address", "row"] ["from_address", "to_address", "row"] (defScope s_packet_sent) := ⟨rfl, rfl, rfl, by decide +kernel, rfl, by decide +kernel, by decide +kernel⟩
theorem sc_error_told : FnScope ["from_address", "to_address", "row"] ["from_address", "to_address", "row"] (defScope s_error_told) := ⟨rfl, rfl, rfl, by decide +kernel, rfl, by decide +kernel, by decide +kernel⟩
theorem sc_something_now : FnScope ["k"] ["k"] (defScope s_something_now) := ⟨rfl, rfl, rfl, by decide +kernel, rfl, by decide +kernel, by decide +kernel⟩
theorem sc_written : FnScope ["answer", "numbers", "thing"] ["answer"] (defScope s_written) := ⟨rfl, rfl, rfl, by decide +kernel, rfl, by decide +kernel, by decide +kernel⟩
theorem sc_number_at : FnScope ["row", "at", "size", "number", "byte"] ["row", "at", "size"] (defScope s_number_at) := ⟨rfl, rfl, rfl, by decide +kernel, rfl, by decide +kernel, by decide +kernel⟩
theorem sc_written_bytes : FnScope ["number", "size", "place"] ["number", "size"] (defScope s_written_bytes) := ⟨rfl, rfl, rfl, by decide +kernel, rfl, by decide +kernel, by decide +kernel⟩
theorem sc_two_by_two : FnScope ["row"] ["row"] (defScope s_two_by_two) := ⟨rfl, rfl, rfl, by decide +kernel, rfl, by decide +kernel, by decide +kernel⟩
theorem sc_whole_total : FnScope ["from_address", "to_address", "row", "ahead"] ["from_address", "to_address", "row"] (defScope s_whole_total) := ⟨rfl, rfl, rfl, by decide +kernel, rfl, by decide +kernel, by decide +kernel⟩
theorem sc_datagram : FnScope ["from_place", "to_place", "body", "length", "ahead", "without"] ["from_place", "to_place", "body"] (defScope s_datagram) := ⟨rfl, rfl, rfl, by decide +kernel, rfl, by decide +kernel, by decide +kernel⟩
theorem sc_is_datagram : FnScope ["from_address", "to_address", "row", "length"] ["from_address", "to_address", "row"] (defScope s_is_datagram) := ⟨rfl, rfl, rfl, by decide +kernel, rfl, by decide +kernel, by decide +kernel⟩
theorem sc_port_from : FnScope ["row"] ["row"] (defScope s_port_from) := ⟨rfl, rfl, rfl, by decide +kernel, rfl, by decide +kernel, by decide +kernel⟩
theorem sc_port_to : FnScope ["row"] ["row"] (defScope s_port_to) := ⟨rfl, rfl, rfl, by decide +kernel, rfl, by decide +kernel, by decide +kernel⟩
theorem sc_body_of : FnScope ["row"] ["row"] (defScope s_body_of) := ⟨rfl, rfl, rfl, by decide +kernel, rfl, by decide +kernel, by decide +kernel⟩
theorem sc_is_packet_start : FnScope ["row"] ["row"] (defScope s_is_packet_start) := ⟨rfl, rfl, rfl, by decide +kernel, rfl, by decide +kernel, by decide +kernel⟩
theorem sc_packet_from : FnScope ["row"] ["row"] (defScope s_packet_from) := ⟨rfl, rfl, rfl, by decide +kernel, rfl, by decide +kernel, by decide +kernel⟩
theorem sc_packet_to : FnScope ["row"] ["row"] (defScope s_packet_to) := ⟨rfl, rfl, rfl, by decide +kernel, rfl, by decide +kernel, by decide +kernel⟩
theorem sc_Message_init : FnScope ["self", "sender", "to_address", "body"] ["self", "sender", "to_address", "body"] (defScope s_Message_init) := ⟨rfl, rfl, rfl, by decide +kernel, rfl, by decide +kernel, by decide +kernel⟩
theorem sc_fits_at_any : FnScope ["socket", "sender", "port"] ["socket", "sender", "port"] (defScope s_fits_at_any) := ⟨rfl, rfl, rfl, by decide +kernel, rfl, by decide +kernel, by decide +kernel⟩
theorem sc_fits : FnScope ["socket", "sender", "address", "port"] ["socket", "sender", "address", "port"] (defScope s_fits) := ⟨rfl, rfl, rfl, by decide +kernel, rfl, by decide +kernel, by decide +kernel⟩
theorem sc_has_address : FnScope ["socket", "address"] ["socket", "address"] (defScope s_has_address) := ⟨rfl, rfl, rfl, by decide +kernel, rfl, by decide +kernel, by decide +kernel⟩
theorem sc_rank : FnScope ["socket", "by_peer", "by_address"] ["socket"] (defScope s_rank) := ⟨rfl, rfl, rfl, by decide +kernel, rfl, by decide +kernel, by decide +kernel⟩
theorem sc_sent_there : FnScope ["socket", "from_place", "to_place"] ["socket", "from_place", "to_place"] (defScope s_sent_there) := ⟨rfl, rfl, rfl, by decide +kernel, rfl, by decide +kernel, by decide +kernel⟩
theorem sc_has_something : FnScope ["socket"] ["socket"] (defScope s_has_something) := ⟨rfl, rfl, rfl, by decide +kernel, rfl, by decide +kernel, by decide +kernel⟩
theorem sc_weight : FnScope ["message"] ["message"] (defScope s_weight) := ⟨rfl, rfl, rfl, by decide +kernel, rfl, by decide +kernel, by decide +kernel⟩
theorem sc_has_room : FnScope ["socket", "message", "waiting"] ["socket", "message"] (defScope s_has_room) := ⟨rfl, rfl, rfl, by decide +kernel, rfl, by decide +kernel, by decide +kernel⟩
theorem sc_get_message : FnScope ["socket", "message"] ["socket", "message"] (defScope s_get_message) := ⟨rfl, rfl, rfl, by decide +kernel, rfl, by decide +kernel, by decide +kernel⟩
theorem sc_Machine_bind : FnScope ["self", "k", "a", "p", "socket", "port"] ["self", "k", "a", "p"] (defScope s_Machine_bind) := ⟨rfl, rfl, rfl, by decide +kernel, rfl, by decide +kernel, by decide +kernel⟩
theorem sc_Machine_send : FnScope ["self", "k", "a", "t", "p", "body", "socket", "port", "address", "to_place", "row"] ["self", "k", "a", "t", "p", "body"] (defScope s_Machine_send) := ⟨rfl, rfl, rfl, by decide +kernel, rfl, by decide +kernel, by decide +kernel⟩
theorem sc_Machine_came : FnScope ["self", "f", "t", "row", "message", "best"] ["self", "f", "t", "row"] (defScope s_Machine_came) := ⟨rfl, rfl, rfl, by decide +kernel, rfl, by decide +kernel, by decide +kernel⟩
theorem sc_Machine_problem : FnScope ["self", "kind", "n", "row", "k", "socket", "wanted"] ["self", "kind", "n", "row"] (defScope s_Machine_problem) := ⟨rfl, rfl, rfl, by decide +kernel, rfl, by decide +kernel, by decide +kernel⟩
theorem sc_Machine_take : FnScope ["self", "k", "most", "socket", "figures", "message"] ["self", "k", "most"] (defScope s_Machine_take) := ⟨rfl, rfl, rfl, by decide +kernel, rfl, by decide +kernel, by decide +kernel⟩
theorem sc_Machine_told : FnScope ["self", "k", "socket", "place"] ["self", "k"] (defScope s_Machine_told) := ⟨rfl, rfl, rfl, by decide +kernel, rfl, by decide +kernel, by decide +kernel⟩
theorem sc_Machine_take_peer : FnScope ["self", "k", "a", "peer", "socket", "address", "port"] ["self", "k", "a", "peer"] (defScope s_Machine_take_peer) := ⟨rfl, rfl, rfl, by decide +kernel, rfl, by decide +kernel, by decide +kernel⟩
theorem sc_Machine_port_for : FnScope ["self", "socket"] ["self", "socket"] (defScope s_Machine_port_for) := ⟨rfl, rfl, rfl, by decide +kernel, rfl, by decide +kernel, by decide +kernel⟩
theorem sc_Machine_give : FnScope ["self", "socket", "port"] ["self", "socket", "port"] (defScope s_Machine_give) := ⟨rfl, rfl, rfl, by decide +kernel, rfl, by decide +kernel, by decide +kernel⟩
theorem sc_Machine_hearing : FnScope ["self", "sender", "port", "k"] ["self", "sender", "port"] (defScope s_Machine_hearing) := ⟨rfl, rfl, rfl, by decide +kernel, rfl, by decide +kernel, by decide +kernel⟩
theorem sc_Machine_best_fitting : FnScope ["self", "sender", "address", "port", "best", "k", "socket"] ["self", "sender", "address", "port"] (defScope s_Machine_best_fitting) := ⟨rfl, rfl, rfl, by decide +kernel, rfl, by decide +kernel, by decide +kernel⟩
theorem sc_Machine_hand_over : FnScope ["self", "getting", "message", "wanted", "k"] ["self", "getting", "message"] (defScope s_Machine_hand_over) := ⟨rfl, rfl, rfl, by decide +kernel, rfl, by decide +kernel, by decide +kernel⟩
theorem sc_answers : FnScope ["calls", "machine", "given", "at", "call", "behind", "numbers", "row", "begin", "answered"] ["calls"] (defScope s_answers) := ⟨rfl, rfl, rfl, by decide +kernel, rfl, by decide +kernel, by decide +kernel⟩
theorem sc_called : FnScope ["machine", "call", "numbers", "row"] ["machine", "call", "numbers", "row"] (defScope s_called) := ⟨rfl, rfl, rfl, by decide +kernel, rfl, by decide +kernel, by decide +kernel⟩
theorem sc_called_for_a_number : FnScope ["machine", "call", "numbers"] ["machine", "call", "numbers"] (defScope s_called_for_a_number) := ⟨rfl, rfl, rfl, by decide +kernel, rfl, by decide +kernel, by decide +kernel⟩
structure Ad where
  c_Answer : Addr
  c_Message : Addr
  c_Socket : Addr
  c_Machine : Addr
  f_Answer_init : Addr
  d_Answer_init : FuncData
  f_plain : Addr
  d_plain : FuncData
  f_packet_sent : Addr
  d_packet_sent : FuncData
  f_error_told : Addr
  d_error_told : FuncData
  f_something_now : Addr
  d_something_now : FuncData
  f_written : Addr
  d_written : FuncData
  f_number_at : Addr
  d_number_at : FuncData
  f_written_bytes : Addr
  d_written_bytes : FuncData
  f_two_by_two : Addr
  d_two_by_two : FuncData
  f_whole_total : Addr
  d_whole_total : FuncData
  f_datagram : Addr
  d_datagram : FuncData
  f_is_datagram : Addr
  d_is_datagram : FuncData
  f_port_from : Addr
  d_port_from : FuncData
  f_port_to : Addr
  d_port_to : FuncData
  f_body_of : Addr
  d_body_of : FuncData
  f_is_packet_start : Addr
  d_is_packet_start : FuncData
  f_packet_from : Addr
  d_packet_from : FuncData
  f_packet_to : Addr
  d_packet_to : FuncData
  f_Message_init : Addr
  d_Message_init : FuncData
  f_Socket_init : Addr
  d_Socket_init : FuncData
  f_meets : Addr
  d_meets : FuncData
  f_fits_at_any : Addr
  d_fits_at_any : FuncData
  f_fits : Addr
  d_fits : FuncData
  f_has_address : Addr
  d_has_address : FuncData
  f_rank : Addr
  d_rank : FuncData
  f_sent_there : Addr
  d_sent_there : FuncData
  f_has_something : Addr
  d_has_something : FuncData
  f_weight : Addr
  d_weight : FuncData
  f_has_room : Addr
  d_has_room : FuncData
  f_get_message : Addr
  d_get_message : FuncData
  f_drop_others : Addr
  d_drop_others : FuncData
  f_port_of_round : Addr
  d_port_of_round : FuncData
  f_Machine_init : Addr
  d_Machine_init : FuncData
  f_Machine_begins : Addr
  d_Machine_begins : FuncData
  f_Machine_opens : Addr
  d_Machine_opens : FuncData
  f_Machine_close : Addr
  d_Machine_close : FuncData
  f_Machine_bind : Addr
  d_Machine_bind : FuncData
  f_Machine_connect : Addr
  d_Machine_connect : FuncData
  f_Machine_hear : Addr
  d_Machine_hear : FuncData
  f_Machine_send : Addr
  d_Machine_send : FuncData
  f_Machine_came : Addr
  d_Machine_came : FuncData
  f_Machine_problem : Addr
  d_Machine_problem : FuncData
  f_Machine_take : Addr
  d_Machine_take : FuncData
  f_Machine_told : Addr
  d_Machine_told : FuncData
  f_Machine_let_peer_go : Addr
  d_Machine_let_peer_go : FuncData
  f_Machine_take_peer : Addr
  d_Machine_take_peer : FuncData
  f_Machine_is_met : Addr
  d_Machine_is_met : FuncData
  f_Machine_port_for : Addr
  d_Machine_port_for : FuncData
  f_Machine_free_port : Addr
  d_Machine_free_port : FuncData
  f_Machine_give : Addr
  d_Machine_give : FuncData
  f_Machine_hearing : Addr
  d_Machine_hearing : FuncData
  f_Machine_best_fitting : Addr
  d_Machine_best_fitting : FuncData
  f_Machine_hand_over : Addr
  d_Machine_hand_over : FuncData
  f_answers : Addr
  d_answers : FuncData
  f_called : Addr
  d_called : FuncData
  f_called_for_a_number : Addr
  d_called_for_a_number : FuncData
  g_NO_PEER : Addr
  g_HOW_MANY : Addr
  g_WITH_A_ROW : Addr
def TupK (K : PySem.W.Frag) (a : Addr) (xs : List V) : Prop := ∃ (o : Obj) (its : Array Value) (n : Nat), K.lookup a = some o ∧ o.cls = .type "tuple" ∧ o.data = .seq its n ∧ its.size ≤ sizeLine ∧ Vals xs its.toList
structure Tx (K : PySem.W.Frag) (mg : Str → Option Value) (A : Ad) : Prop where
  cls_Answer : Cls K A.c_Answer
  mg_Answer : mg "Answer" = some (.ref A.c_Answer)
  mk_Answer : Mk K A.c_Answer A.f_Answer_init
  no_Answer_number : NoAttr K A.c_Answer "number"
  no_Answer_figures : NoAttr K A.c_Answer "figures"
  no_Answer_row : NoAttr K A.c_Answer "row"
  no_Answer_wanted : NoAttr K A.c_Answer "wanted"
  cls_Message : Cls K A.c_Message
  mg_Message : mg "Message" = some (.ref A.c_Message)
  mk_Message : Mk K A.c_Message A.f_Message_init
  no_Message_sender : NoAttr K A.c_Message "sender"
  no_Message_to_address : NoAttr K A.c_Message "to_address"
  no_Message_body : NoAttr K A.c_Message "body"
  cls_Socket : Cls K A.c_Socket
  mg_Socket : mg "Socket" = some (.ref A.c_Socket)
  mk_Socket : Mk K A.c_Socket A.f_Socket_init
  no_Socket_address : NoAttr K A.c_Socket "address"
  no_Socket_port : NoAttr K A.c_Socket "port"
  no_Socket_peer : NoAttr K A.c_Socket "peer"
  no_Socket_hears : NoAttr K A.c_Socket "hears"
  no_Socket_queue : NoAttr K A.c_Socket "queue"
  no_Socket_error : NoAttr K A.c_Socket "error"
  no_Socket_lost : NoAttr K A.c_Socket "lost"
  cls_Machine : Cls K A.c_Machine
  mg_Machine : mg "Machine" = some (.ref A.c_Machine)
  mk_Machine : Mk K A.c_Machine A.f_Machine_init
  no_Machine_sockets : NoAttr K A.c_Machine "sockets"
  no_Machine_turn : NoAttr K A.c_Machine "turn"
  F_Answer_init : Fun K "__init__" "Answer.__init__" s_Answer_init A.f_Answer_init A.d_Answer_init
  b_Answer_init : L2.Binds K A.d_Answer_init ["self", "number", "figures", "row", "wanted"] []
  F_plain : Fun K "plain" "plain" s_plain A.f_plain A.d_plain
  b_plain : L2.Binds K A.d_plain ["number"] []
  mg_plain : mg "plain" = some (.ref A.f_plain)
  F_packet_sent : Fun K "packet_sent" "packet_sent" s_packet_sent A.f_packet_sent A.d_packet_sent
  b_packet_sent : L2.Binds K A.d_packet_sent ["from_address", "to_address", "row"] []
  mg_packet_sent : mg "packet_sent" = some (.ref A.f_packet_sent)
  F_error_told : Fun K "error_told" "error_told" s_error_told A.f_error_told A.d_error_told
  b_error_told : L2.Binds K A.d_error_told ["from_address", "to_address", "row"] []
  mg_error_told : mg "error_told" = some (.ref A.f_error_told)
  F_something_now : Fun K "something_now" "something_now" s_something_now A.f_something_now A.d_something_now
  b_something_now : L2.Binds K A.d_something_now ["k"] []
  mg_something_now : mg "something_now" = some (.ref A.f_something_now)
  F_written : Fun K "written" "written" s_written A.f_written A.d_written
  b_written : L2.Binds K A.d_written ["answer"] []
  mg_written : mg "written" = some (.ref A.f_written)
  F_number_at : Fun K "number_at" "number_at" s_number_at A.f_number_at A.d_number_at
  b_number_at : L2.Binds K A.d_number_at ["row", "at", "size"] []
  mg_number_at : mg "number_at" = some (.ref A.f_number_at)
  F_written_bytes : Fun K "written_bytes" "written_bytes" s_written_bytes A.f_written_bytes A.d_written_bytes
  b_written_bytes : L2.Binds K A.d_written_bytes ["number", "size"] []
  mg_written_bytes : mg "written_bytes" = some (.ref A.f_written_bytes)
  F_two_by_two : Fun K "two_by_two" "two_by_two" s_two_by_two A.f_two_by_two A.d_two_by_two
  b_two_by_two : L2.Binds K A.d_two_by_two ["row"] []
  mg_two_by_two : mg "two_by_two" = some (.ref A.f_two_by_two)
  F_whole_total : Fun K "whole_total" "whole_total" s_whole_total A.f_whole_total A.d_whole_total
  b_whole_total : L2.Binds K A.d_whole_total ["from_address", "to_address", "row"] []
  mg_whole_total : mg "whole_total" = some (.ref A.f_whole_total)
  F_datagram : Fun K "datagram" "datagram" s_datagram A.f_datagram A.d_datagram
  b_datagram : L2.Binds K A.d_datagram ["from_place", "to_place", "body"] []
  mg_datagram : mg "datagram" = some (.ref A.f_datagram)
  F_is_datagram : Fun K "is_datagram" "is_datagram" s_is_datagram A.f_is_datagram A.d_is_datagram
  b_is_datagram : L2.Binds K A.d_is_datagram ["from_address", "to_address", "row"] []
  mg_is_datagram : mg "is_datagram" = some (.ref A.f_is_datagram)
  F_port_from : Fun K "port_from" "port_from" s_port_from A.f_port_from A.d_port_from
  b_port_from : L2.Binds K A.d_port_from ["row"] []
  mg_port_from : mg "port_from" = some (.ref A.f_port_from)
  F_port_to : Fun K "port_to" "port_to" s_port_to A.f_port_to A.d_port_to
  b_port_to : L2.Binds K A.d_port_to ["row"] []
  mg_port_to : mg "port_to" = some (.ref A.f_port_to)
  F_body_of : Fun K "body_of" "body_of" s_body_of A.f_body_of A.d_body_of
  b_body_of : L2.Binds K A.d_body_of ["row"] []
  mg_body_of : mg "body_of" = some (.ref A.f_body_of)
  F_is_packet_start : Fun K "is_packet_start" "is_packet_start" s_is_packet_start A.f_is_packet_start A.d_is_packet_start
  b_is_packet_start : L2.Binds K A.d_is_packet_start ["row"] []
  mg_is_packet_start : mg "is_packet_start" = some (.ref A.f_is_packet_start)
  F_packet_from : Fun K "packet_from" "packet_from" s_packet_from A.f_packet_from A.d_packet_from
  b_packet_from : L2.Binds K A.d_packet_from ["row"] []
  mg_packet_from : mg "packet_from" = some (.ref A.f_packet_from)
  F_packet_to : Fun K "packet_to" "packet_to" s_packet_to A.f_packet_to A.d_packet_to
  b_packet_to : L2.Binds K A.d_packet_to ["row"] []
  mg_packet_to : mg "packet_to" = some (.ref A.f_packet_to)
  F_Message_init : Fun K "__init__" "Message.__init__" s_Message_init A.f_Message_init A.d_Message_init
  b_Message_init : L2.Binds K A.d_Message_init ["self", "sender", "to_address", "body"] []
  F_Socket_init : Fun K "__init__" "Socket.__init__" s_Socket_init A.f_Socket_init A.d_Socket_init
  b_Socket_init : L2.Binds K A.d_Socket_init ["self"] []
  F_meets : Fun K "meets" "meets" s_meets A.f_meets A.d_meets
  b_meets : L2.Binds K A.d_meets ["socket", "address", "port"] []
  mg_meets : mg "meets" = some (.ref A.f_meets)
  F_fits_at_any : Fun K "fits_at_any" "fits_at_any" s_fits_at_any A.f_fits_at_any A.d_fits_at_any
  b_fits_at_any : L2.Binds K A.d_fits_at_any ["socket", "sender", "port"] []
  mg_fits_at_any : mg "fits_at_any" = some (.ref A.f_fits_at_any)
  F_fits : Fun K "fits" "fits" s_fits A.f_fits A.d_fits
  b_fits : L2.Binds K A.d_fits ["socket", "sender", "address", "port"] []
  mg_fits : mg "fits" = some (.ref A.f_fits)
  F_has_address : Fun K "has_address" "has_address" s_has_address A.f_has_address A.d_has_address
  b_has_address : L2.Binds K A.d_has_address ["socket", "address"] []
  mg_has_address : mg "has_address" = some (.ref A.f_has_address)
  F_rank : Fun K "rank" "rank" s_rank A.f_rank A.d_rank
  b_rank : L2.Binds K A.d_rank ["socket"] []
  mg_rank : mg "rank" = some (.ref A.f_rank)
  F_sent_there : Fun K "sent_there" "sent_there" s_sent_there A.f_sent_there A.d_sent_there
  b_sent_there : L2.Binds K A.d_sent_there ["socket", "from_place", "to_place"] []
  mg_sent_there : mg "sent_there" = some (.ref A.f_sent_there)
  F_has_something : Fun K "has_something" "has_something" s_has_something A.f_has_something A.d_has_something
  b_has_something : L2.Binds K A.d_has_something ["socket"] []
  mg_has_something : mg "has_something" = some (.ref A.f_has_something)
  F_weight : Fun K "weight" "weight" s_weight A.f_weight A.d_weight
  b_weight : L2.Binds K A.d_weight ["message"] []
  mg_weight : mg "weight" = some (.ref A.f_weight)
  F_has_room : Fun K "has_room" "has_room" s_has_room A.f_has_room A.d_has_room
  b_has_room : L2.Binds K A.d_has_room ["socket", "message"] []
  mg_has_room : mg "has_room" = some (.ref A.f_has_room)
  F_get_message : Fun K "get_message" "get_message" s_get_message A.f_get_message A.d_get_message
  b_get_message : L2.Binds K A.d_get_message ["socket", "message"] []
  mg_get_message : mg "get_message" = some (.ref A.f_get_message)
  F_drop_others : Fun K "drop_others" "drop_others" s_drop_others A.f_drop_others A.d_drop_others
  b_drop_others : L2.Binds K A.d_drop_others ["socket"] []
  mg_drop_others : mg "drop_others" = some (.ref A.f_drop_others)
  F_port_of_round : Fun K "port_of_round" "port_of_round" s_port_of_round A.f_port_of_round A.d_port_of_round
  b_port_of_round : L2.Binds K A.d_port_of_round ["number"] []
  mg_port_of_round : mg "port_of_round" = some (.ref A.f_port_of_round)
  F_Machine_init : Fun K "__init__" "Machine.__init__" s_Machine_init A.f_Machine_init A.d_Machine_init
  b_Machine_init : L2.Binds K A.d_Machine_init ["self"] []
  F_Machine_begins : Fun K "begins" "Machine.begins" s_Machine_begins A.f_Machine_begins A.d_Machine_begins
  b_Machine_begins : L2.Binds K A.d_Machine_begins ["self", "turn"] []
  m_Machine_begins : Meth K A.c_Machine "begins" A.f_Machine_begins
  F_Machine_opens : Fun K "opens" "Machine.opens" s_Machine_opens A.f_Machine_opens A.d_Machine_opens
  b_Machine_opens : L2.Binds K A.d_Machine_opens ["self"] []
  m_Machine_opens : Meth K A.c_Machine "opens" A.f_Machine_opens
  F_Machine_close : Fun K "close" "Machine.close" s_Machine_close A.f_Machine_close A.d_Machine_close
  b_Machine_close : L2.Binds K A.d_Machine_close ["self", "k"] []
  m_Machine_close : Meth K A.c_Machine "close" A.f_Machine_close
  F_Machine_bind : Fun K "bind" "Machine.bind" s_Machine_bind A.f_Machine_bind A.d_Machine_bind
  b_Machine_bind : L2.Binds K A.d_Machine_bind ["self", "k", "a", "p"] []
  m_Machine_bind : Meth K A.c_Machine "bind" A.f_Machine_bind
  F_Machine_connect : Fun K "connect" "Machine.connect" s_Machine_connect A.f_Machine_connect A.d_Machine_connect
  b_Machine_connect : L2.Binds K A.d_Machine_connect ["self", "k", "a", "t", "p"] []
  m_Machine_connect : Meth K A.c_Machine "connect" A.f_Machine_connect
  F_Machine_hear : Fun K "hear" "Machine.hear" s_Machine_hear A.f_Machine_hear A.d_Machine_hear
  b_Machine_hear : L2.Binds K A.d_Machine_hear ["self", "k", "b"] []
  m_Machine_hear : Meth K A.c_Machine "hear" A.f_Machine_hear
  F_Machine_send : Fun K "send" "Machine.send" s_Machine_send A.f_Machine_send A.d_Machine_send
  b_Machine_send : L2.Binds K A.d_Machine_send ["self", "k", "a", "t", "p", "body"] []
  m_Machine_send : Meth K A.c_Machine "send" A.f_Machine_send
  F_Machine_came : Fun K "came" "Machine.came" s_Machine_came A.f_Machine_came A.d_Machine_came
  b_Machine_came : L2.Binds K A.d_Machine_came ["self", "f", "t", "row"] []
  m_Machine_came : Meth K A.c_Machine "came" A.f_Machine_came
  F_Machine_problem : Fun K "problem" "Machine.problem" s_Machine_problem A.f_Machine_problem A.d_Machine_problem
  b_Machine_problem : L2.Binds K A.d_Machine_problem ["self", "kind", "n", "row"] []
  m_Machine_problem : Meth K A.c_Machine "problem" A.f_Machine_problem
  F_Machine_take : Fun K "take" "Machine.take" s_Machine_take A.f_Machine_take A.d_Machine_take
  b_Machine_take : L2.Binds K A.d_Machine_take ["self", "k", "most"] []
  m_Machine_take : Meth K A.c_Machine "take" A.f_Machine_take
  F_Machine_told : Fun K "told" "Machine.told" s_Machine_told A.f_Machine_told A.d_Machine_told
  b_Machine_told : L2.Binds K A.d_Machine_told ["self", "k"] []
  m_Machine_told : Meth K A.c_Machine "told" A.f_Machine_told
  F_Machine_let_peer_go : Fun K "let_peer_go" "Machine.let_peer_go" s_Machine_let_peer_go A.f_Machine_let_peer_go A.d_Machine_let_peer_go
  b_Machine_let_peer_go : L2.Binds K A.d_Machine_let_peer_go ["self", "k"] []
  m_Machine_let_peer_go : Meth K A.c_Machine "let_peer_go" A.f_Machine_let_peer_go
  F_Machine_take_peer : Fun K "take_peer" "Machine.take_peer" s_Machine_take_peer A.f_Machine_take_peer A.d_Machine_take_peer
  b_Machine_take_peer : L2.Binds K A.d_Machine_take_peer ["self", "k", "a", "peer"] []
  m_Machine_take_peer : Meth K A.c_Machine "take_peer" A.f_Machine_take_peer
  F_Machine_is_met : Fun K "is_met" "Machine.is_met" s_Machine_is_met A.f_Machine_is_met A.d_Machine_is_met
  b_Machine_is_met : L2.Binds K A.d_Machine_is_met ["self", "k", "address", "port", "peer"] []
  m_Machine_is_met : Meth K A.c_Machine "is_met" A.f_Machine_is_met
  F_Machine_port_for : Fun K "port_for" "Machine.port_for" s_Machine_port_for A.f_Machine_port_for A.d_Machine_port_for
  b_Machine_port_for : L2.Binds K A.d_Machine_port_for ["self", "socket"] []
  m_Machine_port_for : Meth K A.c_Machine "port_for" A.f_Machine_port_for
  F_Machine_free_port : Fun K "free_port" "Machine.free_port" s_Machine_free_port A.f_Machine_free_port A.d_Machine_free_port
  b_Machine_free_port : L2.Binds K A.d_Machine_free_port ["self"] []
  m_Machine_free_port : Meth K A.c_Machine "free_port" A.f_Machine_free_port
  F_Machine_give : Fun K "give" "Machine.give" s_Machine_give A.f_Machine_give A.d_Machine_give
  b_Machine_give : L2.Binds K A.d_Machine_give ["self", "socket", "port"] []
  m_Machine_give : Meth K A.c_Machine "give" A.f_Machine_give
  F_Machine_hearing : Fun K "hearing" "Machine.hearing" s_Machine_hearing A.f_Machine_hearing A.d_Machine_hearing
  b_Machine_hearing : L2.Binds K A.d_Machine_hearing ["self", "sender", "port"] []
  m_Machine_hearing : Meth K A.c_Machine "hearing" A.f_Machine_hearing
  F_Machine_best_fitting : Fun K "best_fitting" "Machine.best_fitting" s_Machine_best_fitting A.f_Machine_best_fitting A.d_Machine_best_fitting
  b_Machine_best_fitting : L2.Binds K A.d_Machine_best_fitting ["self", "sender", "address", "port"] []
  m_Machine_best_fitting : Meth K A.c_Machine "best_fitting" A.f_Machine_best_fitting
  F_Machine_hand_over : Fun K "hand_over" "Machine.hand_over" s_Machine_hand_over A.f_Machine_hand_over A.d_Machine_hand_over
  b_Machine_hand_over : L2.Binds K A.d_Machine_hand_over ["self", "getting", "message"] []
  m_Machine_hand_over : Meth K A.c_Machine "hand_over" A.f_Machine_hand_over
  F_answers : Fun K "answers" "answers" s_answers A.f_answers A.d_answers
  b_answers : L2.Binds K A.d_answers ["calls"] []
  mg_answers : mg "answers" = some (.ref A.f_answers)
  F_called : Fun K "called" "called" s_called A.f_called A.d_called
  b_called : L2.Binds K A.d_called ["machine", "call", "numbers", "row"] []
  mg_called : mg "called" = some (.ref A.f_called)
  F_called_for_a_number : Fun K "called_for_a_number" "called_for_a_number" s_called_for_a_number A.f_called_for_a_number A.d_called_for_a_number
  b_called_for_a_number : L2.Binds K A.d_called_for_a_number ["machine", "call", "numbers"] []
  mg_called_for_a_number : mg "called_for_a_number" = some (.ref A.f_called_for_a_number)
  i_PACKET_SENT : ∃ t, mg "PACKET_SENT" = some (.int 0 t)
  i_ERROR_TOLD : ∃ t, mg "ERROR_TOLD" = some (.int 1 t)
  i_SOMETHING_NOW : ∃ t, mg "SOMETHING_NOW" = some (.int 2 t)
  i_HEADER : ∃ t, mg "HEADER" = some (.int 8 t)
  i_CARRIED_AS : ∃ t, mg "CARRIED_AS" = some (.int 2 t)
  i_ROUND : ∃ t, mg "ROUND" = some (.int 65535 t)
  i_PACKET_START : ∃ t, mg "PACKET_START" = some (.int 24 t)
  i_PACKET_FIRST : ∃ t, mg "PACKET_FIRST" = some (.int 81 t)
  i_MOST_WAITING : ∃ t, mg "MOST_WAITING" = some (.int 32 t)
  i_MOST_WEIGHT : ∃ t, mg "MOST_WEIGHT" = some (.int 131072 t)
  i_OWN_WEIGHT : ∃ t, mg "OWN_WEIGHT" = some (.int 64 t)
  i_NOT_AS_TOLD : ∃ t, mg "NOT_AS_TOLD" = some (.int (-1) t)
  i_NO_SUCH_SOCKET : ∃ t, mg "NO_SUCH_SOCKET" = some (.int (-2) t)
  i_NO_DATAGRAM : ∃ t, mg "NO_DATAGRAM" = some (.int (-3) t)
  i_IN_THE_WAY : ∃ t, mg "IN_THE_WAY" = some (.int (-4) t)
  i_NONE_FREE : ∃ t, mg "NONE_FREE" = some (.int (-5) t)
  i_TOO_LONG : ∃ t, mg "TOO_LONG" = some (.int (-7) t)
  i_MOST_SOCKETS : ∃ t, mg "MOST_SOCKETS" = some (.int 64 t)
  i_EVERYBODY : ∃ t, mg "EVERYBODY" = some (.int 4294967295 t)
  i_LAST_PORT : ∃ t, mg "LAST_PORT" = some (.int 65535 t)
  i_FIRST_GIVEN : ∃ t, mg "FIRST_GIVEN" = some (.int 49152 t)
  i_GIVEN_PORTS : ∃ t, mg "GIVEN_PORTS" = some (.int 16384 t)
  i_LONGEST_BODY : ∃ t, mg "LONGEST_BODY" = some (.int 65507 t)
  i_LAST_KIND : ∃ t, mg "LAST_KIND" = some (.int 255 t)
  i_LAST_OF_ERROR : ∃ t, mg "LAST_OF_ERROR" = some (.int 4294967295 t)
  i_MOST_TAKEN : ∃ t, mg "MOST_TAKEN" = some (.int 65536 t)
  i_BEGINS : ∃ t, mg "BEGINS" = some (.int 0 t)
  i_OPENS : ∃ t, mg "OPENS" = some (.int 1 t)
  i_CLOSE : ∃ t, mg "CLOSE" = some (.int 2 t)
  i_BIND : ∃ t, mg "BIND" = some (.int 3 t)
  i_CONNECT : ∃ t, mg "CONNECT" = some (.int 4 t)
  i_HEAR : ∃ t, mg "HEAR" = some (.int 5 t)
  i_SEND : ∃ t, mg "SEND" = some (.int 6 t)
  i_CAME : ∃ t, mg "CAME" = some (.int 7 t)
  i_PROBLEM : ∃ t, mg "PROBLEM" = some (.int 8 t)
  i_TAKE : ∃ t, mg "TAKE" = some (.int 9 t)
  t_NO_PEER : mg "NO_PEER" = some (.ref A.g_NO_PEER)
  k_NO_PEER : TupK K A.g_NO_PEER [V.int 0, V.int 0]
  t_HOW_MANY : mg "HOW_MANY" = some (.ref A.g_HOW_MANY)
  k_HOW_MANY : TupK K A.g_HOW_MANY [V.int 1, V.int 0, V.int 1, V.int 3, V.int 4, V.int 2, V.int 4, V.int 2, V.int 2, V.int 2, V.int 1]
  t_WITH_A_ROW : mg "WITH_A_ROW" = some (.ref A.g_WITH_A_ROW)
  k_WITH_A_ROW : TupK K A.g_WITH_A_ROW [V.int 6, V.int 7, V.int 8]
  z_len : mg "len" = none
  z_list : mg "list" = none
  z_range : mg "range" = none
  z_sorted : mg "sorted" = none
  z_sum : mg "sum" = none
theorem vals_abs : ∀ {us : List Value} {xs : List V}, us.map absV = xs.map some → Vals xs us
  | [], [], _ => .nil
  | [], _ :: _, h => by cases h
  | _ :: _, [], h => by cases h
  | u :: us, x :: xs, h => by
    have h1 : absV u = some x := (List.cons.inj h).1
    have h2 := (List.cons.inj h).2
    refine .cons ?_ (vals_abs h2)
    cases u <;> simp [absV] at h1 <;> subst h1 <;> first | rfl | exact ⟨_, rfl⟩
theorem tupK_mk {K : PySem.W.Frag} {a : Addr} {od : Option Addr} {its : Array Value} {n : Nat} {sl : Array (Option Value)} {xs : List V} (h : K.lookup a = some ⟨.type "tuple", od, .seq its n, sl⟩) (e : its.toList.map absV = xs.map some) (hl : xs.length ≤ 1000) : TupK K a xs := by
  have v := vals_abs e
  have := v.length
  exact ⟨_, its, n, h, rfl, rfl, Nat.le_trans (by simp at this; omega) (by decide : 1000 ≤ sizeLine), v⟩
set_option maxHeartbeats 0 in
theorem tx_mk {K : PySem.W.Frag} {h : Heap} {mg : Str → Option Value} (X : K.In h) (G : h.Ns mainGlobals mg)
    {C_Answer : Addr}
    {C_Message : Addr}
    {C_Socket : Addr}
    {C_Machine : Addr}
    {f_Answer_init : Addr} {od_Answer_init an_Answer_init : Option Addr} {sl_Answer_init : Array (Option Value)} {oc_Answer_init kV_Answer_init dc_Answer_init pm_Answer_init cd_Answer_init ct_Answer_init : Value}
    {f_plain : Addr} {od_plain an_plain : Option Addr} {sl_plain : Array (Option Value)} {oc_plain kV_plain dc_plain pm_plain cd_plain ct_plain : Value}
    {f_packet_sent : Addr} {od_packet_sent an_packet_sent : Option Addr} {sl_packet_sent : Array (Option Value)} {oc_packet_sent kV_packet_sent dc_packet_sent pm_packet_sent cd_packet_sent ct_packet_sent : Value}
    {f_error_told : Addr} {od_error_told an_error_told : Option Addr} {sl_error_told : Array (Option Value)} {oc_error_told kV_error_told dc_error_told pm_error_told cd_error_told ct_error_told : Value}
    {f_something_now : Addr} {od_something_now an_something_now : Option Addr} {sl_something_now : Array (Option Value)} {oc_something_now kV_something_now dc_something_now pm_something_now cd_something_now ct_something_now : Value}
    {f_written : Addr} {od_written an_written : Option Addr} {sl_written : Array (Option Value)} {oc_written kV_written dc_written pm_written cd_written ct_written : Value}
    {f_number_at : Addr} {od_number_at an_number_at : Option Addr} {sl_number_at : Array (Option Value)} {oc_number_at kV_number_at dc_number_at pm_number_at cd_number_at ct_number_at : Value}
    {f_written_bytes : Addr} {od_written_bytes an_written_bytes : Option Addr} {sl_written_bytes : Array (Option Value)} {oc_written_bytes kV_written_bytes dc_written_bytes pm_written_bytes cd_written_bytes ct_written_bytes : Value}
    {f_two_by_two : Addr} {od_two_by_two an_two_by_two : Option Addr} {sl_two_by_two : Array (Option Value)} {oc_two_by_two kV_two_by_two dc_two_by_two pm_two_by_two cd_two_by_two ct_two_by_two : Value}
    {f_whole_total : Addr} {od_whole_total an_whole_total : Option Addr} {sl_whole_total : Array (Option Value)} {oc_whole_total kV_whole_total dc_whole_total pm_whole_total cd_whole_total ct_whole_total : Value}
    {f_datagram : Addr} {od_datagram an_datagram : Option Addr} {sl_datagram : Array (Option Value)} {oc_datagram kV_datagram dc_datagram pm_datagram cd_datagram ct_datagram : Value}
    {f_is_datagram : Addr} {od_is_datagram an_is_datagram : Option Addr} {sl_is_datagram : Array (Option Value)} {oc_is_datagram kV_is_datagram dc_is_datagram pm_is_datagram cd_is_datagram ct_is_datagram : Value}
    {f_port_from : Addr} {od_port_from an_port_from : Option Addr} {sl_port_from : Array (Option Value)} {oc_port_from kV_port_from dc_port_from pm_port_from cd_port_from ct_port_from : Value}
    {f_port_to : Addr} {od_port_to an_port_to : Option Addr} {sl_port_to : Array (Option Value)} {oc_port_to kV_port_to dc_port_to pm_port_to cd_port_to ct_port_to : Value}
    {f_body_of : Addr} {od_body_of an_body_of : Option Addr} {sl_body_of : Array (Option Value)} {oc_body_of kV_body_of dc_body_of pm_body_of cd_body_of ct_body_of : Value}
    {f_is_packet_start : Addr} {od_is_packet_start an_is_packet_start : Option Addr} {sl_is_packet_start : Array (Option Value)} {oc_is_packet_start kV_is_packet_start dc_is_packet_start pm_is_packet_start cd_is_packet_start ct_is_packet_start : Value}
    {f_packet_from : Addr} {od_packet_from an_packet_from : Option Addr} {sl_packet_from : Array (Option Value)} {oc_packet_from kV_packet_from dc_packet_from pm_packet_from cd_packet_from ct_packet_from : Value}
    {f_packet_to : Addr} {od_packet_to an_packet_to : Option Addr} {sl_packet_to : Array (Option Value)} {oc_packet_to kV_packet_to dc_packet_to pm_packet_to cd_packet_to ct_packet_to : Value}
    {f_Message_init : Addr} {od_Message_init an_Message_init : Option Addr} {sl_Message_init : Array (Option Value)} {oc_Message_init kV_Message_init dc_Message_init pm_Message_init cd_Message_init ct_Message_init : Value}
    {f_Socket_init : Addr} {od_Socket_init an_Socket_init : Option Addr} {sl_Socket_init : Array (Option Value)} {oc_Socket_init kV_Socket_init dc_Socket_init pm_Socket_init cd_Socket_init ct_Socket_init : Value}
    {f_meets : Addr} {od_meets an_meets : Option Addr} {sl_meets : Array (Option Value)} {oc_meets kV_meets dc_meets pm_meets cd_meets ct_meets : Value}
    {f_fits_at_any : Addr} {od_fits_at_any an_fits_at_any : Option Addr} {sl_fits_at_any : Array (Option Value)} {oc_fits_at_any kV_fits_at_any dc_fits_at_any pm_fits_at_any cd_fits_at_any ct_fits_at_any : Value}
    {f_fits : Addr} {od_fits an_fits : Option Addr} {sl_fits : Array (Option Value)} {oc_fits kV_fits dc_fits pm_fits cd_fits ct_fits : Value}
    {f_has_address : Addr} {od_has_address an_has_address : Option Addr} {sl_has_address : Array (Option Value)} {oc_has_address kV_has_address dc_has_address pm_has_address cd_has_address ct_has_address : Value}
    {f_rank : Addr} {od_rank an_rank : Option Addr} {sl_rank : Array (Option Value)} {oc_rank kV_rank dc_rank pm_rank cd_rank ct_rank : Value}
    {f_sent_there : Addr} {od_sent_there an_sent_there : Option Addr} {sl_sent_there : Array (Option Value)} {oc_sent_there kV_sent_there dc_sent_there pm_sent_there cd_sent_there ct_sent_there : Value}
    {f_has_something : Addr} {od_has_something an_has_something : Option Addr} {sl_has_something : Array (Option Value)} {oc_has_something kV_has_something dc_has_something pm_has_something cd_has_something ct_has_something : Value}
    {f_weight : Addr} {od_weight an_weight : Option Addr} {sl_weight : Array (Option Value)} {oc_weight kV_weight dc_weight pm_weight cd_weight ct_weight : Value}
    {f_has_room : Addr} {od_has_room an_has_room : Option Addr} {sl_has_room : Array (Option Value)} {oc_has_room kV_has_room dc_has_room pm_has_room cd_has_room ct_has_room : Value}
    {f_get_message : Addr} {od_get_message an_get_message : Option Addr} {sl_get_message : Array (Option Value)} {oc_get_message kV_get_message dc_get_message pm_get_message cd_get_message ct_get_message : Value}
    {f_drop_others : Addr} {od_drop_others an_drop_others : Option Addr} {sl_drop_others : Array (Option Value)} {oc_drop_others kV_drop_others dc_drop_others pm_drop_others cd_drop_others ct_drop_others : Value}
    {f_port_of_round : Addr} {od_port_of_round an_port_of_round : Option Addr} {sl_port_of_round : Array (Option Value)} {oc_port_of_round kV_port_of_round dc_port_of_round pm_port_of_round cd_port_of_round ct_port_of_round : Value}
    {f_Machine_init : Addr} {od_Machine_init an_Machine_init : Option Addr} {sl_Machine_init : Array (Option Value)} {oc_Machine_init kV_Machine_init dc_Machine_init pm_Machine_init cd_Machine_init ct_Machine_init : Value}
    {f_Machine_begins : Addr} {od_Machine_begins an_Machine_begins : Option Addr} {sl_Machine_begins : Array (Option Value)} {oc_Machine_begins kV_Machine_begins dc_Machine_begins pm_Machine_begins cd_Machine_begins ct_Machine_begins : Value}
    {f_Machine_opens : Addr} {od_Machine_opens an_Machine_opens : Option Addr} {sl_Machine_opens : Array (Option Value)} {oc_Machine_opens kV_Machine_opens dc_Machine_opens pm_Machine_opens cd_Machine_opens ct_Machine_opens : Value}
    {f_Machine_close : Addr} {od_Machine_close an_Machine_close : Option Addr} {sl_Machine_close : Array (Option Value)} {oc_Machine_close kV_Machine_close dc_Machine_close pm_Machine_close cd_Machine_close ct_Machine_close : Value}
    {f_Machine_bind : Addr} {od_Machine_bind an_Machine_bind : Option Addr} {sl_Machine_bind : Array (Option Value)} {oc_Machine_bind kV_Machine_bind dc_Machine_bind pm_Machine_bind cd_Machine_bind ct_Machine_bind : Value}
    {f_Machine_connect : Addr} {od_Machine_connect an_Machine_connect : Option Addr} {sl_Machine_connect : Array (Option Value)} {oc_Machine_connect kV_Machine_connect dc_Machine_connect pm_Machine_connect cd_Machine_connect ct_Machine_connect : Value}
    {f_Machine_hear : Addr} {od_Machine_hear an_Machine_hear : Option Addr} {sl_Machine_hear : Array (Option Value)} {oc_Machine_hear kV_Machine_hear dc_Machine_hear pm_Machine_hear cd_Machine_hear ct_Machine_hear : Value}
    {f_Machine_send : Addr} {od_Machine_send an_Machine_send : Option Addr} {sl_Machine_send : Array (Option Value)} {oc_Machine_send kV_Machine_send dc_Machine_send pm_Machine_send cd_Machine_send ct_Machine_send : Value}
    {f_Machine_came : Addr} {od_Machine_came an_Machine_came : Option Addr} {sl_Machine_came : Array (Option Value)} {oc_Machine_came kV_Machine_came dc_Machine_came pm_Machine_came cd_Machine_came ct_Machine_came : Value}
    {f_Machine_problem : Addr} {od_Machine_problem an_Machine_problem : Option Addr} {sl_Machine_problem : Array (Option Value)} {oc_Machine_problem kV_Machine_problem dc_Machine_problem pm_Machine_problem cd_Machine_problem ct_Machine_problem : Value}
    {f_Machine_take : Addr} {od_Machine_take an_Machine_take : Option Addr} {sl_Machine_take : Array (Option Value)} {oc_Machine_take kV_Machine_take dc_Machine_take pm_Machine_take cd_Machine_take ct_Machine_take : Value}
    {f_Machine_told : Addr} {od_Machine_told an_Machine_told : Option Addr} {sl_Machine_told : Array (Option Value)} {oc_Machine_told kV_Machine_told dc_Machine_told pm_Machine_told cd_Machine_told ct_Machine_told : Value}
    {f_Machine_let_peer_go : Addr} {od_Machine_let_peer_go an_Machine_let_peer_go : Option Addr} {sl_Machine_let_peer_go : Array (Option Value)} {oc_Machine_let_peer_go kV_Machine_let_peer_go dc_Machine_let_peer_go pm_Machine_let_peer_go cd_Machine_let_peer_go ct_Machine_let_peer_go : Value}
    {f_Machine_take_peer : Addr} {od_Machine_take_peer an_Machine_take_peer : Option Addr} {sl_Machine_take_peer : Array (Option Value)} {oc_Machine_take_peer kV_Machine_take_peer dc_Machine_take_peer pm_Machine_take_peer cd_Machine_take_peer ct_Machine_take_peer : Value}
    {f_Machine_is_met : Addr} {od_Machine_is_met an_Machine_is_met : Option Addr} {sl_Machine_is_met : Array (Option Value)} {oc_Machine_is_met kV_Machine_is_met dc_Machine_is_met pm_Machine_is_met cd_Machine_is_met ct_Machine_is_met : Value}
    {f_Machine_port_for : Addr} {od_Machine_port_for an_Machine_port_for : Option Addr} {sl_Machine_port_for : Array (Option Value)} {oc_Machine_port_for kV_Machine_port_for dc_Machine_port_for pm_Machine_port_for cd_Machine_port_for ct_Machine_port_for : Value}
    {f_Machine_free_port : Addr} {od_Machine_free_port an_Machine_free_port : Option Addr} {sl_Machine_free_port : Array (Option Value)} {oc_Machine_free_port kV_Machine_free_port dc_Machine_free_port pm_Machine_free_port cd_Machine_free_port ct_Machine_free_port : Value}
    {f_Machine_give : Addr} {od_Machine_give an_Machine_give : Option Addr} {sl_Machine_give : Array (Option Value)} {oc_Machine_give kV_Machine_give dc_Machine_give pm_Machine_give cd_Machine_give ct_Machine_give : Value}
    {f_Machine_hearing : Addr} {od_Machine_hearing an_Machine_hearing : Option Addr} {sl_Machine_hearing : Array (Option Value)} {oc_Machine_hearing kV_Machine_hearing dc_Machine_hearing pm_Machine_hearing cd_Machine_hearing ct_Machine_hearing : Value}
    {f_Machine_best_fitting : Addr} {od_Machine_best_fitting an_Machine_best_fitting : Option Addr} {sl_Machine_best_fitting : Array (Option Value)} {oc_Machine_best_fitting kV_Machine_best_fitting dc_Machine_best_fitting pm_Machine_best_fitting cd_Machine_best_fitting ct_Machine_best_fitting : Value}
    {f_Machine_hand_over : Addr} {od_Machine_hand_over an_Machine_hand_over : Option Addr} {sl_Machine_hand_over : Array (Option Value)} {oc_Machine_hand_over kV_Machine_hand_over dc_Machine_hand_over pm_Machine_hand_over cd_Machine_hand_over ct_Machine_hand_over : Value}
    {f_answers : Addr} {od_answers an_answers : Option Addr} {sl_answers : Array (Option Value)} {oc_answers kV_answers dc_answers pm_answers cd_answers ct_answers : Value}
    {f_called : Addr} {od_called an_called : Option Addr} {sl_called : Array (Option Value)} {oc_called kV_called dc_called pm_called cd_called ct_called : Value}
    {f_called_for_a_number : Addr} {od_called_for_a_number an_called_for_a_number : Option Addr} {sl_called_for_a_number : Array (Option Value)} {oc_called_for_a_number kV_called_for_a_number dc_called_for_a_number pm_called_for_a_number cd_called_for_a_number ct_called_for_a_number : Value}
    {t_PACKET_SENT : Tok}
    {t_ERROR_TOLD : Tok}
    {t_SOMETHING_NOW : Tok}
    {t_HEADER : Tok}
    {t_CARRIED_AS : Tok}
    {t_ROUND : Tok}
    {t_PACKET_START : Tok}
    {t_PACKET_FIRST : Tok}
    {t_MOST_WAITING : Tok}
    {t_MOST_WEIGHT : Tok}
    {t_OWN_WEIGHT : Tok}
    {t_NOT_AS_TOLD : Tok}
    {t_NO_SUCH_SOCKET : Tok}
    {t_NO_DATAGRAM : Tok}
    {t_IN_THE_WAY : Tok}
    {t_NONE_FREE : Tok}
    {t_TOO_LONG : Tok}
    {t_MOST_SOCKETS : Tok}
    {t_EVERYBODY : Tok}
    {t_LAST_PORT : Tok}
    {t_FIRST_GIVEN : Tok}
    {t_GIVEN_PORTS : Tok}
    {t_LONGEST_BODY : Tok}
    {t_LAST_KIND : Tok}
    {t_LAST_OF_ERROR : Tok}
    {t_MOST_TAKEN : Tok}
    {t_BEGINS : Tok}
    {t_OPENS : Tok}
    {t_CLOSE : Tok}
    {t_BIND : Tok}
    {t_CONNECT : Tok}
    {t_HEAR : Tok}
    {t_SEND : Tok}
    {t_CAME : Tok}
    {t_PROBLEM : Tok}
    {t_TAKE : Tok}
    {g_NO_PEER : Addr} {od_NO_PEER : Option Addr} {its_NO_PEER : Array Value} {n_NO_PEER : Nat} {sl_NO_PEER : Array (Option Value)}
    {g_HOW_MANY : Addr} {od_HOW_MANY : Option Addr} {its_HOW_MANY : Array Value} {n_HOW_MANY : Nat} {sl_HOW_MANY : Array (Option Value)}
    {g_WITH_A_ROW : Addr} {od_WITH_A_ROW : Option Addr} {its_WITH_A_ROW : Array Value} {n_WITH_A_ROW : Nat} {sl_WITH_A_ROW : Array (Option Value)}
    (aC_Answer : PySem.W.nsIn K mainGlobals "Answer" = some (some (.ref C_Answer)))
    (aC_Message : PySem.W.nsIn K mainGlobals "Message" = some (some (.ref C_Message)))
    (aC_Socket : PySem.W.nsIn K mainGlobals "Socket" = some (some (.ref C_Socket)))
    (aC_Machine : PySem.W.nsIn K mainGlobals "Machine" = some (some (.ref C_Machine)))
    (a_Answer_init : PySem.W.findIn K (.ref C_Answer) "__init__" = some (some (.ref f_Answer_init)))
    (i_Answer_init : PySem.W.isFn K (.ref f_Answer_init) = true)
    (l_Answer_init : K.lookup f_Answer_init = some ⟨oc_Answer_init, od_Answer_init, .func (PySem.W.fnOf "__init__" "Answer.__init__" (defArgs s_Answer_init) (defBody s_Answer_init) (defScope s_Answer_init) .none kV_Answer_init dc_Answer_init pm_Answer_init an_Answer_init cd_Answer_init ct_Answer_init), sl_Answer_init⟩)
    (q_Answer_init : PySem.W.codeIn K cd_Answer_init "Answer.__init__" = true)
    (k_Answer_init : PySem.W.keepIn K (.ref f_Answer_init) = true)
    (a_plain : PySem.W.nsIn K mainGlobals "plain" = some (some (.ref f_plain)))
    (l_plain : K.lookup f_plain = some ⟨oc_plain, od_plain, .func (PySem.W.fnOf "plain" "plain" (defArgs s_plain) (defBody s_plain) (defScope s_plain) .none kV_plain dc_plain pm_plain an_plain cd_plain ct_plain), sl_plain⟩)
    (q_plain : PySem.W.codeIn K cd_plain "plain" = true)
    (k_plain : PySem.W.keepIn K (.ref f_plain) = true)
    (a_packet_sent : PySem.W.nsIn K mainGlobals "packet_sent" = some (some (.ref f_packet_sent)))
    (l_packet_sent : K.lookup f_packet_sent = some ⟨oc_packet_sent, od_packet_sent, .func (PySem.W.fnOf "packet_sent" "packet_sent" (defArgs s_packet_sent) (defBody s_packet_sent) (defScope s_packet_sent) .none kV_packet_sent dc_packet_sent pm_packet_sent an_packet_sent cd_packet_sent ct_packet_sent), sl_packet_sent⟩)
    (q_packet_sent : PySem.W.codeIn K cd_packet_sent "packet_sent" = true)
    (k_packet_sent : PySem.W.keepIn K (.ref f_packet_sent) = true)
    (a_error_told : PySem.W.nsIn K mainGlobals "error_told" = some (some (.ref f_error_told)))
    (l_error_told : K.lookup f_error_told = some ⟨oc_error_told, od_error_told, .func (PySem.W.fnOf "error_told" "error_told" (defArgs s_error_told) (defBody s_error_told) (defScope s_error_told) .none kV_error_told dc_error_told pm_error_told an_error_told cd_error_told ct_error_told), sl_error_told⟩)
    (q_error_told : PySem.W.codeIn K cd_error_told "error_told" = true)
    (k_error_told : PySem.W.keepIn K (.ref f_error_told) = true)
    (a_something_now : PySem.W.nsIn K mainGlobals "something_now" = some (some (.ref f_something_now)))
    (l_something_now : K.lookup f_something_now = some ⟨oc_something_now, od_something_now, .func (PySem.W.fnOf "something_now" "something_now" (defArgs s_something_now) (defBody s_something_now) (defScope s_something_now) .none kV_something_now dc_something_now pm_something_now an_something_now cd_something_now ct_something_now), sl_something_now⟩)
    (q_something_now : PySem.W.codeIn K cd_something_now "something_now" = true)
    (k_something_now : PySem.W.keepIn K (.ref f_something_now) = true)
    (a_written : PySem.W.nsIn K mainGlobals "written" = some (some (.ref f_written)))
    (l_written : K.lookup f_written = some ⟨oc_written, od_written, .func (PySem.W.fnOf "written" "written" (defArgs s_written) (defBody s_written) (defScope s_written) .none kV_written dc_written pm_written an_written cd_written ct_written), sl_written⟩)
    (q_written : PySem.W.codeIn K cd_written "written" = true)
    (k_written : PySem.W.keepIn K (.ref f_written) = true)
    (a_number_at : PySem.W.nsIn K mainGlobals "number_at" = some (some (.ref f_number_at)))
    (l_number_at : K.lookup f_number_at = some ⟨oc_number_at, od_number_at, .func (PySem.W.fnOf "number_at" "number_at" (defArgs s_number_at) (defBody s_number_at) (defScope s_number_at) .none kV_number_at dc_number_at pm_number_at an_number_at cd_number_at ct_number_at), sl_number_at⟩)
    (q_number_at : PySem.W.codeIn K cd_number_at "number_at" = true)
    (k_number_at : PySem.W.keepIn K (.ref f_number_at) = true)
    (a_written_bytes : PySem.W.nsIn K mainGlobals "written_bytes" = some (some (.ref f_written_bytes)))
    (l_written_bytes : K.lookup f_written_bytes = some ⟨oc_written_bytes, od_written_bytes, .func (PySem.W.fnOf "written_bytes" "written_bytes" (defArgs s_written_bytes) (defBody s_written_bytes) (defScope s_written_bytes) .none kV_written_bytes dc_written_bytes pm_written_bytes an_written_bytes cd_written_bytes ct_written_bytes), sl_written_bytes⟩)
    (q_written_bytes : PySem.W.codeIn K cd_written_bytes "written_bytes" = true)
    (k_written_bytes : PySem.W.keepIn K (.ref f_written_bytes) = true)
    (a_two_by_two : PySem.W.nsIn K mainGlobals "two_by_two" = some (some (.ref f_two_by_two)))
    (l_two_by_two : K.lookup f_two_by_two = some ⟨oc_two_by_two, od_two_by_two, .func (PySem.W.fnOf "two_by_two" "two_by_two" (defArgs s_two_by_two) (defBody s_two_by_two) (defScope s_two_by_two) .none kV_two_by_two dc_two_by_two pm_two_by_two an_two_by_two cd_two_by_two ct_two_by_two), sl_two_by_two⟩)
    (q_two_by_two : PySem.W.codeIn K cd_two_by_two "two_by_two" = true)
    (k_two_by_two : PySem.W.keepIn K (.ref f_two_by_two) = true)
    (a_whole_total : PySem.W.nsIn K mainGlobals "whole_total" = some (some (.ref f_whole_total)))
    (l_whole_total : K.lookup f_whole_total = some ⟨oc_whole_total, od_whole_total, .func (PySem.W.fnOf "whole_total" "whole_total" (defArgs s_whole_total) (defBody s_whole_total) (defScope s_whole_total) .none kV_whole_total dc_whole_total pm_whole_total an_whole_total cd_whole_total ct_whole_total), sl_whole_total⟩)
    (q_whole_total : PySem.W.codeIn K cd_whole_total "whole_total" = true)
    (k_whole_total : PySem.W.keepIn K (.ref f_whole_total) = true)
    (a_datagram : PySem.W.nsIn K mainGlobals "datagram" = some (some (.ref f_datagram)))
    (l_datagram : K.lookup f_datagram = some ⟨oc_datagram, od_datagram, .func (PySem.W.fnOf "datagram" "datagram" (defArgs s_datagram) (defBody s_datagram) (defScope s_datagram) .none kV_datagram dc_datagram pm_datagram an_datagram cd_datagram ct_datagram), sl_datagram⟩)
    (q_datagram : PySem.W.codeIn K cd_datagram "datagram" = true)
    (k_datagram : PySem.W.keepIn K (.ref f_datagram) = true)
    (a_is_datagram : PySem.W.nsIn K mainGlobals "is_datagram" = some (some (.ref f_is_datagram)))
    (l_is_datagram : K.lookup f_is_datagram = some ⟨oc_is_datagram, od_is_datagram, .func (PySem.W.fnOf "is_datagram" "is_datagram" (defArgs s_is_datagram) (defBody s_is_datagram) (defScope s_is_datagram) .none kV_is_datagram dc_is_datagram pm_is_datagram an_is_datagram cd_is_datagram ct_is_datagram), sl_is_datagram⟩)
    (q_is_datagram : PySem.W.codeIn K cd_is_datagram "is_datagram" = true)
    (k_is_datagram : PySem.W.keepIn K (.ref f_is_datagram) = true)
    (a_port_from : PySem.W.nsIn K mainGlobals "port_from" = some (some (.ref f_port_from)))
    (l_port_from : K.lookup f_port_from = some ⟨oc_port_from, od_port_from, .func (PySem.W.fnOf "port_from" "port_from" (defArgs s_port_from) (defBody s_port_from) (defScope s_port_from) .none kV_port_from dc_port_from pm_port_from an_port_from cd_port_from ct_port_from), sl_port_from⟩)
    (q_port_from : PySem.W.codeIn K cd_port_from "port_from" = true)
    (k_port_from : PySem.W.keepIn K (.ref f_port_from) = true)
    (a_port_to : PySem.W.nsIn K mainGlobals "port_to" = some (some (.ref f_port_to)))
    (l_port_to : K.lookup f_port_to = some ⟨oc_port_to, od_port_to, .func (PySem.W.fnOf "port_to" "port_to" (defArgs s_port_to) (defBody s_port_to) (defScope s_port_to) .none kV_port_to dc_port_to pm_port_to an_port_to cd_port_to ct_port_to), sl_port_to⟩)
    (q_port_to : PySem.W.codeIn K cd_port_to "port_to" = true)
    (k_port_to : PySem.W.keepIn K (.ref f_port_to) = true)
    (a_body_of : PySem.W.nsIn K mainGlobals "body_of" = some (some (.ref f_body_of)))
    (l_body_of : K.lookup f_body_of = some ⟨oc_body_of, od_body_of, .func (PySem.W.fnOf "body_of" "body_of" (defArgs s_body_of) (defBody s_body_of) (defScope s_body_of) .none kV_body_of dc_body_of pm_body_of an_body_of cd_body_of ct_body_of), sl_body_of⟩)
    (q_body_of : PySem.W.codeIn K cd_body_of "body_of" = true)
    (k_body_of : PySem.W.keepIn K (.ref f_body_of) = true)
    (a_is_packet_start : PySem.W.nsIn K mainGlobals "is_packet_start" = some (some (.ref f_is_packet_start)))
    (l_is_packet_start : K.lookup f_is_packet_start = some ⟨oc_is_packet_start, od_is_packet_start, .func (PySem.W.fnOf "is_packet_start" "is_packet_start" (defArgs s_is_packet_start) (defBody s_is_packet_start) (defScope s_is_packet_start) .none kV_is_packet_start dc_is_packet_start pm_is_packet_start an_is_packet_start cd_is_packet_start ct_is_packet_start), sl_is_packet_start⟩)
    (q_is_packet_start : PySem.W.codeIn K cd_is_packet_start "is_packet_start" = true)
    (k_is_packet_start : PySem.W.keepIn K (.ref f_is_packet_start) = true)
    (a_packet_from : PySem.W.nsIn K mainGlobals "packet_from" = some (some (.ref f_packet_from)))
    (l_packet_from : K.lookup f_packet_from = some ⟨oc_packet_from, od_packet_from, .func (PySem.W.fnOf "packet_from" "packet_from" (defArgs s_packet_from) (defBody s_packet_from) (defScope s_packet_from) .none kV_packet_from dc_packet_from pm_packet_from an_packet_from cd_packet_from ct_packet_from), sl_packet_from⟩)
    (q_packet_from : PySem.W.codeIn K cd_packet_from "packet_from" = true)
    (k_packet_from : PySem.W.keepIn K (.ref f_packet_from) = true)
    (a_packet_to : PySem.W.nsIn K mainGlobals "packet_to" = some (some (.ref f_packet_to)))
    (l_packet_to : K.lookup f_packet_to = some ⟨oc_packet_to, od_packet_to, .func (PySem.W.fnOf "packet_to" "packet_to" (defArgs s_packet_to) (defBody s_packet_to) (defScope s_packet_to) .none kV_packet_to dc_packet_to pm_packet_to an_packet_to cd_packet_to ct_packet_to), sl_packet_to⟩)
    (q_packet_to : PySem.W.codeIn K cd_packet_to "packet_to" = true)
    (k_packet_to : PySem.W.keepIn K (.ref f_packet_to) = true)
    (a_Message_init : PySem.W.findIn K (.ref C_Message) "__init__" = some (some (.ref f_Message_init)))
    (i_Message_init : PySem.W.isFn K (.ref f_Message_init) = true)
    (l_Message_init : K.lookup f_Message_init = some ⟨oc_Message_init, od_Message_init, .func (PySem.W.fnOf "__init__" "Message.__init__" (defArgs s_Message_init) (defBody s_Message_init) (defScope s_Message_init) .none kV_Message_init dc_Message_init pm_Message_init an_Message_init cd_Message_init ct_Message_init), sl_Message_init⟩)
    (q_Message_init : PySem.W.codeIn K cd_Message_init "Message.__init__" = true)
    (k_Message_init : PySem.W.keepIn K (.ref f_Message_init) = true)
    (a_Socket_init : PySem.W.findIn K (.ref C_Socket) "__init__" = some (some (.ref f_Socket_init)))
    (i_Socket_init : PySem.W.isFn K (.ref f_Socket_init) = true)
    (l_Socket_init : K.lookup f_Socket_init = some ⟨oc_Socket_init, od_Socket_init, .func (PySem.W.fnOf "__init__" "Socket.__init__" (defArgs s_Socket_init) (defBody s_Socket_init) (defScope s_Socket_init) .none kV_Socket_init dc_Socket_init pm_Socket_init an_Socket_init cd_Socket_init ct_Socket_init), sl_Socket_init⟩)
    (q_Socket_init : PySem.W.codeIn K cd_Socket_init "Socket.__init__" = true)
    (k_Socket_init : PySem.W.keepIn K (.ref f_Socket_init) = true)
    (a_meets : PySem.W.nsIn K mainGlobals "meets" = some (some (.ref f_meets)))
    (l_meets : K.lookup f_meets = some ⟨oc_meets, od_meets, .func (PySem.W.fnOf "meets" "meets" (defArgs s_meets) (defBody s_meets) (defScope s_meets) .none kV_meets dc_meets pm_meets an_meets cd_meets ct_meets), sl_meets⟩)
    (q_meets : PySem.W.codeIn K cd_meets "meets" = true)
    (k_meets : PySem.W.keepIn K (.ref f_meets) = true)
    (a_fits_at_any : PySem.W.nsIn K mainGlobals "fits_at_any" = some (some (.ref f_fits_at_any)))
    (l_fits_at_any : K.lookup f_fits_at_any = some ⟨oc_fits_at_any, od_fits_at_any, .func (PySem.W.fnOf "fits_at_any" "fits_at_any" (defArgs s_fits_at_any) (defBody s_fits_at_any) (defScope s_fits_at_any) .none kV_fits_at_any dc_fits_at_any pm_fits_at_any an_fits_at_any cd_fits_at_any ct_fits_at_any), sl_fits_at_any⟩)
    (q_fits_at_any : PySem.W.codeIn K cd_fits_at_any "fits_at_any" = true)
    (k_fits_at_any : PySem.W.keepIn K (.ref f_fits_at_any) = true)
    (a_fits : PySem.W.nsIn K mainGlobals "fits" = some (some (.ref f_fits)))
    (l_fits : K.lookup f_fits = some ⟨oc_fits, od_fits, .func (PySem.W.fnOf "fits" "fits" (defArgs s_fits) (defBody s_fits) (defScope s_fits) .none kV_fits dc_fits pm_fits an_fits cd_fits ct_fits), sl_fits⟩)
    (q_fits : PySem.W.codeIn K cd_fits "fits" = true)
    (k_fits : PySem.W.keepIn K (.ref f_fits) = true)
    (a_has_address : PySem.W.nsIn K mainGlobals "has_address" = some (some (.ref f_has_address)))
    (l_has_address : K.lookup f_has_address = some ⟨oc_has_address, od_has_address, .func (PySem.W.fnOf "has_address" "has_address" (defArgs s_has_address) (defBody s_has_address) (defScope s_has_address) .none kV_has_address dc_has_address pm_has_address an_has_address cd_has_address ct_has_address), sl_has_address⟩)
    (q_has_address : PySem.W.codeIn K cd_has_address "has_address" = true)
    (k_has_address : PySem.W.keepIn K (.ref f_has_address) = true)
    (a_rank : PySem.W.nsIn K mainGlobals "rank" = some (some (.ref f_rank)))
    (l_rank : K.lookup f_rank = some ⟨oc_rank, od_rank, .func (PySem.W.fnOf "rank" "rank" (defArgs s_rank) (defBody s_rank) (defScope s_rank) .none kV_rank dc_rank pm_rank an_rank cd_rank ct_rank), sl_rank⟩)
    (q_rank : PySem.W.codeIn K cd_rank "rank" = true)
    (k_rank : PySem.W.keepIn K (.ref f_rank) = true)
    (a_sent_there : PySem.W.nsIn K mainGlobals "sent_there" = some (some (.ref f_sent_there)))
    (l_sent_there : K.lookup f_sent_there = some ⟨oc_sent_there, od_sent_there, .func (PySem.W.fnOf "sent_there" "sent_there" (defArgs s_sent_there) (defBody s_sent_there) (defScope s_sent_there) .none kV_sent_there dc_sent_there pm_sent_there an_sent_there cd_sent_there ct_sent_there), sl_sent_there⟩)
    (q_sent_there : PySem.W.codeIn K cd_sent_there "sent_there" = true)
    (k_sent_there : PySem.W.keepIn K (.ref f_sent_there) = true)
    (a_has_something : PySem.W.nsIn K mainGlobals "has_something" = some (some (.ref f_has_something)))
    (l_has_something : K.lookup f_has_something = some ⟨oc_has_something, od_has_something, .func (PySem.W.fnOf "has_something" "has_something" (defArgs s_has_something) (defBody s_has_something) (defScope s_has_something) .none kV_has_something dc_has_something pm_has_something an_has_something cd_has_something ct_has_something), sl_has_something⟩)
    (q_has_something : PySem.W.codeIn K cd_has_something "has_something" = true)
    (k_has_something : PySem.W.keepIn K (.ref f_has_something) = true)
    (a_weight : PySem.W.nsIn K mainGlobals "weight" = some (some (.ref f_weight)))
    (l_weight : K.lookup f_weight = some ⟨oc_weight, od_weight, .func (PySem.W.fnOf "weight" "weight" (defArgs s_weight) (defBody s_weight) (defScope s_weight) .none kV_weight dc_weight pm_weight an_weight cd_weight ct_weight), sl_weight⟩)
    (q_weight : PySem.W.codeIn K cd_weight "weight" = true)
    (k_weight : PySem.W.keepIn K (.ref f_weight) = true)
    (a_has_room : PySem.W.nsIn K mainGlobals "has_room" = some (some (.ref f_has_room)))
    (l_has_room : K.lookup f_has_room = some ⟨oc_has_room, od_has_room, .func (PySem.W.fnOf "has_room" "has_room" (defArgs s_has_room) (defBody s_has_room) (defScope s_has_room) .none kV_has_room dc_has_room pm_has_room an_has_room cd_has_room ct_has_room), sl_has_room⟩)
    (q_has_room : PySem.W.codeIn K cd_has_room "has_room" = true)
    (k_has_room : PySem.W.keepIn K (.ref f_has_room) = true)
    (a_get_message : PySem.W.nsIn K mainGlobals "get_message" = some (some (.ref f_get_message)))
    (l_get_message : K.lookup f_get_message = some ⟨oc_get_message, od_get_message, .func (PySem.W.fnOf "get_message" "get_message" (defArgs s_get_message) (defBody s_get_message) (defScope s_get_message) .none kV_get_message dc_get_message pm_get_message an_get_message cd_get_message ct_get_message), sl_get_message⟩)
    (q_get_message : PySem.W.codeIn K cd_get_message "get_message" = true)
    (k_get_message : PySem.W.keepIn K (.ref f_get_message) = true)
    (a_drop_others : PySem.W.nsIn K mainGlobals "drop_others" = some (some (.ref f_drop_others)))
    (l_drop_others : K.lookup f_drop_others = some ⟨oc_drop_others, od_drop_others, .func (PySem.W.fnOf "drop_others" "drop_others" (defArgs s_drop_others) (defBody s_drop_others) (defScope s_drop_others) .none kV_drop_others dc_drop_others pm_drop_others an_drop_others cd_drop_others ct_drop_others), sl_drop_others⟩)
    (q_drop_others : PySem.W.codeIn K cd_drop_others "drop_others" = true)
    (k_drop_others : PySem.W.keepIn K (.ref f_drop_others) = true)
    (a_port_of_round : PySem.W.nsIn K mainGlobals "port_of_round" = some (some (.ref f_port_of_round)))
    (l_port_of_round : K.lookup f_port_of_round = some ⟨oc_port_of_round, od_port_of_round, .func (PySem.W.fnOf "port_of_round" "port_of_round" (defArgs s_port_of_round) (defBody s_port_of_round) (defScope s_port_of_round) .none kV_port_of_round dc_port_of_round pm_port_of_round an_port_of_round cd_port_of_round ct_port_of_round), sl_port_of_round⟩)
    (q_port_of_round : PySem.W.codeIn K cd_port_of_round "port_of_round" = true)
    (k_port_of_round : PySem.W.keepIn K (.ref f_port_of_round) = true)
    (a_Machine_init : PySem.W.findIn K (.ref C_Machine) "__init__" = some (some (.ref f_Machine_init)))
    (i_Machine_init : PySem.W.isFn K (.ref f_Machine_init) = true)
    (l_Machine_init : K.lookup f_Machine_init = some ⟨oc_Machine_init, od_Machine_init, .func (PySem.W.fnOf "__init__" "Machine.__init__" (defArgs s_Machine_init) (defBody s_Machine_init) (defScope s_Machine_init) .none kV_Machine_init dc_Machine_init pm_Machine_init an_Machine_init cd_Machine_init ct_Machine_init), sl_Machine_init⟩)
    (q_Machine_init : PySem.W.codeIn K cd_Machine_init "Machine.__init__" = true)
    (k_Machine_init : PySem.W.keepIn K (.ref f_Machine_init) = true)
    (a_Machine_begins : PySem.W.findIn K (.ref C_Machine) "begins" = some (some (.ref f_Machine_begins)))
    (i_Machine_begins : PySem.W.isFn K (.ref f_Machine_begins) = true)
    (l_Machine_begins : K.lookup f_Machine_begins = some ⟨oc_Machine_begins, od_Machine_begins, .func (PySem.W.fnOf "begins" "Machine.begins" (defArgs s_Machine_begins) (defBody s_Machine_begins) (defScope s_Machine_begins) .none kV_Machine_begins dc_Machine_begins pm_Machine_begins an_Machine_begins cd_Machine_begins ct_Machine_begins), sl_Machine_begins⟩)
    (q_Machine_begins : PySem.W.codeIn K cd_Machine_begins "Machine.begins" = true)
    (k_Machine_begins : PySem.W.keepIn K (.ref f_Machine_begins) = true)
    (a_Machine_opens : PySem.W.findIn K (.ref C_Machine) "opens" = some (some (.ref f_Machine_opens)))
    (i_Machine_opens : PySem.W.isFn K (.ref f_Machine_opens) = true)
    (l_Machine_opens : K.lookup f_Machine_opens = some ⟨oc_Machine_opens, od_Machine_opens, .func (PySem.W.fnOf "opens" "Machine.opens" (defArgs s_Machine_opens) (defBody s_Machine_opens) (defScope s_Machine_opens) .none kV_Machine_opens dc_Machine_opens pm_Machine_opens an_Machine_opens cd_Machine_opens ct_Machine_opens), sl_Machine_opens⟩)
    (q_Machine_opens : PySem.W.codeIn K cd_Machine_opens "Machine.opens" = true)
    (k_Machine_opens : PySem.W.keepIn K (.ref f_Machine_opens) = true)
    (a_Machine_close : PySem.W.findIn K (.ref C_Machine) "close" = some (some (.ref f_Machine_close)))
    (i_Machine_close : PySem.W.isFn K (.ref f_Machine_close) = true)
    (l_Machine_close : K.lookup f_Machine_close = some ⟨oc_Machine_close, od_Machine_close, .func (PySem.W.fnOf "close" "Machine.close" (defArgs s_Machine_close) (defBody s_Machine_close) (defScope s_Machine_close) .none kV_Machine_close dc_Machine_close pm_Machine_close an_Machine_close cd_Machine_close ct_Machine_close), sl_Machine_close⟩)
    (q_Machine_close : PySem.W.codeIn K cd_Machine_close "Machine.close" = true)
    (k_Machine_close : PySem.W.keepIn K (.ref f_Machine_close) = true)
    (a_Machine_bind : PySem.W.findIn K (.ref C_Machine) "bind" = some (some (.ref f_Machine_bind)))
    (i_Machine_bind : PySem.W.isFn K (.ref f_Machine_bind) = true)
    (l_Machine_bind : K.lookup f_Machine_bind = some ⟨oc_Machine_bind, od_Machine_bind, .func (PySem.W.fnOf "bind" "Machine.bind" (defArgs s_Machine_bind) (defBody s_Machine_bind) (defScope s_Machine_bind) .none kV_Machine_bind dc_Machine_bind pm_Machine_bind an_Machine_bind cd_Machine_bind ct_Machine_bind), sl_Machine_bind⟩)
    (q_Machine_bind : PySem.W.codeIn K cd_Machine_bind "Machine.bind" = true)
    (k_Machine_bind : PySem.W.keepIn K (.ref f_Machine_bind) = true)
    (a_Machine_connect : PySem.W.findIn K (.ref C_Machine) "connect" = some (some (.ref f_Machine_connect)))
    (i_Machine_connect : PySem.W.isFn K (.ref f_Machine_connect) = true)
    (l_Machine_connect : K.lookup f_Machine_connect = some ⟨oc_Machine_connect, od_Machine_connect, .func (PySem.W.fnOf "connect" "Machine.connect" (defArgs s_Machine_connect) (defBody s_Machine_connect) (defScope s_Machine_connect) .none kV_Machine_connect dc_Machine_connect pm_Machine_connect an_Machine_connect cd_Machine_connect ct_Machine_connect), sl_Machine_connect⟩)
    (q_Machine_connect : PySem.W.codeIn K cd_Machine_connect "Machine.connect" = true)
    (k_Machine_connect : PySem.W.keepIn K (.ref f_Machine_connect) = true)
    (a_Machine_hear : PySem.W.findIn K (.ref C_Machine) "hear" = some (some (.ref f_Machine_hear)))
    (i_Machine_hear : PySem.W.isFn K (.ref f_Machine_hear) = true)
    (l_Machine_hear : K.lookup f_Machine_hear = some ⟨oc_Machine_hear, od_Machine_hear, .func (PySem.W.fnOf "hear" "Machine.hear" (defArgs s_Machine_hear) (defBody s_Machine_hear) (defScope s_Machine_hear) .none kV_Machine_hear dc_Machine_hear pm_Machine_hear an_Machine_hear cd_Machine_hear ct_Machine_hear), sl_Machine_hear⟩)
    (q_Machine_hear : PySem.W.codeIn K cd_Machine_hear "Machine.hear" = true)
    (k_Machine_hear : PySem.W.keepIn K (.ref f_Machine_hear) = true)
    (a_Machine_send : PySem.W.findIn K (.ref C_Machine) "send" = some (some (.ref f_Machine_send)))
    (i_Machine_send : PySem.W.isFn K (.ref f_Machine_send) = true)
    (l_Machine_send : K.lookup f_Machine_send = some ⟨oc_Machine_send, od_Machine_send, .func (PySem.W.fnOf "send" "Machine.send" (defArgs s_Machine_send) (defBody s_Machine_send) (defScope s_Machine_send) .none kV_Machine_send dc_Machine_send pm_Machine_send an_Machine_send cd_Machine_send ct_Machine_send), sl_Machine_send⟩)
    (q_Machine_send : PySem.W.codeIn K cd_Machine_send "Machine.send" = true)
    (k_Machine_send : PySem.W.keepIn K (.ref f_Machine_send) = true)
    (a_Machine_came : PySem.W.findIn K (.ref C_Machine) "came" = some (some (.ref f_Machine_came)))
    (i_Machine_came : PySem.W.isFn K (.ref f_Machine_came) = true)
    (l_Machine_came : K.lookup f_Machine_came = some ⟨oc_Machine_came, od_Machine_came, .func (PySem.W.fnOf "came" "Machine.came" (defArgs s_Machine_came) (defBody s_Machine_came) (defScope s_Machine_came) .none kV_Machine_came dc_Machine_came pm_Machine_came an_Machine_came cd_Machine_came ct_Machine_came), sl_Machine_came⟩)
    (q_Machine_came : PySem.W.codeIn K cd_Machine_came "Machine.came" = true)
    (k_Machine_came : PySem.W.keepIn K (.ref f_Machine_came) = true)
    (a_Machine_problem : PySem.W.findIn K (.ref C_Machine) "problem" = some (some (.ref f_Machine_problem)))
    (i_Machine_problem : PySem.W.isFn K (.ref f_Machine_problem) = true)
    (l_Machine_problem : K.lookup f_Machine_problem = some ⟨oc_Machine_problem, od_Machine_problem, .func (PySem.W.fnOf "problem" "Machine.problem" (defArgs s_Machine_problem) (defBody s_Machine_problem) (defScope s_Machine_problem) .none kV_Machine_problem dc_Machine_problem pm_Machine_problem an_Machine_problem cd_Machine_problem ct_Machine_problem), sl_Machine_problem⟩)
    (q_Machine_problem : PySem.W.codeIn K cd_Machine_problem "Machine.problem" = true)
    (k_Machine_problem : PySem.W.keepIn K (.ref f_Machine_problem) = true)
    (a_Machine_take : PySem.W.findIn K (.ref C_Machine) "take" = some (some (.ref f_Machine_take)))
    (i_Machine_take : PySem.W.isFn K (.ref f_Machine_take) = true)
    (l_Machine_take : K.lookup f_Machine_take = some ⟨oc_Machine_take, od_Machine_take, .func (PySem.W.fnOf "take" "Machine.take" (defArgs s_Machine_take) (defBody s_Machine_take) (defScope s_Machine_take) .none kV_Machine_take dc_Machine_take pm_Machine_take an_Machine_take cd_Machine_take ct_Machine_take), sl_Machine_take⟩)
    (q_Machine_take : PySem.W.codeIn K cd_Machine_take "Machine.take" = true)
    (k_Machine_take : PySem.W.keepIn K (.ref f_Machine_take) = true)
    (a_Machine_told : PySem.W.findIn K (.ref C_Machine) "told" = some (some (.ref f_Machine_told)))
    (i_Machine_told : PySem.W.isFn K (.ref f_Machine_told) = true)
    (l_Machine_told : K.lookup f_Machine_told = some ⟨oc_Machine_told, od_Machine_told, .func (PySem.W.fnOf "told" "Machine.told" (defArgs s_Machine_told) (defBody s_Machine_told) (defScope s_Machine_told) .none kV_Machine_told dc_Machine_told pm_Machine_told an_Machine_told cd_Machine_told ct_Machine_told), sl_Machine_told⟩)
    (q_Machine_told : PySem.W.codeIn K cd_Machine_told "Machine.told" = true)
    (k_Machine_told : PySem.W.keepIn K (.ref f_Machine_told) = true)
    (a_Machine_let_peer_go : PySem.W.findIn K (.ref C_Machine) "let_peer_go" = some (some (.ref f_Machine_let_peer_go)))
    (i_Machine_let_peer_go : PySem.W.isFn K (.ref f_Machine_let_peer_go) = true)
    (l_Machine_let_peer_go : K.lookup f_Machine_let_peer_go = some ⟨oc_Machine_let_peer_go, od_Machine_let_peer_go, .func (PySem.W.fnOf "let_peer_go" "Machine.let_peer_go" (defArgs s_Machine_let_peer_go) (defBody s_Machine_let_peer_go) (defScope s_Machine_let_peer_go) .none kV_Machine_let_peer_go dc_Machine_let_peer_go pm_Machine_let_peer_go an_Machine_let_peer_go cd_Machine_let_peer_go ct_Machine_let_peer_go), sl_Machine_let_peer_go⟩)
    (q_Machine_let_peer_go : PySem.W.codeIn K cd_Machine_let_peer_go "Machine.let_peer_go" = true)
    (k_Machine_let_peer_go : PySem.W.keepIn K (.ref f_Machine_let_peer_go) = true)
    (a_Machine_take_peer : PySem.W.findIn K (.ref C_Machine) "take_peer" = some (some (.ref f_Machine_take_peer)))
    (i_Machine_take_peer : PySem.W.isFn K (.ref f_Machine_take_peer) = true)
    (l_Machine_take_peer : K.lookup f_Machine_take_peer = some ⟨oc_Machine_take_peer, od_Machine_take_peer, .func (PySem.W.fnOf "take_peer" "Machine.take_peer" (defArgs s_Machine_take_peer) (defBody s_Machine_take_peer) (defScope s_Machine_take_peer) .none kV_Machine_take_peer dc_Machine_take_peer pm_Machine_take_peer an_Machine_take_peer cd_Machine_take_peer ct_Machine_take_peer), sl_Machine_take_peer⟩)
    (q_Machine_take_peer : PySem.W.codeIn K cd_Machine_take_peer "Machine.take_peer" = true)
    (k_Machine_take_peer : PySem.W.keepIn K (.ref f_Machine_take_peer) = true)
    (a_Machine_is_met : PySem.W.findIn K (.ref C_Machine) "is_met" = some (some (.ref f_Machine_is_met)))
    (i_Machine_is_met : PySem.W.isFn K (.ref f_Machine_is_met) = true)
    (l_Machine_is_met : K.lookup f_Machine_is_met = some ⟨oc_Machine_is_met, od_Machine_is_met, .func (PySem.W.fnOf "is_met" "Machine.is_met" (defArgs s_Machine_is_met) (defBody s_Machine_is_met) (defScope s_Machine_is_met) .none kV_Machine_is_met dc_Machine_is_met pm_Machine_is_met an_Machine_is_met cd_Machine_is_met ct_Machine_is_met), sl_Machine_is_met⟩)
    (q_Machine_is_met : PySem.W.codeIn K cd_Machine_is_met "Machine.is_met" = true)
    (k_Machine_is_met : PySem.W.keepIn K (.ref f_Machine_is_met) = true)
    (a_Machine_port_for : PySem.W.findIn K (.ref C_Machine) "port_for" = some (some (.ref f_Machine_port_for)))
    (i_Machine_port_for : PySem.W.isFn K (.ref f_Machine_port_for) = true)
    (l_Machine_port_for : K.lookup f_Machine_port_for = some ⟨oc_Machine_port_for, od_Machine_port_for, .func (PySem.W.fnOf "port_for" "Machine.port_for" (defArgs s_Machine_port_for) (defBody s_Machine_port_for) (defScope s_Machine_port_for) .none kV_Machine_port_for dc_Machine_port_for pm_Machine_port_for an_Machine_port_for cd_Machine_port_for ct_Machine_port_for), sl_Machine_port_for⟩)
    (q_Machine_port_for : PySem.W.codeIn K cd_Machine_port_for "Machine.port_for" = true)
    (k_Machine_port_for : PySem.W.keepIn K (.ref f_Machine_port_for) = true)
    (a_Machine_free_port : PySem.W.findIn K (.ref C_Machine) "free_port" = some (some (.ref f_Machine_free_port)))
    (i_Machine_free_port : PySem.W.isFn K (.ref f_Machine_free_port) = true)
    (l_Machine_free_port : K.lookup f_Machine_free_port = some ⟨oc_Machine_free_port, od_Machine_free_port, .func (PySem.W.fnOf "free_port" "Machine.free_port" (defArgs s_Machine_free_port) (defBody s_Machine_free_port) (defScope s_Machine_free_port) .none kV_Machine_free_port dc_Machine_free_port pm_Machine_free_port an_Machine_free_port cd_Machine_free_port ct_Machine_free_port), sl_Machine_free_port⟩)
    (q_Machine_free_port : PySem.W.codeIn K cd_Machine_free_port "Machine.free_port" = true)
    (k_Machine_free_port : PySem.W.keepIn K (.ref f_Machine_free_port) = true)
    (a_Machine_give : PySem.W.findIn K (.ref C_Machine) "give" = some (some (.ref f_Machine_give)))
    (i_Machine_give : PySem.W.isFn K (.ref f_Machine_give) = true)
    (l_Machine_give : K.lookup f_Machine_give = some ⟨oc_Machine_give, od_Machine_give, .func (PySem.W.fnOf "give" "Machine.give" (defArgs s_Machine_give) (defBody s_Machine_give) (defScope s_Machine_give) .none kV_Machine_give dc_Machine_give pm_Machine_give an_Machine_give cd_Machine_give ct_Machine_give), sl_Machine_give⟩)
    (q_Machine_give : PySem.W.codeIn K cd_Machine_give "Machine.give" = true)
    (k_Machine_give : PySem.W.keepIn K (.ref f_Machine_give) = true)
    (a_Machine_hearing : PySem.W.findIn K (.ref C_Machine) "hearing" = some (some (.ref f_Machine_hearing)))
    (i_Machine_hearing : PySem.W.isFn K (.ref f_Machine_hearing) = true)
    (l_Machine_hearing : K.lookup f_Machine_hearing = some ⟨oc_Machine_hearing, od_Machine_hearing, .func (PySem.W.fnOf "hearing" "Machine.hearing" (defArgs s_Machine_hearing) (defBody s_Machine_hearing) (defScope s_Machine_hearing) .none kV_Machine_hearing dc_Machine_hearing pm_Machine_hearing an_Machine_hearing cd_Machine_hearing ct_Machine_hearing), sl_Machine_hearing⟩)
    (q_Machine_hearing : PySem.W.codeIn K cd_Machine_hearing "Machine.hearing" = true)
    (k_Machine_hearing : PySem.W.keepIn K (.ref f_Machine_hearing) = true)
    (a_Machine_best_fitting : PySem.W.findIn K (.ref C_Machine) "best_fitting" = some (some (.ref f_Machine_best_fitting)))
    (i_Machine_best_fitting : PySem.W.isFn K (.ref f_Machine_best_fitting) = true)
    (l_Machine_best_fitting : K.lookup f_Machine_best_fitting = some ⟨oc_Machine_best_fitting, od_Machine_best_fitting, .func (PySem.W.fnOf "best_fitting" "Machine.best_fitting" (defArgs s_Machine_best_fitting) (defBody s_Machine_best_fitting) (defScope s_Machine_best_fitting) .none kV_Machine_best_fitting dc_Machine_best_fitting pm_Machine_best_fitting an_Machine_best_fitting cd_Machine_best_fitting ct_Machine_best_fitting), sl_Machine_best_fitting⟩)
    (q_Machine_best_fitting : PySem.W.codeIn K cd_Machine_best_fitting "Machine.best_fitting" = true)
    (k_Machine_best_fitting : PySem.W.keepIn K (.ref f_Machine_best_fitting) = true)
    (a_Machine_hand_over : PySem.W.findIn K (.ref C_Machine) "hand_over" = some (some (.ref f_Machine_hand_over)))
    (i_Machine_hand_over : PySem.W.isFn K (.ref f_Machine_hand_over) = true)
    (l_Machine_hand_over : K.lookup f_Machine_hand_over = some ⟨oc_Machine_hand_over, od_Machine_hand_over, .func (PySem.W.fnOf "hand_over" "Machine.hand_over" (defArgs s_Machine_hand_over) (defBody s_Machine_hand_over) (defScope s_Machine_hand_over) .none kV_Machine_hand_over dc_Machine_hand_over pm_Machine_hand_over an_Machine_hand_over cd_Machine_hand_over ct_Machine_hand_over), sl_Machine_hand_over⟩)
    (q_Machine_hand_over : PySem.W.codeIn K cd_Machine_hand_over "Machine.hand_over" = true)
    (k_Machine_hand_over : PySem.W.keepIn K (.ref f_Machine_hand_over) = true)
    (a_answers : PySem.W.nsIn K mainGlobals "answers" = some (some (.ref f_answers)))
    (l_answers : K.lookup f_answers = some ⟨oc_answers, od_answers, .func (PySem.W.fnOf "answers" "answers" (defArgs s_answers) (defBody s_answers) (defScope s_answers) .none kV_answers dc_answers pm_answers an_answers cd_answers ct_answers), sl_answers⟩)
    (q_answers : PySem.W.codeIn K cd_answers "answers" = true)
    (k_answers : PySem.W.keepIn K (.ref f_answers) = true)
    (a_called : PySem.W.nsIn K mainGlobals "called" = some (some (.ref f_called)))
    (l_called : K.lookup f_called = some ⟨oc_called, od_called, .func (PySem.W.fnOf "called" "called" (defArgs s_called) (defBody s_called) (defScope s_called) .none kV_called dc_called pm_called an_called cd_called ct_called), sl_called⟩)
    (q_called : PySem.W.codeIn K cd_called "called" = true)
    (k_called : PySem.W.keepIn K (.ref f_called) = true)
    (a_called_for_a_number : PySem.W.nsIn K mainGlobals "called_for_a_number" = some (some (.ref f_called_for_a_number)))
    (l_called_for_a_number : K.lookup f_called_for_a_number = some ⟨oc_called_for_a_number, od_called_for_a_number, .func (PySem.W.fnOf "called_for_a_number" "called_for_a_number" (defArgs s_called_for_a_number) (defBody s_called_for_a_number) (defScope s_called_for_a_number) .none kV_called_for_a_number dc_called_for_a_number pm_called_for_a_number an_called_for_a_number cd_called_for_a_number ct_called_for_a_number), sl_called_for_a_number⟩)
    (q_called_for_a_number : PySem.W.codeIn K cd_called_for_a_number "called_for_a_number" = true)
    (k_called_for_a_number : PySem.W.keepIn K (.ref f_called_for_a_number) = true)
    (pg_Answer : PySem.W.plainGet K C_Answer Str.empty = true)
    (hd_Answer : PySem.W.hasDictIn K C_Answer = true)
    (po_Answer : PySem.W.plainOver K C_Answer = true)
    (sa_Answer : PySem.W.findIn K (.ref C_Answer) "__setattr__" = some (some (.builtin "object.__setattr__")))
    (mk_Answer : PySem.W.makesIn K C_Answer = true)
    (kc_Answer : PySem.W.keepIn K (.ref C_Answer) = true)
    (n_Answer_number : PySem.W.findIn K (.ref C_Answer) "number" = some none)
    (n_Answer_figures : PySem.W.findIn K (.ref C_Answer) "figures" = some none)
    (n_Answer_row : PySem.W.findIn K (.ref C_Answer) "row" = some none)
    (n_Answer_wanted : PySem.W.findIn K (.ref C_Answer) "wanted" = some none)
    (pg_Message : PySem.W.plainGet K C_Message Str.empty = true)
    (hd_Message : PySem.W.hasDictIn K C_Message = true)
    (po_Message : PySem.W.plainOver K C_Message = true)
    (sa_Message : PySem.W.findIn K (.ref C_Message) "__setattr__" = some (some (.builtin "object.__setattr__")))
    (mk_Message : PySem.W.makesIn K C_Message = true)
    (kc_Message : PySem.W.keepIn K (.ref C_Message) = true)
    (n_Message_sender : PySem.W.findIn K (.ref C_Message) "sender" = some none)
    (n_Message_to_address : PySem.W.findIn K (.ref C_Message) "to_address" = some none)
    (n_Message_body : PySem.W.findIn K (.ref C_Message) "body" = some none)
    (pg_Socket : PySem.W.plainGet K C_Socket Str.empty = true)
    (hd_Socket : PySem.W.hasDictIn K C_Socket = true)
    (po_Socket : PySem.W.plainOver K C_Socket = true)
    (sa_Socket : PySem.W.findIn K (.ref C_Socket) "__setattr__" = some (some (.builtin "object.__setattr__")))
    (mk_Socket : PySem.W.makesIn K C_Socket = true)
    (kc_Socket : PySem.W.keepIn K (.ref C_Socket) = true)
    (n_Socket_address : PySem.W.findIn K (.ref C_Socket) "address" = some none)
    (n_Socket_port : PySem.W.findIn K (.ref C_Socket) "port" = some none)
    (n_Socket_peer : PySem.W.findIn K (.ref C_Socket) "peer" = some none)
    (n_Socket_hears : PySem.W.findIn K (.ref C_Socket) "hears" = some none)
    (n_Socket_queue : PySem.W.findIn K (.ref C_Socket) "queue" = some none)
    (n_Socket_error : PySem.W.findIn K (.ref C_Socket) "error" = some none)
    (n_Socket_lost : PySem.W.findIn K (.ref C_Socket) "lost" = some none)
    (pg_Machine : PySem.W.plainGet K C_Machine Str.empty = true)
    (hd_Machine : PySem.W.hasDictIn K C_Machine = true)
    (po_Machine : PySem.W.plainOver K C_Machine = true)
    (sa_Machine : PySem.W.findIn K (.ref C_Machine) "__setattr__" = some (some (.builtin "object.__setattr__")))
    (mk_Machine : PySem.W.makesIn K C_Machine = true)
    (kc_Machine : PySem.W.keepIn K (.ref C_Machine) = true)
    (n_Machine_sockets : PySem.W.findIn K (.ref C_Machine) "sockets" = some none)
    (n_Machine_turn : PySem.W.findIn K (.ref C_Machine) "turn" = some none)
    (v_PACKET_SENT : PySem.W.nsIn K mainGlobals "PACKET_SENT" = some (some (.int 0 t_PACKET_SENT)))
    (v_ERROR_TOLD : PySem.W.nsIn K mainGlobals "ERROR_TOLD" = some (some (.int 1 t_ERROR_TOLD)))
    (v_SOMETHING_NOW : PySem.W.nsIn K mainGlobals "SOMETHING_NOW" = some (some (.int 2 t_SOMETHING_NOW)))
    (v_HEADER : PySem.W.nsIn K mainGlobals "HEADER" = some (some (.int 8 t_HEADER)))
    (v_CARRIED_AS : PySem.W.nsIn K mainGlobals "CARRIED_AS" = some (some (.int 2 t_CARRIED_AS)))
    (v_ROUND : PySem.W.nsIn K mainGlobals "ROUND" = some (some (.int 65535 t_ROUND)))
    (v_PACKET_START : PySem.W.nsIn K mainGlobals "PACKET_START" = some (some (.int 24 t_PACKET_START)))
    (v_PACKET_FIRST : PySem.W.nsIn K mainGlobals "PACKET_FIRST" = some (some (.int 81 t_PACKET_FIRST)))
    (v_MOST_WAITING : PySem.W.nsIn K mainGlobals "MOST_WAITING" = some (some (.int 32 t_MOST_WAITING)))
    (v_MOST_WEIGHT : PySem.W.nsIn K mainGlobals "MOST_WEIGHT" = some (some (.int 131072 t_MOST_WEIGHT)))
    (v_OWN_WEIGHT : PySem.W.nsIn K mainGlobals "OWN_WEIGHT" = some (some (.int 64 t_OWN_WEIGHT)))
    (v_NOT_AS_TOLD : PySem.W.nsIn K mainGlobals "NOT_AS_TOLD" = some (some (.int (-1) t_NOT_AS_TOLD)))
    (v_NO_SUCH_SOCKET : PySem.W.nsIn K mainGlobals "NO_SUCH_SOCKET" = some (some (.int (-2) t_NO_SUCH_SOCKET)))
    (v_NO_DATAGRAM : PySem.W.nsIn K mainGlobals "NO_DATAGRAM" = some (some (.int (-3) t_NO_DATAGRAM)))
    (v_IN_THE_WAY : PySem.W.nsIn K mainGlobals "IN_THE_WAY" = some (some (.int (-4) t_IN_THE_WAY)))
    (v_NONE_FREE : PySem.W.nsIn K mainGlobals "NONE_FREE" = some (some (.int (-5) t_NONE_FREE)))
    (v_TOO_LONG : PySem.W.nsIn K mainGlobals "TOO_LONG" = some (some (.int (-7) t_TOO_LONG)))
    (v_MOST_SOCKETS : PySem.W.nsIn K mainGlobals "MOST_SOCKETS" = some (some (.int 64 t_MOST_SOCKETS)))
    (v_EVERYBODY : PySem.W.nsIn K mainGlobals "EVERYBODY" = some (some (.int 4294967295 t_EVERYBODY)))
    (v_LAST_PORT : PySem.W.nsIn K mainGlobals "LAST_PORT" = some (some (.int 65535 t_LAST_PORT)))
    (v_FIRST_GIVEN : PySem.W.nsIn K mainGlobals "FIRST_GIVEN" = some (some (.int 49152 t_FIRST_GIVEN)))
    (v_GIVEN_PORTS : PySem.W.nsIn K mainGlobals "GIVEN_PORTS" = some (some (.int 16384 t_GIVEN_PORTS)))
    (v_LONGEST_BODY : PySem.W.nsIn K mainGlobals "LONGEST_BODY" = some (some (.int 65507 t_LONGEST_BODY)))
    (v_LAST_KIND : PySem.W.nsIn K mainGlobals "LAST_KIND" = some (some (.int 255 t_LAST_KIND)))
    (v_LAST_OF_ERROR : PySem.W.nsIn K mainGlobals "LAST_OF_ERROR" = some (some (.int 4294967295 t_LAST_OF_ERROR)))
    (v_MOST_TAKEN : PySem.W.nsIn K mainGlobals "MOST_TAKEN" = some (some (.int 65536 t_MOST_TAKEN)))
    (v_BEGINS : PySem.W.nsIn K mainGlobals "BEGINS" = some (some (.int 0 t_BEGINS)))
    (v_OPENS : PySem.W.nsIn K mainGlobals "OPENS" = some (some (.int 1 t_OPENS)))
    (v_CLOSE : PySem.W.nsIn K mainGlobals "CLOSE" = some (some (.int 2 t_CLOSE)))
    (v_BIND : PySem.W.nsIn K mainGlobals "BIND" = some (some (.int 3 t_BIND)))
    (v_CONNECT : PySem.W.nsIn K mainGlobals "CONNECT" = some (some (.int 4 t_CONNECT)))
    (v_HEAR : PySem.W.nsIn K mainGlobals "HEAR" = some (some (.int 5 t_HEAR)))
    (v_SEND : PySem.W.nsIn K mainGlobals "SEND" = some (some (.int 6 t_SEND)))
    (v_CAME : PySem.W.nsIn K mainGlobals "CAME" = some (some (.int 7 t_CAME)))
    (v_PROBLEM : PySem.W.nsIn K mainGlobals "PROBLEM" = some (some (.int 8 t_PROBLEM)))
    (v_TAKE : PySem.W.nsIn K mainGlobals "TAKE" = some (some (.int 9 t_TAKE)))
    (v_NO_PEER : PySem.W.nsIn K mainGlobals "NO_PEER" = some (some (.ref g_NO_PEER)))
    (w_NO_PEER : K.lookup g_NO_PEER = some ⟨.type "tuple", od_NO_PEER, .seq its_NO_PEER n_NO_PEER, sl_NO_PEER⟩)
    (x_NO_PEER : its_NO_PEER.toList.map absV = [some (V.int 0), some (V.int 0)])
    (v_HOW_MANY : PySem.W.nsIn K mainGlobals "HOW_MANY" = some (some (.ref g_HOW_MANY)))
    (w_HOW_MANY : K.lookup g_HOW_MANY = some ⟨.type "tuple", od_HOW_MANY, .seq its_HOW_MANY n_HOW_MANY, sl_HOW_MANY⟩)
    (x_HOW_MANY : its_HOW_MANY.toList.map absV = [some (V.int 1), some (V.int 0), some (V.int 1), some (V.int 3), some (V.int 4), some (V.int 2), some (V.int 4), some (V.int 2), some (V.int 2), some (V.int 2), some (V.int 1)])
    (v_WITH_A_ROW : PySem.W.nsIn K mainGlobals "WITH_A_ROW" = some (some (.ref g_WITH_A_ROW)))
    (w_WITH_A_ROW : K.lookup g_WITH_A_ROW = some ⟨.type "tuple", od_WITH_A_ROW, .seq its_WITH_A_ROW n_WITH_A_ROW, sl_WITH_A_ROW⟩)
    (x_WITH_A_ROW : its_WITH_A_ROW.toList.map absV = [some (V.int 6), some (V.int 7), some (V.int 8)])
    (z_len : PySem.W.nsIn K mainGlobals "len" = some none)
    (z_list : PySem.W.nsIn K mainGlobals "list" = some none)
    (z_range : PySem.W.nsIn K mainGlobals "range" = some none)
    (z_sorted : PySem.W.nsIn K mainGlobals "sorted" = some none)
    (z_sum : PySem.W.nsIn K mainGlobals "sum" = some none) : ∃ A : Ad, Tx K mg A ∧ A.f_answers = f_answers := by
  have F_Answer_init := fun_mk (st := s_Answer_init) l_Answer_init q_Answer_init k_Answer_init
  have b_Answer_init := F_Answer_init.binds (ps := ["self", "number", "figures", "row", "wanted"]) fun _ _ _ _ _ _ us hl => match us, hl with | [_, _, _, _, _], _ => rfl
  have F_plain := fun_mk (st := s_plain) l_plain q_plain k_plain
  have b_plain := F_plain.binds (ps := ["number"]) fun _ _ _ _ _ _ us hl => match us, hl with | [_], _ => rfl
  have F_packet_sent := fun_mk (st := s_packet_sent) l_packet_sent q_packet_sent k_packet_sent
  have b_packet_sent := F_packet_sent.binds (ps := ["from_address", "to_address", "row"]) fun _ _ _ _ _ _ us hl => match us, hl with | [_, _, _], _ => rfl
  have F_error_told := fun_mk (st := s_error_told) l_error_told q_error_told k_error_told
  have b_error_told := F_error_told.binds (ps := ["from_address", "to_address", "row"]) fun _ _ _ _ _ _ us hl => match us, hl with | [_, _, _], _ => rfl
  have F_something_now := fun_mk (st := s_something_now) l_something_now q_something_now k_something_now
  have b_something_now := F_something_now.binds (ps := ["k"]) fun _ _ _ _ _ _ us hl => match us, hl with | [_], _ => rfl
  have F_written := fun_mk (st := s_written) l_written q_written k_written
  have b_written := F_written.binds (ps := ["answer"]) fun _ _ _ _ _ _ us hl => match us, hl with | [_], _ => rfl
  have F_number_at := fun_mk (st := s_number_at) l_number_at q_number_at k_number_at
  have b_number_at := F_number_at.binds (ps := ["row", "at", "size"]) fun _ _ _ _ _ _ us hl => match us, hl with | [_, _, _], _ => rfl
  have F_written_bytes := fun_mk (st := s_written_bytes) l_written_bytes q_written_bytes k_written_bytes
  have b_written_bytes := F_written_bytes.binds (ps := ["number", "size"]) fun _ _ _ _ _ _ us hl => match us, hl with | [_, _], _ => rfl
  have F_two_by_two := fun_mk (st := s_two_by_two) l_two_by_two q_two_by_two k_two_by_two
  have b_two_by_two := F_two_by_two.binds (ps := ["row"]) fun _ _ _ _ _ _ us hl => match us, hl with | [_], _ => rfl
  have F_whole_total := fun_mk (st := s_whole_total) l_whole_total q_whole_total k_whole_total
  have b_whole_total := F_whole_total.binds (ps := ["from_address", "to_address", "row"]) fun _ _ _ _ _ _ us hl => match us, hl with | [_, _, _], _ => rfl
  have F_datagram := fun_mk (st := s_datagram) l_datagram q_datagram k_datagram
  have b_datagram := F_datagram.binds (ps := ["from_place", "to_place", "body"]) fun _ _ _ _ _ _ us hl => match us, hl with | [_, _, _], _ => rfl
  have F_is_datagram := fun_mk (st := s_is_datagram) l_is_datagram q_is_datagram k_is_datagram
  have b_is_datagram := F_is_datagram.binds (ps := ["from_address", "to_address", "row"]) fun _ _ _ _ _ _ us hl => match us, hl with | [_, _, _], _ => rfl
  have F_port_from := fun_mk (st := s_port_from) l_port_from q_port_from k_port_from
  have b_port_from := F_port_from.binds (ps := ["row"]) fun _ _ _ _ _ _ us hl => match us, hl with | [_], _ => rfl
  have F_port_to := fun_mk (st := s_port_to) l_port_to q_port_to k_port_to
  have b_port_to := F_port_to.binds (ps := ["row"]) fun _ _ _ _ _ _ us hl => match us, hl with | [_], _ => rfl
  have F_body_of := fun_mk (st := s_body_of) l_body_of q_body_of k_body_of
  have b_body_of := F_body_of.binds (ps := ["row"]) fun _ _ _ _ _ _ us hl => match us, hl with | [_], _ => rfl
  have F_is_packet_start := fun_mk (st := s_is_packet_start) l_is_packet_start q_is_packet_start k_is_packet_start
  have b_is_packet_start := F_is_packet_start.binds (ps := ["row"]) fun _ _ _ _ _ _ us hl => match us, hl with | [_], _ => rfl
  have F_packet_from := fun_mk (st := s_packet_from) l_packet_from q_packet_from k_packet_from
  have b_packet_from := F_packet_from.binds (ps := ["row"]) fun _ _ _ _ _ _ us hl => match us, hl with | [_], _ => rfl
  have F_packet_to := fun_mk (st := s_packet_to) l_packet_to q_packet_to k_packet_to
  have b_packet_to := F_packet_to.binds (ps := ["row"]) fun _ _ _ _ _ _ us hl => match us, hl with | [_], _ => rfl
  have F_Message_init := fun_mk (st := s_Message_init) l_Message_init q_Message_init k_Message_init
  have b_Message_init := F_Message_init.binds (ps := ["self", "sender", "to_address", "body"]) fun _ _ _ _ _ _ us hl => match us, hl with | [_, _, _, _], _ => rfl
  have F_Socket_init := fun_mk (st := s_Socket_init) l_Socket_init q_Socket_init k_Socket_init
  have b_Socket_init := F_Socket_init.binds (ps := ["self"]) fun _ _ _ _ _ _ us hl => match us, hl with | [_], _ => rfl
  have F_meets := fun_mk (st := s_meets) l_meets q_meets k_meets
  have b_meets := F_meets.binds (ps := ["socket", "address", "port"]) fun _ _ _ _ _ _ us hl => match us, hl with | [_, _, _], _ => rfl
  have F_fits_at_any := fun_mk (st := s_fits_at_any) l_fits_at_any q_fits_at_any k_fits_at_any
  have b_fits_at_any := F_fits_at_any.binds (ps := ["socket", "sender", "port"]) fun _ _ _ _ _ _ us hl => match us, hl with | [_, _, _], _ => rfl
  have F_fits := fun_mk (st := s_fits) l_fits q_fits k_fits
  have b_fits := F_fits.binds (ps := ["socket", "sender", "address", "port"]) fun _ _ _ _ _ _ us hl => match us, hl with | [_, _, _, _], _ => rfl
  have F_has_address := fun_mk (st := s_has_address) l_has_address q_has_address k_has_address
  have b_has_address := F_has_address.binds (ps := ["socket", "address"]) fun _ _ _ _ _ _ us hl => match us, hl with | [_, _], _ => rfl
  have F_rank := fun_mk (st := s_rank) l_rank q_rank k_rank
  have b_rank := F_rank.binds (ps := ["socket"]) fun _ _ _ _ _ _ us hl => match us, hl with | [_], _ => rfl
  have F_sent_there := fun_mk (st := s_sent_there) l_sent_there q_sent_there k_sent_there
  have b_sent_there := F_sent_there.binds (ps := ["socket", "from_place", "to_place"]) fun _ _ _ _ _ _ us hl => match us, hl with | [_, _, _], _ => rfl
  have F_has_something := fun_mk (st := s_has_something) l_has_something q_has_something k_has_something
  have b_has_something := F_has_something.binds (ps := ["socket"]) fun _ _ _ _ _ _ us hl => match us, hl with | [_], _ => rfl
  have F_weight := fun_mk (st := s_weight) l_weight q_weight k_weight
  have b_weight := F_weight.binds (ps := ["message"]) fun _ _ _ _ _ _ us hl => match us, hl with | [_], _ => rfl
  have F_has_room := fun_mk (st := s_has_room) l_has_room q_has_room k_has_room
  have b_has_room := F_has_room.binds (ps := ["socket", "message"]) fun _ _ _ _ _ _ us hl => match us, hl with | [_, _], _ => rfl
  have F_get_message := fun_mk (st := s_get_message) l_get_message q_get_message k_get_message
  have b_get_message := F_get_message.binds (ps := ["socket", "message"]) fun _ _ _ _ _ _ us hl => match us, hl with | [_, _], _ => rfl
  have F_drop_others := fun_mk (st := s_drop_others) l_drop_others q_drop_others k_drop_others
  have b_drop_others := F_drop_others.binds (ps := ["socket"]) fun _ _ _ _ _ _ us hl => match us, hl with | [_], _ => rfl
  have F_port_of_round := fun_mk (st := s_port_of_round) l_port_of_round q_port_of_round k_port_of_round
  have b_port_of_round := F_port_of_round.binds (ps := ["number"]) fun _ _ _ _ _ _ us hl => match us, hl with | [_], _ => rfl
  have F_Machine_init := fun_mk (st := s_Machine_init) l_Machine_init q_Machine_init k_Machine_init
  have b_Machine_init := F_Machine_init.binds (ps := ["self"]) fun _ _ _ _ _ _ us hl => match us, hl with | [_], _ => rfl
  have F_Machine_begins := fun_mk (st := s_Machine_begins) l_Machine_begins q_Machine_begins k_Machine_begins
  have b_Machine_begins := F_Machine_begins.binds (ps := ["self", "turn"]) fun _ _ _ _ _ _ us hl => match us, hl with | [_, _], _ => rfl
  have F_Machine_opens := fun_mk (st := s_Machine_opens) l_Machine_opens q_Machine_opens k_Machine_opens
  have b_Machine_opens := F_Machine_opens.binds (ps := ["self"]) fun _ _ _ _ _ _ us hl => match us, hl with | [_], _ => rfl
  have F_Machine_close := fun_mk (st := s_Machine_close) l_Machine_close q_Machine_close k_Machine_close
  have b_Machine_close := F_Machine_close.binds (ps := ["self", "k"]) fun _ _ _ _ _ _ us hl => match us, hl with | [_, _], _ => rfl
  have F_Machine_bind := fun_mk (st := s_Machine_bind) l_Machine_bind q_Machine_bind k_Machine_bind
  have b_Machine_bind := F_Machine_bind.binds (ps := ["self", "k", "a", "p"]) fun _ _ _ _ _ _ us hl => match us, hl with | [_, _, _, _], _ => rfl
  have F_Machine_connect := fun_mk (st := s_Machine_connect) l_Machine_connect q_Machine_connect k_Machine_connect
  have b_Machine_connect := F_Machine_connect.binds (ps := ["self", "k", "a", "t", "p"]) fun _ _ _ _ _ _ us hl => match us, hl with | [_, _, _, _, _], _ => rfl
  have F_Machine_hear := fun_mk (st := s_Machine_hear) l_Machine_hear q_Machine_hear k_Machine_hear
  have b_Machine_hear := F_Machine_hear.binds (ps := ["self", "k", "b"]) fun _ _ _ _ _ _ us hl => match us, hl with | [_, _, _], _ => rfl
  have F_Machine_send := fun_mk (st := s_Machine_send) l_Machine_send q_Machine_send k_Machine_send
  have b_Machine_send := F_Machine_send.binds (ps := ["self", "k", "a", "t", "p", "body"]) fun _ _ _ _ _ _ us hl => match us, hl with | [_, _, _, _, _, _], _ => rfl
  have F_Machine_came := fun_mk (st := s_Machine_came) l_Machine_came q_Machine_came k_Machine_came
  have b_Machine_came := F_Machine_came.binds (ps := ["self", "f", "t", "row"]) fun _ _ _ _ _ _ us hl => match us, hl with | [_, _, _, _], _ => rfl
  have F_Machine_problem := fun_mk (st := s_Machine_problem) l_Machine_problem q_Machine_problem k_Machine_problem
  have b_Machine_problem := F_Machine_problem.binds (ps := ["self", "kind", "n", "row"]) fun _ _ _ _ _ _ us hl => match us, hl with | [_, _, _, _], _ => rfl
  have F_Machine_take := fun_mk (st := s_Machine_take) l_Machine_take q_Machine_take k_Machine_take
  have b_Machine_take := F_Machine_take.binds (ps := ["self", "k", "most"]) fun _ _ _ _ _ _ us hl => match us, hl with | [_, _, _], _ => rfl
  have F_Machine_told := fun_mk (st := s_Machine_told) l_Machine_told q_Machine_told k_Machine_told
  have b_Machine_told := F_Machine_told.binds (ps := ["self", "k"]) fun _ _ _ _ _ _ us hl => match us, hl with | [_, _], _ => rfl
  have F_Machine_let_peer_go := fun_mk (st := s_Machine_let_peer_go) l_Machine_let_peer_go q_Machine_let_peer_go k_Machine_let_peer_go
  have b_Machine_let_peer_go := F_Machine_let_peer_go.binds (ps := ["self", "k"]) fun _ _ _ _ _ _ us hl => match us, hl with | [_, _], _ => rfl
  have F_Machine_take_peer := fun_mk (st := s_Machine_take_peer) l_Machine_take_peer q_Machine_take_peer k_Machine_take_peer
  have b_Machine_take_peer := F_Machine_take_peer.binds (ps := ["self", "k", "a", "peer"]) fun _ _ _ _ _ _ us hl => match us, hl with | [_, _, _, _], _ => rfl
  have F_Machine_is_met := fun_mk (st := s_Machine_is_met) l_Machine_is_met q_Machine_is_met k_Machine_is_met
  have b_Machine_is_met := F_Machine_is_met.binds (ps := ["self", "k", "address", "port", "peer"]) fun _ _ _ _ _ _ us hl => match us, hl with | [_, _, _, _, _], _ => rfl
  have F_Machine_port_for := fun_mk (st := s_Machine_port_for) l_Machine_port_for q_Machine_port_for k_Machine_port_for
  have b_Machine_port_for := F_Machine_port_for.binds (ps := ["self", "socket"]) fun _ _ _ _ _ _ us hl => match us, hl with | [_, _], _ => rfl
  have F_Machine_free_port := fun_mk (st := s_Machine_free_port) l_Machine_free_port q_Machine_free_port k_Machine_free_port
  have b_Machine_free_port := F_Machine_free_port.binds (ps := ["self"]) fun _ _ _ _ _ _ us hl => match us, hl with | [_], _ => rfl
  have F_Machine_give := fun_mk (st := s_Machine_give) l_Machine_give q_Machine_give k_Machine_give
  have b_Machine_give := F_Machine_give.binds (ps := ["self", "socket", "port"]) fun _ _ _ _ _ _ us hl => match us, hl with | [_, _, _], _ => rfl
  have F_Machine_hearing := fun_mk (st := s_Machine_hearing) l_Machine_hearing q_Machine_hearing k_Machine_hearing
  have b_Machine_hearing := F_Machine_hearing.binds (ps := ["self", "sender", "port"]) fun _ _ _ _ _ _ us hl => match us, hl with | [_, _, _], _ => rfl
  have F_Machine_best_fitting := fun_mk (st := s_Machine_best_fitting) l_Machine_best_fitting q_Machine_best_fitting k_Machine_best_fitting
  have b_Machine_best_fitting := F_Machine_best_fitting.binds (ps := ["self", "sender", "address", "port"]) fun _ _ _ _ _ _ us hl => match us, hl with | [_, _, _, _], _ => rfl
  have F_Machine_hand_over := fun_mk (st := s_Machine_hand_over) l_Machine_hand_over q_Machine_hand_over k_Machine_hand_over
  have b_Machine_hand_over := F_Machine_hand_over.binds (ps := ["self", "getting", "message"]) fun _ _ _ _ _ _ us hl => match us, hl with | [_, _, _], _ => rfl
  have F_answers := fun_mk (st := s_answers) l_answers q_answers k_answers
  have b_answers := F_answers.binds (ps := ["calls"]) fun _ _ _ _ _ _ us hl => match us, hl with | [_], _ => rfl
  have F_called := fun_mk (st := s_called) l_called q_called k_called
  have b_called := F_called.binds (ps := ["machine", "call", "numbers", "row"]) fun _ _ _ _ _ _ us hl => match us, hl with | [_, _, _, _], _ => rfl
  have F_called_for_a_number := fun_mk (st := s_called_for_a_number) l_called_for_a_number q_called_for_a_number k_called_for_a_number
  have b_called_for_a_number := F_called_for_a_number.binds (ps := ["machine", "call", "numbers"]) fun _ _ _ _ _ _ us hl => match us, hl with | [_, _, _], _ => rfl
  refine ⟨⟨C_Answer, C_Message, C_Socket, C_Machine, f_Answer_init, (PySem.W.fnOf "__init__" "Answer.__init__" (defArgs s_Answer_init) (defBody s_Answer_init) (defScope s_Answer_init) .none kV_Answer_init dc_Answer_init pm_Answer_init an_Answer_init cd_Answer_init ct_Answer_init), f_plain, (PySem.W.fnOf "plain" "plain" (defArgs s_plain) (defBody s_plain) (defScope s_plain) .none kV_plain dc_plain pm_plain an_plain cd_plain ct_plain), f_packet_sent, (PySem.W.fnOf "packet_sent" "packet_sent" (defArgs s_packet_sent) (defBody s_packet_sent) (defScope s_packet_sent) .none kV_packet_sent dc_packet_sent pm_packet_sent an_packet_sent cd_packet_sent ct_packet_sent), f_error_told, (PySem.W.fnOf "error_told" "error_told" (defArgs s_error_told) (defBody s_error_told) (defScope s_error_told) .none kV_error_told dc_error_told pm_error_told an_error_told cd_error_told ct_error_told), f_something_now, (PySem.W.fnOf "something_now" "something_now" (defArgs s_something_now) (defBody s_something_now) (defScope s_something_now) .none kV_something_now dc_something_now pm_something_now an_something_now cd_something_now ct_something_now), f_written, (PySem.W.fnOf "written" "written" (defArgs s_written) (defBody s_written) (defScope s_written) .none kV_written dc_written pm_written an_written cd_written ct_written), f_number_at, (PySem.W.fnOf "number_at" "number_at" (defArgs s_number_at) (defBody s_number_at) (defScope s_number_at) .none kV_number_at dc_number_at pm_number_at an_number_at cd_number_at ct_number_at), f_written_bytes, (PySem.W.fnOf "written_bytes" "written_bytes" (defArgs s_written_bytes) (defBody s_written_bytes) (defScope s_written_bytes) .none kV_written_bytes dc_written_bytes pm_written_bytes an_written_bytes cd_written_bytes ct_written_bytes), f_two_by_two, (PySem.W.fnOf "two_by_two" "two_by_two" (defArgs s_two_by_two) (defBody s_two_by_two) (defScope s_two_by_two) .none kV_two_by_two dc_two_by_two pm_two_by_two an_two_by_two cd_two_by_two ct_two_by_two), f_whole_total, (PySem.W.fnOf "whole_total" "whole_total" (defArgs s_whole_total) (defBody s_whole_total) (defScope s_whole_total) .none kV_whole_total dc_whole_total pm_whole_total an_whole_total cd_whole_total ct_whole_total), f_datagram, (PySem.W.fnOf "datagram" "datagram" (defArgs s_datagram) (defBody s_datagram) (defScope s_datagram) .none kV_datagram dc_datagram pm_datagram an_datagram cd_datagram ct_datagram), f_is_datagram, (PySem.W.fnOf "is_datagram" "is_datagram" (defArgs s_is_datagram) (defBody s_is_datagram) (defScope s_is_datagram) .none kV_is_datagram dc_is_datagram pm_is_datagram an_is_datagram cd_is_datagram ct_is_datagram), f_port_from, (PySem.W.fnOf "port_from" "port_from" (defArgs s_port_from) (defBody s_port_from) (defScope s_port_from) .none kV_port_from dc_port_from pm_port_from an_port_from cd_port_from ct_port_from), f_port_to, (PySem.W.fnOf "port_to" "port_to" (defArgs s_port_to) (defBody s_port_to) (defScope s_port_to) .none kV_port_to dc_port_to pm_port_to an_port_to cd_port_to ct_port_to), f_body_of, (PySem.W.fnOf "body_of" "body_of" (defArgs s_body_of) (defBody s_body_of) (defScope s_body_of) .none kV_body_of dc_body_of pm_body_of an_body_of cd_body_of ct_body_of), f_is_packet_start, (PySem.W.fnOf "is_packet_start" "is_packet_start" (defArgs s_is_packet_start) (defBody s_is_packet_start) (defScope s_is_packet_start) .none kV_is_packet_start dc_is_packet_start pm_is_packet_start an_is_packet_start cd_is_packet_start ct_is_packet_start), f_packet_from, (PySem.W.fnOf "packet_from" "packet_from" (defArgs s_packet_from) (defBody s_packet_from) (defScope s_packet_from) .none kV_packet_from dc_packet_from pm_packet_from an_packet_from cd_packet_from ct_packet_from), f_packet_to, (PySem.W.fnOf "packet_to" "packet_to" (defArgs s_packet_to) (defBody s_packet_to) (defScope s_packet_to) .none kV_packet_to dc_packet_to pm_packet_to an_packet_to cd_packet_to ct_packet_to), f_Message_init, (PySem.W.fnOf "__init__" "Message.__init__" (defArgs s_Message_init) (defBody s_Message_init) (defScope s_Message_init) .none kV_Message_init dc_Message_init pm_Message_init an_Message_init cd_Message_init ct_Message_init), f_Socket_init, (PySem.W.fnOf "__init__" "Socket.__init__" (defArgs s_Socket_init) (defBody s_Socket_init) (defScope s_Socket_init) .none kV_Socket_init dc_Socket_init pm_Socket_init an_Socket_init cd_Socket_init ct_Socket_init), f_meets, (PySem.W.fnOf "meets" "meets" (defArgs s_meets) (defBody s_meets) (defScope s_meets) .none kV_meets dc_meets pm_meets an_meets cd_meets ct_meets), f_fits_at_any, (PySem.W.fnOf "fits_at_any" "fits_at_any" (defArgs s_fits_at_any) (defBody s_fits_at_any) (defScope s_fits_at_any) .none kV_fits_at_any dc_fits_at_any pm_fits_at_any an_fits_at_any cd_fits_at_any ct_fits_at_any), f_fits, (PySem.W.fnOf "fits" "fits" (defArgs s_fits) (defBody s_fits) (defScope s_fits) .none kV_fits dc_fits pm_fits an_fits cd_fits ct_fits), f_has_address, (PySem.W.fnOf "has_address" "has_address" (defArgs s_has_address) (defBody s_has_address) (defScope s_has_address) .none kV_has_address dc_has_address pm_has_address an_has_address cd_has_address ct_has_address), f_rank, (PySem.W.fnOf "rank" "rank" (defArgs s_rank) (defBody s_rank) (defScope s_rank) .none kV_rank dc_rank pm_rank an_rank cd_rank ct_rank), f_sent_there, (PySem.W.fnOf "sent_there" "sent_there" (defArgs s_sent_there) (defBody s_sent_there) (defScope s_sent_there) .none kV_sent_there dc_sent_there pm_sent_there an_sent_there cd_sent_there ct_sent_there), f_has_something, (PySem.W.fnOf "has_something" "has_something" (defArgs s_has_something) (defBody s_has_something) (defScope s_has_something) .none kV_has_something dc_has_something pm_has_something an_has_something cd_has_something ct_has_something), f_weight, (PySem.W.fnOf "weight" "weight" (defArgs s_weight) (defBody s_weight) (defScope s_weight) .none kV_weight dc_weight pm_weight an_weight cd_weight ct_weight), f_has_room, (PySem.W.fnOf "has_room" "has_room" (defArgs s_has_room) (defBody s_has_room) (defScope s_has_room) .none kV_has_room dc_has_room pm_has_room an_has_room cd_has_room ct_has_room), f_get_message, (PySem.W.fnOf "get_message" "get_message" (defArgs s_get_message) (defBody s_get_message) (defScope s_get_message) .none kV_get_message dc_get_message pm_get_message an_get_message cd_get_message ct_get_message), f_drop_others, (PySem.W.fnOf "drop_others" "drop_others" (defArgs s_drop_others) (defBody s_drop_others) (defScope s_drop_others) .none kV_drop_others dc_drop_others pm_drop_others an_drop_others cd_drop_others ct_drop_others), f_port_of_round, (PySem.W.fnOf "port_of_round" "port_of_round" (defArgs s_port_of_round) (defBody s_port_of_round) (defScope s_port_of_round) .none kV_port_of_round dc_port_of_round pm_port_of_round an_port_of_round cd_port_of_round ct_port_of_round), f_Machine_init, (PySem.W.fnOf "__init__" "Machine.__init__" (defArgs s_Machine_init) (defBody s_Machine_init) (defScope s_Machine_init) .none kV_Machine_init dc_Machine_init pm_Machine_init an_Machine_init cd_Machine_init ct_Machine_init), f_Machine_begins, (PySem.W.fnOf "begins" "Machine.begins" (defArgs s_Machine_begins) (defBody s_Machine_begins) (defScope s_Machine_begins) .none kV_Machine_begins dc_Machine_begins pm_Machine_begins an_Machine_begins cd_Machine_begins ct_Machine_begins), f_Machine_opens, (PySem.W.fnOf "opens" "Machine.opens" (defArgs s_Machine_opens) (defBody s_Machine_opens) (defScope s_Machine_opens) .none kV_Machine_opens dc_Machine_opens pm_Machine_opens an_Machine_opens cd_Machine_opens ct_Machine_opens), f_Machine_close, (PySem.W.fnOf "close" "Machine.close" (defArgs s_Machine_close) (defBody s_Machine_close) (defScope s_Machine_close) .none kV_Machine_close dc_Machine_close pm_Machine_close an_Machine_close cd_Machine_close ct_Machine_close), f_Machine_bind, (PySem.W.fnOf "bind" "Machine.bind" (defArgs s_Machine_bind) (defBody s_Machine_bind) (defScope s_Machine_bind) .none kV_Machine_bind dc_Machine_bind pm_Machine_bind an_Machine_bind cd_Machine_bind ct_Machine_bind), f_Machine_connect, (PySem.W.fnOf "connect" "Machine.connect" (defArgs s_Machine_connect) (defBody s_Machine_connect) (defScope s_Machine_connect) .none kV_Machine_connect dc_Machine_connect pm_Machine_connect an_Machine_connect cd_Machine_connect ct_Machine_connect), f_Machine_hear, (PySem.W.fnOf "hear" "Machine.hear" (defArgs s_Machine_hear) (defBody s_Machine_hear) (defScope s_Machine_hear) .none kV_Machine_hear dc_Machine_hear pm_Machine_hear an_Machine_hear cd_Machine_hear ct_Machine_hear), f_Machine_send, (PySem.W.fnOf "send" "Machine.send" (defArgs s_Machine_send) (defBody s_Machine_send) (defScope s_Machine_send) .none kV_Machine_send dc_Machine_send pm_Machine_send an_Machine_send cd_Machine_send ct_Machine_send), f_Machine_came, (PySem.W.fnOf "came" "Machine.came" (defArgs s_Machine_came) (defBody s_Machine_came) (defScope s_Machine_came) .none kV_Machine_came dc_Machine_came pm_Machine_came an_Machine_came cd_Machine_came ct_Machine_came), f_Machine_problem, (PySem.W.fnOf "problem" "Machine.problem" (defArgs s_Machine_problem) (defBody s_Machine_problem) (defScope s_Machine_problem) .none kV_Machine_problem dc_Machine_problem pm_Machine_problem an_Machine_problem cd_Machine_problem ct_Machine_problem), f_Machine_take, (PySem.W.fnOf "take" "Machine.take" (defArgs s_Machine_take) (defBody s_Machine_take) (defScope s_Machine_take) .none kV_Machine_take dc_Machine_take pm_Machine_take an_Machine_take cd_Machine_take ct_Machine_take), f_Machine_told, (PySem.W.fnOf "told" "Machine.told" (defArgs s_Machine_told) (defBody s_Machine_told) (defScope s_Machine_told) .none kV_Machine_told dc_Machine_told pm_Machine_told an_Machine_told cd_Machine_told ct_Machine_told), f_Machine_let_peer_go, (PySem.W.fnOf "let_peer_go" "Machine.let_peer_go" (defArgs s_Machine_let_peer_go) (defBody s_Machine_let_peer_go) (defScope s_Machine_let_peer_go) .none kV_Machine_let_peer_go dc_Machine_let_peer_go pm_Machine_let_peer_go an_Machine_let_peer_go cd_Machine_let_peer_go ct_Machine_let_peer_go), f_Machine_take_peer, (PySem.W.fnOf "take_peer" "Machine.take_peer" (defArgs s_Machine_take_peer) (defBody s_Machine_take_peer) (defScope s_Machine_take_peer) .none kV_Machine_take_peer dc_Machine_take_peer pm_Machine_take_peer an_Machine_take_peer cd_Machine_take_peer ct_Machine_take_peer), f_Machine_is_met, (PySem.W.fnOf "is_met" "Machine.is_met" (defArgs s_Machine_is_met) (defBody s_Machine_is_met) (defScope s_Machine_is_met) .none kV_Machine_is_met dc_Machine_is_met pm_Machine_is_met an_Machine_is_met cd_Machine_is_met ct_Machine_is_met), f_Machine_port_for, (PySem.W.fnOf "port_for" "Machine.port_for" (defArgs s_Machine_port_for) (defBody s_Machine_port_for) (defScope s_Machine_port_for) .none kV_Machine_port_for dc_Machine_port_for pm_Machine_port_for an_Machine_port_for cd_Machine_port_for ct_Machine_port_for), f_Machine_free_port, (PySem.W.fnOf "free_port" "Machine.free_port" (defArgs s_Machine_free_port) (defBody s_Machine_free_port) (defScope s_Machine_free_port) .none kV_Machine_free_port dc_Machine_free_port pm_Machine_free_port an_Machine_free_port cd_Machine_free_port ct_Machine_free_port), f_Machine_give, (PySem.W.fnOf "give" "Machine.give" (defArgs s_Machine_give) (defBody s_Machine_give) (defScope s_Machine_give) .none kV_Machine_give dc_Machine_give pm_Machine_give an_Machine_give cd_Machine_give ct_Machine_give), f_Machine_hearing, (PySem.W.fnOf "hearing" "Machine.hearing" (defArgs s_Machine_hearing) (defBody s_Machine_hearing) (defScope s_Machine_hearing) .none kV_Machine_hearing dc_Machine_hearing pm_Machine_hearing an_Machine_hearing cd_Machine_hearing ct_Machine_hearing), f_Machine_best_fitting, (PySem.W.fnOf "best_fitting" "Machine.best_fitting" (defArgs s_Machine_best_fitting) (defBody s_Machine_best_fitting) (defScope s_Machine_best_fitting) .none kV_Machine_best_fitting dc_Machine_best_fitting pm_Machine_best_fitting an_Machine_best_fitting cd_Machine_best_fitting ct_Machine_best_fitting), f_Machine_hand_over, (PySem.W.fnOf "hand_over" "Machine.hand_over" (defArgs s_Machine_hand_over) (defBody s_Machine_hand_over) (defScope s_Machine_hand_over) .none kV_Machine_hand_over dc_Machine_hand_over pm_Machine_hand_over an_Machine_hand_over cd_Machine_hand_over ct_Machine_hand_over), f_answers, (PySem.W.fnOf "answers" "answers" (defArgs s_answers) (defBody s_answers) (defScope s_answers) .none kV_answers dc_answers pm_answers an_answers cd_answers ct_answers), f_called, (PySem.W.fnOf "called" "called" (defArgs s_called) (defBody s_called) (defScope s_called) .none kV_called dc_called pm_called an_called cd_called ct_called), f_called_for_a_number, (PySem.W.fnOf "called_for_a_number" "called_for_a_number" (defArgs s_called_for_a_number) (defBody s_called_for_a_number) (defScope s_called_for_a_number) .none kV_called_for_a_number dc_called_for_a_number pm_called_for_a_number an_called_for_a_number cd_called_for_a_number ct_called_for_a_number), g_NO_PEER, g_HOW_MANY, g_WITH_A_ROW⟩, ⟨
    ⟨pg_Answer, hd_Answer, po_Answer, sa_Answer⟩,
    PySem.W.mg_of X G aC_Answer,
    ⟨mk_Answer, a_Answer_init, i_Answer_init, kc_Answer⟩,
    n_Answer_number,
    n_Answer_figures,
    n_Answer_row,
    n_Answer_wanted,
    ⟨pg_Message, hd_Message, po_Message, sa_Message⟩,
    PySem.W.mg_of X G aC_Message,
    ⟨mk_Message, a_Message_init, i_Message_init, kc_Message⟩,
    n_Message_sender,
    n_Message_to_address,
    n_Message_body,
    ⟨pg_Socket, hd_Socket, po_Socket, sa_Socket⟩,
    PySem.W.mg_of X G aC_Socket,
    ⟨mk_Socket, a_Socket_init, i_Socket_init, kc_Socket⟩,
    n_Socket_address,
    n_Socket_port,
    n_Socket_peer,
    n_Socket_hears,
    n_Socket_queue,
    n_Socket_error,
    n_Socket_lost,
    ⟨pg_Machine, hd_Machine, po_Machine, sa_Machine⟩,
    PySem.W.mg_of X G aC_Machine,
    ⟨mk_Machine, a_Machine_init, i_Machine_init, kc_Machine⟩,
    n_Machine_sockets,
    n_Machine_turn,
    F_Answer_init,
    b_Answer_init,
    F_plain,
    b_plain,
    PySem.W.mg_of X G a_plain,
    F_packet_sent,
    b_packet_sent,
    PySem.W.mg_of X G a_packet_sent,
    F_error_told,
    b_error_told,
    PySem.W.mg_of X G a_error_told,
    F_something_now,
    b_something_now,
    PySem.W.mg_of X G a_something_now,
    F_written,
    b_written,
    PySem.W.mg_of X G a_written,
    F_number_at,
    b_number_at,
    PySem.W.mg_of X G a_number_at,
    F_written_bytes,
    b_written_bytes,
    PySem.W.mg_of X G a_written_bytes,
    F_two_by_two,
    b_two_by_two,
    PySem.W.mg_of X G a_two_by_two,
    F_whole_total,
    b_whole_total,
    PySem.W.mg_of X G a_whole_total,
    F_datagram,
    b_datagram,
    PySem.W.mg_of X G a_datagram,
    F_is_datagram,
    b_is_datagram,
    PySem.W.mg_of X G a_is_datagram,
    F_port_from,
    b_port_from,
    PySem.W.mg_of X G a_port_from,
    F_port_to,
    b_port_to,
    PySem.W.mg_of X G a_port_to,
    F_body_of,
    b_body_of,
    PySem.W.mg_of X G a_body_of,
    F_is_packet_start,
    b_is_packet_start,
    PySem.W.mg_of X G a_is_packet_start,
    F_packet_from,
    b_packet_from,
    PySem.W.mg_of X G a_packet_from,
    F_packet_to,
    b_packet_to,
    PySem.W.mg_of X G a_packet_to,
    F_Message_init,
    b_Message_init,
    F_Socket_init,
    b_Socket_init,
    F_meets,
    b_meets,
    PySem.W.mg_of X G a_meets,
    F_fits_at_any,
    b_fits_at_any,
    PySem.W.mg_of X G a_fits_at_any,
    F_fits,
    b_fits,
    PySem.W.mg_of X G a_fits,
    F_has_address,
    b_has_address,
    PySem.W.mg_of X G a_has_address,
    F_rank,
    b_rank,
    PySem.W.mg_of X G a_rank,
    F_sent_there,
    b_sent_there,
    PySem.W.mg_of X G a_sent_there,
    F_has_something,
    b_has_something,
    PySem.W.mg_of X G a_has_something,
    F_weight,
    b_weight,
    PySem.W.mg_of X G a_weight,
    F_has_room,
    b_has_room,
    PySem.W.mg_of X G a_has_room,
    F_get_message,
    b_get_message,
    PySem.W.mg_of X G a_get_message,
    F_drop_others,
    b_drop_others,
    PySem.W.mg_of X G a_drop_others,
    F_port_of_round,
    b_port_of_round,
    PySem.W.mg_of X G a_port_of_round,
    F_Machine_init,
    b_Machine_init,
    F_Machine_begins,
    b_Machine_begins,
    ⟨a_Machine_begins, i_Machine_begins, k_Machine_begins⟩,
    F_Machine_opens,
    b_Machine_opens,
    ⟨a_Machine_opens, i_Machine_opens, k_Machine_opens⟩,
    F_Machine_close,
    b_Machine_close,
    ⟨a_Machine_close, i_Machine_close, k_Machine_close⟩,
    F_Machine_bind,
    b_Machine_bind,
    ⟨a_Machine_bind, i_Machine_bind, k_Machine_bind⟩,
    F_Machine_connect,
    b_Machine_connect,
    ⟨a_Machine_connect, i_Machine_connect, k_Machine_connect⟩,
    F_Machine_hear,
    b_Machine_hear,
    ⟨a_Machine_hear, i_Machine_hear, k_Machine_hear⟩,
    F_Machine_send,
    b_Machine_send,
    ⟨a_Machine_send, i_Machine_send, k_Machine_send⟩,
    F_Machine_came,
    b_Machine_came,
    ⟨a_Machine_came, i_Machine_came, k_Machine_came⟩,
    F_Machine_problem,
    b_Machine_problem,
    ⟨a_Machine_problem, i_Machine_problem, k_Machine_problem⟩,
    F_Machine_take,
    b_Machine_take,
    ⟨a_Machine_take, i_Machine_take, k_Machine_take⟩,
    F_Machine_told,
    b_Machine_told,
    ⟨a_Machine_told, i_Machine_told, k_Machine_told⟩,
    F_Machine_let_peer_go,
    b_Machine_let_peer_go,
    ⟨a_Machine_let_peer_go, i_Machine_let_peer_go, k_Machine_let_peer_go⟩,
    F_Machine_take_peer,
    b_Machine_take_peer,
    ⟨a_Machine_take_peer, i_Machine_take_peer, k_Machine_take_peer⟩,
    F_Machine_is_met,
    b_Machine_is_met,
    ⟨a_Machine_is_met, i_Machine_is_met, k_Machine_is_met⟩,
    F_Machine_port_for,
    b_Machine_port_for,
    ⟨a_Machine_port_for, i_Machine_port_for, k_Machine_port_for⟩,
    F_Machine_free_port,
    b_Machine_free_port,
    ⟨a_Machine_free_port, i_Machine_free_port, k_Machine_free_port⟩,
    F_Machine_give,
    b_Machine_give,
    ⟨a_Machine_give, i_Machine_give, k_Machine_give⟩,
    F_Machine_hearing,
    b_Machine_hearing,
    ⟨a_Machine_hearing, i_Machine_hearing, k_Machine_hearing⟩,
    F_Machine_best_fitting,
    b_Machine_best_fitting,
    ⟨a_Machine_best_fitting, i_Machine_best_fitting, k_Machine_best_fitting⟩,
    F_Machine_hand_over,
    b_Machine_hand_over,
    ⟨a_Machine_hand_over, i_Machine_hand_over, k_Machine_hand_over⟩,
    F_answers,
    b_answers,
    PySem.W.mg_of X G a_answers,
    F_called,
    b_called,
    PySem.W.mg_of X G a_called,
    F_called_for_a_number,
    b_called_for_a_number,
    PySem.W.mg_of X G a_called_for_a_number,
    ⟨_, PySem.W.mg_of X G v_PACKET_SENT⟩,
    ⟨_, PySem.W.mg_of X G v_ERROR_TOLD⟩,
    ⟨_, PySem.W.mg_of X G v_SOMETHING_NOW⟩,
    ⟨_, PySem.W.mg_of X G v_HEADER⟩,
    ⟨_, PySem.W.mg_of X G v_CARRIED_AS⟩,
    ⟨_, PySem.W.mg_of X G v_ROUND⟩,
    ⟨_, PySem.W.mg_of X G v_PACKET_START⟩,
    ⟨_, PySem.W.mg_of X G v_PACKET_FIRST⟩,
    ⟨_, PySem.W.mg_of X G v_MOST_WAITING⟩,
    ⟨_, PySem.W.mg_of X G v_MOST_WEIGHT⟩,
    ⟨_, PySem.W.mg_of X G v_OWN_WEIGHT⟩,
    ⟨_, PySem.W.mg_of X G v_NOT_AS_TOLD⟩,
    ⟨_, PySem.W.mg_of X G v_NO_SUCH_SOCKET⟩,
    ⟨_, PySem.W.mg_of X G v_NO_DATAGRAM⟩,
    ⟨_, PySem.W.mg_of X G v_IN_THE_WAY⟩,
    ⟨_, PySem.W.mg_of X G v_NONE_FREE⟩,
    ⟨_, PySem.W.mg_of X G v_TOO_LONG⟩,
    ⟨_, PySem.W.mg_of X G v_MOST_SOCKETS⟩,
    ⟨_, PySem.W.mg_of X G v_EVERYBODY⟩,
    ⟨_, PySem.W.mg_of X G v_LAST_PORT⟩,
    ⟨_, PySem.W.mg_of X G v_FIRST_GIVEN⟩,
    ⟨_, PySem.W.mg_of X G v_GIVEN_PORTS⟩,
    ⟨_, PySem.W.mg_of X G v_LONGEST_BODY⟩,
    ⟨_, PySem.W.mg_of X G v_LAST_KIND⟩,
    ⟨_, PySem.W.mg_of X G v_LAST_OF_ERROR⟩,
    ⟨_, PySem.W.mg_of X G v_MOST_TAKEN⟩,
    ⟨_, PySem.W.mg_of X G v_BEGINS⟩,
    ⟨_, PySem.W.mg_of X G v_OPENS⟩,
    ⟨_, PySem.W.mg_of X G v_CLOSE⟩,
    ⟨_, PySem.W.mg_of X G v_BIND⟩,
    ⟨_, PySem.W.mg_of X G v_CONNECT⟩,
    ⟨_, PySem.W.mg_of X G v_HEAR⟩,
    ⟨_, PySem.W.mg_of X G v_SEND⟩,
    ⟨_, PySem.W.mg_of X G v_CAME⟩,
    ⟨_, PySem.W.mg_of X G v_PROBLEM⟩,
    ⟨_, PySem.W.mg_of X G v_TAKE⟩,
    PySem.W.mg_of X G v_NO_PEER,
    tupK_mk w_NO_PEER x_NO_PEER (by decide),
    PySem.W.mg_of X G v_HOW_MANY,
    tupK_mk w_HOW_MANY x_HOW_MANY (by decide),
    PySem.W.mg_of X G v_WITH_A_ROW,
    tupK_mk w_WITH_A_ROW x_WITH_A_ROW (by decide),
    PySem.W.mg_none_of X G z_len,
    PySem.W.mg_none_of X G z_list,
    PySem.W.mg_none_of X G z_range,
    PySem.W.mg_none_of X G z_sorted,
    PySem.W.mg_none_of X G z_sum⟩, rfl⟩
end Sm



set_option Elab.async false
set_option linter.all false
set_option maxRecDepth 100000
namespace Sm
open PySem PySem.Spec PyProof.Rows L2
structure Mem where
  mu : Addr → Prop
  res : Addr → Prop
def Mem.any (M : Mem) (b : Addr) : Prop := M.mu b ∨ M.res b
instance : CoeFun Mem (fun _ => Addr → Prop) := ⟨Mem.any⟩
structure Fr (M : Mem) (H : Hp) (M' : Mem) (H' : Hp) : Prop where
  stayM : ∀ b o, H b = some o → ¬ M.mu b → H' b = some o
  grow : ∀ b, M'.mu b → M.mu b ∨ H b = none
  res : ∀ b, M'.res b ↔ M.res b
theorem Fr.refl (M : Mem) (H : Hp) : Fr M H M H := ⟨fun _ _ h _ => h, fun _ h => .inl h, fun _ => Iff.rfl⟩
theorem Fr.stay {M M' : Mem} {H H' : Hp} (f : Fr M H M' H') (b : Addr) (o : HO) (h : H b = some o) (n : ¬ M b) : H' b = some o := f.stayM b o h fun z => n (.inl z)
theorem Fr.outM {M M' : Mem} {H H' : Hp} (f : Fr M H M' H') {b : Addr} {o : HO} (h : H b = some o) (n : ¬ M.mu b) : ¬ M'.mu b := fun q => (f.grow b q).elim n (fun z => by rw [h] at z; cases z)
theorem Fr.out {M M' : Mem} {H H' : Hp} (f : Fr M H M' H') {b : Addr} {o : HO} (h : H b = some o) (n : ¬ M b) : ¬ M' b := fun q => q.elim (f.outM h fun z => n (.inl z)) fun z => n (.inr ((f.res b).mp z))
theorem Fr.trans {M M1 M2 : Mem} {H H1 H2 : Hp} (f : Fr M H M1 H1) (g : Fr M1 H1 M2 H2) : Fr M H M2 H2 := by
  refine ⟨fun b o h n => g.stayM b o (f.stayM b o h n) (f.outM h n), fun b q => ?_, fun b => (g.res b).trans (f.res b)⟩
  rcases g.grow b q with q | q
  · exact f.grow b q
  · by_cases hm : M.mu b
    · exact .inl hm
    · cases e : H b with
      | none => exact .inr rfl
      | some o => rw [f.stayM b o e hm] at q; cases q
theorem Fr.same {M : Mem} {H H' : Hp} (e : Same H H') : Fr M H M H' := ⟨fun b o h _ => e b o h, fun _ h => .inl h, fun _ => Iff.rfl⟩
theorem Fr.write {M : Mem} {H : Hp} {b : Addr} (o : HO) (h : M.mu b) : Fr M H M (upd H b o) := ⟨fun c u e n => by rw [upd_ne (fun z => n (by rw [z]; exact h))]; exact e, fun _ h => .inl h, fun _ => Iff.rfl⟩
theorem Fr.new {M : Mem} {H : Hp} {b : Addr} (o : HO) (h : H b = none) : Fr M H M (upd H b o) := ⟨fun c u e n => by rw [upd_ne (ne_of_none e h)]; exact e, fun _ h => .inl h, fun _ => Iff.rfl⟩
/-- the footprint with one more -/
def M1 (M : Mem) (p : Addr) : Mem := ⟨fun b => M.mu b ∨ b = p, M.res⟩
theorem Fr.newM {M : Mem} {H : Hp} {b : Addr} (o : HO) (h : H b = none) : Fr M H (M1 M b) (upd H b o) :=
  ⟨fun c u e n => by rw [upd_ne (ne_of_none e h)]; exact e, fun c q => q.elim .inl fun z => .inr (z ▸ h), fun _ => Iff.rfl⟩
/-- what may be changed is there -/
def Al (M : Mem) (H : Hp) : Prop := ∀ b, M b → H b ≠ none
theorem Al.upd {M : Mem} {H : Hp} (h : Al M H) (c : Addr) (o : HO) : Al M (upd H c o) := fun b hb z => by
  by_cases e : b = c
  · rw [e, upd_same] at z; cases z
  · rw [upd_ne e] at z; exact h b hb z
theorem Al.updM {M : Mem} {H : Hp} (h : Al M H) (c : Addr) (o : HO) : Al (M1 M c) (L2.upd H c o) := fun b hb z => by
  by_cases e : b = c
  · rw [e, upd_same] at z; cases z
  · rw [upd_ne e] at z
    rcases hb with (q | q) | q
    · exact h b (.inl q) z
    · exact e q
    · exact h b (.inr q) z
theorem Al.same {M : Mem} {H H' : Hp} (h : Al M H) (e : Same H H') : Al M H' := fun b hb z => by
  cases q : H b with
  | none => exact h b hb q
  | some o => rw [e b o q] at z; cases z
theorem Al.out {M : Mem} {H : Hp} (h : Al M H) {b : Addr} (e : H b = none) : ¬ M b := fun z => h b z e
def TupF (K : PySem.W.Frag) (M : Mem) (H : Hp) (p : Addr) (xs : List V) : Prop := (H p = some (.tup xs) ∧ ¬ M p) ∨ TupK K p xs
theorem TupF.sq {K : PySem.W.Frag} {M : Mem} {H : Hp} {p : Addr} {xs : List V} (h : TupF K M H p xs) : SqT K H p xs := h.elim (fun h => .inl (.inl h.1)) .inr
theorem TupF.fr {K : PySem.W.Frag} {M M' : Mem} {H H' : Hp} {p : Addr} {xs : List V} (f : Fr M H M' H') (h : TupF K M H p xs) : TupF K M' H' p xs :=
  h.elim (fun h => .inl ⟨f.stay _ _ h.1 h.2, f.out h.1 h.2⟩) .inr
def byt (b : Si23.Bytes) : List V := b.map fun c => V.int c.toNat
/-- a message's attributes -/
def gf (sender to_ body : V) : List (Str × V) := [("sender", sender), ("to_address", to_), ("body", body)]
def MsgAt (K : PySem.W.Frag) (C : Ad) (M : Mem) (H : Hp) (r : Addr) (g : Si23.Got) : Prop := ∃ dr t b, H r = some (.ins C.c_Message dr (gf (.ref t) (.int g.to_) (.ref b))) ∧ ¬ M r ∧ TupF K M H t [.int g.from_, .int g.port] ∧ H b = some (.lst (byt g.body)) ∧ ¬ M b
theorem MsgAt.fr {K : PySem.W.Frag} {C : Ad} {M M' : Mem} {H H' : Hp} {r : Addr} {g : Si23.Got} (f : Fr M H M' H') (h : MsgAt K C M H r g) : MsgAt K C M' H' r g := by
  obtain ⟨dr, t, b, h1, h2, h3, h4, h5⟩ := h
  exact ⟨dr, t, b, f.stay _ _ h1 h2, f.out h1 h2, h3.fr f, f.stay _ _ h4 h5, f.out h4 h5⟩
def sf (at_ port peer hears queue error lost : V) : List (Str × V) := [("address", at_), ("port", port), ("peer", peer), ("hears", hears), ("queue", queue), ("error", error), ("lost", lost)]
theorem sf_get_address (a p pe h q e l : V) : (sf a p pe h q e l).lookup ("address" : Str) = some a := by rfl
theorem sf_get_port (a p pe h q e l : V) : (sf a p pe h q e l).lookup ("port" : Str) = some p := by rfl
theorem sf_get_peer (a p pe h q e l : V) : (sf a p pe h q e l).lookup ("peer" : Str) = some pe := by rfl
theorem sf_get_hears (a p pe h q e l : V) : (sf a p pe h q e l).lookup ("hears" : Str) = some h := by rfl
theorem sf_get_queue (a p pe h q e l : V) : (sf a p pe h q e l).lookup ("queue" : Str) = some q := by rfl
theorem sf_get_error (a p pe h q e l : V) : (sf a p pe h q e l).lookup ("error" : Str) = some e := by rfl
theorem sf_get_lost (a p pe h q e l : V) : (sf a p pe h q e l).lookup ("lost" : Str) = some l := by rfl
theorem sf_put_address (a p pe h q e l y : V) : putF "address" y (sf a p pe h q e l) = sf y p pe h q e l := by rfl
theorem sf_put_port (a p pe h q e l y : V) : putF "port" y (sf a p pe h q e l) = sf a y pe h q e l := by rfl
theorem sf_put_peer (a p pe h q e l y : V) : putF "peer" y (sf a p pe h q e l) = sf a p y h q e l := by rfl
theorem sf_put_hears (a p pe h q e l y : V) : putF "hears" y (sf a p pe h q e l) = sf a p pe y q e l := by rfl
theorem sf_put_lost (a p pe h q e l y : V) : putF "lost" y (sf a p pe h q e l) = sf a p pe h q e y := by rfl
theorem sf_len (a p pe h q e l : V) : ((sf a p pe h q e l).length < 1000) = True := by simp [sf]
def mf (sockets turn : V) : List (Str × V) := [("sockets", sockets), ("turn", turn)]
theorem mf_get_sockets (a b : V) : (mf a b).lookup ("sockets" : Str) = some a := by rfl
theorem mf_get_turn (a b : V) : (mf a b).lookup ("turn" : Str) = some b := by rfl
theorem mf_put_sockets (a b y : V) : putF "sockets" y (mf a b) = mf y b := by rfl
theorem mf_put_turn (a b y : V) : putF "turn" y (mf a b) = mf a y := by rfl
theorem mf_len (a b : V) : ((mf a b).length < 1000) = True := by simp [mf]
def peerA (x : Si23.Sock) : Int := match x.peer with | none => 0 | some p => (p.1 : Int)
def peerP (x : Si23.Sock) : Int := match x.peer with | none => 0 | some p => (p.2 : Int)
def b01 (b : Bool) : Int := if b = true then 1 else 0
/-- its attributes -/
def sv (x : Si23.Sock) (pe q : Addr) (er : V) : List (Str × V) := sf (.int x.at_) (.int x.port) (.ref pe) (.int (b01 x.all)) (.ref q) er (.int x.lost)
/-- its error -/
def ErrAt (K : PySem.W.Frag) (M : Mem) (H : Hp) (er : V) (bad : Option (Nat × Nat)) : Prop := (bad = none ∧ er = .non) ∨ ∃ t k n, bad = some (k, n) ∧ er = .ref t ∧ TupF K M H t [.int k, .int n]
theorem ErrAt.fr {K : PySem.W.Frag} {M M' : Mem} {H H' : Hp} {er : V} {bad : Option (Nat × Nat)} (f : Fr M H M' H') (h : ErrAt K M H er bad) : ErrAt K M' H' er bad := by
  rcases h with h | ⟨t, k, n, h1, h2, h3⟩
  · exact .inl h
  · exact .inr ⟨t, k, n, h1, h2, h3.fr f⟩
/-- the messages at rs -/
def MsgsAt (K : PySem.W.Frag) (C : Ad) (M : Mem) (H : Hp) (rs : List Addr) (gs : List Si23.Got) : Prop := Paired (MsgAt K C M H) rs gs
theorem MsgsAt.fr {K : PySem.W.Frag} {C : Ad} {M M' : Mem} {H H' : Hp} {rs : List Addr} {gs : List Si23.Got} (f : Fr M H M' H') (h : MsgsAt K C M H rs gs) : MsgsAt K C M' H' rs gs := Paired.mapP h fun _ _ z => z.fr f
structure SockAt (K : PySem.W.Frag) (C : Ad) (M : Mem) (H : Hp) (a q : Addr) (x : Si23.Sock) : Prop where
  ex : ∃ dx pe rs er, H a = some (.ins C.c_Socket dx (sv x pe q er)) ∧ TupF K M H pe [.int (peerA x), .int (peerP x)] ∧ H q = some (.lst (rs.map V.ref)) ∧ MsgsAt K C M H rs x.queue ∧ ErrAt K M H er x.bad
theorem SockAt.fr {K : PySem.W.Frag} {C : Ad} {M M' : Mem} {H H' : Hp} {a q : Addr} {x : Si23.Sock} (f : Fr M H M' H') (ha : ∀ o, H a = some o → H' a = some o) (hq : ∀ o, H q = some o → H' q = some o) (h : SockAt K C M H a q x) : SockAt K C M' H' a q x := by
  obtain ⟨dx, pe, rs, er, h1, h2, h3, h4, h5⟩ := h.ex
  exact ⟨dx, pe, rs, er, ha _ h1, h2.fr f, hq _ h3, h4.fr f, h5.fr f⟩
structure Dir (kvs : List (Key × V)) (socks : List (Option Si23.Sock)) (ad : Nat → Addr) : Prop where
  nd : (kvs.map (·.1)).Nodup
  mem : ∀ kv ∈ kvs, ∃ k x, kv = (Sum.inl ((k : Nat) : Int), V.ref (ad k)) ∧ socks[k]? = some (some x)
  has : ∀ k x, socks[k]? = some (some x) → (Sum.inl ((k : Nat) : Int), V.ref (ad k)) ∈ kvs
/-- what holds of every state that is reached -/
structure Good (s : Si23.St) : Prop where
  len : s.socks.length = 64
  turn : s.turn < 16384
  peer : ∀ (k : Nat) (x : Si23.Sock) t p, s.socks[k]? = some (some x) → x.peer = some (t, p) → t ≠ 0 ∧ p ≠ 0 ∧ x.port ≠ 0
  qlen : ∀ (k : Nat) (x : Si23.Sock), s.socks[k]? = some (some x) → x.queue.length ≤ 32
structure Rep (K : PySem.W.Frag) (C : Ad) (M : Mem) (H : Hp) (m d : Addr) (ad qd : Nat → Addr) (kvs : List (Key × V)) (s : Si23.St) : Prop where
  mach : ∃ dm, H m = some (.ins C.c_Machine dm (mf (.ref d) (.int (49152 + (s.turn : Int)))))
  dict : H d = some (.dK kvs)
  dir : Dir kvs s.socks ad
  sock : ∀ (k : Nat) (x : Si23.Sock), s.socks[k]? = some (some x) → SockAt K C M H (ad k) (qd k) x
  apart : ∀ (i j : Nat) (x y : Si23.Sock), s.socks[i]? = some (some x) → s.socks[j]? = some (some y) → i ≠ j → ad i ≠ ad j ∧ qd i ≠ qd j
  ne : ∀ (k : Nat) (x : Si23.Sock), s.socks[k]? = some (some x) → m ≠ ad k
  mm : M.mu m
  md : M.mu d
  ma : ∀ (k : Nat) (x : Si23.Sock), s.socks[k]? = some (some x) → M.mu (ad k) ∧ M.mu (qd k)
  good : Good s
  al : Al M H
section
variable {K : PySem.W.Frag} {C : Ad} {M M' : Mem} {H H' : Hp} {m d : Addr} {ad qd : Nat → Addr} {kvs : List (Key × V)} {s : Si23.St}
theorem Dir.val (D : Dir kvs s.socks ad) {k : Nat} {x : Si23.Sock} (h : s.socks[k]? = some (some x)) : valV kvs (Sum.inl ((k : Nat) : Int)) = some (V.ref (ad k)) := by
  have hm := D.has k x h
  cases e : valV kvs (Sum.inl ((k : Nat) : Int)) with
  | none => exact absurd (List.mem_map.mpr ⟨_, hm, rfl⟩) (valV_not e)
  | some v =>
    unfold valV at e
    obtain ⟨⟨k', v'⟩, hf, hv⟩ := Option.map_eq_some_iff.mp e
    have hk := List.find?_some hf
    have hm' := List.mem_of_find?_eq_some hf
    obtain ⟨j, y, hj, hy⟩ := D.mem _ hm'
    cases hj
    have hk' : (Sum.inl (j : Int) : Key) = Sum.inl (k : Int) := of_decide_eq_true hk
    have : j = k := by have := Sum.inl.inj hk'; omega
    subst this
    subst hv
    rfl
theorem Dir.novalN (D : Dir kvs s.socks ad) {z : Int} (h : ∀ (k : Nat) (x : Si23.Sock), s.socks[k]? = some (some x) → (k : Int) ≠ z) : valV kvs (Sum.inl z) = none := by
  cases e : valV kvs (Sum.inl z) with
  | none => rfl
  | some v =>
    obtain ⟨⟨k', v'⟩, hf, he⟩ := List.mem_map.mp (valV_in e)
    obtain ⟨j, y, hj, hy⟩ := D.mem _ hf
    cases hj
    exact absurd (Sum.inl.inj he) (h j y hy)
/-- only the socket k, at ad k and its queue, is changed -/
theorem Rep.sockW {k : Nat} {x x' : Si23.Sock} {q' : Addr} (R : Rep K C M H m d ad qd kvs s) (hx : s.socks[k]? = some (some x)) (f : Fr M H M' H') (hM : ∀ b, M.mu b → M'.mu b) (hk : ∀ b o, H b = some o → b ≠ ad k → b ≠ qd k → H' b = some o)
    (hS : SockAt K C M' H' (ad k) q' x') (hq : M'.mu q') (hqq : q' = qd k ∨ H q' = none) (hp : ∀ t p, x'.peer = some (t, p) → t ≠ 0 ∧ p ≠ 0 ∧ x'.port ≠ 0) (hql : x'.queue.length ≤ 32) (hal : Al M' H') :
    Rep K C M' H' m d ad (fun j => if j = k then q' else qd j) kvs (s.set k (some x')) := by
  obtain ⟨dm, hm⟩ := R.mach
  obtain ⟨dx, pe, rs, er, h1, _, h3, _⟩ := (R.sock k x hx).ex
  have hlt : k < s.socks.length := (List.getElem?_eq_some_iff.mp hx).1
  have at_ : ∀ (j : Nat) (y : Si23.Sock), (s.set k (some x')).socks[j]? = some (some y) → (j = k ∧ y = x') ∨ (j ≠ k ∧ s.socks[j]? = some (some y)) := fun j y h => by
    by_cases e : j = k
    · subst e
      have : (s.socks.set j (some x'))[j]? = some (some y) := h
      rw [List.getElem?_set_self hlt] at this
      cases this
      exact .inl ⟨rfl, rfl⟩
    · have : (s.socks.set k (some x'))[j]? = some (some y) := h
      rw [List.getElem?_set_ne (fun z => e z.symm)] at this
      exact .inr ⟨e, this⟩
  have neA : ∀ {b o}, H b = some o → (∀ C' d' fs, o ≠ .ins C' d' fs) → (∀ xs, o ≠ .lst xs) → H' b = some o := fun h n1 n2 => hk _ _ h (ne_of h h1 (n1 _ _ _)) (ne_of h h3 (n2 _))
  refine ⟨⟨dm, ?_⟩, ?_, ⟨R.dir.nd, fun kv hkv => ?_, fun j y h => ?_⟩, fun j y h => ?_, fun i j y z hi hj hij => ?_, fun j y h => ?_, hM _ R.mm, hM _ R.md, fun j y h => ?_, ⟨?_, R.good.turn, fun j y t p h => ?_, fun j y h => ?_⟩, hal⟩
  · exact hk _ _ hm (R.ne k x hx) (ne_of hm h3 (by intro z; cases z))
  · exact neA R.dict (fun _ _ _ z => by cases z) (fun _ z => by cases z)
  · obtain ⟨j, y, e, hy⟩ := R.dir.mem kv hkv
    by_cases ej : j = k
    · subst ej; exact ⟨j, x', e, List.getElem?_set_self hlt⟩
    · exact ⟨j, y, e, by show (s.socks.set k (some x'))[j]? = _; rw [List.getElem?_set_ne (fun z => ej z.symm)]; exact hy⟩
  · rcases at_ j y h with ⟨rfl, rfl⟩ | ⟨_, h⟩
    · exact R.dir.has _ x hx
    · exact R.dir.has j y h
  · rcases at_ j y h with ⟨rfl, rfl⟩ | ⟨hj, h⟩
    · show SockAt K C M' H' (ad j) (if j = j then q' else qd j) y
      rw [if_pos rfl]; exact hS
    · show SockAt K C M' H' (ad j) (if j = k then q' else qd j) y
      rw [if_neg hj]
      obtain ⟨a1, a2⟩ := R.apart j k y x h hx hj
      obtain ⟨_, _, _, _, g1, _, g3, _⟩ := (R.sock j y h).ex
      refine (R.sock j y h).fr f (fun o e => hk _ _ e a1 (ne_of g1 h3 (by intro z; cases z))) (fun o e => hk _ _ e (ne_of g3 h1 (by intro z; cases z)) a2)
  · have fresh : ∀ (j : Nat) (y : Si23.Sock), s.socks[j]? = some (some y) → j ≠ k → qd j ≠ q' := fun j y h hj => by
      rcases hqq with e | e
      · rw [e]; exact (R.apart j k y x h hx hj).2
      · obtain ⟨_, _, _, _, _, _, g3, _⟩ := (R.sock j y h).ex
        exact ne_of_none g3 e
    rcases at_ i y hi with ⟨rfl, rfl⟩ | ⟨hi', hi2⟩
    · rcases at_ j z hj with ⟨rfl, rfl⟩ | ⟨hj', hj2⟩
      · exact absurd rfl hij
      · refine ⟨(R.apart i j x z hx hj2 hij).1, ?_⟩
        show (if i = i then q' else qd i) ≠ (if j = i then q' else qd j)
        rw [if_pos rfl, if_neg hj']
        exact (fresh j z hj2 hj').symm
    · rcases at_ j z hj with ⟨rfl, rfl⟩ | ⟨hj', hj2⟩
      · refine ⟨(R.apart i j y x hi2 hx hij).1, ?_⟩
        show (if i = j then q' else qd i) ≠ (if j = j then q' else qd j)
        rw [if_pos rfl, if_neg hi']
        exact fresh i y hi2 hi'
      · refine ⟨(R.apart i j y z hi2 hj2 hij).1, ?_⟩
        show (if i = k then q' else qd i) ≠ (if j = k then q' else qd j)
        rw [if_neg hi', if_neg hj']
        exact (R.apart i j y z hi2 hj2 hij).2
  · rcases at_ j y h with ⟨rfl, rfl⟩ | ⟨_, h⟩
    · exact R.ne _ x hx
    · exact R.ne j y h
  · show M'.mu (ad j) ∧ M'.mu (if j = k then q' else qd j)
    rcases at_ j y h with ⟨rfl, rfl⟩ | ⟨hj, h⟩
    · rw [if_pos rfl]; exact ⟨hM _ (R.ma _ x hx).1, hq⟩
    · rw [if_neg hj]; exact ⟨hM _ (R.ma j y h).1, hM _ (R.ma j y h).2⟩
  · show (s.socks.set k (some x')).length = 64
    rw [List.length_set]; exact R.good.len
  · intro hpe
    rcases at_ j y h with ⟨rfl, rfl⟩ | ⟨_, h⟩
    · exact hp t p hpe
    · exact R.good.peer j y t p h hpe
  · rcases at_ j y h with ⟨rfl, rfl⟩ | ⟨_, h⟩
    · exact hql
    · exact R.good.qlen j y h
end
end Sm



set_option Elab.async false
set_option linter.all false
set_option maxRecDepth 100000
namespace Sm
open PySem PySem.Spec PyProof.Rows L2
open PySem.W (Codec)
abbrev sMeets : Stmt := s_meets
abbrev sRound : Stmt := s_port_of_round
abbrev sMet : Stmt := s_Machine_is_met
structure Txt (K : PySem.W.Frag) (mg : Str → Option Value) (C : Ad) : Prop where
  clS : Cls K C.c_Socket
  clM : Cls K C.c_Machine
  nAddress : NoAttr K C.c_Socket "address"
  nPort : NoAttr K C.c_Socket "port"
  nPeer : NoAttr K C.c_Socket "peer"
  nSockets : NoAttr K C.c_Machine "sockets"
  nTurn : NoAttr K C.c_Machine "turn"
  FIRST_GIVEN : ∃ t, mg "FIRST_GIVEN" = some (.int 49152 t)
  GIVEN_PORTS : ∃ t, mg "GIVEN_PORTS" = some (.int 16384 t)
theorem Txt.of {K : PySem.W.Frag} {mg : Str → Option Value} {A : Ad} (T : Tx K mg A) : Txt K mg A := ⟨T.cls_Socket, T.cls_Machine, T.no_Socket_address, T.no_Socket_port, T.no_Socket_peer, T.no_Machine_sockets, T.no_Machine_turn, T.i_FIRST_GIVEN, T.i_GIVEN_PORTS⟩
/-- port_of_round(number) -/
def spRound : Sp := fun vs H Q _ => ∃ n : Int, vs = [.int n] ∧ Q (.int (49152 + n % 16384)) H
def spMeets (CS : Addr) : Sp := fun vs H Q _ => ∃ (a dx : Addr) (sa sp address port : Int) (pe he qu er lo : V), vs = [.ref a, .int address, .int port] ∧ H a = some (.ins CS dx (sf (.int sa) (.int sp) pe he qu er lo)) ∧
  Q (.bl (decide (port ≠ 0 ∧ sp = port ∧ (sa = address ∨ sa = 0 ∨ address = 0)))) H
def Hit (socks : List (Option Si23.Sock)) (k address port pa pp : Int) (j : Nat) : Prop := ∃ x, socks[j]? = some (some x) ∧ (j : Int) ≠ k ∧ peerA x = pa ∧ peerP x = pp ∧ port ≠ 0 ∧ (x.port : Int) = port ∧ ((x.at_ : Int) = address ∨ (x.at_ : Int) = 0 ∨ address = 0)
def spMet (K : PySem.W.Frag) (C : Ad) : Sp := fun vs H Q _ => ∃ (M : Mem) (m d p : Addr) (ad qd : Nat → Addr) (kvs : List (Key × V)) (s : Si23.St) (k address port pa pp : Int),
  vs = [.ref m, .int k, .int address, .int port, .ref p] ∧ Rep K C M H m d ad qd kvs s ∧
  TupF K M H p [.int pa, .int pp] ∧ ∀ H' b, Same H H' → (b = true ↔ ∃ j, Hit s.socks k address port pa pp j) → Q (.bl b) H'
def spFree (K : PySem.W.Frag) (C : Ad) : Sp := fun vs H Q _ => ∃ (M : Mem) (m d : Addr) (ad qd : Nat → Addr) (kvs : List (Key × V)) (s : Si23.St),
  vs = [.ref m] ∧ Rep K C M H m d ad qd kvs s ∧ ∀ H', Same H H' → Q (.int ((s.free.getD 0 : Nat) : Int)) H'
section
variable {P : Program} {w : World} {K : PySem.W.Frag} {mg : Str → Option Value} {base : Heap}
theorem scRound : FnScope ["number"] ["number"] (defScope sRound) := ⟨rfl, rfl, rfl, by decide +kernel, rfl, by decide +kernel, by decide +kernel⟩
theorem ok_round {f : Addr} {C : Ad} {fd : FuncData} (F : Fun K "port_of_round" "port_of_round" sRound f fd) (T : Txt K mg C) : FnOk P w K mg base CX0 1 f fd ["number"] spRound := by
  refine F.ok scRound (fun vs H Q E h => ?_) (fun cdv A outer s H vs Q E hr h => ?_)
  · obtain ⟨n, rfl, _⟩ := h
    rfl
  · obtain ⟨n, rfl, k⟩ := h
    obtain ⟨t1, e1⟩ := T.FIRST_GIVEN
    obtain ⟨t2, e2⟩ := T.GIVEN_PORTS
    refine ⟨_, pss_one (ps_ret (pe_op op_add (pe_gi rfl e1) (pe_op op_mod (pv 0) (pe_gi rfl e2)))), ?_⟩
    refine ⟨_, rfl, _, _, rfl, rfl, (by show (0 : Int) < 16384; decide), _, _, rfl, rfl, ?_⟩
    exact k
theorem scMeets : FnScope ["socket", "address", "port"] ["socket", "address", "port"] (defScope sMeets) := ⟨rfl, rfl, rfl, by decide +kernel, rfl, by decide +kernel, by decide +kernel⟩
theorem ok_meets {f : Addr} {C : Ad} {fd : FuncData} (F : Fun K "meets" "meets" sMeets f fd) (T : Txt K mg C) : FnOk P w K mg base CX0 1 f fd ["socket", "address", "port"] (spMeets C.c_Socket) := by
  refine F.ok scMeets (fun vs H Q E h => ?_) (fun cdv A outer s H vs Q E hr h => ?_)
  · obtain ⟨a, dx, sa, sp, address, port, pe, he, qu, er, lo, rfl, _⟩ := h
    rfl
  · obtain ⟨a, dx, sa, sp, address, port, pe, he, qu, er, lo, rfl, ha, k⟩ := h
    refine ⟨_, pss_cons (ps_if (pw_or (pt_cmpR op_eq (pv 2) pe_int (nomark _)) (pw_or1 (pt_cmpR op_ne (pe_fld (pv 0) rfl) (pv 2) (nomark _)))).pt (pss_one (ps_ret pe_bl)) pss_nil)
      (pss_one (ps_ret (pe_or (pe_cmpR op_eq (pe_fld (pv 0) rfl) (pv 1) (nomark _)) (pe_or (pe_cmpR op_eq (pe_fld (pv 0) rfl) pe_int (nomark _)) (pe_one (pe_cmpR op_eq (pv 1) pe_int (nomark _))))))), ?_⟩
    simp only [tSeq, tIfS, tTest, tOp, tOr, tAnd, tNot, tAndV, tOrV, tNotV, tIf, tVar, tC, tRet, tRetN, tDrop, tNext, tFld, sFld, tAsg, gName, gTup, gCons, gNil, tB, rEq, rNe, rI, rI0, scal_ii, scal_bb, cxK, ite_true, ite_false, if_true, if_false, tNil, tCons, tTup, tLst, tCall, tCB, tUn, tMeth, tMake, tDNewK, tDGet, tDIn, tDNotIn, sDPut, tDPop1, L2.start, List.replicate, Nat.reduceSub, Nat.reduceAdd, List.map_cons, List.map_nil, List.length_cons, List.length_nil, List.cons_append, List.nil_append, List.append_nil, List.getElem?_cons_zero, List.getElem?_cons_succ, List.set_cons_zero, List.set_cons_succ, Option.some.injEq, List.cons.injEq, kV_inl, Bool.false_eq_true, reduceCtorEq, V.int.injEq, V.bl.injEq, V.ref.injEq, HO.ins.injEq, exists_eq_left', exists_eq_left, exists_eq_right, and_assoc, and_true, true_and, exists_and_left, exists_and_right, decide_eq_true_eq, Bool.not_eq_true', decide_eq_false_iff_not, ha, T.clS, T.nAddress, T.nPort, sf_get_port, sf_get_address]
    by_cases h1 : port = 0
    · rw [if_pos h1]; rw [decide_eq_false (by simp [h1])] at k; exact k
    rw [if_neg h1]
    by_cases h2 : sp = port
    · rw [if_neg (by simp [h2])]
      by_cases h3 : sa = address
      · rw [if_pos h3]; rw [decide_eq_true (by simp [h1, h2, h3])] at k; exact k
      rw [if_neg h3]
      by_cases h4 : sa = 0
      · rw [if_pos h4]; rw [decide_eq_true (by simp [h1, h2, h4])] at k; exact k
      rw [if_neg h4]
      simp only [h1, h2, h3, h4, ne_eq, not_false_eq_true, true_and, false_or] at k
      exact k
    · rw [if_pos h2]; rw [decide_eq_false (by simp [h2])] at k; exact k
theorem scMet : FnScope ["self", "k", "address", "port", "peer", "number", "other"] ["self", "k", "address", "port", "peer"] (defScope sMet) := ⟨rfl, rfl, rfl, by decide +kernel, rfl, by decide +kernel, by decide +kernel⟩
theorem ok_met {f fm : Addr} {C : Ad} {fd fdm : FuncData} (F : Fun K "is_met" "Machine.is_met" sMet f fd) (T : Txt K mg C) (FM : Fun K "meets" "meets" sMeets fm fdm) (bM : Binds K fdm ["socket", "address", "port"] []) (mM : mg "meets" = some (.ref fm)) :
    FnOk P w K mg base CX0 2 f fd ["self", "k", "address", "port", "peer"] (spMet K C) := by
  have GM : FnOk P w K mg base CX0 1 fm fdm ["socket", "address", "port"] (spMeets C.c_Socket) := ok_meets FM T
  refine F.ok scMet (fun vs H Q E h => ?_) (fun cdv A outer s H vs Q E hr h => ?_)
  · obtain ⟨M, m, d, p, ad, qd, kvs, sc, k, address, port, pa, pp, rfl, _⟩ := h
    rfl
  · obtain ⟨M, m, d, p, ad, qd, kvs, sc, k, address, port, pa, pp, rfl, R, hp, q⟩ := h
    obtain ⟨dm, hm⟩ := R.mach
    have hd := R.dict
    have D := R.dir
    have hp := hp.sq
    have hu := hr.units
    refine ⟨_, pss_cons (ps_lock (ps_for PassesOwn.never rfl (pi_items (pe_fld (pv 0) rfl)) (pg_tup rfl (pgs_cons (pg_name (i := 5) scMet.nd rfl (Or.inl rfl)) (pgs_cons (pg_name (i := 6) scMet.nd rfl (Or.inl rfl)) pgs_nil)))
      (pss_one (ps_if (PW.pt (pw_and (pt_cmpR op_ne (pv 5) (pv 1) (nomark _)) (pw_and (pt_cmpR (op_eqP hu) (pe_fld (pv 6) rfl) (pv 4) (nomark _)) (pw_and1 (pt_val (pe_call GM hr rfl mM FM.kp bM .nil pass0 (pa_cons (pv 6) (pa_cons (pv 2) (pa_cons (pv 3) pa_nil))))))))) (pss_one (ps_ret pe_bl)) pss_nil))))
      (pss_one (ps_ret pe_bl)), ?_⟩
    have nmd : m ≠ d := ne_of hm hd (by intro z; cases z)
    refine ⟨d, _, hd, True.intro, fun od => ?_⟩
    refine ⟨_, rfl, m, C.c_Machine, dm, _, _, rfl, by rw [upd_ne nmd]; exact hm, T.clM, T.nSockets, mf_get_sockets _ _, d, od, kvs, rfl, upd_same, ?_⟩
    refine for_items (fun i σ H' => (∃ v5 v6, σ = [some (.ref m), some (.int k), some (.int address), some (.int port), some (.ref p), v5, v6]) ∧ H' d = some (.frz od (.dK kvs)) ∧ But d H H' ∧
      ∀ i' j, i' < i → kvs[i']? = some (Sum.inl ((j : Nat) : Int), V.ref (ad j)) → ¬ Hit sc.socks k address port pa pp j) ?_ ?_ ?_ ?_
    · exact ⟨⟨_, _, rfl⟩, upd_same, fun b o e n => by rw [upd_ne n]; exact e, fun i' j h => by omega⟩
    · rintro i σ H' hi ⟨_, e, _⟩
      exact e
    · rintro i ky v T' σ H' hi ⟨⟨v5, v6, rfl⟩, hd', hb, hno⟩ hT
      obtain ⟨j, x, e, hx⟩ := D.mem _ (List.mem_of_getElem? hi)
      obtain ⟨rfl, rfl⟩ := Prod.mk.inj e
      obtain ⟨dx, pe, rs, er, ha, hpe, _⟩ := (R.sock j x hx).ex
      have hpe := hpe.sq
      have ha : H (ad j) = some (.ins C.c_Socket dx (sf (.int x.at_) (.int x.port) (.ref pe) (.int (b01 x.all)) (.ref (qd j)) er (.int x.lost))) := ha
      have nda : ad j ≠ d := ne_of ha hd (by intro z; cases z)
      have hdt : ∀ ys o, H d ≠ some (.tup ys) ∧ H d ≠ some (.frz o (.tup ys)) := fun ys o => ⟨(by rw [hd]; intro z; cases z), (by rw [hd]; intro z; cases z)⟩
      have ha' := hb _ _ ha nda
      have nT : ∀ b o, H' b = some o → b ≠ T' := fun b o e z => by rw [z, hT] at e; cases e
      have s1 : Same H' (upd H' T' (.tup [kV (Sum.inl (j : Int)), V.ref (ad j)])) := fun b o e => by rw [upd_ne (nT b o e)]; exact e
      have ha2 := s1 _ _ ha'
      have hpe2 := Same.tup s1 (SqT.but hb hdt hpe)
      have hp2 := Same.tup s1 (SqT.but hb hdt hp)
      have hT2 : (upd H' T' (.tup [kV (Sum.inl (j : Int)), V.ref (ad j)])) T' = some (.tup [kV (Sum.inl (j : Int)), V.ref (ad j)]) := upd_same
      have hd2 := s1 _ _ hd'
      have hb2 : But d H (upd H' T' (.tup [kV (Sum.inl (j : Int)), V.ref (ad j)])) := fun b o e n => s1 _ _ (hb b o e n)
      generalize upd H' T' (.tup [kV (Sum.inl (j : Int)), V.ref (ad j)]) = H2 at *
      have next : (¬ Hit sc.socks k address port pa pp j) → ∀ i' j', i' < i + 1 → kvs[i']? = some (Sum.inl ((j' : Nat) : Int), V.ref (ad j')) → ¬ Hit sc.socks k address port pa pp j' := fun hn i' j' h1 h2 => by
        by_cases h3 : i' < i
        · exact hno i' j' h3 h2
        · have : i' = i := by omega
          subst this
          rw [hi] at h2
          have h4 : (j : Int) = (j' : Int) := Sum.inl.inj (Prod.mk.inj (Option.some.inj h2)).1
          have h5 : j = j' := by omega
          subst h5
          exact hn
      refine ⟨T', _, rfl, SqT.of hT2, rfl, ?_⟩
      simp only [tSeq, tIfS, tTest, tOp, tOr, tAnd, tNot, tAndV, tOrV, tNotV, tIf, tVar, tC, tRet, tRetN, tDrop, tNext, tFld, sFld, tAsg, gName, gTup, gCons, gNil, tB, rEq, rNe, rI, rI0, scal_ii, scal_bb, cxK, ite_true, ite_false, if_true, if_false, tNil, tCons, tTup, tLst, tCall, tCB, tUn, tMeth, tMake, tDNewK, tDGet, tDIn, tDNotIn, sDPut, tDPop1, L2.start, List.replicate, Nat.reduceSub, Nat.reduceAdd, List.map_cons, List.map_nil, List.length_cons, List.length_nil, List.cons_append, List.nil_append, List.append_nil, List.getElem?_cons_zero, List.getElem?_cons_succ, List.set_cons_zero, List.set_cons_succ, Option.some.injEq, List.cons.injEq, kV_inl, Bool.false_eq_true, reduceCtorEq, V.int.injEq, V.bl.injEq, V.ref.injEq, HO.ins.injEq, exists_eq_left', exists_eq_left, exists_eq_right, and_assoc, and_true, true_and, exists_and_left, exists_and_right, decide_eq_true_eq, Bool.not_eq_true', decide_eq_false_iff_not, rEqP, spMeets, ha2, T.clS, T.nPeer, sf_get_peer]
      by_cases h1 : (j : Int) = k
      · rw [if_neg (by simp [h1])]
        exact ⟨⟨_, rfl⟩, hd2, hb2, next (fun ⟨x', _, n, _⟩ => n h1)⟩
      rw [if_pos h1]
      refine ⟨_, _, hpe2, _, _, hp2, ?_⟩
      by_cases h2 : peerA x = pa ∧ peerP x = pp
      · rw [if_pos h2]
        refine ⟨_, _, ⟨_, _, _, _, _, rfl⟩, ?_⟩
        by_cases h3 : port ≠ 0 ∧ (x.port : Int) = port ∧ ((x.at_ : Int) = address ∨ (x.at_ : Int) = 0 ∨ address = 0)
        · rw [if_pos h3]
          refine ⟨hd2, q _ _ (fun b o e => ?_) ⟨fun _ => ⟨j, x, hx, h1, h2.1, h2.2, h3⟩, fun _ => rfl⟩⟩
          by_cases hbd : b = d
          · subst hbd; rw [upd_same, ← hd]; exact e
          · rw [upd_ne hbd]; exact hb2 b o e hbd
        · rw [if_neg h3]
          refine ⟨⟨_, rfl⟩, hd2, hb2, next fun ⟨x', hx', _, _, _, h⟩ => h3 ?_⟩
          rw [hx] at hx'
          cases hx'
          exact h
      · rw [if_neg h2]
        refine ⟨⟨_, rfl⟩, hd2, hb2, next fun ⟨x', hx', _, h4, h5, _⟩ => h2 ?_⟩
        rw [hx] at hx'
        cases hx'
        exact ⟨h4, h5⟩
    · rintro σ H' ⟨⟨v5, v6, rfl⟩, hd', hb, hno⟩
      refine ⟨hd', ?_⟩
      refine q _ _ (fun b o e => ?_) ⟨fun h => (by cases h), fun ⟨j, hj⟩ => ?_⟩
      · by_cases hbd : b = d
        · subst hbd; rw [upd_same, ← hd]; exact e
        · rw [upd_ne hbd]; exact hb b o e hbd
      · obtain ⟨x, hx, _⟩ := id hj
        obtain ⟨i', hi'⟩ := List.mem_iff_getElem?.mp (D.has j x hx)
        exact absurd hj (hno i' j (List.getElem?_eq_some_iff.mp hi').1 hi')
end
end Sm



set_option Elab.async false
set_option linter.all false
set_option maxRecDepth 100000
namespace Sm
open PySem PySem.Spec PyProof.Rows L2
abbrev sFree : Stmt := s_Machine_free_port
theorem pigeon : ∀ (n : Nat) (l : List Nat), l.Nodup → (∀ x ∈ l, x < n) → l.length ≤ n
  | 0, [], _, _ => Nat.le_refl _
  | 0, a :: l, _, h => absurd (h a (List.mem_cons_self ..)) (Nat.not_lt_zero _)
  | n + 1, l, hn, h => by
    have h1 : (l.erase n).Nodup := hn.erase n
    have h2 : ∀ x ∈ l.erase n, x < n := fun x hx => by
      have h3 := h x (List.mem_of_mem_erase hx)
      have h4 : x ≠ n := fun e => by
        subst e
        exact (List.Nodup.mem_erase_iff hn).mp hx |>.1 rfl
      omega
    have h3 := pigeon n _ h1 h2
    have h4 := List.length_erase (a := n) (l := l)
    split at h4 <;> omega
section
variable {K : PySem.W.Frag} {C : Ad} {M M' : Mem} {H H' : Hp} {m d : Addr} {ad qd : Nat → Addr} {kvs : List (Key × V)} {s : Si23.St}
theorem Rep.few (R : Rep K C M H m d ad qd kvs s) : kvs.length ≤ 64 := by
  have h : (kvs.map fun kv => match kv.1 with | Sum.inl z => z.toNat | Sum.inr _ => 0).Nodup := by
    have nd := R.dir.nd
    rw [List.Nodup, List.pairwise_map] at nd ⊢
    refine nd.imp_of_mem ?_
    intro a b ha hb hab
    obtain ⟨i, x, rfl, _⟩ := R.dir.mem a ha
    obtain ⟨j, y, rfl, _⟩ := R.dir.mem b hb
    intro e
    have e' : i = j := by simpa using e
    exact hab (by rw [e'])
  have := pigeon 64 _ h (fun z hz => by
    obtain ⟨kv, hkv, e⟩ := List.mem_map.mp hz
    obtain ⟨i, x, rfl, hx⟩ := R.dir.mem kv hkv
    have hl := (List.getElem?_eq_some_iff.mp hx).1
    rw [R.good.len] at hl
    simp at e
    omega)
  rw [List.length_map] at this
  exact this
theorem Rep.same (R : Rep K C M H m d ad qd kvs s) (e : Same H H') : Rep K C M H' m d ad qd kvs s := by
  obtain ⟨dm, hm⟩ := R.mach
  exact ⟨⟨dm, e _ _ hm⟩, e _ _ R.dict, R.dir, fun k x h => (R.sock k x h).fr (Fr.same e) (fun o z => e _ _ z) (fun o z => e _ _ z), R.apart, R.ne, R.mm, R.md, R.ma, R.good, R.al.same e⟩
end
section
variable {P : Program} {w : World} {K : PySem.W.Frag} {mg : Str → Option Value} {base : Heap}
theorem scFree : FnScope ["self", "taken", "socket", "step", "port"] ["self"] (defScope sFree) := ⟨rfl, rfl, rfl, by decide +kernel, rfl, by decide +kernel, by decide +kernel⟩
/-- the ports of the first i sockets of the walk -/
def Tk (kvs : List (Key × V)) (socks : List (Option Si23.Sock)) (ad : Nat → Addr) (i : Nat) (tk : List (Key × V)) : Prop := tk.length ≤ i ∧ ∀ z : Int, (valV tk (Sum.inl z)).isSome = true ↔ ∃ (i' j : Nat) (x : Si23.Sock), i' < i ∧ kvs[i']? = some (Sum.inl (j : Int), V.ref (ad j)) ∧ socks[j]? = some (some x) ∧ (x.port : Int) = z
theorem ok_free {f fr : Addr} {C : Ad} {fd fdr : FuncData} (F : Fun K "free_port" "Machine.free_port" sFree f fd) (T : Txt K mg C) (FR : Fun K "port_of_round" "port_of_round" sRound fr fdr) (bR : L2.Binds K fdr ["number"] []) (mR : mg "port_of_round" = some (.ref fr)) (mRange : mg "range" = none) :
    FnOk P w K mg base CX0 2 f fd ["self"] (spFree K C) := by
  have GR : FnOk P w K mg base CX0 1 fr fdr ["number"] spRound := ok_round FR T
  refine F.ok scFree (fun vs H Q E h => ?_) (fun cdv A outer s H vs Q E hr h => ?_)
  · obtain ⟨M, m, d, ad, qd, kvs, sc, rfl, _⟩ := h
    rfl
  · obtain ⟨M, m, d, ad, qd, kvs, sc, rfl, R, q⟩ := h
    obtain ⟨dm, hm⟩ := R.mach
    have hd := R.dict
    have hu := hu_of hr
    obtain ⟨t2, e2⟩ := T.GIVEN_PORTS
    refine ⟨_, pss_cons (ps_set (i := 1) scFree.nd rfl (Or.inl rfl) pe_dnewK)
      (pss_cons (ps_lock (ps_for PassesOwn.never rfl (pi_values (pe_fld (pv 0) rfl)) (pg_name (i := 2) scFree.nd rfl (Or.inl rfl))
        (pss_one (ps_dput hu (pv 1) (pe_fld (pv 2) rfl) pe_bl rfl))))
      (pss_cons (ps_for PassesOwn.never rfl (pi_range1 rfl mRange (pa_cons (pe_gi rfl e2) pa_nil)) (pg_name (i := 3) scFree.nd rfl (Or.inl rfl))
        (pss_cons (ps_set (i := 4) scFree.nd rfl (Or.inl rfl) (pe_call GR hr rfl mR FR.kp bR .nil pass0 (pa_cons (pe_op op_add (pe_fld (pv 0) rfl) (pv 3)) pa_nil)))
        (pss_one (ps_if (pt_cmp (pc_dnotin hu (pv 4) (pv 1))) (pss_one (ps_ret (pv 4))) pss_nil))))
      (pss_one (ps_ret pe_int)))), ?_⟩
    -- taken = {}
    intro t ht
    have s0 : Same H (upd H t (.dK [])) := fun b o e => by rw [upd_ne (ne_of_none e ht)]; exact e
    have R1 := R.same s0
    have ndt : d ≠ t := ne_of_none hd ht
    have nmd : m ≠ d := ne_of hm hd (by intro z; cases z)
    have nmt : m ≠ t := ne_of_none hm ht
    refine ⟨d, _, R1.dict, True.intro, fun od => ?_⟩
    refine ⟨_, rfl, m, C.c_Machine, dm, _, _, rfl, by rw [upd_ne nmd]; exact s0 _ _ hm, T.clM, T.nSockets, mf_get_sockets _ _, d, od, kvs, rfl, upd_same, ?_⟩
    obtain ⟨Pv, hPv⟩ : ∃ Pv : Nat → L2.St → Hp → Prop, ∀ i σ H', Pv i σ H' ↔ ∃ v2 tk, σ = [some (.ref m), some (.ref t), v2, none, none] ∧ H' d = some (.frz od (.dK kvs)) ∧ H' t = some (.dK tk) ∧ But d H H' ∧ Tk kvs sc.socks ad i tk := ⟨_, fun _ _ _ => Iff.rfl⟩
    refine for_vals Pv ?_ ?_ ?_ ?_
    · refine (hPv _ _ _).mpr ⟨none, [], rfl, upd_same, by rw [upd_ne (Ne.symm ndt)]; exact upd_same, fun b o e n => by rw [upd_ne n]; exact s0 b o e, Nat.le_refl _, fun z => ⟨fun h => (by cases h), fun ⟨i', _, _, h, _⟩ => absurd h (Nat.not_lt_zero _)⟩⟩
    · intro i σ H' hi h
      obtain ⟨_, _, _, e, _⟩ := (hPv _ _ _).mp h
      exact e
    · intro i ky v σ H' hi h
      obtain ⟨v2, tk, rfl, hd', ht', hb, hl, hk⟩ := (hPv _ _ _).mp h
      obtain ⟨j, x, e, hx⟩ := R.dir.mem _ (List.mem_of_getElem? hi)
      obtain ⟨rfl, rfl⟩ := Prod.mk.inj e
      obtain ⟨dx, pe, rs, er, ha, _⟩ := (R.sock j x hx).ex
      have ha' : H' (ad j) = some (.ins C.c_Socket dx (sf (.int x.at_) (.int x.port) (.ref pe) (.int (b01 x.all)) (.ref (qd j)) er (.int x.lost))) := hb _ _ ha (ne_of ha hd (by intro z; cases z))
      have hfew := R.few
      have hi2 := (List.getElem?_eq_some_iff.mp hi).1
      have hp := DPut.k (k := Sum.inl (x.port : Int)) (v := V.bl true) ht' (Nat.lt_of_le_of_lt (Nat.le_trans hl (by omega : i ≤ 64)) (by decide))
      simp only [tSeq, tIfS, tTest, tOp, tOr, tAnd, tNot, tAndV, tOrV, tNotV, tIf, tVar, tC, tRet, tRetN, tDrop, tNext, tFld, sFld, tAsg, gName, gTup, gCons, gNil, tB, rEq, rNe, rI, rI0, scal_ii, scal_bb, cxK, ite_true, ite_false, if_true, if_false, tNil, tCons, tTup, tLst, tCall, tCB, tUn, tMeth, tMake, tDNewK, tDGet, tDIn, tDNotIn, sDPut, tDPop1, L2.start, List.replicate, Nat.reduceSub, Nat.reduceAdd, List.map_cons, List.map_nil, List.length_cons, List.length_nil, List.cons_append, List.nil_append, List.append_nil, List.getElem?_cons_zero, List.getElem?_cons_succ, List.set_cons_zero, List.set_cons_succ, Option.some.injEq, List.cons.injEq, kV_inl, Bool.false_eq_true, reduceCtorEq, V.int.injEq, V.bl.injEq, V.ref.injEq, HO.ins.injEq, exists_eq_left', exists_eq_left, exists_eq_right, and_assoc, and_true, true_and, exists_and_left, exists_and_right, decide_eq_true_eq, Bool.not_eq_true', decide_eq_false_iff_not, ha', T.clS, T.nPort, sf_get_port]
      refine ⟨_, hp, (hPv _ _ _).mpr ⟨_, _, rfl, by rw [upd_ne ndt]; exact hd', upd_same, fun b o e n => ?_, ?_, fun z => ?_⟩⟩
      · by_cases hbt : b = t
        · subst hbt; rw [ht] at e; cases e
        · rw [upd_ne hbt]; exact hb b o e n
      · have := length_putK tk (Sum.inl (x.port : Int)) (V.bl true); omega
      · rw [valV_put]
        constructor
        · intro h
          by_cases e : (Sum.inl z : Key) = Sum.inl (x.port : Int)
          · exact ⟨i, j, x, Nat.lt_succ_self _, hi, hx, (Sum.inl.inj e).symm⟩
          · rw [if_neg e] at h
            obtain ⟨i', j', x', h1, h2⟩ := (hk z).mp h
            exact ⟨i', j', x', Nat.lt_succ_of_lt h1, h2⟩
        · rintro ⟨i', j', x', h1, h2, h3, h4⟩
          by_cases e : (Sum.inl z : Key) = Sum.inl (x.port : Int)
          · rw [if_pos e]; rfl
          · rw [if_neg e]
            refine (hk z).mpr ⟨i', j', x', ?_, h2, h3, h4⟩
            by_cases e3 : i' = i
            · subst e3
              rw [hi] at h2
              have h5 : (j : Int) = (j' : Int) := Sum.inl.inj (Prod.mk.inj (Option.some.inj h2)).1
              have h6 : j = j' := by omega
              subst h6
              rw [hx] at h3
              cases h3
              exact absurd (by rw [h4]) e
            · omega
    · intro σ H' h
      obtain ⟨v2, tk, rfl, hd', ht', hb, hl, hk⟩ := (hPv _ _ _).mp h
      refine ⟨hd', ?_⟩
      have sH : Same H (upd H' d (.dK kvs)) := fun b o e => by
        by_cases hbd : b = d
        · subst hbd; rw [upd_same, ← hd]; exact e
        · rw [upd_ne hbd]; exact hb b o e hbd
      have htd : (upd H' d (.dK kvs)) t = some (.dK tk) := by rw [upd_ne (Ne.symm ndt)]; exact ht'
      generalize upd H' d (.dK kvs) = H3 at *
      have key : ∀ i : Nat, (valV tk (Sum.inl ((portAt sc i : Nat) : Int))).isSome = sc.used (portAt sc i) := fun i => by
        rw [Bool.eq_iff_iff, hk, used_iff]
        constructor
        · rintro ⟨i', j, x, _, _, h3, h4⟩
          exact ⟨j, x, h3, by omega⟩
        · rintro ⟨j, x, h3, h4⟩
          obtain ⟨i', hi'⟩ := List.mem_iff_getElem?.mp (R.dir.has j x h3)
          exact ⟨i', j, x, (List.getElem?_eq_some_iff.mp hi').1, hi', h3, by omega⟩
      refine ⟨16384, rfl, by decide, by decide, ?_⟩
      obtain ⟨Pw, hPw⟩ : ∃ Pv : Nat → L2.St → Hp → Prop, ∀ i σ H', Pv i σ H' ↔ ∃ v3 v4, σ = [some (.ref m), some (.ref t), v2, v3, v4] ∧ H' = H3 ∧ ∀ j, j < i → sc.used (portAt sc j) = true := ⟨_, fun _ _ _ => Iff.rfl⟩
      refine for_range (n := 16384) Pw ?_ ?_ ?_
      · exact (hPw _ _ _).mpr ⟨_, _, rfl, rfl, fun j h => absurd h (Nat.not_lt_zero _)⟩
      · intro i σ H4 hi h
        obtain ⟨v3, v4, rfl, rfl, hb4⟩ := (hPw _ _ _).mp h
        have hm4 := sH _ _ hm
        have hg := DGet.k (k := Sum.inl ((portAt sc i : Nat) : Int)) htd
        have ep : (49152 : Int) + (49152 + (sc.turn : Int) + (0 + (i : Int))) % 16384 = ((portAt sc i : Nat) : Int) := by unfold portAt; omega
        simp only [tSeq, tIfS, tTest, tOp, tOr, tAnd, tNot, tAndV, tOrV, tNotV, tIf, tVar, tC, tRet, tRetN, tDrop, tNext, tFld, sFld, tAsg, gName, gTup, gCons, gNil, tB, rEq, rNe, rI, rI0, scal_ii, scal_bb, cxK, ite_true, ite_false, if_true, if_false, tNil, tCons, tTup, tLst, tCall, tCB, tUn, tMeth, tMake, tDNewK, tDGet, tDIn, tDNotIn, sDPut, tDPop1, L2.start, List.replicate, Nat.reduceSub, Nat.reduceAdd, List.map_cons, List.map_nil, List.length_cons, List.length_nil, List.cons_append, List.nil_append, List.append_nil, List.getElem?_cons_zero, List.getElem?_cons_succ, List.set_cons_zero, List.set_cons_succ, Option.some.injEq, List.cons.injEq, kV_inl, Bool.false_eq_true, reduceCtorEq, V.int.injEq, V.bl.injEq, V.ref.injEq, HO.ins.injEq, exists_eq_left', exists_eq_left, exists_eq_right, and_assoc, and_true, true_and, exists_and_left, exists_and_right, decide_eq_true_eq, Bool.not_eq_true', decide_eq_false_iff_not, spRound, hm4, T.clM, T.nTurn, mf_get_turn, ep]
        refine ⟨_, hg, ?_⟩
        rw [key i]
        cases hus : sc.used (portAt sc i) with
        | true =>
          rw [if_neg (by simp)]
          refine (hPw _ _ _).mpr ⟨_, _, rfl, rfl, fun j hj => ?_⟩
          by_cases e : j = i
          · subst e; exact hus
          · exact hb4 j (by omega)
        | false =>
          rw [if_pos rfl]
          have := q _ sH
          rw [free_some hi hus hb4] at this
          exact this
      · intro σ H4 h
        obtain ⟨v3, v4, rfl, rfl, hb4⟩ := (hPw _ _ _).mp h
        have := q _ sH
        rw [free_none hb4] at this
        exact this
end
end Sm



set_option Elab.async false
set_option linter.all false
set_option maxRecDepth 100000
namespace Sm
open PySem PySem.Spec PyProof.Rows L2
section
variable {K : PySem.W.Frag} {C : Ad} {M M' : Mem} {H H' : Hp} {m d : Addr} {ad qd : Nat → Addr} {kvs : List (Key × V)} {s : Si23.St}
theorem get_some {k : Int} {x : Si23.Sock} : s.get k = some x ↔ 0 ≤ k ∧ s.socks[k.toNat]? = some (some x) := by
  unfold Si23.St.get
  by_cases h : k < 0
  · rw [if_pos h]
    exact ⟨fun z => (by cases z), fun z => absurd z.1 (by omega)⟩
  · rw [if_neg h]
    cases e : s.socks[k.toNat]? with
    | none => simp
    | some y => cases y <;> simp <;> omega
theorem Rep.there (R : Rep K C M H m d ad qd kvs s) {k : Int} {x : Si23.Sock} (h : s.get k = some x) : valV kvs (Sum.inl k) = some (V.ref (ad k.toNat)) := by
  obtain ⟨h1, h2⟩ := get_some.mp h
  have e : ((k.toNat : Nat) : Int) = k := by omega
  have := R.dir.val h2
  rw [e] at this
  exact this
theorem Rep.gone (R : Rep K C M H m d ad qd kvs s) {k : Int} (h : s.get k = none) : valV kvs (Sum.inl k) = none := by
  refine R.dir.novalN fun j x hx e => ?_
  have : s.get k = some x := get_some.mpr ⟨by omega, by rw [← e]; simpa using hx⟩
  rw [h] at this
  cases this
theorem Rep.isSome (R : Rep K C M H m d ad qd kvs s) (k : Int) : (valV kvs (Sum.inl k)).isSome = (s.get k).isSome := by
  cases e : s.get k with
  | none => rw [R.gone e]; rfl
  | some x => rw [R.there e]; rfl
theorem Rep.turnW (R : Rep K C M H m d ad qd kvs s) {dm : Addr} {t : Nat} (ht : t < 16384) : Rep K C M (upd H m (.ins C.c_Machine dm (mf (.ref d) (.int (49152 + (t : Int)))))) m d ad qd kvs { s with turn := t } := by
  obtain ⟨dm0, hm⟩ := R.mach
  have f : Fr M H M (upd H m (.ins C.c_Machine dm (mf (.ref d) (.int (49152 + (t : Int)))))) := Fr.write _ R.mm
  refine ⟨⟨dm, upd_same⟩, by rw [upd_ne (ne_of R.dict hm (by intro z; cases z))]; exact R.dict, R.dir, fun k x h => ?_, R.apart, R.ne, R.mm, R.md, R.ma, ⟨R.good.len, ht, R.good.peer, R.good.qlen⟩, R.al.upd _ _⟩
  obtain ⟨_, _, _, _, g1, _, g3, _⟩ := (R.sock k x h).ex
  exact (R.sock k x h).fr f (fun o e => by rw [upd_ne (Ne.symm (R.ne k x h))]; exact e) (fun o e => by rw [upd_ne (ne_of g3 hm (by intro z; cases z))]; exact e)
theorem upd_upd {H : Hp} {b : Addr} {o u : HO} : upd (upd H b o) b u = upd H b u := by
  funext c
  by_cases h : c = b
  · subst h; rw [upd_same, upd_same]
  · rw [upd_ne h, upd_ne h, upd_ne h]
theorem qd_same {qd : Nat → Addr} {k : Nat} : (fun j => if j = k then qd k else qd j) = qd := by
  funext j
  by_cases h : j = k
  · rw [if_pos h, h]
  · rw [if_neg h]
/-- plain attributes of the socket k are written -/
theorem Rep.sockF (R : Rep K C M H m d ad qd kvs s) {k : Nat} {x x' : Si23.Sock} {dx pe : Addr} {er : V} {fs0 : List (Str × V)} (hx : s.socks[k]? = some (some x)) (ha : H (ad k) = some (.ins C.c_Socket dx fs0)) (e1 : x'.queue = x.queue)
    (hpe : TupF K M H pe [.int (peerA x'), .int (peerP x')]) (her : ErrAt K M H er x'.bad) (hp : ∀ t p, x'.peer = some (t, p) → t ≠ 0 ∧ p ≠ 0 ∧ x'.port ≠ 0) :
    Rep K C M (upd H (ad k) (.ins C.c_Socket dx (sv x' pe (qd k) er))) m d ad qd kvs (s.set k (some x')) := by
  obtain ⟨dx0, pe0, rs, er0, h1, h2, h3, h4, h5⟩ := (R.sock k x hx).ex
  have f : Fr M H M (upd H (ad k) (.ins C.c_Socket dx (sv x' pe (qd k) er))) := Fr.write _ (R.ma k x hx).1
  have := R.sockW (x' := x') (q' := qd k) hx f (fun _ h => h) (fun b o e n1 _ => by rw [upd_ne n1]; exact e) ⟨dx, pe, rs, er, upd_same, hpe.fr f, by rw [upd_ne (ne_of h3 h1 (by intro z; cases z))]; exact h3, by rw [e1]; exact h4.fr f, her.fr f⟩ (R.ma k x hx).2 (.inl rfl) hp (by rw [e1]; exact R.good.qlen k x hx) (R.al.upd _ _)
  rw [qd_same] at this
  exact this
def pairOf : Option (Nat × Nat) → Int × Int
  | none => (0, 0)
  | some p => (p.1, p.2)
theorem peer_pair (R : Rep K C M H m d ad qd kvs s) {j : Nat} {x : Si23.Sock} (h : s.socks[j]? = some (some x)) {peer : Option (Nat × Nat)} (hp : ∀ t p, peer = some (t, p) → t ≠ 0) :
    (peerA x = (pairOf peer).1 ∧ peerP x = (pairOf peer).2) ↔ x.peer = peer := by
  unfold peerA peerP
  cases e : x.peer with
  | none =>
    cases peer with
    | none => simp [pairOf]
    | some p =>
      have := hp p.1 p.2 rfl
      simp [pairOf]; omega
  | some p =>
    have hg := R.good.peer j x p.1 p.2 h e
    cases peer with
    | none => simp [pairOf]; omega
    | some r =>
      simp only [pairOf, Option.some.injEq]
      constructor
      · rintro ⟨h1, h2⟩
        exact Prod.ext (by omega) (by omega)
      · rintro rfl
        exact ⟨rfl, rfl⟩
theorem met_taken (R : Rep K C M H m d ad qd kvs s) {k : Int} {a p : Nat} {peer : Option (Nat × Nat)} (hk : 0 ≤ k) (hp : ∀ t p, peer = some (t, p) → t ≠ 0) :
    (∃ j, Hit s.socks k a p (pairOf peer).1 (pairOf peer).2 j) ↔ p ≠ 0 ∧ s.taken k.toNat a p peer = true := by
  rw [taken_iff]
  constructor
  · rintro ⟨j, x, h1, h2, h3, h4, h5, h6, h7⟩
    exact ⟨by omega, j, x, h1, by omega, by omega, by omega, by omega, (peer_pair R h1 hp).mp ⟨h3, h4⟩⟩
  · rintro ⟨h0, j, x, h1, h2, h3, h4, h5, h6⟩
    obtain ⟨h7, h8⟩ := (peer_pair R h1 hp).mpr h6
    exact ⟨j, x, h1, by omega, h7, h8, by omega, by omega, by omega⟩
end
theorem free_ge {s : Si23.St} {p : Nat} (h : s.free = some p) : 49152 ≤ p ∧ p < 65536 := by
  unfold Si23.St.free at h
  obtain ⟨i, _, e⟩ := Option.map_eq_some_iff.mp h
  have h1 : (s.turn + i) % Si23.FREE < 16384 := Nat.mod_lt _ (by decide)
  have h2 : Si23.FIRST = 49152 := rfl
  omega
theorem bad_bind {a p : Nat} : (Si23.address a = false ∨ Si23.portOk p = false ∨ a = Si23.EVERYBODY) ↔ (4294967295 ≤ a ∨ 65535 < p) := by
  have h : Si23.EVERYBODY = 4294967295 := rfl
  rw [h]
  simp only [Si23.address, Si23.portOk, decide_eq_false_iff_not]
  omega
theorem mf_no (a b : V) {n : Str} (h1 : ¬ n = "sockets") (h2 : ¬ n = "turn") : (mf a b).lookup n = none := by
  have b1 : (n == ("sockets" : Str)) = false := beq_eq_false_iff_ne.mpr h1
  have b2 : (n == ("turn" : Str)) = false := beq_eq_false_iff_ne.mpr h2
  simp only [mf, List.lookup, b1, b2]
/-- what a call is to reach: the state s', the value v -/
def Post (K : PySem.W.Frag) (C : Ad) (M : Mem) (H : Hp) (m : Addr) (s' : Si23.St) (Q : VK) (v : V) : Prop :=
  ∀ M' H' d' ad' qd' kvs', Fr M H M' H' → Rep K C M' H' m d' ad' qd' kvs' s' → Q v H'
def spBind (K : PySem.W.Frag) (C : Ad) : Sp := fun vs H Q _ => ∃ (M : Mem) (m d : Addr) (ad qd : Nat → Addr) (kvs : List (Key × V)) (s : Si23.St) (k : Int) (a p : Nat),
  vs = [.ref m, .int k, .int a, .int p] ∧ Rep K C M H m d ad qd kvs s ∧ Post K C M H m (Si23.step s (.bind k a p)).1 Q (.int (Si23.step s (.bind k a p)).2.code)
/-- more of the text -/
structure Txt2 (K : PySem.W.Frag) (mg : Str → Option Value) (C : Ad) (np : Addr) : Prop where
  t : Txt K mg C
  nHears : NoAttr K C.c_Socket "hears"
  nQueue : NoAttr K C.c_Socket "queue"
  NO_PEER : mg "NO_PEER" = some (.ref np)
  npK : TupK K np [.int 0, .int 0]
  NOT_AS_TOLD : ∃ t, mg "NOT_AS_TOLD" = some (.int (-1) t)
  NO_SUCH_SOCKET : ∃ t, mg "NO_SUCH_SOCKET" = some (.int (-2) t)
  IN_THE_WAY : ∃ t, mg "IN_THE_WAY" = some (.int (-4) t)
  NONE_FREE : ∃ t, mg "NONE_FREE" = some (.int (-5) t)
  MOST_SOCKETS : ∃ t, mg "MOST_SOCKETS" = some (.int 64 t)
  EVERYBODY : ∃ t, mg "EVERYBODY" = some (.int 4294967295 t)
  LAST_PORT : ∃ t, mg "LAST_PORT" = some (.int 65535 t)
theorem Txt2.of {K : PySem.W.Frag} {mg : Str → Option Value} {A : Ad} (T : Tx K mg A) : Txt2 K mg A A.g_NO_PEER := ⟨Txt.of T, T.no_Socket_hears, T.no_Socket_queue, T.t_NO_PEER, T.k_NO_PEER, T.i_NOT_AS_TOLD, T.i_NO_SUCH_SOCKET, T.i_IN_THE_WAY, T.i_NONE_FREE, T.i_MOST_SOCKETS, T.i_EVERYBODY, T.i_LAST_PORT⟩
/-- a method: its address, its data, its promise -/
structure MOk (P : Program) (w : World) (K : PySem.W.Frag) (mg : Str → Option Value) (base : Heap) (CM : Addr) (n : Nat) (name : Str) (ps : List Str) (sp : Sp) (f : Addr) (fd : FuncData) : Prop where
  at_ : Meth K CM name f
  ok : FnOk P w K mg base CX0 n f fd ps sp
  b : L2.Binds K fd ps []
structure GOk (P : Program) (w : World) (K : PySem.W.Frag) (mg : Str → Option Value) (base : Heap) (n : Nat) (name : Str) (ps : List Str) (sp : Sp) (f : Addr) (fd : FuncData) : Prop where
  at_ : mg name = some (.ref f)
  kp : PySem.W.keepIn K (.ref f) = true
  ok : FnOk P w K mg base CX0 n f fd ps sp
  b : L2.Binds K fd ps []
/-- the port it has, or would be given -/
def portFor (s : Si23.St) (x : Si23.Sock) : Nat := if x.port = 0 then s.free.getD 0 else x.port
def spPortFor (K : PySem.W.Frag) (C : Ad) : Sp := fun vs H Q _ => ∃ (M : Mem) (m d : Addr) (ad qd : Nat → Addr) (kvs : List (Key × V)) (s : Si23.St) (k : Nat) (x : Si23.Sock),
  vs = [.ref m, .ref (ad k)] ∧ Rep K C M H m d ad qd kvs s ∧ s.socks[k]? = some (some x) ∧ ∀ H', Same H H' → Q (.int (portFor s x : Nat)) H'
def spGive (C : Ad) : Sp := fun vs H Q _ => ∃ (m a dm dx : Addr) (Sk Tn A Pe He Qu Er Lo : V) (sp p : Int),
  vs = [.ref m, .ref a, .int p] ∧ H m = some (.ins C.c_Machine dm (mf Sk Tn)) ∧ H a = some (.ins C.c_Socket dx (sf A (.int sp) Pe He Qu Er Lo)) ∧ m ≠ a ∧
  (sp ≠ 0 → Q .non H) ∧ (sp = 0 → Q .non (upd (upd H a (.ins C.c_Socket dx (sf A (.int p) Pe He Qu Er Lo))) m (.ins C.c_Machine dm (mf Sk (.int (49152 + (p + 1) % 16384))))))
section
variable {K : PySem.W.Frag} {C : Ad} {M M' : Mem} {H H' : Hp} {m d : Addr} {ad qd : Nat → Addr} {kvs : List (Key × V)} {s : Si23.St}
/-- the socket k is given the port p -/
theorem Rep.give (R : Rep K C M H m d ad qd kvs s) {k : Nat} {x : Si23.Sock} {dx dm pe : Addr} {er : V} {p : Nat} (hx : s.socks[k]? = some (some x)) (ha : H (ad k) = some (.ins C.c_Socket dx (sv x pe (qd k) er)))
    (hpe : TupF K M H pe [.int (peerA x), .int (peerP x)]) (her : ErrAt K M H er x.bad) (hp : 49152 ≤ p) :
    Fr M H M (upd (upd H (ad k) (.ins C.c_Socket dx (sv { x with port := p } pe (qd k) er))) m (.ins C.c_Machine dm (mf (.ref d) (.int (49152 + ((p : Int) + 1) % 16384))))) ∧
    Rep K C M (upd (upd H (ad k) (.ins C.c_Socket dx (sv { x with port := p } pe (qd k) er))) m (.ins C.c_Machine dm (mf (.ref d) (.int (49152 + ((p : Int) + 1) % 16384))))) m d ad qd kvs { s with socks := s.socks.set k (some { x with port := p }), turn := (p - 49152 + 1) % 16384 } := by
  have ey : (49152 : Int) + ((p : Int) + 1) % 16384 = 49152 + (((p - 49152 + 1) % 16384 : Nat) : Int) := by omega
  have R1 := R.sockF (x' := { x with port := p }) (pe := pe) (dx := dx) (er := er) hx ha rfl hpe her (fun t q e => ⟨(R.good.peer _ x t q hx e).1, (R.good.peer _ x t q hx e).2.1, by show p ≠ 0; omega⟩)
  rw [ey]
  exact ⟨(Fr.write _ (R.ma k x hx).1).trans (Fr.write _ R.mm), R1.turnW (Nat.mod_lt _ (by decide))⟩
end
section
variable {P : Program} {w : World} {K : PySem.W.Frag} {mg : Str → Option Value} {base : Heap} {A : Ad}
theorem okT_port_of_round (T : Tx K mg A) : FnOk P w K mg base CX0 1 A.f_port_of_round A.d_port_of_round ["number"] spRound := ok_round T.F_port_of_round (Txt.of T)
theorem okT_Machine_is_met (T : Tx K mg A) : FnOk P w K mg base CX0 2 A.f_Machine_is_met A.d_Machine_is_met ["self", "k", "address", "port", "peer"] (spMet K A) := ok_met T.F_Machine_is_met (Txt.of T) T.F_meets T.b_meets T.mg_meets
theorem okT_Machine_free_port (T : Tx K mg A) : FnOk P w K mg base CX0 2 A.f_Machine_free_port A.d_Machine_free_port ["self"] (spFree K A) := ok_free T.F_Machine_free_port (Txt.of T) T.F_port_of_round T.b_port_of_round T.mg_port_of_round T.z_range
theorem okT_Machine_port_for (T : Tx K mg A) : FnOk P w K mg base CX0 3 A.f_Machine_port_for A.d_Machine_port_for ["self", "socket"] (spPortFor K A) := by
  have G_Machine_free_port := okT_Machine_free_port (P := P) (w := w) (base := base) T
  refine T.F_Machine_port_for.ok sc_Machine_port_for (fun vs H Q E h => ?_) (fun cdv A' outer s H vs Q E hr h => ?_)
  · obtain ⟨M, m, d, ad, qd, kvs, sc, k, x, rfl, _⟩ := h
    rfl
  · obtain ⟨M, m, d, ad, qd, kvs, sc, k, x, rfl, R, hx, q⟩ := h
    obtain ⟨dm, hm⟩ := R.mach
    obtain ⟨dx, pe, rs, er, ha, hpe, hq, hms, her⟩ := (R.sock _ x hx).ex
    refine ⟨_, pss_one (ps_ret (pe_ifExp (pt_cmpR op_eq (pe_fld (pv 1) rfl) pe_int (nomark _)) (pe_meth0 (pv 0) T.cls_Machine T.m_Machine_free_port G_Machine_free_port (hr.mono (by decide)) T.b_Machine_free_port .nil pass0) (pe_fld (pv 1) rfl))), ?_⟩
    simp only [tSeq, tIfS, tTest, tOp, tOr, tAnd, tNot, tAndV, tOrV, tNotV, tIf, tVar, tC, tRet, tRetN, tDrop, tNext, tFld, sFld, tAsg, gName, gTup, gCons, gNil, tB, rEq, rNe, rI, rI0, scal_ii, scal_bb, cxK, ite_true, ite_false, if_true, if_false, tNil, tCons, tTup, tLst, tCall, tCB, tUn, tMeth, tMake, tDNewK, tDGet, tDIn, tDNotIn, sDPut, tDPop1, L2.start, List.replicate, Nat.reduceSub, Nat.reduceAdd, List.map_cons, List.map_nil, List.length_cons, List.length_nil, List.cons_append, List.nil_append, List.append_nil, List.getElem?_cons_zero, List.getElem?_cons_succ, List.set_cons_zero, List.set_cons_succ, Option.some.injEq, List.cons.injEq, kV_inl, Bool.false_eq_true, reduceCtorEq, V.int.injEq, V.bl.injEq, V.ref.injEq, HO.ins.injEq, exists_eq_left', exists_eq_left, exists_eq_right, and_assoc, and_true, true_and, exists_and_left, exists_and_right, decide_eq_true_eq, Bool.not_eq_true', decide_eq_false_iff_not, ha, sv, sf_get_port, T.cls_Socket, T.no_Socket_port]
    unfold portFor at q
    by_cases c : x.port = 0
    · rw [if_pos (by omega)]
      rw [if_pos c] at q
      exact ⟨_, _, hm, mf_no _ _ (by decide) (by decide), M, m, d, ad, qd, kvs, sc, rfl, R, fun H1 s1 => q H1 s1⟩
    · rw [if_neg (by omega)]
      rw [if_neg c] at q
      exact q H fun _ _ z => z
theorem okT_Machine_give (T : Tx K mg A) : FnOk P w K mg base CX0 2 A.f_Machine_give A.d_Machine_give ["self", "socket", "port"] (spGive A) := by
  have G_port_of_round := okT_port_of_round (P := P) (w := w) (base := base) T
  refine T.F_Machine_give.ok sc_Machine_give (fun vs H Q E h => ?_) (fun cdv A' outer s H vs Q E hr h => ?_)
  · obtain ⟨m, a, dm, dx, Sk, Tn, A1, Pe, He, Qu, Er, Lo, sp, p, rfl, _⟩ := h
    rfl
  · obtain ⟨m, a, dm, dx, Sk, Tn, A1, Pe, He, Qu, Er, Lo, sp, p, rfl, hm, ha, hne, q1, q2⟩ := h
    refine ⟨_, pss_one (ps_if (pt_cmpR op_eq (pe_fld (pv 1) rfl) pe_int (nomark _)) (pss_cons (ps_fld (pv 1) (pv 2) rfl) (pss_one (ps_fld (pv 0) (pe_call G_port_of_round (hr.mono (by decide)) rfl T.mg_port_of_round T.F_port_of_round.kp T.b_port_of_round .nil pass0 (pa_cons (pe_op op_add (pv 2) pe_int) pa_nil)) rfl))) pss_nil), ?_⟩
    have hm' : (upd H a (.ins A.c_Socket dx (sf A1 (.int p) Pe He Qu Er Lo))) m = some (.ins A.c_Machine dm (mf Sk Tn)) := by rw [upd_ne hne]; exact hm
    simp only [tSeq, tIfS, tTest, tOp, tOr, tAnd, tNot, tAndV, tOrV, tNotV, tIf, tVar, tC, tRet, tRetN, tDrop, tNext, tFld, sFld, tAsg, gName, gTup, gCons, gNil, tB, rEq, rNe, rI, rI0, scal_ii, scal_bb, cxK, ite_true, ite_false, if_true, if_false, tNil, tCons, tTup, tLst, tCall, tCB, tUn, tMeth, tMake, tDNewK, tDGet, tDIn, tDNotIn, sDPut, tDPop1, L2.start, List.replicate, Nat.reduceSub, Nat.reduceAdd, List.map_cons, List.map_nil, List.length_cons, List.length_nil, List.cons_append, List.nil_append, List.append_nil, List.getElem?_cons_zero, List.getElem?_cons_succ, List.set_cons_zero, List.set_cons_succ, Option.some.injEq, List.cons.injEq, kV_inl, Bool.false_eq_true, reduceCtorEq, V.int.injEq, V.bl.injEq, V.ref.injEq, HO.ins.injEq, exists_eq_left', exists_eq_left, exists_eq_right, and_assoc, and_true, true_and, exists_and_left, exists_and_right, decide_eq_true_eq, Bool.not_eq_true', decide_eq_false_iff_not, ha, sf_get_port, sf_put_port, sf_len, T.cls_Socket, T.no_Socket_port, spRound, hm', T.cls_Machine, T.no_Machine_turn, mf_len, mf_put_turn]
    by_cases c : sp = 0
    · rw [if_pos c]; exact q2 c
    · rw [if_neg c]; exact q1 c
theorem okT_Machine_bind (T : Tx K mg A) : FnOk P w K mg base CX0 4 A.f_Machine_bind A.d_Machine_bind ["self", "k", "a", "p"] (spBind K A) := by
  have G_Machine_is_met := okT_Machine_is_met (P := P) (w := w) (base := base) T
  have G_Machine_port_for := okT_Machine_port_for (P := P) (w := w) (base := base) T
  have G_Machine_give := okT_Machine_give (P := P) (w := w) (base := base) T
  have T2 := Txt2.of T
  refine T.F_Machine_bind.ok sc_Machine_bind (fun vs H Q E h => ?_) (fun cdv A' outer s H vs Q E hr h => ?_)
  · obtain ⟨M, m, d, ad, qd, kvs, sc, k, a, p, rfl, _⟩ := h
    rfl
  · obtain ⟨M, m, d, ad, qd, kvs, sc, k, a, p, rfl, R, q⟩ := h
    obtain ⟨dm, hm⟩ := R.mach
    have hd := R.dict
    have hu := hu_of hr
    obtain ⟨t_EVERYBODY, e_EVERYBODY⟩ := T.i_EVERYBODY
    obtain ⟨t_IN_THE_WAY, e_IN_THE_WAY⟩ := T.i_IN_THE_WAY
    obtain ⟨t_LAST_PORT, e_LAST_PORT⟩ := T.i_LAST_PORT
    obtain ⟨t_NONE_FREE, e_NONE_FREE⟩ := T.i_NONE_FREE
    obtain ⟨t_NOT_AS_TOLD, e_NOT_AS_TOLD⟩ := T.i_NOT_AS_TOLD
    obtain ⟨t_NO_SUCH_SOCKET, e_NO_SUCH_SOCKET⟩ := T.i_NO_SUCH_SOCKET
    refine ⟨_, (pss_cons (ps_if (PW.pt (pw_or (pt_cmpR op_ge (pv 2) (pe_gi rfl e_EVERYBODY) (nomark _)) (pw_or1 (pt_cmpR op_gt (pv 3) (pe_gi rfl e_LAST_PORT) (nomark _))))) (pss_one (ps_ret (pe_gi rfl e_NOT_AS_TOLD))) pss_nil)
      (pss_cons (ps_if (pt_cmp (pc_dnotin hu (pv 1) (pe_fld (pv 0) rfl))) (pss_one (ps_ret (pe_gi rfl e_NO_SUCH_SOCKET))) pss_nil)
      (pss_cons (ps_set (i := 4) sc_Machine_bind.nd rfl (Or.inl rfl) (pe_dget hu (pe_fld (pv 0) rfl) (pv 1) (fun _ _ => rfl)))
      (pss_cons (ps_if (PW.pt (pw_or (pt_cmpR op_ne (pe_fld (pv 4) rfl) pe_int (nomark _)) (pw_or1 (pt_val (pe_meth (pv 0) T.cls_Machine T.m_Machine_is_met G_Machine_is_met (hr.mono (by decide)) T.b_Machine_is_met .nil pass0 (pa_cons (pv 1) (pa_cons (pv 2) (pa_cons (pv 3) (pa_cons (pe_gr rfl T.t_NO_PEER) pa_nil))))))))) (pss_one (ps_ret (pe_gi rfl e_IN_THE_WAY))) pss_nil)
      (pss_cons (ps_set (i := 5) sc_Machine_bind.nd rfl (Or.inl rfl) (pe_cut (pe_ifExp (pt_cmpR op_eq (pv 3) pe_int (nomark _)) (pe_meth (pv 0) T.cls_Machine T.m_Machine_port_for G_Machine_port_for (hr.mono (by decide)) T.b_Machine_port_for .nil pass0 (pa_cons (pv 4) pa_nil)) (pv 3))))
      (pss_cons (ps_if (pt_cmpR op_eq (pv 5) pe_int (nomark _)) (pss_one (ps_ret (pe_gi rfl e_NONE_FREE))) pss_nil)
      (pss_cons (ps_if (pt_cmpR op_eq (pv 3) pe_int (nomark _)) (pss_one (ps_expr (pe_meth (pv 0) T.cls_Machine T.m_Machine_give G_Machine_give (hr.mono (by decide)) T.b_Machine_give .nil pass0 (pa_cons (pv 4) (pa_cons (pv 5) pa_nil))))) pss_nil)
      (pss_cons (ps_fld (pv 4) (pv 2) rfl)
      (pss_cons (ps_fld (pv 4) (pv 5) rfl)
      (pss_one (ps_ret (pv 5)))))))))))), ?_⟩
    have hg := DGet.k (k := Sum.inl k) hd
    have T := T2.t
    simp only [tSeq, tIfS, tTest, tOp, tOr, tAnd, tNot, tAndV, tOrV, tNotV, tIf, tVar, tC, tRet, tRetN, tDrop, tNext, tFld, sFld, tAsg, gName, gTup, gCons, gNil, tB, rEq, rNe, rI, rI0, scal_ii, scal_bb, cxK, ite_true, ite_false, if_true, if_false, tNil, tCons, tTup, tLst, tCall, tCB, tUn, tMeth, tMake, tDNewK, tDGet, tDIn, tDNotIn, sDPut, tDPop1, L2.start, List.replicate, Nat.reduceSub, Nat.reduceAdd, List.map_cons, List.map_nil, List.length_cons, List.length_nil, List.cons_append, List.nil_append, List.append_nil, List.getElem?_cons_zero, List.getElem?_cons_succ, List.set_cons_zero, List.set_cons_succ, Option.some.injEq, List.cons.injEq, kV_inl, Bool.false_eq_true, reduceCtorEq, V.int.injEq, V.bl.injEq, V.ref.injEq, HO.ins.injEq, exists_eq_left', exists_eq_left, exists_eq_right, and_assoc, and_true, true_and, exists_and_left, exists_and_right, decide_eq_true_eq, Bool.not_eq_true', decide_eq_false_iff_not, tCut, hm, T.clM, T.nSockets, mf_get_sockets]
    by_cases c1 : 4294967295 ≤ a ∨ 65535 < p
    · have es : Si23.step sc (.bind k a p) = (sc, Si23.say (-1)) := by
        simp only [Si23.step]; rw [if_pos (bad_bind.mpr c1)]
      rw [es] at q
      have q1 := q _ _ _ _ _ _ (Fr.refl _ _) R
      by_cases c2 : (4294967295 : Int) ≤ a
      · rw [if_pos c2]; exact q1
      · rw [if_neg c2, if_pos (by omega)]; exact q1
    rw [if_neg (by omega), if_neg (by omega)]
    refine ⟨_, hg, ?_⟩
    cases hx : sc.get k with
    | none =>
      have es : Si23.step sc (.bind k a p) = (sc, Si23.say (-2)) := by
        simp only [Si23.step]; rw [if_neg (fun z => c1 (bad_bind.mp z))]; simp only [hx]
      rw [es] at q
      rw [R.isSome, hx, if_pos (by rfl)]
      exact q _ _ _ _ _ _ (Fr.refl _ _) R
    | some x =>
      rw [R.isSome, hx, if_neg (by simp)]
      obtain ⟨hk0, hsx⟩ := get_some.mp hx
      have hg2 : DGet H d (V.int k) (some (V.ref (ad k.toNat))) := by
        have := hg; rw [R.there hx] at this; exact this
      obtain ⟨dx, pe, rs, er, ha, hpe, hq, hms, her⟩ := (R.sock _ x hsx).ex
      refine ⟨_, hg2, ?_⟩
      simp only [tSeq, tIfS, tTest, tOp, tOr, tAnd, tNot, tAndV, tOrV, tNotV, tIf, tVar, tC, tRet, tRetN, tDrop, tNext, tFld, sFld, tAsg, gName, gTup, gCons, gNil, tB, rEq, rNe, rI, rI0, scal_ii, scal_bb, cxK, ite_true, ite_false, if_true, if_false, tNil, tCons, tTup, tLst, tCall, tCB, tUn, tMeth, tMake, tDNewK, tDGet, tDIn, tDNotIn, sDPut, tDPop1, L2.start, List.replicate, Nat.reduceSub, Nat.reduceAdd, List.map_cons, List.map_nil, List.length_cons, List.length_nil, List.cons_append, List.nil_append, List.append_nil, List.getElem?_cons_zero, List.getElem?_cons_succ, List.set_cons_zero, List.set_cons_succ, Option.some.injEq, List.cons.injEq, kV_inl, Bool.false_eq_true, reduceCtorEq, V.int.injEq, V.bl.injEq, V.ref.injEq, HO.ins.injEq, exists_eq_left', exists_eq_left, exists_eq_right, and_assoc, and_true, true_and, exists_and_left, exists_and_right, decide_eq_true_eq, Bool.not_eq_true', decide_eq_false_iff_not, ha, sv, sf_get_port, T.clS, T.nPort, mf_no _ _ (show ¬ ("is_met" : Str) = "sockets" by decide) (show ¬ ("is_met" : Str) = "turn" by decide)]
      by_cases c2 : x.port = 0
      · rw [if_neg (by omega)]
        refine ⟨M, m, d, A.g_NO_PEER, ad, qd, kvs, sc, k, a, p, 0, 0, rfl, R, .inr T2.npK, fun H1 b s1 hb => ⟨b, rfl, ?_⟩⟩
        have hb := hb.trans (met_taken (a := a) (p := p) (peer := none) R hk0 (fun _ _ z => by cases z))
        have R1 := R.same s1
        have F1 : Fr M H M H1 := Fr.same s1
        have hm1 := s1 _ _ hm
        have ha1 := s1 _ _ ha
        by_cases c3 : p ≠ 0 ∧ sc.taken k.toNat a p none = true
        · rw [if_pos (hb.mpr c3)]
          have es : Si23.step sc (.bind k a p) = (sc, Si23.say (-4)) := by
            simp only [Si23.step]; rw [if_neg (fun z => c1 (bad_bind.mp z))]; simp only [hx]; rw [if_neg (by omega), if_pos c3]
          rw [es] at q
          exact q _ _ _ _ _ _ F1 R1
        · rw [if_neg (fun z => c3 (hb.mp z))]
          by_cases c4 : p = 0
          · subst c4
            refine ⟨fun v H' => v = .int ((sc.free.getD 0 : Nat) : Int) ∧ Same H1 H', ?_, ?_⟩
            · rw [if_pos (by rfl)]
              refine ⟨_, _, hm1, mf_no _ _ (by decide) (by decide), M, m, d, ad, qd, kvs, sc, k.toNat, x, rfl, R1, hsx, fun H2 s2 => ⟨?_, s2⟩⟩
              unfold portFor; rw [if_pos c2]
            rintro v H2 ⟨rfl, s2⟩
            have R2 := R1.same s2
            have F2 : Fr M H M H2 := F1.trans (Fr.same s2)
            have hm2 := s2 _ _ hm1
            have ha2 := s2 _ _ ha1
            refine ⟨scal_ii _ _, ?_⟩
            cases hf : sc.free with
            | none =>
              rw [if_pos (by rfl)]
              have es : Si23.step sc (.bind k a 0) = (sc, Si23.say (-5)) := by
                simp only [Si23.step]; rw [if_neg (fun z => c1 (bad_bind.mp z))]; simp only [hx]; rw [if_neg (by omega), if_neg c3, if_neg (by omega)]
                simp only [Si23.St.bound, hf]; rfl
              rw [es] at q
              exact q _ _ _ _ _ _ F2 R2
            | some fp =>
              have hfp := free_ge hf
              rw [if_neg (by simp; omega), if_pos (by rfl)]
              have R3 := R2.give (x := x) (dx := dx) (dm := dm) (pe := pe) (er := er) (p := fp) hsx ha2 (hpe.fr F2) (her.fr F2) hfp.1
              have ms := (R.ma _ x hsx).1
              refine ⟨_, _, hm2, mf_no _ _ (by decide) (by decide), m, ad k.toNat, dm, dx, _, _, _, _, _, _, _, _, _, _, rfl, hm2, ha2, R.ne _ x hsx, fun z => absurd (by rw [c2]; rfl) z, fun _ => ?_⟩
              obtain ⟨F3, R3⟩ := R3
              have ha3 : (upd (upd H2 (ad k.toNat) (.ins A.c_Socket dx (sv { x with port := fp } pe (qd k.toNat) er))) m (.ins A.c_Machine dm (mf (.ref d) (.int (49152 + ((fp : Int) + 1) % 16384))))) (ad k.toNat) = some (.ins A.c_Socket dx (sv { x with port := fp } pe (qd k.toNat) er)) := by rw [upd_ne (Ne.symm (R.ne _ x hsx)), upd_same]
              have hsx3 : ({ sc with socks := sc.socks.set k.toNat (some { x with port := fp }), turn := (fp - 49152 + 1) % 16384 } : Si23.St).socks[k.toNat]? = some (some { x with port := fp }) := List.getElem?_set_self (List.getElem?_eq_some_iff.mp hsx).1
              have R4 := R3.sockF (x' := { x with at_ := a, port := fp }) (pe := pe) (dx := dx) (er := er) hsx3 ha3 rfl ((hpe.fr F2).fr F3) ((her.fr F2).fr F3) (fun t p e => ⟨(R.good.peer _ x t p hsx e).1, (R.good.peer _ x t p hsx e).2.1, by show fp ≠ 0; omega⟩)
              have es : Si23.step sc (.bind k a 0) = ((({ sc with socks := sc.socks.set k.toNat (some { x with port := fp }), turn := (fp - 49152 + 1) % 16384 } : Si23.St).set k.toNat (some { x with at_ := a, port := fp })), Si23.say fp) := by
                simp only [Si23.step]; rw [if_neg (fun z => c1 (bad_bind.mp z))]; simp only [hx]; rw [if_neg (by omega), if_neg c3, if_neg (by omega)]
                simp only [Si23.St.bound, hf, Si23.St.set, List.set_set]; rfl
              rw [es] at q
              have F4 : Fr M H M _ := (F2.trans F3).trans (Fr.write (.ins A.c_Socket dx (sv { x with at_ := a, port := fp } pe (qd k.toNat) er)) ms)
              have q4 := q _ _ _ _ _ _ F4 R4
              have ha3' := ha3
              simp only [sv] at ha3' q4
              simp only [Option.getD_some, tSeq, tIfS, tTest, tOp, tOr, tAnd, tNot, tAndV, tOrV, tNotV, tIf, tVar, tC, tRet, tRetN, tDrop, tNext, tFld, sFld, tAsg, gName, gTup, gCons, gNil, tB, rEq, rNe, rI, rI0, scal_ii, scal_bb, cxK, ite_true, ite_false, if_true, if_false, tNil, tCons, tTup, tLst, tCall, tCB, tUn, tMeth, tMake, tDNewK, tDGet, tDIn, tDNotIn, sDPut, tDPop1, L2.start, List.replicate, Nat.reduceSub, Nat.reduceAdd, List.map_cons, List.map_nil, List.length_cons, List.length_nil, List.cons_append, List.nil_append, List.append_nil, List.getElem?_cons_zero, List.getElem?_cons_succ, List.set_cons_zero, List.set_cons_succ, Option.some.injEq, List.cons.injEq, kV_inl, Bool.false_eq_true, reduceCtorEq, V.int.injEq, V.bl.injEq, V.ref.injEq, HO.ins.injEq, exists_eq_left', exists_eq_left, exists_eq_right, and_assoc, and_true, true_and, exists_and_left, exists_and_right, decide_eq_true_eq, Bool.not_eq_true', decide_eq_false_iff_not, ha3', T.clS, T.nAddress, T.nPort, upd_same, sf_len, sf_put_address, sf_put_port, upd_upd]
              exact q4
          · refine ⟨fun v H' => v = .int (p : Int) ∧ H' = H1, ?_, ?_⟩
            · rw [if_neg (by omega)]
              exact ⟨rfl, rfl⟩
            rintro v H2 ⟨rfl, rfl⟩
            refine ⟨scal_ii _ _, ?_⟩
            rw [if_neg (by simp; omega), if_neg (by omega)]
            have R4 := R1.sockF (x' := { x with at_ := a, port := p }) (pe := pe) (dx := dx) (er := er) hsx ha1 rfl (hpe.fr F1) (her.fr F1) (fun t p' e => ⟨(R.good.peer _ x t p' hsx e).1, (R.good.peer _ x t p' hsx e).2.1, by show p ≠ 0; omega⟩)
            simp only [tSeq, tIfS, tTest, tOp, tOr, tAnd, tNot, tAndV, tOrV, tNotV, tIf, tVar, tC, tRet, tRetN, tDrop, tNext, tFld, sFld, tAsg, gName, gTup, gCons, gNil, tB, rEq, rNe, rI, rI0, scal_ii, scal_bb, cxK, ite_true, ite_false, if_true, if_false, tNil, tCons, tTup, tLst, tCall, tCB, tUn, tMeth, tMake, tDNewK, tDGet, tDIn, tDNotIn, sDPut, tDPop1, L2.start, List.replicate, Nat.reduceSub, Nat.reduceAdd, List.map_cons, List.map_nil, List.length_cons, List.length_nil, List.cons_append, List.nil_append, List.append_nil, List.getElem?_cons_zero, List.getElem?_cons_succ, List.set_cons_zero, List.set_cons_succ, Option.some.injEq, List.cons.injEq, kV_inl, Bool.false_eq_true, reduceCtorEq, V.int.injEq, V.bl.injEq, V.ref.injEq, HO.ins.injEq, exists_eq_left', exists_eq_left, exists_eq_right, and_assoc, and_true, true_and, exists_and_left, exists_and_right, decide_eq_true_eq, Bool.not_eq_true', decide_eq_false_iff_not, ha1, T.clS, T.nAddress, T.nPort, upd_same, sv, sf_len, sf_put_address, sf_put_port, upd_upd]
            have es : Si23.step sc (.bind k a p) = (sc.set k.toNat (some { x with at_ := a, port := p }), Si23.say p) := by
              simp only [Si23.step]; rw [if_neg (fun z => c1 (bad_bind.mp z))]; simp only [hx]; rw [if_neg (by omega), if_neg c3, if_pos c4]
            rw [es] at q
            exact q _ _ _ _ _ _ (F1.trans (Fr.write _ (R.ma _ x hsx).1)) R4
      · rw [if_pos (by omega)]
        have es : Si23.step sc (.bind k a p) = (sc, Si23.say (-4)) := by
          simp only [Si23.step]; rw [if_neg (fun z => c1 (bad_bind.mp z))]; simp only [hx]; rw [if_pos c2]
        rw [es] at q
        exact q _ _ _ _ _ _ (Fr.refl _ _) R
end
end Sm



set_option Elab.async false
set_option linter.all false
set_option maxRecDepth 100000
namespace Sm
open PySem PySem.Spec PyProof.Rows L2
abbrev sInitS : Stmt := s_Socket_init
abbrev sInitM : Stmt := s_Machine_init
abbrev sBegins : Stmt := s_Machine_begins
abbrev sOpens : Stmt := s_Machine_opens
abbrev sClose : Stmt := s_Machine_close
abbrev sHear : Stmt := s_Machine_hear
/-- a method with the numbers us, which does what the call c does -/
def spC (K : PySem.W.Frag) (C : Ad) (us : List V) (c : Si23.Call) : Sp := fun vs H Q _ => ∃ (M : Mem) (m d : Addr) (ad qd : Nat → Addr) (kvs : List (Key × V)) (s : Si23.St),
  vs = .ref m :: us ∧ Rep K C M H m d ad qd kvs s ∧ Post K C M H m (Si23.step s c).1 Q (.int (Si23.step s c).2.code)
def spHear (K : PySem.W.Frag) (C : Ad) : Sp := fun vs H Q E => ∃ k b : Int, spC K C [.int k, .int b] (.hear k b) vs H Q E
def spClose (K : PySem.W.Frag) (C : Ad) : Sp := fun vs H Q E => ∃ k : Int, spC K C [.int k] (.close k) vs H Q E
def spOpens (K : PySem.W.Frag) (C : Ad) : Sp := spC K C [] .opens
def spBegins (K : PySem.W.Frag) (C : Ad) : Sp := fun vs H Q E => ∃ t : Nat, spC K C [.int t] (.begins t) vs H Q E
/-- a new socket's attributes -/
def spInitS (C : Ad) (np : Addr) : Sp := fun vs H Q _ => ∃ p dx, vs = [V.ref p] ∧ H p = some (.ins C.c_Socket dx []) ∧ ∀ q, H q = none → Q .non (upd (upd H q (.lst [])) p (.ins C.c_Socket dx (sf (.int 0) (.int 0) (.ref np) (.int 0) (.ref q) .non (.int 0))))
section
variable {K : PySem.W.Frag} {C : Ad} {M M' : Mem} {H H' : Hp} {m d : Addr} {ad qd : Nat → Addr} {kvs : List (Key × V)} {s : Si23.St}
theorem set_at {s : Si23.St} {k j : Nat} {o : Option Si23.Sock} {y : Si23.Sock} (h : (s.set k o).socks[j]? = some (some y)) : (j = k ∧ o = some y) ∨ (j ≠ k ∧ s.socks[j]? = some (some y)) := by
  have h' : (s.socks.set k o)[j]? = some (some y) := h
  by_cases e : j = k
  · subst e
    by_cases hl : j < s.socks.length
    · rw [List.getElem?_set_self hl] at h'
      exact .inl ⟨rfl, Option.some.inj h'⟩
    · have : (s.socks.set j o).length ≤ j := by rw [List.length_set]; omega
      rw [List.getElem?_eq_none this] at h'
      cases h'
  · rw [List.getElem?_set_ne (fun z => e z.symm)] at h'
    exact .inr ⟨e, h'⟩
theorem set_keep {s : Si23.St} {k j : Nat} {o : Option Si23.Sock} {y : Si23.Sock} (e : j ≠ k) (h : s.socks[j]? = some (some y)) : (s.set k o).socks[j]? = some (some y) := by
  show (s.socks.set k o)[j]? = _
  rw [List.getElem?_set_ne (fun z => e z.symm)]; exact h
/-- the socket k is none any more -/
theorem Rep.drop (R : Rep K C M H m d ad qd kvs s) (k : Nat) : Rep K C M (upd H d (.dK (dropK kvs (Sum.inl (k : Int))))) m d ad qd (dropK kvs (Sum.inl (k : Int))) (s.set k none) := by
  obtain ⟨dm, hm⟩ := R.mach
  have f : Fr M H M (upd H d (.dK (dropK kvs (Sum.inl (k : Int))))) := Fr.write _ R.md
  have hmem : ∀ kv, kv ∈ dropK kvs (Sum.inl (k : Int)) ↔ kv ∈ kvs ∧ kv.1 ≠ Sum.inl (k : Int) := fun kv => by
    unfold dropK; rw [List.mem_filter]; simp
  refine ⟨⟨dm, by rw [upd_ne (ne_of hm R.dict (by intro z; cases z))]; exact hm⟩, upd_same, ⟨nd_dropK R.dir.nd, fun kv h => ?_, fun j x h => ?_⟩, fun j x h => ?_, fun i j x y hi hj => ?_, fun j x h => ?_, R.mm, R.md, fun j x h => ?_, ⟨?_, R.good.turn, fun j x t p h => ?_, fun j x h => ?_⟩, R.al.upd _ _⟩
  · obtain ⟨h1, h2⟩ := (hmem kv).mp h
    obtain ⟨j, x, rfl, hx⟩ := R.dir.mem kv h1
    exact ⟨j, x, rfl, set_keep (fun e => h2 (by rw [e])) hx⟩
  · rcases set_at h with ⟨_, z⟩ | ⟨e, h⟩
    · cases z
    · exact (hmem _).mpr ⟨R.dir.has j x h, fun z => e (by have := Sum.inl.inj z; omega)⟩
  · rcases set_at h with ⟨_, z⟩ | ⟨e, h⟩
    · cases z
    · obtain ⟨_, _, _, _, g1, _, g3, _⟩ := (R.sock j x h).ex
      exact (R.sock j x h).fr f (fun o e => by rw [upd_ne (ne_of g1 R.dict (by intro z; cases z))]; exact e) (fun o e => by rw [upd_ne (ne_of g3 R.dict (by intro z; cases z))]; exact e)
  · rcases set_at hi with ⟨_, z⟩ | ⟨e, hi⟩
    · cases z
    · rcases set_at hj with ⟨_, z⟩ | ⟨e, hj⟩
      · cases z
      · exact R.apart i j x y hi hj
  · rcases set_at h with ⟨_, z⟩ | ⟨e, h⟩
    · cases z
    · exact R.ne j x h
  · rcases set_at h with ⟨_, z⟩ | ⟨e, h⟩
    · cases z
    · exact R.ma j x h
  · show (s.socks.set k none).length = 64
    rw [List.length_set]; exact R.good.len
  · rcases set_at h with ⟨_, z⟩ | ⟨e, h⟩
    · cases z
    · exact R.good.peer j x t p h
  · rcases set_at h with ⟨_, z⟩ | ⟨e, h⟩
    · cases z
    · exact R.good.qlen j x h
/-- the number k is a socket now, at a; its queue at q -/
theorem Rep.open_ (R : Rep K C M H m d ad qd kvs s) {k : Nat} {a q dx np : Addr} (hk : s.socks[k]? = some none) (ha : H a = none) (hq : H q = none) (haq : a ≠ q) (hn : TupK K np [.int 0, .int 0]) {H2 : Hp}
    (h2 : ∀ b o, H b = some o → b ≠ d → H2 b = some o) (hd2 : H2 d = some (.dK (putK kvs (Sum.inl (k : Int)) (.ref a)))) (ha2 : H2 a = some (.ins C.c_Socket dx (sf (.int 0) (.int 0) (.ref np) (.int 0) (.ref q) .non (.int 0)))) (hq2 : H2 q = some (.lst [])) :
    Fr M H (M1 (M1 M a) q) H2 ∧ Rep K C (M1 (M1 M a) q) H2 m d (fun j => if j = k then a else ad j) (fun j => if j = k then q else qd j) (putK kvs (Sum.inl (k : Int)) (.ref a)) (s.set k (some Si23.fresh)) := by
  obtain ⟨dm, hm⟩ := R.mach
  have f : Fr M H (M1 (M1 M a) q) H2 := by
    refine ⟨fun b o e n => h2 b o e (fun z => n (by rw [z]; exact R.md)), fun b h => ?_, fun _ => Iff.rfl⟩
    rcases h with (h | h) | h
    · exact .inl h
    · exact .inr (by rw [h]; exact ha)
    · exact .inr (by rw [h]; exact hq)
  have hlt : k < s.socks.length := (List.getElem?_eq_some_iff.mp hk).1
  have nk : valV kvs (Sum.inl (k : Int)) = none := R.dir.novalN fun j x hx e => by
    have : j = k := by omega
    subst this
    rw [hk] at hx
    cases hx
  have mono : ∀ b, M.mu b → (M1 (M1 M a) q).mu b := fun b h => .inl (.inl h)
  refine ⟨f, ⟨⟨dm, h2 _ _ hm (ne_of hm R.dict (by intro z; cases z))⟩, hd2, ⟨nd_putK _ R.dir.nd nk, fun kv h => ?_, fun j x h => ?_⟩, fun j x h => ?_, fun i j x y hi hj hij => ?_, fun j x h => ?_, mono _ R.mm, mono _ R.md, fun j x h => ?_, ⟨?_, R.good.turn, fun j x t p h => ?_, fun j x h => ?_⟩, fun b hb z => ?_⟩⟩
  · rw [putK_new _ nk] at h
    rcases List.mem_append.mp h with h | h
    · obtain ⟨j, x, rfl, hx⟩ := R.dir.mem kv h
      have e : j ≠ k := fun e => by subst e; rw [hk] at hx; cases hx
      exact ⟨j, x, by rw [if_neg e], set_keep e hx⟩
    · rw [List.mem_singleton.mp h]
      exact ⟨k, Si23.fresh, by rw [if_pos rfl], List.getElem?_set_self hlt⟩
  · rw [putK_new _ nk]
    rcases set_at h with ⟨rfl, _⟩ | ⟨e, h⟩
    · rw [if_pos rfl]; exact List.mem_append.mpr (.inr (List.mem_singleton.mpr rfl))
    · rw [if_neg e]; exact List.mem_append.mpr (.inl (R.dir.has j x h))
  · rcases set_at h with ⟨rfl, z⟩ | ⟨e, h⟩
    · cases z
      show SockAt K C _ H2 (if j = j then a else ad j) (if j = j then q else qd j) Si23.fresh
      rw [if_pos rfl, if_pos rfl]
      exact ⟨dx, np, [], .non, ha2, .inr hn, hq2, .nil, .inl ⟨rfl, rfl⟩⟩
    · show SockAt K C _ H2 (if j = k then a else ad j) (if j = k then q else qd j) x
      rw [if_neg e, if_neg e]
      obtain ⟨_, _, _, _, g1, _, g3, _⟩ := (R.sock j x h).ex
      exact (R.sock j x h).fr f (fun o e => h2 _ _ e (ne_of g1 R.dict (by intro z; cases z))) (fun o e => h2 _ _ e (ne_of g3 R.dict (by intro z; cases z)))
  · rcases set_at hi with ⟨rfl, z⟩ | ⟨ei, hi2⟩
    · rcases set_at hj with ⟨rfl, z⟩ | ⟨ej, hj⟩
      · exact absurd rfl hij
      · obtain ⟨_, _, _, _, g1, _, g3, _⟩ := (R.sock j y hj).ex
        show (if i = i then a else ad i) ≠ (if j = i then a else ad j) ∧ (if i = i then q else qd i) ≠ (if j = i then q else qd j)
        rw [if_pos rfl, if_neg ej, if_pos rfl, if_neg ej]
        exact ⟨Ne.symm (ne_of_none g1 ha), Ne.symm (ne_of_none g3 hq)⟩
    · rcases set_at hj with ⟨rfl, z⟩ | ⟨ej, hj⟩
      · obtain ⟨_, _, _, _, g1, _, g3, _⟩ := (R.sock i x hi2).ex
        show (if i = j then a else ad i) ≠ (if j = j then a else ad j) ∧ (if i = j then q else qd i) ≠ (if j = j then q else qd j)
        rw [if_pos rfl, if_neg ei, if_pos rfl, if_neg ei]
        exact ⟨ne_of_none g1 ha, ne_of_none g3 hq⟩
      · show (if i = k then a else ad i) ≠ (if j = k then a else ad j) ∧ (if i = k then q else qd i) ≠ (if j = k then q else qd j)
        rw [if_neg ei, if_neg ej, if_neg ei, if_neg ej]
        exact R.apart i j x y hi2 hj hij
  · show m ≠ (if j = k then a else ad j)
    rcases set_at h with ⟨rfl, z⟩ | ⟨e, h⟩
    · rw [if_pos rfl]; exact ne_of_none hm ha
    · rw [if_neg e]; exact R.ne j x h
  · show (M1 (M1 M a) q).mu (if j = k then a else ad j) ∧ (M1 (M1 M a) q).mu (if j = k then q else qd j)
    rcases set_at h with ⟨rfl, z⟩ | ⟨e, h⟩
    · rw [if_pos rfl, if_pos rfl]; exact ⟨.inl (.inr rfl), .inr rfl⟩
    · rw [if_neg e, if_neg e]; exact ⟨mono _ (R.ma j x h).1, mono _ (R.ma j x h).2⟩
  · show (s.socks.set k (some Si23.fresh)).length = 64
    rw [List.length_set]; exact R.good.len
  · rcases set_at h with ⟨rfl, z⟩ | ⟨e, h⟩
    · cases z; intro z; cases z
    · exact R.good.peer j x t p h
  · rcases set_at h with ⟨rfl, z⟩ | ⟨e, h⟩
    · cases z; exact Nat.zero_le _
    · exact R.good.qlen j x h
  · have old : M b → False := fun hb => by
      by_cases e : b = d
      · rw [e, hd2] at z; cases z
      · cases q' : H b with
        | none => exact R.al b hb q'
        | some o => rw [h2 b o q' e] at z; cases z
    rcases hb with ((hb | hb) | hb) | hb
    · exact old (.inl hb)
    · rw [hb, ha2] at z; cases z
    · rw [hb, hq2] at z; cases z
    · exact old (.inr hb)
end
theorem upd_swap {H : Hp} {p l : Addr} {X L Y : HO} (h : p ≠ l) : upd (upd (upd H p X) l L) p Y = upd (upd H l L) p Y := by
  funext c
  by_cases h1 : c = p
  · subst h1; rw [upd_same, upd_same]
  · rw [upd_ne h1, upd_ne h1]
    by_cases h2 : c = l
    · subst h2; rw [upd_same, upd_same]
    · rw [upd_ne h2, upd_ne h2, upd_ne h1]
section
variable {P : Program} {w : World} {K : PySem.W.Frag} {mg : Str → Option Value} {base : Heap}
theorem scHear : FnScope ["self", "k", "b"] ["self", "k", "b"] (defScope sHear) := ⟨rfl, rfl, rfl, by decide +kernel, rfl, by decide +kernel, by decide +kernel⟩
theorem ok_hear {f np : Addr} {C : Ad} {fd : FuncData} (F : Fun K "hear" "Machine.hear" sHear f fd) (T2 : Txt2 K mg C np) : FnOk P w K mg base CX0 1 f fd ["self", "k", "b"] (spHear K C) := by
  refine F.ok scHear (fun vs H Q E h => ?_) (fun cdv A outer s H vs Q E hr h => ?_)
  · obtain ⟨k, b, M, m, d, ad, qd, kvs, sc, rfl, _⟩ := h
    rfl
  · obtain ⟨k, b, M, m, d, ad, qd, kvs, sc, rfl, R, q⟩ := h
    obtain ⟨dm, hm⟩ := R.mach
    have hd := R.dict
    have hu := hu_of hr
    have T := T2.t
    obtain ⟨t3, e3⟩ := T2.NOT_AS_TOLD
    obtain ⟨t4, e4⟩ := T2.NO_SUCH_SOCKET
    refine ⟨_, pss_cons (ps_if (PW.pt (pw_and (pt_cmpR op_ne (pv 2) pe_int (nomark _)) (pw_and1 (pt_cmpR op_ne (pv 2) pe_int (nomark _))))) (pss_one (ps_ret (pe_gi rfl e3))) pss_nil)
      (pss_cons (ps_if (pt_cmp (pc_dnotin hu (pv 1) (pe_fld (pv 0) rfl))) (pss_one (ps_ret (pe_gi rfl e4))) pss_nil)
      (pss_cons (ps_fld (pe_dget hu (pe_fld (pv 0) rfl) (pv 1) (fun _ _ => rfl)) (pv 2) rfl)
      (pss_one (ps_ret pe_int)))), ?_⟩
    have hg := DGet.k (k := Sum.inl k) hd
    simp only [tSeq, tIfS, tTest, tOp, tOr, tAnd, tNot, tAndV, tOrV, tNotV, tIf, tVar, tC, tRet, tRetN, tDrop, tNext, tFld, sFld, tAsg, gName, gTup, gCons, gNil, tB, rEq, rNe, rI, rI0, scal_ii, scal_bb, cxK, ite_true, ite_false, if_true, if_false, tNil, tCons, tTup, tLst, tCall, tCB, tUn, tMeth, tMake, tDNewK, tDGet, tDIn, tDNotIn, sDPut, tDPop1, L2.start, List.replicate, Nat.reduceSub, Nat.reduceAdd, List.map_cons, List.map_nil, List.length_cons, List.length_nil, List.cons_append, List.nil_append, List.append_nil, List.getElem?_cons_zero, List.getElem?_cons_succ, List.set_cons_zero, List.set_cons_succ, Option.some.injEq, List.cons.injEq, kV_inl, Bool.false_eq_true, reduceCtorEq, V.int.injEq, V.bl.injEq, V.ref.injEq, HO.ins.injEq, exists_eq_left', exists_eq_left, exists_eq_right, and_assoc, and_true, true_and, exists_and_left, exists_and_right, decide_eq_true_eq, Bool.not_eq_true', decide_eq_false_iff_not, hm, T.clM, T.nSockets, mf_get_sockets]
    by_cases c1 : b < 0 ∨ 1 < b
    · rw [if_pos (by omega), if_pos (by omega)]
      have es : Si23.step sc (.hear k b) = (sc, Si23.say (-1)) := by simp only [Si23.step]; rw [if_pos c1]
      rw [es] at q
      exact q _ _ _ _ _ _ (Fr.refl _ _) R
    have fin : ∃ x, DGet H d (V.int k) x ∧ if x.isSome = false then Q (V.int (-2)) H else
        ∃ x, DGet H d (V.int k) (some x) ∧ ∃ a, x = V.ref a ∧ ∃ x x_1 x_2, H a = some (HO.ins x x_1 x_2) ∧ Cls K x ∧ NoAttr K x "hears" ∧ x_2.length < 1000 ∧ Q (V.int 0) (upd H a (HO.ins x x_1 (putF "hears" (V.int b) x_2))) := by
      refine ⟨_, hg, ?_⟩
      cases hx : sc.get k with
      | none =>
        have es : Si23.step sc (.hear k b) = (sc, Si23.say (-2)) := by simp only [Si23.step]; rw [if_neg c1]; simp only [hx]
        rw [es] at q
        rw [R.isSome, hx, if_pos (by rfl)]
        exact q _ _ _ _ _ _ (Fr.refl _ _) R
      | some x =>
        rw [R.isSome, hx, if_neg (by simp)]
        obtain ⟨hk0, hsx⟩ := get_some.mp hx
        have hg2 : DGet H d (V.int k) (some (V.ref (ad k.toNat))) := by
          have := hg; rw [R.there hx] at this; exact this
        obtain ⟨dx, pe, rs, er, ha, hpe, hq, hms, her⟩ := (R.sock _ x hsx).ex
        refine ⟨_, hg2, _, rfl, _, _, _, ha, T.clS, T2.nHears, (by simp [sv, sf]), ?_⟩
        have eb : b = b01 (b == 1) := by
          unfold b01
          by_cases h1 : b = 1
          · subst h1; rfl
          · have : b = 0 := by omega
            subst this; rfl
        have R4 := R.sockF (x' := { x with all := b == 1 }) (pe := pe) (dx := dx) (er := er) hsx ha rfl hpe her (fun t p e => R.good.peer _ x t p hsx e)
        have es : Si23.step sc (.hear k b) = (sc.set k.toNat (some { x with all := b == 1 }), Si23.say 0) := by simp only [Si23.step]; rw [if_neg c1]; simp only [hx]
        rw [es] at q
        have := q _ _ _ _ _ _ (Fr.write _ (R.ma _ x hsx).1) R4
        simp only [sv, sf_put_hears]
        rw [eb]
        exact this
    by_cases c2 : b = 0
    · rw [if_neg (by omega)]; exact fin
    · rw [if_pos c2, if_neg (by omega)]; exact fin
theorem scClose : FnScope ["self", "k"] ["self", "k"] (defScope sClose) := ⟨rfl, rfl, rfl, by decide +kernel, rfl, by decide +kernel, by decide +kernel⟩
theorem ok_close {f np : Addr} {C : Ad} {fd : FuncData} (F : Fun K "close" "Machine.close" sClose f fd) (T2 : Txt2 K mg C np) : FnOk P w K mg base CX0 1 f fd ["self", "k"] (spClose K C) := by
  refine F.ok scClose (fun vs H Q E h => ?_) (fun cdv A outer s H vs Q E hr h => ?_)
  · obtain ⟨k, M, m, d, ad, qd, kvs, sc, rfl, _⟩ := h
    rfl
  · obtain ⟨k, M, m, d, ad, qd, kvs, sc, rfl, R, q⟩ := h
    obtain ⟨dm, hm⟩ := R.mach
    have hd := R.dict
    have hu := hu_of hr
    have T := T2.t
    obtain ⟨t4, e4⟩ := T2.NO_SUCH_SOCKET
    refine ⟨_, pss_cons (ps_if (pt_cmp (pc_dnotin hu (pv 1) (pe_fld (pv 0) rfl))) (pss_one (ps_ret (pe_gi rfl e4))) pss_nil)
      (pss_cons (ps_expr (pe_dpop1 (pe_fld (pv 0) rfl) (pv 1) ⟨rfl, rfl, rfl, rfl⟩))
      (pss_one (ps_ret pe_int))), ?_⟩
    have hg := DGet.k (k := Sum.inl k) hd
    simp only [tSeq, tIfS, tTest, tOp, tOr, tAnd, tNot, tAndV, tOrV, tNotV, tIf, tVar, tC, tRet, tRetN, tDrop, tNext, tFld, sFld, tAsg, gName, gTup, gCons, gNil, tB, rEq, rNe, rI, rI0, scal_ii, scal_bb, cxK, ite_true, ite_false, if_true, if_false, tNil, tCons, tTup, tLst, tCall, tCB, tUn, tMeth, tMake, tDNewK, tDGet, tDIn, tDNotIn, sDPut, tDPop1, L2.start, List.replicate, Nat.reduceSub, Nat.reduceAdd, List.map_cons, List.map_nil, List.length_cons, List.length_nil, List.cons_append, List.nil_append, List.append_nil, List.getElem?_cons_zero, List.getElem?_cons_succ, List.set_cons_zero, List.set_cons_succ, Option.some.injEq, List.cons.injEq, kV_inl, Bool.false_eq_true, reduceCtorEq, V.int.injEq, V.bl.injEq, V.ref.injEq, HO.ins.injEq, exists_eq_left', exists_eq_left, exists_eq_right, and_assoc, and_true, true_and, exists_and_left, exists_and_right, decide_eq_true_eq, Bool.not_eq_true', decide_eq_false_iff_not, hm, T.clM, T.nSockets, mf_get_sockets]
    refine ⟨_, hg, ?_⟩
    cases hx : sc.get k with
    | none =>
      have es : Si23.step sc (.close k) = (sc, Si23.say (-2)) := by simp only [Si23.step, hx]
      rw [es] at q
      rw [R.isSome, hx, if_pos (by rfl)]
      exact q _ _ _ _ _ _ (Fr.refl _ _) R
    | some x =>
      rw [R.isSome, hx, if_neg (by simp)]
      obtain ⟨hk0, hsx⟩ := get_some.mp hx
      have ek : ((k.toNat : Nat) : Int) = k := by omega
      have es : Si23.step sc (.close k) = (sc.set k.toNat none, Si23.say 0) := by simp only [Si23.step, hx]
      rw [es] at q
      have R4 := R.drop k.toNat
      rw [ek] at R4
      have := q _ _ _ _ _ _ (Fr.write _ R.md) R4
      exact ⟨.inl ⟨_, .inl hd⟩, kvs, hd, Sum.inl k, rfl, ⟨_, R.there hx⟩, this⟩
theorem scInitS : FnScope ["self"] ["self"] (defScope sInitS) := ⟨rfl, rfl, rfl, by decide +kernel, rfl, by decide +kernel, by decide +kernel⟩
theorem ok_initS {f np : Addr} {C : Ad} {fd : FuncData} (F : Fun K "__init__" "Socket.__init__" sInitS f fd) (T2 : Txt2 K mg C np) (nE : NoAttr K C.c_Socket "error") (nL : NoAttr K C.c_Socket "lost") : FnOk P w K mg base CX0 1 f fd ["self"] (spInitS C np) := by
  refine F.ok scInitS (fun vs H Q E h => ?_) (fun cdv A outer s H vs Q E hr h => ?_)
  · obtain ⟨p, dx, rfl, _⟩ := h
    rfl
  · obtain ⟨p, dx, rfl, hp, q⟩ := h
    have T := T2.t
    refine ⟨_, pss_cons (ps_fld (pv 0) pe_int rfl) (pss_cons (ps_fld (pv 0) pe_int rfl) (pss_cons (ps_fld (pv 0) (pe_gr rfl T2.NO_PEER) rfl) (pss_cons (ps_fld (pv 0) pe_int rfl) (pss_cons (ps_fld (pv 0) (pe_lst pa_nil) rfl) (pss_cons (ps_fld (pv 0) pe_non rfl) (pss_one (ps_fld (pv 0) pe_int rfl))))))), ?_⟩
    simp only [tSeq, tIfS, tTest, tOp, tOr, tAnd, tNot, tAndV, tOrV, tNotV, tIf, tVar, tC, tRet, tRetN, tDrop, tNext, tFld, sFld, tAsg, gName, gTup, gCons, gNil, tB, rEq, rNe, rI, rI0, scal_ii, scal_bb, cxK, ite_true, ite_false, if_true, if_false, tNil, tCons, tTup, tLst, tCall, tCB, tUn, tMeth, tMake, tDNewK, tDGet, tDIn, tDNotIn, sDPut, tDPop1, L2.start, List.replicate, Nat.reduceSub, Nat.reduceAdd, List.map_cons, List.map_nil, List.length_cons, List.length_nil, List.cons_append, List.nil_append, List.append_nil, List.getElem?_cons_zero, List.getElem?_cons_succ, List.set_cons_zero, List.set_cons_succ, Option.some.injEq, List.cons.injEq, kV_inl, Bool.false_eq_true, reduceCtorEq, V.int.injEq, V.bl.injEq, V.ref.injEq, HO.ins.injEq, exists_eq_left', exists_eq_left, exists_eq_right, and_assoc, and_true, true_and, exists_and_left, exists_and_right, decide_eq_true_eq, Bool.not_eq_true', decide_eq_false_iff_not, hp, T.clS, T.nAddress, T.nPort, T.nPeer, T2.nHears, T2.nQueue, nE, nL, upd_same, upd_upd]
    refine ⟨by decide, by decide, by decide, (by show 3 < 1000; decide), Nat.zero_le _, fun l hl => ?_⟩
    have hlp : p ≠ l := fun z => by rw [z, upd_same] at hl; cases hl
    rw [upd_ne (Ne.symm hlp)] at hl
    refine ⟨_, _, _, by rw [upd_ne hlp, upd_same], T.clS, T2.nQueue, (by show 4 < 1000; decide), T.clS, nE, (by show 5 < 1000; decide), T.clS, nL, (by show 6 < 1000; decide), ?_⟩
    rw [upd_swap hlp]
    exact q l hl
/-- a new machine's attributes -/
def spInitM (C : Ad) : Sp := fun vs H Q _ => ∃ p dx, vs = [V.ref p] ∧ H p = some (.ins C.c_Machine dx []) ∧ ∀ d, H d = none → Q .non (upd (upd H d (.dK [])) p (.ins C.c_Machine dx (mf (.ref d) (.int 49152))))
theorem scInitM : FnScope ["self"] ["self"] (defScope sInitM) := ⟨rfl, rfl, rfl, by decide +kernel, rfl, by decide +kernel, by decide +kernel⟩
theorem ok_initM {f np : Addr} {C : Ad} {fd : FuncData} (F : Fun K "__init__" "Machine.__init__" sInitM f fd) (T2 : Txt2 K mg C np) : FnOk P w K mg base CX0 1 f fd ["self"] (spInitM C) := by
  refine F.ok scInitM (fun vs H Q E h => ?_) (fun cdv A outer s H vs Q E hr h => ?_)
  · obtain ⟨p, dx, rfl, _⟩ := h
    rfl
  · obtain ⟨p, dx, rfl, hp, q⟩ := h
    have T := T2.t
    obtain ⟨t1, e1⟩ := T.FIRST_GIVEN
    refine ⟨_, pss_cons (ps_fld (pv 0) pe_dnewK rfl) (pss_one (ps_fld (pv 0) (pe_gi rfl e1) rfl)), ?_⟩
    simp only [tSeq, tIfS, tTest, tOp, tOr, tAnd, tNot, tAndV, tOrV, tNotV, tIf, tVar, tC, tRet, tRetN, tDrop, tNext, tFld, sFld, tAsg, gName, gTup, gCons, gNil, tB, rEq, rNe, rI, rI0, scal_ii, scal_bb, cxK, ite_true, ite_false, if_true, if_false, tNil, tCons, tTup, tLst, tCall, tCB, tUn, tMeth, tMake, tDNewK, tDGet, tDIn, tDNotIn, sDPut, tDPop1, L2.start, List.replicate, Nat.reduceSub, Nat.reduceAdd, List.map_cons, List.map_nil, List.length_cons, List.length_nil, List.cons_append, List.nil_append, List.append_nil, List.getElem?_cons_zero, List.getElem?_cons_succ, List.set_cons_zero, List.set_cons_succ, Option.some.injEq, List.cons.injEq, kV_inl, Bool.false_eq_true, reduceCtorEq, V.int.injEq, V.bl.injEq, V.ref.injEq, HO.ins.injEq, exists_eq_left', exists_eq_left, exists_eq_right, and_assoc, and_true, true_and, exists_and_left, exists_and_right, decide_eq_true_eq, Bool.not_eq_true', decide_eq_false_iff_not, hp, T.clM, T.nSockets, T.nTurn, upd_same, upd_upd]
    intro l hl
    have hlp : p ≠ l := ne_of_none hp hl
    refine ⟨_, _, _, by rw [upd_ne hlp]; exact hp, T.clM, T.nSockets, by decide, T.clM, T.nTurn, (by show 1 < 1000; decide), ?_⟩
    exact q l hl
theorem scBegins : FnScope ["self", "turn"] ["self", "turn"] (defScope sBegins) := ⟨rfl, rfl, rfl, by decide +kernel, rfl, by decide +kernel, by decide +kernel⟩
theorem ok_begins {f np f3 : Addr} {C : Ad} {fd fd3 : FuncData} (F : Fun K "begins" "Machine.begins" sBegins f fd) (T2 : Txt2 K mg C np) (G3 : GOk P w K mg base 1 "port_of_round" ["number"] spRound f3 fd3) : FnOk P w K mg base CX0 2 f fd ["self", "turn"] (spBegins K C) := by
  refine F.ok scBegins (fun vs H Q E h => ?_) (fun cdv A outer s H vs Q E hr h => ?_)
  · obtain ⟨k, M, m, d, ad, qd, kvs, sc, rfl, _⟩ := h
    rfl
  · obtain ⟨k, M, m, d, ad, qd, kvs, sc, rfl, R, q⟩ := h
    obtain ⟨dm, hm⟩ := R.mach
    have T := T2.t
    refine ⟨_, pss_cons (ps_fld (pv 0) pe_dnewK rfl) (pss_cons (ps_fld (pv 0) (pe_call G3.ok hr rfl G3.at_ G3.kp G3.b .nil pass0 (pa_cons (pv 1) pa_nil)) rfl) (pss_one (ps_ret pe_int))), ?_⟩
    simp only [tSeq, tIfS, tTest, tOp, tOr, tAnd, tNot, tAndV, tOrV, tNotV, tIf, tVar, tC, tRet, tRetN, tDrop, tNext, tFld, sFld, tAsg, gName, gTup, gCons, gNil, tB, rEq, rNe, rI, rI0, scal_ii, scal_bb, cxK, ite_true, ite_false, if_true, if_false, tNil, tCons, tTup, tLst, tCall, tCB, tUn, tMeth, tMake, tDNewK, tDGet, tDIn, tDNotIn, sDPut, tDPop1, L2.start, List.replicate, Nat.reduceSub, Nat.reduceAdd, List.map_cons, List.map_nil, List.length_cons, List.length_nil, List.cons_append, List.nil_append, List.append_nil, List.getElem?_cons_zero, List.getElem?_cons_succ, List.set_cons_zero, List.set_cons_succ, Option.some.injEq, List.cons.injEq, kV_inl, Bool.false_eq_true, reduceCtorEq, V.int.injEq, V.bl.injEq, V.ref.injEq, HO.ins.injEq, exists_eq_left', exists_eq_left, exists_eq_right, and_assoc, and_true, true_and, exists_and_left, exists_and_right, decide_eq_true_eq, Bool.not_eq_true', decide_eq_false_iff_not, hm, T.clM, T.nSockets, T.nTurn, upd_same, upd_upd, spRound]
    intro l hl
    have hlm : m ≠ l := ne_of_none hm hl
    refine ⟨_, _, _, by rw [upd_ne hlm]; exact hm, T.clM, T.nSockets, (by show 2 < 1000; decide), T.clM, T.nTurn, (by show 2 < 1000; decide), ?_⟩
    simp only [mf_put_sockets, mf_put_turn]
    have es : Si23.step sc (.begins k) = ({ Si23.init with turn := k % 16384 }, Si23.say 0) := rfl
    rw [es] at q
    have ek : (49152 : Int) + (k : Int) % 16384 = 49152 + ((k % 16384 : Nat) : Int) := by omega
    rw [ek]
    have none_ : ∀ (j : Nat) (x : Si23.Sock), ¬ (List.replicate 64 (none : Option Si23.Sock))[j]? = some (some x) := fun j x h => by
      rw [List.getElem?_replicate] at h
      split at h <;> cases h
    refine q (M1 M l) _ l (fun _ => 0) (fun _ => 0) [] ?_ ⟨⟨_, upd_same⟩, by rw [upd_ne (Ne.symm hlm), upd_same], ⟨List.nodup_nil, fun kv h => (by cases h), fun j x h => absurd h (none_ j x)⟩, fun j x h => absurd h (none_ j x), fun i j x y h => absurd h (none_ i x), fun j x h => absurd h (none_ j x), .inl R.mm, .inr rfl, fun j x h => absurd h (none_ j x), ⟨rfl, Nat.mod_lt _ (by decide), fun j x t p h => absurd h (none_ j x), fun j x h => absurd h (none_ j x)⟩, (R.al.updM _ _).upd _ _⟩
    exact (Fr.newM _ hl).trans (Fr.write _ (.inl R.mm))
variable {A : Ad}
theorem okT_Machine_hear (T : Tx K mg A) : FnOk P w K mg base CX0 1 A.f_Machine_hear A.d_Machine_hear ["self", "k", "b"] (spHear K A) := ok_hear T.F_Machine_hear (Txt2.of T)
theorem okT_Machine_close (T : Tx K mg A) : FnOk P w K mg base CX0 1 A.f_Machine_close A.d_Machine_close ["self", "k"] (spClose K A) := ok_close T.F_Machine_close (Txt2.of T)
theorem okT_Socket_init (T : Tx K mg A) : FnOk P w K mg base CX0 1 A.f_Socket_init A.d_Socket_init ["self"] (spInitS A A.g_NO_PEER) := ok_initS T.F_Socket_init (Txt2.of T) T.no_Socket_error T.no_Socket_lost
theorem okT_Machine_init (T : Tx K mg A) : FnOk P w K mg base CX0 1 A.f_Machine_init A.d_Machine_init ["self"] (spInitM A) := ok_initM T.F_Machine_init (Txt2.of T)
theorem okT_Machine_begins (T : Tx K mg A) : FnOk P w K mg base CX0 2 A.f_Machine_begins A.d_Machine_begins ["self", "turn"] (spBegins K A) := ok_begins T.F_Machine_begins (Txt2.of T) ⟨T.mg_port_of_round, T.F_port_of_round.kp, okT_port_of_round T, T.b_port_of_round⟩
end
end Sm



set_option Elab.async false
set_option linter.all false
set_option maxRecDepth 100000
namespace Sm
open PySem PySem.Spec PyProof.Rows L2
section
variable {P : Program} {w : World} {K : PySem.W.Frag} {mg : Str → Option Value} {base : Heap}
theorem scOpens : FnScope ["self", "number"] ["self"] (defScope sOpens) := ⟨rfl, rfl, rfl, by decide +kernel, rfl, by decide +kernel, by decide +kernel⟩
theorem ok_opens {f np fI : Addr} {C : Ad} {fd fdI : FuncData} (F : Fun K "opens" "Machine.opens" sOpens f fd) (T2 : Txt2 K mg C np) (MS : Mk K C.c_Socket fI) (GI : FnOk P w K mg base CX0 1 fI fdI ["self"] (spInitS C np)) (bI : L2.Binds K fdI ["self"] []) (mS : mg "Socket" = some (.ref C.c_Socket)) (mRange : mg "range" = none) :
    FnOk P w K mg base CX0 3 f fd ["self"] (spOpens K C) := by
  refine F.ok scOpens (fun vs H Q E h => ?_) (fun cdv A outer s H vs Q E hr h => ?_)
  · obtain ⟨M, m, d, ad, qd, kvs, sc, rfl, _⟩ := h
    rfl
  · obtain ⟨M, m, d, ad, qd, kvs, sc, rfl, R, q⟩ := h
    obtain ⟨dm, hm⟩ := R.mach
    have hd := R.dict
    have hu := hu_of hr
    have T := T2.t
    obtain ⟨t2, e2⟩ := T2.MOST_SOCKETS
    obtain ⟨t6, e6⟩ := T2.NONE_FREE
    refine ⟨_, pss_cons (ps_for PassesOwn.never rfl (pi_range1 rfl mRange (pa_cons (pe_gi rfl e2) pa_nil)) (pg_name (i := 1) scOpens.nd rfl (Or.inl rfl))
        (pss_one (ps_if (pt_cmp (pc_dnotin hu (pv 1) (pe_fld (pv 0) rfl))) (pss_cons (ps_dput hu (pe_fld (pv 0) rfl) (pv 1) (pe_make0 MS GI hr rfl mS bI .nil pass0) rfl) (pss_one (ps_ret (pv 1)))) pss_nil)))
      (pss_one (ps_ret (pe_gi rfl e6))), ?_⟩
    refine ⟨64, rfl, by decide, by decide, ?_⟩
    obtain ⟨Pw, hPw⟩ : ∃ Pv : Nat → L2.St → Hp → Prop, ∀ i σ H', Pv i σ H' ↔ ∃ v1, σ = [some (.ref m), v1] ∧ H' = H ∧ ∀ j, j < i → sc.socks[j]? ≠ some none := ⟨_, fun _ _ _ => Iff.rfl⟩
    refine for_range (n := 64) Pw ?_ ?_ ?_
    · exact (hPw _ _ _).mpr ⟨_, rfl, rfl, fun j h => absurd h (Nat.not_lt_zero _)⟩
    · intro i σ H4 hi h
      obtain ⟨v1, rfl, rfl, hb4⟩ := (hPw _ _ _).mp h
      have ez : (0 : Int) + (i : Int) = ((i : Nat) : Int) := by omega
      rw [ez]
      have hg := DGet.k (k := Sum.inl ((i : Nat) : Int)) hd
      have hlt : i < sc.socks.length := by rw [R.good.len]; exact hi
      refine ⟨_, rfl, _, rfl, m, C.c_Machine, dm, _, _, rfl, hm, T.clM, T.nSockets, mf_get_sockets _ _, d, _, rfl, hg, _, rfl, ?_⟩
      rw [R.isSome]
      cases hx : sc.socks[i]? with
      | none => exact absurd hx (by rw [List.getElem?_eq_getElem hlt]; intro z; cases z)
      | some o =>
        have gi : sc.get ((i : Nat) : Int) = o := by
          unfold Si23.St.get
          rw [if_neg (by omega)]
          have : ((i : Nat) : Int).toNat = i := by omega
          rw [this, hx]
          cases o <;> rfl
        rw [gi]
        cases o with
        | some x =>
          rw [if_neg (by simp)]
          refine (hPw _ _ _).mpr ⟨_, rfl, rfl, fun j hj => ?_⟩
          by_cases e : j = i
          · subst e; rw [hx]; intro z; cases z
          · exact hb4 j (by omega)
        | none =>
          rw [if_pos (by rfl)]
          intro a dx ha hdx hne
          have nda : d ≠ a := ne_of_none hd ha
          have nddx : d ≠ dx := ne_of_none hd hdx
          have nma : m ≠ a := ne_of_none hm ha
          have nmdx : m ≠ dx := ne_of_none hm hdx
          refine ⟨a, dx, rfl, upd_same, fun qa hqa => ⟨rfl, ?_⟩⟩
          have nqa : qa ≠ a := fun z => by rw [z, upd_same] at hqa; cases hqa
          rw [upd_ne nqa] at hqa
          have nqdx : qa ≠ dx := fun z => by rw [z, upd_same] at hqa; cases hqa
          rw [upd_ne nqdx] at hqa
          have ndq : d ≠ qa := ne_of_none hd hqa
          have nmq : m ≠ qa := ne_of_none hm hqa
          refine ⟨_, rfl, m, C.c_Machine, dm, _, _, rfl, by rw [upd_ne nma, upd_ne nmq, upd_ne nma, upd_ne nmdx]; exact hm, T.clM, T.nSockets, mf_get_sockets _ _, _, rfl, d, _, rfl, DPut.k (k := Sum.inl ((i : Nat) : Int)) (kvs := kvs) (by rw [upd_ne nda, upd_ne ndq, upd_ne nda, upd_ne nddx]; exact hd) (Nat.lt_of_le_of_lt R.few (by decide)), ?_⟩
          obtain ⟨f, R2⟩ := R.open_ (k := i) (a := a) (q := qa) (dx := dx) (np := np) hx ha hqa (Ne.symm nqa) T2.npK (H2 := upd (upd (upd (upd (upd H4 dx (.own a)) a (.ins C.c_Socket dx [])) qa (.lst [])) a (.ins C.c_Socket dx (sf (.int 0) (.int 0) (.ref np) (.int 0) (.ref qa) .non (.int 0)))) d (.dK (putK kvs (Sum.inl ((i : Nat) : Int)) (.ref a))))
            (fun b o e n => by rw [upd_ne n, upd_ne (ne_of_none e ha), upd_ne (ne_of_none e hqa), upd_ne (ne_of_none e ha), upd_ne (ne_of_none e hdx)]; exact e) upd_same (by rw [upd_ne (Ne.symm nda), upd_same]) (by rw [upd_ne (Ne.symm ndq), upd_ne nqa, upd_same])
          have es : Si23.step sc .opens = (sc.set i (some Si23.fresh), Si23.say i) := by
            have e : (sc.socks.findIdx? fun y => y.isNone) = some i := by
              rw [List.findIdx?_eq_some_iff_getElem]
              refine ⟨hlt, ?_, fun j hj => ?_⟩
              · have := List.getElem?_eq_getElem hlt
                rw [hx] at this
                rw [← Option.some.inj this]; rfl
              · have h1 := hb4 j hj
                have h2 := List.getElem?_eq_getElem (show j < sc.socks.length by omega)
                rw [h2] at h1
                cases h3 : sc.socks[j]'(by omega) with
                | none => exact absurd (by rw [h3]) h1
                | some x => simp
            simp only [Si23.step, e]
          have q' := q
          rw [es] at q'
          exact ⟨_, rfl, q' _ _ _ _ _ _ f R2⟩
    · intro σ H4 h
      obtain ⟨v1, rfl, rfl, hb4⟩ := (hPw _ _ _).mp h
      have es : Si23.step sc .opens = (sc, Si23.say (-5)) := by
        have e : (sc.socks.findIdx? fun y => y.isNone) = none := by
          rw [List.findIdx?_eq_none_iff]
          intro o ho
          obtain ⟨j, hj⟩ := List.mem_iff_getElem?.mp ho
          have hl := (List.getElem?_eq_some_iff.mp hj).1
          rw [R.good.len] at hl
          cases o with
          | none => exact absurd hj (hb4 j hl)
          | some x => rfl
        simp only [Si23.step, e]
      rw [es] at q
      exact q _ _ _ _ _ _ (Fr.refl _ _) R
variable {A : Ad}
theorem okT_Machine_opens (T : Tx K mg A) : FnOk P w K mg base CX0 3 A.f_Machine_opens A.d_Machine_opens ["self"] (spOpens K A) := ok_opens T.F_Machine_opens (Txt2.of T) T.mk_Socket (okT_Socket_init T) T.b_Socket_init T.mg_Socket T.z_range
end
end Sm



set_option Elab.async false
set_option linter.all false
set_option maxRecDepth 100000
namespace Sm
open PySem PySem.Spec PyProof.Rows L2
abbrev sDrop : Stmt := s_drop_others
abbrev sLet : Stmt := s_Machine_let_peer_go
abbrev sConn : Stmt := s_Machine_connect
structure Txt3 (K : PySem.W.Frag) (mg : Str → Option Value) (C : Ad) (np : Addr) : Prop where
  t : Txt2 K mg C np
  clG : Cls K C.c_Message
  nSender : NoAttr K C.c_Message "sender"
theorem gf_get_sender (a b c : V) : (gf a b c).lookup ("sender" : Str) = some a := by rfl
def Of (ta tp : Int) (g : Si23.Got) : Bool := decide ((g.from_ : Int) = ta ∧ (g.port : Int) = tp)
def spDrop (K : PySem.W.Frag) (C : Ad) : Sp := fun vs H Q _ => ∃ (M : Mem) (a dx pe qu : Addr) (A P He Er Lo : V) (ta tp : Int) (rs : List Addr) (gs : List Si23.Got),
  vs = [.ref a] ∧ H a = some (.ins C.c_Socket dx (sf A P (.ref pe) He (.ref qu) Er Lo)) ∧ TupF K M H pe [.int ta, .int tp] ∧ H qu = some (.lst (rs.map V.ref)) ∧ MsgsAt K C M H rs gs ∧ rs.length ≤ 1000 ∧
  ∀ D rs', H D = none → MsgsAt K C M H rs' (gs.filter (Of ta tp)) → Q .non (upd (upd H D (.lst (rs'.map V.ref))) a (.ins C.c_Socket dx (sf A P (.ref pe) He (.ref D) Er Lo)))
section
variable {K : PySem.W.Frag} {C : Ad} {M M' : Mem} {H H' : Hp}
theorem MsgsAt.get : ∀ {rs : List Addr} {gs : List Si23.Got} {i : Nat} {r : Addr}, MsgsAt K C M H rs gs → rs[i]? = some r → ∃ g, gs[i]? = some g ∧ MsgAt K C M H r g
  | _, _, _, _, .nil, e => by simp at e
  | _, _, 0, _, .cons h _, e => by simp at e; subst e; exact ⟨_, rfl, h⟩
  | _, _, i + 1, r, .cons _ t, e => by
    obtain ⟨g, h1, h2⟩ := MsgsAt.get (i := i) t (by simpa using e)
    exact ⟨g, by simpa using h1, h2⟩
theorem MsgsAt.snoc {rs : List Addr} {gs : List Si23.Got} {r : Addr} {g : Si23.Got} (h : MsgsAt K C M H rs gs) (hg : MsgAt K C M H r g) : MsgsAt K C M H (rs ++ [r]) (gs ++ [g]) := by
  unfold MsgsAt at *
  induction h with
  | nil => exact .cons hg .nil
  | cons a b ih => exact .cons a ih
theorem take_snoc {α : Type} {l : List α} {i : Nat} {x : α} (h : l[i]? = some x) : l.take (i + 1) = l.take i ++ [x] := by
  rw [List.take_succ, h]; rfl
end
section
variable {P : Program} {w : World} {K : PySem.W.Frag} {mg : Str → Option Value} {base : Heap}
theorem scDrop : FnScope ["socket", "message"] ["socket"] (defScope sDrop) := ⟨rfl, rfl, rfl, by decide +kernel, rfl, by decide +kernel, by decide +kernel⟩
def lcScope (s : Stmt) : Scope := match s with
  | .Assign _ (.ListComp _ _ sc _) _ => sc
  | _ => { kind := .function, names := [], isGenerator := false, isCoroutine := false }
theorem blkDrop : BlkOk ["socket", "message"] (defScope sDrop) (lcScope ((defBody sDrop).getD 0 (.Pass ⟨0, 0, 0, 0⟩))) [("message", 1)] := ⟨rfl, by decide +kernel, by decide +kernel, by decide +kernel, by decide +kernel⟩
theorem ok_drop {f np : Addr} {C : Ad} {fd : FuncData} (F : Fun K "drop_others" "drop_others" sDrop f fd) (T3 : Txt3 K mg C np) : FnOk P w K mg base CX0 1 f fd ["socket"] (spDrop K C) := by
  refine F.ok scDrop (fun vs H Q E h => ?_) (fun cdv A outer s H vs Q E hr h => ?_)
  · obtain ⟨M, a, dx, pe, qu, A', P', He, Er, Lo, ta, tp, rs, gs, rfl, _⟩ := h
    rfl
  · obtain ⟨M, a, dx, pe, qu, A', P', He, Er, Lo, ta, tp, rs, gs, rfl, ha, hpe, hq, hms, hlen, q⟩ := h
    have T2 := T3.t
    have T := T2.t
    have hu := hr.units
    refine ⟨_, pss_one (ps_fld (pv 0) (pe_lc (own := [("message", 1)]) (g := gName 1) (tt := tTest (tOp (rEqP K) (tFld K (tVar 1) "sender") (tFld K (tVar 0) "peer"))) (te := tVar 1) rfl scDrop.nd (pi_list (pe_fld (pv 0) rfl)) blkDrop (fun s H C cl fp => pg_name (i := 1) scDrop.nd rfl (Or.inl rfl))
      (fun s H C cl fp => pts_one (pt_cmpR (op_eqP hu) (pe_fld (pv 1) rfl) (pe_fld (pv 0) rfl) (nomark _))) (fun s H C cl fp => pv 1)) rfl), ?_⟩
    refine ⟨_, rfl, a, C.c_Socket, dx, _, _, rfl, ha, T.clS, T2.nQueue, sf_get_queue _ _ _ _ _ _ _, qu, rfl, ⟨_, SqL.of hq⟩, fun D hD => ?_⟩
    have naD : a ≠ D := ne_of_none ha hD
    have nqD : qu ≠ D := ne_of_none hq hD
    obtain ⟨Pv, hPv⟩ : ∃ Pv : Nat → Hp → Prop, ∀ i H', Pv i H' ↔ ∃ rs', H' = upd H D (.lst (rs'.map V.ref)) ∧ rs'.length ≤ i ∧ MsgsAt K C M H rs' ((gs.take i).filter (Of ta tp)) := ⟨_, fun _ _ => Iff.rfl⟩
    refine lc_list (xs := rs.map V.ref) Pv ?_ ?_ ?_ ?_
    · exact (hPv _ _).mpr ⟨[], rfl, Nat.le_refl _, .nil⟩
    · intro i H' hi h
      obtain ⟨rs', rfl, _⟩ := (hPv _ _).mp h
      exact SqL.of (by rw [upd_ne nqD]; exact hq)
    · intro i x H' hi h
      obtain ⟨rs', rfl, hl', hm'⟩ := (hPv _ _).mp h
      rw [List.getElem?_map] at hi
      obtain ⟨r, hr', rfl⟩ := Option.map_eq_some_iff.mp hi
      obtain ⟨g, hg, hmsg⟩ := hms.get hr'
      have hil : i < rs.length := (List.getElem?_eq_some_iff.mp hr').1
      have hmsg0 := hmsg
      obtain ⟨dr, t, b, h1, h2, h3, h4, h5⟩ := hmsg.fr (Fr.new (M := M) (.lst (rs'.map V.ref)) hD)
      have hpe' := (hpe.fr (Fr.new (M := M) (.lst (rs'.map V.ref)) hD)).sq
      have ha' : (upd H D (.lst (rs'.map V.ref))) a = some (.ins C.c_Socket dx (sf A' P' (.ref pe) He (.ref qu) Er Lo)) := by rw [upd_ne naD]; exact ha
      have fl : ((gs.take (i + 1)).filter (Of ta tp)) = (gs.take i).filter (Of ta tp) ++ (if Of ta tp g = true then [g] else []) := by
        rw [take_snoc hg, List.filter_append]
        by_cases e : Of ta tp g = true
        · rw [if_pos e, List.filter_cons, if_pos e]; rfl
        · rw [if_neg e, List.filter_cons, if_neg e]; rfl
      simp only [tSeq, tIfS, tTest, tOp, tOr, tAnd, tNot, tAndV, tOrV, tNotV, tIf, tVar, tC, tRet, tRetN, tDrop, tNext, tFld, sFld, tAsg, gName, gTup, gCons, gNil, tB, rEq, rNe, rI, rI0, scal_ii, scal_bb, cxK, ite_true, ite_false, if_true, if_false, tNil, tCons, tTup, tLst, tCall, tCB, tUn, tMeth, tMake, tDNewK, tDGet, tDIn, tDNotIn, sDPut, tDPop1, L2.start, List.replicate, Nat.reduceSub, Nat.reduceAdd, List.map_cons, List.map_nil, List.length_cons, List.length_nil, List.cons_append, List.nil_append, List.append_nil, List.getElem?_cons_zero, List.getElem?_cons_succ, List.set_cons_zero, List.set_cons_succ, Option.some.injEq, List.cons.injEq, kV_inl, Bool.false_eq_true, reduceCtorEq, V.int.injEq, V.bl.injEq, V.ref.injEq, HO.ins.injEq, exists_eq_left', exists_eq_left, exists_eq_right, and_assoc, and_true, true_and, exists_and_left, exists_and_right, decide_eq_true_eq, Bool.not_eq_true', decide_eq_false_iff_not, wipe, List.map_cons, List.map_nil, rEqP]
      refine ⟨_, _, _, h1, T3.clG, T3.nSender, _, gf_get_sender _ _ _, ?_⟩
      simp only [tSeq, tIfS, tTest, tOp, tOr, tAnd, tNot, tAndV, tOrV, tNotV, tIf, tVar, tC, tRet, tRetN, tDrop, tNext, tFld, sFld, tAsg, gName, gTup, gCons, gNil, tB, rEq, rNe, rI, rI0, scal_ii, scal_bb, cxK, ite_true, ite_false, if_true, if_false, tNil, tCons, tTup, tLst, tCall, tCB, tUn, tMeth, tMake, tDNewK, tDGet, tDIn, tDNotIn, sDPut, tDPop1, L2.start, List.replicate, Nat.reduceSub, Nat.reduceAdd, List.map_cons, List.map_nil, List.length_cons, List.length_nil, List.cons_append, List.nil_append, List.append_nil, List.getElem?_cons_zero, List.getElem?_cons_succ, List.set_cons_zero, List.set_cons_succ, Option.some.injEq, List.cons.injEq, kV_inl, Bool.false_eq_true, reduceCtorEq, V.int.injEq, V.bl.injEq, V.ref.injEq, HO.ins.injEq, exists_eq_left', exists_eq_left, exists_eq_right, and_assoc, and_true, true_and, exists_and_left, exists_and_right, decide_eq_true_eq, Bool.not_eq_true', decide_eq_false_iff_not, ha', T.clS, T.nPeer, sf_get_peer]
      refine ⟨_, _, h3.sq, _, _, hpe', ?_⟩
      by_cases e : (g.from_ : Int) = ta ∧ (g.port : Int) = tp
      · rw [if_pos e]
        have eo : Of ta tp g = true := decide_eq_true e
        refine ⟨_, upd_same, ?_, (hPv _ _).mpr ⟨rs' ++ [r], ?_, ?_, ?_⟩⟩
        · rw [List.length_map]; exact Nat.lt_of_le_of_lt (show rs'.length ≤ 1000 by omega) (by decide)
        · rw [upd_upd, List.map_append]; rfl
        · rw [List.length_append]; simp; omega
        · rw [fl, if_pos eo]; exact hm'.snoc hmsg0
      · rw [if_neg e]
        have eo : ¬ Of ta tp g = true := fun z => e (of_decide_eq_true z)
        refine (hPv _ _).mpr ⟨rs', rfl, by omega, ?_⟩
        rw [fl, if_neg eo, List.append_nil]; exact hm'
    · intro H' h
      obtain ⟨rs', rfl, hl', hm'⟩ := (hPv _ _).mp h
      have hgl : gs.length = rs.length := (Paired.length hms).symm
      rw [List.length_map, ← hgl, List.take_length] at hm'
      refine ⟨_, rfl, a, C.c_Socket, dx, _, rfl, by rw [upd_ne naD]; exact ha, T.clS, T2.nQueue, (by show 7 < 1000; decide), ?_⟩
      exact q D rs' hD hm'
variable {A : Ad}
theorem Txt3.of (T : Tx K mg A) : Txt3 K mg A A.g_NO_PEER := ⟨Txt2.of T, T.cls_Message, T.no_Message_sender⟩
theorem okT_drop_others (T : Tx K mg A) : FnOk P w K mg base CX0 1 A.f_drop_others A.d_drop_others ["socket"] (spDrop K A) := ok_drop T.F_drop_others (Txt3.of T)
end
end Sm



set_option Elab.async false
set_option linter.all false
set_option maxRecDepth 100000
namespace Sm
open PySem PySem.Spec PyProof.Rows L2
def spLet (K : PySem.W.Frag) (C : Ad) : Sp := fun vs H Q _ => ∃ (M : Mem) (m d : Addr) (ad qd : Nat → Addr) (kvs : List (Key × V)) (s : Si23.St) (k : Int) (x : Si23.Sock) (a : Nat),
  vs = [.ref m, .int k] ∧ Rep K C M H m d ad qd kvs s ∧ s.get k = some x ∧ a < 4294967295 ∧ Post K C M H m (Si23.step s (.connect k a 0 0)).1 Q (.int (Si23.step s (.connect k a 0 0)).2.code)
def spTakeP (K : PySem.W.Frag) (C : Ad) : Sp := fun vs H Q _ => ∃ (M : Mem) (m d : Addr) (ad qd : Nat → Addr) (kvs : List (Key × V)) (s : Si23.St) (k : Int) (x : Si23.Sock) (a t p : Nat) (pt : Addr),
  vs = [.ref m, .int k, .int a, .ref pt] ∧ Rep K C M H m d ad qd kvs s ∧ s.get k = some x ∧ a < 4294967295 ∧ t < 4294967295 ∧ p < 65536 ∧ t ≠ 0 ∧ p ≠ 0 ∧ TupF K M H pt [.int t, .int p] ∧ Post K C M H m (Si23.step s (.connect k a t p)).1 Q (.int (Si23.step s (.connect k a t p)).2.code)
def spConn (K : PySem.W.Frag) (C : Ad) : Sp := fun vs H Q _ => ∃ (M : Mem) (m d : Addr) (ad qd : Nat → Addr) (kvs : List (Key × V)) (s : Si23.St) (k : Int) (a t p : Nat),
  vs = [.ref m, .int k, .int a, .int t, .int p] ∧ Rep K C M H m d ad qd kvs s ∧ Post K C M H m (Si23.step s (.connect k a t p)).1 Q (.int (Si23.step s (.connect k a t p)).2.code)
theorem bad_conn {a t p : Nat} : (Si23.address a = false ∨ Si23.address t = false ∨ Si23.portOk p = false ∨ a = Si23.EVERYBODY ∨ t = Si23.EVERYBODY ∨ (t = 0 ↔ p ≠ 0)) ↔ (4294967295 ≤ a ∨ 4294967295 ≤ t ∨ 65535 < p ∨ (t = 0 ↔ p ≠ 0)) := by
  have h : Si23.EVERYBODY = 4294967295 := rfl
  rw [h]
  simp only [Si23.address, Si23.portOk, decide_eq_false_iff_not]
  omega
theorem taken_set {s : Si23.St} {k a p tn : Nat} {o : Option Si23.Sock} {pe : Option (Nat × Nat)} : ({ s with socks := s.socks.set k o, turn := tn } : Si23.St).taken k a p pe = s.taken k a p pe := by
  rw [Bool.eq_iff_iff, taken_iff, taken_iff]
  constructor
  · rintro ⟨j, x, h1, h2, h3⟩
    rcases set_at (s := s) (k := k) (o := o) h1 with ⟨e, _⟩ | ⟨_, h1⟩
    · exact absurd e h2
    · exact ⟨j, x, h1, h2, h3⟩
  · rintro ⟨j, x, h1, h2, h3⟩
    exact ⟨j, x, set_keep (s := s) (k := k) (o := o) h2 h1, h2, h3⟩
theorem step_conn {s : Si23.St} {k : Int} {x : Si23.Sock} {a t p : Nat} (hx : s.get k = some x) (nb : ¬ (4294967295 ≤ a ∨ 4294967295 ≤ t ∨ 65535 < p ∨ (t = 0 ↔ p ≠ 0))) (ht0 : t ≠ 0) {na np : Nat} (hA : (if x.at_ = 0 then a else x.at_) = na) (hP : (if x.port = 0 then s.free.getD 0 else x.port) = np) :
    Si23.step s (.connect k a t p) = if np = 0 then (s, Si23.say (-5)) else if s.taken k.toNat na np (some (t, p)) = true then (s, Si23.say (-4)) else
      (({ s with turn := if x.port = 0 then (np - 49152 + 1) % 16384 else s.turn } : Si23.St).set k.toNat (some { x with at_ := na, port := np, peer := some (t, p), queue := x.queue.filter fun g => g.from_ == t && g.port == p }), Si23.say np) := by
  unfold Si23.step
  dsimp only
  rw [if_neg (fun z => nb (bad_conn.mp z)), hx]
  dsimp only
  rw [if_neg ht0, hA]
  unfold Si23.St.bound
  dsimp only
  by_cases c : x.port = 0
  · rw [if_neg (by simpa using c)]
    rw [if_pos c] at hP
    cases hf : s.free with
    | none =>
      rw [hf] at hP
      have : np = 0 := hP.symm
      rw [if_pos this]
      rfl
    | some fp =>
      rw [hf] at hP
      have e : fp = np := hP
      subst e
      have := free_ge hf
      rw [if_neg (by omega), if_pos c]
      simp only [Option.map_some]
      rw [taken_set]
      by_cases ct : s.taken k.toNat na fp (some (t, p)) = true
      · rw [if_pos ct, if_pos ct]
      · rw [if_neg ct, if_neg ct]
        simp only [Si23.St.set, List.set_set]
        rfl
  · rw [if_pos c]
    rw [if_neg c] at hP
    subst hP
    rw [if_neg c, if_neg c]
section
variable {P : Program} {w : World} {K : PySem.W.Frag} {mg : Str → Option Value} {base : Heap}
theorem scLet : FnScope ["self", "k", "socket"] ["self", "k"] (defScope sLet) := ⟨rfl, rfl, rfl, by decide +kernel, rfl, by decide +kernel, by decide +kernel⟩
theorem ok_let {f np f1 : Addr} {C : Ad} {fd fd1 : FuncData} (F : Fun K "let_peer_go" "Machine.let_peer_go" sLet f fd) (T2 : Txt2 K mg C np)
    (G1 : MOk P w K mg base C.c_Machine 2 "is_met" ["self", "k", "address", "port", "peer"] (spMet K C) f1 fd1) : FnOk P w K mg base CX0 3 f fd ["self", "k"] (spLet K C) := by
  refine F.ok scLet (fun vs H Q E h => ?_) (fun cdv A outer s H vs Q E hr h => ?_)
  · obtain ⟨M, m, d, ad, qd, kvs, sc, k, x, a, rfl, _⟩ := h
    rfl
  · obtain ⟨M, m, d, ad, qd, kvs, sc, k, x, a, rfl, R, hx, ha1, q⟩ := h
    obtain ⟨dm, hm⟩ := R.mach
    have hd := R.dict
    have hu := hu_of hr
    have T := T2.t
    obtain ⟨t5, e5⟩ := T2.IN_THE_WAY
    refine ⟨_, pss_cons (ps_set (i := 2) scLet.nd rfl (Or.inl rfl) (pe_dget hu (pe_fld (pv 0) rfl) (pv 1) (fun _ _ => rfl)))
      (pss_cons (ps_if (pt_val (pe_meth (pv 0) T.clM G1.at_ G1.ok hr G1.b .nil pass0 (pa_cons (pv 1) (pa_cons (pe_fld (pv 2) rfl) (pa_cons (pe_fld (pv 2) rfl) (pa_cons (pe_gr rfl T2.NO_PEER) pa_nil)))))) (pss_one (ps_ret (pe_gi rfl e5))) pss_nil)
      (pss_cons (ps_fld (pv 2) (pe_gr rfl T2.NO_PEER) rfl)
      (pss_one (ps_ret pe_int)))), ?_⟩
    obtain ⟨hk0, hsx⟩ := get_some.mp hx
    have hg2 : DGet H d (V.int k) (some (V.ref (ad k.toNat))) := by
      have := DGet.k (k := Sum.inl k) hd; rw [R.there hx] at this; exact this
    obtain ⟨dx, pe, rs, er, ha, hpe, hq, hms, her⟩ := (R.sock _ x hsx).ex
    simp only [tSeq, tIfS, tTest, tOp, tOr, tAnd, tNot, tAndV, tOrV, tNotV, tIf, tVar, tC, tRet, tRetN, tDrop, tNext, tFld, sFld, tAsg, gName, gTup, gCons, gNil, tB, rEq, rNe, rI, rI0, scal_ii, scal_bb, cxK, ite_true, ite_false, if_true, if_false, tNil, tCons, tTup, tLst, tCall, tCB, tUn, tMeth, tMake, tDNewK, tDGet, tDIn, tDNotIn, sDPut, tDPop1, L2.start, List.replicate, Nat.reduceSub, Nat.reduceAdd, List.map_cons, List.map_nil, List.length_cons, List.length_nil, List.cons_append, List.nil_append, List.append_nil, List.getElem?_cons_zero, List.getElem?_cons_succ, List.set_cons_zero, List.set_cons_succ, Option.some.injEq, List.cons.injEq, kV_inl, Bool.false_eq_true, reduceCtorEq, V.int.injEq, V.bl.injEq, V.ref.injEq, HO.ins.injEq, exists_eq_left', exists_eq_left, exists_eq_right, and_assoc, and_true, true_and, exists_and_left, exists_and_right, decide_eq_true_eq, Bool.not_eq_true', decide_eq_false_iff_not, hm, T.clM, T.nSockets, mf_get_sockets]
    refine ⟨_, hg2, mf_no _ _ (by decide) (by decide), ?_⟩
    simp only [tSeq, tIfS, tTest, tOp, tOr, tAnd, tNot, tAndV, tOrV, tNotV, tIf, tVar, tC, tRet, tRetN, tDrop, tNext, tFld, sFld, tAsg, gName, gTup, gCons, gNil, tB, rEq, rNe, rI, rI0, scal_ii, scal_bb, cxK, ite_true, ite_false, if_true, if_false, tNil, tCons, tTup, tLst, tCall, tCB, tUn, tMeth, tMake, tDNewK, tDGet, tDIn, tDNotIn, sDPut, tDPop1, L2.start, List.replicate, Nat.reduceSub, Nat.reduceAdd, List.map_cons, List.map_nil, List.length_cons, List.length_nil, List.cons_append, List.nil_append, List.append_nil, List.getElem?_cons_zero, List.getElem?_cons_succ, List.set_cons_zero, List.set_cons_succ, Option.some.injEq, List.cons.injEq, kV_inl, Bool.false_eq_true, reduceCtorEq, V.int.injEq, V.bl.injEq, V.ref.injEq, HO.ins.injEq, exists_eq_left', exists_eq_left, exists_eq_right, and_assoc, and_true, true_and, exists_and_left, exists_and_right, decide_eq_true_eq, Bool.not_eq_true', decide_eq_false_iff_not, ha, sv, sf_get_port, sf_get_address, T.clS, T.nPort, T.nAddress]
    refine ⟨M, m, d, np, ad, qd, kvs, sc, k, x.at_, x.port, 0, 0, rfl, R, .inr T2.npK, fun H1 b s1 hb => ⟨b, rfl, ?_⟩⟩
    have hb := hb.trans (met_taken (a := x.at_) (p := x.port) (peer := none) R hk0 (fun _ _ z => by cases z))
    have R1 := R.same s1
    have F1 : Fr M H M H1 := Fr.same s1
    have ha1' := s1 _ _ ha
    have nb : ¬ (Si23.address a = false ∨ Si23.address 0 = false ∨ Si23.portOk 0 = false ∨ a = Si23.EVERYBODY ∨ 0 = Si23.EVERYBODY ∨ ((0 : Nat) = 0 ↔ (0 : Nat) ≠ 0)) := fun z => by
      have := bad_conn.mp z
      omega
    by_cases c3 : x.port ≠ 0 ∧ sc.taken k.toNat x.at_ x.port none = true
    · rw [if_pos (hb.mpr c3)]
      have es : Si23.step sc (.connect k a 0 0) = (sc, Si23.say (-4)) := by
        unfold Si23.step; dsimp only; rw [if_neg nb, hx]; dsimp only; rw [if_pos rfl, if_pos c3]
      rw [es] at q
      exact q _ _ _ _ _ _ F1 R1
    · rw [if_neg (fun z => c3 (hb.mp z))]
      have es : Si23.step sc (.connect k a 0 0) = (sc.set k.toNat (some { x with peer := none }), Si23.say 0) := by
        unfold Si23.step; dsimp only; rw [if_neg nb, hx]; dsimp only; rw [if_pos rfl, if_neg c3]
      rw [es] at q
      have f2 : Fr M H1 M (upd H1 (ad k.toNat) (.ins C.c_Socket dx (sv { x with peer := none } np (qd k.toNat) er))) := Fr.write _ (R.ma _ x hsx).1
      have R4 := R1.sockW (x' := { x with peer := none }) (q' := qd k.toNat) hsx f2 (fun _ h => h) (fun b o e n1 _ => by rw [upd_ne n1]; exact e)
        ⟨dx, np, rs, er, upd_same, .inr T2.npK, by rw [upd_ne (ne_of (s1 _ _ hq) ha1' (by intro z; cases z))]; exact s1 _ _ hq, (hms.fr F1).fr f2, (her.fr F1).fr f2⟩ (R.ma _ x hsx).2 (.inl rfl) (fun t p e => by cases e) (R.good.qlen _ x hsx) (R1.al.upd _ _)
      simp only [ha1', sv, tSeq, tIfS, tTest, tOp, tOr, tAnd, tNot, tAndV, tOrV, tNotV, tIf, tVar, tC, tRet, tRetN, tDrop, tNext, tFld, sFld, tAsg, gName, gTup, gCons, gNil, tB, rEq, rNe, rI, rI0, scal_ii, scal_bb, cxK, ite_true, ite_false, if_true, if_false, tNil, tCons, tTup, tLst, tCall, tCB, tUn, tMeth, tMake, tDNewK, tDGet, tDIn, tDNotIn, sDPut, tDPop1, L2.start, List.replicate, Nat.reduceSub, Nat.reduceAdd, List.map_cons, List.map_nil, List.length_cons, List.length_nil, List.cons_append, List.nil_append, List.append_nil, List.getElem?_cons_zero, List.getElem?_cons_succ, List.set_cons_zero, List.set_cons_succ, Option.some.injEq, List.cons.injEq, kV_inl, Bool.false_eq_true, reduceCtorEq, V.int.injEq, V.bl.injEq, V.ref.injEq, HO.ins.injEq, exists_eq_left', exists_eq_left, exists_eq_right, and_assoc, and_true, true_and, exists_and_left, exists_and_right, decide_eq_true_eq, Bool.not_eq_true', decide_eq_false_iff_not, T.clS, T.nPeer, sf_len, sf_put_peer]
      exact q _ _ _ _ _ _ (F1.trans f2) R4
variable {A : Ad}
theorem okT_Machine_let_peer_go (T : Tx K mg A) : FnOk P w K mg base CX0 3 A.f_Machine_let_peer_go A.d_Machine_let_peer_go ["self", "k"] (spLet K A) := ok_let T.F_Machine_let_peer_go (Txt2.of T) ⟨T.m_Machine_is_met, okT_Machine_is_met T, T.b_Machine_is_met⟩
theorem set_self {α : Type} {l : List α} {k : Nat} {x : α} (h : l[k]? = some x) : l.set k x = l := by
  refine List.ext_getElem? fun j => ?_
  by_cases e : j = k
  · subst e; rw [List.getElem?_set_self (List.getElem?_eq_some_iff.mp h).1, h]
  · rw [List.getElem?_set_ne (fun z => e z.symm)]
theorem okT_Machine_take_peer (T : Tx K mg A) : FnOk P w K mg base CX0 4 A.f_Machine_take_peer A.d_Machine_take_peer ["self", "k", "a", "peer"] (spTakeP K A) := by
  have G_Machine_give := okT_Machine_give (P := P) (w := w) (base := base) T
  have G_Machine_is_met := okT_Machine_is_met (P := P) (w := w) (base := base) T
  have G_Machine_port_for := okT_Machine_port_for (P := P) (w := w) (base := base) T
  have G_drop_others := okT_drop_others (P := P) (w := w) (base := base) T
  refine T.F_Machine_take_peer.ok sc_Machine_take_peer (fun vs H Q E h => ?_) (fun cdv A' outer s H vs Q E hr h => ?_)
  · obtain ⟨M, m, d, ad, qd, kvs, sc, k, x, a, t, p, pt, rfl, _⟩ := h
    rfl
  · obtain ⟨M, m, d, ad, qd, kvs, sc, k, x, a, t, p, pt, rfl, R, hx, ha1, ht1, hp1, ht0, hp0, hpt, q⟩ := h
    obtain ⟨dm, hm⟩ := R.mach
    have hd := R.dict
    have hu := hu_of hr
    obtain ⟨t_IN_THE_WAY, e_IN_THE_WAY⟩ := T.i_IN_THE_WAY
    obtain ⟨t_NONE_FREE, e_NONE_FREE⟩ := T.i_NONE_FREE
    refine ⟨_, (pss_cons (ps_set (i := 4) sc_Machine_take_peer.nd rfl (Or.inl rfl) (pe_dget hu (pe_fld (pv 0) rfl) (pv 1) (fun _ _ => rfl)))
      (pss_cons (ps_set (i := 5) sc_Machine_take_peer.nd rfl (Or.inl rfl) (pe_cut (pe_ifExp (pt_cmpR op_eq (pe_fld (pv 4) rfl) pe_int (nomark _)) (pv 2) (pe_fld (pv 4) rfl))))
      (pss_cons (ps_set (i := 6) sc_Machine_take_peer.nd rfl (Or.inl rfl) (pe_meth (pv 0) T.cls_Machine T.m_Machine_port_for G_Machine_port_for (hr.mono (by decide)) T.b_Machine_port_for .nil pass0 (pa_cons (pv 4) pa_nil)))
      (pss_cons (ps_if (pt_cmpR op_eq (pv 6) pe_int (nomark _)) (pss_one (ps_ret (pe_gi rfl e_NONE_FREE))) pss_nil)
      (pss_cons (ps_if (pt_val (pe_meth (pv 0) T.cls_Machine T.m_Machine_is_met G_Machine_is_met (hr.mono (by decide)) T.b_Machine_is_met .nil pass0 (pa_cons (pv 1) (pa_cons (pv 5) (pa_cons (pv 6) (pa_cons (pv 3) pa_nil)))))) (pss_one (ps_ret (pe_gi rfl e_IN_THE_WAY))) pss_nil)
      (pss_cons (ps_cut (ps_expr (pe_meth (pv 0) T.cls_Machine T.m_Machine_give G_Machine_give (hr.mono (by decide)) T.b_Machine_give .nil pass0 (pa_cons (pv 4) (pa_cons (pv 6) pa_nil)))))
      (pss_cons (ps_fld (pv 4) (pv 5) rfl)
      (pss_cons (ps_fld (pv 4) (pv 3) rfl)
      (pss_cons (ps_expr (pe_call G_drop_others (hr.mono (by decide)) rfl T.mg_drop_others T.F_drop_others.kp T.b_drop_others .nil pass0 (pa_cons (pv 4) pa_nil)))
      (pss_one (ps_ret (pv 6)))))))))))), ?_⟩
    have T := Txt.of T
    obtain ⟨hk0, hsx⟩ := get_some.mp hx
    have hg2 : DGet H d (V.int k) (some (V.ref (ad k.toNat))) := by
      have := DGet.k (k := Sum.inl k) hd; rw [R.there hx] at this; exact this
    obtain ⟨dx, pe, rs, er, ha, hpe, hq, hms, her⟩ := (R.sock _ x hsx).ex
    simp only [tSeq, tIfS, tTest, tOp, tOr, tAnd, tNot, tAndV, tOrV, tNotV, tIf, tVar, tC, tRet, tRetN, tDrop, tNext, tFld, sFld, tAsg, gName, gTup, gCons, gNil, tB, rEq, rNe, rI, rI0, scal_ii, scal_bb, cxK, ite_true, ite_false, if_true, if_false, tNil, tCons, tTup, tLst, tCall, tCB, tUn, tMeth, tMake, tDNewK, tDGet, tDIn, tDNotIn, sDPut, tDPop1, L2.start, List.replicate, Nat.reduceSub, Nat.reduceAdd, List.map_cons, List.map_nil, List.length_cons, List.length_nil, List.cons_append, List.nil_append, List.append_nil, List.getElem?_cons_zero, List.getElem?_cons_succ, List.set_cons_zero, List.set_cons_succ, Option.some.injEq, List.cons.injEq, kV_inl, Bool.false_eq_true, reduceCtorEq, V.int.injEq, V.bl.injEq, V.ref.injEq, HO.ins.injEq, exists_eq_left', exists_eq_left, exists_eq_right, and_assoc, and_true, true_and, exists_and_left, exists_and_right, decide_eq_true_eq, Bool.not_eq_true', decide_eq_false_iff_not, tCut, tCutS, hm, T.clM, T.nSockets, mf_get_sockets]
    refine ⟨_, hg2, ?_⟩
    -- the address
    refine ⟨fun v H' => v = .int ((if x.at_ = 0 then a else x.at_ : Nat) : Int) ∧ H' = H, ?_, ?_⟩
    · simp only [tSeq, tIfS, tTest, tOp, tOr, tAnd, tNot, tAndV, tOrV, tNotV, tIf, tVar, tC, tRet, tRetN, tDrop, tNext, tFld, sFld, tAsg, gName, gTup, gCons, gNil, tB, rEq, rNe, rI, rI0, scal_ii, scal_bb, cxK, ite_true, ite_false, if_true, if_false, tNil, tCons, tTup, tLst, tCall, tCB, tUn, tMeth, tMake, tDNewK, tDGet, tDIn, tDNotIn, sDPut, tDPop1, L2.start, List.replicate, Nat.reduceSub, Nat.reduceAdd, List.map_cons, List.map_nil, List.length_cons, List.length_nil, List.cons_append, List.nil_append, List.append_nil, List.getElem?_cons_zero, List.getElem?_cons_succ, List.set_cons_zero, List.set_cons_succ, Option.some.injEq, List.cons.injEq, kV_inl, Bool.false_eq_true, reduceCtorEq, V.int.injEq, V.bl.injEq, V.ref.injEq, HO.ins.injEq, exists_eq_left', exists_eq_left, exists_eq_right, and_assoc, and_true, true_and, exists_and_left, exists_and_right, decide_eq_true_eq, Bool.not_eq_true', decide_eq_false_iff_not, ha, sv, sf_get_address, T.clS, T.nAddress]
      by_cases c : x.at_ = 0
      · rw [if_pos (by omega), if_pos c]
      · rw [if_neg (by omega), if_neg c]
    rintro v H0 ⟨rfl, rfl⟩
    generalize hA : (if x.at_ = 0 then a else x.at_ : Nat) = na
    -- the port
    refine ⟨_, _, hm, mf_no _ _ (by decide) (by decide), M, m, d, ad, qd, kvs, sc, k.toNat, x, rfl, R, hsx, fun H1 s1 => ?_⟩
    unfold portFor
    generalize hPo : (if x.port = 0 then sc.free.getD 0 else x.port : Nat) = np'
    have nb : ¬ (4294967295 ≤ a ∨ 4294967295 ≤ t ∨ 65535 < p ∨ (t = 0 ↔ p ≠ 0)) := by omega
    have es := step_conn hx nb ht0 hA hPo
    refine ⟨scal_ii _ _, ?_⟩
    have R1 := R.same s1
    have F1 : Fr M H0 M H1 := Fr.same s1
    have hm1 := s1 _ _ hm
    by_cases c0 : np' = 0
    · rw [if_pos (by rw [c0]; rfl)]
      rw [if_pos c0] at es
      rw [es] at q
      exact q _ _ _ _ _ _ F1 R1
    rw [if_neg c0] at es
    rw [if_neg (by simp; omega)]
    refine ⟨_, _, hm1, mf_no _ _ (by decide) (by decide), M, m, d, pt, ad, qd, kvs, sc, k, na, np', t, p, rfl, R1, hpt.fr F1, fun H2 b s2 hb => ⟨b, rfl, ?_⟩⟩
    have hb := hb.trans (met_taken (a := na) (p := np') (peer := some (t, p)) R1 hk0 (fun t' p' z => by cases z; exact ht0))
    have R2 := R1.same s2
    have F2 : Fr M H0 M H2 := F1.trans (Fr.same s2)
    have hm2 := s2 _ _ hm1
    have ha2 := s2 _ _ (s1 _ _ ha)
    have hq2 := s2 _ _ (s1 _ _ hq)
    by_cases ct : sc.taken k.toNat na np' (some (t, p)) = true
    · rw [if_pos (hb.mpr ⟨c0, ct⟩)]
      rw [if_pos ct] at es
      rw [es] at q
      exact q _ _ _ _ _ _ F2 R2
    rw [if_neg ct] at es
    rw [if_neg (fun z => ct (hb.mp z).2)]
    rw [es] at q
    generalize hT : (if x.port = 0 then (np' - 49152 + 1) % 16384 else sc.turn) = tn at q
    have nqm : qd k.toNat ≠ m := ne_of hq2 hm2 (by intro z; cases z)
    have nqa : qd k.toNat ≠ ad k.toNat := ne_of hq2 ha2 (by intro z; cases z)
    refine ⟨fun σ' H' => σ' = [some (V.ref m), some (V.int k), some (V.int a), some (V.ref pt), some (V.ref (ad k.toNat)), some (V.int na), some (V.int np')] ∧ Fr M H0 M H' ∧ Rep K A M H' m d ad qd kvs { sc with socks := sc.socks.set k.toNat (some { x with port := np' }), turn := tn } ∧ H' (ad k.toNat) = some (.ins A.c_Socket dx (sv { x with port := np' } pe (qd k.toNat) er)) ∧ H' (qd k.toNat) = H2 (qd k.toNat), ?_, ?_⟩
    · refine ⟨_, _, hm2, mf_no _ _ (by decide) (by decide), m, ad k.toNat, dm, dx, _, _, _, _, _, _, _, _, _, _, rfl, hm2, ha2, R.ne _ x hsx, fun z => ?_, fun z => ?_⟩
      · have c : x.port ≠ 0 := by omega
        rw [if_neg c] at hPo hT
        subst hPo hT
        refine ⟨rfl, F2, ?_, ha2, rfl⟩
        rw [set_self hsx]
        exact R2
      · have c : x.port = 0 := by omega
        rw [if_pos c] at hPo hT
        have hfp : 49152 ≤ np' := by
          cases hf : sc.free with
          | none => rw [hf] at hPo; exact absurd hPo.symm c0
          | some fp => rw [hf] at hPo; have e : fp = np' := hPo; rw [← e]; exact (free_ge hf).1
        obtain ⟨F3, R3⟩ := R2.give (x := x) (dx := dx) (dm := dm) (pe := pe) (er := er) (p := np') hsx ha2 (hpe.fr F2) (her.fr F2) hfp
        rw [hT] at R3
        exact ⟨rfl, F2.trans F3, R3, by rw [upd_ne (Ne.symm (R.ne _ x hsx)), upd_same]; rfl, by rw [upd_ne nqm, upd_ne nqa]⟩
    · rintro σ' H3 ⟨rfl, F3, R3, ea, eq⟩
      rw [hq2] at eq
      simp only [tSeq, tIfS, tTest, tOp, tOr, tAnd, tNot, tAndV, tOrV, tNotV, tIf, tVar, tC, tRet, tRetN, tDrop, tNext, tFld, sFld, tAsg, gName, gTup, gCons, gNil, tB, rEq, rNe, rI, rI0, scal_ii, scal_bb, cxK, ite_true, ite_false, if_true, if_false, tNil, tCons, tTup, tLst, tCall, tCB, tUn, tMeth, tMake, tDNewK, tDGet, tDIn, tDNotIn, sDPut, tDPop1, L2.start, List.replicate, Nat.reduceSub, Nat.reduceAdd, List.map_cons, List.map_nil, List.length_cons, List.length_nil, List.cons_append, List.nil_append, List.append_nil, List.getElem?_cons_zero, List.getElem?_cons_succ, List.set_cons_zero, List.set_cons_succ, Option.some.injEq, List.cons.injEq, kV_inl, Bool.false_eq_true, reduceCtorEq, V.int.injEq, V.bl.injEq, V.ref.injEq, HO.ins.injEq, exists_eq_left', exists_eq_left, exists_eq_right, and_assoc, and_true, true_and, exists_and_left, exists_and_right, decide_eq_true_eq, Bool.not_eq_true', decide_eq_false_iff_not, ea, sv, T.clS, T.nAddress, T.nPort, T.nPeer, upd_same, upd_upd, sf_len, sf_put_address, sf_put_port, sf_put_peer]
      have ms : M.mu (ad k.toNat) := (R.ma _ x hsx).1
      generalize hO : HO.ins A.c_Socket dx (sf (V.int (na : Int)) (V.int (np' : Int)) (V.ref pt) (V.int (b01 x.all)) (V.ref (qd k.toNat)) er (V.int x.lost)) = O4
      have F4 : Fr M H3 M (upd H3 (ad k.toNat) O4) := Fr.write _ ms
      have hq4 : (upd H3 (ad k.toNat) O4) (qd k.toNat) = some (.lst (rs.map V.ref)) := by rw [upd_ne nqa]; exact eq
      have hrl : rs.length ≤ 1000 := by
        have h1 : rs.length = x.queue.length := Paired.length hms
        have h2 := R.good.qlen _ x hsx
        omega
      refine ⟨M, ad k.toNat, dx, pt, qd k.toNat, _, _, _, _, _, t, p, rs, x.queue, rfl, by rw [← hO]; exact upd_same, (hpt.fr F3).fr F4, hq4, (hms.fr F3).fr F4, hrl, fun D rs' hD hm' => ?_⟩
      have naD : ad k.toNat ≠ D := fun z => by rw [← z, upd_same] at hD; cases hD
      have hD3 : H3 D = none := by rw [upd_ne (Ne.symm naD)] at hD; exact hD
      have eqf : (x.queue.filter (Of t p)) = x.queue.filter fun g => g.from_ == t && g.port == p := by
        refine List.filter_congr fun g _ => ?_
        unfold Of
        rw [Bool.eq_iff_iff]
        simp
        omega
      rw [eqf] at hm'
      rw [← hO, upd_swap naD]
      have F5 : Fr M H3 (M1 M D) (upd (upd H3 D (.lst (rs'.map V.ref))) (ad k.toNat) (.ins A.c_Socket dx (sf (V.int (na : Int)) (V.int (np' : Int)) (V.ref pt) (V.int (b01 x.all)) (V.ref D) er (V.int x.lost)))) := (Fr.newM _ hD3).trans (Fr.write _ (.inl ms))
      have F6 : Fr M (upd H3 (ad k.toNat) O4) (M1 M D) (upd (upd H3 D (.lst (rs'.map V.ref))) (ad k.toNat) (.ins A.c_Socket dx (sf (V.int (na : Int)) (V.int (np' : Int)) (V.ref pt) (V.int (b01 x.all)) (V.ref D) er (V.int x.lost)))) := by
        rw [← upd_swap naD (X := O4)]
        exact (Fr.newM _ hD).trans (Fr.write _ (.inl ms))
      have hsx3 : ({ sc with socks := sc.socks.set k.toNat (some { x with port := np' }), turn := tn } : Si23.St).socks[k.toNat]? = some (some { x with port := np' }) := List.getElem?_set_self (List.getElem?_eq_some_iff.mp hsx).1
      have R5 := R3.sockW (k := k.toNat) (x := { x with port := np' }) (x' := { x with at_ := na, port := np', peer := some (t, p), queue := x.queue.filter fun g => g.from_ == t && g.port == p }) (q' := D) hsx3 F5 (fun _ h => .inl h) (fun b o e n1 _ => by rw [upd_ne n1, upd_ne (ne_of_none e hD3)]; exact e) ⟨dx, pt, rs', er, upd_same, (hpt.fr F3).fr F5, by rw [upd_ne (Ne.symm naD)]; exact upd_same, hm'.fr F6, (her.fr F3).fr F5⟩ (.inr rfl) (.inr hD3) (fun t' p' e => by cases e; exact ⟨ht0, hp0, c0⟩) (Nat.le_trans (List.length_filter_le _ _) (R.good.qlen _ x hsx)) ((R3.al.updM _ _).upd _ _)
      simp only [Si23.St.set, List.set_set] at R5
      exact q _ _ _ _ _ _ (F3.trans F5) R5
end
end Sm



set_option Elab.async false
set_option linter.all false
set_option maxRecDepth 100000
namespace Sm
open PySem PySem.Spec PyProof.Rows L2
section
variable {P : Program} {w : World} {K : PySem.W.Frag} {mg : Str → Option Value} {base : Heap}
theorem scConn : FnScope ["self", "k", "a", "t", "p"] ["self", "k", "a", "t", "p"] (defScope sConn) := ⟨rfl, rfl, rfl, by decide +kernel, rfl, by decide +kernel, by decide +kernel⟩
theorem ok_conn {f np f1 f2 : Addr} {C : Ad} {fd fd1 fd2 : FuncData} (F : Fun K "connect" "Machine.connect" sConn f fd) (T2 : Txt2 K mg C np)
    (G1 : MOk P w K mg base C.c_Machine 3 "let_peer_go" ["self", "k"] (spLet K C) f1 fd1) (G2 : MOk P w K mg base C.c_Machine 4 "take_peer" ["self", "k", "a", "peer"] (spTakeP K C) f2 fd2) : FnOk P w K mg base CX0 5 f fd ["self", "k", "a", "t", "p"] (spConn K C) := by
  refine F.ok scConn (fun vs H Q E h => ?_) (fun cdv A outer s H vs Q E hr h => ?_)
  · obtain ⟨M, m, d, ad, qd, kvs, sc, k, a, t, p, rfl, _⟩ := h
    rfl
  · obtain ⟨M, m, d, ad, qd, kvs, sc, k, a, t, p, rfl, R, q⟩ := h
    obtain ⟨dm, hm⟩ := R.mach
    have hd := R.dict
    have hu := hu_of hr
    have T := T2.t
    obtain ⟨t1, e1⟩ := T2.EVERYBODY
    obtain ⟨t2, e2⟩ := T2.LAST_PORT
    obtain ⟨t3, e3⟩ := T2.NOT_AS_TOLD
    obtain ⟨t4, e4⟩ := T2.NO_SUCH_SOCKET
    refine ⟨_, pss_cons (ps_cut (ps_if (PW.pt (pw_or (pt_cmpR op_ge (pv 2) (pe_gi rfl e1) (nomark _)) (pw_or (pt_cmpR op_ge (pv 3) (pe_gi rfl e1) (nomark _)) (pw_or (pt_cmpR op_gt (pv 4) (pe_gi rfl e2) (nomark _)) (pw_or1 (pt_cmpR op_ne (pe_cmpR op_eq (pv 3) pe_int (nomark _)) (pe_cmpR op_eq (pv 4) pe_int (nomark _)) (nomark _))))))) (pss_one (ps_ret (pe_gi rfl e3))) pss_nil))
      (pss_cons (ps_if (pt_cmp (pc_dnotin hu (pv 1) (pe_fld (pv 0) rfl))) (pss_one (ps_ret (pe_gi rfl e4))) pss_nil)
      (pss_cons (ps_if (pt_cmpR op_eq (pv 3) pe_int (nomark _)) (pss_one (ps_ret (pe_meth (pv 0) T.clM G1.at_ G1.ok (hr.mono (by decide)) G1.b .nil pass0 (pa_cons (pv 1) pa_nil)))) pss_nil)
      (pss_one (ps_ret (pe_meth (pv 0) T.clM G2.at_ G2.ok hr G2.b .nil pass0 (pa_cons (pv 1) (pa_cons (pv 2) (pa_cons (pe_tup (pa_cons (pv 3) (pa_cons (pv 4) pa_nil))) pa_nil)))))))), ?_⟩
    have hg := DGet.k (k := Sum.inl k) hd
    refine ⟨fun σ' H' => σ' = [some (V.ref m), some (V.int k), some (V.int a), some (V.int t), some (V.int p)] ∧ H' = H ∧ ¬ (4294967295 ≤ a ∨ 4294967295 ≤ t ∨ 65535 < p ∨ (t = 0 ↔ p ≠ 0)), ?_, ?_⟩
    · simp only [tSeq, tIfS, tTest, tOp, tOr, tAnd, tNot, tAndV, tOrV, tNotV, tIf, tVar, tC, tRet, tRetN, tDrop, tNext, tFld, sFld, tAsg, gName, gTup, gCons, gNil, tB, rEq, rNe, rI, rI0, scal_ii, scal_bb, cxK, ite_true, ite_false, if_true, if_false, tNil, tCons, tTup, tLst, tCall, tCB, tUn, tMeth, tMake, tDNewK, tDGet, tDIn, tDNotIn, sDPut, tDPop1, L2.start, List.replicate, Nat.reduceSub, Nat.reduceAdd, List.map_cons, List.map_nil, List.length_cons, List.length_nil, List.cons_append, List.nil_append, List.append_nil, List.getElem?_cons_zero, List.getElem?_cons_succ, List.set_cons_zero, List.set_cons_succ, Option.some.injEq, List.cons.injEq, kV_inl, Bool.false_eq_true, reduceCtorEq, V.int.injEq, V.bl.injEq, V.ref.injEq, HO.ins.injEq, exists_eq_left', exists_eq_left, exists_eq_right, and_assoc, and_true, true_and, exists_and_left, exists_and_right, decide_eq_true_eq, Bool.not_eq_true', decide_eq_false_iff_not]
      by_cases c1 : 4294967295 ≤ a ∨ 4294967295 ≤ t ∨ 65535 < p ∨ (t = 0 ↔ p ≠ 0)
      · have es : Si23.step sc (.connect k a t p) = (sc, Si23.say (-1)) := by
          unfold Si23.step; dsimp only; rw [if_pos (bad_conn.mpr c1)]
        rw [es] at q
        have q1 := q _ _ _ _ _ _ (Fr.refl _ _) R
        by_cases d1 : (4294967295 : Int) ≤ a
        · rw [if_pos d1]; exact q1
        rw [if_neg d1]
        by_cases d2 : (4294967295 : Int) ≤ t
        · rw [if_pos d2]; exact q1
        rw [if_neg d2]
        by_cases d3 : (65535 : Int) < p
        · rw [if_pos d3]; exact q1
        rw [if_neg d3, if_pos]
        · exact q1
        · by_cases u1 : t = 0 <;> by_cases u2 : p = 0 <;> simp [u1, u2] <;> omega
      · rw [if_neg (by omega), if_neg (by omega), if_neg (by omega), if_neg]
        · exact c1
        · by_cases u1 : t = 0 <;> by_cases u2 : p = 0 <;> simp [u1, u2] <;> omega
    · rintro σ' H' ⟨rfl, rfl, c1⟩
      simp only [tSeq, tIfS, tTest, tOp, tOr, tAnd, tNot, tAndV, tOrV, tNotV, tIf, tVar, tC, tRet, tRetN, tDrop, tNext, tFld, sFld, tAsg, gName, gTup, gCons, gNil, tB, rEq, rNe, rI, rI0, scal_ii, scal_bb, cxK, ite_true, ite_false, if_true, if_false, tNil, tCons, tTup, tLst, tCall, tCB, tUn, tMeth, tMake, tDNewK, tDGet, tDIn, tDNotIn, sDPut, tDPop1, L2.start, List.replicate, Nat.reduceSub, Nat.reduceAdd, List.map_cons, List.map_nil, List.length_cons, List.length_nil, List.cons_append, List.nil_append, List.append_nil, List.getElem?_cons_zero, List.getElem?_cons_succ, List.set_cons_zero, List.set_cons_succ, Option.some.injEq, List.cons.injEq, kV_inl, Bool.false_eq_true, reduceCtorEq, V.int.injEq, V.bl.injEq, V.ref.injEq, HO.ins.injEq, exists_eq_left', exists_eq_left, exists_eq_right, and_assoc, and_true, true_and, exists_and_left, exists_and_right, decide_eq_true_eq, Bool.not_eq_true', decide_eq_false_iff_not, hm, T.clM, T.nSockets, mf_get_sockets]
      refine ⟨_, hg, ?_⟩
      cases hx : sc.get k with
      | none =>
        have es : Si23.step sc (.connect k a t p) = (sc, Si23.say (-2)) := by
          unfold Si23.step; dsimp only; rw [if_neg (fun z => c1 (bad_conn.mp z)), hx]
        rw [es] at q
        rw [R.isSome, hx, if_pos (by rfl)]
        exact q _ _ _ _ _ _ (Fr.refl _ _) R
      | some x =>
        rw [R.isSome, hx, if_neg (by simp)]
        by_cases c2 : t = 0
        · have c3 : p = 0 := by omega
          subst c2 c3
          rw [if_pos (by rfl)]
          exact ⟨mf_no _ _ (by decide) (by decide), M, m, d, ad, qd, kvs, sc, k, x, a, rfl, R, hx, by omega, q⟩
        · rw [if_neg (by omega)]
          refine ⟨mf_no _ _ (by decide) (by decide), by decide, fun pt hpt => ?_⟩
          have s1 : Same H' (upd H' pt (.tup [V.int t, V.int p])) := fun b o e => by rw [upd_ne (ne_of_none e hpt)]; exact e
          exact ⟨M, m, d, ad, qd, kvs, sc, k, x, a, t, p, pt, rfl, R.same s1, hx, by omega, by omega, by omega, c2, by omega, .inl ⟨upd_same, R.al.out hpt⟩, fun M' H2 d' ad' qd' kvs' f R' => q M' H2 d' ad' qd' kvs' ((Fr.same s1).trans f) R'⟩
variable {A : Ad}
theorem okT_Machine_connect (T : Tx K mg A) : FnOk P w K mg base CX0 5 A.f_Machine_connect A.d_Machine_connect ["self", "k", "a", "t", "p"] (spConn K A) := ok_conn T.F_Machine_connect (Txt2.of T) ⟨T.m_Machine_let_peer_go, okT_Machine_let_peer_go T, T.b_Machine_let_peer_go⟩ ⟨T.m_Machine_take_peer, okT_Machine_take_peer T, T.b_Machine_take_peer⟩
end
end Sm



set_option Elab.async false
set_option linter.all false
namespace Sm
open Si23Neutral (listOf bytesOf)
abbrev sh := PySi23.shape
theorem row_eq (n : Int) (r : List Int) : PyFlat.row (n :: r) = if 0 ≤ n ∧ n.toNat ≤ r.length then some (r.take n.toNat, r.drop n.toNat) else none := rfl
theorem row_len {l x t : List Int} (h : PyFlat.row l = some (x, t)) : t.length ≤ l.length := by
  cases l with
  | nil => cases h
  | cons n r =>
    rw [row_eq] at h
    by_cases c : 0 ≤ n ∧ n.toNat ≤ r.length
    · rw [if_pos c] at h
      cases h
      rw [List.length_drop, List.length_cons]; omega
    · rw [if_neg c] at h; cases h
theorem rows_len : ∀ {k : Nat} {l : List Int} {xs : List (List Int)} {t : List Int}, PyFlat.rows k l = some (xs, t) → t.length ≤ l.length
  | 0, l, xs, t, h => by cases h; exact Nat.le_refl _
  | k + 1, l, xs, t, h => by
    simp only [PyFlat.rows] at h
    cases e : PyFlat.row l with
    | none => rw [e] at h; cases h
    | some q =>
      obtain ⟨x, s⟩ := q
      rw [e] at h
      simp only at h
      cases e2 : PyFlat.rows k s with
      | none => rw [e2] at h; cases h
      | some q2 =>
        obtain ⟨ys, u⟩ := q2
        rw [e2] at h
        cases h
        exact Nat.le_trans (rows_len e2) (row_len e)
theorem call_eq (p : Int) (r : List Int) : PyFlat.call sh (p :: r) = (match sh p with
    | none => none
    | some (n, k) => if r.length < n then none else match PyFlat.rows k (r.drop n) with
      | none => none
      | some (xs, t) => some ((p :: r.take n) :: xs, t)) := rfl
theorem call_of {p : Int} {r : List Int} {c : List (List Int)} {t : List Int} (h : PyFlat.call sh (p :: r) = some (c, t)) : ∃ n k xs, sh p = some (n, k) ∧ n ≤ r.length ∧ PyFlat.rows k (r.drop n) = some (xs, t) ∧ c = (p :: r.take n) :: xs := by
  rw [call_eq] at h
  cases e : sh p with
  | none => rw [e] at h; cases h
  | some q =>
    obtain ⟨n, k⟩ := q
    rw [e] at h
    simp only at h
    by_cases hl : r.length < n
    · rw [if_pos hl] at h; cases h
    · rw [if_neg hl] at h
      cases e2 : PyFlat.rows k (r.drop n) with
      | none => rw [e2] at h; cases h
      | some q2 =>
        obtain ⟨xs, u⟩ := q2
        rw [e2] at h
        cases h
        exact ⟨n, k, xs, rfl, by omega, e2, rfl⟩
theorem call_len {p : Int} {r : List Int} {c : List (List Int)} {t : List Int} (h : PyFlat.call sh (p :: r) = some (c, t)) : t.length ≤ r.length := by
  obtain ⟨n, k, xs, _, _, e2, _⟩ := call_of h
  have := rows_len e2
  rw [List.length_drop] at this
  omega
theorem calls_fuel : ∀ (f g : Nat) (l : List Int), l.length ≤ f → l.length ≤ g → PyFlat.calls sh f l = PyFlat.calls sh g l
  | _, _, [], _, _ => by unfold PyFlat.calls; rfl
  | 0, _, _ :: _, h, _ => by simp at h
  | _, 0, _ :: _, _, h => by simp at h
  | f + 1, g + 1, p :: r, h1, h2 => by
    rw [List.length_cons] at h1 h2
    unfold PyFlat.calls
    cases e : PyFlat.call sh (p :: r) with
    | none => rfl
    | some q =>
      obtain ⟨c, t⟩ := q
      have hl := call_len e
      simp only
      rw [calls_fuel f g t (by omega) (by omega)]
def callsOf (l : List Int) : Option (List (List (List Int))) := PyFlat.calls sh l.length l
theorem callsOf_nil : callsOf [] = some [] := by unfold callsOf PyFlat.calls; rfl
theorem callsOf_cons (p : Int) (r : List Int) : callsOf (p :: r) = (match PyFlat.call sh (p :: r) with
    | none => none
    | some (c, t) => match callsOf t with
      | none => none
      | some cs => some (c :: cs)) := by
  unfold callsOf
  rw [List.length_cons]
  conv => lhs; unfold PyFlat.calls
  cases e : PyFlat.call sh (p :: r) with
  | none => rfl
  | some q =>
    obtain ⟨c, t⟩ := q
    simp only
    rw [calls_fuel r.length t.length t (call_len e) (Nat.le_refl _)]
    rfl
/-- what is answered from a state on -/
def afrom (s : Si23.St) (l : List Int) : List Int := match callsOf l with
  | none => []
  | some cs => PyFlat.told (PyFlat.played Si23Neutral.step s (cs.map PySi23.whole))
theorem answers_from (l : List Int) : PySi23.answers l = afrom Si23.init l := by
  unfold PySi23.answers PySi23.calls afrom callsOf
  cases e : PyFlat.calls PySi23.shape l.length l with
  | none => simp [sh, e]
  | some cs => simp [sh, e]; rfl
/-- a list of calls as the document has it -/
def Wf (l : List Int) : Prop := ∃ raw, callsOf l = some raw ∧ PyInside.calls PySi23.bound raw = true
def isB (l : List Int) : Prop := l.length ≤ 15800 ∧ ∀ z ∈ l, 0 ≤ z ∧ z ≤ 255
/-- the list begins with the call c, then t -/
inductive Cl : List Int → Si23.Call → List Int → Prop
  | begins {x : Int} {t : List Int} : 0 ≤ x → x ≤ 4294967295 → Cl (0 :: x :: t) (.begins x.toNat) t
  | opens {t : List Int} : Cl (1 :: t) .opens t
  | close {k : Int} {t : List Int} : Cl (2 :: k :: t) (.close k) t
  | bind {k a p : Int} {t : List Int} : 0 ≤ a → 0 ≤ p → Cl (3 :: k :: a :: p :: t) (.bind k a.toNat p.toNat) t
  | connect {k a u p : Int} {t : List Int} : 0 ≤ a → 0 ≤ u → 0 ≤ p → Cl (4 :: k :: a :: u :: p :: t) (.connect k a.toNat u.toNat p.toNat) t
  | hear {k b : Int} {t : List Int} : Cl (5 :: k :: b :: t) (.hear k b) t
  | send {k a u p : Int} {b t : List Int} : 0 ≤ a → 0 ≤ u → 0 ≤ p → isB b → Cl (6 :: k :: a :: u :: p :: (b.length : Int) :: (b ++ t)) (.send k a.toNat u.toNat p.toNat (bytesOf b)) t
  | came {f u : Int} {b t : List Int} : 0 ≤ f → 0 ≤ u → isB b → Cl (7 :: f :: u :: (b.length : Int) :: (b ++ t)) (.came f.toNat u.toNat (bytesOf b)) t
  | problem {a n : Int} {b t : List Int} : 0 ≤ a → 0 ≤ n → isB b → Cl (8 :: a :: n :: (b.length : Int) :: (b ++ t)) (.problem a.toNat n.toNat (bytesOf b)) t
  | take {k m : Int} {t : List Int} : 0 ≤ m → Cl (9 :: k :: m :: t) (.take k m.toNat) t
  | told {k : Int} {t : List Int} : Cl (10 :: k :: t) (.told k) t
theorem row_some {l x t : List Int} (h : PyFlat.row l = some (x, t)) : l = (x.length : Int) :: (x ++ t) := by
  cases l with
  | nil => cases h
  | cons n r =>
    rw [row_eq] at h
    by_cases c : 0 ≤ n ∧ n.toNat ≤ r.length
    · rw [if_pos c] at h
      cases h
      rw [List.take_append_drop, List.length_take, Nat.min_eq_left c.2]
      congr 1
      omega
    · rw [if_neg c] at h; cases h
theorem call0 {p : Int} {r : List Int} {n : Nat} {c : List (List Int)} {t : List Int} (hs : sh p = some (n, 0)) (h : PyFlat.call sh (p :: r) = some (c, t)) : ∃ xs, xs.length = n ∧ r = xs ++ t ∧ c = [p :: xs] := by
  obtain ⟨n', k', xs, h1, h2, h3, h4⟩ := call_of h
  rw [hs] at h1
  cases h1
  simp only [PyFlat.rows] at h3
  cases h3
  exact ⟨r.take n, by rw [List.length_take]; omega, (List.take_append_drop n r).symm, h4⟩
theorem call1 {p : Int} {r : List Int} {n : Nat} {c : List (List Int)} {t : List Int} (hs : sh p = some (n, 1)) (h : PyFlat.call sh (p :: r) = some (c, t)) : ∃ xs b, xs.length = n ∧ r = xs ++ ((b.length : Int) :: (b ++ t)) ∧ c = [p :: xs, b] := by
  obtain ⟨n', k', xs, h1, h2, h3, h4⟩ := call_of h
  rw [hs] at h1
  cases h1
  simp only [PyFlat.rows] at h3
  cases e : PyFlat.row (r.drop n) with
  | none => rw [e] at h3; cases h3
  | some q =>
    obtain ⟨x, u⟩ := q
    rw [e] at h3
    cases h3
    refine ⟨r.take n, x, by rw [List.length_take]; omega, ?_, h4⟩
    rw [← row_some e, List.take_append_drop]
theorem sh_cases {p : Int} {q : Nat × Nat} (h : sh p = some q) : p = 0 ∨ p = 1 ∨ p = 2 ∨ p = 3 ∨ p = 4 ∨ p = 5 ∨ p = 6 ∨ p = 7 ∨ p = 8 ∨ p = 9 ∨ p = 10 := by
  have h' : PySi23.shape p = some q := h
  unfold PySi23.shape at h'
  by_cases c0 : p = 0; · simp [c0]
  by_cases c1 : p = 1; · simp [c1]
  by_cases c2 : p = 2; · simp [c2]
  by_cases c3 : p = 3; · simp [c3]
  by_cases c4 : p = 4; · simp [c4]
  by_cases c5 : p = 5; · simp [c5]
  by_cases c6 : p = 6; · simp [c6]
  by_cases c7 : p = 7; · simp [c7]
  by_cases c8 : p = 8; · simp [c8]
  by_cases c9 : p = 9; · simp [c9]
  by_cases c10 : p = 10; · simp [c10]
  rw [if_neg c0, if_neg c1, if_neg c2, if_neg c3, if_neg c4, if_neg c5, if_neg c6, if_neg c7, if_neg c8, if_neg c9, if_neg c10] at h'
  cases h'
theorem len1 {α : Type} {l : List α} (h : l.length = 1) : ∃ a, l = [a] := by
  match l, h with | [a], _ => exact ⟨a, rfl⟩
theorem len2 {α : Type} {l : List α} (h : l.length = 2) : ∃ a b, l = [a, b] := by
  match l, h with | [a, b], _ => exact ⟨a, b, rfl⟩
theorem len3 {α : Type} {l : List α} (h : l.length = 3) : ∃ a b c, l = [a, b, c] := by
  match l, h with | [a, b, c], _ => exact ⟨a, b, c, rfl⟩
theorem len4 {α : Type} {l : List α} (h : l.length = 4) : ∃ a b c d, l = [a, b, c, d] := by
  match l, h with | [a, b, c, d], _ => exact ⟨a, b, c, d, rfl⟩
theorem len0 {α : Type} {l : List α} (h : l.length = 0) : l = [] := List.length_eq_zero_iff.mp h
theorem in_of {lo hi z : Int} (h : PyInside.within lo hi z = true) : lo ≤ z ∧ z ≤ hi := by
  simpa [PyInside.within] using h
/-- the first call of a list as the document has it -/
theorem first {p : Int} {r : List Int} {c : List (List Int)} {t : List Int} (h : PyFlat.call sh (p :: r) = some (c, t)) (hb : PyInside.call PySi23.bound c = true) :
    ∃ q, Cl (p :: r) q t ∧ Si23Neutral.callOf (PySi23.whole c) = some q := by
  obtain ⟨n', k', _, hp, _⟩ := call_of h
  rcases sh_cases hp with rfl | rfl | rfl | rfl | rfl | rfl | rfl | rfl | rfl | rfl | rfl
  · obtain ⟨xs, h1, rfl, rfl⟩ := call0 (n := 1) rfl h
    obtain ⟨a, rfl⟩ := len1 h1
    have b := in_of (show PyInside.within 0 4294967295 a = true by simpa [PyInside.call, PySi23.bound, PyInside.each, PyInside.lists] using hb)
    exact ⟨_, .begins b.1 b.2, rfl⟩
  · obtain ⟨xs, h1, rfl, rfl⟩ := call0 (n := 0) rfl h
    obtain rfl := len0 h1
    exact ⟨_, .opens, rfl⟩
  · obtain ⟨xs, h1, rfl, rfl⟩ := call0 (n := 1) rfl h
    obtain ⟨a, rfl⟩ := len1 h1
    exact ⟨_, .close, rfl⟩
  · obtain ⟨xs, h1, rfl, rfl⟩ := call0 (n := 3) rfl h
    obtain ⟨a, b, d, rfl⟩ := len3 h1
    have w : PyInside.within (-2147483648) 2147483647 a = true ∧ PyInside.within 0 9223372036854775807 b = true ∧ PyInside.within 0 9223372036854775807 d = true := by simpa [PyInside.call, PySi23.bound, PyInside.each, PyInside.lists] using hb
    exact ⟨_, .bind (in_of w.2.1).1 (in_of w.2.2).1, rfl⟩
  · obtain ⟨xs, h1, rfl, rfl⟩ := call0 (n := 4) rfl h
    obtain ⟨a, b, d, e, rfl⟩ := len4 h1
    have w : PyInside.within (-2147483648) 2147483647 a = true ∧ PyInside.within 0 9223372036854775807 b = true ∧ PyInside.within 0 9223372036854775807 d = true ∧ PyInside.within 0 9223372036854775807 e = true := by simpa [PyInside.call, PySi23.bound, PyInside.each, PyInside.lists] using hb
    exact ⟨_, .connect (in_of w.2.1).1 (in_of w.2.2.1).1 (in_of w.2.2.2).1, rfl⟩
  · obtain ⟨xs, h1, rfl, rfl⟩ := call0 (n := 2) rfl h
    obtain ⟨a, b, rfl⟩ := len2 h1
    exact ⟨_, .hear, rfl⟩
  · obtain ⟨xs, y, h1, rfl, rfl⟩ := call1 (n := 4) rfl h
    obtain ⟨a, b, d, e, rfl⟩ := len4 h1
    have w : (PyInside.within (-2147483648) 2147483647 a = true ∧ PyInside.within 0 9223372036854775807 b = true ∧ PyInside.within 0 9223372036854775807 d = true ∧ PyInside.within 0 9223372036854775807 e = true) ∧ y.length ≤ 15800 ∧ (∀ x ∈ y, PyInside.within 0 255 x = true) := by simpa [PyInside.call, PySi23.bound, PyInside.each, PyInside.lists] using hb
    exact ⟨_, .send (in_of w.1.2.1).1 (in_of w.1.2.2.1).1 (in_of w.1.2.2.2).1 ⟨w.2.1, fun z hz => in_of (w.2.2 z hz)⟩, rfl⟩
  · obtain ⟨xs, y, h1, rfl, rfl⟩ := call1 (n := 2) rfl h
    obtain ⟨a, b, rfl⟩ := len2 h1
    have w : (PyInside.within 0 9223372036854775807 a = true ∧ PyInside.within 0 9223372036854775807 b = true) ∧ y.length ≤ 15800 ∧ (∀ x ∈ y, PyInside.within 0 255 x = true) := by simpa [PyInside.call, PySi23.bound, PyInside.each, PyInside.lists] using hb
    exact ⟨_, .came (in_of w.1.1).1 (in_of w.1.2).1 ⟨w.2.1, fun z hz => in_of (w.2.2 z hz)⟩, rfl⟩
  · obtain ⟨xs, y, h1, rfl, rfl⟩ := call1 (n := 2) rfl h
    obtain ⟨a, b, rfl⟩ := len2 h1
    have w : (PyInside.within 0 9223372036854775807 a = true ∧ PyInside.within 0 9223372036854775807 b = true) ∧ y.length ≤ 15800 ∧ (∀ x ∈ y, PyInside.within 0 255 x = true) := by simpa [PyInside.call, PySi23.bound, PyInside.each, PyInside.lists] using hb
    exact ⟨_, .problem (in_of w.1.1).1 (in_of w.1.2).1 ⟨w.2.1, fun z hz => in_of (w.2.2 z hz)⟩, rfl⟩
  · obtain ⟨xs, h1, rfl, rfl⟩ := call0 (n := 2) rfl h
    obtain ⟨a, b, rfl⟩ := len2 h1
    have w : PyInside.within (-2147483648) 2147483647 a = true ∧ PyInside.within 0 9223372036854775807 b = true := by simpa [PyInside.call, PySi23.bound, PyInside.each, PyInside.lists] using hb
    exact ⟨_, .take (in_of w.2).1, rfl⟩
  · obtain ⟨xs, h1, rfl, rfl⟩ := call0 (n := 1) rfl h
    obtain ⟨a, rfl⟩ := len1 h1
    exact ⟨_, .told, rfl⟩
/-- one call of the list: what is answered, and the rest -/
theorem Wf.step {l : List Int} (h : Wf l) (hn : l ≠ []) : ∃ q t, Cl l q t ∧ Wf t ∧ t.length < l.length ∧ ∀ s, afrom s l = ((listOf (Si23.step s q).2).length : Int) :: (listOf (Si23.step s q).2 ++ afrom (Si23.step s q).1 t) := by
  obtain ⟨raw, h1, h2⟩ := h
  cases l with
  | nil => exact absurd rfl hn
  | cons p r =>
    have h3 := h1
    rw [callsOf_cons] at h3
    cases e : PyFlat.call sh (p :: r) with
    | none => rw [e] at h3; cases h3
    | some q =>
      obtain ⟨c, t⟩ := q
      rw [e] at h3
      simp only at h3
      cases e2 : callsOf t with
      | none => rw [e2] at h3; cases h3
      | some cs =>
        rw [e2] at h3
        cases h3
        have hb : PyInside.call PySi23.bound c = true ∧ PyInside.calls PySi23.bound cs = true := by simpa [PyInside.calls] using h2
        obtain ⟨q, hq, hc⟩ := first e hb.1
        have hl := call_len e
        refine ⟨q, t, hq, ⟨cs, e2, hb.2⟩, by rw [List.length_cons]; omega, fun s => ?_⟩
        unfold afrom
        rw [h1, e2]
        simp only [List.map_cons, PyFlat.played, PyFlat.told, List.flatMap_cons, Si23Neutral.step, hc]
        rfl
end Sm



set_option Elab.async false
set_option linter.all false
namespace Sm
open Si23
theorem total_two (a b : UInt8) (r : Bytes) : total (a :: b :: r) = 256 * a.toNat + b.toNat + total r := rfl
theorem total_nil : total [] = 0 := rfl
theorem total_app : ∀ (a b : Bytes), a.length % 2 = 0 → total (a ++ b) = total a + total b
  | [], b, _ => by simp [total_nil]
  | [x], b, h => by simp at h
  | x :: y :: r, b, h => by
    have h' : r.length % 2 = 0 := by simp at h; omega
    show total (x :: y :: (r ++ b)) = total (x :: y :: r) + total b
    rw [total_two, total_two, total_app r b h']
    omega
theorem u8 (n : Nat) : (UInt8.ofNat (n % 256)).toNat = n % 256 := by
  simp [UInt8.toNat_ofNat]
theorem be2 (x : Nat) : be 2 x = [UInt8.ofNat (x / 256 % 256), UInt8.ofNat (x % 256)] := by
  simp [be]
theorem be4 (x : Nat) : be 4 x = [UInt8.ofNat (x / 16777216 % 256), UInt8.ofNat (x / 65536 % 256), UInt8.ofNat (x / 256 % 256), UInt8.ofNat (x % 256)] := by
  simp [be]
theorem total_be2 {x : Nat} (h : x < 65536) : total (be 2 x) = x := by
  rw [be2, total_two, total_nil, u8, u8]; omega
theorem total_be4 {x : Nat} (h : x < 4294967296) : total (be 4 x) = x / 65536 + x % 65536 := by
  rw [be4, total_two, total_two, total_nil, u8, u8, u8, u8]; omega
/-- the sum's own number -/
def tsum (f t n : Nat) (b : Bytes) : Nat := f / 65536 + f % 65536 + (t / 65536 + t % 65536) + 2 + n + total b
theorem total_all {f t : Nat} {b : Bytes} (hf : f < 4294967296) (ht : t < 4294967296) (hb : b.length < 65536) : total (be 4 f ++ (be 4 t ++ (be 2 2 ++ (be 2 b.length ++ b)))) = tsum f t b.length b := by
  have l4 : ∀ x, (be 4 x).length % 2 = 0 := fun x => by rw [be4]; simp
  have l2 : ∀ x, (be 2 x).length % 2 = 0 := fun x => by rw [be2]; simp
  rw [total_app _ _ (l4 f), total_app _ _ (l4 t), total_app _ _ (l2 2), total_app _ _ (l2 _), total_be4 hf, total_be4 ht, total_be2 (by decide), total_be2 hb]
  unfold tsum; omega
theorem folded_eq {n : Nat} (h : 0 < n) : folded n = 65535 ↔ n % 65535 = 0 := by
  unfold folded
  rw [if_neg (by omega)]
  omega
theorem sum_field {n : Nat} (h : 0 < n) : (if 65535 - folded n = 0 then 65535 else 65535 - folded n) = 65535 - n % 65535 := by
  have e : folded n = (n - 1) % 65535 + 1 := by unfold folded; rw [if_neg (show ¬ n = 0 by omega)]
  rw [e]
  have h1 : (n - 1) % 65535 < 65535 := Nat.mod_lt _ (by decide)
  have h2 : n % 65535 < 65535 := Nat.mod_lt _ (by decide)
  by_cases c : n % 65535 = 0
  · have : (n - 1) % 65535 = 65534 := by omega
    rw [this, c]; rfl
  · have : (n - 1) % 65535 + 1 = n % 65535 := by omega
    rw [this, if_neg (by omega)]
/-- the bytes of a list of whole numbers -/
theorem bytes_len (l : List Int) : (Si23Neutral.bytesOf l).length = l.length := by simp [Si23Neutral.bytesOf]
theorem byte_of {z : Int} (h0 : 0 ≤ z) (h1 : z ≤ 255) : ((UInt8.ofNat z.toNat).toNat : Int) = z := by
  have : z.toNat % 256 = z.toNat := Nat.mod_eq_of_lt (by omega)
  rw [← this, u8]; omega
theorem ofBytes_bytesOf : ∀ {l : List Int}, (∀ z ∈ l, 0 ≤ z ∧ z ≤ 255) → Si23Neutral.ofBytes (Si23Neutral.bytesOf l) = l
  | [], _ => rfl
  | z :: r, h => by
    have hz := h z (List.mem_cons_self ..)
    show ((UInt8.ofNat z.toNat).toNat : Int) :: Si23Neutral.ofBytes (Si23Neutral.bytesOf r) = z :: r
    rw [byte_of hz.1 hz.2, ofBytes_bytesOf fun y hy => h y (List.mem_cons_of_mem _ hy)]
end Sm



set_option Elab.async false
set_option linter.all false
namespace Sm
open Si23
theorem foldl_max_ge : ∀ (l : List Nat) (a : Nat), a ≤ l.foldl max a ∧ ∀ x ∈ l, x ≤ l.foldl max a
  | [], a => ⟨Nat.le_refl _, fun x h => by cases h⟩
  | b :: l, a => by
    obtain ⟨h1, h2⟩ := foldl_max_ge l (max a b)
    refine ⟨Nat.le_trans (Nat.le_max_left a b) h1, fun x hx => ?_⟩
    rcases List.mem_cons.mp hx with rfl | hx
    · exact Nat.le_trans (Nat.le_max_right a _) h1
    · exact h2 x hx
theorem foldl_max_le : ∀ (l : List Nat) (a m : Nat), a ≤ m → (∀ x ∈ l, x ≤ m) → l.foldl max a ≤ m
  | [], a, m, h, _ => h
  | b :: l, a, m, h, hl => foldl_max_le l (max a b) m (Nat.max_le.mpr ⟨h, hl b (List.mem_cons_self ..)⟩) fun x hx => hl x (List.mem_cons_of_mem _ hx)
/-- how well the socket j fits -/
def score (s : St) (f t sp dp j : Nat) : Nat := match s.socks[j]? with
  | some (some x) => x.fits f t sp dp
  | _ => 0
def scores (s : St) (f t sp dp : Nat) : List Nat := s.socks.map fun y => match y with
  | some x => x.fits f t sp dp
  | none => 0
theorem scores_at {s : St} {f t sp dp j : Nat} (h : j < s.socks.length) : (scores s f t sp dp)[j]? = some (score s f t sp dp j) := by
  unfold scores score
  rw [List.getElem?_map, List.getElem?_eq_getElem h]
  cases s.socks[j] <;> rfl
theorem mem_scores {s : St} {f t sp dp x : Nat} (h : x ∈ scores s f t sp dp) : ∃ j, j < s.socks.length ∧ score s f t sp dp j = x := by
  obtain ⟨j, hj⟩ := List.mem_iff_getElem?.mp h
  have hl := (List.getElem?_eq_some_iff.mp hj).1
  have hl' : j < s.socks.length := by unfold scores at hl; rw [List.length_map] at hl; exact hl
  rw [scores_at hl'] at hj
  exact ⟨j, hl', Option.some.inj hj⟩
theorem best_eq (s : St) (f t sp dp : Nat) : s.best f t sp dp = if (scores s f t sp dp).foldl max 0 = 0 then none else (scores s f t sp dp).findIdx? fun n => n == (scores s f t sp dp).foldl max 0 := rfl
theorem best_none {s : St} {f t sp dp : Nat} (h : ∀ j, j < s.socks.length → score s f t sp dp j = 0) : s.best f t sp dp = none := by
  rw [best_eq, if_pos]
  have := foldl_max_le (scores s f t sp dp) 0 0 (Nat.le_refl _) (fun x hx => by obtain ⟨j, hj, e⟩ := mem_scores hx; rw [← e, h j hj]; exact Nat.le_refl _)
  omega
theorem best_some {s : St} {f t sp dp k : Nat} (hk : k < s.socks.length) (h0 : 0 < score s f t sp dp k) (hle : ∀ j, j < s.socks.length → score s f t sp dp j ≤ score s f t sp dp k) (hlt : ∀ j, j < k → score s f t sp dp j < score s f t sp dp k) : s.best f t sp dp = some k := by
  have hm : (scores s f t sp dp).foldl max 0 = score s f t sp dp k := by
    refine Nat.le_antisymm (foldl_max_le _ _ _ (Nat.zero_le _) fun x hx => ?_) ((foldl_max_ge _ 0).2 _ (List.mem_of_getElem? (scores_at hk)))
    obtain ⟨j, hj, e⟩ := mem_scores hx
    rw [← e]; exact hle j hj
  rw [best_eq, hm, if_neg (by omega), List.findIdx?_eq_some_iff_getElem]
  have hl : (scores s f t sp dp).length = s.socks.length := by unfold scores; rw [List.length_map]
  have at_ : ∀ j (h : j < (scores s f t sp dp).length), (scores s f t sp dp)[j] = score s f t sp dp j := fun j h => by
    have := scores_at (s := s) (f := f) (t := t) (sp := sp) (dp := dp) (j := j) (by omega)
    rw [List.getElem?_eq_getElem h] at this
    exact Option.some.inj this
  refine ⟨by omega, by rw [at_]; simp, fun j hj => ?_⟩
  rw [at_]
  have := hlt j hj
  simp; omega
theorem asked_wf {l : List Int} (h : PySi23.answers_asked l = true) : Wf l ∧ l ≠ [] ∧ (PySi23.answers l).length ≤ 10000000 := by
  unfold PySi23.answers_asked at h
  cases e : PyFlat.calls PySi23.shape l.length l with
  | none => rw [e] at h; cases h
  | some raw =>
    rw [e] at h
    simp only [Bool.and_eq_true] at h
    obtain ⟨⟨⟨⟨h1, h2⟩, h3⟩, h4⟩, h5⟩ := h
    refine ⟨⟨raw, e, h3⟩, ?_, by simpa [PyFlat.short] using h5⟩
    rintro rfl
    have : callsOf [] = some raw := e
    rw [callsOf_nil] at this
    cases this
    simp at h1
end Sm



set_option Elab.async false
set_option linter.all false
set_option maxRecDepth 100000
namespace Sm
open PySem PySem.Spec PyProof.Rows L2
open Si23 (total number be summed folded built head)
theorem same_new {H : Hp} {p : Addr} {o : HO} (h : H p = none) : Same H (upd H p o) := fun b u e => by rw [upd_ne (ne_of_none e h)]; exact e
theorem byt_of (b : Si23.Bytes) : byt b = (Si23Neutral.ofBytes b).map V.int := by simp [byt, Si23Neutral.ofBytes]
theorem byt_len (b : Si23.Bytes) : (byt b).length = b.length := by simp [byt]
theorem byt_app (a b : Si23.Bytes) : byt (a ++ b) = byt a ++ byt b := by simp [byt]
theorem byt_take (b : Si23.Bytes) (n : Nat) : (byt b).take n = byt (b.take n) := by simp [byt]
theorem byt_drop (b : Si23.Bytes) (n : Nat) : (byt b).drop n = byt (b.drop n) := by simp [byt]
theorem byt_get (b : Si23.Bytes) (i : Nat) : (byt b)[i]? = (b[i]?).map fun c => V.int c.toNat := by simp [byt]
theorem be_len : ∀ (k x : Nat), (be k x).length = k
  | 0, _ => rfl
  | k + 1, x => by show (be k x).length + 1 = k + 1; rw [be_len k x]
theorem be_get : ∀ (k x i : Nat), i < k → (be k x)[i]? = some (UInt8.ofNat (x / 256 ^ (k - 1 - i) % 256))
  | 0, _, _, h => absurd h (Nat.not_lt_zero _)
  | k + 1, x, 0, _ => rfl
  | k + 1, x, i + 1, h => by
    show (be k x)[i]? = _
    rw [be_get k x i (by omega)]
    congr 4
    have : k - 1 - i = k + 1 - 1 - (i + 1) := by omega
    rw [this]
theorem number_snoc (l : Si23.Bytes) (c : UInt8) : number (l ++ [c]) = 256 * number l + c.toNat := by simp [number, List.foldl_append]
theorem every2_cons {α : Type} (c : α) : ∀ l : List α, every2 (c :: l) = c :: every2 (l.drop 1)
  | [] => rfl
  | _ :: _ => rfl
theorem every2_map {α β : Type} (f : α → β) : ∀ l : List α, every2 (l.map f) = (every2 l).map f
  | a :: b :: r => by simp only [List.map_cons, every2, every2_map f r]
  | [_] => rfl
  | [] => rfl
theorem total_sums : ∀ b : Si23.Bytes, (total b : Int) = (every2 (Si23Neutral.ofBytes b)).sum * 256 + (every2 ((Si23Neutral.ofBytes b).drop 1)).sum
  | a :: c :: r => by
    have h := total_sums r
    have e1 : Si23Neutral.ofBytes (a :: c :: r) = (a.toNat : Int) :: (c.toNat : Int) :: Si23Neutral.ofBytes r := rfl
    rw [e1, total_two]
    have e2 : ((a.toNat : Int) :: (c.toNat : Int) :: Si23Neutral.ofBytes r).drop 1 = (c.toNat : Int) :: Si23Neutral.ofBytes r := rfl
    rw [e2, every2_cons, every2_cons, List.sum_cons, List.sum_cons]
    have e3 : ((c.toNat : Int) :: Si23Neutral.ofBytes r).drop 1 = Si23Neutral.ofBytes r := rfl
    rw [e3]
    omega
  | [a] => by
    show ((256 * a.toNat : Nat) : Int) = ([(a.toNat : Int)]).sum * 256 + (every2 ([] : List Int)).sum
    simp [every2]; omega
  | [] => by simp [total_nil, Si23Neutral.ofBytes, every2]
/-- the total of all that the sum is of -/
def wt (f t : Nat) (b : Si23.Bytes) : Nat := total (be 4 f ++ (be 4 t ++ (be 2 2 ++ (be 2 b.length ++ b))))
theorem wt_eq (f t : Nat) (b : Si23.Bytes) : wt f t b = total ((be 4 f ++ be 4 t) ++ be 2 2 ++ be 2 b.length) + total b := by
  unfold wt
  rw [← total_app _ _ (by simp only [List.length_append, be_len])]
  simp only [List.append_assoc]
theorem wt_pos (f t : Nat) (b : Si23.Bytes) : 0 < wt f t b := by
  unfold wt
  rw [total_app _ _ (by simp only [be_len]), total_app _ _ (by simp only [be_len]), total_app (be 2 2) _ (by simp only [be_len]), total_be2 (by decide)]
  omega
theorem summed_wt (f t : Nat) (b : Si23.Bytes) : summed f t b = 65535 ↔ wt f t b % 65535 = 0 := folded_eq (wt_pos f t b)
theorem built_wt (f t sp dp : Nat) (body : Si23.Bytes) : built f t sp dp body = (((be 2 sp ++ be 2 dp) ++ be 2 (8 + body.length)) ++ be 2 (65535 - wt f t (((be 2 sp ++ be 2 dp) ++ be 2 (8 + body.length)) ++ be 2 0 ++ body) % 65535)) ++ body := by
  have e : head sp dp (8 + body.length) 0 ++ body = ((be 2 sp ++ be 2 dp) ++ be 2 (8 + body.length)) ++ be 2 0 ++ body := by simp only [head, List.append_assoc]
  unfold built
  simp only
  rw [e]
  have s := sum_field (wt_pos f t (((be 2 sp ++ be 2 dp) ++ be 2 (8 + body.length)) ++ be 2 0 ++ body))
  unfold summed
  show head sp dp (8 + body.length) (if 65535 - folded (wt f t _) = 0 then 65535 else 65535 - folded (wt f t _)) ++ body = _
  rw [s]
  simp only [head, List.append_assoc]
def spNumAt : Sp := fun vs H Q _ => ∃ (r : Addr) (b : Si23.Bytes) (i n : Nat), vs = [.ref r, .int i, .int n] ∧ H r = some (.lst (byt b)) ∧ ∀ H', Same H H' → Q (.int ((number ((b.drop i).take n) : Nat) : Int)) H'
def spWBytes : Sp := fun vs H Q _ => ∃ (x n : Nat), vs = [.int x, .int n] ∧ n ≤ 100 ∧ ∀ H' p, Same H H' → H p = none → H' p = some (.lst (byt (be n x))) → Q (.ref p) H'
def spTwo : Sp := fun vs H Q _ => ∃ (r : Addr) (b : Si23.Bytes), vs = [.ref r] ∧ H r = some (.lst (byt b)) ∧ ∀ H', Same H H' → Q (.int ((total b : Nat) : Int)) H'
def spWhole : Sp := fun vs H Q _ => ∃ (f t : Nat) (r : Addr) (b : Si23.Bytes), vs = [.int f, .int t, .ref r] ∧ H r = some (.lst (byt b)) ∧ ∀ H', Same H H' → Q (.int ((wt f t b : Nat) : Int)) H'
def spDatagram (K : PySem.W.Frag) : Sp := fun vs H Q _ => ∃ (fp tp r : Addr) (f sp t dp : Nat) (b : Si23.Bytes), vs = [.ref fp, .ref tp, .ref r] ∧ SqT K H fp [.int f, .int sp] ∧ SqT K H tp [.int t, .int dp] ∧ H r = some (.lst (byt b)) ∧ b.length ≤ 100000 ∧
  ∀ H' p, Same H H' → H p = none → H' p = some (.lst (byt (built f t sp dp b))) → Q (.ref p) H'
def spIsDg : Sp := fun vs H Q _ => ∃ (f t : Nat) (r : Addr) (b : Si23.Bytes), vs = [.int f, .int t, .ref r] ∧ H r = some (.lst (byt b)) ∧ ∀ H', Same H H' → Q (.bl (Si23.read f t b).isSome) H'
/-- a number at a fixed place -/
def spNum (i n : Nat) : Sp := fun vs H Q _ => ∃ (r : Addr) (b : Si23.Bytes), vs = [.ref r] ∧ H r = some (.lst (byt b)) ∧ ∀ H', Same H H' → Q (.int ((number ((b.drop i).take n) : Nat) : Int)) H'
def spBody : Sp := fun vs H Q _ => ∃ (r : Addr) (b : Si23.Bytes), vs = [.ref r] ∧ H r = some (.lst (byt b)) ∧ ∀ H' p, Same H H' → H p = none → H' p = some (.lst (byt ((b.take (number ((b.drop 4).take 2))).drop 8))) → Q (.ref p) H'
def spIsPk : Sp := fun vs H Q _ => ∃ (r : Addr) (b : Si23.Bytes), vs = [.ref r] ∧ H r = some (.lst (byt b)) ∧ Q (.bl (decide (¬ (b.length < 24 ∨ b[0]? ≠ some 0x51 ∨ b[2]? ≠ some 2)))) H
def spPk (i j : Nat) : Sp := fun vs H Q _ => ∃ (r : Addr) (b : Si23.Bytes), vs = [.ref r] ∧ H r = some (.lst (byt b)) ∧
  ∀ H' p, Same H H' → H p = none → H' p = some (.tup [.int ((number ((b.drop i).take 4) : Nat) : Int), .int ((number ((b.drop j).take 2) : Nat) : Int)]) → Q (.ref p) H'
section
variable {P : Program} {w : World} {K : PySem.W.Frag} {mg : Str → Option Value} {base : Heap} {A : Ad}
theorem okT_number_at (T : Tx K mg A) : FnOk P w K mg base CX0 1 A.f_number_at A.d_number_at ["row", "at", "size"] spNumAt := by
  refine T.F_number_at.ok sc_number_at (fun vs H Q E h => ?_) (fun cdv A' outer s H vs Q E hr h => ?_)
  · obtain ⟨r, b, i, n, rfl, _⟩ := h
    rfl
  · obtain ⟨r, b, i, n, rfl, hr', q⟩ := h
    refine ⟨_, (pss_cons (ps_set (i := 3) sc_number_at.nd rfl (Or.inl rfl) pe_int)
      (pss_cons (ps_for PassesOwn.never rfl (pi_list (pe_slice sl_list (pv 0) (po_some (pv 1)) (po_some (pe_op op_add (pv 1) (pv 2))))) (pg_name (i := 4) sc_number_at.nd rfl (Or.inl rfl))
        (pss_one (ps_set (i := 3) sc_number_at.nd rfl (Or.inl rfl) (pe_op op_add (pe_op op_mul (pv 3) pe_int) (pv 4)))))
      (pss_one (ps_ret (pv 3))))), ?_⟩
    refine ⟨_, rfl, _, rfl, _, rfl, _, rfl, _, rfl, _, _, rfl, rfl, _, rfl, r, _, rfl, SqL.of hr', fun p hp => ⟨p, rfl, ⟨_, SqL.of upd_same⟩, ?_⟩⟩
    have e1 : cutV (byt b) (some (i : Int)) (some ((i : Int) + (n : Int))) = byt ((b.drop i).take n) := by rw [cut_nat, byt_drop, byt_take]
    rw [e1]
    generalize hbs : (b.drop i).take n = bs at *
    obtain ⟨Pv, hPv⟩ : ∃ Pv : Nat → L2.St → Hp → Prop, ∀ j σ H', Pv j σ H' ↔ ∃ v4, σ = [some (.ref r), some (.int i), some (.int n), some (.int ((number (bs.take j) : Nat) : Int)), v4] ∧ H' = upd H p (.lst (byt bs)) := ⟨_, fun _ _ _ => Iff.rfl⟩
    refine for_list (xs := byt bs) Pv ?_ ?_ ?_ ?_
    · exact (hPv _ _ _).mpr ⟨_, rfl, rfl⟩
    · intro j σ H' hj h
      obtain ⟨v4, rfl, rfl⟩ := (hPv _ _ _).mp h
      exact SqL.of upd_same
    · intro j x σ H' hj h
      obtain ⟨v4, rfl, rfl⟩ := (hPv _ _ _).mp h
      rw [byt_get] at hj
      obtain ⟨c, hc, rfl⟩ := Option.map_eq_some_iff.mp hj
      refine ⟨_, rfl, _, _, rfl, rfl, .inr ⟨by decide, by decide⟩, _, rfl, _, _, rfl, rfl, (hPv _ _ _).mpr ⟨some (V.int c.toNat), ?_, rfl⟩⟩
      have e2 : ((number (bs.take j) : Nat) : Int) * 256 + (c.toNat : Int) = ((number (bs.take (j + 1)) : Nat) : Int) := by
        rw [List.take_succ, hc]
        show _ = ((number (bs.take j ++ [c]) : Nat) : Int)
        rw [number_snoc]; omega
      show [some (V.ref r), some (V.int i), some (V.int n), some (V.int (((number (bs.take j) : Nat) : Int) * 256 + (c.toNat : Int))), some (V.int c.toNat)] = _
      rw [e2]
    · intro σ H' h
      obtain ⟨v4, rfl, rfl⟩ := (hPv _ _ _).mp h
      rw [byt_len, List.take_length]
      exact ⟨_, rfl, q _ (same_new hp)⟩
def retScope (s : Stmt) : Scope := match s with
  | .Return (some (.ListComp _ _ sc _)) _ => sc
  | _ => { kind := .function, names := [], isGenerator := false, isCoroutine := false }
theorem blk_written_bytes : BlkOk ["number", "size", "place"] (defScope s_written_bytes) (retScope ((defBody s_written_bytes).getD 0 (.Pass ⟨0, 0, 0, 0⟩))) [("place", 2)] := ⟨rfl, by decide +kernel, by decide +kernel, by decide +kernel, by decide +kernel⟩
theorem okT_written_bytes (T : Tx K mg A) : FnOk P w K mg base CX0 1 A.f_written_bytes A.d_written_bytes ["number", "size"] spWBytes := by
  refine T.F_written_bytes.ok sc_written_bytes (fun vs H Q E h => ?_) (fun cdv A' outer s H vs Q E hr h => ?_)
  · obtain ⟨x, n, rfl, _⟩ := h
    rfl
  · obtain ⟨x, n, rfl, hn, q⟩ := h
    refine ⟨_, pss_one (ps_ret (pe_lc (own := [("place", 2)]) (g := gName 2) (tt := tYes) (te := tOp (rI0 fun i j => .int (Builtin.bitAnd i j)) (tOp (rI (fun _ j => 0 ≤ j) fun i j => .int (i / 2 ^ j.toNat)) (tVar 0) (tOp (rI CMul fun i j => .int (i * j)) (tC (.int 8)) (tVar 2))) (tC (.int 255))) rfl sc_written_bytes.nd
      (pi_range3 rfl T.z_range (pa_cons (pe_op op_sub (pv 1) pe_int) (pa_cons (pe_un un_neg pe_int) (pa_cons (pe_un un_neg pe_int) pa_nil)))) blk_written_bytes (fun s H C cl fp => pg_name (i := 2) sc_written_bytes.nd rfl (Or.inl rfl)) (fun s H C cl fp => pts_nil)
      (fun s H C cl fp => pe_op op_and (pe_op op_shr (pv 0) (pe_op op_mul pe_int (pv 2))) pe_int))), ?_⟩
    refine ⟨_, rfl, _, _, rfl, rfl, _, rfl, _, rfl, (n : Int) - 1, -1, -1, n, rfl, ?_, fun D hD => ?_⟩
    · have := RgC.neg (i := (n : Int) - 1) (j := -1) (by omega) (by omega) (by decide) (by decide)
      have e : ((n : Int) - 1 - -1).toNat = n := by omega
      rw [e] at this; exact this
    obtain ⟨Pv, hPv⟩ : ∃ Pv : Nat → Hp → Prop, ∀ i H', Pv i H' ↔ H' = upd H D (.lst ((byt (be n x)).take i)) := ⟨_, fun _ _ => Iff.rfl⟩
    refine lc_rangeC Pv ?_ ?_ ?_
    · exact (hPv _ _).mpr rfl
    · intro i H' hi h
      have h := (hPv _ _).mp h
      subst h
      have e1 : (byt (be n x))[i]? = some (V.int ((x / 256 ^ (n - 1 - i) % 256 : Nat) : Int)) := by
        rw [byt_get, be_get n x i hi]
        show some (V.int ((UInt8.ofNat (x / 256 ^ (n - 1 - i) % 256)).toNat : Int)) = _
        rw [u8]
      have e2 : Builtin.bitAnd ((x : Int) / 2 ^ ((8 : Int) * ((n : Int) - 1 + (i : Nat) * -1)).toNat) 255 = ((x / 256 ^ (n - 1 - i) % 256 : Nat) : Int) := by
        rw [bitAnd255]
        have e3 : ((8 : Int) * ((n : Int) - 1 + (i : Nat) * -1)).toNat = 8 * (n - 1 - i) := by omega
        rw [e3, Int.natCast_emod, Int.natCast_ediv, Int.natCast_pow, show ((256 : Nat) : Int) = (2 : Int) ^ 8 from rfl, ← Int.pow_mul]; rfl
      refine ⟨rfl, ?_⟩
      simp only [tYes, if_true]
      refine ⟨_, rfl, _, rfl, _, _, rfl, rfl, .inl ⟨by decide, by decide⟩, _, _, rfl, rfl, by show 0 ≤ (8 : Int) * ((n : Int) - 1 + (i : Nat) * -1); omega, _, _, rfl, rfl, _, upd_same, ?_, (hPv _ _).mpr ?_⟩
      · rw [List.length_take, byt_len, be_len]; exact Nat.lt_of_le_of_lt (Nat.le_trans (Nat.min_le_right _ _) hn) (by decide)
      · dsimp only
        rw [e2]
        funext c
        by_cases hc : c = D
        · subst hc; rw [upd_same, upd_same, List.take_succ, e1]; rfl
        · rw [upd_ne hc, upd_ne hc, upd_ne hc]
    · intro H' h
      have h := (hPv _ _).mp h
      subst h
      refine q _ D (same_new hD) hD ?_
      rw [upd_same, List.take_of_length_le (by rw [byt_len, be_len]; exact Nat.le_refl _)]
theorem okT_two_by_two (T : Tx K mg A) : FnOk P w K mg base CX0 1 A.f_two_by_two A.d_two_by_two ["row"] spTwo := by
  refine T.F_two_by_two.ok sc_two_by_two (fun vs H Q E h => ?_) (fun cdv A' outer s H vs Q E hr h => ?_)
  · obtain ⟨r, b, rfl, _⟩ := h
    rfl
  · obtain ⟨r, b, rfl, hb, q⟩ := h
    refine ⟨_, (pss_one (ps_ret (pe_op op_add (pe_op op_mul (pe_callB (cr_sum rfl) (by rfl) T.z_sum PyProof.Rows.boot_sum (pa_cons (pe_slice2 (pv 0) (po_some pe_int) po_none (po_some pe_int)) pa_nil)) pe_int) (pe_callB (cr_sum rfl) (by rfl) T.z_sum PyProof.Rows.boot_sum (pa_cons (pe_slice2 (pv 0) (po_some pe_int) po_none (po_some pe_int)) pa_nil))))), ?_⟩
    have ev : ∀ i : Nat, every2 ((byt b).drop i) = (every2 ((Si23Neutral.ofBytes b).drop i)).map V.int := fun i => by rw [byt_of, ← List.map_drop, every2_map]
    refine ⟨_, rfl, _, rfl, _, rfl, r, _, 0, rfl, SqL.of hb, rfl, rfl, rfl, fun p hp => ?_⟩
    rw [ev]
    refine ⟨p, _, rfl, SqL.of upd_same, _, _, rfl, rfl, .inr ⟨by decide, by decide⟩, ?_⟩
    refine ⟨_, rfl, _, rfl, _, rfl, r, _, 1, rfl, SqL.of (same_new hp _ _ hb), rfl, rfl, rfl, fun p2 hp2 => ?_⟩
    rw [ev]
    refine ⟨p2, _, rfl, SqL.of upd_same, _, _, rfl, rfl, ?_⟩
    rw [total_sums] at q
    exact q _ ((same_new hp).trans (same_new hp2))
theorem okT_whole_total (T : Tx K mg A) : FnOk P w K mg base CX0 2 A.f_whole_total A.d_whole_total ["from_address", "to_address", "row"] spWhole := by
  have G_two_by_two := okT_two_by_two (P := P) (w := w) (base := base) T
  have G_written_bytes := okT_written_bytes (P := P) (w := w) (base := base) T
  refine T.F_whole_total.ok sc_whole_total (fun vs H Q E h => ?_) (fun cdv A' outer s H vs Q E hr h => ?_)
  · obtain ⟨f, t, r, b, rfl, _⟩ := h
    rfl
  · obtain ⟨f, t, r, b, rfl, hb, q⟩ := h
    obtain ⟨t_CARRIED_AS, e_CARRIED_AS⟩ := T.i_CARRIED_AS
    refine ⟨_, (pss_cons (ps_set (i := 3) sc_whole_total.nd rfl (Or.inl rfl) (pe_op op_cat (pe_call G_written_bytes (hr.mono (by decide)) rfl T.mg_written_bytes T.F_written_bytes.kp T.b_written_bytes .nil pass0 (pa_cons (pv 0) (pa_cons pe_int pa_nil))) (pe_call G_written_bytes (hr.mono (by decide)) rfl T.mg_written_bytes T.F_written_bytes.kp T.b_written_bytes .nil pass0 (pa_cons (pv 1) (pa_cons pe_int pa_nil)))))
      (pss_cons (ps_set (i := 3) sc_whole_total.nd rfl (Or.inl rfl) (pe_op op_cat (pe_op op_cat (pv 3) (pe_call G_written_bytes (hr.mono (by decide)) rfl T.mg_written_bytes T.F_written_bytes.kp T.b_written_bytes .nil pass0 (pa_cons (pe_gi rfl e_CARRIED_AS) (pa_cons pe_int pa_nil)))) (pe_call G_written_bytes (hr.mono (by decide)) rfl T.mg_written_bytes T.F_written_bytes.kp T.b_written_bytes .nil pass0 (pa_cons (pe_callB call_len_seq (by rfl) T.z_len PySem.boot_len (pa_cons (pv 2) pa_nil)) (pa_cons pe_int pa_nil)))))
      (pss_one (ps_ret (pe_op op_add (pe_call G_two_by_two (hr.mono (by decide)) rfl T.mg_two_by_two T.F_two_by_two.kp T.b_two_by_two .nil pass0 (pa_cons (pv 3) pa_nil)) (pe_call G_two_by_two (hr.mono (by decide)) rfl T.mg_two_by_two T.F_two_by_two.kp T.b_two_by_two .nil pass0 (pa_cons (pv 2) pa_nil))))))), ?_⟩
    have lz : ∀ n : Nat, n ≤ 100 → n ≤ sizeLine := fun n h => Nat.le_trans h (by decide)
    refine ⟨_, rfl, f, 4, rfl, by decide, fun H1 p1 s1 n1 h1 => ⟨_, rfl, t, 4, rfl, by decide, fun H2 p2 s2 n2 h2 => ⟨p1, p2, _, _, rfl, rfl, s2 _ _ h1, h2, lz _ (by simp only [byt_len, be_len]; decide), fun p3 n3 => ?_⟩⟩⟩
    have h3 := upd_same (H := H2) (a := p3) (o := .lst (byt (be 4 f) ++ byt (be 4 t)))
    have s3 : Same H (upd H2 p3 (.lst (byt (be 4 f) ++ byt (be 4 t)))) := (s1.trans s2).trans (same_new n3)
    rw [← byt_app] at h3 s3 ⊢
    generalize upd H2 p3 (.lst (byt (be 4 f ++ be 4 t))) = H3 at *
    refine ⟨_, rfl, 2, 2, rfl, by decide, fun H4 p4 s4 n4 h4 => ⟨p3, p4, _, _, rfl, rfl, s4 _ _ h3, h4, lz _ (by simp only [byt_len, be_len, List.length_append]; decide), fun p5 n5 => ?_⟩⟩
    have h5 := upd_same (H := H4) (a := p5) (o := .lst (byt (be 4 f ++ be 4 t) ++ byt (be 2 2)))
    have s5 : Same H (upd H4 p5 (.lst (byt (be 4 f ++ be 4 t) ++ byt (be 2 2)))) := (s3.trans s4).trans (same_new n5)
    rw [← byt_app] at h5 s5 ⊢
    generalize upd H4 p5 (.lst (byt (be 4 f ++ be 4 t ++ be 2 2))) = H5 at *
    refine ⟨_, rfl, r, _, rfl, .inl (SqL.of (s5 _ _ hb)), b.length, 2, by rw [byt_len]; rfl, by decide, fun H6 p6 s6 n6 h6 => ⟨p5, p6, _, _, rfl, rfl, s6 _ _ h5, h6, lz _ (by simp only [byt_len, be_len, List.length_append]; decide), fun p7 n7 => ?_⟩⟩
    have h7 := upd_same (H := H6) (a := p7) (o := .lst (byt (be 4 f ++ be 4 t ++ be 2 2) ++ byt (be 2 b.length)))
    have s7 : Same H (upd H6 p7 (.lst (byt (be 4 f ++ be 4 t ++ be 2 2) ++ byt (be 2 b.length)))) := (s5.trans s6).trans (same_new n7)
    rw [← byt_app] at h7 s7 ⊢
    generalize upd H6 p7 (.lst (byt (be 4 f ++ be 4 t ++ be 2 2 ++ be 2 b.length))) = H7 at *
    refine ⟨_, rfl, p7, _, rfl, h7, fun H8 s8 => ⟨_, rfl, r, b, rfl, s8 _ _ (s7 _ _ hb), fun H9 s9 => ⟨_, _, rfl, rfl, ?_⟩⟩⟩
    have := q _ ((s7.trans s8).trans s9)
    rw [wt_eq] at this
    exact this
theorem okT_datagram (T : Tx K mg A) : FnOk P w K mg base CX0 3 A.f_datagram A.d_datagram ["from_place", "to_place", "body"] (spDatagram K) := by
  have G_whole_total := okT_whole_total (P := P) (w := w) (base := base) T
  have G_written_bytes := okT_written_bytes (P := P) (w := w) (base := base) T
  refine T.F_datagram.ok sc_datagram (fun vs H Q E h => ?_) (fun cdv A' outer s H vs Q E hr h => ?_)
  · obtain ⟨fp, tp, r, f, sp, t, dp, b, rfl, _⟩ := h
    rfl
  · obtain ⟨fp, tp, r, f, sp, t, dp, b, rfl, hfp, htp, hb, hl, q⟩ := h
    obtain ⟨t_HEADER, e_HEADER⟩ := T.i_HEADER
    obtain ⟨t_ROUND, e_ROUND⟩ := T.i_ROUND
    refine ⟨_, (pss_cons (ps_set (i := 3) sc_datagram.nd rfl (Or.inl rfl) (pe_op op_add (pe_gi rfl e_HEADER) (pe_callB call_len_seq (by rfl) T.z_len PySem.boot_len (pa_cons (pv 2) pa_nil))))
      (pss_cons (ps_set (i := 4) sc_datagram.nd rfl (Or.inl rfl) (pe_op op_cat (pe_op op_cat (pe_call G_written_bytes (hr.mono (by decide)) rfl T.mg_written_bytes T.F_written_bytes.kp T.b_written_bytes .nil pass0 (pa_cons (pe_ix ix_tup (pv 0) pe_int (fun _ _ => rfl)) (pa_cons pe_int pa_nil))) (pe_call G_written_bytes (hr.mono (by decide)) rfl T.mg_written_bytes T.F_written_bytes.kp T.b_written_bytes .nil pass0 (pa_cons (pe_ix ix_tup (pv 1) pe_int (fun _ _ => rfl)) (pa_cons pe_int pa_nil)))) (pe_call G_written_bytes (hr.mono (by decide)) rfl T.mg_written_bytes T.F_written_bytes.kp T.b_written_bytes .nil pass0 (pa_cons (pv 3) (pa_cons pe_int pa_nil)))))
      (pss_cons (ps_set (i := 5) sc_datagram.nd rfl (Or.inl rfl) (pe_call G_whole_total (hr.mono (by decide)) rfl T.mg_whole_total T.F_whole_total.kp T.b_whole_total .nil pass0 (pa_cons (pe_ix ix_tup (pv 0) pe_int (fun _ _ => rfl)) (pa_cons (pe_ix ix_tup (pv 1) pe_int (fun _ _ => rfl)) (pa_cons (pe_op op_cat (pe_op op_cat (pv 4) (pe_lst (pa_cons pe_int (pa_cons pe_int pa_nil)))) (pv 2)) pa_nil)))))
      (pss_one (ps_ret (pe_op op_cat (pe_op op_cat (pv 4) (pe_call G_written_bytes (hr.mono (by decide)) rfl T.mg_written_bytes T.F_written_bytes.kp T.b_written_bytes .nil pass0 (pa_cons (pe_op op_sub (pe_gi rfl e_ROUND) (pe_op op_mod (pv 5) (pe_gi rfl e_ROUND))) (pa_cons pe_int pa_nil)))) (pv 2))))))), ?_⟩
    have lz : ∀ n : Nat, n ≤ 200000 → n ≤ sizeLine := fun n h => Nat.le_trans h (by decide)
    have e8 : (8 : Int) + ((byt b).length : Int) = ((8 + b.length : Nat) : Int) := by rw [byt_len]; omega
    refine ⟨_, rfl, r, _, rfl, .inl (SqL.of hb), _, _, rfl, rfl, ?_⟩
    dsimp only
    rw [e8]
    -- ahead
    refine ⟨_, rfl, fp, _, _, _, rfl, rfl, hfp, atI_nat (j := 1) rfl, sp, 2, rfl, by decide, fun H1 p1 s1 n1 h1 => ⟨_, rfl, tp, _, _, _, rfl, rfl, Same.tup s1 htp, atI_nat (j := 1) rfl, dp, 2, rfl, by decide, fun H2 p2 s2 n2 h2 => ⟨p1, p2, _, _, rfl, rfl, s2 _ _ h1, h2, lz _ (by simp only [byt_len, be_len]; decide), fun p3 n3 => ?_⟩⟩⟩
    have h3 := upd_same (H := H2) (a := p3) (o := .lst (byt (be 2 sp) ++ byt (be 2 dp)))
    have s3 : Same H (upd H2 p3 (.lst (byt (be 2 sp) ++ byt (be 2 dp)))) := (s1.trans s2).trans (same_new n3)
    rw [← byt_app] at h3 s3 ⊢
    generalize upd H2 p3 (.lst (byt (be 2 sp ++ be 2 dp))) = H3 at *
    refine ⟨_, rfl, 8 + b.length, 2, rfl, by decide, fun H4 p4 s4 n4 h4 => ⟨p3, p4, _, _, rfl, rfl, s4 _ _ h3, h4, lz _ (by simp only [byt_len, be_len, List.length_append]; decide), fun p5 n5 => ?_⟩⟩
    have h5 := upd_same (H := H4) (a := p5) (o := .lst (byt (be 2 sp ++ be 2 dp) ++ byt (be 2 (8 + b.length))))
    have s5 : Same H (upd H4 p5 (.lst (byt (be 2 sp ++ be 2 dp) ++ byt (be 2 (8 + b.length))))) := (s3.trans s4).trans (same_new n5)
    rw [← byt_app] at h5 s5 ⊢
    generalize upd H4 p5 (.lst (byt (be 2 sp ++ be 2 dp ++ be 2 (8 + b.length)))) = H5 at *
    -- without
    refine ⟨_, rfl, fp, _, _, _, rfl, rfl, Same.tup s5 hfp, atI_nat (j := 0) rfl, _, rfl, tp, _, _, _, rfl, rfl, Same.tup s5 htp, atI_nat (j := 0) rfl, _, rfl, (by show 2 ≤ sizeLine; decide), fun p6 n6 => ?_⟩
    refine ⟨p5, p6, _, _, rfl, rfl, same_new n6 _ _ h5, upd_same, lz _ (by simp only [byt_len, be_len, List.length_append, List.length_cons, List.length_nil]; decide), fun p7 n7 => ?_⟩
    have e0 : byt (be 2 sp ++ be 2 dp ++ be 2 (8 + b.length)) ++ [V.int 0, V.int 0] = byt (be 2 sp ++ be 2 dp ++ be 2 (8 + b.length) ++ be 2 0) := by rw [byt_app _ (be 2 0)]; rfl
    have s7 : Same H5 (upd (upd H5 p6 (.lst [V.int 0, V.int 0])) p7 (.lst (byt (be 2 sp ++ be 2 dp ++ be 2 (8 + b.length)) ++ [V.int 0, V.int 0]))) := (same_new n6).trans (same_new n7)
    have h7 := upd_same (H := (upd H5 p6 (.lst [V.int 0, V.int 0]))) (a := p7) (o := .lst (byt (be 2 sp ++ be 2 dp ++ be 2 (8 + b.length)) ++ [V.int 0, V.int 0]))
    rw [e0] at h7 s7 ⊢
    generalize upd (upd H5 p6 (.lst [V.int 0, V.int 0])) p7 (.lst (byt (be 2 sp ++ be 2 dp ++ be 2 (8 + b.length) ++ be 2 0))) = H7 at *
    have s7' := s5.trans s7
    refine ⟨_, rfl, p7, r, _, _, rfl, rfl, h7, s7' _ _ hb, lz _ (by simp only [byt_len, be_len, List.length_append]; omega), fun p8 n8 => ?_⟩
    have h8 := upd_same (H := H7) (a := p8) (o := .lst (byt (be 2 sp ++ be 2 dp ++ be 2 (8 + b.length) ++ be 2 0) ++ byt b))
    have s8 : Same H (upd H7 p8 (.lst (byt (be 2 sp ++ be 2 dp ++ be 2 (8 + b.length) ++ be 2 0) ++ byt b))) := s7'.trans (same_new n8)
    have h58 := same_new n8 (o := .lst (byt (be 2 sp ++ be 2 dp ++ be 2 (8 + b.length) ++ be 2 0) ++ byt b)) _ _ (s7 _ _ h5)
    rw [← byt_app] at h8 s8 h58 ⊢
    generalize upd H7 p8 (.lst (byt (be 2 sp ++ be 2 dp ++ be 2 (8 + b.length) ++ be 2 0 ++ b))) = H8 at *
    refine ⟨f, t, p8, _, rfl, h8, fun H9 s9 => ?_⟩
    -- the whole
    refine ⟨_, rfl, _, rfl, _, _, rfl, rfl, (by show (0 : Int) < 65535; decide), _, _, rfl, rfl, 65535 - wt f t (be 2 sp ++ be 2 dp ++ be 2 (8 + b.length) ++ be 2 0 ++ b) % 65535, 2, ?_, by decide, fun H10 p10 s10 n10 h10 => ?_⟩
    · have hm : wt f t (be 2 sp ++ be 2 dp ++ be 2 (8 + b.length) ++ be 2 0 ++ b) % 65535 < 65535 := Nat.mod_lt _ (by decide)
      have e : (65535 : Int) - ((wt f t (be 2 sp ++ be 2 dp ++ be 2 (8 + b.length) ++ be 2 0 ++ b) : Nat) : Int) % 65535 = ((65535 - wt f t (be 2 sp ++ be 2 dp ++ be 2 (8 + b.length) ++ be 2 0 ++ b) % 65535 : Nat) : Int) := by omega
      rw [← e]; rfl
    refine ⟨p5, p10, _, _, rfl, rfl, s10 _ _ (s9 _ _ h58), h10, lz _ (by simp only [byt_len, be_len, List.length_append]; decide), fun p11 n11 => ?_⟩
    refine ⟨_, rfl, p11, r, _, _, rfl, rfl, upd_same, same_new n11 _ _ (s10 _ _ (s9 _ _ (s8 _ _ hb))), lz _ (by simp only [byt_len, be_len, List.length_append]; omega), fun p12 n12 => ?_⟩
    refine q _ p12 ((((s8.trans s9).trans s10).trans (same_new n11)).trans (same_new n12)) (Same.free ((((s8.trans s9).trans s10).trans (same_new n11))) n12) ?_
    rw [upd_same, built_wt]
    simp only [byt_app, List.append_assoc]
end
end Sm



set_option Elab.async false
set_option linter.all false
set_option maxRecDepth 100000
namespace Sm
open PySem PySem.Spec PyProof.Rows L2
open Si23 (total number be summed folded built head)
theorem take_in {α : Type} (b : List α) {n i k : Nat} (h : i + k ≤ n) : ((b.take n).drop i).take k = (b.drop i).take k := by
  rw [List.drop_take, List.take_take, Nat.min_eq_left (by omega)]
/-- how long it says it is -/
abbrev lenIn (b : Si23.Bytes) : Nat := number ((b.drop 4).take 2)
theorem read_some {f t : Nat} {b : Si23.Bytes} (h1 : 8 ≤ b.length) (h2 : 8 ≤ lenIn b) (h3 : lenIn b ≤ b.length) (h4 : number ((b.drop 6).take 2) ≠ 0) (h5 : wt f t (b.take (lenIn b)) % 65535 = 0) :
    Si23.read f t b = some (number ((b.drop 0).take 2), number ((b.drop 2).take 2), (b.take (lenIn b)).drop 8) := by
  unfold Si23.read
  simp only
  rw [if_neg (by unfold lenIn at h2 h3; omega), take_in b (by unfold lenIn at h2; omega), if_neg]
  · have e1 : (b.take (lenIn b)).take 2 = (b.drop 0).take 2 := by rw [List.drop_zero, List.take_take, Nat.min_eq_left (by omega)]
    have e2 : ((b.take (lenIn b)).drop 2).take 2 = (b.drop 2).take 2 := take_in b (by omega)
    rw [e1, e2]
  · rintro (z | z)
    · exact h4 z
    · exact z ((summed_wt _ _ _).mpr h5)
theorem read_none {f t : Nat} {b : Si23.Bytes} (h : b.length < 8 ∨ lenIn b < 8 ∨ b.length < lenIn b ∨ number ((b.drop 6).take 2) = 0 ∨ wt f t (b.take (lenIn b)) % 65535 ≠ 0) : Si23.read f t b = none := by
  unfold Si23.read
  simp only
  by_cases c : b.length < 8 ∨ lenIn b < 8 ∨ b.length < lenIn b
  · rw [if_pos c]
  · rw [if_neg c]
    have c' : ¬ (b.length < 8 ∨ lenIn b < 8 ∨ b.length < lenIn b) := c
    rw [take_in b (show 6 + 2 ≤ lenIn b by omega), if_pos]
    rcases h with h | h | h | h | h
    · exact absurd (.inl h) c
    · exact absurd (.inr (.inl h)) c
    · exact absurd (.inr (.inr h)) c
    · exact .inl h
    · exact .inr fun z => h ((summed_wt _ _ _).mp z)
section
variable {P : Program} {w : World} {K : PySem.W.Frag} {mg : Str → Option Value} {base : Heap} {A : Ad}
theorem okT_is_datagram (T : Tx K mg A) : FnOk P w K mg base CX0 3 A.f_is_datagram A.d_is_datagram ["from_address", "to_address", "row"] spIsDg := by
  have G_number_at := okT_number_at (P := P) (w := w) (base := base) T
  have G_whole_total := okT_whole_total (P := P) (w := w) (base := base) T
  refine T.F_is_datagram.ok sc_is_datagram (fun vs H Q E h => ?_) (fun cdv A' outer s H vs Q E hr h => ?_)
  · obtain ⟨f, t, r, b, rfl, _⟩ := h
    rfl
  · obtain ⟨f, t, r, b, rfl, hb, q⟩ := h
    obtain ⟨t_HEADER, e_HEADER⟩ := T.i_HEADER
    obtain ⟨t_ROUND, e_ROUND⟩ := T.i_ROUND
    refine ⟨_, (pss_cons (ps_if (pt_cmpR op_lt (pe_callB call_len_seq (by rfl) T.z_len PySem.boot_len (pa_cons (pv 2) pa_nil)) (pe_gi rfl e_HEADER) (nomark _)) (pss_one (ps_ret pe_bl)) pss_nil)
      (pss_cons (ps_set (i := 3) sc_is_datagram.nd rfl (Or.inl rfl) (pe_call G_number_at (hr.mono (by decide)) rfl T.mg_number_at T.F_number_at.kp T.b_number_at .nil pass0 (pa_cons (pv 2) (pa_cons pe_int (pa_cons pe_int pa_nil)))))
      (pss_cons (ps_if (PW.pt (pw_or (pt_cmpR op_lt (pv 3) (pe_gi rfl e_HEADER) (nomark _)) (pw_or (pt_cmpR op_gt (pv 3) (pe_callB call_len_seq (by rfl) T.z_len PySem.boot_len (pa_cons (pv 2) pa_nil)) (nomark _)) (pw_or1 (pt_cmpR op_eq (pe_call G_number_at (hr.mono (by decide)) rfl T.mg_number_at T.F_number_at.kp T.b_number_at .nil pass0 (pa_cons (pv 2) (pa_cons pe_int (pa_cons pe_int pa_nil)))) pe_int (nomark _)))))) (pss_one (ps_ret pe_bl)) pss_nil)
      (pss_one (ps_ret (pe_cmpR op_eq (pe_op op_mod (pe_call G_whole_total (hr.mono (by decide)) rfl T.mg_whole_total T.F_whole_total.kp T.b_whole_total .nil pass0 (pa_cons (pv 0) (pa_cons (pv 1) (pa_cons (pe_slice sl_list (pv 2) po_none (po_some (pv 3))) pa_nil)))) (pe_gi rfl e_ROUND)) pe_int (nomark _))))))), ?_⟩
    simp only [tSeq, tIfS, tTest, tOp, tOr, tAnd, tNot, tAndV, tOrV, tNotV, tIf, tVar, tC, tRet, tRetN, tDrop, tNext, tFld, sFld, tAsg, gName, gTup, gCons, gNil, tB, rEq, rNe, rI, rI0, scal_ii, scal_bb, cxK, ite_true, ite_false, if_true, if_false, tNil, tCons, tTup, tLst, tCall, tCB, tUn, tMeth, tMake, tDNewK, tDGet, tDIn, tDNotIn, sDPut, tDPop1, L2.start, List.replicate, Nat.reduceSub, Nat.reduceAdd, List.map_cons, List.map_nil, List.length_cons, List.length_nil, List.cons_append, List.nil_append, List.append_nil, List.getElem?_cons_zero, List.getElem?_cons_succ, List.set_cons_zero, List.set_cons_succ, Option.some.injEq, List.cons.injEq, kV_inl, Bool.false_eq_true, reduceCtorEq, V.int.injEq, V.bl.injEq, V.ref.injEq, HO.ins.injEq, exists_eq_left', exists_eq_left, exists_eq_right, and_assoc, and_true, true_and, exists_and_left, exists_and_right, decide_eq_true_eq, Bool.not_eq_true', decide_eq_false_iff_not, tSl, tPart, tNoPart, rSlL]
    refine ⟨_, .inl (SqL.of hb), ?_⟩
    rw [byt_len]
    by_cases c1 : b.length < 8
    · rw [if_pos (by omega)]
      rw [read_none (.inl c1)] at q
      exact q _ (Same.refl _)
    rw [if_neg (by omega)]
    refine ⟨r, b, 4, 2, rfl, hb, fun H1 s1 => ⟨_, rfl, ?_⟩⟩
    have hb1 := s1 _ _ hb
    have ret : Si23.read f t b = none → Q (.bl false) H1 := fun z => by rw [z] at q; exact q _ s1
    by_cases c2 : lenIn b < 8
    · rw [if_pos (by unfold lenIn at c2; omega)]
      exact ret (read_none (.inr (.inl c2)))
    rw [if_neg (by unfold lenIn at c2; omega)]
    refine ⟨_, .inl (SqL.of hb1), _, rfl, ?_⟩
    rw [byt_len]
    by_cases c3 : b.length < lenIn b
    · rw [if_pos (by unfold lenIn at c3; omega)]
      exact ret (read_none (.inr (.inr (.inl c3))))
    rw [if_neg (by unfold lenIn at c3; omega)]
    refine ⟨r, b, 6, 2, rfl, hb1, fun H2 s2 => ⟨scal_ii _ _, ?_⟩⟩
    have hb2 := s2 _ _ hb1
    have ret : ∀ H', Same H2 H' → Si23.read f t b = none → Q (.bl false) H' := fun H' s' z => by rw [z] at q; exact q _ ((s1.trans s2).trans s')
    by_cases c4 : number ((b.drop 6).take 2) = 0
    · rw [if_pos (by rw [c4]; rfl)]
      exact ret _ (Same.refl _) (read_none (.inr (.inr (.inr (.inl c4)))))
    rw [if_neg (by simp; omega)]
    refine ⟨_, rfl, _, SqL.of hb2, fun p hp => ?_⟩
    rw [cut_to, byt_take]
    refine ⟨f, t, p, _, rfl, upd_same, fun H3 s3 => ⟨_, rfl, (by decide), ?_⟩⟩
    have s' : Same H2 H3 := (same_new hp).trans s3
    by_cases c5 : wt f t (b.take (lenIn b)) % 65535 = 0
    · rw [read_some (by omega) (by omega) (by omega) c4 c5] at q
      rw [decide_eq_true (by have c6 : wt f t (b.take (number ((b.drop 4).take 2))) % 65535 = 0 := c5; omega)]
      exact q _ ((s1.trans s2).trans s')
    · rw [decide_eq_false (by have c6 : ¬ wt f t (b.take (number ((b.drop 4).take 2))) % 65535 = 0 := c5; omega)]
      exact ret _ s' (read_none (.inr (.inr (.inr (.inr c5)))))
theorem okT_port_from (T : Tx K mg A) : FnOk P w K mg base CX0 2 A.f_port_from A.d_port_from ["row"] (spNum 0 2) := by
  have G_number_at := okT_number_at (P := P) (w := w) (base := base) T
  refine T.F_port_from.ok sc_port_from (fun vs H Q E h => ?_) (fun cdv A' outer s H vs Q E hr h => ?_)
  · obtain ⟨r, b, rfl, _⟩ := h
    rfl
  · obtain ⟨r, b, rfl, hb, q⟩ := h
    refine ⟨_, (pss_one (ps_ret (pe_call G_number_at (hr.mono (by decide)) rfl T.mg_number_at T.F_number_at.kp T.b_number_at .nil pass0 (pa_cons (pv 0) (pa_cons pe_int (pa_cons pe_int pa_nil)))))), ?_⟩
    exact ⟨_, rfl, r, b, 0, 2, rfl, hb, q⟩
theorem okT_port_to (T : Tx K mg A) : FnOk P w K mg base CX0 2 A.f_port_to A.d_port_to ["row"] (spNum 2 2) := by
  have G_number_at := okT_number_at (P := P) (w := w) (base := base) T
  refine T.F_port_to.ok sc_port_to (fun vs H Q E h => ?_) (fun cdv A' outer s H vs Q E hr h => ?_)
  · obtain ⟨r, b, rfl, _⟩ := h
    rfl
  · obtain ⟨r, b, rfl, hb, q⟩ := h
    refine ⟨_, (pss_one (ps_ret (pe_call G_number_at (hr.mono (by decide)) rfl T.mg_number_at T.F_number_at.kp T.b_number_at .nil pass0 (pa_cons (pv 0) (pa_cons pe_int (pa_cons pe_int pa_nil)))))), ?_⟩
    exact ⟨_, rfl, r, b, 2, 2, rfl, hb, q⟩
theorem okT_body_of (T : Tx K mg A) : FnOk P w K mg base CX0 2 A.f_body_of A.d_body_of ["row"] spBody := by
  have G_number_at := okT_number_at (P := P) (w := w) (base := base) T
  refine T.F_body_of.ok sc_body_of (fun vs H Q E h => ?_) (fun cdv A' outer s H vs Q E hr h => ?_)
  · obtain ⟨r, b, rfl, _⟩ := h
    rfl
  · obtain ⟨r, b, rfl, hb, q⟩ := h
    obtain ⟨t_HEADER, e_HEADER⟩ := T.i_HEADER
    refine ⟨_, (pss_one (ps_ret (pe_slice sl_list (pv 0) (po_some (pe_gi rfl e_HEADER)) (po_some (pe_call G_number_at (hr.mono (by decide)) rfl T.mg_number_at T.F_number_at.kp T.b_number_at .nil pass0 (pa_cons (pv 0) (pa_cons pe_int (pa_cons pe_int pa_nil)))))))), ?_⟩
    refine ⟨_, rfl, _, rfl, _, rfl, r, b, 4, 2, rfl, hb, fun H1 s1 => ⟨_, rfl, r, _, rfl, SqL.of (s1 _ _ hb), fun p hp => ?_⟩⟩
    refine q _ p (s1.trans (same_new hp)) (s1.free hp) ?_
    rw [upd_same]
    have e := cut_nat2 (byt b) 8 (number ((b.drop 4).take 2))
    have e' : cutV (byt b) (some 8) (some ((number ((b.drop 4).take 2) : Nat) : Int)) = byt ((b.take (number ((b.drop 4).take 2))).drop 8) := by
      rw [List.drop_take, ← byt_take, ← byt_drop]; exact e
    rw [← e']
theorem okT_is_packet_start (T : Tx K mg A) : FnOk P w K mg base CX0 1 A.f_is_packet_start A.d_is_packet_start ["row"] spIsPk := by
  refine T.F_is_packet_start.ok sc_is_packet_start (fun vs H Q E h => ?_) (fun cdv A' outer s H vs Q E hr h => ?_)
  · obtain ⟨r, b, rfl, _⟩ := h
    rfl
  · obtain ⟨r, b, rfl, hb, q⟩ := h
    obtain ⟨t_CARRIED_AS, e_CARRIED_AS⟩ := T.i_CARRIED_AS
    obtain ⟨t_PACKET_FIRST, e_PACKET_FIRST⟩ := T.i_PACKET_FIRST
    obtain ⟨t_PACKET_START, e_PACKET_START⟩ := T.i_PACKET_START
    refine ⟨_, (pss_one (ps_ret (pe_and (pe_cmpR op_ge (pe_callB call_len_seq (by rfl) T.z_len PySem.boot_len (pa_cons (pv 0) pa_nil)) (pe_gi rfl e_PACKET_START) (nomark _)) (pe_and (pe_cmpR op_eq (pe_ix ix_list (pv 0) pe_int (fun _ _ => rfl)) (pe_gi rfl e_PACKET_FIRST) (nomark _)) (pe_one (pe_cmpR op_eq (pe_ix ix_list (pv 0) pe_int (fun _ _ => rfl)) (pe_gi rfl e_CARRIED_AS) (nomark _))))))), ?_⟩
    simp only [tSeq, tIfS, tTest, tOp, tOr, tAnd, tNot, tAndV, tOrV, tNotV, tIf, tVar, tC, tRet, tRetN, tDrop, tNext, tFld, sFld, tAsg, gName, gTup, gCons, gNil, tB, rEq, rNe, rI, rI0, scal_ii, scal_bb, cxK, ite_true, ite_false, if_true, if_false, tNil, tCons, tTup, tLst, tCall, tCB, tUn, tMeth, tMake, tDNewK, tDGet, tDIn, tDNotIn, sDPut, tDPop1, L2.start, List.replicate, Nat.reduceSub, Nat.reduceAdd, List.map_cons, List.map_nil, List.length_cons, List.length_nil, List.cons_append, List.nil_append, List.append_nil, List.getElem?_cons_zero, List.getElem?_cons_succ, List.set_cons_zero, List.set_cons_succ, Option.some.injEq, List.cons.injEq, kV_inl, Bool.false_eq_true, reduceCtorEq, V.int.injEq, V.bl.injEq, V.ref.injEq, HO.ins.injEq, exists_eq_left', exists_eq_left, exists_eq_right, and_assoc, and_true, true_and, exists_and_left, exists_and_right, decide_eq_true_eq, Bool.not_eq_true', decide_eq_false_iff_not]
    refine ⟨_, .inl (SqL.of hb), ?_⟩
    rw [byt_len]
    by_cases c1 : b.length < 24
    · rw [decide_eq_false (by omega)] at q
      rw [if_neg (by omega)]
      exact q
    rw [if_pos (by omega)]
    have at_ : ∀ i : Nat, i < 24 → ∃ c : UInt8, b[i]? = some c ∧ atI (byt b) (i : Int) = some (V.int c.toNat) := fun i hi => by
      have hl : i < b.length := by omega
      refine ⟨b[i], List.getElem?_eq_getElem hl, atI_nat ?_⟩
      rw [byt_get, List.getElem?_eq_getElem hl]; rfl
    obtain ⟨c, hc, ac⟩ := at_ 0 (by decide)
    obtain ⟨d, hd, ad⟩ := at_ 2 (by decide)
    have eqv : ∀ (x y : UInt8), x = y ↔ x.toNat = y.toNat := fun x y => ⟨fun z => by rw [z], fun z => UInt8.toNat_inj.mp z⟩
    refine ⟨r, _, _, _, rfl, rfl, SqL.of hb, ac, scal_ii _ _, ?_⟩
    rw [hc, hd] at q
    by_cases c2 : c.toNat = 81
    · rw [if_pos (by rw [c2]; rfl)]
      refine ⟨r, _, _, _, rfl, rfl, SqL.of hb, ad, scal_ii _ _, ?_⟩
      by_cases c3 : d.toNat = 2
      · rw [decide_eq_true (by rw [c3]; rfl)]
        rw [decide_eq_true (by
          rintro (z | z | z)
          · exact c1 z
          · exact z (congrArg some ((eqv c 0x51).mpr c2))
          · exact z (congrArg some ((eqv d 2).mpr c3)))] at q
        exact q
      · rw [decide_eq_false (fun z => c3 (by have := V.int.inj z; omega))]
        rw [decide_eq_false (fun z => z (.inr (.inr fun y => c3 ((eqv d 2).mp (Option.some.inj y)))))] at q
        exact q
    · rw [if_neg (fun z => c2 (by have := V.int.inj z; omega))]
      rw [decide_eq_false (fun z => z (.inr (.inl fun y => c2 ((eqv c 0x51).mp (Option.some.inj y)))))] at q
      exact q
theorem okT_packet_from (T : Tx K mg A) : FnOk P w K mg base CX0 2 A.f_packet_from A.d_packet_from ["row"] (spPk 12 20) := by
  have G_number_at := okT_number_at (P := P) (w := w) (base := base) T
  refine T.F_packet_from.ok sc_packet_from (fun vs H Q E h => ?_) (fun cdv A' outer s H vs Q E hr h => ?_)
  · obtain ⟨r, b, rfl, _⟩ := h
    rfl
  · obtain ⟨r, b, rfl, hb, q⟩ := h
    refine ⟨_, (pss_one (ps_ret (pe_tup (pa_cons (pe_call G_number_at (hr.mono (by decide)) rfl T.mg_number_at T.F_number_at.kp T.b_number_at .nil pass0 (pa_cons (pv 0) (pa_cons pe_int (pa_cons pe_int pa_nil)))) (pa_cons (pe_call G_number_at (hr.mono (by decide)) rfl T.mg_number_at T.F_number_at.kp T.b_number_at .nil pass0 (pa_cons (pv 0) (pa_cons pe_int (pa_cons pe_int pa_nil)))) pa_nil))))), ?_⟩
    refine ⟨_, rfl, r, b, 12, 4, rfl, hb, fun H1 s1 => ⟨_, rfl, r, b, 20, 2, rfl, s1 _ _ hb, fun H2 s2 => ⟨(by show 2 ≤ sizeLine; decide), fun p hp => ?_⟩⟩⟩
    exact q _ p ((s1.trans s2).trans (same_new hp)) ((s1.trans s2).free hp) upd_same
theorem okT_packet_to (T : Tx K mg A) : FnOk P w K mg base CX0 2 A.f_packet_to A.d_packet_to ["row"] (spPk 16 22) := by
  have G_number_at := okT_number_at (P := P) (w := w) (base := base) T
  refine T.F_packet_to.ok sc_packet_to (fun vs H Q E h => ?_) (fun cdv A' outer s H vs Q E hr h => ?_)
  · obtain ⟨r, b, rfl, _⟩ := h
    rfl
  · obtain ⟨r, b, rfl, hb, q⟩ := h
    refine ⟨_, (pss_one (ps_ret (pe_tup (pa_cons (pe_call G_number_at (hr.mono (by decide)) rfl T.mg_number_at T.F_number_at.kp T.b_number_at .nil pass0 (pa_cons (pv 0) (pa_cons pe_int (pa_cons pe_int pa_nil)))) (pa_cons (pe_call G_number_at (hr.mono (by decide)) rfl T.mg_number_at T.F_number_at.kp T.b_number_at .nil pass0 (pa_cons (pv 0) (pa_cons pe_int (pa_cons pe_int pa_nil)))) pa_nil))))), ?_⟩
    refine ⟨_, rfl, r, b, 16, 4, rfl, hb, fun H1 s1 => ⟨_, rfl, r, b, 22, 2, rfl, s1 _ _ hb, fun H2 s2 => ⟨(by show 2 ≤ sizeLine; decide), fun p hp => ?_⟩⟩⟩
    exact q _ p ((s1.trans s2).trans (same_new hp)) ((s1.trans s2).free hp) upd_same
end
end Sm



set_option Elab.async false
set_option linter.all false
set_option maxRecDepth 100000
namespace Sm
open PySem PySem.Spec PyProof.Rows L2
open Si23Neutral (wanted ofBytes)
def af (n f r w : V) : List (Str × V) := [("number", n), ("figures", f), ("row", r), ("wanted", w)]
theorem af_get_number (n f r w : V) : (af n f r w).lookup ("number" : Str) = some n := by rfl
theorem af_get_figures (n f r w : V) : (af n f r w).lookup ("figures" : Str) = some f := by rfl
theorem af_get_row (n f r w : V) : (af n f r w).lookup ("row" : Str) = some r := by rfl
theorem af_get_wanted (n f r w : V) : (af n f r w).lookup ("wanted" : Str) = some w := by rfl
def nats (l : List Nat) : List V := l.map fun (n : Nat) => V.int (n : Int)
theorem nats_of (l : List Nat) : nats l = (l.map fun (n : Nat) => (n : Int)).map V.int := by simp [nats]
theorem nats_len (l : List Nat) : (nats l).length = l.length := by simp [nats]
def WantAt (H : Hp) (a : Addr) (wt : Si23.Want) : Prop := H a = some (.lst ((wanted wt).map V.int))
def AnsAt (C : Ad) (H : Hp) (r : Addr) (a : Si23.Ans) : Prop := ∃ (dr f b w : Addr) (ws : List Addr), H r = some (.ins C.c_Answer dr (af (.int a.code) (.ref f) (.ref b) (.ref w))) ∧ H f = some (.lst (nats a.more)) ∧ H b = some (.lst (byt a.bytes)) ∧ H w = some (.lst (ws.map V.ref)) ∧ Paired (WantAt H) ws a.wants
theorem ans_made {C : Ad} {H : Hp} {x dx f b w : Addr} {ws : List Addr} {a : Si23.Ans} (hf : H f = some (.lst (nats a.more))) (hb : H b = some (.lst (byt a.bytes))) (hw : H w = some (.lst (ws.map V.ref))) (hws : Paired (WantAt H) ws a.wants) (hx : H x = none) (hdx : H dx = none) :
    Same H (upd (upd (upd H dx (.own x)) x (.ins C.c_Answer dx [])) x (.ins C.c_Answer dx (af (.int a.code) (.ref f) (.ref b) (.ref w)))) ∧ AnsAt C (upd (upd (upd H dx (.own x)) x (.ins C.c_Answer dx [])) x (.ins C.c_Answer dx (af (.int a.code) (.ref f) (.ref b) (.ref w)))) x a := by
  have s : Same H (upd (upd (upd H dx (.own x)) x (.ins C.c_Answer dx [])) x (.ins C.c_Answer dx (af (.int a.code) (.ref f) (.ref b) (.ref w)))) := fun c o e => by rw [upd_ne (ne_of_none e hx), upd_ne (ne_of_none e hx), upd_ne (ne_of_none e hdx)]; exact e
  exact ⟨s, dx, f, b, w, ws, upd_same, s _ _ hf, s _ _ hb, s _ _ hw, Paired.mapP hws fun _ _ z => s _ _ z⟩
def spInitA (C : Ad) : Sp := fun vs H Q _ => ∃ (p dx : Addr) (n f r w : V), vs = [.ref p, n, f, r, w] ∧ H p = some (.ins C.c_Answer dx []) ∧ Q .non (upd H p (.ins C.c_Answer dx (af n f r w)))
def spPlain (C : Ad) : Sp := fun vs H Q _ => ∃ z : Int, vs = [.int z] ∧ ∀ H' r, Same H H' → AnsAt C H' r (Si23.say z) → Q (.ref r) H'
def spPkt (tag : Int) : Sp := fun vs H Q _ => ∃ (f t : Int) (r : Addr) (b : Si23.Bytes), vs = [.int f, .int t, .ref r] ∧ H r = some (.lst (byt b)) ∧ b.length ≤ 200000 ∧ ∀ H' p, Same H H' → H p = none → H' p = some (.lst ((tag :: f :: t :: (b.length : Int) :: ofBytes b).map V.int)) → Q (.ref p) H'
def spNow : Sp := fun vs H Q _ => ∃ k : Int, vs = [.int k] ∧ ∀ p, H p = none → Q (.ref p) (upd H p (.lst [.int 2, .int k]))
def spWritten (C : Ad) : Sp := fun vs H Q _ => ∃ (r : Addr) (a : Si23.Ans), vs = [.ref r] ∧ AnsAt C H r a ∧ (Si23Neutral.listOf a).length ≤ 10000000 ∧ ∀ H' p, Same H H' → H p = none → H' p = some (.lst ((Si23Neutral.listOf a).map V.int)) → Q (.ref p) H'
section
variable {P : Program} {w : World} {K : PySem.W.Frag} {mg : Str → Option Value} {base : Heap} {A : Ad}
theorem okT_Answer_init (T : Tx K mg A) : FnOk P w K mg base CX0 1 A.f_Answer_init A.d_Answer_init ["self", "number", "figures", "row", "wanted"] (spInitA A) := by
  refine T.F_Answer_init.ok sc_Answer_init (fun vs H Q E h => ?_) (fun cdv A' outer s H vs Q E hr h => ?_)
  · obtain ⟨p, dx, n, f, r, w, rfl, _⟩ := h
    rfl
  · obtain ⟨p, dx, n, f, r, w, rfl, hp, q⟩ := h
    refine ⟨_, (pss_cons (ps_fld (pv 0) (pv 1) rfl)
      (pss_cons (ps_fld (pv 0) (pv 2) rfl)
      (pss_cons (ps_fld (pv 0) (pv 3) rfl)
      (pss_one (ps_fld (pv 0) (pv 4) rfl))))), ?_⟩
    simp only [tSeq, tIfS, tTest, tOp, tOr, tAnd, tNot, tAndV, tOrV, tNotV, tIf, tVar, tC, tRet, tRetN, tDrop, tNext, tFld, sFld, tAsg, gName, gTup, gCons, gNil, tB, rEq, rNe, rI, rI0, scal_ii, scal_bb, cxK, ite_true, ite_false, if_true, if_false, tNil, tCons, tTup, tLst, tCall, tCB, tUn, tMeth, tMake, tDNewK, tDGet, tDIn, tDNotIn, sDPut, tDPop1, L2.start, List.replicate, Nat.reduceSub, Nat.reduceAdd, List.map_cons, List.map_nil, List.length_cons, List.length_nil, List.cons_append, List.nil_append, List.append_nil, List.getElem?_cons_zero, List.getElem?_cons_succ, List.set_cons_zero, List.set_cons_succ, Option.some.injEq, List.cons.injEq, kV_inl, Bool.false_eq_true, reduceCtorEq, V.int.injEq, V.bl.injEq, V.ref.injEq, HO.ins.injEq, exists_eq_left', exists_eq_left, exists_eq_right, and_assoc, and_true, true_and, exists_and_left, exists_and_right, decide_eq_true_eq, Bool.not_eq_true', decide_eq_false_iff_not, hp, T.cls_Answer, T.no_Answer_number, T.no_Answer_figures, T.no_Answer_row, T.no_Answer_wanted, upd_same, upd_upd]
    exact ⟨by decide, (by show 1 < 1000; decide), (by show 2 < 1000; decide), (by show 3 < 1000; decide), q⟩
theorem okT_plain (T : Tx K mg A) : FnOk P w K mg base CX0 3 A.f_plain A.d_plain ["number"] (spPlain A) := by
  have G_Answer_init := okT_Answer_init (P := P) (w := w) (base := base) T
  refine T.F_plain.ok sc_plain (fun vs H Q E h => ?_) (fun cdv A' outer s H vs Q E hr h => ?_)
  · obtain ⟨z, rfl, _⟩ := h
    rfl
  · obtain ⟨z, rfl, q⟩ := h
    refine ⟨_, (pss_one (ps_ret (pe_make T.mk_Answer G_Answer_init (hr.mono (by decide)) rfl T.mg_Answer T.b_Answer_init .nil pass0 (pa_cons (pv 0) (pa_cons (pe_lst pa_nil) (pa_cons (pe_lst pa_nil) (pa_cons (pe_lst pa_nil) pa_nil))))))), ?_⟩
    refine ⟨_, rfl, Nat.zero_le _, fun l1 h1 => ⟨Nat.zero_le _, fun l2 h2 => ⟨Nat.zero_le _, fun l3 h3 => fun x dx hx hdx hne => ⟨x, dx, _, _, _, _, rfl, upd_same, rfl, ?_⟩⟩⟩⟩
    have e1 : (upd (upd (upd H l1 (.lst [])) l2 (.lst [])) l3 (.lst [])) l1 = some (.lst []) := same_new h3 _ _ (same_new h2 _ _ upd_same)
    have e2 : (upd (upd (upd H l1 (.lst [])) l2 (.lst [])) l3 (.lst [])) l2 = some (.lst []) := same_new h3 _ _ upd_same
    obtain ⟨s1, a1⟩ := ans_made (C := A) (a := Si23.say z) (ws := []) e1 e2 upd_same .nil hx hdx
    exact q _ _ ((((same_new h1).trans (same_new h2)).trans (same_new h3)).trans s1) a1
theorem pkt_list (tag f t : Int) (b : Si23.Bytes) : [V.int tag, V.int f, V.int t, V.int ((byt b).length : Int)] ++ byt b = (tag :: f :: t :: (b.length : Int) :: ofBytes b).map V.int := by
  rw [byt_len, byt_of]; rfl
theorem okT_packet_sent (T : Tx K mg A) : FnOk P w K mg base CX0 1 A.f_packet_sent A.d_packet_sent ["from_address", "to_address", "row"] (spPkt 0) := by
  refine T.F_packet_sent.ok sc_packet_sent (fun vs H Q E h => ?_) (fun cdv A' outer s H vs Q E hr h => ?_)
  · obtain ⟨f, t, r, b, rfl, _⟩ := h
    rfl
  · obtain ⟨f, t, r, b, rfl, hb, hl, q⟩ := h
    obtain ⟨t_PACKET_SENT, e_PACKET_SENT⟩ := T.i_PACKET_SENT
    refine ⟨_, (pss_one (ps_ret (pe_op op_cat (pe_lst (pa_cons (pe_gi rfl e_PACKET_SENT) (pa_cons (pv 0) (pa_cons (pv 1) (pa_cons (pe_callB call_len_seq (by rfl) T.z_len PySem.boot_len (pa_cons (pv 2) pa_nil)) pa_nil))))) (pv 2)))), ?_⟩
    refine ⟨_, rfl, _, rfl, _, rfl, r, _, rfl, .inl (SqL.of hb), (by show 4 ≤ sizeLine; decide), fun l1 h1 => ⟨_, rfl, l1, r, _, _, rfl, rfl, upd_same, same_new h1 _ _ hb, ?_, fun p hp => ?_⟩⟩
    · rw [byt_len]; exact Nat.le_trans (show 4 + b.length ≤ 300000 by omega) (by decide)
    · refine q _ p ((same_new h1).trans (same_new hp)) ((same_new h1).free hp) ?_
      rw [upd_same, ← pkt_list]
theorem okT_error_told (T : Tx K mg A) : FnOk P w K mg base CX0 1 A.f_error_told A.d_error_told ["from_address", "to_address", "row"] (spPkt 1) := by
  refine T.F_error_told.ok sc_error_told (fun vs H Q E h => ?_) (fun cdv A' outer s H vs Q E hr h => ?_)
  · obtain ⟨f, t, r, b, rfl, _⟩ := h
    rfl
  · obtain ⟨f, t, r, b, rfl, hb, hl, q⟩ := h
    obtain ⟨t_ERROR_TOLD, e_ERROR_TOLD⟩ := T.i_ERROR_TOLD
    refine ⟨_, (pss_one (ps_ret (pe_op op_cat (pe_lst (pa_cons (pe_gi rfl e_ERROR_TOLD) (pa_cons (pv 0) (pa_cons (pv 1) (pa_cons (pe_callB call_len_seq (by rfl) T.z_len PySem.boot_len (pa_cons (pv 2) pa_nil)) pa_nil))))) (pv 2)))), ?_⟩
    refine ⟨_, rfl, _, rfl, _, rfl, r, _, rfl, .inl (SqL.of hb), (by show 4 ≤ sizeLine; decide), fun l1 h1 => ⟨_, rfl, l1, r, _, _, rfl, rfl, upd_same, same_new h1 _ _ hb, ?_, fun p hp => ?_⟩⟩
    · rw [byt_len]; exact Nat.le_trans (show 4 + b.length ≤ 300000 by omega) (by decide)
    · refine q _ p ((same_new h1).trans (same_new hp)) ((same_new h1).free hp) ?_
      rw [upd_same, ← pkt_list]
theorem okT_something_now (T : Tx K mg A) : FnOk P w K mg base CX0 1 A.f_something_now A.d_something_now ["k"] spNow := by
  refine T.F_something_now.ok sc_something_now (fun vs H Q E h => ?_) (fun cdv A' outer s H vs Q E hr h => ?_)
  · obtain ⟨k, rfl, _⟩ := h
    rfl
  · obtain ⟨k, rfl, q⟩ := h
    obtain ⟨t_SOMETHING_NOW, e_SOMETHING_NOW⟩ := T.i_SOMETHING_NOW
    refine ⟨_, (pss_one (ps_ret (pe_lst (pa_cons (pe_gi rfl e_SOMETHING_NOW) (pa_cons (pv 0) pa_nil))))), ?_⟩
    exact ⟨_, rfl, (by show 2 ≤ sizeLine; decide), q⟩
theorem okT_written (T : Tx K mg A) : FnOk P w K mg base CX0 1 A.f_written A.d_written ["answer"] (spWritten A) := by
  refine T.F_written.ok sc_written (fun vs H Q E h => ?_) (fun cdv A' outer s H vs Q E hr h => ?_)
  · obtain ⟨r, a, rfl, _⟩ := h
    rfl
  · obtain ⟨r, a, rfl, ⟨dr, f, b, w', ws, hr', hf, hb, hw, hws⟩, hlen, q⟩ := h
    refine ⟨_, (pss_cons (ps_if (pt_cmpR op_lt (pe_fld (pv 0) rfl) pe_int (nomark _)) (pss_one (ps_ret (pe_lst (pa_cons (pe_fld (pv 0) rfl) pa_nil)))) pss_nil)
      (pss_cons (ps_set (i := 1) sc_written.nd rfl (Or.inl rfl) (pe_op op_cat (pe_lst (pa_cons (pe_fld (pv 0) rfl) (pa_cons (pe_callB call_len_seq (by rfl) T.z_len PySem.boot_len (pa_cons (pe_fld (pv 0) rfl) pa_nil)) pa_nil))) (pe_fld (pv 0) rfl)))
      (pss_cons (ps_expr (pe_bm PySem.F.plainAttrs_list PySem.F.slot_list_append PySem.F.type_list_append mt_append (pv 1) (pa_cons (pe_callB call_len_seq (by rfl) T.z_len PySem.boot_len (pa_cons (pe_fld (pv 0) rfl) pa_nil)) pa_nil)))
      (pss_cons (ps_expr (pe_bm PySem.F.plainAttrs_list PySem.F.slot_list_extend PySem.F.type_list_extend mt_extend (pv 1) (pa_cons (pe_fld (pv 0) rfl) pa_nil)))
      (pss_cons (ps_expr (pe_bm PySem.F.plainAttrs_list PySem.F.slot_list_append PySem.F.type_list_append mt_append (pv 1) (pa_cons (pe_callB call_len_seq (by rfl) T.z_len PySem.boot_len (pa_cons (pe_fld (pv 0) rfl) pa_nil)) pa_nil)))
      (pss_cons (ps_for PassesOwn.never rfl (pi_list (pe_fld (pv 0) rfl)) (pg_name (i := 2) sc_written.nd rfl (Or.inl rfl))
        (pss_one (ps_expr (pe_bm PySem.F.plainAttrs_list PySem.F.slot_list_extend PySem.F.type_list_extend mt_extend (pv 1) (pa_cons (pv 2) pa_nil)))))
      (pss_one (ps_ret (pv 1))))))))), ?_⟩
    refine ⟨_, rfl, r, _, dr, _, _, rfl, hr', T.cls_Answer, T.no_Answer_number, af_get_number _ _ _ _, _, _, rfl, rfl, _, rfl, ?_⟩
    try dsimp only
    by_cases c : a.code < 0
    · rw [if_pos (decide_eq_true c)]
      refine ⟨_, rfl, r, _, dr, _, _, rfl, hr', T.cls_Answer, T.no_Answer_number, af_get_number _ _ _ _, (by show 1 ≤ sizeLine; decide), fun p hp => q _ p (same_new hp) hp ?_⟩
      have e : Si23Neutral.listOf a = [a.code] := by unfold Si23Neutral.listOf; rw [if_pos c]
      rw [upd_same, e]; rfl
    rw [if_neg (by simpa using c)]
    have el : Si23Neutral.listOf a = a.code :: (a.more.length : Int) :: (a.more.map (fun (n : Nat) => (n : Int)) ++ ((a.bytes.length : Int) :: (ofBytes a.bytes ++ ((a.wants.length : Int) :: a.wants.flatMap wanted)))) := by unfold Si23Neutral.listOf; rw [if_neg c]
    have hlen' := hlen
    rw [el] at hlen'
    have hob : (ofBytes a.bytes).length = a.bytes.length := by simp [ofBytes]
    simp only [List.length_cons, List.length_append, List.length_map, hob] at hlen'
    have hwl : ws.length = a.wants.length := Paired.length hws
    have lz : ∀ n : Nat, n ≤ 10000010 → n ≤ sizeLine := fun n h => Nat.le_trans h (by decide)
    have lz' : ∀ n : Nat, n ≤ 10000010 → n < sizeLine := fun n h => Nat.lt_of_le_of_lt h (by decide)
    -- numbers = [number, len(figures)] + figures
    refine ⟨_, rfl, r, _, dr, _, _, rfl, hr', T.cls_Answer, T.no_Answer_number, af_get_number _ _ _ _, _, rfl, r, _, dr, _, _, rfl, hr', T.cls_Answer, T.no_Answer_figures, af_get_figures _ _ _ _, f, _, rfl, .inl (SqL.of hf), (by show 2 ≤ sizeLine; decide), fun l1 h1 => ?_⟩
    have s1 : Same H (upd H l1 (.lst [V.int a.code, V.int ((nats a.more).length : Int)])) := same_new h1
    have hl1 := upd_same (H := H) (a := l1) (o := .lst [V.int a.code, V.int ((nats a.more).length : Int)])
    refine ⟨_, rfl, r, _, dr, _, _, rfl, s1 _ _ hr', T.cls_Answer, T.no_Answer_figures, af_get_figures _ _ _ _, l1, f, _, _, rfl, rfl, hl1, s1 _ _ hf, lz _ (by rw [nats_len]; show 2 + a.more.length ≤ _; omega), fun p hp => ?_⟩
    have hpH := s1.free hp
    generalize hH2 : upd H l1 (.lst [V.int a.code, V.int ((nats a.more).length : Int)]) = H2 at *
    have st : ∀ (cur : List V) (c : Addr) (o : HO), H c = some o → (upd H2 p (.lst cur)) c = some o := fun cur c o e => by rw [upd_ne (ne_of_none e hpH)]; exact s1 _ _ e
    -- append(len(row))
    refine ⟨_, rfl, .inl ⟨rfl, _, SqL.of upd_same⟩, _, rfl, r, _, dr, _, _, rfl, st _ _ _ hr', T.cls_Answer, T.no_Answer_row, af_get_row _ _ _ _, b, _, rfl, .inl (SqL.of (st _ _ _ hb)), p, _, _, rfl, rfl, upd_same, lz' _ (by rw [List.length_append, nats_len]; show 2 + a.more.length ≤ _; omega), ?_⟩
    rw [upd_upd]
    -- extend(row)
    refine ⟨_, rfl, .inl ⟨rfl, _, SqL.of upd_same⟩, _, rfl, r, _, dr, _, _, rfl, st _ _ _ hr', T.cls_Answer, T.no_Answer_row, af_get_row _ _ _ _, p, b, _, _, rfl, rfl, upd_same, st _ _ _ hb, lz _ (by simp only [List.length_append, nats_len, byt_len, List.length_cons, List.length_nil]; omega), ?_⟩
    rw [upd_upd]
    -- append(len(wanted))
    refine ⟨_, rfl, .inl ⟨rfl, _, SqL.of upd_same⟩, _, rfl, r, _, dr, _, _, rfl, st _ _ _ hr', T.cls_Answer, T.no_Answer_wanted, af_get_wanted _ _ _ _, w', _, rfl, .inl (SqL.of (st _ _ _ hw)), p, _, _, rfl, rfl, upd_same, lz' _ (by simp only [List.length_append, nats_len, byt_len, List.length_cons, List.length_nil]; omega), ?_⟩
    rw [upd_upd]
    generalize hcur : ([V.int a.code, V.int ((nats a.more).length : Int)] ++ nats a.more ++ [V.int ((byt a.bytes).length : Int)] ++ byt a.bytes ++ [V.int ((ws.map V.ref).length : Int)]) = cur
    have hcl : cur.length = 4 + a.more.length + a.bytes.length := by rw [← hcur]; simp only [List.length_append, nats_len, byt_len, List.length_cons, List.length_nil]; omega
    have hce : cur ++ (a.wants.flatMap wanted).map V.int = (Si23Neutral.listOf a).map V.int := by
      rw [← hcur, el, nats_of, byt_of]
      simp only [List.map_cons, List.map_append, List.append_assoc, List.cons_append, List.nil_append, List.length_map, hob, hwl]
    -- the things wanted
    refine ⟨_, rfl, r, _, dr, _, _, rfl, st _ _ _ hr', T.cls_Answer, T.no_Answer_wanted, af_get_wanted _ _ _ _, w', rfl, ⟨_, SqL.of (st _ _ _ hw)⟩, ?_⟩
    obtain ⟨Pv, hPv⟩ : ∃ Pv : Nat → L2.St → Hp → Prop, ∀ i σ H', Pv i σ H' ↔ ∃ v2, σ = [some (.ref r), some (.ref p), v2] ∧ H' = upd H2 p (.lst (cur ++ ((a.wants.take i).flatMap wanted).map V.int)) := ⟨_, fun _ _ _ => Iff.rfl⟩
    refine for_list (xs := ws.map V.ref) Pv ?_ ?_ ?_ ?_
    · exact (hPv _ _ _).mpr ⟨_, rfl, by simp⟩
    · intro i σ H' hi h
      obtain ⟨v2, rfl, rfl⟩ := (hPv _ _ _).mp h
      exact SqL.of (st _ _ _ hw)
    · intro i x σ H' hi h
      obtain ⟨v2, rfl, rfl⟩ := (hPv _ _ _).mp h
      rw [List.getElem?_map] at hi
      obtain ⟨y, hy, rfl⟩ := Option.map_eq_some_iff.mp hi
      obtain ⟨wt, hwt, hat⟩ := paired_get hws hy
      have hat : H y = some (.lst ((wanted wt).map V.int)) := hat
      have e1 : (a.wants.take (i + 1)).flatMap wanted = (a.wants.take i).flatMap wanted ++ wanted wt := by
        rw [List.take_succ, hwt]; simp
      have e2 : ((a.wants.take (i + 1)).flatMap wanted).length ≤ (a.wants.flatMap wanted).length := by
        conv => rhs; rw [← List.take_append_drop (i + 1) a.wants, List.flatMap_append, List.length_append]
        omega
      refine ⟨_, rfl, .inl ⟨rfl, _, SqL.of upd_same⟩, _, rfl, p, y, _, _, rfl, rfl, upd_same, st _ _ _ hat, lz _ ?_, (hPv _ _ _).mpr ⟨_, rfl, ?_⟩⟩
      try dsimp only
      · rw [e1, List.length_append] at e2
        simp only [List.length_append, List.length_map, hcl]
        omega
      · rw [upd_upd, e1, List.map_append, List.append_assoc]
    · intro σ H' h
      obtain ⟨v2, rfl, rfl⟩ := (hPv _ _ _).mp h
      refine ⟨_, rfl, q _ p (fun c o e => st _ c o e) hpH ?_⟩
      rw [upd_same, ← hce, List.length_map, hwl, List.take_length]
end
end Sm



set_option Elab.async false
set_option linter.all false
set_option maxRecDepth 100000
namespace Sm
open PySem PySem.Spec PyProof.Rows L2
/-- its peer has no 0 -/
def PeerOk (x : Si23.Sock) : Prop := ∀ t p, x.peer = some (t, p) → t ≠ 0 ∧ p ≠ 0 ∧ x.port ≠ 0
theorem peer_none {x : Si23.Sock} (h : PeerOk x) : (peerA x = 0 ∧ peerP x = 0) ↔ x.peer = none := by
  unfold peerA peerP
  cases e : x.peer with
  | none => simp
  | some p =>
    have := h p.1 p.2 e
    simp; omega
theorem peer_is {x : Si23.Sock} {t p : Nat} : (peerA x = (t : Int) ∧ peerP x = (p : Int)) ↔ x.peer = some (t, p) ∨ (x.peer = none ∧ t = 0 ∧ p = 0) := by
  unfold peerA peerP
  cases e : x.peer with
  | none => simp; omega
  | some q =>
    constructor
    · rintro ⟨h1, h2⟩
      simp only at h1 h2
      exact .inl (congrArg some (Prod.ext (by omega) (by omega)))
    · rintro (h | h)
      · cases h; exact ⟨rfl, rfl⟩
      · cases h.1
def fitsAny (x : Si23.Sock) (f sp dp : Nat) : Prop := x.port ≠ 0 ∧ x.port = dp ∧ (x.peer = none ∨ x.peer = some (f, sp))
instance (x : Si23.Sock) (f sp dp : Nat) : Decidable (fitsAny x f sp dp) := by unfold fitsAny; infer_instance
def rankOf (x : Si23.Sock) : Nat := (if x.peer = none then 0 else 2) + (if x.at_ = 0 then 0 else 1)
theorem fits_eq (x : Si23.Sock) (f t sp dp : Nat) : x.fits f t sp dp = if (x.at_ = 0 ∨ x.at_ = t) ∧ fitsAny x f sp dp then 1 + rankOf x else 0 := by
  unfold Si23.Sock.fits
  by_cases h1 : x.port = 0
  · rw [if_pos (.inl h1), if_neg (fun z => z.2.1 h1)]
  by_cases h2 : x.port = dp
  · by_cases h3 : x.at_ = 0 ∨ x.at_ = t
    · by_cases hp : x.peer = none
      · rw [if_neg (by simp [hp]; omega), if_pos (show (x.at_ = 0 ∨ x.at_ = t) ∧ fitsAny x f sp dp from ⟨h3, h1, h2, .inl hp⟩)]
        unfold rankOf
        by_cases h4 : x.at_ = 0 <;> simp [h4, hp]
      · by_cases h5 : x.peer = some (f, sp)
        · rw [if_neg (by simp [h5]; omega), if_pos (show (x.at_ = 0 ∨ x.at_ = t) ∧ fitsAny x f sp dp from ⟨h3, h1, h2, .inr h5⟩)]
          unfold rankOf
          by_cases h4 : x.at_ = 0 <;> simp [h4, h5]
        · have hs : x.peer.isSome = true := by
            cases e : x.peer with
            | none => exact absurd e hp
            | some q => rfl
          rw [if_pos (.inr (.inr (.inr ⟨hs, h5⟩))), if_neg]
          rintro ⟨_, _, _, z | z⟩
          · exact hp z
          · exact h5 z
    · rw [if_pos (.inr (.inr (.inl (by omega)))), if_neg (fun z => h3 z.1)]
  · rw [if_pos (.inr (.inl h2)), if_neg (fun z => h2 z.2.2.1)]
section
variable (K : PySem.W.Frag) (C : Ad)
/-- the socket's cell -/
def Cell (H : Hp) (a : Addr) (x : Si23.Sock) : Prop := ∃ (dx pe q : Addr) (er : V), H a = some (.ins C.c_Socket dx (sv x pe q er)) ∧ SqT K H pe [.int (peerA x), .int (peerP x)] ∧ PeerOk x
def spHasAddr : Sp := fun vs H Q _ => ∃ (a : Addr) (x : Si23.Sock) (t : Nat), vs = [.ref a, .int t] ∧ Cell K C H a x ∧ Q (.bl (decide (x.at_ = 0 ∨ x.at_ = t))) H
def spFitsAny : Sp := fun vs H Q _ => ∃ (a sd : Addr) (x : Si23.Sock) (f sp dp : Nat), vs = [.ref a, .ref sd, .int dp] ∧ Cell K C H a x ∧ SqT K H sd [.int f, .int sp] ∧ Q (.bl (decide (fitsAny x f sp dp))) H
def spFits : Sp := fun vs H Q _ => ∃ (a sd : Addr) (x : Si23.Sock) (f t sp dp : Nat), vs = [.ref a, .ref sd, .int t, .int dp] ∧ Cell K C H a x ∧ SqT K H sd [.int f, .int sp] ∧ Q (.bl (decide (0 < x.fits f t sp dp))) H
def spRank : Sp := fun vs H Q _ => ∃ (a : Addr) (x : Si23.Sock), vs = [.ref a] ∧ Cell K C H a x ∧ Q (.int (rankOf x : Nat)) H
def spSent : Sp := fun vs H Q _ => ∃ (a fp tp : Addr) (x : Si23.Sock) (f sp t dp : Nat), vs = [.ref a, .ref fp, .ref tp] ∧ Cell K C H a x ∧ SqT K H fp [.int f, .int sp] ∧ SqT K H tp [.int t, .int dp] ∧ Q (.bl (decide (x.peer = some (t, dp) ∧ x.port = sp ∧ (x.at_ = 0 ∨ x.at_ = f)))) H
def spSome : Sp := fun vs H Q _ => ∃ (a dx pe q : Addr) (er : V) (x : Si23.Sock) (M : Mem) (n : Nat) (ys : List V), vs = [.ref a] ∧ H a = some (.ins C.c_Socket dx (sv x pe q er)) ∧ ErrAt K M H er x.bad ∧ H q = some (.lst ys) ∧ ys.length = x.queue.length ∧ Q (.bl (decide (¬ (x.queue = [] ∧ x.bad = none)))) H
def spWeight : Sp := fun vs H Q _ => ∃ (r : Addr) (g : Si23.Got) (M : Mem), vs = [.ref r] ∧ MsgAt K C M H r g ∧ Q (.int ((g.body.length + 64 : Nat) : Int)) H
def spRoom : Sp := fun vs H Q _ => ∃ (a r dx pe q : Addr) (er : V) (x : Si23.Sock) (M : Mem) (rs : List Addr) (g : Si23.Got), vs = [.ref a, .ref r] ∧ H a = some (.ins C.c_Socket dx (sv x pe q er)) ∧ H q = some (.lst (rs.map V.ref)) ∧ MsgsAt K C M H rs x.queue ∧ MsgAt K C M H r g ∧ rs.length ≤ 1000 ∧
  ∀ H', Same H H' → Q (.bl (x.room g)) H'
def spGet : Sp := fun vs H Q _ => ∃ (a r dx pe q : Addr) (er : V) (x : Si23.Sock) (M : Mem) (rs : List Addr) (g : Si23.Got), vs = [.ref a, .ref r] ∧ H a = some (.ins C.c_Socket dx (sv x pe q er)) ∧ H q = some (.lst (rs.map V.ref)) ∧ MsgsAt K C M H rs x.queue ∧ MsgAt K C M H r g ∧ rs.length ≤ 1000 ∧
  (∀ H', Same H H' → x.room g = true → Q .non (upd H' q (.lst ((rs ++ [r]).map V.ref)))) ∧ ∀ H', Same H H' → x.room g = false → Q .non (upd H' a (.ins C.c_Socket dx (sv { x with lost := x.lost + 1 } pe q er)))
def spInitG : Sp := fun vs H Q _ => ∃ (p dx : Addr) (s t b : V), vs = [.ref p, s, t, b] ∧ H p = some (.ins C.c_Message dx []) ∧ Q .non (upd H p (.ins C.c_Message dx (gf s t b)))
end
theorem gf_get_body (a b c : V) : (gf a b c).lookup ("body" : Str) = some c := by rfl
theorem gf_get_to_address (a b c : V) : (gf a b c).lookup ("to_address" : Str) = some b := by rfl
section
variable {P : Program} {w : World} {K : PySem.W.Frag} {mg : Str → Option Value} {base : Heap} {A : Ad}
theorem okT_has_address (T : Tx K mg A) : FnOk P w K mg base CX0 1 A.f_has_address A.d_has_address ["socket", "address"] (spHasAddr K A) := by
  refine T.F_has_address.ok sc_has_address (fun vs H Q E h => ?_) (fun cdv A' outer s H vs Q E hr h => ?_)
  · obtain ⟨a, x, t, rfl, _⟩ := h
    rfl
  · obtain ⟨a, x, t, rfl, ⟨dx, pe, q', er, ha, hpe, hok⟩, q⟩ := h
    refine ⟨_, (pss_one (ps_ret (pe_or (pe_cmpR op_eq (pe_fld (pv 0) rfl) pe_int (nomark _)) (pe_one (pe_cmpR op_eq (pe_fld (pv 0) rfl) (pv 1) (nomark _)))))), ?_⟩
    simp only [tSeq, tIfS, tTest, tOp, tOr, tAnd, tNot, tAndV, tOrV, tNotV, tIf, tVar, tC, tRet, tRetN, tDrop, tNext, tFld, sFld, tAsg, gName, gTup, gCons, gNil, tB, rEq, rNe, rI, rI0, scal_ii, scal_bb, cxK, ite_true, ite_false, if_true, if_false, tNil, tCons, tTup, tLst, tCall, tCB, tUn, tMeth, tMake, tDNewK, tDGet, tDIn, tDNotIn, sDPut, tDPop1, L2.start, List.replicate, Nat.reduceSub, Nat.reduceAdd, List.map_cons, List.map_nil, List.length_cons, List.length_nil, List.cons_append, List.nil_append, List.append_nil, List.getElem?_cons_zero, List.getElem?_cons_succ, List.set_cons_zero, List.set_cons_succ, Option.some.injEq, List.cons.injEq, kV_inl, Bool.false_eq_true, reduceCtorEq, V.int.injEq, V.bl.injEq, V.ref.injEq, HO.ins.injEq, exists_eq_left', exists_eq_left, exists_eq_right, and_assoc, and_true, true_and, exists_and_left, exists_and_right, decide_eq_true_eq, Bool.not_eq_true', decide_eq_false_iff_not, ha, sv, sf_get_address, T.cls_Socket, T.no_Socket_address]
    by_cases c : x.at_ = 0
    · rw [if_pos (by omega)]; rw [decide_eq_true (.inl c)] at q; exact q
    · rw [if_neg (by omega)]
      by_cases c2 : x.at_ = t
      · rw [decide_eq_true (by omega)]; rw [decide_eq_true (.inr c2)] at q; exact q
      · rw [decide_eq_false (by omega)]; rw [decide_eq_false (by omega)] at q; exact q
theorem okT_fits_at_any (T : Tx K mg A) : FnOk P w K mg base CX0 1 A.f_fits_at_any A.d_fits_at_any ["socket", "sender", "port"] (spFitsAny K A) := by
  refine T.F_fits_at_any.ok sc_fits_at_any (fun vs H Q E h => ?_) (fun cdv A' outer s H vs Q E hr h => ?_)
  · obtain ⟨a, sd, x, f, sp, dp, rfl, _⟩ := h
    rfl
  · obtain ⟨a, sd, x, f, sp, dp, rfl, ⟨dx, pe, q', er, ha, hpe, hok⟩, hsd, q⟩ := h
    refine ⟨_, (pss_cons (ps_if (pt_cmpR op_eq (pe_fld (pv 0) rfl) pe_int (nomark _)) (pss_one (ps_ret pe_bl)) pss_nil)
      (pss_one (ps_ret (pe_and (pe_cmpR op_eq (pe_fld (pv 0) rfl) (pv 2) (nomark _)) (pe_one (pe_or (pe_cmpR (op_eqP hr.units) (pe_fld (pv 0) rfl) (pe_gr rfl T.t_NO_PEER) (nomark _)) (pe_one (pe_cmpR (op_eqP hr.units) (pe_fld (pv 0) rfl) (pv 1) (nomark _))))))))), ?_⟩
    simp only [tSeq, tIfS, tTest, tOp, tOr, tAnd, tNot, tAndV, tOrV, tNotV, tIf, tVar, tC, tRet, tRetN, tDrop, tNext, tFld, sFld, tAsg, gName, gTup, gCons, gNil, tB, rEq, rNe, rI, rI0, scal_ii, scal_bb, cxK, ite_true, ite_false, if_true, if_false, tNil, tCons, tTup, tLst, tCall, tCB, tUn, tMeth, tMake, tDNewK, tDGet, tDIn, tDNotIn, sDPut, tDPop1, L2.start, List.replicate, Nat.reduceSub, Nat.reduceAdd, List.map_cons, List.map_nil, List.length_cons, List.length_nil, List.cons_append, List.nil_append, List.append_nil, List.getElem?_cons_zero, List.getElem?_cons_succ, List.set_cons_zero, List.set_cons_succ, Option.some.injEq, List.cons.injEq, kV_inl, Bool.false_eq_true, reduceCtorEq, V.int.injEq, V.bl.injEq, V.ref.injEq, HO.ins.injEq, exists_eq_left', exists_eq_left, exists_eq_right, and_assoc, and_true, true_and, exists_and_left, exists_and_right, decide_eq_true_eq, Bool.not_eq_true', decide_eq_false_iff_not, rEqP, ha, sv, sf_get_port, sf_get_peer, T.cls_Socket, T.no_Socket_port, T.no_Socket_peer]
    by_cases c1 : x.port = 0
    · rw [if_pos (by omega)]; rw [decide_eq_false (show ¬ fitsAny x f sp dp from fun z => z.1 c1)] at q; exact q
    rw [if_neg (by omega)]
    by_cases c2 : x.port = dp
    · rw [if_pos (by omega)]
      refine ⟨_, _, hpe, _, _, .inr T.k_NO_PEER, ?_⟩
      by_cases c3 : x.peer = none
      · rw [if_pos ((peer_none hok).mpr c3)]
        rw [decide_eq_true (show fitsAny x f sp dp from ⟨c1, c2, .inl c3⟩)] at q; exact q
      · rw [if_neg (fun z => c3 ((peer_none hok).mp z))]
        refine ⟨_, _, hpe, _, _, hsd, ?_⟩
        by_cases c4 : x.peer = some (f, sp)
        · rw [decide_eq_true (peer_is.mpr (.inl c4))]
          rw [decide_eq_true (show fitsAny x f sp dp from ⟨c1, c2, .inr c4⟩)] at q; exact q
        · rw [decide_eq_false (fun z => (peer_is.mp z).elim c4 fun y => c3 y.1)]
          rw [decide_eq_false (show ¬ fitsAny x f sp dp from fun z => z.2.2.elim c3 c4)] at q; exact q
    · rw [if_neg (by omega)]; rw [decide_eq_false (show ¬ fitsAny x f sp dp from fun z => c2 z.2.1)] at q; exact q
theorem okT_fits (T : Tx K mg A) : FnOk P w K mg base CX0 2 A.f_fits A.d_fits ["socket", "sender", "address", "port"] (spFits K A) := by
  have G_fits_at_any := okT_fits_at_any (P := P) (w := w) (base := base) T
  have G_has_address := okT_has_address (P := P) (w := w) (base := base) T
  refine T.F_fits.ok sc_fits (fun vs H Q E h => ?_) (fun cdv A' outer s H vs Q E hr h => ?_)
  · obtain ⟨a, sd, x, f, t, sp, dp, rfl, _⟩ := h
    rfl
  · obtain ⟨a, sd, x, f, t, sp, dp, rfl, hc, hsd, q⟩ := h
    refine ⟨_, (pss_one (ps_ret (pe_and (pe_call G_has_address (hr.mono (by decide)) rfl T.mg_has_address T.F_has_address.kp T.b_has_address .nil pass0 (pa_cons (pv 0) (pa_cons (pv 2) pa_nil))) (pe_one (pe_call G_fits_at_any (hr.mono (by decide)) rfl T.mg_fits_at_any T.F_fits_at_any.kp T.b_fits_at_any .nil pass0 (pa_cons (pv 0) (pa_cons (pv 1) (pa_cons (pv 3) pa_nil)))))))), ?_⟩
    refine ⟨_, rfl, _, rfl, a, x, t, rfl, hc, _, rfl, ?_⟩
    try dsimp only
    rw [fits_eq] at q
    by_cases c1 : x.at_ = 0 ∨ x.at_ = t
    · rw [if_pos (decide_eq_true c1)]
      refine ⟨_, rfl, _, rfl, _, rfl, a, sd, x, f, sp, dp, rfl, hc, hsd, ?_⟩
      by_cases c2 : fitsAny x f sp dp
      · rw [if_pos ⟨c1, c2⟩] at q
        rw [decide_eq_true c2]; rw [decide_eq_true (by omega)] at q; exact q
      · rw [if_neg (fun z => c2 z.2)] at q
        rw [decide_eq_false c2]; rw [decide_eq_false (by omega)] at q; exact q
    · rw [if_neg (by simpa using c1)]
      rw [if_neg (fun z => c1 z.1)] at q
      rw [decide_eq_false (by omega)] at q; exact q
theorem okT_rank (T : Tx K mg A) : FnOk P w K mg base CX0 1 A.f_rank A.d_rank ["socket"] (spRank K A) := by
  refine T.F_rank.ok sc_rank (fun vs H Q E h => ?_) (fun cdv A' outer s H vs Q E hr h => ?_)
  · obtain ⟨a, x, rfl, _⟩ := h
    rfl
  · obtain ⟨a, x, rfl, ⟨dx, pe, q', er, ha, hpe, hok⟩, q⟩ := h
    refine ⟨_, (pss_cons (ps_set (i := 1) sc_rank.nd rfl (Or.inl rfl) (pe_cut (pe_ifExp (pt_cmpR (op_eqP hr.units) (pe_fld (pv 0) rfl) (pe_gr rfl T.t_NO_PEER) (nomark _)) pe_int pe_int)))
      (pss_cons (ps_set (i := 2) sc_rank.nd rfl (Or.inl rfl) (pe_cut (pe_ifExp (pt_cmpR op_eq (pe_fld (pv 0) rfl) pe_int (nomark _)) pe_int pe_int)))
      (pss_one (ps_ret (pe_op op_add (pv 1) (pv 2)))))), ?_⟩
    simp only [tSeq, tIfS, tTest, tOp, tOr, tAnd, tNot, tAndV, tOrV, tNotV, tIf, tVar, tC, tRet, tRetN, tDrop, tNext, tFld, sFld, tAsg, gName, gTup, gCons, gNil, tB, rEq, rNe, rI, rI0, scal_ii, scal_bb, cxK, ite_true, ite_false, if_true, if_false, tNil, tCons, tTup, tLst, tCall, tCB, tUn, tMeth, tMake, tDNewK, tDGet, tDIn, tDNotIn, sDPut, tDPop1, L2.start, List.replicate, Nat.reduceSub, Nat.reduceAdd, List.map_cons, List.map_nil, List.length_cons, List.length_nil, List.cons_append, List.nil_append, List.append_nil, List.getElem?_cons_zero, List.getElem?_cons_succ, List.set_cons_zero, List.set_cons_succ, Option.some.injEq, List.cons.injEq, kV_inl, Bool.false_eq_true, reduceCtorEq, V.int.injEq, V.bl.injEq, V.ref.injEq, HO.ins.injEq, exists_eq_left', exists_eq_left, exists_eq_right, and_assoc, and_true, true_and, exists_and_left, exists_and_right, decide_eq_true_eq, Bool.not_eq_true', decide_eq_false_iff_not, tCut, rEqP, ha, sv, sf_get_peer, T.cls_Socket, T.no_Socket_peer]
    refine ⟨fun v H' => v = .int ((if x.peer = none then 0 else 2 : Nat) : Int) ∧ H' = H, ?_, ?_⟩
    · refine ⟨_, _, hpe, _, _, .inr T.k_NO_PEER, ?_⟩
      by_cases c : x.peer = none
      · rw [if_pos ((peer_none hok).mpr c), if_pos c]; exact ⟨rfl, rfl⟩
      · rw [if_neg (fun z => c ((peer_none hok).mp z)), if_neg c]; exact ⟨rfl, rfl⟩
    rintro v H' ⟨rfl, rfl⟩
    simp only [tSeq, tIfS, tTest, tOp, tOr, tAnd, tNot, tAndV, tOrV, tNotV, tIf, tVar, tC, tRet, tRetN, tDrop, tNext, tFld, sFld, tAsg, gName, gTup, gCons, gNil, tB, rEq, rNe, rI, rI0, scal_ii, scal_bb, cxK, ite_true, ite_false, if_true, if_false, tNil, tCons, tTup, tLst, tCall, tCB, tUn, tMeth, tMake, tDNewK, tDGet, tDIn, tDNotIn, sDPut, tDPop1, L2.start, List.replicate, Nat.reduceSub, Nat.reduceAdd, List.map_cons, List.map_nil, List.length_cons, List.length_nil, List.cons_append, List.nil_append, List.append_nil, List.getElem?_cons_zero, List.getElem?_cons_succ, List.set_cons_zero, List.set_cons_succ, Option.some.injEq, List.cons.injEq, kV_inl, Bool.false_eq_true, reduceCtorEq, V.int.injEq, V.bl.injEq, V.ref.injEq, HO.ins.injEq, exists_eq_left', exists_eq_left, exists_eq_right, and_assoc, and_true, true_and, exists_and_left, exists_and_right, decide_eq_true_eq, Bool.not_eq_true', decide_eq_false_iff_not, ha, sv, sf_get_address, T.cls_Socket, T.no_Socket_address]
    refine ⟨fun v H1 => v = .int ((if x.at_ = 0 then 0 else 1 : Nat) : Int) ∧ H1 = H', ?_, ?_⟩
    · by_cases c : x.at_ = 0
      · rw [if_pos (by omega), if_pos c]; exact ⟨rfl, rfl⟩
      · rw [if_neg (by omega), if_neg c]; exact ⟨rfl, rfl⟩
    rintro v H' ⟨rfl, rfl⟩
    have e : ((if x.peer = none then 0 else 2 : Nat) : Int) + ((if x.at_ = 0 then 0 else 1 : Nat) : Int) = ((rankOf x : Nat) : Int) := by unfold rankOf; omega
    refine ⟨_, rfl, ?_⟩
    try dsimp only
    rw [e]; exact q
theorem okT_sent_there (T : Tx K mg A) : FnOk P w K mg base CX0 2 A.f_sent_there A.d_sent_there ["socket", "from_place", "to_place"] (spSent K A) := by
  have G_has_address := okT_has_address (P := P) (w := w) (base := base) T
  refine T.F_sent_there.ok sc_sent_there (fun vs H Q E h => ?_) (fun cdv A' outer s H vs Q E hr h => ?_)
  · obtain ⟨a, fp, tp, x, f, sp, t, dp, rfl, _⟩ := h
    rfl
  · obtain ⟨a, fp, tp, x, f, sp, t, dp, rfl, hc, hfp, htp, q⟩ := h
    obtain ⟨dx, pe, q', er, ha, hpe, hok⟩ := id hc
    refine ⟨_, (pss_cons (ps_if (PW.pt (pw_or (pt_cmpR (op_eqP hr.units) (pe_fld (pv 0) rfl) (pe_gr rfl T.t_NO_PEER) (nomark _)) (pw_or1 (pt_cmpR (op_neP hr.units) (pe_fld (pv 0) rfl) (pv 2) (nomark _))))) (pss_one (ps_ret pe_bl)) pss_nil)
      (pss_one (ps_ret (pe_and (pe_cmpR op_eq (pe_fld (pv 0) rfl) (pe_ix ix_tup (pv 1) pe_int (fun _ _ => rfl)) (nomark _)) (pe_one (pe_call G_has_address (hr.mono (by decide)) rfl T.mg_has_address T.F_has_address.kp T.b_has_address .nil pass0 (pa_cons (pv 0) (pa_cons (pe_ix ix_tup (pv 1) pe_int (fun _ _ => rfl)) pa_nil)))))))), ?_⟩
    simp only [tSeq, tIfS, tTest, tOp, tOr, tAnd, tNot, tAndV, tOrV, tNotV, tIf, tVar, tC, tRet, tRetN, tDrop, tNext, tFld, sFld, tAsg, gName, gTup, gCons, gNil, tB, rEq, rNe, rI, rI0, scal_ii, scal_bb, cxK, ite_true, ite_false, if_true, if_false, tNil, tCons, tTup, tLst, tCall, tCB, tUn, tMeth, tMake, tDNewK, tDGet, tDIn, tDNotIn, sDPut, tDPop1, L2.start, List.replicate, Nat.reduceSub, Nat.reduceAdd, List.map_cons, List.map_nil, List.length_cons, List.length_nil, List.cons_append, List.nil_append, List.append_nil, List.getElem?_cons_zero, List.getElem?_cons_succ, List.set_cons_zero, List.set_cons_succ, Option.some.injEq, List.cons.injEq, kV_inl, Bool.false_eq_true, reduceCtorEq, V.int.injEq, V.bl.injEq, V.ref.injEq, HO.ins.injEq, exists_eq_left', exists_eq_left, exists_eq_right, and_assoc, and_true, true_and, exists_and_left, exists_and_right, decide_eq_true_eq, Bool.not_eq_true', decide_eq_false_iff_not, rEqP, rNeP, rIxT, ha, sv, sf_get_port, sf_get_peer, T.cls_Socket, T.no_Socket_port, T.no_Socket_peer]
    refine ⟨_, _, hpe, _, _, .inr T.k_NO_PEER, ?_⟩
    by_cases c3 : x.peer = none
    · rw [if_pos ((peer_none hok).mpr c3)]
      rw [decide_eq_false (fun z => by rw [c3] at z; cases z.1)] at q; exact q
    rw [if_neg (fun z => c3 ((peer_none hok).mp z))]
    refine ⟨_, _, hpe, _, _, htp, ?_⟩
    by_cases c4 : x.peer = some (t, dp)
    · rw [if_neg (fun z => z (peer_is.mpr (.inl c4)))]
      refine ⟨_, hfp, _, atI_nat (j := 1) rfl, scal_ii _ _, ?_⟩
      by_cases c5 : x.port = sp
      · rw [if_pos (by rw [c5])]
        refine ⟨_, hfp, _, atI_nat (j := 0) rfl, a, x, f, rfl, hc, ?_⟩
        by_cases c6 : x.at_ = 0 ∨ x.at_ = f
        · rw [decide_eq_true c6]; rw [decide_eq_true ⟨c4, c5, c6⟩] at q; exact q
        · rw [decide_eq_false c6]; rw [decide_eq_false (fun z => c6 z.2.2)] at q; exact q
      · rw [if_neg (fun z => c5 (by have := V.int.inj z; omega))]; rw [decide_eq_false (fun z => c5 z.2.1)] at q; exact q
    · rw [if_pos (fun z => (peer_is.mp z).elim c4 fun y => c3 y.1)]
      rw [decide_eq_false (fun z => c4 z.1)] at q; exact q
theorem okT_has_something (T : Tx K mg A) : FnOk P w K mg base CX0 1 A.f_has_something A.d_has_something ["socket"] (spSome K A) := by
  refine T.F_has_something.ok sc_has_something (fun vs H Q E h => ?_) (fun cdv A' outer s H vs Q E hr h => ?_)
  · obtain ⟨a, dx, pe, q', er, x, M, n, ys, rfl, _⟩ := h
    rfl
  · obtain ⟨a, dx, pe, q', er, x, M, n, ys, rfl, ha, her, hq, hl, q⟩ := h
    refine ⟨_, (pss_one (ps_ret (pe_or (pe_cmpR op_notN (pe_fld (pv 0) rfl) pe_non (nomark _)) (pe_one (pe_cmpR op_gt (pe_callB call_len_seq (by rfl) T.z_len PySem.boot_len (pa_cons (pe_fld (pv 0) rfl) pa_nil)) pe_int (nomark _)))))), ?_⟩
    simp only [tSeq, tIfS, tTest, tOp, tOr, tAnd, tNot, tAndV, tOrV, tNotV, tIf, tVar, tC, tRet, tRetN, tDrop, tNext, tFld, sFld, tAsg, gName, gTup, gCons, gNil, tB, rEq, rNe, rI, rI0, scal_ii, scal_bb, cxK, ite_true, ite_false, if_true, if_false, tNil, tCons, tTup, tLst, tCall, tCB, tUn, tMeth, tMake, tDNewK, tDGet, tDIn, tDNotIn, sDPut, tDPop1, L2.start, List.replicate, Nat.reduceSub, Nat.reduceAdd, List.map_cons, List.map_nil, List.length_cons, List.length_nil, List.cons_append, List.nil_append, List.append_nil, List.getElem?_cons_zero, List.getElem?_cons_succ, List.set_cons_zero, List.set_cons_succ, Option.some.injEq, List.cons.injEq, kV_inl, Bool.false_eq_true, reduceCtorEq, V.int.injEq, V.bl.injEq, V.ref.injEq, HO.ins.injEq, exists_eq_left', exists_eq_left, exists_eq_right, and_assoc, and_true, true_and, exists_and_left, exists_and_right, decide_eq_true_eq, Bool.not_eq_true', decide_eq_false_iff_not, ha, sv, sf_get_error, sf_get_queue, T.cls_Socket, T.no_Socket_error, T.no_Socket_queue]
    rcases her with ⟨e1, rfl⟩ | ⟨t, k, n, e1, rfl, _⟩
    · rw [if_neg (by simp)]
      refine ⟨_, .inl (SqL.of hq), ?_⟩
      rw [hl]
      by_cases c : x.queue = []
      · rw [c]
        rw [decide_eq_false (fun z => z ⟨c, e1⟩)] at q
        exact q
      · have : 0 < x.queue.length := List.length_pos_iff.mpr c
        rw [decide_eq_true (by omega)]
        rw [decide_eq_true (show ¬ (x.queue = [] ∧ x.bad = none) from fun z => c z.1)] at q
        exact q
    · rw [if_pos (by simp)]
      rw [decide_eq_true (show ¬ (x.queue = [] ∧ x.bad = none) from fun z => by rw [e1] at z; cases z.2)] at q
      exact q
theorem okT_weight (T : Tx K mg A) : FnOk P w K mg base CX0 1 A.f_weight A.d_weight ["message"] (spWeight K A) := by
  refine T.F_weight.ok sc_weight (fun vs H Q E h => ?_) (fun cdv A' outer s H vs Q E hr h => ?_)
  · obtain ⟨r, g, M, rfl, _⟩ := h
    rfl
  · obtain ⟨r, g, M, rfl, ⟨dr, t, b, h1, h2, h3, h4, h5⟩, q⟩ := h
    obtain ⟨t_OWN_WEIGHT, e_OWN_WEIGHT⟩ := T.i_OWN_WEIGHT
    refine ⟨_, (pss_one (ps_ret (pe_op op_add (pe_gi rfl e_OWN_WEIGHT) (pe_callB call_len_seq (by rfl) T.z_len PySem.boot_len (pa_cons (pe_fld (pv 0) rfl) pa_nil))))), ?_⟩
    refine ⟨_, rfl, r, _, dr, _, _, rfl, h1, T.cls_Message, T.no_Message_body, gf_get_body _ _ _, b, _, rfl, .inl (SqL.of h4), _, _, rfl, rfl, ?_⟩
    have e : (64 : Int) + ((byt g.body).length : Int) = ((g.body.length + 64 : Nat) : Int) := by rw [byt_len]; omega
    rw [← e] at q; exact q
def roomScope (s : Stmt) : Scope := match s with
  | .Return (some (.Compare (.BinOp (.Call _ [.ListComp _ _ sc _] _ _) _ _ _) _ _ _)) _ => sc
  | _ => { kind := .function, names := [], isGenerator := false, isCoroutine := false }
theorem blk_has_room : BlkOk ["socket", "message", "waiting"] (defScope s_has_room) (roomScope ((defBody s_has_room).getD 1 (.Pass ⟨0, 0, 0, 0⟩))) [("waiting", 2)] := ⟨rfl, by decide +kernel, by decide +kernel, by decide +kernel, by decide +kernel⟩
theorem okT_has_room (T : Tx K mg A) : FnOk P w K mg base CX0 2 A.f_has_room A.d_has_room ["socket", "message"] (spRoom K A) := by
  have G_weight := okT_weight (P := P) (w := w) (base := base) T
  refine T.F_has_room.ok sc_has_room (fun vs H Q E h => ?_) (fun cdv A' outer s H vs Q E hr h => ?_)
  · obtain ⟨a, r, dx, pe, q', er, x, M, rs, g, rfl, _⟩ := h
    rfl
  · obtain ⟨a, r, dx, pe, q', er, x, M, rs, g, rfl, ha, hq, hms, hmg, hlen, q⟩ := h
    obtain ⟨t_MOST_WAITING, e_MOST_WAITING⟩ := T.i_MOST_WAITING
    obtain ⟨t_MOST_WEIGHT, e_MOST_WEIGHT⟩ := T.i_MOST_WEIGHT
    refine ⟨_, (pss_cons (ps_if (pt_cmpR op_ge (pe_callB call_len_seq (by rfl) T.z_len PySem.boot_len (pa_cons (pe_fld (pv 0) rfl) pa_nil)) (pe_gi rfl e_MOST_WAITING) (nomark _)) (pss_one (ps_ret pe_bl)) pss_nil)
      (pss_one (ps_ret (pe_cmpR op_le (pe_op op_add (pe_callB (cr_sum rfl) (by rfl) T.z_sum PyProof.Rows.boot_sum (pa_cons (pe_lc (own := [("waiting", 2)]) (g := gName 2) (tt := tYes) (te := tCall (spWeight K A) [] E0 (tCons (tVar 2) tNil)) rfl sc_has_room.nd (pi_list (pe_fld (pv 0) rfl)) blk_has_room (fun s H C cl fp => pg_name (i := 2) sc_has_room.nd rfl (Or.inl rfl)) (fun s H C cl fp => pts_nil) (fun s H C cl fp => pe_call G_weight (hr.mono (by decide)) rfl T.mg_weight T.F_weight.kp T.b_weight .nil pass0 (pa_cons (pv 2) pa_nil))) pa_nil)) (pe_call G_weight (hr.mono (by decide)) rfl T.mg_weight T.F_weight.kp T.b_weight .nil pass0 (pa_cons (pv 1) pa_nil))) (pe_gi rfl e_MOST_WEIGHT) (nomark _))))), ?_⟩
    have hgl : x.queue.length = rs.length := (Paired.length hms).symm
    refine ⟨_, rfl, a, _, dx, _, _, rfl, ha, T.cls_Socket, T.no_Socket_queue, sf_get_queue _ _ _ _ _ _ _, q', _, rfl, .inl (SqL.of hq), _, _, rfl, rfl, _, rfl, ?_⟩
    try dsimp only
    have er : x.room g = (decide (x.queue.length < 32) && decide (Si23.weight x.queue + g.body.length + 64 ≤ 131072)) := rfl
    by_cases c1 : 32 ≤ x.queue.length
    · rw [if_pos (decide_eq_true (by rw [List.length_map, ← hgl]; omega))]
      rw [er, decide_eq_false (by omega), Bool.false_and] at q
      exact q _ (Same.refl _)
    rw [if_neg (by rw [List.length_map, ← hgl]; simp; omega)]
    rw [er, decide_eq_true (show x.queue.length < 32 by omega), Bool.true_and] at q
    refine ⟨_, rfl, a, _, dx, _, _, rfl, ha, T.cls_Socket, T.no_Socket_queue, sf_get_queue _ _ _ _ _ _ _, q', rfl, ⟨_, SqL.of hq⟩, fun D hD => ?_⟩
    obtain ⟨Pv, hPv⟩ : ∃ Pv : Nat → Hp → Prop, ∀ i H', Pv i H' ↔ H' = upd H D (.lst ((x.queue.take i).map fun g => V.int ((g.body.length + 64 : Nat) : Int))) := ⟨_, fun _ _ => Iff.rfl⟩
    refine lc_list (xs := rs.map V.ref) Pv ?_ ?_ ?_ ?_
    · exact (hPv _ _).mpr rfl
    · intro i H' hi h
      obtain rfl := (hPv _ _).mp h
      exact SqL.of (same_new hD _ _ hq)
    · intro i v H' hi h
      obtain rfl := (hPv _ _).mp h
      rw [List.getElem?_map] at hi
      obtain ⟨r', hr', rfl⟩ := Option.map_eq_some_iff.mp hi
      obtain ⟨g', hg', hmsg⟩ := hms.get hr'
      refine ⟨rfl, _, rfl, r', g', M, rfl, hmsg.fr (Fr.new _ hD), _, upd_same, ?_, (hPv _ _).mpr ?_⟩
      · rw [List.length_map, List.length_take]; exact Nat.lt_of_le_of_lt (show min i x.queue.length ≤ 1000 by omega) (by decide)
      · rw [upd_upd, take_snoc hg', List.map_append]; rfl
    · intro H' h
      obtain rfl := (hPv _ _).mp h
      rw [List.length_map, ← hgl, List.take_length]
      have es : (x.queue.map fun g => V.int ((g.body.length + 64 : Nat) : Int)) = (x.queue.map fun g => ((g.body.length + 64 : Nat) : Int)).map V.int := by rw [List.map_map]; rfl
      rw [es]
      refine ⟨D, _, rfl, SqL.of upd_same, _, rfl, r, g, M, rfl, hmg.fr (Fr.new _ hD), _, _, rfl, rfl, _, _, rfl, rfl, ?_⟩
      have ew : ((x.queue.map fun g => ((g.body.length + 64 : Nat) : Int)).sum + ((g.body.length + 64 : Nat) : Int) ≤ 131072) ↔ Si23.weight x.queue + g.body.length + 64 ≤ 131072 := by
        have : ∀ l : List Si23.Got, (l.map fun g => ((g.body.length + 64 : Nat) : Int)).sum = ((Si23.weight l : Nat) : Int) := fun l => by
          induction l with
          | nil => rfl
          | cons y l ih =>
            rw [List.map_cons, List.sum_cons, ih]
            show _ = (((y.body.length + 64) + (l.map fun g => g.body.length + 64).sum : Nat) : Int)
            unfold Si23.weight
            omega
        rw [this]; omega
      have := q _ (same_new hD (o := .lst ((x.queue.map fun g => ((g.body.length + 64 : Nat) : Int)).map V.int)))
      rw [← decide_eq_decide.mpr ew] at this
      exact this
theorem okT_get_message (T : Tx K mg A) : FnOk P w K mg base CX0 3 A.f_get_message A.d_get_message ["socket", "message"] (spGet K A) := by
  have G_has_room := okT_has_room (P := P) (w := w) (base := base) T
  refine T.F_get_message.ok sc_get_message (fun vs H Q E h => ?_) (fun cdv A' outer s H vs Q E hr h => ?_)
  · obtain ⟨a, r, dx, pe, q', er, x, M, rs, g, rfl, _⟩ := h
    rfl
  · obtain ⟨a, r, dx, pe, q', er, x, M, rs, g, rfl, ha, hq, hms, hmg, hlen, q1, q2⟩ := h
    refine ⟨_, (pss_one (ps_if (pt_val (pe_call G_has_room (hr.mono (by decide)) rfl T.mg_has_room T.F_has_room.kp T.b_has_room .nil pass0 (pa_cons (pv 0) (pa_cons (pv 1) pa_nil)))) (pss_one (ps_expr (pe_bm PySem.F.plainAttrs_list PySem.F.slot_list_append PySem.F.type_list_append mt_append (pe_fld (pv 0) rfl) (pa_cons (pv 1) pa_nil)))) (pss_one (ps_fld (pv 0) (pe_op op_add (pe_fld (pv 0) rfl) pe_int) rfl)))), ?_⟩
    refine ⟨_, rfl, _, rfl, a, r, dx, pe, q', er, x, M, rs, g, rfl, ha, hq, hms, hmg, hlen, fun H1 s1 => ⟨_, rfl, ?_⟩⟩
    try dsimp only
    cases hrm : x.room g with
    | true =>
      rw [if_pos rfl]
      refine ⟨_, rfl, a, _, dx, _, _, rfl, s1 _ _ ha, T.cls_Socket, T.no_Socket_queue, sf_get_queue _ _ _ _ _ _ _, .inl ⟨rfl, _, SqL.of (s1 _ _ hq)⟩, _, rfl, q', _, _, rfl, rfl, s1 _ _ hq, ?_, ?_⟩
      · rw [List.length_map]; exact Nat.lt_of_le_of_lt hlen (by decide)
      · have := q1 H1 s1 hrm
        rw [List.map_append] at this
        exact this
    | false =>
      rw [if_neg (by simp)]
      refine ⟨_, rfl, a, _, dx, _, _, rfl, s1 _ _ ha, T.cls_Socket, T.no_Socket_lost, sf_get_lost _ _ _ _ _ _ _, _, _, rfl, rfl, _, rfl, a, _, dx, _, rfl, s1 _ _ ha, T.cls_Socket, T.no_Socket_lost, (by show 7 < 1000; decide), ?_⟩
      have := q2 H1 s1 hrm
      unfold sv at this ⊢
      rw [sf_put_lost]
      exact this
theorem okT_Message_init (T : Tx K mg A) : FnOk P w K mg base CX0 1 A.f_Message_init A.d_Message_init ["self", "sender", "to_address", "body"] (spInitG A) := by
  refine T.F_Message_init.ok sc_Message_init (fun vs H Q E h => ?_) (fun cdv A' outer s H vs Q E hr h => ?_)
  · obtain ⟨p, dx, s', t, b, rfl, _⟩ := h
    rfl
  · obtain ⟨p, dx, s', t, b, rfl, hp, q⟩ := h
    refine ⟨_, (pss_cons (ps_fld (pv 0) (pv 1) rfl)
      (pss_cons (ps_fld (pv 0) (pv 2) rfl)
      (pss_one (ps_fld (pv 0) (pv 3) rfl)))), ?_⟩
    simp only [tSeq, tIfS, tTest, tOp, tOr, tAnd, tNot, tAndV, tOrV, tNotV, tIf, tVar, tC, tRet, tRetN, tDrop, tNext, tFld, sFld, tAsg, gName, gTup, gCons, gNil, tB, rEq, rNe, rI, rI0, scal_ii, scal_bb, cxK, ite_true, ite_false, if_true, if_false, tNil, tCons, tTup, tLst, tCall, tCB, tUn, tMeth, tMake, tDNewK, tDGet, tDIn, tDNotIn, sDPut, tDPop1, L2.start, List.replicate, Nat.reduceSub, Nat.reduceAdd, List.map_cons, List.map_nil, List.length_cons, List.length_nil, List.cons_append, List.nil_append, List.append_nil, List.getElem?_cons_zero, List.getElem?_cons_succ, List.set_cons_zero, List.set_cons_succ, Option.some.injEq, List.cons.injEq, kV_inl, Bool.false_eq_true, reduceCtorEq, V.int.injEq, V.bl.injEq, V.ref.injEq, HO.ins.injEq, exists_eq_left', exists_eq_left, exists_eq_right, and_assoc, and_true, true_and, exists_and_left, exists_and_right, decide_eq_true_eq, Bool.not_eq_true', decide_eq_false_iff_not, hp, T.cls_Message, T.no_Message_sender, T.no_Message_to_address, T.no_Message_body, upd_same, upd_upd]
    exact ⟨by decide, (by show 1 < 1000; decide), (by show 2 < 1000; decide), q⟩
end
end Sm



set_option Elab.async false
set_option linter.all false
set_option maxRecDepth 100000
namespace Sm
open PySem PySem.Spec PyProof.Rows L2
/-- what a call is to reach: the state s', an answer -/
def PostA (K : PySem.W.Frag) (C : Ad) (M : Mem) (H : Hp) (m : Addr) (s' : Si23.St) (a : Si23.Ans) (Q : VK) : Prop :=
  ∀ M' H' d' ad' qd' kvs' r, Fr M H M' H' → Rep K C M' H' m d' ad' qd' kvs' s' → AnsAt C H' r a → Q (.ref r) H'
/-- a method with the values us, which does what the call c does -/
def spA (K : PySem.W.Frag) (C : Ad) (us : List V) (c : Si23.Call) : Sp := fun vs H Q _ => ∃ (M : Mem) (m d : Addr) (ad qd : Nat → Addr) (kvs : List (Key × V)) (s : Si23.St),
  vs = .ref m :: us ∧ Rep K C M H m d ad qd kvs s ∧ PostA K C M H m (Si23.step s c).1 (Si23.step s c).2 Q
def spTold (K : PySem.W.Frag) (C : Ad) : Sp := fun vs H Q E => ∃ k : Int, spA K C [.int k] (.told k) vs H Q E
def spTake (K : PySem.W.Frag) (C : Ad) : Sp := fun vs H Q E => ∃ (k : Int) (most : Nat), spA K C [.int k, .int most] (.take k most) vs H Q E
section
variable {K : PySem.W.Frag} {C : Ad} {M M' : Mem} {H H' : Hp} {m d : Addr} {ad qd : Nat → Addr} {kvs : List (Key × V)} {s : Si23.St}
/-- a refusal, or a bare number: nothing is changed -/
theorem PostA.plain {a : Si23.Ans} {z : Int} {Q : VK} (q : PostA K C M H m s a Q) (ha : a = Si23.say z) (R : Rep K C M H' m d ad qd kvs s) (f : Fr M H M H') : spPlain C [.int z] H' Q E0 := by
  subst ha
  exact ⟨z, rfl, fun H1 r s1 a1 => q _ _ _ _ _ _ _ (f.trans (Fr.same s1)) (R.same s1) a1⟩
theorem Rep.got (R : Rep K C M H m d ad qd kvs s) {k : Int} {x : Si23.Sock} (hx : s.get k = some x) : DGet H d (V.int k) (some (V.ref (ad k.toNat))) := by
  have := DGet.k (k := Sum.inl k) R.dict; rw [R.there hx] at this; exact this
end
section
variable {P : Program} {w : World} {K : PySem.W.Frag} {mg : Str → Option Value} {base : Heap} {A : Ad}
theorem okT_Machine_told (T : Tx K mg A) : FnOk P w K mg base CX0 4 A.f_Machine_told A.d_Machine_told ["self", "k"] (spTold K A) := by
  have G_Answer_init := okT_Answer_init (P := P) (w := w) (base := base) T
  have G_plain := okT_plain (P := P) (w := w) (base := base) T
  refine T.F_Machine_told.ok sc_Machine_told (fun vs H Q E h => ?_) (fun cdv A' outer s H vs Q E hr h => ?_)
  · obtain ⟨k, M, m, d, ad, qd, kvs, sc, rfl, _⟩ := h
    rfl
  · obtain ⟨k, M, m, d, ad, qd, kvs, sc, rfl, R, q⟩ := h
    obtain ⟨dm, hm⟩ := R.mach
    have hu := hu_of hr
    obtain ⟨t_NO_SUCH_SOCKET, e_NO_SUCH_SOCKET⟩ := T.i_NO_SUCH_SOCKET
    refine ⟨_, (pss_cons (ps_if (pt_cmp (pc_dnotin hu (pv 1) (pe_fld (pv 0) rfl))) (pss_one (ps_ret (pe_call G_plain (hr.mono (by decide)) rfl T.mg_plain T.F_plain.kp T.b_plain .nil pass0 (pa_cons (pe_gi rfl e_NO_SUCH_SOCKET) pa_nil)))) pss_nil)
      (pss_cons (ps_set (i := 2) sc_Machine_told.nd rfl (Or.inl rfl) (pe_dget hu (pe_fld (pv 0) rfl) (pv 1) (fun _ _ => rfl)))
      (pss_cons (ps_set (i := 3) sc_Machine_told.nd rfl (Or.inl rfl) (pe_op op_cat (pe_lst (pa_cons (pe_fld (pv 2) rfl) (pa_cons (pe_fld (pv 2) rfl) pa_nil))) (pe_callTy call_list_of (by rfl) T.z_list PyProof.Rows.boot_list (pa_cons (pe_fld (pv 2) rfl) pa_nil))))
      (pss_one (ps_ret (pe_make T.mk_Answer G_Answer_init (hr.mono (by decide)) rfl T.mg_Answer T.b_Answer_init .nil pass0 (pa_cons pe_int (pa_cons (pe_op op_cat (pv 3) (pe_lst (pa_cons (pe_callB call_len_seq (by rfl) T.z_len PySem.boot_len (pa_cons (pe_fld (pv 2) rfl) pa_nil)) (pa_cons (pe_fld (pv 2) rfl) pa_nil)))) (pa_cons (pe_lst pa_nil) (pa_cons (pe_lst pa_nil) pa_nil)))))))))), ?_⟩
    refine ⟨_, rfl, _, rfl, m, _, dm, _, _, rfl, hm, T.cls_Machine, T.no_Machine_sockets, mf_get_sockets _ _, d, _, rfl, DGet.k (k := Sum.inl k) R.dict, _, rfl, ?_⟩
    try dsimp only
    rw [R.isSome]
    cases hx : sc.get k with
    | none =>
      rw [if_pos (by rfl)]
      have es : Si23.step sc (.told k) = (sc, Si23.say (-2)) := by simp only [Si23.step, hx]
      rw [es] at q
      exact q.plain rfl R (Fr.refl _ _)
    | some x =>
      rw [if_neg (by simp)]
      obtain ⟨hk0, hsx⟩ := get_some.mp hx
      obtain ⟨dx, pe, rs, er, ha, hpe, hq, hms, her⟩ := (R.sock _ x hsx).ex
      have es : Si23.step sc (.told k) = (sc, ⟨0, [x.at_, x.port, (x.peer.map fun p => p.1).getD 0, (x.peer.map fun p => p.2).getD 0, x.queue.length, x.lost], [], []⟩) := by simp only [Si23.step, hx]
      rw [es] at q
      refine ⟨_, rfl, m, _, dm, _, _, rfl, hm, T.cls_Machine, T.no_Machine_sockets, mf_get_sockets _ _, _, rfl, d, _, rfl, R.got hx, ?_⟩
      refine ⟨_, rfl, ad k.toNat, _, dx, _, _, rfl, ha, T.cls_Socket, T.no_Socket_address, sf_get_address _ _ _ _ _ _ _, _, rfl, ad k.toNat, _, dx, _, _, rfl, ha, T.cls_Socket, T.no_Socket_port, sf_get_port _ _ _ _ _ _ _, (by show 2 ≤ sizeLine; decide), fun l1 h1 => ?_⟩
      have s1 := same_new h1 (o := .lst [V.int (x.at_ : Int), V.int (x.port : Int)])
      refine ⟨_, rfl, ad k.toNat, _, dx, _, _, rfl, (s1 _ _ ha), T.cls_Socket, T.no_Socket_peer, sf_get_peer _ _ _ _ _ _ _, pe, _, rfl, .inr (Same.tup s1 hpe.sq), fun l2 h2 => ⟨l1, l2, _, _, rfl, rfl, same_new h2 _ _ upd_same, upd_same, (by show 4 ≤ sizeLine; decide), fun l3 h3 => ?_⟩⟩
      have s3 := (s1.trans (same_new h2 (o := .lst [V.int (peerA x), V.int (peerP x)]))).trans (same_new h3 (o := .lst ([V.int (x.at_ : Int), V.int (x.port : Int)] ++ [V.int (peerA x), V.int (peerP x)])))
      have e3 := upd_same (H := (upd (upd H l1 (.lst [V.int (x.at_ : Int), V.int (x.port : Int)])) l2 (.lst [V.int (peerA x), V.int (peerP x)]))) (a := l3) (o := .lst ([V.int (x.at_ : Int), V.int (x.port : Int)] ++ [V.int (peerA x), V.int (peerP x)]))
      generalize upd (upd (upd H l1 (.lst [V.int (x.at_ : Int), V.int (x.port : Int)])) l2 (.lst [V.int (peerA x), V.int (peerP x)])) l3 (.lst ([V.int (x.at_ : Int), V.int (x.port : Int)] ++ [V.int (peerA x), V.int (peerP x)])) = H3 at *
      refine ⟨_, rfl, _, rfl, ad k.toNat, _, dx, _, _, rfl, (s3 _ _ ha), T.cls_Socket, T.no_Socket_queue, sf_get_queue _ _ _ _ _ _ _, qd k.toNat, _, rfl, .inl (SqL.of (s3 _ _ hq)), _, rfl, ad k.toNat, _, dx, _, _, rfl, (s3 _ _ ha), T.cls_Socket, T.no_Socket_lost, sf_get_lost _ _ _ _ _ _ _, (by show 2 ≤ sizeLine; decide), fun l4 h4 => ?_⟩
      refine ⟨l3, l4, _, _, rfl, rfl, same_new h4 _ _ e3, upd_same, (by show 6 ≤ sizeLine; decide), fun l5 h5 => ⟨Nat.zero_le _, fun l6 h6 => ⟨Nat.zero_le _, fun l7 h7 => fun y dy hy hdy hne => ⟨y, dy, _, _, _, _, rfl, upd_same, rfl, ?_⟩⟩⟩⟩
      have hrl : ((rs.map V.ref).length : Int) = (x.queue.length : Int) := by rw [List.length_map, Paired.length hms]
      have ef : ([V.int (x.at_ : Int), V.int (x.port : Int)] ++ [V.int (peerA x), V.int (peerP x)]) ++ [V.int ((rs.map V.ref).length : Int), V.int (x.lost : Int)] = nats [x.at_, x.port, (x.peer.map fun p => p.1).getD 0, (x.peer.map fun p => p.2).getD 0, x.queue.length, x.lost] := by
        rw [hrl]
        have h1 : peerA x = (((x.peer.map fun p => p.1).getD 0 : Nat) : Int) := by unfold peerA; cases x.peer <;> rfl
        have h2 : peerP x = (((x.peer.map fun p => p.2).getD 0 : Nat) : Int) := by unfold peerP; cases x.peer <;> rfl
        rw [h1, h2]; rfl
      have s4 := same_new h4 (o := .lst [V.int ((rs.map V.ref).length : Int), V.int (x.lost : Int)])
      rw [ef] at h6 h7 hy hdy ⊢
      have s5 := same_new h5 (o := .lst (nats [x.at_, x.port, (x.peer.map fun p => p.1).getD 0, (x.peer.map fun p => p.2).getD 0, x.queue.length, x.lost]))
      obtain ⟨s8, a8⟩ := ans_made (C := A) (a := ⟨0, [x.at_, x.port, (x.peer.map fun p => p.1).getD 0, (x.peer.map fun p => p.2).getD 0, x.queue.length, x.lost], [], []⟩) (ws := []) (same_new h7 _ _ (same_new h6 _ _ upd_same)) (same_new h7 _ _ upd_same) upd_same .nil hy hdy
      have S := (((((s3.trans s4).trans s5).trans (same_new h6)).trans (same_new h7)).trans s8)
      exact q _ _ _ _ _ _ _ (Fr.same S) (R.same S) a8
theorem okT_Machine_take (T : Tx K mg A) : FnOk P w K mg base CX0 4 A.f_Machine_take A.d_Machine_take ["self", "k", "most"] (spTake K A) := by
  have G_Answer_init := okT_Answer_init (P := P) (w := w) (base := base) T
  have G_plain := okT_plain (P := P) (w := w) (base := base) T
  refine T.F_Machine_take.ok sc_Machine_take (fun vs H Q E h => ?_) (fun cdv A' outer s H vs Q E hr h => ?_)
  · obtain ⟨k, most, M, m, d, ad, qd, kvs, sc, rfl, _⟩ := h
    rfl
  · obtain ⟨k, most, M, m, d, ad, qd, kvs, sc, rfl, R, q⟩ := h
    obtain ⟨dm, hm⟩ := R.mach
    have hu := hu_of hr
    obtain ⟨t_MOST_TAKEN, e_MOST_TAKEN⟩ := T.i_MOST_TAKEN
    obtain ⟨t_NOT_AS_TOLD, e_NOT_AS_TOLD⟩ := T.i_NOT_AS_TOLD
    obtain ⟨t_NO_SUCH_SOCKET, e_NO_SUCH_SOCKET⟩ := T.i_NO_SUCH_SOCKET
    refine ⟨_, (pss_cons (ps_if (pt_cmpR op_gt (pv 2) (pe_gi rfl e_MOST_TAKEN) (nomark _)) (pss_one (ps_ret (pe_call G_plain (hr.mono (by decide)) rfl T.mg_plain T.F_plain.kp T.b_plain .nil pass0 (pa_cons (pe_gi rfl e_NOT_AS_TOLD) pa_nil)))) pss_nil)
      (pss_cons (ps_if (pt_cmp (pc_dnotin hu (pv 1) (pe_fld (pv 0) rfl))) (pss_one (ps_ret (pe_call G_plain (hr.mono (by decide)) rfl T.mg_plain T.F_plain.kp T.b_plain .nil pass0 (pa_cons (pe_gi rfl e_NO_SUCH_SOCKET) pa_nil)))) pss_nil)
      (pss_cons (ps_set (i := 3) sc_Machine_take.nd rfl (Or.inl rfl) (pe_dget hu (pe_fld (pv 0) rfl) (pv 1) (fun _ _ => rfl)))
      (pss_cons (ps_if (pt_cmpR op_notN (pe_fld (pv 3) rfl) pe_non (nomark _)) (pss_cons (ps_set (i := 4) sc_Machine_take.nd rfl (Or.inl rfl) (pe_callTy call_list_of (by rfl) T.z_list PyProof.Rows.boot_list (pa_cons (pe_fld (pv 3) rfl) pa_nil)))
      (pss_cons (ps_fld (pv 3) pe_non rfl)
      (pss_one (ps_ret (pe_make T.mk_Answer G_Answer_init (hr.mono (by decide)) rfl T.mg_Answer T.b_Answer_init .nil pass0 (pa_cons pe_int (pa_cons (pv 4) (pa_cons (pe_lst pa_nil) (pa_cons (pe_lst pa_nil) pa_nil))))))))) pss_nil)
      (pss_cons (ps_if (pt_cmpR op_eq (pe_callB call_len_seq (by rfl) T.z_len PySem.boot_len (pa_cons (pe_fld (pv 3) rfl) pa_nil)) pe_int (nomark _)) (pss_one (ps_ret (pe_call G_plain (hr.mono (by decide)) rfl T.mg_plain T.F_plain.kp T.b_plain .nil pass0 (pa_cons pe_int pa_nil)))) pss_nil)
      (pss_cons (ps_set (i := 5) sc_Machine_take.nd rfl (Or.inl rfl) (pe_bm PySem.F.plainAttrs_list PySem.F.slot_list_pop PySem.F.type_list_pop mt_popAt (pe_fld (pv 3) rfl) (pa_cons pe_int pa_nil)))
      (pss_cons (ps_set (i := 4) sc_Machine_take.nd rfl (Or.inl rfl) (pe_op op_cat (pe_callTy call_list_of (by rfl) T.z_list PyProof.Rows.boot_list (pa_cons (pe_fld (pv 5) rfl) pa_nil)) (pe_lst (pa_cons (pe_fld (pv 5) rfl) (pa_cons (pe_callB call_len_seq (by rfl) T.z_len PySem.boot_len (pa_cons (pe_fld (pv 5) rfl) pa_nil)) pa_nil)))))
      (pss_one (ps_ret (pe_make T.mk_Answer G_Answer_init (hr.mono (by decide)) rfl T.mg_Answer T.b_Answer_init .nil pass0 (pa_cons pe_int (pa_cons (pv 4) (pa_cons (pe_slice sl_list (pe_fld (pv 5) rfl) po_none (po_some (pv 2))) (pa_cons (pe_lst pa_nil) pa_nil)))))))))))))), ?_⟩
    refine ⟨_, rfl, _, _, rfl, rfl, _, rfl, ?_⟩
    try dsimp only
    by_cases c0 : 65536 < most
    · rw [if_pos (decide_eq_true (by omega))]
      have es : Si23.step sc (.take k most) = (sc, Si23.say (-1)) := by unfold Si23.step; dsimp only; rw [if_pos c0]
      rw [es] at q
      exact q.plain rfl R (Fr.refl _ _)
    rw [if_neg (by simp; omega)]
    refine ⟨_, rfl, _, rfl, m, _, dm, _, _, rfl, hm, T.cls_Machine, T.no_Machine_sockets, mf_get_sockets _ _, d, _, rfl, DGet.k (k := Sum.inl k) R.dict, _, rfl, ?_⟩
    try dsimp only
    rw [R.isSome]
    cases hx : sc.get k with
    | none =>
      rw [if_pos (by rfl)]
      have es : Si23.step sc (.take k most) = (sc, Si23.say (-2)) := by unfold Si23.step; dsimp only; rw [if_neg c0, hx]
      rw [es] at q
      exact q.plain rfl R (Fr.refl _ _)
    | some x =>
      rw [if_neg (by simp)]
      obtain ⟨hk0, hsx⟩ := get_some.mp hx
      obtain ⟨dx, pe, rs, er, ha, hpe, hq, hms, her⟩ := (R.sock _ x hsx).ex
      have ms := R.ma _ x hsx
      refine ⟨_, rfl, m, _, dm, _, _, rfl, hm, T.cls_Machine, T.no_Machine_sockets, mf_get_sockets _ _, _, rfl, d, _, rfl, R.got hx, ?_⟩
      refine ⟨_, rfl, ad k.toNat, _, dx, _, _, rfl, ha, T.cls_Socket, T.no_Socket_error, sf_get_error _ _ _ _ _ _ _, rfl, _, rfl, ?_⟩
      try dsimp only
      rcases her with ⟨e1, rfl⟩ | ⟨t, ki, n, e1, rfl, het⟩
      · -- no error
        rw [if_neg (by simp)]
        refine ⟨_, rfl, ad k.toNat, _, dx, _, _, rfl, ha, T.cls_Socket, T.no_Socket_queue, sf_get_queue _ _ _ _ _ _ _, qd k.toNat, _, rfl, .inl (SqL.of hq), rfl, _, rfl, ?_⟩
        try dsimp only
        cases hqu : x.queue with
        | nil =>
          have hrs : rs = [] := by have := Paired.length hms; rw [hqu] at this; exact List.length_eq_zero_iff.mp this
          subst hrs
          rw [if_pos (by rfl)]
          have es : Si23.step sc (.take k most) = (sc, Si23.say 0) := by unfold Si23.step; dsimp only; rw [if_neg c0, hx]; dsimp only; rw [e1, hqu]
          rw [es] at q
          exact q.plain rfl R (Fr.refl _ _)
        | cons g gs =>
          rw [hqu] at hms
          obtain ⟨r, rs', rfl, hmg, hms'⟩ : ∃ r rs', rs = r :: rs' ∧ MsgAt K A M H r g ∧ MsgsAt K A M H rs' gs := by
            cases hms with
            | cons h1 h2 => exact ⟨_, _, rfl, h1, h2⟩
          have es : Si23.step sc (.take k most) = (sc.set k.toNat (some { x with queue := gs }), ⟨1, [g.from_, g.port, g.to_, g.body.length], g.body.take most, []⟩) := by unfold Si23.step; dsimp only; rw [if_neg c0, hx]; dsimp only; rw [e1, hqu]
          rw [es] at q
          rw [if_neg (by simp; omega)]
          obtain ⟨dr, t, b, g1, g2, g3, g4, g5⟩ := id hmg
          -- pop
          refine ⟨_, rfl, ad k.toNat, _, dx, _, _, rfl, ha, T.cls_Socket, T.no_Socket_queue, sf_get_queue _ _ _ _ _ _ _, .inl ⟨rfl, _, SqL.of hq⟩, qd k.toNat, _, 0, 0, _, rfl, rfl, hq, by decide, by decide, seqIndex_of (Int.le_refl 0) (by rw [List.length_map, List.length_cons]; omega), rfl, ?_⟩
          have e0 : ((r :: rs').map V.ref).eraseIdx 0 = rs'.map V.ref := rfl
          rw [e0]
          have F1 : Fr M H M (upd H (qd k.toNat) (.lst (rs'.map V.ref))) := Fr.write _ ms.2
          have naq : ad k.toNat ≠ qd k.toNat := ne_of ha hq (by intro z; cases z)
          have R1 := R.sockW (x' := { x with queue := gs }) (q' := qd k.toNat) hsx F1 (fun _ h => h) (fun b o e _ n2 => by rw [upd_ne n2]; exact e)
            ⟨dx, pe, rs', _, by rw [upd_ne naq]; exact ha, hpe.fr F1, upd_same, MsgsAt.fr F1 hms', .inl ⟨e1, rfl⟩⟩ ms.2 (.inl rfl) (fun t p e => R.good.peer _ x t p hsx e) (by have := R.good.qlen _ x hsx; rw [hqu] at this; exact Nat.le_of_succ_le this) (R.al.upd _ _)
          rw [qd_same] at R1
          have h1 := F1.stay _ _ g1 g2
          have h4 := F1.stay _ _ g4 g5
          have h3 := (g3.fr F1).sq
          generalize upd H (qd k.toNat) (.lst (rs'.map V.ref)) = H1 at *
          -- figures
          refine ⟨_, rfl, r, _, dr, _, _, rfl, h1, T.cls_Message, T.no_Message_sender, gf_get_sender _ _ _, t, _, rfl, .inr h3, fun l1 e1' => ?_⟩
          have s1 := same_new e1' (o := .lst [V.int (g.from_ : Int), V.int (g.port : Int)])
          refine ⟨_, rfl, r, _, dr, _, _, rfl, (s1 _ _ h1), T.cls_Message, T.no_Message_to_address, gf_get_to_address _ _ _, _, rfl, r, _, dr, _, _, rfl, (s1 _ _ h1), T.cls_Message, T.no_Message_body, gf_get_body _ _ _, b, _, rfl, .inl (SqL.of (s1 _ _ h4)), (by show 2 ≤ sizeLine; decide), fun l2 e2 => ?_⟩
          refine ⟨l1, l2, _, _, rfl, rfl, same_new e2 _ _ upd_same, upd_same, (by show 4 ≤ sizeLine; decide), fun l3 e3 => ?_⟩
          have ef : [V.int (g.from_ : Int), V.int (g.port : Int)] ++ [V.int (g.to_ : Int), V.int ((byt g.body).length : Int)] = nats [g.from_, g.port, g.to_, g.body.length] := by rw [byt_len]; rfl
          rw [ef]
          have s2 := s1.trans (same_new e2 (o := .lst [V.int (g.to_ : Int), V.int ((byt g.body).length : Int)]))
          have s3 := s2.trans (same_new e3 (o := .lst (nats [g.from_, g.port, g.to_, g.body.length])))
          have hl3 := upd_same (H := upd (upd H1 l1 (.lst [V.int (g.from_ : Int), V.int (g.port : Int)])) l2 (.lst [V.int (g.to_ : Int), V.int ((byt g.body).length : Int)])) (a := l3) (o := .lst (nats [g.from_, g.port, g.to_, g.body.length]))
          generalize upd (upd (upd H1 l1 (.lst [V.int (g.from_ : Int), V.int (g.port : Int)])) l2 (.lst [V.int (g.to_ : Int), V.int ((byt g.body).length : Int)])) l3 (.lst (nats [g.from_, g.port, g.to_, g.body.length])) = H3 at *
          -- the body's first bytes
          refine ⟨_, rfl, _, rfl, r, _, dr, _, _, rfl, (s3 _ _ h1), T.cls_Message, T.no_Message_body, gf_get_body _ _ _, _, rfl, _, rfl, b, _, rfl, SqL.of (s3 _ _ h4), fun l4 e4 => ?_⟩
          rw [cut_to, byt_take]
          refine ⟨Nat.zero_le _, fun l5 e5 => fun y dy hy hdy hne => ⟨y, dy, _, _, _, _, rfl, upd_same, rfl, ?_⟩⟩
          obtain ⟨s6, a6⟩ := ans_made (C := A) (a := ⟨1, [g.from_, g.port, g.to_, g.body.length], g.body.take most, []⟩) (ws := []) (same_new e5 _ _ (same_new e4 _ _ hl3)) (same_new e5 _ _ upd_same) upd_same .nil hy hdy
          have S := (((s3.trans (same_new e4)).trans (same_new e5)).trans s6)
          exact q _ _ _ _ _ _ _ (F1.trans (Fr.same S)) (R1.same S) a6
      · -- an error
        rw [if_pos (by simp)]
        have es : Si23.step sc (.take k most) = (sc.set k.toNat (some { x with bad := none }), ⟨2, [ki, n], [], []⟩) := by unfold Si23.step; dsimp only; rw [if_neg c0, hx]; dsimp only; rw [e1]
        rw [es] at q
        refine ⟨_, rfl, ad k.toNat, _, dx, _, _, rfl, ha, T.cls_Socket, T.no_Socket_error, sf_get_error _ _ _ _ _ _ _, t, _, rfl, .inr het.sq, fun l1 h1 => ?_⟩
        have s1 := same_new h1 (o := .lst [V.int (ki : Int), V.int (n : Int)])
        have el := upd_same (H := H) (a := l1) (o := .lst [V.int (ki : Int), V.int (n : Int)])
        have R1 := R.same s1
        have F1 : Fr M H M (upd H l1 (.lst [V.int (ki : Int), V.int (n : Int)])) := Fr.same s1
        have ha1 := s1 _ _ ha
        have nl : l1 ≠ ad k.toNat := fun z => by rw [z] at h1; rw [h1] at ha; cases ha
        generalize upd H l1 (.lst [V.int (ki : Int), V.int (n : Int)]) = H1 at *
        refine ⟨_, rfl, ad k.toNat, _, dx, _, rfl, ha1, T.cls_Socket, T.no_Socket_error, (by show 7 < 1000; decide), ?_⟩
        have R2 := R1.sockF (x' := { x with bad := none }) (pe := pe) (dx := dx) (er := .non) hsx ha1 rfl (hpe.fr F1) (.inl ⟨rfl, rfl⟩) (fun t p e => R.good.peer _ x t p hsx e)
        have F2 : Fr M H1 M (upd H1 (ad k.toNat) (.ins A.c_Socket dx (sv { x with bad := none } pe (qd k.toNat) .non))) := Fr.write _ ms.1
        have el2 : (upd H1 (ad k.toNat) (.ins A.c_Socket dx (sv { x with bad := none } pe (qd k.toNat) .non))) l1 = some (.lst [V.int (ki : Int), V.int (n : Int)]) := by rw [upd_ne nl]; exact el
        have ep : putF "error" .non (sv x pe (qd k.toNat) (.ref t)) = sv { x with bad := none } pe (qd k.toNat) .non := rfl
        rw [ep]
        generalize upd H1 (ad k.toNat) (.ins A.c_Socket dx (sv { x with bad := none } pe (qd k.toNat) .non)) = H2 at *
        refine ⟨_, rfl, Nat.zero_le _, fun l2 h2 => ⟨Nat.zero_le _, fun l3 h3 => fun y dy hy hdy hne => ⟨y, dy, _, _, _, _, rfl, upd_same, rfl, ?_⟩⟩⟩
        obtain ⟨s6, a6⟩ := ans_made (C := A) (a := ⟨2, [ki, n], [], []⟩) (ws := []) (same_new h3 _ _ (same_new h2 _ _ el2)) (same_new h3 _ _ upd_same) upd_same .nil hy hdy
        have S := (((same_new h2).trans (same_new h3)).trans s6)
        exact q _ _ _ _ _ _ _ ((F1.trans F2).trans (Fr.same S)) (R2.same S) a6
end
end Sm



set_option Elab.async false
set_option linter.all false
set_option maxRecDepth 100000
namespace Sm
open PySem PySem.Spec PyProof.Rows L2
def live (s : Si23.St) : List Nat := (List.range 64).filter fun k => ((s.socks[k]?).join).isSome
theorem join_some {s : Si23.St} {k : Nat} : ((s.socks[k]?).join).isSome = true ↔ ∃ x, s.socks[k]? = some (some x) := by
  cases h : s.socks[k]? with
  | none => simp
  | some o => cases o <;> simp
theorem join_is {s : Si23.St} {k : Nat} {x : Si23.Sock} (h : s.socks[k]? = some (some x)) : (s.socks[k]?).join = some x := by rw [h]; rfl
theorem mem_live {s : Si23.St} (hg : s.socks.length = 64) {k : Nat} : k ∈ live s ↔ ∃ x, s.socks[k]? = some (some x) := by
  unfold live
  rw [List.mem_filter, List.mem_range, join_some]
  constructor
  · exact fun h => h.2
  · rintro ⟨x, h⟩
    exact ⟨by have := (List.getElem?_eq_some_iff.mp h).1; omega, x, h⟩
theorem live_lt (s : Si23.St) : (live s).Pairwise (· < ·) := List.Pairwise.filter _ List.pairwise_lt_range
theorem live_len (s : Si23.St) : (live s).length ≤ 64 := by
  have := List.length_filter_le (fun k => ((s.socks[k]?).join).isSome) (List.range 64)
  rw [List.length_range] at this; exact this
def intsOf (l : List Nat) : List Int := l.map fun (k : Nat) => (k : Int)
def vals (l : List Nat) : List V := l.map fun (k : Nat) => V.int (k : Int)
theorem vals_ints (l : List Nat) : (intsOf l).map V.int = vals l := by simp [intsOf, vals]
theorem vals_len (l : List Nat) : (vals l).length = l.length := by simp [vals]
section
variable {K : PySem.W.Frag} {C : Ad} {M M' : Mem} {H H' : Hp} {m d : Addr} {ad qd : Nat → Addr} {kvs : List (Key × V)} {s : Si23.St}
theorem Rep.keys (R : Rep K C M H m d ad qd kvs s) : ∃ ns : List Int, kvs.map (·.1) = ns.map Sum.inl := by
  have : ∀ l : List (Key × V), (∀ kv ∈ l, ∃ (k : Nat) (x : Si23.Sock), kv = (Sum.inl ((k : Nat) : Int), V.ref (ad k)) ∧ s.socks[k]? = some (some x)) → ∃ ns : List Int, l.map (·.1) = ns.map Sum.inl := by
    intro l
    induction l with
    | nil => intro _; exact ⟨[], rfl⟩
    | cons a l ih =>
      intro h
      obtain ⟨ns, e⟩ := ih fun kv hkv => h kv (List.mem_cons_of_mem _ hkv)
      obtain ⟨k, x, rfl, _⟩ := h a (List.mem_cons_self ..)
      exact ⟨(k : Int) :: ns, by rw [List.map_cons, e]; rfl⟩
  exact this kvs R.dir.mem
theorem Rep.sorted (R : Rep K C M H m d ad qd kvs s) {ns ns' : List Int} (hk : kvs.map (·.1) = ns.map Sum.inl) (hp : ns'.Perm ns) (ho : ns'.Pairwise (· ≤ ·)) : ns' = intsOf (live s) := by
  have nd : ns.Nodup := by
    have := R.dir.nd
    rw [hk] at this
    rw [List.Nodup, List.pairwise_map] at this
    exact this.imp fun h e => h (by rw [e])
  have lt : (intsOf (live s)).Pairwise (· < ·) := by
    unfold intsOf
    rw [List.pairwise_map]
    exact (live_lt s).imp fun h => by omega
  have nd2 : (intsOf (live s)).Nodup := lt.imp fun h => by omega
  have pm : ns.Perm (intsOf (live s)) := by
    rw [List.perm_ext_iff_of_nodup nd nd2]
    intro a
    unfold intsOf
    rw [List.mem_map]
    constructor
    · intro h
      have : (Sum.inl a : Key) ∈ kvs.map (·.1) := by rw [hk]; exact List.mem_map.mpr ⟨a, h, rfl⟩
      obtain ⟨kv, hkv, e⟩ := List.mem_map.mp this
      obtain ⟨k, x, rfl, hx⟩ := R.dir.mem kv hkv
      exact ⟨k, (mem_live R.good.len).mpr ⟨x, hx⟩, Sum.inl.inj e⟩
    · rintro ⟨k, h, rfl⟩
      obtain ⟨x, hx⟩ := (mem_live R.good.len).mp h
      have : (Sum.inl (k : Int) : Key) ∈ ns.map Sum.inl := by rw [← hk]; exact List.mem_map.mpr ⟨_, R.dir.has k x hx, rfl⟩
      obtain ⟨b, hb, e⟩ := List.mem_map.mp this
      rw [← Sum.inl.inj e]; exact hb
  exact PySem.W.ksm_same (hp.trans pm) ho (lt.imp fun h => by omega)
theorem Rep.cell (R : Rep K C M H m d ad qd kvs s) {k : Nat} {x : Si23.Sock} (h : s.socks[k]? = some (some x)) : Cell K C H (ad k) x := by
  obtain ⟨dx, pe, rs, er, ha, hpe, _⟩ := (R.sock k x h).ex
  exact ⟨dx, pe, qd k, er, ha, hpe.sq, fun t p e => R.good.peer k x t p h e⟩
theorem Rep.gotN (R : Rep K C M H m d ad qd kvs s) {k : Nat} {x : Si23.Sock} (h : s.socks[k]? = some (some x)) : DGet H d (V.int (k : Int)) (some (V.ref (ad k))) := by
  have := DGet.k (k := Sum.inl (k : Int)) R.dict; rw [R.dir.val h] at this; exact this
/-- a new object that may be changed -/
theorem Rep.grow (R : Rep K C M H m d ad qd kvs s) {p : Addr} (o : HO) (hp : H p = none) : Rep K C (M1 M p) (upd H p o) m d ad qd kvs s := by
  obtain ⟨dm, hm⟩ := R.mach
  have f : Fr M H (M1 M p) (upd H p o) := Fr.newM _ hp
  refine ⟨⟨dm, same_new hp _ _ hm⟩, same_new hp _ _ R.dict, R.dir, fun k x h => (R.sock k x h).fr f (fun o z => same_new hp _ _ z) (fun o z => same_new hp _ _ z), R.apart, R.ne, .inl R.mm, .inl R.md, fun k x h => ⟨.inl (R.ma k x h).1, .inl (R.ma k x h).2⟩, R.good, R.al.updM _ _⟩
/-- something that is kept apart is changed -/
theorem Rep.other (R : Rep K C M H m d ad qd kvs s) {p : Addr} (o : HO) (hp : M p) (h1 : p ≠ m) (h2 : p ≠ d) (h3 : ∀ k x, s.socks[k]? = some (some x) → p ≠ ad k ∧ p ≠ qd k) : Rep K C M (upd H p o) m d ad qd kvs s := by
  obtain ⟨dm, hm⟩ := R.mach
  have st : ∀ b u, H b = some u → ¬ M b → upd H p o b = some u := fun b u e n => by rw [upd_ne (fun z => n (by rw [z]; exact hp))]; exact e
  have tf : ∀ {q : Addr} {xs : List V}, TupF K M H q xs → TupF K M (upd H p o) q xs := fun h => h.elim (fun h => .inl ⟨st _ _ h.1 h.2, h.2⟩) .inr
  have mf_ : ∀ {r : Addr} {g : Si23.Got}, MsgAt K C M H r g → MsgAt K C M (upd H p o) r g := fun ⟨dr, t, b, h1, h2, h3, h4, h5⟩ => ⟨dr, t, b, st _ _ h1 h2, h2, tf h3, st _ _ h4 h5, h5⟩
  refine ⟨⟨dm, by rw [upd_ne (Ne.symm h1)]; exact hm⟩, by rw [upd_ne (Ne.symm h2)]; exact R.dict, R.dir, fun k x h => ?_, R.apart, R.ne, R.mm, R.md, R.ma, R.good, R.al.upd _ _⟩
  obtain ⟨dx, pe, rs, er, ha, hpe, hq, hms, her⟩ := (R.sock k x h).ex
  refine ⟨dx, pe, rs, er, by rw [upd_ne (Ne.symm (h3 k x h).1)]; exact ha, tf hpe, by rw [upd_ne (Ne.symm (h3 k x h).2)]; exact hq, Paired.mapP hms fun _ _ z => mf_ z, ?_⟩
  rcases her with z | ⟨t, a, b, e1, e2, e3⟩
  · exact .inl z
  · exact .inr ⟨t, a, b, e1, e2, tf e3⟩
end
def hearP (s : Si23.St) (f sp dp k : Nat) : Bool := match (s.socks[k]?).join with
  | some x => x.all && decide (fitsAny x f sp dp)
  | none => false
def hearL (s : Si23.St) (f sp dp : Nat) : List Nat := (live s).filter (hearP s f sp dp)
theorem hear_spec (s : Si23.St) (f t sp dp : Nat) : ((List.range Si23.SOCKETS).filter fun k => match (s.socks[k]?).join with
    | some x => x.all && decide (0 < ({ x with at_ := 0 } : Si23.Sock).fits f t sp dp)
    | none => false) = hearL s f sp dp := by
  unfold hearL live
  rw [List.filter_filter]
  refine List.filter_congr fun k _ => ?_
  unfold hearP
  cases (s.socks[k]?).join with
  | none => rfl
  | some x =>
    simp only [Option.isSome_some, Bool.and_true]
    congr 1
    rw [decide_eq_decide, fits_eq]
    by_cases c : fitsAny x f sp dp
    · rw [if_pos ⟨.inl rfl, c⟩]; exact ⟨fun _ => c, fun _ => by omega⟩
    · rw [if_neg (fun z => c z.2)]; exact ⟨fun z => absurd z (by omega), fun z => absurd z c⟩
def spHearing (K : PySem.W.Frag) (C : Ad) : Sp := fun vs H Q _ => ∃ (M : Mem) (m d : Addr) (ad qd : Nat → Addr) (kvs : List (Key × V)) (s : Si23.St) (sd : Addr) (f sp dp : Nat),
  vs = [.ref m, .ref sd, .int dp] ∧ Rep K C M H m d ad qd kvs s ∧ SqT K H sd [.int f, .int sp] ∧ ∀ H' p, Same H H' → H p = none → H' p = some (.lst (vals (hearL s f sp dp))) → Q (.ref p) H'
/-- the best of those of l -/
def Bst (s : Si23.St) (f t sp dp : Nat) (l : List Nat) : Option Nat → Prop
  | none => ∀ j ∈ l, score s f t sp dp j = 0
  | some k => k ∈ l ∧ 0 < score s f t sp dp k ∧ (∀ j ∈ l, score s f t sp dp j ≤ score s f t sp dp k) ∧ ∀ j ∈ l, j < k → score s f t sp dp j < score s f t sp dp k
theorem score_is {s : Si23.St} {f t sp dp k : Nat} {x : Si23.Sock} (h : s.socks[k]? = some (some x)) : score s f t sp dp k = x.fits f t sp dp := by unfold score; rw [h]
theorem Bst.best {s : Si23.St} (hg : s.socks.length = 64) {f t sp dp : Nat} {o : Option Nat} (h : Bst s f t sp dp (live s) o) : s.best f t sp dp = o := by
  have out : ∀ j, j ∉ live s → score s f t sp dp j = 0 := fun j hj => by
    unfold score
    cases e : s.socks[j]? with
    | none => rfl
    | some y =>
      cases y with
      | none => rfl
      | some x => exact absurd ((mem_live hg).mpr ⟨x, e⟩) hj
  cases o with
  | none =>
    refine best_none fun j _ => ?_
    by_cases c : j ∈ live s
    · exact h j c
    · exact out j c
  | some k =>
    obtain ⟨h1, h2, h3, h4⟩ := h
    obtain ⟨x, hx⟩ := (mem_live hg).mp h1
    refine best_some (List.getElem?_eq_some_iff.mp hx).1 h2 (fun j _ => ?_) fun j hj => ?_
    · by_cases c : j ∈ live s
      · exact h3 j c
      · rw [out j c]; omega
    · by_cases c : j ∈ live s
      · exact h4 j c hj
      · rw [out j c]; exact h2
def optL : Option Nat → List V
  | none => []
  | some k => [V.int (k : Int)]
def spBestF (K : PySem.W.Frag) (C : Ad) : Sp := fun vs H Q _ => ∃ (M : Mem) (m d : Addr) (ad qd : Nat → Addr) (kvs : List (Key × V)) (s : Si23.St) (sd : Addr) (f t sp dp : Nat),
  vs = [.ref m, .ref sd, .int t, .int dp] ∧ Rep K C M H m d ad qd kvs s ∧ SqT K H sd [.int f, .int sp] ∧ ∀ H' p, Same H H' → H p = none → H' p = some (.lst (optL (s.best f t sp dp))) → Q (.ref p) H'
theorem take_mem {α : Type} {l : List α} {i : Nat} {x : α} (h : l[i]? = some x) : ∀ y, y ∈ l.take (i + 1) ↔ y ∈ l.take i ∨ y = x := fun y => by
  rw [List.take_succ, h]; simp
theorem take_before {l : List Nat} (hp : l.Pairwise (· < ·)) {i x : Nat} (h : l[i]? = some x) : ∀ y ∈ l.take i, y < x := fun y hy => by
  obtain ⟨j, hj⟩ := List.mem_iff_getElem?.mp hy
  have hji : j < i := by have := (List.getElem?_eq_some_iff.mp hj).1; rw [List.length_take] at this; omega
  rw [List.getElem?_take, if_pos hji] at hj
  obtain ⟨h1, e1⟩ := List.getElem?_eq_some_iff.mp hj
  obtain ⟨h2, e2⟩ := List.getElem?_eq_some_iff.mp h
  rw [← e1, ← e2]
  exact List.pairwise_iff_getElem.mp hp j i h1 h2 hji
section
variable {P : Program} {w : World} {K : PySem.W.Frag} {mg : Str → Option Value} {base : Heap} {A : Ad}
theorem blk_hearing : BlkOk ["self", "sender", "port", "k"] (defScope s_Machine_hearing) (retScope ((defBody s_Machine_hearing).getD 0 (.Pass ⟨0, 0, 0, 0⟩))) [("k", 3)] := ⟨rfl, by decide +kernel, by decide +kernel, by decide +kernel, by decide +kernel⟩
theorem okT_Machine_hearing (T : Tx K mg A) : FnOk P w K mg base CX0 2 A.f_Machine_hearing A.d_Machine_hearing ["self", "sender", "port"] (spHearing K A) := by
  have G_fits_at_any := okT_fits_at_any (P := P) (w := w) (base := base) T
  refine T.F_Machine_hearing.ok sc_Machine_hearing (fun vs H Q E h => ?_) (fun cdv A' outer s H vs Q E hr h => ?_)
  · obtain ⟨M, m, d, ad, qd, kvs, sc, sd, f, sp, dp, rfl, _⟩ := h
    rfl
  · obtain ⟨M, m, d, ad, qd, kvs, sc, sd, f, sp, dp, rfl, R, hsd, q⟩ := h
    obtain ⟨dm, hm⟩ := R.mach
    have hu := hu_of hr
    refine ⟨_, (pss_one (ps_ret (pe_lc (own := [("k", 3)]) (g := gName 3) (tt := tAnd (tTest (tOp rEq (tFld K (tDGet (tFld K (tVar 0) "sockets") (tVar 3)) "hears") (tC (.int 1)))) (tB (tCall (spFitsAny K A) [] E0 (tCons (tDGet (tFld K (tVar 0) "sockets") (tVar 3)) (tCons (tVar 1) (tCons (tVar 2) tNil)))))) (te := tVar 3) rfl sc_Machine_hearing.nd (pi_list (pe_callB (cr_sortedD rfl) (by rfl) T.z_sorted PyProof.Rows.boot_sorted (pa_cons (pe_fld (pv 0) rfl) pa_nil))) blk_hearing (fun s H C cl fp => pg_name (i := 3) sc_Machine_hearing.nd rfl (Or.inl rfl)) (fun s H C cl fp => pts_one (PW.pt (pw_and (pt_cmpR op_eq (pe_fld (pe_dget hu (pe_fld (pv 0) rfl) (pv 3) (fun _ _ => rfl)) rfl) pe_int (nomark _)) (pw_and1 (pt_val (pe_call G_fits_at_any (hr.mono (by decide)) rfl T.mg_fits_at_any T.F_fits_at_any.kp T.b_fits_at_any .nil pass0 (pa_cons (pe_dget hu (pe_fld (pv 0) rfl) (pv 3) (fun _ _ => rfl)) (pa_cons (pv 1) (pa_cons (pv 2) pa_nil))))))))) (fun s H C cl fp => pv 3)))), ?_⟩
    obtain ⟨ns, hns⟩ := R.keys
    refine ⟨_, rfl, m, _, dm, _, _, rfl, hm, T.cls_Machine, T.no_Machine_sockets, mf_get_sockets _ _, d, kvs, ns, rfl, R.dict, hns, fun ns' p hperm hsort hp => ?_⟩
    obtain rfl := R.sorted hns hperm hsort
    rw [vals_ints]
    have s1 := same_new hp (o := .lst (vals (live sc)))
    have R1 := R.same s1
    have hsd1 := Same.tup s1 hsd
    have hm1 := s1 _ _ hm
    have hp1 := upd_same (H := H) (a := p) (o := .lst (vals (live sc)))
    generalize upd H p (.lst (vals (live sc))) = H1 at *
    refine ⟨p, rfl, ⟨_, SqL.of hp1⟩, fun D hD => ?_⟩
    obtain ⟨Pv, hPv⟩ : ∃ Pv : Nat → Hp → Prop, ∀ i H', Pv i H' ↔ H' = upd H1 D (.lst (vals (((live sc).take i).filter (hearP sc f sp dp)))) := ⟨_, fun _ _ => Iff.rfl⟩
    refine lc_list (xs := vals (live sc)) Pv ?_ ?_ ?_ ?_
    · exact (hPv _ _).mpr rfl
    · intro i H' hi h
      obtain rfl := (hPv _ _).mp h
      exact SqL.of (same_new hD _ _ hp1)
    · intro i v H' hi h
      obtain rfl := (hPv _ _).mp h
      unfold vals at hi
      rw [List.getElem?_map] at hi
      obtain ⟨k, hk, rfl⟩ := Option.map_eq_some_iff.mp hi
      obtain ⟨x, hx⟩ := (mem_live R.good.len).mp (List.mem_of_getElem? hk)
      have s2 := same_new hD (o := .lst (vals (((live sc).take i).filter (hearP sc f sp dp))))
      have R2 := R1.same s2
      have hm2 := s2 _ _ hm1
      have hsd2 := Same.tup s2 hsd1
      obtain ⟨dx, pe, rs, er, ha, _⟩ := (R2.sock _ x hx).ex
      have eh : hearP sc f sp dp k = (x.all && decide (fitsAny x f sp dp)) := by unfold hearP; rw [join_is hx]
      have fl : (((live sc).take (i + 1)).filter (hearP sc f sp dp)) = ((live sc).take i).filter (hearP sc f sp dp) ++ (if hearP sc f sp dp k = true then [k] else []) := by
        rw [take_snoc hk, List.filter_append]
        by_cases e : hearP sc f sp dp k = true
        · rw [if_pos e, List.filter_cons, if_pos e]; rfl
        · rw [if_neg e, List.filter_cons, if_neg e]; rfl
      refine ⟨rfl, _, rfl, m, _, dm, _, _, rfl, hm2, T.cls_Machine, T.no_Machine_sockets, mf_get_sockets _ _, _, rfl, d, _, rfl, R2.gotN hx, ad k, _, dx, _, _, rfl, ha, T.cls_Socket, T.no_Socket_hears, sf_get_hears _ _ _ _ _ _ _, rfl, _, rfl, ?_⟩
      try dsimp only
      cases hall : x.all with
      | false =>
        rw [if_neg (by simp [b01])]
        rw [hall, Bool.false_and] at eh
        rw [if_neg (by simp)]
        refine (hPv _ _).mpr ?_
        rw [fl, if_neg (by rw [eh]; simp), List.append_nil]
      | true =>
        rw [if_pos (by simp [b01])]
        rw [hall, Bool.true_and] at eh
        refine ⟨_, rfl, m, _, dm, _, _, rfl, hm2, T.cls_Machine, T.no_Machine_sockets, mf_get_sockets _ _, _, rfl, d, _, rfl, R2.gotN hx, _, rfl, _, rfl, ad k, sd, x, f, sp, dp, rfl, R2.cell hx, hsd2, _, rfl, ?_⟩
        try dsimp only
        by_cases c : fitsAny x f sp dp
        · rw [decide_eq_true c] at eh
          rw [if_pos (decide_eq_true c)]
          refine ⟨_, rfl, _, upd_same, ?_, (hPv _ _).mpr ?_⟩
          · rw [vals_len]; exact Nat.lt_of_le_of_lt (Nat.le_trans (List.length_filter_le _ _) (Nat.le_trans (by rw [List.length_take]; exact Nat.min_le_right _ _) (live_len sc))) (by decide)
          · rw [upd_upd, fl, if_pos eh]; unfold vals; rw [List.map_append]; rfl
        · rw [decide_eq_false c] at eh
          rw [if_neg (by simpa using c)]
          refine (hPv _ _).mpr ?_
          rw [fl, if_neg (by rw [eh]; simp), List.append_nil]
    · intro H' h
      obtain rfl := (hPv _ _).mp h
      refine q _ D (s1.trans (same_new hD)) (s1.free hD) ?_
      rw [upd_same, vals_len, List.take_length]; rfl
theorem okT_Machine_best_fitting (T : Tx K mg A) : FnOk P w K mg base CX0 3 A.f_Machine_best_fitting A.d_Machine_best_fitting ["self", "sender", "address", "port"] (spBestF K A) := by
  have G_fits := okT_fits (P := P) (w := w) (base := base) T
  have G_rank := okT_rank (P := P) (w := w) (base := base) T
  refine T.F_Machine_best_fitting.ok sc_Machine_best_fitting (fun vs H Q E h => ?_) (fun cdv A' outer s H vs Q E hr h => ?_)
  · obtain ⟨M, m, d, ad, qd, kvs, sc, sd, f, t, sp, dp, rfl, _⟩ := h
    rfl
  · obtain ⟨M, m, d, ad, qd, kvs, sc, sd, f, t, sp, dp, rfl, R, hsd, q⟩ := h
    obtain ⟨dm, hm⟩ := R.mach
    have hu := hu_of hr
    refine ⟨_, (pss_cons (ps_set (i := 4) sc_Machine_best_fitting.nd rfl (Or.inl rfl) (pe_lst pa_nil))
      (pss_cons (ps_for PassesOwn.never rfl (pi_list (pe_callB (cr_sortedD rfl) (by rfl) T.z_sorted PyProof.Rows.boot_sorted (pa_cons (pe_fld (pv 0) rfl) pa_nil))) (pg_name (i := 5) sc_Machine_best_fitting.nd rfl (Or.inl rfl))
        (pss_cons (ps_set (i := 6) sc_Machine_best_fitting.nd rfl (Or.inl rfl) (pe_dget hu (pe_fld (pv 0) rfl) (pv 5) (fun _ _ => rfl)))
      (pss_one (ps_if (PW.pt (pw_and (pt_val (pe_call G_fits (hr.mono (by decide)) rfl T.mg_fits T.F_fits.kp T.b_fits .nil pass0 (pa_cons (pv 6) (pa_cons (pv 1) (pa_cons (pv 2) (pa_cons (pv 3) pa_nil)))))) (pw_and1 (PW.pt (pw_or (pt_cmpR (op_eqN hr.units) (pv 4) (pe_lst pa_nil) (nomark _)) (pw_or1 (pt_cmpR op_gt (pe_call G_rank (hr.mono (by decide)) rfl T.mg_rank T.F_rank.kp T.b_rank .nil pass0 (pa_cons (pv 6) pa_nil)) (pe_call G_rank (hr.mono (by decide)) rfl T.mg_rank T.F_rank.kp T.b_rank .nil pass0 (pa_cons (pe_dget hu (pe_fld (pv 0) rfl) (pe_ix ix_list (pv 4) pe_int (fun _ _ => rfl)) (fun _ _ => rfl)) pa_nil)) (nomark _)))))))) (pss_one (ps_set (i := 4) sc_Machine_best_fitting.nd rfl (Or.inl rfl) (pe_lst (pa_cons (pv 5) pa_nil)))) pss_nil))))
      (pss_one (ps_ret (pv 4))))), ?_⟩
    obtain ⟨ns, hns⟩ := R.keys
    refine ⟨Nat.zero_le _, fun b0 hb0 => ?_⟩
    have s0 := same_new hb0 (o := .lst [])
    have hb1 := upd_same (H := H) (a := b0) (o := .lst [])
    have R0 := R.same s0
    have hm0 := s0 _ _ hm
    generalize upd H b0 (.lst []) = H0 at *
    refine ⟨_, rfl, m, _, dm, _, _, rfl, hm0, T.cls_Machine, T.no_Machine_sockets, mf_get_sockets _ _, d, kvs, ns, rfl, R0.dict, hns, fun ns' p hperm hsort hp => ?_⟩
    obtain rfl := R0.sorted hns hperm hsort
    rw [vals_ints]
    have s1 := same_new hp (o := .lst (vals (live sc)))
    have hp1 := upd_same (H := H0) (a := p) (o := .lst (vals (live sc)))
    have hb2 := s1 _ _ hb1
    have s01 := s0.trans s1
    generalize upd H0 p (.lst (vals (live sc))) = H1 at *
    refine ⟨p, rfl, ⟨_, SqL.of hp1⟩, ?_⟩
    obtain ⟨Pv, hPv⟩ : ∃ Pv : Nat → L2.St → Hp → Prop, ∀ i σ H', Pv i σ H' ↔ ∃ o vb v5 v6, σ = [some (.ref m), some (.ref sd), some (.int t), some (.int dp), some (.ref vb), v5, v6] ∧ Same H1 H' ∧ H vb = none ∧ H' vb = some (.lst (optL o)) ∧ Bst sc f t sp dp ((live sc).take i) o := ⟨_, fun _ _ _ => Iff.rfl⟩
    refine for_list (xs := vals (live sc)) Pv ?_ ?_ ?_ ?_
    · exact (hPv _ _ _).mpr ⟨none, b0, _, _, rfl, Same.refl _, hb0, hb2, fun j hj => by cases hj⟩
    · intro i σ H' hi h
      obtain ⟨o, vb, v5, v6, rfl, s2, _⟩ := (hPv _ _ _).mp h
      exact SqL.of (s2 _ _ hp1)
    · intro i v σ H' hi h
      obtain ⟨o, vb, v5, v6, rfl, s2, hvb, hbl, hB⟩ := (hPv _ _ _).mp h
      unfold vals at hi
      rw [List.getElem?_map] at hi
      obtain ⟨k, hk, rfl⟩ := Option.map_eq_some_iff.mp hi
      obtain ⟨x, hx⟩ := (mem_live R.good.len).mp (List.mem_of_getElem? hk)
      have S := s01.trans s2
      have R2 := R.same S
      have hm2 := S _ _ hm
      have hsd2 := Same.tup S hsd
      have sx := score_is (f := f) (t := t) (sp := sp) (dp := dp) hx
      have before := take_before (live_lt sc) hk
      have tm := take_mem hk
      refine ⟨_, rfl, m, _, dm, _, _, rfl, hm2, T.cls_Machine, T.no_Machine_sockets, mf_get_sockets _ _, _, rfl, d, _, rfl, R2.gotN hx, ?_⟩
      refine ⟨_, rfl, _, rfl, _, rfl, _, rfl, ad k, sd, x, f, t, sp, dp, rfl, R2.cell hx, hsd2, _, rfl, ?_⟩
      try dsimp only
      by_cases c1 : 0 < x.fits f t sp dp
      · rw [if_pos (decide_eq_true c1)]
        have fx : x.fits f t sp dp = 1 + rankOf x := by
          rw [fits_eq] at c1 ⊢
          by_cases c : (x.at_ = 0 ∨ x.at_ = t) ∧ fitsAny x f sp dp
          · rw [if_pos c]
          · rw [if_neg c] at c1; omega
        -- the new best
        have new : ∀ H2, Same H' H2 → (∀ j ∈ (live sc).take i, score sc f t sp dp j < score sc f t sp dp k) → 1 ≤ sizeLine ∧ ∀ l, H2 l = none → Pv (i + 1) [some (.ref m), some (.ref sd), some (.int t), some (.int dp), some (.ref l), some (.int (k : Int)), some (.ref (ad k))] (upd H2 l (.lst [V.int (k : Int)])) := fun H2 s3 hlt =>
          ⟨by decide, fun l hl => (hPv _ _ _).mpr ⟨some k, l, _, _, rfl, (s2.trans s3).trans (same_new hl), (S.trans s3).free hl, upd_same, (tm k).mpr (.inr rfl), by rw [sx]; exact c1, fun j hj => by
            rcases (tm j).mp hj with h | h
            · exact Nat.le_of_lt (hlt j h)
            · rw [h]; exact Nat.le_refl _, fun j hj hjk => by
            rcases (tm j).mp hj with h | h
            · exact hlt j h
            · omega⟩⟩
        refine ⟨_, rfl, Nat.zero_le _, fun l0 hl0 => ?_⟩
        have s3 := same_new hl0 (o := .lst [])
        cases o with
        | none =>
          refine ⟨vb, l0, rfl, rfl, SqL.of upd_same, .inl ⟨SqL.of (s3 _ _ hbl), _, rfl, ?_⟩⟩
          try dsimp only
          rw [if_pos rfl, if_pos rfl]
          obtain ⟨n1, n2⟩ := new _ s3 fun j hj => by rw [hB j hj, sx]; exact c1
          exact ⟨_, rfl, n1, n2⟩
        | some kb =>
          obtain ⟨b1, b2, b3, b4⟩ := hB
          obtain ⟨xb, hxb⟩ := (mem_live R.good.len).mp (List.mem_of_mem_take b1)
          have sb := score_is (f := f) (t := t) (sp := sp) (dp := dp) hxb
          have fb : xb.fits f t sp dp = 1 + rankOf xb := by
            rw [sb] at b2
            rw [fits_eq] at b2 ⊢
            by_cases c : (xb.at_ = 0 ∨ xb.at_ = t) ∧ fitsAny xb f sp dp
            · rw [if_pos c]
            · rw [if_neg c] at b2; omega
          refine ⟨vb, l0, rfl, rfl, SqL.of upd_same, .inr ⟨(kb : Int), SqL.of (s3 _ _ hbl), _, rfl, ?_⟩⟩
          try dsimp only
          rw [if_neg (by simp)]
          have R3 := R2.same s3
          refine ⟨_, rfl, ad k, x, rfl, R3.cell hx, _, rfl, m, _, dm, _, _, rfl, (s3 _ _ hm2), T.cls_Machine, T.no_Machine_sockets, mf_get_sockets _ _, _, rfl, vb, _, _, _, rfl, rfl, SqL.of (s3 _ _ hbl), atI_nat (j := 0) rfl, d, _, rfl, R3.gotN hxb, ad kb, xb, rfl, R3.cell hxb, _, _, rfl, rfl, _, rfl, ?_⟩
          try dsimp only
          by_cases c2 : rankOf xb < rankOf x
          · rw [if_pos (decide_eq_true (by omega))]
            obtain ⟨n1, n2⟩ := new _ s3 fun j hj => by have := b3 j hj; rw [sx, fx]; rw [sb, fb] at this; omega
            exact ⟨_, rfl, n1, n2⟩
          · rw [if_neg (by simp; omega)]
            refine (hPv _ _ _).mpr ⟨some kb, vb, _, _, rfl, s2.trans s3, hvb, s3 _ _ hbl, (tm kb).mpr (.inl b1), b2, fun j hj => ?_, fun j hj hjk => ?_⟩
            · rcases (tm j).mp hj with h | h
              · exact b3 j h
              · rw [h, sx, sb, fx, fb]; omega
            · rcases (tm j).mp hj with h | h
              · exact b4 j h hjk
              · have := before kb b1; omega
      · rw [if_neg (by simpa using c1)]
        have z0 : score sc f t sp dp k = 0 := by rw [sx]; omega
        refine (hPv _ _ _).mpr ⟨o, vb, _, _, rfl, s2, hvb, hbl, ?_⟩
        cases o with
        | none =>
          intro j hj
          rcases (tm j).mp hj with h | h
          · exact hB j h
          · rw [h]; exact z0
        | some kb =>
          obtain ⟨b1, b2, b3, b4⟩ := hB
          refine ⟨(tm kb).mpr (.inl b1), b2, fun j hj => ?_, fun j hj hjk => ?_⟩
          · rcases (tm j).mp hj with h | h
            · exact b3 j h
            · rw [h, z0]; omega
          · rcases (tm j).mp hj with h | h
            · exact b4 j h hjk
            · rw [h, z0]; exact b2
    · intro σ H' h
      obtain ⟨o, vb, v5, v6, rfl, s2, hvb, hbl, hB⟩ := (hPv _ _ _).mp h
      rw [vals_len, List.take_length] at hB
      have e := hB.best R.good.len
      refine ⟨_, rfl, q _ vb (s01.trans s2) hvb ?_⟩
      rw [e]; exact hbl
end
end Sm



set_option Elab.async false
set_option linter.all false
set_option maxRecDepth 100000
namespace Sm
open PySem PySem.Spec PyProof.Rows L2
open Si23Neutral (wanted)
/-- one more socket gets it -/
def dl (g : Si23.Got) (y : Si23.St × List Si23.Want) (k : Nat) : Si23.St × List Si23.Want := ((y.1.deliver k g).1, y.2 ++ (y.1.deliver k g).2)
def spHand (K : PySem.W.Frag) (C : Ad) : Sp := fun vs H Q _ => ∃ (M : Mem) (m d : Addr) (ad qd : Nat → Addr) (kvs : List (Key × V)) (s : Si23.St) (gl r : Addr) (g : Si23.Got) (ks : List Nat),
  vs = [.ref m, .ref gl, .ref r] ∧ Rep K C M H m d ad qd kvs s ∧ H gl = some (.lst (vals ks)) ∧ ¬ M gl ∧ MsgAt K C M H r g ∧ g.body.length ≤ 100000 ∧ ks.length ≤ 1000 ∧ (∀ k ∈ ks, ∃ x, s.socks[k]? = some (some x)) ∧
  PostA K C M H m (ks.foldl (dl g) (s, [])).1 ⟨ks.length, [], [], (ks.foldl (dl g) (s, [])).2⟩ Q
theorem deliver_is {s : Si23.St} {k : Nat} {x : Si23.Sock} {g : Si23.Got} (h : s.socks[k]? = some (some x)) : s.deliver k g = if x.room g = true then (s.set k (some { x with queue := x.queue ++ [g] }), if x.queue = [] ∧ x.bad = none then [.ready k] else []) else (s.set k (some { x with lost := x.lost + 1 }), []) := by
  unfold Si23.St.deliver
  rw [join_is h]
theorem room_first {x : Si23.Sock} {g : Si23.Got} (h : x.queue = []) (hg : g.body.length ≤ 100000) : x.room g = true := by
  unfold Si23.Sock.room
  rw [h]
  have : Si23.KEPT = 131072 := rfl
  have : Si23.weight [] = 0 := rfl
  simp only [List.length_nil, Bool.and_eq_true, decide_eq_true_eq]
  exact ⟨by decide, by omega⟩
def WF (M : Mem) (H : Hp) (a : Addr) (wt : Si23.Want) : Prop := WantAt H a wt ∧ ¬ M a
section
variable {P : Program} {w : World} {K : PySem.W.Frag} {mg : Str → Option Value} {base : Heap} {A : Ad}
theorem okT_Machine_hand_over (T : Tx K mg A) : FnOk P w K mg base CX0 4 A.f_Machine_hand_over A.d_Machine_hand_over ["self", "getting", "message"] (spHand K A) := by
  have G_Answer_init := okT_Answer_init (P := P) (w := w) (base := base) T
  have G_get_message := okT_get_message (P := P) (w := w) (base := base) T
  have G_has_something := okT_has_something (P := P) (w := w) (base := base) T
  have G_something_now := okT_something_now (P := P) (w := w) (base := base) T
  refine T.F_Machine_hand_over.ok sc_Machine_hand_over (fun vs H Q E h => ?_) (fun cdv A' outer s H vs Q E hr h => ?_)
  · obtain ⟨M, m, d, ad, qd, kvs, sc, gl, r, g, ks, rfl, _⟩ := h
    rfl
  · obtain ⟨M, m, d, ad, qd, kvs, sc, gl, r, g, ks, rfl, R, hgl, ngl, hmg, hbl, hkl, hlv, q⟩ := h
    obtain ⟨dm, hm⟩ := R.mach
    have hu := hu_of hr
    refine ⟨_, (pss_cons (ps_set (i := 3) sc_Machine_hand_over.nd rfl (Or.inl rfl) (pe_lst pa_nil))
      (pss_cons (ps_for PassesOwn.never rfl (pi_list (pv 1)) (pg_name (i := 4) sc_Machine_hand_over.nd rfl (Or.inl rfl))
        (pss_cons (ps_cut (ps_if (pt_not (pt_val (pe_call G_has_something (hr.mono (by decide)) rfl T.mg_has_something T.F_has_something.kp T.b_has_something .nil pass0 (pa_cons (pe_dget hu (pe_fld (pv 0) rfl) (pv 4) (fun _ _ => rfl)) pa_nil)))) (pss_one (ps_expr (pe_bm PySem.F.plainAttrs_list PySem.F.slot_list_append PySem.F.type_list_append mt_append (pv 3) (pa_cons (pe_call G_something_now (hr.mono (by decide)) rfl T.mg_something_now T.F_something_now.kp T.b_something_now .nil pass0 (pa_cons (pv 4) pa_nil)) pa_nil)))) pss_nil))
      (pss_one (ps_expr (pe_call G_get_message (hr.mono (by decide)) rfl T.mg_get_message T.F_get_message.kp T.b_get_message .nil pass0 (pa_cons (pe_dget hu (pe_fld (pv 0) rfl) (pv 4) (fun _ _ => rfl)) (pa_cons (pv 2) pa_nil)))))))
      (pss_one (ps_ret (pe_make T.mk_Answer G_Answer_init (hr.mono (by decide)) rfl T.mg_Answer T.b_Answer_init .nil pass0 (pa_cons (pe_callB call_len_seq (by rfl) T.z_len PySem.boot_len (pa_cons (pv 1) pa_nil)) (pa_cons (pe_lst pa_nil) (pa_cons (pe_lst pa_nil) (pa_cons (pv 3) pa_nil))))))))), ?_⟩
    refine ⟨Nat.zero_le _, fun wl hwl => ?_⟩
    have F0 : Fr M H (M1 M wl) (upd H wl (.lst [])) := Fr.newM _ hwl
    have R0 := R.grow (.lst []) hwl
    have hmg0 := hmg.fr F0
    have hgl0 := F0.stay _ _ hgl ngl
    have ngl0 := F0.out hgl ngl
    have hw0 := upd_same (H := H) (a := wl) (o := .lst [])
    have wm : wl ≠ m := fun z => by rw [z] at hwl; rw [hwl] at hm; cases hm
    have wd : wl ≠ d := fun z => by rw [z] at hwl; have := R.dict; rw [hwl] at this; cases this
    have ws_ : ∀ k x, sc.socks[k]? = some (some x) → wl ≠ ad k ∧ wl ≠ qd k := fun k x hx => by
      obtain ⟨dx, pe, rs, er, ha, hpe, hq, _⟩ := (R.sock k x hx).ex
      exact ⟨Ne.symm (ne_of_none ha hwl), Ne.symm (ne_of_none hq hwl)⟩
    generalize upd H wl (.lst []) = H0 at *
    refine ⟨_, rfl, gl, rfl, ⟨_, SqL.of hgl0⟩, ?_⟩
    obtain ⟨Pv, hPv⟩ : ∃ Pv : Nat → L2.St → Hp → Prop, ∀ i σ H', Pv i σ H' ↔ ∃ v4 ws, σ = [some (.ref m), some (.ref gl), some (.ref r), some (.ref wl), v4] ∧ Fr (M1 M wl) H0 (M1 M wl) H' ∧ Rep K A (M1 M wl) H' m d ad qd kvs ((ks.take i).foldl (dl g) (sc, [])).1 ∧ H' wl = some (.lst (ws.map V.ref)) ∧ ws.length ≤ i ∧ Paired (WF (M1 M wl) H') ws ((ks.take i).foldl (dl g) (sc, [])).2 ∧
      ∀ k : Nat, (∃ x, ((ks.take i).foldl (dl g) (sc, [])).1.socks[k]? = some (some x)) ↔ ∃ x, sc.socks[k]? = some (some x) := ⟨_, fun _ _ _ => Iff.rfl⟩
    refine for_list (xs := vals ks) Pv ?_ ?_ ?_ ?_
    · exact (hPv _ _ _).mpr ⟨_, [], rfl, Fr.refl _ _, R0, hw0, Nat.le_refl _, .nil, fun k => Iff.rfl⟩
    · intro i σ H' hi h
      obtain ⟨v4, ws, rfl, F, _⟩ := (hPv _ _ _).mp h
      exact SqL.of (F.stay _ _ hgl0 ngl0)
    · intro i v σ H' hi h
      obtain ⟨v4, ws, rfl, F, R', hwl', hwsl, hws, hlive⟩ := (hPv _ _ _).mp h
      unfold vals at hi
      rw [List.getElem?_map] at hi
      obtain ⟨k, hk, rfl⟩ := Option.map_eq_some_iff.mp hi
      have hik : i < ks.length := (List.getElem?_eq_some_iff.mp hk).1
      obtain ⟨x, hx⟩ := (hlive k).mpr (hlv k (List.mem_of_getElem? hk))
      obtain ⟨dm', hm'⟩ := R'.mach
      obtain ⟨dx, pe, rs, er, ha, hpe, hq, hms, her⟩ := (R'.sock k x hx).ex
      have fold1 : (ks.take (i + 1)).foldl (dl g) (sc, []) = dl g ((ks.take i).foldl (dl g) (sc, [])) k := by rw [take_snoc hk, List.foldl_append]; rfl
      generalize hy : (ks.take i).foldl (dl g) (sc, []) = y at *
      have wlq : wl ≠ ad k ∧ wl ≠ qd k := by
        obtain ⟨x0, hx0⟩ := (hlive k).mp ⟨x, hx⟩
        exact ws_ k x0 hx0
      have hrsl : rs.length ≤ 1000 := by have h1 := Paired.length hms; have h2 := R'.good.qlen k x hx; rw [h1]; omega
      -- who has nothing is to have something now
      refine ⟨fun σ' H1 => ∃ ws', σ' = [some (.ref m), some (.ref gl), some (.ref r), some (.ref wl), some (.int (k : Int))] ∧ Fr (M1 M wl) H0 (M1 M wl) H1 ∧ Rep K A (M1 M wl) H1 m d ad qd kvs y.1 ∧ H1 wl = some (.lst (ws'.map V.ref)) ∧ ws'.length ≤ i + 1 ∧ Paired (WF (M1 M wl) H1) ws' (y.2 ++ if x.queue = [] ∧ x.bad = none then [.ready k] else []) ∧ (∀ b o, H' b = some o → b ≠ wl → H1 b = some o), ?_, ?_⟩
      · refine ⟨_, rfl, m, _, dm', _, _, rfl, hm', T.cls_Machine, T.no_Machine_sockets, mf_get_sockets _ _, _, rfl, d, _, rfl, R'.gotN hx, ad k, dx, pe, qd k, er, x, M1 M wl, 0, _, rfl, ha, her, hq, by rw [List.length_map]; exact Paired.length hms, _, rfl, ?_⟩
        try dsimp only
        by_cases c : x.queue = [] ∧ x.bad = none
        · rw [decide_eq_false (by simpa using c), if_pos (by rfl)]
          refine ⟨_, rfl, .inl ⟨rfl, _, SqL.of hwl'⟩, _, rfl, (k : Int), rfl, fun l hl => ⟨wl, _, _, rfl, rfl, same_new hl _ _ hwl', ?_, ?_⟩⟩
          · rw [List.length_map]; exact Nat.lt_of_le_of_lt (show ws.length ≤ 1000 by omega) (by decide)
          have nl : ¬ (M1 M wl) l := R'.al.out hl
          have nlw : l ≠ wl := fun z => by rw [z, hwl'] at hl; cases hl
          have F1 : Fr (M1 M wl) H' (M1 M wl) (upd (upd H' l (.lst [V.int 2, V.int (k : Int)])) wl (.lst (ws.map V.ref ++ [V.ref l]))) := (Fr.new _ hl).trans (Fr.write _ (.inr rfl))
          have R1 := (R'.same (same_new hl (o := .lst [V.int 2, V.int (k : Int)]))).other (p := wl) (.lst (ws.map V.ref ++ [V.ref l])) (.inl (.inr rfl)) wm wd (fun k' x' h' => by obtain ⟨x0, hx0⟩ := (hlive k').mp ⟨x', h'⟩; exact ws_ k' x0 hx0)
          refine ⟨ws ++ [l], rfl, F.trans F1, R1, by rw [upd_same, List.map_append]; rfl, by rw [List.length_append]; simp; omega, ?_, fun b o e n => by rw [upd_ne n]; exact same_new hl _ _ e⟩
          rw [if_pos c]
          have hl2 : (upd (upd H' l (.lst [V.int 2, V.int (k : Int)])) wl (.lst (ws.map V.ref ++ [V.ref l]))) l = some (.lst [V.int 2, V.int (k : Int)]) := by rw [upd_ne nlw, upd_same]
          have old := Paired.mapP (G := WF (M1 M wl) (upd (upd H' l (.lst [V.int 2, V.int (k : Int)])) wl (.lst (ws.map V.ref ++ [V.ref l])))) hws fun a wt z => ⟨F1.stay _ _ z.1 z.2, z.2⟩
          have snoc : ∀ {l1 : List Addr} {l2 : List Si23.Want} {G : Addr → Si23.Want → Prop} {a : Addr} {b : Si23.Want}, Paired G l1 l2 → G a b → Paired G (l1 ++ [a]) (l2 ++ [b]) := fun h hg => by
            induction h with
            | nil => exact .cons hg .nil
            | cons a b ih => exact .cons a ih
          exact snoc old ⟨hl2, nl⟩
        · rw [decide_eq_true c, if_neg (by simp)]
          refine ⟨ws, rfl, F, R', hwl', by omega, ?_, fun b o e _ => e⟩
          rw [if_neg c, List.append_nil]; exact hws
      · rintro σ' H1 ⟨ws', rfl, F1, R1, hw1, hwl1, hws1, keep⟩
        obtain ⟨dm1, hm1⟩ := R1.mach
        have ha1 := keep _ _ ha (Ne.symm wlq.1)
        have hq1 := keep _ _ hq (Ne.symm wlq.2)
        have FF : Fr (M1 M wl) H' (M1 M wl) H1 := ⟨fun b o e n => keep b o e (fun z => n (.inr z)), fun _ h => .inl h, fun _ => Iff.rfl⟩
        have hms1 := hms.fr FF
        have hpe1 := hpe.fr FF
        have her1 := her.fr FF
        have hmg1 := hmg0.fr F1
        have mk := R1.ma k x hx
        have naq : ad k ≠ qd k := ne_of ha hq (by intro z; cases z)
        refine ⟨_, rfl, m, _, dm1, _, _, rfl, hm1, T.cls_Machine, T.no_Machine_sockets, mf_get_sockets _ _, _, rfl, d, _, rfl, R1.gotN hx, _, rfl, ad k, r, dx, pe, qd k, er, x, M1 M wl, rs, g, rfl, ha1, hq1, hms1, hmg1, hrsl, fun H2 s2 hrm => ?_, fun H2 s2 hrm => ?_⟩
        · -- there is room
          have hd : dl g y k = (y.1.set k (some { x with queue := x.queue ++ [g] }), y.2 ++ if x.queue = [] ∧ x.bad = none then [.ready k] else []) := by unfold dl; rw [deliver_is hx, if_pos hrm]
          have F2 : Fr (M1 M wl) H2 (M1 M wl) (upd H2 (qd k) (.lst ((rs ++ [r]).map V.ref))) := Fr.write _ mk.2
          have R2 := R1.same s2
          have R3 := R2.sockW (x' := { x with queue := x.queue ++ [g] }) (q' := qd k) hx F2 (fun _ h => h) (fun b o e _ n2 => by rw [upd_ne n2]; exact e)
            ⟨dx, pe, rs ++ [r], er, by rw [upd_ne naq]; exact s2 _ _ ha1, (hpe1.fr (Fr.same s2)).fr F2, upd_same, ((hms1.fr (Fr.same s2)).fr F2).snoc ((hmg1.fr (Fr.same s2)).fr F2), (her1.fr (Fr.same s2)).fr F2⟩ mk.2 (.inl rfl) (fun t p e => R1.good.peer _ x t p hx e) (by
              have h32 : x.room g = true := hrm
              unfold Si23.Sock.room at h32
              simp only [Bool.and_eq_true, decide_eq_true_eq] at h32
              have h33 : x.queue.length < 32 := h32.1
              rw [List.length_append]; simp; omega) (R2.al.upd _ _)
          rw [qd_same] at R3
          refine (hPv _ _ _).mpr ⟨_, ws', rfl, (F1.trans (Fr.same s2)).trans F2, ?_, ?_, hwl1, ?_, ?_⟩
          · rw [fold1, hd]; exact R3
          · rw [upd_ne wlq.2]; exact s2 _ _ hw1
          · rw [fold1, hd]
            exact Paired.mapP hws1 fun a wt z => ⟨F2.stay _ _ (s2 _ _ z.1) z.2, z.2⟩
          · intro k'
            rw [fold1, hd]
            rw [← hlive k']
            constructor
            · rintro ⟨x', h'⟩
              rcases set_at h' with ⟨e, _⟩ | ⟨_, h'⟩
              · subst e; exact ⟨x, hx⟩
              · exact ⟨x', h'⟩
            · rintro ⟨x', h'⟩
              by_cases e : k' = k
              · subst e; exact ⟨_, List.getElem?_set_self (List.getElem?_eq_some_iff.mp hx).1⟩
              · exact ⟨x', set_keep e h'⟩
        · -- one more is lost
          have nq : ¬ (x.queue = [] ∧ x.bad = none) := fun z => by rw [room_first z.1 hbl] at hrm; cases hrm
          have hd : dl g y k = (y.1.set k (some { x with lost := x.lost + 1 }), y.2 ++ []) := by unfold dl; rw [deliver_is hx, if_neg (by rw [hrm]; simp)]
          rw [if_neg nq] at hws1
          have F2 : Fr (M1 M wl) H2 (M1 M wl) (upd H2 (ad k) (.ins A.c_Socket dx (sv { x with lost := x.lost + 1 } pe (qd k) er))) := Fr.write _ mk.1
          have R2 := R1.same s2
          have R3 := R2.sockF (x' := { x with lost := x.lost + 1 }) (pe := pe) (dx := dx) (er := er) hx (s2 _ _ ha1) rfl (hpe1.fr (Fr.same s2)) (her1.fr (Fr.same s2)) (fun t p e => R1.good.peer _ x t p hx e)
          refine (hPv _ _ _).mpr ⟨_, ws', rfl, (F1.trans (Fr.same s2)).trans F2, ?_, ?_, hwl1, ?_, ?_⟩
          · rw [fold1, hd]; exact R3
          · rw [upd_ne wlq.1]; exact s2 _ _ hw1
          · rw [fold1, hd]
            exact Paired.mapP hws1 fun a wt z => ⟨F2.stay _ _ (s2 _ _ z.1) z.2, z.2⟩
          · intro k'
            rw [fold1, hd]
            rw [← hlive k']
            constructor
            · rintro ⟨x', h'⟩
              rcases set_at h' with ⟨e, _⟩ | ⟨_, h'⟩
              · subst e; exact ⟨x, hx⟩
              · exact ⟨x', h'⟩
            · rintro ⟨x', h'⟩
              by_cases e : k' = k
              · subst e; exact ⟨_, List.getElem?_set_self (List.getElem?_eq_some_iff.mp hx).1⟩
              · exact ⟨x', set_keep e h'⟩
    · intro σ H' h
      obtain ⟨v4, ws, rfl, F, R', hwl', hwsl, hws, hlive⟩ := (hPv _ _ _).mp h
      rw [vals_len, List.take_length] at R' hws hlive
      have hgl' := F.stay _ _ hgl0 ngl0
      refine ⟨_, rfl, gl, _, rfl, .inl (SqL.of hgl'), Nat.zero_le _, fun l2 h2 => ⟨Nat.zero_le _, fun l3 h3 => ⟨_, rfl, fun y dy hy hdy hne => ⟨y, dy, _, _, _, _, rfl, upd_same, rfl, ?_⟩⟩⟩⟩
      have S2 := (same_new h2 (o := .lst [])).trans (same_new h3 (o := .lst []))
      obtain ⟨s6, a6⟩ := ans_made (C := A) (a := ⟨ks.length, [], [], (ks.foldl (dl g) (sc, [])).2⟩) (ws := ws) (same_new h3 _ _ upd_same) upd_same (S2 _ _ hwl') (Paired.mapP hws fun a wt z => S2 _ _ z.1) hy hdy
      have S := S2.trans s6
      rw [vals_len]
      exact q _ _ _ _ _ _ _ ((F0.trans F).trans (Fr.same S)) (R'.same S) a6
end
end Sm



set_option Elab.async false
set_option linter.all false
set_option maxRecDepth 100000
namespace Sm
open PySem PySem.Spec PyProof.Rows L2
open Si23 (number be built)
def spSend (K : PySem.W.Frag) (C : Ad) : Sp := fun vs H Q _ => ∃ (M : Mem) (m d : Addr) (ad qd : Nat → Addr) (kvs : List (Key × V)) (s : Si23.St) (k : Int) (a t p : Nat) (r : Addr) (b : Si23.Bytes),
  vs = [.ref m, .int k, .int a, .int t, .int p, .ref r] ∧ Rep K C M H m d ad qd kvs s ∧ H r = some (.lst (byt b)) ∧ ¬ M r ∧ b.length ≤ 100000 ∧ PostA K C M H m (Si23.step s (.send k a t p b)).1 (Si23.step s (.send k a t p b)).2 Q
theorem bad_send {a t p : Nat} : (Si23.address a = false ∨ Si23.address t = false ∨ Si23.portOk p = false ∨ a = Si23.EVERYBODY ∨ (t = 0 ↔ p ≠ 0)) ↔ (4294967295 ≤ a ∨ 4294967295 < t ∨ 65535 < p ∨ (t = 0 ↔ p ≠ 0)) := by
  have h : Si23.EVERYBODY = 4294967295 := rfl
  rw [h]
  simp only [Si23.address, Si23.portOk, decide_eq_false_iff_not]
  omega
/-- where it goes -/
def toOf (x : Si23.Sock) (t p : Nat) : Nat × Nat := if t = 0 then x.peer.getD (0, 0) else (t, p)
theorem step_send {s : Si23.St} {k : Int} {x : Si23.Sock} {a t p : Nat} {b : Si23.Bytes} (hx : s.get k = some x) (nb : ¬ (4294967295 ≤ a ∨ 4294967295 < t ∨ 65535 < p ∨ (t = 0 ↔ p ≠ 0))) {na np : Nat} (hA : (if x.at_ = 0 then a else x.at_) = na) (hP : portFor s x = np) :
    Si23.step s (.send k a t p b) = if (x.peer = none ↔ t = 0) then (s, Si23.say (-4)) else if 65507 < b.length then (s, Si23.say (-7)) else if np = 0 then (s, Si23.say (-5)) else
      ({ s with socks := s.socks.set k.toNat (some { x with port := np }), turn := if x.port = 0 then (np - 49152 + 1) % 16384 else s.turn }, ⟨0, [], [], [.packet na (toOf x t p).1 (built na (toOf x t p).1 np (toOf x t p).2 b)]⟩) := by
  have hsx := (get_some.mp hx).2
  have key : ∀ u v : Nat, toOf x t p = (u, v) → (if Si23.LONGEST < b.length then (s, Si23.say (-7)) else match s.bound k.toNat x with
      | none => (s, Si23.say (-5))
      | some (w, z) => (w, ⟨0, [], [], [.packet (if z.at_ = 0 then a else z.at_) u (built (if z.at_ = 0 then a else z.at_) u z.port v b)]⟩)) = if 65507 < b.length then (s, Si23.say (-7)) else if np = 0 then (s, Si23.say (-5)) else
      ({ s with socks := s.socks.set k.toNat (some { x with port := np }), turn := if x.port = 0 then (np - 49152 + 1) % 16384 else s.turn }, ⟨0, [], [], [.packet na (toOf x t p).1 (built na (toOf x t p).1 np (toOf x t p).2 b)]⟩) := by
    intro u v huv
    rw [huv]
    have hL : Si23.LONGEST = 65507 := rfl
    rw [hL]
    by_cases cl : 65507 < b.length
    · rw [if_pos cl, if_pos cl]
    rw [if_neg cl, if_neg cl]
    unfold Si23.St.bound
    unfold portFor at hP
    by_cases c : x.port = 0
    · rw [if_neg (by simpa using c)]
      rw [if_pos c] at hP
      cases hf : s.free with
      | none =>
        rw [hf] at hP
        have : np = 0 := hP.symm
        rw [if_pos this]
        rfl
      | some fp =>
        rw [hf] at hP
        have e : fp = np := hP
        subst e
        have := free_ge hf
        rw [if_neg (by omega), if_pos c]
        simp only [Option.map_some]
        rw [hA]
        rfl
    · rw [if_pos c]
      rw [if_neg c] at hP
      subst hP
      rw [if_neg c, if_neg c]
      simp only
      rw [hA, set_self hsx]
  unfold Si23.step
  dsimp only
  rw [if_neg (fun z => nb (bad_send.mp z)), hx]
  dsimp only
  by_cases hn : x.peer = none
  · by_cases ct : t = 0
    · rw [if_pos ct, if_pos (show (x.peer = none ↔ t = 0) from ⟨fun _ => ct, fun _ => hn⟩), hn]
    · rw [if_neg ct, if_neg (show ¬ (x.peer.isSome = true) by rw [hn]; simp), if_neg (show ¬ (x.peer = none ↔ t = 0) from fun z => ct (z.mp hn))]
      exact key t p (by unfold toOf; rw [if_neg ct])
  · obtain ⟨⟨u, v⟩, hpe⟩ : ∃ pr, x.peer = some pr := by
      cases e : x.peer with
      | none => exact absurd e hn
      | some pr => exact ⟨pr, rfl⟩
    by_cases ct : t = 0
    · rw [if_pos ct, if_neg (show ¬ (x.peer = none ↔ t = 0) from fun z => hn (z.mpr ct))]
      refine Eq.trans ?_ (key u v (by unfold toOf; rw [if_pos ct, hpe]; rfl))
      rw [hpe]; rfl
    · rw [if_neg ct, if_pos (show x.peer.isSome = true by rw [hpe]; rfl), if_pos (show (x.peer = none ↔ t = 0) from ⟨fun z => absurd z hn, fun z => absurd z ct⟩)]
section
variable {P : Program} {w : World} {K : PySem.W.Frag} {mg : Str → Option Value} {base : Heap} {A : Ad}
theorem okT_Machine_send (T : Tx K mg A) : FnOk P w K mg base CX0 5 A.f_Machine_send A.d_Machine_send ["self", "k", "a", "t", "p", "body"] (spSend K A) := by
  have G_Answer_init := okT_Answer_init (P := P) (w := w) (base := base) T
  have G_Machine_give := okT_Machine_give (P := P) (w := w) (base := base) T
  have G_Machine_port_for := okT_Machine_port_for (P := P) (w := w) (base := base) T
  have G_datagram := okT_datagram (P := P) (w := w) (base := base) T
  have G_packet_sent := okT_packet_sent (P := P) (w := w) (base := base) T
  have G_plain := okT_plain (P := P) (w := w) (base := base) T
  refine T.F_Machine_send.ok sc_Machine_send (fun vs H Q E h => ?_) (fun cdv A' outer s H vs Q E hr h => ?_)
  · obtain ⟨M, m, d, ad, qd, kvs, sc, k, a, t, p, r, b, rfl, _⟩ := h
    rfl
  · obtain ⟨M, m, d, ad, qd, kvs, sc, k, a, t, p, r, b, rfl, R, hb, nb, hbl, q⟩ := h
    obtain ⟨dm, hm⟩ := R.mach
    have hu := hu_of hr
    obtain ⟨t_EVERYBODY, e_EVERYBODY⟩ := T.i_EVERYBODY
    obtain ⟨t_IN_THE_WAY, e_IN_THE_WAY⟩ := T.i_IN_THE_WAY
    obtain ⟨t_LAST_PORT, e_LAST_PORT⟩ := T.i_LAST_PORT
    obtain ⟨t_LONGEST_BODY, e_LONGEST_BODY⟩ := T.i_LONGEST_BODY
    obtain ⟨t_NONE_FREE, e_NONE_FREE⟩ := T.i_NONE_FREE
    obtain ⟨t_NOT_AS_TOLD, e_NOT_AS_TOLD⟩ := T.i_NOT_AS_TOLD
    obtain ⟨t_NO_SUCH_SOCKET, e_NO_SUCH_SOCKET⟩ := T.i_NO_SUCH_SOCKET
    obtain ⟨t_TOO_LONG, e_TOO_LONG⟩ := T.i_TOO_LONG
    refine ⟨_, (pss_cons (ps_cut (ps_if (PW.pt (pw_or (pt_cmpR op_ge (pv 2) (pe_gi rfl e_EVERYBODY) (nomark _)) (pw_or (pt_cmpR op_gt (pv 3) (pe_gi rfl e_EVERYBODY) (nomark _)) (pw_or (pt_cmpR op_gt (pv 4) (pe_gi rfl e_LAST_PORT) (nomark _)) (pw_or1 (pt_cmpR op_ne (pe_cmpR op_eq (pv 3) pe_int (nomark _)) (pe_cmpR op_eq (pv 4) pe_int (nomark _)) (nomark _))))))) (pss_one (ps_ret (pe_call G_plain (hr.mono (by decide)) rfl T.mg_plain T.F_plain.kp T.b_plain .nil pass0 (pa_cons (pe_gi rfl e_NOT_AS_TOLD) pa_nil)))) pss_nil))
      (pss_cons (ps_if (pt_cmp (pc_dnotin hu (pv 1) (pe_fld (pv 0) rfl))) (pss_one (ps_ret (pe_call G_plain (hr.mono (by decide)) rfl T.mg_plain T.F_plain.kp T.b_plain .nil pass0 (pa_cons (pe_gi rfl e_NO_SUCH_SOCKET) pa_nil)))) pss_nil)
      (pss_cons (ps_set (i := 6) sc_Machine_send.nd rfl (Or.inl rfl) (pe_dget hu (pe_fld (pv 0) rfl) (pv 1) (fun _ _ => rfl)))
      (pss_cons (ps_if (pt_cmpR op_eq (pe_cmpR (op_eqP hr.units) (pe_fld (pv 6) rfl) (pe_gr rfl T.t_NO_PEER) (nomark _)) (pe_cmpR op_eq (pv 3) pe_int (nomark _)) (nomark _)) (pss_one (ps_ret (pe_call G_plain (hr.mono (by decide)) rfl T.mg_plain T.F_plain.kp T.b_plain .nil pass0 (pa_cons (pe_gi rfl e_IN_THE_WAY) pa_nil)))) pss_nil)
      (pss_cons (ps_if (pt_cmpR op_gt (pe_callB call_len_seq (by rfl) T.z_len PySem.boot_len (pa_cons (pv 5) pa_nil)) (pe_gi rfl e_LONGEST_BODY) (nomark _)) (pss_one (ps_ret (pe_call G_plain (hr.mono (by decide)) rfl T.mg_plain T.F_plain.kp T.b_plain .nil pass0 (pa_cons (pe_gi rfl e_TOO_LONG) pa_nil)))) pss_nil)
      (pss_cons (ps_set (i := 7) sc_Machine_send.nd rfl (Or.inl rfl) (pe_meth (pv 0) T.cls_Machine T.m_Machine_port_for G_Machine_port_for (hr.mono (by decide)) T.b_Machine_port_for .nil pass0 (pa_cons (pv 6) pa_nil)))
      (pss_cons (ps_if (pt_cmpR op_eq (pv 7) pe_int (nomark _)) (pss_one (ps_ret (pe_call G_plain (hr.mono (by decide)) rfl T.mg_plain T.F_plain.kp T.b_plain .nil pass0 (pa_cons (pe_gi rfl e_NONE_FREE) pa_nil)))) pss_nil)
      (pss_cons (ps_cut (ps_expr (pe_meth (pv 0) T.cls_Machine T.m_Machine_give G_Machine_give (hr.mono (by decide)) T.b_Machine_give .nil pass0 (pa_cons (pv 6) (pa_cons (pv 7) pa_nil)))))
      (pss_cons (ps_set (i := 8) sc_Machine_send.nd rfl (Or.inl rfl) (pe_cut (pe_ifExp (pt_cmpR op_eq (pe_fld (pv 6) rfl) pe_int (nomark _)) (pv 2) (pe_fld (pv 6) rfl))))
      (pss_cons (ps_set (i := 9) sc_Machine_send.nd rfl (Or.inl rfl) (pe_cut (pe_ifExp (pt_cmpR op_eq (pv 3) pe_int (nomark _)) (pe_fld (pv 6) rfl) (pe_tup (pa_cons (pv 3) (pa_cons (pv 4) pa_nil))))))
      (pss_cons (ps_set (i := 10) sc_Machine_send.nd rfl (Or.inl rfl) (pe_call G_datagram (hr.mono (by decide)) rfl T.mg_datagram T.F_datagram.kp T.b_datagram .nil pass0 (pa_cons (pe_tup (pa_cons (pv 8) (pa_cons (pv 7) pa_nil))) (pa_cons (pv 9) (pa_cons (pv 5) pa_nil)))))
      (pss_one (ps_ret (pe_make T.mk_Answer G_Answer_init (hr.mono (by decide)) rfl T.mg_Answer T.b_Answer_init .nil pass0 (pa_cons pe_int (pa_cons (pe_lst pa_nil) (pa_cons (pe_lst pa_nil) (pa_cons (pe_lst (pa_cons (pe_call G_packet_sent (hr.mono (by decide)) rfl T.mg_packet_sent T.F_packet_sent.kp T.b_packet_sent .nil pass0 (pa_cons (pv 8) (pa_cons (pe_ix ix_tup (pv 9) pe_int (fun _ _ => rfl)) (pa_cons (pv 10) pa_nil)))) pa_nil)) pa_nil)))))))))))))))))), ?_⟩
    refine ⟨fun σ' H' => σ' = [some (V.ref m), some (V.int k), some (V.int a), some (V.int t), some (V.int p), some (V.ref r), none, none, none, none, none] ∧ H' = H ∧ ¬ (4294967295 ≤ a ∨ 4294967295 < t ∨ 65535 < p ∨ (t = 0 ↔ p ≠ 0)), ?_, ?_⟩
    · simp only [tSeq, tIfS, tTest, tOp, tOr, tAnd, tNot, tAndV, tOrV, tNotV, tIf, tVar, tC, tRet, tRetN, tDrop, tNext, tFld, sFld, tAsg, gName, gTup, gCons, gNil, tB, rEq, rNe, rI, rI0, scal_ii, scal_bb, cxK, ite_true, ite_false, if_true, if_false, tNil, tCons, tTup, tLst, tCall, tCB, tUn, tMeth, tMake, tDNewK, tDGet, tDIn, tDNotIn, sDPut, tDPop1, L2.start, List.replicate, Nat.reduceSub, Nat.reduceAdd, List.map_cons, List.map_nil, List.length_cons, List.length_nil, List.cons_append, List.nil_append, List.append_nil, List.getElem?_cons_zero, List.getElem?_cons_succ, List.set_cons_zero, List.set_cons_succ, Option.some.injEq, List.cons.injEq, kV_inl, Bool.false_eq_true, reduceCtorEq, V.int.injEq, V.bl.injEq, V.ref.injEq, HO.ins.injEq, exists_eq_left', exists_eq_left, exists_eq_right, and_assoc, and_true, true_and, exists_and_left, exists_and_right, decide_eq_true_eq, Bool.not_eq_true', decide_eq_false_iff_not]
      by_cases c1 : 4294967295 ≤ a ∨ 4294967295 < t ∨ 65535 < p ∨ (t = 0 ↔ p ≠ 0)
      · have es : Si23.step sc (.send k a t p b) = (sc, Si23.say (-1)) := by
          unfold Si23.step; dsimp only; rw [if_pos (bad_send.mpr c1)]
        rw [es] at q
        have q1 : spPlain A [V.int (-1)] H Q E0 := q.plain rfl R (Fr.refl _ _)
        by_cases d1 : (4294967295 : Int) ≤ a
        · rw [if_pos d1]; exact q1
        rw [if_neg d1]
        by_cases d2 : (4294967295 : Int) < t
        · rw [if_pos d2]; exact q1
        rw [if_neg d2]
        by_cases d3 : (65535 : Int) < p
        · rw [if_pos d3]; exact q1
        rw [if_neg d3, if_pos]
        · exact q1
        · by_cases u1 : t = 0 <;> by_cases u2 : p = 0 <;> simp [u1, u2] <;> omega
      · rw [if_neg (by omega), if_neg (by omega), if_neg (by omega), if_neg]
        · exact c1
        · by_cases u1 : t = 0 <;> by_cases u2 : p = 0 <;> simp [u1, u2] <;> omega
    rintro σ' H' ⟨rfl, rfl, c1⟩
    refine ⟨_, rfl, _, rfl, m, _, dm, _, _, rfl, hm, T.cls_Machine, T.no_Machine_sockets, mf_get_sockets _ _, d, _, rfl, DGet.k (k := Sum.inl k) R.dict, _, rfl, ?_⟩
    try dsimp only
    rw [R.isSome]
    cases hx : sc.get k with
    | none =>
      rw [if_pos (by rfl)]
      have es : Si23.step sc (.send k a t p b) = (sc, Si23.say (-2)) := by
        unfold Si23.step; dsimp only; rw [if_neg (fun z => c1 (bad_send.mp z)), hx]
      rw [es] at q
      exact q.plain rfl R (Fr.refl _ _)
    | some x =>
      rw [if_neg (by simp)]
      obtain ⟨hk0, hsx⟩ := get_some.mp hx
      obtain ⟨dx, pe, rs, er, ha, hpe, hq, hms, her⟩ := (R.sock _ x hsx).ex
      have ms := R.ma _ x hsx
      have pok : PeerOk x := fun t p e => R.good.peer _ x t p hsx e
      generalize hA : (if x.at_ = 0 then a else x.at_ : Nat) = na
      generalize hPo : portFor sc x = np'
      have es := step_send (b := b) hx c1 hA hPo
      refine ⟨_, rfl, m, _, dm, _, _, rfl, hm, T.cls_Machine, T.no_Machine_sockets, mf_get_sockets _ _, _, rfl, d, _, rfl, R.got hx, ?_⟩
      refine ⟨_, rfl, ad k.toNat, _, dx, _, _, rfl, ha, T.cls_Socket, T.no_Socket_peer, sf_get_peer _ _ _ _ _ _ _, pe, A.g_NO_PEER, _, _, _, _, rfl, rfl, hpe.sq, .inr T.k_NO_PEER, _, rfl, rfl, rfl, _, rfl, ?_⟩
      try dsimp only
      have hcond : (V.bl (decide (peerA x = 0 ∧ peerP x = 0)) = V.bl (decide (V.int (t : Int) = V.int 0))) ↔ (x.peer = none ↔ t = 0) := by
        have e1 := peer_none pok
        have e2 : (V.int (t : Int) = V.int 0) ↔ t = 0 := by rw [V.int.injEq]; omega
        rw [V.bl.injEq, decide_eq_decide, e1, e2]
      by_cases c2 : (x.peer = none ↔ t = 0)
      · rw [if_pos (decide_eq_true (hcond.mpr c2))]
        rw [if_pos c2] at es
        rw [es] at q
        exact q.plain rfl R (Fr.refl _ _)
      rw [if_neg (by simpa using fun z => c2 (hcond.mp z))]
      rw [if_neg c2] at es
      refine ⟨_, rfl, r, _, rfl, .inl (SqL.of hb), _, _, rfl, rfl, _, rfl, ?_⟩
      try dsimp only
      rw [byt_len]
      by_cases c3 : 65507 < b.length
      · rw [if_pos (decide_eq_true (by omega))]
        rw [if_pos c3] at es
        rw [es] at q
        exact q.plain rfl R (Fr.refl _ _)
      rw [if_neg (by simp; omega)]
      rw [if_neg c3] at es
      -- the port
      refine ⟨_, rfl, m, dm, _, rfl, hm, mf_no _ _ (by decide) (by decide), _, rfl, M, m, d, ad, qd, kvs, sc, k.toNat, x, rfl, R, hsx, fun H1 s1 => ?_⟩
      rw [hPo]
      have R1 := R.same s1
      have F1 : Fr M H' M H1 := Fr.same s1
      have hm1 := s1 _ _ hm
      have ha1 := s1 _ _ ha
      have hb1 := s1 _ _ hb
      refine ⟨_, rfl, rfl, _, rfl, ?_⟩
      try dsimp only
      by_cases c0 : np' = 0
      · rw [if_pos (by rw [c0]; rfl)]
        rw [if_pos c0] at es
        rw [es] at q
        exact q.plain rfl R1 F1
      rw [if_neg c0] at es
      rw [if_neg (by simp; omega)]
      generalize hT : (if x.port = 0 then (np' - 49152 + 1) % 16384 else sc.turn) = tn at es
      -- it is given
      refine ⟨fun σ' H2 => σ' = [some (V.ref m), some (V.int k), some (V.int a), some (V.int t), some (V.int p), some (V.ref r), some (V.ref (ad k.toNat)), some (V.int np'), none, none, none] ∧ Fr M H' M H2 ∧ Rep K A M H2 m d ad qd kvs { sc with socks := sc.socks.set k.toNat (some { x with port := np' }), turn := tn } ∧ H2 (ad k.toNat) = some (.ins A.c_Socket dx (sv { x with port := np' } pe (qd k.toNat) er)), ?_, ?_⟩
      · refine ⟨_, rfl, m, dm, _, rfl, hm1, mf_no _ _ (by decide) (by decide), _, rfl, _, rfl, m, ad k.toNat, dm, dx, _, _, _, _, _, _, _, _, _, _, rfl, hm1, ha1, R.ne _ x hsx, fun z => ?_, fun z => ?_⟩
        · have c : x.port ≠ 0 := by omega
          unfold portFor at hPo
          rw [if_neg c] at hPo hT
          subst hPo hT
          refine ⟨rfl, F1, ?_, ha1⟩
          rw [set_self hsx]
          exact R1
        · have c : x.port = 0 := by omega
          unfold portFor at hPo
          rw [if_pos c] at hPo hT
          have hfp : 49152 ≤ np' := by
            cases hf : sc.free with
            | none => rw [hf] at hPo; exact absurd hPo.symm c0
            | some fp => rw [hf] at hPo; have e : fp = np' := hPo; rw [← e]; exact (free_ge hf).1
          obtain ⟨F3, R3⟩ := R1.give (x := x) (dx := dx) (dm := dm) (pe := pe) (er := er) (p := np') hsx ha1 (hpe.fr F1) (her.fr F1) hfp
          rw [hT] at R3
          exact ⟨rfl, F1.trans F3, R3, by rw [upd_ne (Ne.symm (R.ne _ x hsx)), upd_same]; rfl⟩
      rintro σ' H2 ⟨rfl, F2, R2, ha2⟩
      have hb2 := F2.stay _ _ hb nb
      have hpe2 := (hpe.fr F2).sq
      -- address
      refine ⟨fun v H3 => v = .int ((na : Nat) : Int) ∧ H3 = H2, ?_, ?_⟩
      · refine ⟨_, rfl, ad k.toNat, _, dx, _, _, rfl, ha2, T.cls_Socket, T.no_Socket_address, sf_get_address _ _ _ _ _ _ _, rfl, _, rfl, ?_⟩
        try dsimp only
        by_cases c : x.at_ = 0
        · rw [if_pos (by rw [show ({ x with port := np' } : Si23.Sock).at_ = x.at_ from rfl, c]; rfl)]
          rw [if_pos c] at hA
          refine ⟨_, rfl, ?_, rfl⟩
          rw [hA]
        · rw [if_neg (by simp; omega)]
          rw [if_neg c] at hA
          refine ⟨_, rfl, ad k.toNat, _, dx, _, _, rfl, ha2, T.cls_Socket, T.no_Socket_address, sf_get_address _ _ _ _ _ _ _, ?_, rfl⟩
          rw [← hA]
      rintro v H3 ⟨rfl, rfl⟩
      -- to_place
      refine ⟨fun v H4 => ∃ tp, v = .ref tp ∧ Same H3 H4 ∧ SqT K H4 tp [.int ((toOf x t p).1 : Nat), .int ((toOf x t p).2 : Nat)], ?_, ?_⟩
      · refine ⟨_, rfl, rfl, _, rfl, ?_⟩
        try dsimp only
        by_cases c : t = 0
        · rw [if_pos (by rw [c]; rfl)]
          refine ⟨_, rfl, ad k.toNat, _, dx, _, _, rfl, ha2, T.cls_Socket, T.no_Socket_peer, sf_get_peer _ _ _ _ _ _ _, pe, rfl, Same.refl _, ?_⟩
          have e1 : ∃ pr, x.peer = some pr := by
            cases hpr : x.peer with
            | none => exact absurd ⟨fun _ => c, fun _ => hpr⟩ c2
            | some pr => exact ⟨pr, rfl⟩
          obtain ⟨pr, e1⟩ := e1
          have e2 : toOf x t p = pr := by unfold toOf; rw [if_pos c, e1]; rfl
          have e3 : peerA x = (pr.1 : Int) := by unfold peerA; rw [e1]
          have e4 : peerP x = (pr.2 : Int) := by unfold peerP; rw [e1]
          rw [e2, ← e3, ← e4]
          exact hpe2
        · rw [if_neg (by simp; omega)]
          refine ⟨_, rfl, _, rfl, (by show 2 ≤ sizeLine; decide), fun tp htp => ⟨tp, rfl, same_new htp, ?_⟩⟩
          have e2 : toOf x t p = (t, p) := by unfold toOf; rw [if_neg c]
          rw [e2]
          exact SqT.of upd_same
      rintro v H4 ⟨tp, rfl, s4, htp⟩
      -- the datagram
      refine ⟨_, rfl, _, rfl, (by show 2 ≤ sizeLine; decide), fun fp hfp => ⟨_, rfl, _, rfl, fp, tp, r, na, np', (toOf x t p).1, (toOf x t p).2, b, rfl, SqT.of upd_same, Same.tup (same_new hfp) htp, same_new hfp _ _ (s4 _ _ hb2), hbl, fun H5 rw5 s5 n5 h5 => ?_⟩⟩
      have S5 := (s4.trans (same_new hfp)).trans s5
      have htp5 := Same.tup ((same_new hfp).trans s5) htp
      have hlr : (built na (toOf x t p).1 np' (toOf x t p).2 b).length ≤ 200000 := by
        rw [built_wt]; simp only [List.length_append, be_len]; omega
      refine ⟨Nat.zero_le _, fun l1 h1 => ⟨Nat.zero_le _, fun l2 h2 => ?_⟩⟩
      have S6 := (same_new h1 (o := .lst [])).trans (same_new h2 (o := .lst []))
      refine ⟨_, rfl, _, rfl, tp, _, _, _, rfl, rfl, Same.tup S6 htp5, atI_nat (j := 0) rfl, _, rfl, (na : Int), ((toOf x t p).1 : Int), rw5, _, rfl, S6 _ _ h5, hlr, fun H7 p7 s7 n7 h7 => ?_⟩
      refine ⟨(by show 1 ≤ sizeLine; decide), fun l3 h3 => fun y dy hy hdy hne => ⟨y, dy, _, _, _, _, rfl, upd_same, rfl, ?_⟩⟩
      have S8 := s7.trans (same_new h3 (o := .lst [V.ref p7]))
      obtain ⟨s9, a9⟩ := ans_made (C := A) (a := ⟨0, [], [], [.packet na (toOf x t p).1 (built na (toOf x t p).1 np' (toOf x t p).2 b)]⟩) (ws := [p7]) (S8 _ _ (same_new h2 _ _ upd_same)) (S8 _ _ upd_same) upd_same (.cons (same_new h3 _ _ h7) .nil) hy hdy
      have S := ((S5.trans S6).trans S8).trans s9
      rw [es] at q
      exact q _ _ _ _ _ _ _ (F2.trans (Fr.same S)) (R2.same S) a9
end
end Sm



set_option Elab.async false
set_option linter.all false
set_option maxRecDepth 100000
namespace Sm
open PySem PySem.Spec PyProof.Rows L2
open Si23 (number be built)
theorem read_is {f t : Nat} {b : Si23.Bytes} {v : Nat × Nat × Si23.Bytes} (h : Si23.read f t b = some v) : v = (number ((b.drop 0).take 2), number ((b.drop 2).take 2), (b.take (lenIn b)).drop 8) := by
  by_cases c : b.length < 8 ∨ lenIn b < 8 ∨ b.length < lenIn b ∨ number ((b.drop 6).take 2) = 0 ∨ wt f t (b.take (lenIn b)) % 65535 ≠ 0
  · rw [read_none c] at h; cases h
  · have c5 : wt f t (b.take (lenIn b)) % 65535 = 0 := by
      by_cases z : wt f t (b.take (lenIn b)) % 65535 = 0
      · exact z
      · exact absurd (.inr (.inr (.inr (.inr z)))) c
    have c1 : ¬ b.length < 8 := fun z => c (.inl z)
    have c2 : ¬ lenIn b < 8 := fun z => c (.inr (.inl z))
    have c3 : ¬ b.length < lenIn b := fun z => c (.inr (.inr (.inl z)))
    have c4 : ¬ number ((b.drop 6).take 2) = 0 := fun z => c (.inr (.inr (.inr (.inl z))))
    rw [read_some (by omega) (by omega) (by omega) c4 c5] at h
    exact (Option.some.inj h).symm
def spCame (K : PySem.W.Frag) (C : Ad) : Sp := fun vs H Q _ => ∃ (M : Mem) (m d : Addr) (ad qd : Nat → Addr) (kvs : List (Key × V)) (s : Si23.St) (f t : Nat) (r : Addr) (b : Si23.Bytes),
  vs = [.ref m, .int f, .int t, .ref r] ∧ Rep K C M H m d ad qd kvs s ∧ H r = some (.lst (byt b)) ∧ b.length ≤ 100000 ∧ PostA K C M H m (Si23.step s (.came f t b)).1 (Si23.step s (.came f t b)).2 Q
section
variable {P : Program} {w : World} {K : PySem.W.Frag} {mg : Str → Option Value} {base : Heap} {A : Ad}
theorem okT_Machine_came (T : Tx K mg A) : FnOk P w K mg base CX0 5 A.f_Machine_came A.d_Machine_came ["self", "f", "t", "row"] (spCame K A) := by
  have G_Answer_init := okT_Answer_init (P := P) (w := w) (base := base) T
  have G_Machine_best_fitting := okT_Machine_best_fitting (P := P) (w := w) (base := base) T
  have G_Machine_hand_over := okT_Machine_hand_over (P := P) (w := w) (base := base) T
  have G_Machine_hearing := okT_Machine_hearing (P := P) (w := w) (base := base) T
  have G_Message_init := okT_Message_init (P := P) (w := w) (base := base) T
  have G_body_of := okT_body_of (P := P) (w := w) (base := base) T
  have G_error_told := okT_error_told (P := P) (w := w) (base := base) T
  have G_is_datagram := okT_is_datagram (P := P) (w := w) (base := base) T
  have G_plain := okT_plain (P := P) (w := w) (base := base) T
  have G_port_from := okT_port_from (P := P) (w := w) (base := base) T
  have G_port_to := okT_port_to (P := P) (w := w) (base := base) T
  refine T.F_Machine_came.ok sc_Machine_came (fun vs H Q E h => ?_) (fun cdv A' outer s H vs Q E hr h => ?_)
  · obtain ⟨M, m, d, ad, qd, kvs, sc, f, t, r, b, rfl, _⟩ := h
    rfl
  · obtain ⟨M, m, d, ad, qd, kvs, sc, f, t, r, b, rfl, R, hb, hbl, q⟩ := h
    obtain ⟨dm, hm⟩ := R.mach
    have hu := hu_of hr
    obtain ⟨t_EVERYBODY, e_EVERYBODY⟩ := T.i_EVERYBODY
    obtain ⟨t_NOT_AS_TOLD, e_NOT_AS_TOLD⟩ := T.i_NOT_AS_TOLD
    obtain ⟨t_NO_DATAGRAM, e_NO_DATAGRAM⟩ := T.i_NO_DATAGRAM
    refine ⟨_, (pss_cons (ps_cut (ps_if (PW.pt (pw_or (pt_cmpR op_gt (pv 1) (pe_gi rfl e_EVERYBODY) (nomark _)) (pw_or1 (pt_cmpR op_gt (pv 2) (pe_gi rfl e_EVERYBODY) (nomark _))))) (pss_one (ps_ret (pe_call G_plain (hr.mono (by decide)) rfl T.mg_plain T.F_plain.kp T.b_plain .nil pass0 (pa_cons (pe_gi rfl e_NOT_AS_TOLD) pa_nil)))) pss_nil))
      (pss_cons (ps_if (pt_not (pt_val (pe_call G_is_datagram (hr.mono (by decide)) rfl T.mg_is_datagram T.F_is_datagram.kp T.b_is_datagram .nil pass0 (pa_cons (pv 1) (pa_cons (pv 2) (pa_cons (pv 3) pa_nil)))))) (pss_one (ps_ret (pe_call G_plain (hr.mono (by decide)) rfl T.mg_plain T.F_plain.kp T.b_plain .nil pass0 (pa_cons (pe_gi rfl e_NO_DATAGRAM) pa_nil)))) pss_nil)
      (pss_cons (ps_set (i := 4) sc_Machine_came.nd rfl (Or.inl rfl) (pe_make T.mk_Message G_Message_init (hr.mono (by decide)) rfl T.mg_Message T.b_Message_init .nil pass0 (pa_cons (pe_tup (pa_cons (pv 1) (pa_cons (pe_call G_port_from (hr.mono (by decide)) rfl T.mg_port_from T.F_port_from.kp T.b_port_from .nil pass0 (pa_cons (pv 3) pa_nil)) pa_nil))) (pa_cons (pv 2) (pa_cons (pe_call G_body_of (hr.mono (by decide)) rfl T.mg_body_of T.F_body_of.kp T.b_body_of .nil pass0 (pa_cons (pv 3) pa_nil)) pa_nil)))))
      (pss_cons (ps_if (pt_cmpR op_eq (pv 2) (pe_gi rfl e_EVERYBODY) (nomark _)) (pss_one (ps_ret (pe_meth (pv 0) T.cls_Machine T.m_Machine_hand_over G_Machine_hand_over (hr.mono (by decide)) T.b_Machine_hand_over .nil pass0 (pa_cons (pe_meth (pv 0) T.cls_Machine T.m_Machine_hearing G_Machine_hearing (hr.mono (by decide)) T.b_Machine_hearing .nil pass0 (pa_cons (pe_fld (pv 4) rfl) (pa_cons (pe_call G_port_to (hr.mono (by decide)) rfl T.mg_port_to T.F_port_to.kp T.b_port_to .nil pass0 (pa_cons (pv 3) pa_nil)) pa_nil))) (pa_cons (pv 4) pa_nil))))) pss_nil)
      (pss_cons (ps_set (i := 5) sc_Machine_came.nd rfl (Or.inl rfl) (pe_meth (pv 0) T.cls_Machine T.m_Machine_best_fitting G_Machine_best_fitting (hr.mono (by decide)) T.b_Machine_best_fitting .nil pass0 (pa_cons (pe_fld (pv 4) rfl) (pa_cons (pv 2) (pa_cons (pe_call G_port_to (hr.mono (by decide)) rfl T.mg_port_to T.F_port_to.kp T.b_port_to .nil pass0 (pa_cons (pv 3) pa_nil)) pa_nil)))))
      (pss_cons (ps_if (pt_cmpR (op_eqN hr.units) (pv 5) (pe_lst pa_nil) (nomark _)) (pss_one (ps_ret (pe_make T.mk_Answer G_Answer_init (hr.mono (by decide)) rfl T.mg_Answer T.b_Answer_init .nil pass0 (pa_cons pe_int (pa_cons (pe_lst pa_nil) (pa_cons (pe_lst pa_nil) (pa_cons (pe_lst (pa_cons (pe_call G_error_told (hr.mono (by decide)) rfl T.mg_error_told T.F_error_told.kp T.b_error_told .nil pass0 (pa_cons (pv 1) (pa_cons (pv 2) (pa_cons (pv 3) pa_nil)))) pa_nil)) pa_nil))))))) pss_nil)
      (pss_one (ps_ret (pe_meth (pv 0) T.cls_Machine T.m_Machine_hand_over G_Machine_hand_over (hr.mono (by decide)) T.b_Machine_hand_over .nil pass0 (pa_cons (pv 5) (pa_cons (pv 4) pa_nil))))))))))), ?_⟩
    have hev : Si23.EVERYBODY = 4294967295 := rfl
    have hbad : (Si23.address f = false ∨ Si23.address t = false) ↔ (4294967295 < f ∨ 4294967295 < t) := by
      simp only [Si23.address, decide_eq_false_iff_not]; omega
    refine ⟨fun σ' H' => σ' = [some (V.ref m), some (V.int f), some (V.int t), some (V.ref r), none, none] ∧ H' = H ∧ ¬ (4294967295 < f ∨ 4294967295 < t), ?_, ?_⟩
    · simp only [tSeq, tIfS, tTest, tOp, tOr, tAnd, tNot, tAndV, tOrV, tNotV, tIf, tVar, tC, tRet, tRetN, tDrop, tNext, tFld, sFld, tAsg, gName, gTup, gCons, gNil, tB, rEq, rNe, rI, rI0, scal_ii, scal_bb, cxK, ite_true, ite_false, if_true, if_false, tNil, tCons, tTup, tLst, tCall, tCB, tUn, tMeth, tMake, tDNewK, tDGet, tDIn, tDNotIn, sDPut, tDPop1, L2.start, List.replicate, Nat.reduceSub, Nat.reduceAdd, List.map_cons, List.map_nil, List.length_cons, List.length_nil, List.cons_append, List.nil_append, List.append_nil, List.getElem?_cons_zero, List.getElem?_cons_succ, List.set_cons_zero, List.set_cons_succ, Option.some.injEq, List.cons.injEq, kV_inl, Bool.false_eq_true, reduceCtorEq, V.int.injEq, V.bl.injEq, V.ref.injEq, HO.ins.injEq, exists_eq_left', exists_eq_left, exists_eq_right, and_assoc, and_true, true_and, exists_and_left, exists_and_right, decide_eq_true_eq, Bool.not_eq_true', decide_eq_false_iff_not]
      by_cases c1 : 4294967295 < f ∨ 4294967295 < t
      · have es : Si23.step sc (.came f t b) = (sc, Si23.say (-1)) := by
          unfold Si23.step; dsimp only; rw [if_pos (hbad.mpr c1)]
        rw [es] at q
        have q1 : spPlain A [V.int (-1)] H Q E0 := q.plain rfl R (Fr.refl _ _)
        by_cases d1 : (4294967295 : Int) < f
        · rw [if_pos d1]; exact q1
        rw [if_neg d1, if_pos (by omega)]; exact q1
      · rw [if_neg (by omega), if_neg (by omega)]
        exact c1
    rintro σ' H' ⟨rfl, rfl, c1⟩
    refine ⟨_, rfl, _, rfl, _, rfl, f, t, r, b, rfl, hb, fun H1 s1 => ⟨_, rfl, ?_⟩⟩
    try dsimp only
    have R1 := R.same s1
    have F1 : Fr M H' M H1 := Fr.same s1
    have hb1 := s1 _ _ hb
    cases hrd : Si23.read f t b with
    | none =>
      rw [if_pos (by rfl)]
      have es : Si23.step sc (.came f t b) = (sc, Si23.say (-3)) := by
        unfold Si23.step; dsimp only; rw [if_neg (fun z => c1 (hbad.mp z)), hrd]
      rw [es] at q
      exact q.plain rfl R1 F1
    | some v =>
      rw [if_neg (by simp)]
      have hv := read_is hrd
      generalize hsp : number ((b.drop 0).take 2) = sp at hv
      generalize hdp : number ((b.drop 2).take 2) = dp at hv
      generalize hbo : (b.take (lenIn b)).drop 8 = bo at hv
      subst hv
      -- the message
      refine ⟨_, rfl, _, rfl, r, b, rfl, hb1, fun H2 s2 => ⟨(by show 2 ≤ sizeLine; decide), fun tp htp => ⟨_, rfl, _, rfl, r, b, rfl, same_new htp _ _ (s2 _ _ hb1), fun H3 bp s3 n3 h3 => fun y dy hy hdy hne => ⟨y, dy, _, _, _, rfl, upd_same, rfl, ?_⟩⟩⟩⟩
      have hbo' : (b.take (number ((b.drop 4).take 2))).drop 8 = bo := hbo
      rw [hbo'] at h3
      rw [hsp] at n3 s3
      have S3 : Same H1 H3 := (s2.trans (same_new htp)).trans s3
      have sMk : Same H3 (upd (upd (upd H3 dy (.own y)) y (.ins A.c_Message dy [])) y (.ins A.c_Message dy (gf (.ref tp) (.int t) (.ref bp)))) := fun c o e => by rw [upd_ne (ne_of_none e hy), upd_ne (ne_of_none e hy), upd_ne (ne_of_none e hdy)]; exact e
      have hy4 := upd_same (H := (upd (upd H3 dy (.own y)) y (.ins A.c_Message dy []))) (a := y) (o := .ins A.c_Message dy (gf (.ref tp) (.int t) (.ref bp)))
      have htp3 : H3 tp = some (.tup [V.int (f : Int), V.int (sp : Int)]) := s3 _ _ upd_same
      have Ntp : H1 tp = none := s2.free htp
      have Nbp : H1 bp = none := ((s2.trans (same_new htp))).free n3
      have Ny : H1 y = none := S3.free hy
      have S4 := S3.trans sMk
      have R4 := R1.same S4
      have F4 : Fr M H' M (upd (upd (upd H3 dy (.own y)) y (.ins A.c_Message dy [])) y (.ins A.c_Message dy (gf (.ref tp) (.int t) (.ref bp)))) := F1.trans (Fr.same S4)
      have hmsg : MsgAt K A M (upd (upd (upd H3 dy (.own y)) y (.ins A.c_Message dy [])) y (.ins A.c_Message dy (gf (.ref tp) (.int t) (.ref bp)))) y ⟨f, sp, t, bo⟩ :=
        ⟨dy, tp, bp, hy4, R1.al.out Ny, .inl ⟨sMk _ _ htp3, R1.al.out Ntp⟩, sMk _ _ h3, R1.al.out Nbp⟩
      have htp4 : SqT K (upd (upd (upd H3 dy (.own y)) y (.ins A.c_Message dy [])) y (.ins A.c_Message dy (gf (.ref tp) (.int t) (.ref bp)))) tp [V.int (f : Int), V.int (sp : Int)] := SqT.of (sMk _ _ htp3)
      have hb4 := S4 _ _ hb1
      have hm4 := S4 _ _ (s1 _ _ hm)
      generalize upd (upd (upd H3 dy (.own y)) y (.ins A.c_Message dy [])) y (.ins A.c_Message dy (gf (.ref tp) (.int t) (.ref bp))) = H4 at *
      have hbol : bo.length ≤ 100000 := by
        rw [← hbo, List.length_drop, List.length_take]; omega
      refine ⟨_, rfl, rfl, _, rfl, ?_⟩
      try dsimp only
      by_cases c2 : t = 4294967295
      · rw [if_pos (by rw [c2]; rfl)]
        have es : Si23.step sc (.came f t b) = (((hearL sc f sp dp).foldl (dl ⟨f, sp, t, bo⟩) (sc, [])).1, ⟨(hearL sc f sp dp).length, [], [], ((hearL sc f sp dp).foldl (dl ⟨f, sp, t, bo⟩) (sc, [])).2⟩) := by
          unfold Si23.step; dsimp only; rw [if_neg (fun z => c1 (hbad.mp z)), hrd]; dsimp only; rw [if_pos (by rw [hev]; exact c2)]
          exact congrArg (fun l => ((l.foldl (dl ⟨f, sp, t, bo⟩) (sc, [])).1, (⟨(l.length : Nat), [], [], (l.foldl (dl ⟨f, sp, t, bo⟩) (sc, [])).2⟩ : Si23.Ans))) (hear_spec sc f t sp dp)
        rw [es] at q
        refine ⟨_, rfl, m, dm, _, rfl, hm4, mf_no _ _ (by decide) (by decide), _, rfl, m, dm, _, rfl, hm4, mf_no _ _ (by decide) (by decide), _, rfl, y, _, dy, _, _, rfl, hy4, T.cls_Message, T.no_Message_sender, gf_get_sender _ _ _, _, rfl, r, b, rfl, hb4, fun H5 s5 => ?_⟩
        rw [hdp]
        have R5 := R4.same s5
        refine ⟨M, m, d, ad, qd, kvs, sc, tp, f, sp, dp, rfl, R5, Same.tup s5 htp4, fun H6 p6 s6 n6 h6 => ?_⟩
        have R6 := R5.same s6
        have F6 : Fr M H' M H6 := (F4.trans (Fr.same s5)).trans (Fr.same s6)
        refine ⟨_, rfl, M, m, d, ad, qd, kvs, sc, p6, y, ⟨f, sp, t, bo⟩, hearL sc f sp dp, rfl, R6, h6, R5.al.out n6, hmsg.fr ((Fr.same s5).trans (Fr.same s6)), hbol, ?_, fun k hk => ?_, fun M' H7 d' ad' qd' kvs' r7 F7 R7 a7 => q M' H7 d' ad' qd' kvs' r7 (F6.trans F7) R7 a7⟩
        · exact Nat.le_trans (List.length_filter_le _ _) (Nat.le_trans (live_len sc) (by decide))
        · exact (mem_live R.good.len).mp (List.mem_filter.mp hk).1
      · rw [if_neg (by simp; omega)]
        refine ⟨_, rfl, m, dm, _, rfl, hm4, mf_no _ _ (by decide) (by decide), _, rfl, y, _, dy, _, _, rfl, hy4, T.cls_Message, T.no_Message_sender, gf_get_sender _ _ _, _, rfl, _, rfl, r, b, rfl, hb4, fun H5 s5 => ?_⟩
        rw [hdp]
        have R5 := R4.same s5
        refine ⟨M, m, d, ad, qd, kvs, sc, tp, f, t, sp, dp, rfl, R5, Same.tup s5 htp4, fun H6 p6 s6 n6 h6 => ?_⟩
        have R6 := R5.same s6
        have F6 : Fr M H' M H6 := (F4.trans (Fr.same s5)).trans (Fr.same s6)
        have hb6 := s6 _ _ (s5 _ _ hb4)
        refine ⟨_, rfl, Nat.zero_le _, fun l0 hl0 => ?_⟩
        have s7 := same_new hl0 (o := .lst [])
        cases hbest : sc.best f t sp dp with
        | none =>
          rw [hbest] at h6
          have es : Si23.step sc (.came f t b) = (sc, ⟨0, [], [], [.noPort f t b]⟩) := by
            unfold Si23.step; dsimp only; rw [if_neg (fun z => c1 (hbad.mp z)), hrd]; dsimp only; rw [if_neg (by rw [hev]; exact c2), hbest]
          rw [es] at q
          refine ⟨p6, l0, rfl, rfl, SqL.of upd_same, .inl ⟨SqL.of (s7 _ _ h6), _, rfl, ?_⟩⟩
          try dsimp only
          rw [if_pos rfl]
          refine ⟨Nat.zero_le _, fun l1 h1 => ⟨Nat.zero_le _, fun l2 h2 => ?_⟩⟩
          have S8 := (same_new h1 (o := .lst [])).trans (same_new h2 (o := .lst []))
          refine ⟨_, rfl, _, rfl, _, rfl, (f : Int), (t : Int), r, b, rfl, S8 _ _ (s7 _ _ hb6), by omega, fun H9 p9 s9 n9 h9 => ?_⟩
          refine ⟨(by show 1 ≤ sizeLine; decide), fun l3 h3 => fun z dz hz hdz hne => ⟨z, dz, _, _, _, _, rfl, upd_same, rfl, ?_⟩⟩
          have S10 := s9.trans (same_new h3 (o := .lst [V.ref p9]))
          obtain ⟨s11, a11⟩ := ans_made (C := A) (a := ⟨0, [], [], [.noPort f t b]⟩) (ws := [p9]) (S10 _ _ (same_new h2 _ _ upd_same)) (S10 _ _ upd_same) upd_same (.cons (same_new h3 _ _ h9) .nil) hz hdz
          have S := ((s7.trans S8).trans S10).trans s11
          exact q _ _ _ _ _ _ _ (F6.trans (Fr.same S)) (R6.same S) a11
        | some k =>
          rw [hbest] at h6
          have hlv : ∃ x, sc.socks[k]? = some (some x) := by
            have hb' := best_eq sc f t sp dp
            rw [hbest] at hb'
            by_cases cz : (scores sc f t sp dp).foldl max 0 = 0
            · rw [if_pos cz] at hb'; cases hb'
            · rw [if_neg cz] at hb'
              obtain ⟨hl, h1, _⟩ := List.findIdx?_eq_some_iff_getElem.mp hb'.symm
              have hl' : k < sc.socks.length := by unfold scores at hl; rw [List.length_map] at hl; exact hl
              have e1 := scores_at (s := sc) (f := f) (t := t) (sp := sp) (dp := dp) hl'
              rw [List.getElem?_eq_getElem hl] at e1
              have e2 : score sc f t sp dp k = (scores sc f t sp dp).foldl max 0 := by rw [← Option.some.inj e1]; simpa using h1
              unfold score at e2
              cases e3 : sc.socks[k]? with
              | none => rw [e3] at e2; exact absurd e2.symm cz
              | some o =>
                cases o with
                | none => rw [e3] at e2; exact absurd e2.symm cz
                | some x => exact ⟨x, rfl⟩
          have es : Si23.step sc (.came f t b) = (([k].foldl (dl ⟨f, sp, t, bo⟩) (sc, [])).1, ⟨([k] : List Nat).length, [], [], ([k].foldl (dl ⟨f, sp, t, bo⟩) (sc, [])).2⟩) := by
            unfold Si23.step; dsimp only; rw [if_neg (fun z => c1 (hbad.mp z)), hrd]; dsimp only; rw [if_neg (by rw [hev]; exact c2), hbest]; rfl
          rw [es] at q
          refine ⟨p6, l0, rfl, rfl, SqL.of upd_same, .inr ⟨(k : Int), SqL.of (s7 _ _ h6), _, rfl, ?_⟩⟩
          try dsimp only
          rw [if_neg (by simp)]
          have R7 := R6.same s7
          refine ⟨_, rfl, m, dm, _, rfl, s7 _ _ (s6 _ _ (s5 _ _ hm4)), mf_no _ _ (by decide) (by decide), _, rfl, _, rfl, M, m, d, ad, qd, kvs, sc, p6, y, ⟨f, sp, t, bo⟩, [k], rfl, R7, s7 _ _ h6, R5.al.out n6, hmsg.fr (((Fr.same s5).trans (Fr.same s6)).trans (Fr.same s7)), hbol, by simp, fun j hj => ?_, fun M' H8 d' ad' qd' kvs' r8 F8 R8 a8 => q M' H8 d' ad' qd' kvs' r8 ((F6.trans (Fr.same s7)).trans F8) R8 a8⟩
          rw [List.mem_singleton.mp hj]; exact hlv
end
end Sm



set_option Elab.async false
set_option linter.all false
set_option maxRecDepth 100000
namespace Sm
open PySem PySem.Spec PyProof.Rows L2
open Si23 (number be built)
def pkP (f t sp dp : Nat) (x : Si23.Sock) : Bool := x.port != 0 && (x.port == sp && ((x.at_ == 0 || x.at_ == f) && x.peer == some (t, dp)))
def pkO (f t sp dp : Nat) (y : Option Si23.Sock) : Bool := match y with
  | some x => pkP f t sp dp x
  | none => false
theorem pk_is {x : Si23.Sock} (h : PeerOk x) {f t sp dp : Nat} : pkP f t sp dp x = true ↔ x.peer = some (t, dp) ∧ x.port = sp ∧ (x.at_ = 0 ∨ x.at_ = f) := by
  unfold pkP
  simp only [Bool.and_eq_true, bne_iff_ne, ne_eq, beq_iff_eq, Bool.or_eq_true]
  constructor
  · rintro ⟨_, h2, h3, h4⟩
    exact ⟨h4, h2, h3⟩
  · rintro ⟨h1, h2, h3⟩
    exact ⟨(h t dp h1).2.2, h2, h3, h1⟩
def spProblem (K : PySem.W.Frag) (C : Ad) : Sp := fun vs H Q _ => ∃ (M : Mem) (m d : Addr) (ad qd : Nat → Addr) (kvs : List (Key × V)) (s : Si23.St) (kind n : Nat) (r : Addr) (b : Si23.Bytes),
  vs = [.ref m, .int kind, .int n, .ref r] ∧ Rep K C M H m d ad qd kvs s ∧ H r = some (.lst (byt b)) ∧ PostA K C M H m (Si23.step s (.problem kind n b)).1 (Si23.step s (.problem kind n b)).2 Q
section
variable {P : Program} {w : World} {K : PySem.W.Frag} {mg : Str → Option Value} {base : Heap} {A : Ad}
theorem okT_Machine_problem (T : Tx K mg A) : FnOk P w K mg base CX0 4 A.f_Machine_problem A.d_Machine_problem ["self", "kind", "n", "row"] (spProblem K A) := by
  have G_Answer_init := okT_Answer_init (P := P) (w := w) (base := base) T
  have G_has_something := okT_has_something (P := P) (w := w) (base := base) T
  have G_is_packet_start := okT_is_packet_start (P := P) (w := w) (base := base) T
  have G_packet_from := okT_packet_from (P := P) (w := w) (base := base) T
  have G_packet_to := okT_packet_to (P := P) (w := w) (base := base) T
  have G_plain := okT_plain (P := P) (w := w) (base := base) T
  have G_sent_there := okT_sent_there (P := P) (w := w) (base := base) T
  have G_something_now := okT_something_now (P := P) (w := w) (base := base) T
  refine T.F_Machine_problem.ok sc_Machine_problem (fun vs H Q E h => ?_) (fun cdv A' outer s H vs Q E hr h => ?_)
  · obtain ⟨M, m, d, ad, qd, kvs, sc, kind, n, r, b, rfl, _⟩ := h
    rfl
  · obtain ⟨M, m, d, ad, qd, kvs, sc, kind, n, r, b, rfl, R, hb, q⟩ := h
    obtain ⟨dm, hm⟩ := R.mach
    have hu := hu_of hr
    obtain ⟨t_LAST_KIND, e_LAST_KIND⟩ := T.i_LAST_KIND
    obtain ⟨t_LAST_OF_ERROR, e_LAST_OF_ERROR⟩ := T.i_LAST_OF_ERROR
    obtain ⟨t_NOT_AS_TOLD, e_NOT_AS_TOLD⟩ := T.i_NOT_AS_TOLD
    obtain ⟨t_NO_DATAGRAM, e_NO_DATAGRAM⟩ := T.i_NO_DATAGRAM
    refine ⟨_, (pss_cons (ps_cut (ps_if (PW.pt (pw_or (pt_cmpR op_lt (pv 1) pe_int (nomark _)) (pw_or (pt_cmpR op_gt (pv 1) (pe_gi rfl e_LAST_KIND) (nomark _)) (pw_or1 (pt_cmpR op_gt (pv 2) (pe_gi rfl e_LAST_OF_ERROR) (nomark _)))))) (pss_one (ps_ret (pe_call G_plain (hr.mono (by decide)) rfl T.mg_plain T.F_plain.kp T.b_plain .nil pass0 (pa_cons (pe_gi rfl e_NOT_AS_TOLD) pa_nil)))) pss_nil))
      (pss_cons (ps_if (pt_not (pt_val (pe_call G_is_packet_start (hr.mono (by decide)) rfl T.mg_is_packet_start T.F_is_packet_start.kp T.b_is_packet_start .nil pass0 (pa_cons (pv 3) pa_nil)))) (pss_one (ps_ret (pe_call G_plain (hr.mono (by decide)) rfl T.mg_plain T.F_plain.kp T.b_plain .nil pass0 (pa_cons (pe_gi rfl e_NO_DATAGRAM) pa_nil)))) pss_nil)
      (pss_cons (ps_for PassesOwn.never rfl (pi_list (pe_callB (cr_sortedD rfl) (by rfl) T.z_sorted PyProof.Rows.boot_sorted (pa_cons (pe_fld (pv 0) rfl) pa_nil))) (pg_name (i := 4) sc_Machine_problem.nd rfl (Or.inl rfl))
        (pss_cons (ps_set (i := 5) sc_Machine_problem.nd rfl (Or.inl rfl) (pe_dget hu (pe_fld (pv 0) rfl) (pv 4) (fun _ _ => rfl)))
      (pss_one (ps_if (pt_val (pe_call G_sent_there (hr.mono (by decide)) rfl T.mg_sent_there T.F_sent_there.kp T.b_sent_there .nil pass0 (pa_cons (pv 5) (pa_cons (pe_call G_packet_from (hr.mono (by decide)) rfl T.mg_packet_from T.F_packet_from.kp T.b_packet_from .nil pass0 (pa_cons (pv 3) pa_nil)) (pa_cons (pe_call G_packet_to (hr.mono (by decide)) rfl T.mg_packet_to T.F_packet_to.kp T.b_packet_to .nil pass0 (pa_cons (pv 3) pa_nil)) pa_nil))))) (pss_cons (ps_set (i := 6) sc_Machine_problem.nd rfl (Or.inl rfl) (pe_cut (pe_ifExp (pt_val (pe_call G_has_something (hr.mono (by decide)) rfl T.mg_has_something T.F_has_something.kp T.b_has_something .nil pass0 (pa_cons (pv 5) pa_nil))) (pe_lst pa_nil) (pe_lst (pa_cons (pe_call G_something_now (hr.mono (by decide)) rfl T.mg_something_now T.F_something_now.kp T.b_something_now .nil pass0 (pa_cons (pv 4) pa_nil)) pa_nil)))))
      (pss_cons (ps_fld (pv 5) (pe_tup (pa_cons (pv 1) (pa_cons (pv 2) pa_nil))) rfl)
      (pss_one (ps_ret (pe_make T.mk_Answer G_Answer_init (hr.mono (by decide)) rfl T.mg_Answer T.b_Answer_init .nil pass0 (pa_cons pe_int (pa_cons (pe_lst pa_nil) (pa_cons (pe_lst pa_nil) (pa_cons (pv 6) pa_nil))))))))) pss_nil))))
      (pss_one (ps_ret (pe_call G_plain (hr.mono (by decide)) rfl T.mg_plain T.F_plain.kp T.b_plain .nil pass0 (pa_cons pe_int pa_nil))))))), ?_⟩
    refine ⟨fun σ' H' => σ' = [some (V.ref m), some (V.int kind), some (V.int n), some (V.ref r), none, none, none] ∧ H' = H ∧ ¬ (kind = 0 ∨ 255 < kind ∨ 2 ^ 32 ≤ n), ?_, ?_⟩
    · simp only [tSeq, tIfS, tTest, tOp, tOr, tAnd, tNot, tAndV, tOrV, tNotV, tIf, tVar, tC, tRet, tRetN, tDrop, tNext, tFld, sFld, tAsg, gName, gTup, gCons, gNil, tB, rEq, rNe, rI, rI0, scal_ii, scal_bb, cxK, ite_true, ite_false, if_true, if_false, tNil, tCons, tTup, tLst, tCall, tCB, tUn, tMeth, tMake, tDNewK, tDGet, tDIn, tDNotIn, sDPut, tDPop1, L2.start, List.replicate, Nat.reduceSub, Nat.reduceAdd, List.map_cons, List.map_nil, List.length_cons, List.length_nil, List.cons_append, List.nil_append, List.append_nil, List.getElem?_cons_zero, List.getElem?_cons_succ, List.set_cons_zero, List.set_cons_succ, Option.some.injEq, List.cons.injEq, kV_inl, Bool.false_eq_true, reduceCtorEq, V.int.injEq, V.bl.injEq, V.ref.injEq, HO.ins.injEq, exists_eq_left', exists_eq_left, exists_eq_right, and_assoc, and_true, true_and, exists_and_left, exists_and_right, decide_eq_true_eq, Bool.not_eq_true', decide_eq_false_iff_not]
      by_cases c1 : kind = 0 ∨ 255 < kind ∨ 2 ^ 32 ≤ n
      · have es : Si23.step sc (.problem kind n b) = (sc, Si23.say (-1)) := by
          unfold Si23.step; dsimp only; rw [if_pos c1]
        rw [es] at q
        have q1 : spPlain A [V.int (-1)] H Q E0 := q.plain rfl R (Fr.refl _ _)
        by_cases d1 : (kind : Int) < 1
        · rw [if_pos d1]; exact q1
        rw [if_neg d1]
        by_cases d2 : (255 : Int) < kind
        · rw [if_pos d2]; exact q1
        rw [if_neg d2, if_pos (by omega)]; exact q1
      · rw [if_neg (by omega), if_neg (by omega), if_neg (by omega)]
        exact c1
    rintro σ' H' ⟨rfl, rfl, c1⟩
    refine ⟨_, rfl, r, b, rfl, hb, _, rfl, ?_⟩
    try dsimp only
    by_cases c2 : b.length < 24 ∨ b[0]? ≠ some 0x51 ∨ b[2]? ≠ some 2
    · rw [decide_eq_false (fun z => z c2), if_pos (by rfl)]
      have es : Si23.step sc (.problem kind n b) = (sc, Si23.say (-3)) := by
        unfold Si23.step; dsimp only; rw [if_neg c1, if_pos c2]
      rw [es] at q
      exact q.plain rfl R (Fr.refl _ _)
    rw [decide_eq_true c2, if_neg (by simp)]
    generalize hf : number ((b.drop 12).take 4) = f at *
    generalize ht : number ((b.drop 16).take 4) = t at *
    generalize hsp : number ((b.drop 20).take 2) = sp at *
    generalize hdp : number ((b.drop 22).take 2) = dp at *
    have es : Si23.step sc (.problem kind n b) = match sc.socks.findIdx? (pkO f t sp dp) with
        | none => (sc, Si23.say 0)
        | some k => match (sc.socks[k]?).join with
          | none => (sc, Si23.say 0)
          | some x => (sc.set k (some { x with bad := some (kind, n) }), ⟨1, [], [], if x.queue = [] ∧ x.bad = none then [.ready k] else []⟩) := by
      unfold Si23.step; dsimp only; rw [if_neg c1, if_neg c2, hf, ht, hsp, hdp]; rfl
    obtain ⟨ns, hns⟩ := R.keys
    refine ⟨_, rfl, m, _, dm, _, _, rfl, hm, T.cls_Machine, T.no_Machine_sockets, mf_get_sockets _ _, d, kvs, ns, rfl, R.dict, hns, fun ns' p hperm hsort hp => ?_⟩
    obtain rfl := R.sorted hns hperm hsort
    rw [vals_ints]
    have s1 := same_new hp (o := .lst (vals (live sc)))
    have hp1 := upd_same (H := H') (a := p) (o := .lst (vals (live sc)))
    generalize upd H' p (.lst (vals (live sc))) = H1 at *
    refine ⟨p, rfl, ⟨_, SqL.of hp1⟩, ?_⟩
    obtain ⟨Pv, hPv⟩ : ∃ Pv : Nat → L2.St → Hp → Prop, ∀ i σ H2, Pv i σ H2 ↔ ∃ v4 v5, σ = [some (.ref m), some (.int kind), some (.int n), some (.ref r), v4, v5, none] ∧ Same H1 H2 ∧ ∀ j ∈ (live sc).take i, ∀ x, sc.socks[j]? = some (some x) → pkP f t sp dp x = false := ⟨_, fun _ _ _ => Iff.rfl⟩
    refine for_list (xs := vals (live sc)) Pv ?_ ?_ ?_ ?_
    · exact (hPv _ _ _).mpr ⟨_, _, rfl, Same.refl _, fun j hj => by cases hj⟩
    · intro i σ H2 hi h
      obtain ⟨v4, v5, rfl, s2, _⟩ := (hPv _ _ _).mp h
      exact SqL.of (s2 _ _ hp1)
    · intro i v σ H2 hi h
      obtain ⟨v4, v5, rfl, s2, hno⟩ := (hPv _ _ _).mp h
      unfold vals at hi
      rw [List.getElem?_map] at hi
      obtain ⟨k, hk, rfl⟩ := Option.map_eq_some_iff.mp hi
      obtain ⟨x, hx⟩ := (mem_live R.good.len).mp (List.mem_of_getElem? hk)
      have S := s1.trans s2
      have R2 := R.same S
      have hm2 := S _ _ hm
      have hb2 := S _ _ hb
      have pok : PeerOk x := fun t p e => R.good.peer _ x t p hx e
      refine ⟨_, rfl, m, _, dm, _, _, rfl, hm2, T.cls_Machine, T.no_Machine_sockets, mf_get_sockets _ _, _, rfl, d, _, rfl, R2.gotN hx, ?_⟩
      refine ⟨_, rfl, _, rfl, r, b, rfl, hb2, fun H3 p3 s3 n3 h3 => ⟨_, rfl, r, b, rfl, s3 _ _ hb2, fun H4 p4 s4 n4 h4 => ?_⟩⟩
      rw [hf, hsp] at h3
      rw [ht, hdp] at h4
      have S4 := (S.trans s3).trans s4
      have R4 := R.same S4
      refine ⟨ad k, p3, p4, x, f, sp, t, dp, rfl, R4.cell hx, SqT.of (s4 _ _ h3), SqT.of h4, _, rfl, ?_⟩
      try dsimp only
      by_cases c : x.peer = some (t, dp) ∧ x.port = sp ∧ (x.at_ = 0 ∨ x.at_ = f)
      · rw [if_pos (decide_eq_true c)]
        have hpk := (pk_is (f := f) pok).mpr c
        have hfi : sc.socks.findIdx? (pkO f t sp dp) = some k := by
          rw [List.findIdx?_eq_some_iff_getElem]
          obtain ⟨hl, e⟩ := List.getElem?_eq_some_iff.mp hx
          refine ⟨hl, by rw [e]; exact hpk, fun j hj => ?_⟩
          cases ej : sc.socks[j]'(by omega) with
          | none => simp [pkO]
          | some y =>
            have hy : sc.socks[j]? = some (some y) := by rw [List.getElem?_eq_getElem (by omega), ej]
            have hjl : j ∈ live sc := (mem_live R.good.len).mpr ⟨y, hy⟩
            obtain ⟨i', hi'⟩ := List.mem_iff_getElem?.mp hjl
            have hlt : i' < i := by
              by_cases z : i' < i
              · exact z
              · obtain ⟨a1, b1⟩ := List.getElem?_eq_some_iff.mp hi'
                obtain ⟨a2, b2⟩ := List.getElem?_eq_some_iff.mp hk
                by_cases z2 : i' = i
                · subst z2; rw [hk] at hi'; cases hi'; omega
                · have := List.pairwise_iff_getElem.mp (live_lt sc) i i' a2 a1 (by omega)
                  omega
            have hjt : j ∈ (live sc).take i := List.mem_iff_getElem?.mpr ⟨i', by rw [List.getElem?_take, if_pos hlt]; exact hi'⟩
            have := hno j hjt y hy
            simp [pkO, this]
        rw [hfi] at es
        dsimp only at es
        rw [join_is hx] at es
        dsimp only at es
        rw [es] at q
        obtain ⟨dx, pe, rs, er, ha, hpe, hq, hms, her⟩ := (R4.sock k x hx).ex
        have ms := R.ma k x hx
        -- wanted
        refine ⟨fun v H5 => ∃ wl ws, v = .ref wl ∧ Same H4 H5 ∧ H5 wl = some (.lst (ws.map V.ref)) ∧ ¬ M wl ∧ Paired (fun a wt => WantAt H5 a wt ∧ ¬ M a) ws (if x.queue = [] ∧ x.bad = none then [.ready k] else []), ?_, ?_⟩
        · refine ⟨_, rfl, ad k, dx, pe, qd k, er, x, M, 0, _, rfl, ha, her, hq, by rw [List.length_map]; exact Paired.length hms, _, rfl, ?_⟩
          try dsimp only
          by_cases c3 : x.queue = [] ∧ x.bad = none
          · rw [decide_eq_false (by simpa using c3), if_neg (by simp)]
            refine ⟨_, rfl, (k : Int), rfl, fun l hl => ⟨(by show 1 ≤ sizeLine; decide), fun wl hwl => ⟨wl, [l], rfl, (same_new hl).trans (same_new hwl), upd_same, R4.al.out ((same_new hl).free hwl), ?_⟩⟩⟩
            rw [if_pos c3]
            exact .cons ⟨same_new hwl _ _ upd_same, R4.al.out hl⟩ .nil
          · rw [decide_eq_true c3, if_pos rfl]
            refine ⟨Nat.zero_le _, fun wl hwl => ⟨wl, [], rfl, same_new hwl, upd_same, R4.al.out hwl, ?_⟩⟩
            rw [if_neg c3]; exact .nil
        rintro v H5 ⟨wl, ws, rfl, s5, hwl, nwl, hws⟩
        have R5 := R4.same s5
        have ha5 := s5 _ _ ha
        have F5 : Fr M H' M H5 := (Fr.same S4).trans (Fr.same s5)
        -- the error
        refine ⟨_, rfl, _, rfl, (by show 2 ≤ sizeLine; decide), fun tp htp => ?_⟩
        have s6 := same_new htp (o := .tup [V.int (kind : Int), V.int (n : Int)])
        have R6 := R5.same s6
        have htp6 := upd_same (H := H5) (a := tp) (o := .tup [V.int (kind : Int), V.int (n : Int)])
        have ntp : ¬ M tp := R5.al.out htp
        have ha6 := s6 _ _ ha5
        have hwl6 := s6 _ _ hwl
        have hws6 := Paired.mapP (G := fun a wt => WantAt (upd H5 tp (.tup [V.int (kind : Int), V.int (n : Int)])) a wt ∧ ¬ M a) hws fun a wt z => ⟨s6 _ _ z.1, z.2⟩
        generalize upd H5 tp (.tup [V.int (kind : Int), V.int (n : Int)]) = H6 at *
        refine ⟨_, rfl, ad k, _, dx, _, rfl, ha6, T.cls_Socket, T.no_Socket_error, (by show 7 < 1000; decide), ?_⟩
        have ep : putF "error" (.ref tp) (sv x pe (qd k) er) = sv { x with bad := some (kind, n) } pe (qd k) (.ref tp) := rfl
        rw [ep]
        have F56 : Fr M H4 M H6 := (Fr.same s5).trans (Fr.same s6)
        have R7 := R6.sockF (x' := { x with bad := some (kind, n) }) (pe := pe) (dx := dx) (er := .ref tp) hx ha6 rfl (hpe.fr F56) (.inr ⟨tp, kind, n, rfl, rfl, .inl ⟨htp6, ntp⟩⟩) (fun t p e => R.good.peer _ x t p hx e)
        have F7 : Fr M H6 M (upd H6 (ad k) (.ins A.c_Socket dx (sv { x with bad := some (kind, n) } pe (qd k) (.ref tp)))) := Fr.write _ ms.1
        have hwl7 := F7.stay _ _ hwl6 nwl
        have hws7 := Paired.mapP (G := fun a wt => WantAt (upd H6 (ad k) (.ins A.c_Socket dx (sv { x with bad := some (kind, n) } pe (qd k) (.ref tp)))) a wt) hws6 fun a wt z => F7.stay _ _ z.1 z.2
        generalize upd H6 (ad k) (.ins A.c_Socket dx (sv { x with bad := some (kind, n) } pe (qd k) (.ref tp))) = H7 at *
        refine ⟨Nat.zero_le _, fun l2 h2 => ⟨Nat.zero_le _, fun l3 h3 => ⟨_, rfl, fun y dy hy hdy hne => ⟨y, dy, _, _, _, _, rfl, upd_same, rfl, ?_⟩⟩⟩⟩
        have S8 := (same_new h2 (o := .lst [])).trans (same_new h3 (o := .lst []))
        obtain ⟨s9, a9⟩ := ans_made (C := A) (a := ⟨1, [], [], if x.queue = [] ∧ x.bad = none then [.ready k] else []⟩) (ws := ws) (same_new h3 _ _ upd_same) upd_same (S8 _ _ hwl7) (Paired.mapP hws7 fun a wt z => S8 _ _ z) hy hdy
        have S9 := S8.trans s9
        exact q _ _ _ _ _ _ _ (((F5.trans (Fr.same s6)).trans F7).trans (Fr.same S9)) (R7.same S9) a9
      · rw [if_neg (by simpa using c)]
        refine (hPv _ _ _).mpr ⟨_, _, rfl, (s2.trans s3).trans s4, fun j hj y hy => ?_⟩
        rcases (take_mem hk j).mp hj with h' | h'
        · exact hno j h' y hy
        · subst h'
          rw [hx] at hy
          cases hy
          cases hz : pkP f t sp dp x with
          | false => rfl
          | true => exact absurd ((pk_is pok).mp hz) c
    · intro σ H2 h
      obtain ⟨v4, v5, rfl, s2, hno⟩ := (hPv _ _ _).mp h
      rw [vals_len, List.take_length] at hno
      have hfi : sc.socks.findIdx? (pkO f t sp dp) = none := by
        rw [List.findIdx?_eq_none_iff]
        intro o ho
        obtain ⟨j, hj⟩ := List.mem_iff_getElem?.mp ho
        cases o with
        | none => rfl
        | some y => exact hno j ((mem_live R.good.len).mpr ⟨y, hj⟩) y hj
      rw [hfi] at es
      dsimp only at es
      rw [es] at q
      have S := s1.trans s2
      exact q.plain rfl (R.same S) (Fr.same S)
end
end Sm



set_option Elab.async false
set_option linter.all false
set_option maxRecDepth 100000
namespace Sm
open PySem PySem.Spec PyProof.Rows L2
open Si23Neutral (bytesOf ofBytes)
inductive N6 : Int → List Int → Si23.Call → Prop
  | begins {x : Int} : 0 ≤ x → N6 0 [x] (.begins x.toNat)
  | opens : N6 1 [] .opens
  | close {k : Int} : N6 2 [k] (.close k)
  | bind {k a p : Int} : 0 ≤ a → 0 ≤ p → N6 3 [k, a, p] (.bind k a.toNat p.toNat)
  | connect {k a u p : Int} : 0 ≤ a → 0 ≤ u → 0 ≤ p → N6 4 [k, a, u, p] (.connect k a.toNat u.toNat p.toNat)
  | hear {k b : Int} : N6 5 [k, b] (.hear k b)
inductive N11 : Int → List Int → Si23.Bytes → Si23.Call → Prop
  | six {c : Int} {l : List Int} {b : Si23.Bytes} {q : Si23.Call} : N6 c l q → N11 c l b q
  | send {k a u p : Int} {b : Si23.Bytes} : 0 ≤ a → 0 ≤ u → 0 ≤ p → N11 6 [k, a, u, p] b (.send k a.toNat u.toNat p.toNat b)
  | came {f u : Int} {b : Si23.Bytes} : 0 ≤ f → 0 ≤ u → N11 7 [f, u] b (.came f.toNat u.toNat b)
  | problem {a n : Int} {b : Si23.Bytes} : 0 ≤ a → 0 ≤ n → N11 8 [a, n] b (.problem a.toNat n.toNat b)
  | take {k m : Int} {b : Si23.Bytes} : 0 ≤ m → N11 9 [k, m] b (.take k m.toNat)
  | told {k : Int} {b : Si23.Bytes} : N11 10 [k] b (.told k)
theorem N6.le {c : Int} {l : List Int} {q : Si23.Call} (h : N6 c l q) : 0 ≤ c ∧ c ≤ 5 := by cases h <;> decide
theorem N6.say {c : Int} {l : List Int} {q : Si23.Call} (h : N6 c l q) (s : Si23.St) : (Si23.step s q).2 = Si23.say (Si23.step s q).2.code := by
  cases h with
  | begins h => rfl
  | opens => unfold Si23.step; dsimp only; split <;> rfl
  | close => unfold Si23.step; dsimp only; split <;> rfl
  | hear => unfold Si23.step; dsimp only; split <;> (try rfl); split <;> rfl
  | bind h1 h2 =>
    unfold Si23.step; dsimp only
    split <;> (try rfl)
    split <;> (try rfl)
    split <;> (try rfl)
    split <;> (try rfl)
    split <;> (try rfl)
    split <;> rfl
  | connect h1 h2 h3 =>
    unfold Si23.step; dsimp only
    split <;> (try rfl)
    split <;> (try rfl)
    split
    · split <;> rfl
    · split <;> (try rfl)
      split <;> rfl
def spCfn (K : PySem.W.Frag) (C : Ad) : Sp := fun vs H Q _ => ∃ (M : Mem) (m d : Addr) (ad qd : Nat → Addr) (kvs : List (Key × V)) (s : Si23.St) (c : Int) (l : List Int) (nb : Addr) (q : Si23.Call),
  vs = [.ref m, .int c, .ref nb] ∧ Rep K C M H m d ad qd kvs s ∧ H nb = some (.lst (l.map V.int)) ∧ N6 c l q ∧ Post K C M H m (Si23.step s q).1 Q (.int (Si23.step s q).2.code)
def spCalled (K : PySem.W.Frag) (C : Ad) : Sp := fun vs H Q _ => ∃ (M : Mem) (m d : Addr) (ad qd : Nat → Addr) (kvs : List (Key × V)) (s : Si23.St) (c : Int) (l : List Int) (nb rb : Addr) (b : Si23.Bytes) (q : Si23.Call),
  vs = [.ref m, .int c, .ref nb, .ref rb] ∧ Rep K C M H m d ad qd kvs s ∧ H nb = some (.lst (l.map V.int)) ∧ H rb = some (.lst (byt b)) ∧ ¬ M rb ∧ b.length ≤ 100000 ∧ N11 c l b q ∧ PostA K C M H m (Si23.step s q).1 (Si23.step s q).2 Q
section
variable {P : Program} {w : World} {K : PySem.W.Frag} {mg : Str → Option Value} {base : Heap} {A : Ad}
theorem okT_called_for_a_number (T : Tx K mg A) : FnOk P w K mg base CX0 6 A.f_called_for_a_number A.d_called_for_a_number ["machine", "call", "numbers"] (spCfn K A) := by
  have G_Machine_begins := okT_Machine_begins (P := P) (w := w) (base := base) T
  have G_Machine_bind := okT_Machine_bind (P := P) (w := w) (base := base) T
  have G_Machine_close := okT_Machine_close (P := P) (w := w) (base := base) T
  have G_Machine_connect := okT_Machine_connect (P := P) (w := w) (base := base) T
  have G_Machine_hear := okT_Machine_hear (P := P) (w := w) (base := base) T
  have G_Machine_opens := okT_Machine_opens (P := P) (w := w) (base := base) T
  refine T.F_called_for_a_number.ok sc_called_for_a_number (fun vs H Q E h => ?_) (fun cdv A' outer s H vs Q E hr h => ?_)
  · obtain ⟨M, m, d, ad, qd, kvs, sc, c, l, nb, q', rfl, _⟩ := h
    rfl
  · obtain ⟨M, m, d, ad, qd, kvs, sc, c, l, nb, q', rfl, R, hnb, hN, q⟩ := h
    obtain ⟨dm, hm⟩ := R.mach
    obtain ⟨t_BEGINS, e_BEGINS⟩ := T.i_BEGINS
    obtain ⟨t_BIND, e_BIND⟩ := T.i_BIND
    obtain ⟨t_CLOSE, e_CLOSE⟩ := T.i_CLOSE
    obtain ⟨t_CONNECT, e_CONNECT⟩ := T.i_CONNECT
    obtain ⟨t_OPENS, e_OPENS⟩ := T.i_OPENS
    refine ⟨_, (pss_cons (ps_if (pt_cmpR op_eq (pv 1) (pe_gi rfl e_BEGINS) (nomark _)) (pss_one (ps_ret (pe_meth (pv 0) T.cls_Machine T.m_Machine_begins G_Machine_begins (hr.mono (by decide)) T.b_Machine_begins .nil pass0 (pa_cons (pe_ix ix_list (pv 2) pe_int (fun _ _ => rfl)) pa_nil)))) pss_nil)
      (pss_cons (ps_if (pt_cmpR op_eq (pv 1) (pe_gi rfl e_OPENS) (nomark _)) (pss_one (ps_ret (pe_meth0 (pv 0) T.cls_Machine T.m_Machine_opens G_Machine_opens (hr.mono (by decide)) T.b_Machine_opens .nil pass0))) pss_nil)
      (pss_cons (ps_if (pt_cmpR op_eq (pv 1) (pe_gi rfl e_CLOSE) (nomark _)) (pss_one (ps_ret (pe_meth (pv 0) T.cls_Machine T.m_Machine_close G_Machine_close (hr.mono (by decide)) T.b_Machine_close .nil pass0 (pa_cons (pe_ix ix_list (pv 2) pe_int (fun _ _ => rfl)) pa_nil)))) pss_nil)
      (pss_cons (ps_if (pt_cmpR op_eq (pv 1) (pe_gi rfl e_BIND) (nomark _)) (pss_one (ps_ret (pe_meth (pv 0) T.cls_Machine T.m_Machine_bind G_Machine_bind (hr.mono (by decide)) T.b_Machine_bind .nil pass0 (pa_cons (pe_ix ix_list (pv 2) pe_int (fun _ _ => rfl)) (pa_cons (pe_ix ix_list (pv 2) pe_int (fun _ _ => rfl)) (pa_cons (pe_ix ix_list (pv 2) pe_int (fun _ _ => rfl)) pa_nil)))))) pss_nil)
      (pss_cons (ps_if (pt_cmpR op_eq (pv 1) (pe_gi rfl e_CONNECT) (nomark _)) (pss_one (ps_ret (pe_meth (pv 0) T.cls_Machine T.m_Machine_connect G_Machine_connect (hr.mono (by decide)) T.b_Machine_connect .nil pass0 (pa_cons (pe_ix ix_list (pv 2) pe_int (fun _ _ => rfl)) (pa_cons (pe_ix ix_list (pv 2) pe_int (fun _ _ => rfl)) (pa_cons (pe_ix ix_list (pv 2) pe_int (fun _ _ => rfl)) (pa_cons (pe_ix ix_list (pv 2) pe_int (fun _ _ => rfl)) pa_nil))))))) pss_nil)
      (pss_one (ps_ret (pe_meth (pv 0) T.cls_Machine T.m_Machine_hear G_Machine_hear (hr.mono (by decide)) T.b_Machine_hear .nil pass0 (pa_cons (pe_ix ix_list (pv 2) pe_int (fun _ _ => rfl)) (pa_cons (pe_ix ix_list (pv 2) pe_int (fun _ _ => rfl)) pa_nil)))))))))), ?_⟩
    have ix : ∀ (j : Nat) (z : Int), l[j]? = some z → atI (l.map V.int) (j : Int) = some (V.int z) := fun j z e => atI_nat (by rw [List.getElem?_map, e]; rfl)
    have no : ∀ (nm : Str), ¬ nm = "sockets" → ¬ nm = "turn" → (mf (.ref d) (.int (49152 + (sc.turn : Int)))).lookup nm = none := fun nm h1 h2 => mf_no _ _ h1 h2
    have tn : ∀ {z : Int}, 0 ≤ z → ((z.toNat : Nat) : Int) = z := fun h => by omega
    cases hN with
    | @begins x h0 =>
      refine ⟨_, rfl, rfl, _, rfl, ?_⟩
      try dsimp only
      rw [if_pos (by rfl)]
      refine ⟨_, rfl, m, dm, _, rfl, hm, no _ (by decide) (by decide), _, rfl, nb, _, _, _, rfl, rfl, SqL.of hnb, ix 0 x rfl, x.toNat, M, m, d, ad, qd, kvs, sc, ?_, R, q⟩
      rw [tn h0]; rfl
    | opens =>
      refine ⟨_, rfl, rfl, _, rfl, ?_⟩
      try dsimp only
      rw [if_neg (by decide)]
      refine ⟨_, rfl, rfl, _, rfl, ?_⟩
      try dsimp only
      rw [if_pos (by rfl)]
      exact ⟨_, rfl, m, dm, _, rfl, hm, no _ (by decide) (by decide), M, m, d, ad, qd, kvs, sc, rfl, R, q⟩
    | @close k =>
      refine ⟨_, rfl, rfl, _, rfl, ?_⟩
      try dsimp only
      rw [if_neg (by decide)]
      refine ⟨_, rfl, rfl, _, rfl, ?_⟩
      try dsimp only
      rw [if_neg (by decide)]
      refine ⟨_, rfl, rfl, _, rfl, ?_⟩
      try dsimp only
      rw [if_pos (by rfl)]
      exact ⟨_, rfl, m, dm, _, rfl, hm, no _ (by decide) (by decide), _, rfl, nb, _, _, _, rfl, rfl, SqL.of hnb, ix 0 k rfl, k, M, m, d, ad, qd, kvs, sc, rfl, R, q⟩
    | @bind k a p h1 h2 =>
      refine ⟨_, rfl, rfl, _, rfl, ?_⟩
      try dsimp only
      rw [if_neg (by decide)]
      refine ⟨_, rfl, rfl, _, rfl, ?_⟩
      try dsimp only
      rw [if_neg (by decide)]
      refine ⟨_, rfl, rfl, _, rfl, ?_⟩
      try dsimp only
      rw [if_neg (by decide)]
      refine ⟨_, rfl, rfl, _, rfl, ?_⟩
      try dsimp only
      rw [if_pos (by rfl)]
      refine ⟨_, rfl, m, dm, _, rfl, hm, no _ (by decide) (by decide), _, rfl, nb, _, _, _, rfl, rfl, SqL.of hnb, ix 0 k rfl, _, rfl, nb, _, _, _, rfl, rfl, SqL.of hnb, ix 1 a rfl, _, rfl, nb, _, _, _, rfl, rfl, SqL.of hnb, ix 2 p rfl, M, m, d, ad, qd, kvs, sc, k, a.toNat, p.toNat, ?_, R, q⟩
      rw [tn h1, tn h2]; rfl
    | @connect k a u p h1 h2 h3 =>
      refine ⟨_, rfl, rfl, _, rfl, ?_⟩
      try dsimp only
      rw [if_neg (by decide)]
      refine ⟨_, rfl, rfl, _, rfl, ?_⟩
      try dsimp only
      rw [if_neg (by decide)]
      refine ⟨_, rfl, rfl, _, rfl, ?_⟩
      try dsimp only
      rw [if_neg (by decide)]
      refine ⟨_, rfl, rfl, _, rfl, ?_⟩
      try dsimp only
      rw [if_neg (by decide)]
      refine ⟨_, rfl, rfl, _, rfl, ?_⟩
      try dsimp only
      rw [if_pos (by rfl)]
      refine ⟨_, rfl, m, dm, _, rfl, hm, no _ (by decide) (by decide), _, rfl, nb, _, _, _, rfl, rfl, SqL.of hnb, ix 0 k rfl, _, rfl, nb, _, _, _, rfl, rfl, SqL.of hnb, ix 1 a rfl, _, rfl, nb, _, _, _, rfl, rfl, SqL.of hnb, ix 2 u rfl, _, rfl, nb, _, _, _, rfl, rfl, SqL.of hnb, ix 3 p rfl, M, m, d, ad, qd, kvs, sc, k, a.toNat, u.toNat, p.toNat, ?_, R, q⟩
      rw [tn h1, tn h2, tn h3]; rfl
    | @hear k b =>
      refine ⟨_, rfl, rfl, _, rfl, ?_⟩
      try dsimp only
      rw [if_neg (by decide)]
      refine ⟨_, rfl, rfl, _, rfl, ?_⟩
      try dsimp only
      rw [if_neg (by decide)]
      refine ⟨_, rfl, rfl, _, rfl, ?_⟩
      try dsimp only
      rw [if_neg (by decide)]
      refine ⟨_, rfl, rfl, _, rfl, ?_⟩
      try dsimp only
      rw [if_neg (by decide)]
      refine ⟨_, rfl, rfl, _, rfl, ?_⟩
      try dsimp only
      rw [if_neg (by decide)]
      exact ⟨_, rfl, m, dm, _, rfl, hm, no _ (by decide) (by decide), _, rfl, nb, _, _, _, rfl, rfl, SqL.of hnb, ix 0 k rfl, _, rfl, nb, _, _, _, rfl, rfl, SqL.of hnb, ix 1 b rfl, k, b, M, m, d, ad, qd, kvs, sc, rfl, R, q⟩
theorem okT_called (T : Tx K mg A) : FnOk P w K mg base CX0 7 A.f_called A.d_called ["machine", "call", "numbers", "row"] (spCalled K A) := by
  have G_Machine_came := okT_Machine_came (P := P) (w := w) (base := base) T
  have G_Machine_problem := okT_Machine_problem (P := P) (w := w) (base := base) T
  have G_Machine_send := okT_Machine_send (P := P) (w := w) (base := base) T
  have G_Machine_take := okT_Machine_take (P := P) (w := w) (base := base) T
  have G_Machine_told := okT_Machine_told (P := P) (w := w) (base := base) T
  have G_called_for_a_number := okT_called_for_a_number (P := P) (w := w) (base := base) T
  have G_plain := okT_plain (P := P) (w := w) (base := base) T
  refine T.F_called.ok sc_called (fun vs H Q E h => ?_) (fun cdv A' outer s H vs Q E hr h => ?_)
  · obtain ⟨M, m, d, ad, qd, kvs, sc, c, l, nb, rb, b, q', rfl, _⟩ := h
    rfl
  · obtain ⟨M, m, d, ad, qd, kvs, sc, c, l, nb, rb, b, q', rfl, R, hnb, hrb, nrb, hbl, hN, q⟩ := h
    obtain ⟨dm, hm⟩ := R.mach
    obtain ⟨t_CAME, e_CAME⟩ := T.i_CAME
    obtain ⟨t_HEAR, e_HEAR⟩ := T.i_HEAR
    obtain ⟨t_PROBLEM, e_PROBLEM⟩ := T.i_PROBLEM
    obtain ⟨t_SEND, e_SEND⟩ := T.i_SEND
    obtain ⟨t_TAKE, e_TAKE⟩ := T.i_TAKE
    refine ⟨_, (pss_cons (ps_if (pt_cmpR op_le (pv 1) (pe_gi rfl e_HEAR) (nomark _)) (pss_one (ps_ret (pe_call G_plain (hr.mono (by decide)) rfl T.mg_plain T.F_plain.kp T.b_plain .nil pass0 (pa_cons (pe_call G_called_for_a_number (hr.mono (by decide)) rfl T.mg_called_for_a_number T.F_called_for_a_number.kp T.b_called_for_a_number .nil pass0 (pa_cons (pv 0) (pa_cons (pv 1) (pa_cons (pv 2) pa_nil)))) pa_nil)))) pss_nil)
      (pss_cons (ps_if (pt_cmpR op_eq (pv 1) (pe_gi rfl e_SEND) (nomark _)) (pss_one (ps_ret (pe_meth (pv 0) T.cls_Machine T.m_Machine_send G_Machine_send (hr.mono (by decide)) T.b_Machine_send .nil pass0 (pa_cons (pe_ix ix_list (pv 2) pe_int (fun _ _ => rfl)) (pa_cons (pe_ix ix_list (pv 2) pe_int (fun _ _ => rfl)) (pa_cons (pe_ix ix_list (pv 2) pe_int (fun _ _ => rfl)) (pa_cons (pe_ix ix_list (pv 2) pe_int (fun _ _ => rfl)) (pa_cons (pv 3) pa_nil)))))))) pss_nil)
      (pss_cons (ps_if (pt_cmpR op_eq (pv 1) (pe_gi rfl e_CAME) (nomark _)) (pss_one (ps_ret (pe_meth (pv 0) T.cls_Machine T.m_Machine_came G_Machine_came (hr.mono (by decide)) T.b_Machine_came .nil pass0 (pa_cons (pe_ix ix_list (pv 2) pe_int (fun _ _ => rfl)) (pa_cons (pe_ix ix_list (pv 2) pe_int (fun _ _ => rfl)) (pa_cons (pv 3) pa_nil)))))) pss_nil)
      (pss_cons (ps_if (pt_cmpR op_eq (pv 1) (pe_gi rfl e_PROBLEM) (nomark _)) (pss_one (ps_ret (pe_meth (pv 0) T.cls_Machine T.m_Machine_problem G_Machine_problem (hr.mono (by decide)) T.b_Machine_problem .nil pass0 (pa_cons (pe_ix ix_list (pv 2) pe_int (fun _ _ => rfl)) (pa_cons (pe_ix ix_list (pv 2) pe_int (fun _ _ => rfl)) (pa_cons (pv 3) pa_nil)))))) pss_nil)
      (pss_cons (ps_if (pt_cmpR op_eq (pv 1) (pe_gi rfl e_TAKE) (nomark _)) (pss_one (ps_ret (pe_meth (pv 0) T.cls_Machine T.m_Machine_take G_Machine_take (hr.mono (by decide)) T.b_Machine_take .nil pass0 (pa_cons (pe_ix ix_list (pv 2) pe_int (fun _ _ => rfl)) (pa_cons (pe_ix ix_list (pv 2) pe_int (fun _ _ => rfl)) pa_nil))))) pss_nil)
      (pss_one (ps_ret (pe_meth (pv 0) T.cls_Machine T.m_Machine_told G_Machine_told (hr.mono (by decide)) T.b_Machine_told .nil pass0 (pa_cons (pe_ix ix_list (pv 2) pe_int (fun _ _ => rfl)) pa_nil))))))))), ?_⟩
    have ix : ∀ (j : Nat) (z : Int), l[j]? = some z → atI (l.map V.int) (j : Int) = some (V.int z) := fun j z e => atI_nat (by rw [List.getElem?_map, e]; rfl)
    have no : ∀ (nm : Str), ¬ nm = "sockets" → ¬ nm = "turn" → (mf (.ref d) (.int (49152 + (sc.turn : Int)))).lookup nm = none := fun nm h1 h2 => mf_no _ _ h1 h2
    have tn : ∀ {z : Int}, 0 ≤ z → ((z.toNat : Nat) : Int) = z := fun h => by omega
    refine ⟨_, rfl, _, _, rfl, rfl, _, rfl, ?_⟩
    try dsimp only
    cases hN with
    | six h6 =>
      rw [if_pos (decide_eq_true h6.le.2)]
      refine ⟨_, rfl, _, rfl, _, rfl, M, m, d, ad, qd, kvs, sc, c, l, nb, q', rfl, R, hnb, h6, fun M' H' d' ad' qd' kvs' F' R' => ?_⟩
      refine ⟨_, rfl, fun H2 r s2 a2 => ?_⟩
      rw [← h6.say sc] at a2
      exact q _ _ _ _ _ _ _ (F'.trans (Fr.same s2)) (R'.same s2) a2
    | @send k a u p _ h1 h2 h3 =>
      rw [if_neg (by decide)]
      refine ⟨_, rfl, rfl, _, rfl, ?_⟩
      try dsimp only
      rw [if_pos (by rfl)]
      refine ⟨_, rfl, m, dm, _, rfl, hm, no _ (by decide) (by decide), _, rfl, nb, _, _, _, rfl, rfl, SqL.of hnb, ix 0 k rfl, _, rfl, nb, _, _, _, rfl, rfl, SqL.of hnb, ix 1 a rfl, _, rfl, nb, _, _, _, rfl, rfl, SqL.of hnb, ix 2 u rfl, _, rfl, nb, _, _, _, rfl, rfl, SqL.of hnb, ix 3 p rfl, _, rfl, M, m, d, ad, qd, kvs, sc, k, a.toNat, u.toNat, p.toNat, rb, b, ?_, R, hrb, nrb, hbl, q⟩
      rw [tn h1, tn h2, tn h3]; rfl
    | @came f u _ h1 h2 =>
      rw [if_neg (by decide)]
      refine ⟨_, rfl, rfl, _, rfl, ?_⟩
      try dsimp only
      rw [if_neg (by decide)]
      refine ⟨_, rfl, rfl, _, rfl, ?_⟩
      try dsimp only
      rw [if_pos (by rfl)]
      refine ⟨_, rfl, m, dm, _, rfl, hm, no _ (by decide) (by decide), _, rfl, nb, _, _, _, rfl, rfl, SqL.of hnb, ix 0 f rfl, _, rfl, nb, _, _, _, rfl, rfl, SqL.of hnb, ix 1 u rfl, _, rfl, M, m, d, ad, qd, kvs, sc, f.toNat, u.toNat, rb, b, ?_, R, hrb, hbl, q⟩
      rw [tn h1, tn h2]; rfl
    | @problem a n _ h1 h2 =>
      rw [if_neg (by decide)]
      refine ⟨_, rfl, rfl, _, rfl, ?_⟩
      try dsimp only
      rw [if_neg (by decide)]
      refine ⟨_, rfl, rfl, _, rfl, ?_⟩
      try dsimp only
      rw [if_neg (by decide)]
      refine ⟨_, rfl, rfl, _, rfl, ?_⟩
      try dsimp only
      rw [if_pos (by rfl)]
      refine ⟨_, rfl, m, dm, _, rfl, hm, no _ (by decide) (by decide), _, rfl, nb, _, _, _, rfl, rfl, SqL.of hnb, ix 0 a rfl, _, rfl, nb, _, _, _, rfl, rfl, SqL.of hnb, ix 1 n rfl, _, rfl, M, m, d, ad, qd, kvs, sc, a.toNat, n.toNat, rb, b, ?_, R, hrb, q⟩
      rw [tn h1, tn h2]; rfl
    | @take k mo _ h1 =>
      rw [if_neg (by decide)]
      refine ⟨_, rfl, rfl, _, rfl, ?_⟩
      try dsimp only
      rw [if_neg (by decide)]
      refine ⟨_, rfl, rfl, _, rfl, ?_⟩
      try dsimp only
      rw [if_neg (by decide)]
      refine ⟨_, rfl, rfl, _, rfl, ?_⟩
      try dsimp only
      rw [if_neg (by decide)]
      refine ⟨_, rfl, rfl, _, rfl, ?_⟩
      try dsimp only
      rw [if_pos (by rfl)]
      refine ⟨_, rfl, m, dm, _, rfl, hm, no _ (by decide) (by decide), _, rfl, nb, _, _, _, rfl, rfl, SqL.of hnb, ix 0 k rfl, _, rfl, nb, _, _, _, rfl, rfl, SqL.of hnb, ix 1 mo rfl, k, mo.toNat, M, m, d, ad, qd, kvs, sc, ?_, R, q⟩
      rw [tn h1]; rfl
    | @told k _ =>
      rw [if_neg (by decide)]
      refine ⟨_, rfl, rfl, _, rfl, ?_⟩
      try dsimp only
      rw [if_neg (by decide)]
      refine ⟨_, rfl, rfl, _, rfl, ?_⟩
      try dsimp only
      rw [if_neg (by decide)]
      refine ⟨_, rfl, rfl, _, rfl, ?_⟩
      try dsimp only
      rw [if_neg (by decide)]
      refine ⟨_, rfl, rfl, _, rfl, ?_⟩
      try dsimp only
      rw [if_neg (by decide)]
      exact ⟨_, rfl, m, dm, _, rfl, hm, no _ (by decide) (by decide), _, rfl, nb, _, _, _, rfl, rfl, SqL.of hnb, ix 0 k rfl, k, M, m, d, ad, qd, kvs, sc, rfl, R, q⟩
end
end Sm



set_option Elab.async false
set_option linter.all false
set_option maxRecDepth 100000
namespace Sm
open PySem PySem.Spec PyProof.Rows L2
open Si23Neutral (bytesOf ofBytes)
def howMany : List Int := [1, 0, 1, 3, 4, 2, 4, 2, 2, 2, 1]
/-- the parts of one call in the list -/
theorem Cl.parts {l : List Int} {q : Si23.Call} {t : List Int} (h : Cl l q t) : ∃ (c : Nat) (nums b : List Int), N11 (c : Int) nums (bytesOf b) q ∧ isB b ∧ howMany[c]? = some (nums.length : Int) ∧
    ((¬ (c = 6 ∨ c = 7 ∨ c = 8) ∧ b = [] ∧ l = (c : Int) :: (nums ++ t)) ∨ ((c = 6 ∨ c = 7 ∨ c = 8) ∧ l = (c : Int) :: (nums ++ ((b.length : Int) :: (b ++ t))))) := by
  have nil : isB [] := ⟨by decide, fun z hz => by cases hz⟩
  cases h with
  | begins h1 h2 => exact ⟨0, _, [], .six (.begins h1), nil, rfl, .inl ⟨by decide, rfl, rfl⟩⟩
  | opens => exact ⟨1, _, [], .six .opens, nil, rfl, .inl ⟨by decide, rfl, rfl⟩⟩
  | close => exact ⟨2, [_], [], .six .close, nil, rfl, .inl ⟨by decide, rfl, rfl⟩⟩
  | bind h1 h2 => exact ⟨3, _, [], .six (.bind h1 h2), nil, rfl, .inl ⟨by decide, rfl, rfl⟩⟩
  | connect h1 h2 h3 => exact ⟨4, _, [], .six (.connect h1 h2 h3), nil, rfl, .inl ⟨by decide, rfl, rfl⟩⟩
  | hear => exact ⟨5, [_, _], [], .six .hear, nil, rfl, .inl ⟨by decide, rfl, rfl⟩⟩
  | send h1 h2 h3 hb => exact ⟨6, _, _, .send h1 h2 h3, hb, rfl, .inr ⟨by decide, rfl⟩⟩
  | came h1 h2 hb => exact ⟨7, _, _, .came h1 h2, hb, rfl, .inr ⟨by decide, rfl⟩⟩
  | problem h1 h2 hb => exact ⟨8, _, _, .problem h1 h2, hb, rfl, .inr ⟨by decide, rfl⟩⟩
  | take h1 => exact ⟨9, _, [], .take h1, nil, rfl, .inl ⟨by decide, rfl, rfl⟩⟩
  | told => exact ⟨10, [_], [], .told, nil, rfl, .inl ⟨by decide, rfl, rfl⟩⟩
/-- the list handed in stays -/
def CallsF (K : PySem.W.Frag) (M : Mem) (H : Hp) (a : Addr) (xs : List V) : Prop := (Rd H a (.lst xs) ∧ ¬ M a) ∨
  ∃ (o : Obj) (its : Array Value) (n : Nat), K.lookup a = some o ∧ o.cls = .type "list" ∧ o.dict = none ∧ o.data = .seq its n ∧ its.size ≤ sizeLine ∧ Vals xs its.toList
theorem CallsF.sq {K : PySem.W.Frag} {M : Mem} {H : Hp} {a : Addr} {xs : List V} (h : CallsF K M H a xs) : SqL K H a xs := h.elim (fun h => .inl h.1) .inr
theorem CallsF.fr {K : PySem.W.Frag} {M M' : Mem} {H H' : Hp} {a : Addr} {xs : List V} (f : Fr M H M' H') (h : CallsF K M H a xs) : CallsF K M' H' a xs := by
  rcases h with ⟨h1, h2⟩ | h
  · rcases h1 with h1 | ⟨o, h1⟩
    · exact .inl ⟨.inl (f.stay _ _ h1 h2), f.out h1 h2⟩
    · exact .inl ⟨.inr ⟨o, f.stay _ _ h1 h2⟩, f.out h1 h2⟩
  · exact .inr h
theorem CallsF.put {K : PySem.W.Frag} {M : Mem} {gv : Addr} {H : Hp} {a : Addr} {xs : List V} {o : HO} (hg : M gv) (h : CallsF K M H a xs) : CallsF K M (upd H gv o) a xs := by
  rcases h with ⟨h1, h2⟩ | h
  · have h3 : a ≠ gv := fun z => h2 (by rw [z]; exact hg)
    refine .inl ⟨?_, h2⟩
    rcases h1 with h1 | ⟨o', h1⟩
    · exact .inl (by rw [upd_ne h3]; exact h1)
    · exact .inr ⟨o', by rw [upd_ne h3]; exact h1⟩
  · exact .inr h
theorem afrom_nil (s : Si23.St) : afrom s [] = [] := by unfold afrom; rw [callsOf_nil]; rfl
theorem drop_parts {ns t x : List Int} {i : Nat} (h : ns.drop i = x ++ t) : ns.drop (i + x.length) = t := by
  rw [← List.drop_drop, h, List.drop_left]
theorem take_at {ns : List Int} {i : Nat} {x y z : List Int} (h : ns.drop i = x ++ (y ++ z)) : ((ns.map V.int).drop (i + x.length)).take y.length = y.map V.int := by
  rw [← List.map_drop, drop_parts h, List.map_append, List.take_left' (by rw [List.length_map])]
theorem get_at {ns : List Int} {i : Nat} {x z : List Int} {c : Int} (h : ns.drop i = x ++ (c :: z)) : (ns.map V.int)[i + x.length]? = some (V.int c) := by
  have := drop_parts h
  rw [List.getElem?_map]
  have e : ns[i + x.length]? = some c := by
    rw [← List.head?_drop, this]; rfl
  rw [e]; rfl
def spAns (K : PySem.W.Frag) : Sp := fun vs H Q _ => ∃ (a : Addr) (ns : List Int), vs = [.ref a] ∧ SqL K H a (ns.map V.int) ∧ PySi23.answers_asked ns = true ∧ ∀ (H' : Hp) (p : Addr), H' p = some (.lst ((PySi23.answers ns).map V.int)) → Q (.ref p) H'
/-- with the list given, which the caller keeps for itself -/
theorem Rep.reserve {K : PySem.W.Frag} {C : Ad} {M : Mem} {H : Hp} {m d : Addr} {ad qd : Nat → Addr} {kvs : List (Key × V)} {s : Si23.St} (R : Rep K C M H m d ad qd kvs s) {p : Addr} (o : HO) (hp : H p = none) : Rep K C ⟨M.mu, fun b => M.res b ∨ b = p⟩ (upd H p o) m d ad qd kvs s := by
  obtain ⟨dm, hm⟩ := R.mach
  have st := same_new hp (o := o)
  have nw : ∀ {b : Addr} {u : HO}, H b = some u → ¬ M b → ¬ (⟨M.mu, fun b => M.res b ∨ b = p⟩ : Mem) b := fun e n z => by
    rcases z with z | z | z
    · exact n (.inl z)
    · exact n (.inr z)
    · rw [z, hp] at e; cases e
  have tf : ∀ {q : Addr} {xs : List V}, TupF K M H q xs → TupF K ⟨M.mu, fun b => M.res b ∨ b = p⟩ (upd H p o) q xs := fun h => h.elim (fun h => .inl ⟨st _ _ h.1, nw h.1 h.2⟩) .inr
  have mf_ : ∀ {r : Addr} {g : Si23.Got}, MsgAt K C M H r g → MsgAt K C ⟨M.mu, fun b => M.res b ∨ b = p⟩ (upd H p o) r g := fun ⟨dr, t, b, h1, h2, h3, h4, h5⟩ => ⟨dr, t, b, st _ _ h1, nw h1 h2, tf h3, st _ _ h4, nw h4 h5⟩
  refine ⟨⟨dm, st _ _ hm⟩, st _ _ R.dict, R.dir, fun k x h => ?_, R.apart, R.ne, R.mm, R.md, R.ma, R.good, fun b hb z => ?_⟩
  · obtain ⟨dx, pe, rs, er, ha, hpe, hq, hms, her⟩ := (R.sock k x h).ex
    refine ⟨dx, pe, rs, er, st _ _ ha, tf hpe, st _ _ hq, Paired.mapP hms fun _ _ z => mf_ z, ?_⟩
    rcases her with z | ⟨t, a, b, e1, e2, e3⟩
    · exact .inl z
    · exact .inr ⟨t, a, b, e1, e2, tf e3⟩
  · by_cases e : b = p
    · rw [e, upd_same] at z; cases z
    · rw [upd_ne e] at z
      rcases hb with hb | hb | hb
      · exact R.al b (.inl hb) z
      · exact R.al b (.inr hb) z
      · exact e hb
def posOf (n : Nat) (σ : List (Option V)) : Nat := match σ[3]? with
  | some (some (V.int i)) => n - i.toNat
  | _ => 0
theorem inRow {c : Nat} (h : c < 11) : inV (V.int (c : Int)) [V.int 6, V.int 7, V.int 8] = decide (c = 6 ∨ c = 7 ∨ c = 8) := by
  match c, h with
  | 0, _ => rfl
  | 1, _ => rfl
  | 2, _ => rfl
  | 3, _ => rfl
  | 4, _ => rfl
  | 5, _ => rfl
  | 6, _ => rfl
  | 7, _ => rfl
  | 8, _ => rfl
  | 9, _ => rfl
  | 10, _ => rfl
section
variable {P : Program} {w : World} {K : PySem.W.Frag} {mg : Str → Option Value} {base : Heap} {A : Ad}
theorem okT_answers (T : Tx K mg A) : FnOk P w K mg base CX0 40 A.f_answers A.d_answers ["calls"] (spAns K) := by
  have G_Machine_init := okT_Machine_init (P := P) (w := w) (base := base) T
  have G_called := okT_called (P := P) (w := w) (base := base) T
  have G_written := okT_written (P := P) (w := w) (base := base) T
  refine T.F_answers.ok sc_answers (fun vs H Q E h => ?_) (fun cdv A' outer s H vs Q E hr h => ?_)
  · obtain ⟨a, ns, rfl, _⟩ := h
    rfl
  · obtain ⟨a, ns, rfl, hns, hask, q⟩ := h
    obtain ⟨hwf, hne, hlen⟩ := asked_wf hask
    refine ⟨_, (pss_cons (ps_set (i := 1) sc_answers.nd rfl (Or.inl rfl) (pe_make0 T.mk_Machine G_Machine_init (hr.mono (by decide)) rfl T.mg_Machine T.b_Machine_init .nil pass0))
      (pss_cons (ps_set (i := 2) sc_answers.nd rfl (Or.inl rfl) (pe_lst pa_nil))
      (pss_cons (ps_set (i := 3) sc_answers.nd rfl (Or.inl rfl) pe_int)
      (pss_cons (ps_while PassesOwn.never (pt_cmpR op_lt (pv 3) (pe_callB call_len_seq (by rfl) T.z_len PySem.boot_len (pa_cons (pv 0) pa_nil)) (nomark _)) (pss_cons (ps_set (i := 4) sc_answers.nd rfl (Or.inl rfl) (pe_ix ix_list (pv 0) (pv 3) (fun _ _ => rfl)))
      (pss_cons (ps_set (i := 5) sc_answers.nd rfl (Or.inl rfl) (pe_op op_add (pe_op op_add (pv 3) pe_int) (pe_ix ix_tup (pe_gr rfl T.t_HOW_MANY) (pv 4) (fun _ _ => rfl))))
      (pss_cons (ps_set (i := 6) sc_answers.nd rfl (Or.inl rfl) (pe_slice sl_list (pv 0) (po_some (pe_op op_add (pv 3) pe_int)) (po_some (pv 5))))
      (pss_cons (ps_set (i := 7) sc_answers.nd rfl (Or.inl rfl) (pe_lst pa_nil))
      (pss_cons (ps_cut (ps_if (pt_cmpR op_in_seq (pv 4) (pe_gr rfl T.t_WITH_A_ROW) rfl) (pss_cons (ps_set (i := 8) sc_answers.nd rfl (Or.inl rfl) (pe_op op_add (pv 5) pe_int))
      (pss_cons (ps_set (i := 5) sc_answers.nd rfl (Or.inl rfl) (pe_op op_add (pv 8) (pe_ix ix_list (pv 0) (pv 5) (fun _ _ => rfl))))
      (pss_one (ps_set (i := 7) sc_answers.nd rfl (Or.inl rfl) (pe_slice sl_list (pv 0) (po_some (pv 8)) (po_some (pv 5))))))) pss_nil))
      (pss_cons (ps_set (i := 9) sc_answers.nd rfl (Or.inl rfl) (pe_call G_written (hr.mono (by decide)) rfl T.mg_written T.F_written.kp T.b_written .nil pass0 (pa_cons (pe_call G_called (hr.mono (by decide)) rfl T.mg_called T.F_called.kp T.b_called .nil pass0 (pa_cons (pv 1) (pa_cons (pv 4) (pa_cons (pv 6) (pa_cons (pv 7) pa_nil))))) pa_nil)))
      (pss_cons (ps_expr (pe_bm PySem.F.plainAttrs_list PySem.F.slot_list_append PySem.F.type_list_append mt_append (pv 2) (pa_cons (pe_callB call_len_seq (by rfl) T.z_len PySem.boot_len (pa_cons (pv 9) pa_nil)) pa_nil)))
      (pss_cons (ps_expr (pe_bm PySem.F.plainAttrs_list PySem.F.slot_list_extend PySem.F.type_list_extend mt_extend (pv 2) (pa_cons (pv 9) pa_nil)))
      (pss_one (ps_set (i := 3) sc_answers.nd rfl (Or.inl rfl) (pv 5))))))))))))
      (pss_one (ps_ret (pv 2))))))), ?_⟩
    -- the machine
    intro m dm hm hdm hmne
    refine ⟨m, dm, rfl, upd_same, fun d hd => ⟨rfl, ?_⟩⟩
    have hdm' : d ≠ m := fun z => by rw [z, upd_same] at hd; cases hd
    have hd1 : (upd H dm (.own m)) d = none := by rw [upd_ne hdm'] at hd; exact hd
    have hddm : d ≠ dm := fun z => by rw [z, upd_same] at hd1; cases hd1
    have hd0 : H d = none := by rw [upd_ne hddm] at hd1; exact hd1
    have s1 : Same H (upd (upd (upd (upd H dm (.own m)) m (.ins A.c_Machine dm [])) d (.dK [])) m (.ins A.c_Machine dm (mf (.ref d) (.int 49152)))) := fun c o e => by
      rw [upd_ne (ne_of_none e hm), upd_ne (ne_of_none e hd0), upd_ne (ne_of_none e hm), upd_ne (ne_of_none e hdm)]; exact e
    have none_ : ∀ (j : Nat) (x : Si23.Sock), ¬ (List.replicate 64 (none : Option Si23.Sock))[j]? = some (some x) := fun j x h => by
      rw [List.getElem?_replicate] at h
      split at h <;> cases h
    have al : Al ⟨fun b => b = m ∨ b = d, fun _ => False⟩ (upd (upd (upd (upd H dm (.own m)) m (.ins A.c_Machine dm [])) d (.dK [])) m (.ins A.c_Machine dm (mf (.ref d) (.int 49152)))) := fun b hb z => by
      rcases hb with (hb | hb) | hb
      · rw [hb, upd_same] at z; cases z
      · rw [hb, upd_ne hdm', upd_same] at z; cases z
      · exact hb
    have R0 : Rep K A ⟨fun b => b = m ∨ b = d, fun _ => False⟩ (upd (upd (upd (upd H dm (.own m)) m (.ins A.c_Machine dm [])) d (.dK [])) m (.ins A.c_Machine dm (mf (.ref d) (.int 49152)))) m d (fun _ => 0) (fun _ => 0) [] Si23.init :=
      ⟨⟨dm, upd_same⟩, by rw [upd_ne hdm', upd_same], ⟨List.nodup_nil, fun kv h => (by cases h), fun j x h => absurd h (none_ j x)⟩, fun j x h => absurd h (none_ j x), fun i j x y h => absurd h (none_ i x), fun j x h => absurd h (none_ j x), .inl rfl, .inr rfl, fun j x h => absurd h (none_ j x), ⟨rfl, by decide, fun j x t p h => absurd h (none_ j x), fun j x h => absurd h (none_ j x)⟩, al⟩
    generalize upd (upd (upd (upd H dm (.own m)) m (.ins A.c_Machine dm [])) d (.dK [])) m (.ins A.c_Machine dm (mf (.ref d) (.int 49152))) = H1 at *
    -- given
    refine ⟨Nat.zero_le _, fun gv hgv => ?_⟩
    have s2 := same_new hgv (o := .lst [])
    have R1 := R0.reserve (.lst []) hgv
    have hc0 : CallsF K ⟨fun b => b = m ∨ b = d, fun b => False ∨ b = gv⟩ (upd H1 gv (.lst [])) a (ns.map V.int) := by
      rcases hns with h | h
      · have out : ∀ o, H a = some o → ¬ (⟨fun b => b = m ∨ b = d, fun b => False ∨ b = gv⟩ : Mem) a := fun o e z => by
          rcases z with (z | z) | (z | z)
          · rw [z, hm] at e; cases e
          · rw [z, hd0] at e; cases e
          · exact z
          · exact ne_of_none (s1 _ _ e) hgv z
        rcases h with h | ⟨o, h⟩
        · exact .inl ⟨.inl (s2 _ _ (s1 _ _ h)), out _ h⟩
        · exact .inl ⟨.inr ⟨o, s2 _ _ (s1 _ _ h)⟩, out _ h⟩
      · exact .inr h
    have ng : ¬ (gv = m ∨ gv = d) := fun z => R0.al.out hgv (.inl z)
    have hg1 := upd_same (H := H1) (a := gv) (o := .lst [])
    generalize upd H1 gv (.lst []) = H2 at *
    obtain ⟨Pv, hPv⟩ : ∃ Pv : L2.St → Hp → Prop, ∀ σ H', Pv σ H' ↔ ∃ (i : Nat) (M : Mem) (d : Addr) (ad qd : Nat → Addr) (kvs : List (Key × V)) (sc : Si23.St) (g : List Int) (v4 v5 v6 v7 v8 v9 : Option V), σ = [some (.ref a), some (.ref m), some (.ref gv), some (.int i), v4, v5, v6, v7, v8, v9] ∧ i ≤ ns.length ∧ Wf (ns.drop i) ∧ g ++ afrom sc (ns.drop i) = PySi23.answers ns ∧ Rep K A M H' m d ad qd kvs sc ∧ H' gv = some (.lst (g.map V.int)) ∧ M.res gv ∧ ¬ M.mu gv ∧ CallsF K M H' a (ns.map V.int) := ⟨_, fun _ _ => Iff.rfl⟩
    have lz : ∀ n : Nat, n ≤ 10000010 → n ≤ sizeLine := fun n h => Nat.le_trans h (by decide)
    have lz' : ∀ n : Nat, n ≤ 10000010 → n < sizeLine := fun n h => Nat.lt_of_le_of_lt h (by decide)
    refine while_by Pv (fun σ _ => posOf ns.length σ) ?_ ?_ ?_
    · exact (hPv _ _).mpr ⟨0, ⟨fun b => b = m ∨ b = d, fun b => False ∨ b = gv⟩, d, _, _, _, Si23.init, [], none, none, none, none, none, none, rfl, Nat.zero_le _, hwf, (answers_from ns).symm, R1, hg1, .inr rfl, ng, hc0⟩
    · intro σ H' h
      obtain ⟨i, M, d', ad, qd, kvs, sc, g, v4, v5, v6, v7, v8, v9, rfl, hi, hW, hA, R, hg, hgr, hgm, hC⟩ := (hPv _ _).mp h
      refine ⟨_, rfl, _, rfl, a, _, rfl, .inl hC.sq, _, _, rfl, rfl, _, rfl, ?_⟩
      try dsimp only
      rw [List.length_map]
      by_cases cend : i < ns.length
      · rw [if_pos (decide_eq_true (by omega))]
        have hne' : ns.drop i ≠ [] := fun z => by have := congrArg List.length z; rw [List.length_drop] at this; simp at this; omega
        obtain ⟨q', t, hCl, hWt, htl, hAf⟩ := hW.step hne'
        obtain ⟨c, nums, b, hN, hB, hHM, hsh⟩ := hCl.parts
        have hc11 : c < 11 := by have := (List.getElem?_eq_some_iff.mp hHM).1; exact this
        have hAf' := hAf sc
        rw [hAf'] at hA
        have hlenA := congrArg List.length hA
        rw [List.length_append, List.length_cons, List.length_append] at hlenA
        have hdrop0 : ns.drop i = [] ++ ((c : Int) :: (nums ++ if c = 6 ∨ c = 7 ∨ c = 8 then (b.length : Int) :: (b ++ t) else t)) := by
          rcases hsh with ⟨h1, h2, h3⟩ | ⟨h1, h3⟩
          · rw [if_neg h1]; exact h3
          · rw [if_pos h1]; exact h3
        have hdrop1 : ns.drop i = [(c : Int)] ++ (nums ++ if c = 6 ∨ c = 7 ∨ c = 8 then (b.length : Int) :: (b ++ t) else t) := hdrop0
        -- call = calls[at]
        have g0 := get_at hdrop0
        refine ⟨_, rfl, _, rfl, a, _, _, _, rfl, rfl, hC.sq, atI_nat (j := i) g0, ?_⟩
        -- behind
        refine ⟨_, rfl, _, _, rfl, rfl, _, rfl, A.g_HOW_MANY, _, _, _, rfl, rfl, .inr T.k_HOW_MANY, atI_nat (j := c) (v := V.int (nums.length : Int)) (by
          have e : ([V.int 1, V.int 0, V.int 1, V.int 3, V.int 4, V.int 2, V.int 4, V.int 2, V.int 2, V.int 2, V.int 1] : List V) = howMany.map V.int := rfl
          rw [e, List.getElem?_map, hHM]; rfl), _, _, rfl, rfl, ?_⟩
        have e1 : (i : Int) + 1 + (nums.length : Int) = ((i + 1 + nums.length : Nat) : Int) := by omega
        dsimp only
        rw [e1]
        -- numbers
        refine ⟨_, rfl, _, rfl, _, _, rfl, rfl, _, rfl, _, rfl, _, rfl, a, _, rfl, hC.sq, fun nb hnb => ?_⟩
        have e2 : cutV (ns.map V.int) (some ((i : Int) + 1)) (some ((i + 1 + nums.length : Nat) : Int)) = nums.map V.int := by
          have e := cut_nat2 (ns.map V.int) (i + 1) (i + 1 + nums.length)
          have e3 : ((i + 1 : Nat) : Int) = (i : Int) + 1 := by omega
          rw [e3] at e
          rw [e, show i + 1 + nums.length - (i + 1) = nums.length by omega]
          exact take_at hdrop1
        rw [e2]
        have sn := same_new hnb (o := .lst (nums.map V.int))
        have hn1 := upd_same (H := H') (a := nb) (o := .lst (nums.map V.int))
        generalize upd H' nb (.lst (nums.map V.int)) = Ha at *
        -- row = []
        refine ⟨Nat.zero_le _, fun rb0 hrb0 => ?_⟩
        have sr := sn.trans (same_new hrb0 (o := .lst []))
        have hn2 := same_new hrb0 (o := .lst []) _ _ hn1
        have hr2 := upd_same (H := Ha) (a := rb0) (o := .lst [])
        have nrb0 := R.al.out (sn.free hrb0)
        generalize upd Ha rb0 (.lst []) = Hb at *
        generalize hend : ns.length - t.length = e at *
        -- the row
        refine ⟨fun σ' Hc => ∃ rb v8', σ' = [some (.ref a), some (.ref m), some (.ref gv), some (.int i), some (.int c), some (.int e), some (.ref nb), some (.ref rb), v8', v9] ∧ Same H' Hc ∧ Hc nb = some (.lst (nums.map V.int)) ∧ Hc rb = some (.lst (byt (bytesOf b))) ∧ ¬ M rb ∧ e ≤ ns.length ∧ i < e ∧ ns.drop e = t, ?_, ?_⟩
        · refine ⟨_, rfl, A.g_WITH_A_ROW, _, rfl, .inr (.inr T.k_WITH_A_ROW), rfl, rfl, _, rfl, ?_⟩
          try dsimp only
          rw [show (if false = true then !inV (V.int (c : Int)) [V.int 6, V.int 7, V.int 8] else inV (V.int (c : Int)) [V.int 6, V.int 7, V.int 8]) = decide (c = 6 ∨ c = 7 ∨ c = 8) from inRow hc11]
          rcases hsh with ⟨h1, h2, h3⟩ | ⟨h1, h3⟩
          · rw [if_neg (by simpa using h1)]
            rw [if_neg h1] at hdrop1
            have e4 : ns.drop (i + (1 + nums.length)) = t := by
              have := drop_parts (x := (c : Int) :: nums) (t := t) (i := i) (by rw [hdrop1]; rfl)
              rw [← this]; congr 1; simp; omega
            have e5 : e = i + 1 + nums.length := by
              have := congrArg List.length e4
              rw [List.length_drop] at this
              have h6 := congrArg List.length hdrop1
              simp only [List.length_drop, List.length_append, List.length_cons, List.length_nil] at h6
              omega
            subst h2
            exact ⟨rb0, _, by rw [e5]; rfl, sr, hn2, hr2, nrb0, by omega, by omega, by rw [e5, ← e4]; congr 1; omega⟩
          · rw [if_pos (decide_eq_true h1)]
            rw [if_pos h1] at hdrop1
            -- begin, behind, row
            refine ⟨_, rfl, _, _, rfl, rfl, ?_⟩
            have hC2 : SqL K Hb a (ns.map V.int) := (hC.fr (Fr.same sr)).sq
            have d2 : ns.drop i = ((c : Int) :: nums) ++ ((b.length : Int) :: (b ++ t)) := by rw [hdrop1]; rfl
            have g2 := get_at d2
            have el : i + ((c : Int) :: nums).length = i + 1 + nums.length := by simp; omega
            rw [el] at g2
            refine ⟨_, rfl, _, rfl, _, rfl, a, _, _, _, rfl, rfl, hC2, atI_nat (j := i + 1 + nums.length) g2, _, _, rfl, rfl, ?_⟩
            have d3 : ns.drop i = (((c : Int) :: nums) ++ [(b.length : Int)]) ++ (b ++ t) := by rw [d2]; simp
            have l3 : (((c : Int) :: nums) ++ [(b.length : Int)]).length = 1 + nums.length + 1 := by simp; omega
            have e4 : ns.drop (i + (1 + nums.length + 1 + b.length)) = t := by
              have := drop_parts (x := (((c : Int) :: nums) ++ [(b.length : Int)]) ++ b) (t := t) (i := i) (by rw [d3]; simp)
              rw [← this]; congr 1; rw [List.length_append, l3]
            have e5 : e = i + 1 + nums.length + 1 + b.length := by
              have := congrArg List.length e4
              rw [List.length_drop] at this
              have h6 := congrArg List.length d3
              rw [List.length_drop, List.length_append, l3, List.length_append] at h6
              omega
            have e6 : ((i + 1 + nums.length : Nat) : Int) + 1 + (b.length : Int) = (e : Int) := by omega
            dsimp only
            rw [e6]
            refine ⟨_, rfl, _, rfl, _, rfl, _, rfl, _, rfl, a, _, rfl, hC2, fun rb hrb => ?_⟩
            have e7 : cutV (ns.map V.int) (some (((i + 1 + nums.length : Nat) : Int) + 1)) (some (e : Int)) = byt (bytesOf b) := by
              have e8 := cut_nat2 (ns.map V.int) (i + 1 + nums.length + 1) e
              have e9 : ((i + 1 + nums.length + 1 : Nat) : Int) = ((i + 1 + nums.length : Nat) : Int) + 1 := by omega
              rw [e9] at e8
              have e10 := take_at d3
              rw [l3] at e10
              rw [e8, show e - (i + 1 + nums.length + 1) = b.length by omega, show i + 1 + nums.length + 1 = i + (1 + nums.length + 1) by omega, e10, byt_of, ofBytes_bytesOf hB.2]
            rw [e7]
            exact ⟨rb, _, rfl, sr.trans (same_new hrb), same_new hrb _ _ hn2, upd_same, R.al.out (sr.free hrb), by omega, by omega, by rw [e5, ← e4]; congr 1; omega⟩
        · rintro σ' Hc ⟨rb, v8', rfl, sc', hnc, hrc, nrb, hel, hie, hdt⟩
          have Rc := R.same sc'
          have hgc := sc' _ _ hg
          have hCc := hC.fr (Fr.same sc' (M := M))
          have hbl : (bytesOf b).length ≤ 100000 := by rw [bytes_len]; have := hB.1; omega
          refine ⟨_, rfl, _, rfl, _, rfl, _, rfl, M, m, d', ad, qd, kvs, sc, (c : Int), nums, nb, rb, bytesOf b, q', rfl, Rc, hnc, hrc, nrb, hbl, hN, fun M' Hd d2 ad2 qd2 kvs2 r2 Fd Rd aD => ?_⟩
          refine ⟨r2, _, rfl, aD, by omega, fun He p2 se np2 hp2 => ?_⟩
          have Re := Rd.same se
          have hgd := se _ _ (Fd.stayM _ _ hgc hgm)
          have hgr' : M'.res gv := (Fd.res gv).mpr hgr
          have hgm' : ¬ M'.mu gv := Fd.outM hgc hgm
          have hCe := (hCc.fr Fd).fr (Fr.same se (M := M'))
          have npg : p2 ≠ gv := fun z => by rw [z, Fd.stayM _ _ hgc hgm] at np2; cases np2
          -- given.append(len(answered))
          refine ⟨_, rfl, .inl ⟨rfl, _, SqL.of hgd⟩, _, rfl, p2, _, rfl, .inl (SqL.of hp2), gv, _, _, rfl, rfl, hgd, lz' _ (by rw [List.length_map]; omega), ?_⟩
          -- given.extend(answered)
          refine ⟨_, rfl, .inl ⟨rfl, _, SqL.of upd_same⟩, _, rfl, gv, p2, _, _, rfl, rfl, upd_same, by rw [upd_ne npg]; exact hp2, lz _ (by simp only [List.length_append, List.length_map, List.length_cons, List.length_nil]; omega), ?_⟩
          rw [upd_upd]
          -- at = behind
          have nm : gv ≠ m ∧ gv ≠ d2 ∧ ∀ k x, (Si23.step sc q').1.socks[k]? = some (some x) → gv ≠ ad2 k ∧ gv ≠ qd2 k := ⟨fun z => hgm' (by rw [z]; exact Re.mm), fun z => hgm' (by rw [z]; exact Re.md), fun k x hx => ⟨fun z => hgm' (by rw [z]; exact (Re.ma k x hx).1), fun z => hgm' (by rw [z]; exact (Re.ma k x hx).2)⟩⟩
          refine ⟨_, rfl, (hPv _ _).mpr ⟨e, M', d2, ad2, qd2, kvs2, (Si23.step sc q').1, g ++ (((Si23Neutral.listOf (Si23.step sc q').2).length : Int) :: Si23Neutral.listOf (Si23.step sc q').2), _, _, _, _, _, _, rfl, hel, by rw [hdt]; exact hWt, ?_, Re.other _ (.inr hgr') nm.1 nm.2.1 nm.2.2, ?_, hgr', hgm', hCe.put (.inr hgr')⟩, ?_⟩
          · rw [hdt, ← hA]; simp
          · rw [upd_same]; simp
          · show ns.length - (e : Int).toNat < ns.length - (i : Int).toNat
            omega
      · rw [if_neg (by simp; omega)]
        have hin : i = ns.length := by omega
        subst hin
        rw [List.drop_length, afrom_nil, List.append_nil] at hA
        rw [hA] at hg
        exact ⟨_, rfl, q _ _ hg⟩
    · intro σ H' Q1 Q2 hq h
      obtain ⟨v, h1, v2, h2, p, ys, h3, h4, i1, j1, h5, h6, k, h7, h8⟩ := h
      exact ⟨v, h1, v2, h2, p, ys, h3, h4, i1, j1, h5, h6, k, h7, hq _ _ h8⟩
end
end Sm



set_option Elab.async false
set_option linter.all false
namespace Sm
open PySem PySem.Spec PyProof.Rows L2
theorem fin_mk {P : Program} {w : World} {K : PySem.W.Frag} {h : Heap} {mg : Str → Option Value} {fa : Addr} (hmg : mg "answers" = some (.ref fa)) (tx : ∃ A : Ad, Tx K mg A ∧ ∃ f, A.f_answers = f) :
    ∃ fd : FuncData, (∀ (s : Shared) (us : List Value), us.length = (["calls"] : List Str).length → BindsTo s fd ⟨us, []⟩ ((["calls"] : List Str).zip us)) ∧ ∀ base : Heap, K.In base → base.Ns mainGlobals mg → FnOk P w K mg base CX0 40 fa fd ["calls"] (spAns K) := by
  obtain ⟨A, T, _⟩ := tx
  have e : A.f_answers = fa := by
    have h := T.mg_answers
    rw [hmg] at h
    exact (Value.ref.inj (Option.some.inj h)).symm
  obtain ⟨oc, od, kV, doc, pm, an, cdv, ct, osl, hfd, lk, hcd⟩ := T.F_answers.ex
  refine ⟨A.d_answers, fun s us hl => ?_, fun base _ _ => ?_⟩
  · rw [hfd]
    match us, hl with
    | [u], _ => exact .of_eq rfl
  · rw [← e]
    exact okT_answers T
theorem tx_ex {K : PySem.W.Frag} {mg : Str → Option Value} {f : Addr} (h : ∃ A : Ad, Tx K mg A ∧ A.f_answers = f) : ∃ A : Ad, Tx K mg A ∧ ∃ f, A.f_answers = f := let ⟨A, t, e⟩ := h; ⟨A, t, f, e⟩
end Sm
namespace PySem.W.Fast
def tw8472874399278799646 := 0
def tw2243032203781562893 := 0
def tw12387140919230687555 := 0
def tw2225454675443023518 := 0
def tw6227299392994490302 := 0
def tw1554731209752991791 := 0
def tw16126170833293384988 := 0
def tw11700423414610112214 := 0
def tw9080460323321970805 := 0
def tw4778765251600693507 := 0
def tw6901946285414232747 := 0
def tw15695031589477654490 := 0
def tw1756982445676875415 := 0
def tw7972423958983817173 := 0
def tw12623932570048131395 := 0
def tw3071166756808076292 := 0
def tw10833293207182439876 := 0
def tw6216998721779744105 := 0
def tw7659554162873184836 := 0
def tw7188036158725798534 := 0
def tw10161081752490632976 := 0
def tw18012548348520488847 := 0
def tw18414760995855770238 := 0
def tw5476582650201296 := 0
def tw3220992574643901935 := 0
def tw2950909919005112966 := 0
def tw9709571850432700500 := 0
def tw18280723374303812410 := 0
def tw5530593248904403105 := 0
def tw2471066997760824832 := 0
def tw289960472589454131 := 0
def tw14996786677360772729 := 0
def tw16743008584062962796 := 0
def tw4768763805223952898 := 0
def tw14496367093086861833 := 0
def tw5331592197803691204 := 0
def tw269436007306506085 := 0
def tw8495446847289209824 := 0
def tw4414918522402454843 := 0
def tw8683687328653392575 := 0
def tw1512541133139203718 := 0
def tw3112475583013354655 := 0
def tw15729544848938423871 := 0
def tw12665758385594978289 := 0
def tw14605543150856999109 := 0
def tw6118953651372511640 := 0
def tw10236956364335540395 := 0
def tw15136147145875238556 := 0
def tw10516489723774143280 := 0
def tw1428007669331207823 := 0
def tw12301377020917502210 := 0
def tw1506636247529586918 := 0
def tw18154705373559478715 := 0
def tw2238591798048646455 := 0
def tw14384379927171604457 := 0
def tw906649397852400888 := 0
def tw14174347494624010281 := 0
def tw8080109699699299458 := 0
def tw15805861212194162578 := 0
def tw5553428469111720917 := 0
def tw7893579178703889480 := 0
def tw1848362113386764655 := 0
def tw3337032635857153490 := 0
def tw17048747363610203832 := 0
def tw17884996729564430004 := 0
def tw11993594007573617386 := 0
def tw1326097694757332142 := 0
def tw8630215207588006537 := 0
def tw12019264068458877139 := 0
def tw13826066317937500664 := 0
def tw4697620301869667389 := 0
def tw17477200223943187562 := 0
def tw4823514207913031984 := 0
def tw1645542053082738577 := 0
def tw13092465892218406803 := 0
def tw7052385096131791956 := 0
def tw11629902863507531043 := 0
def tw15415065369872332475 := 0
def tw7886919394041894504 := 0
def tw15294369587562291864 := 0
def tw16046310136851458921 := 0
def tw8990923988547798859 := 0
def tw5742082604567000011 := 0
def tw8760009895010921261 := 0
def tw9802569477672904155 := 0
def tw8679788181314531896 := 0
def tw14751044999343324895 := 0
def tw13759963015678716969 := 0
def tw6781477652580631577 := 0
def tw15820219324113754174 := 0
def tw4038345566058804018 := 0
def tw11009235826809684017 := 0
def tw7153979034918179414 := 0
def tw13799501608385747316 := 0
def tw7367341182007221611 := 0
def tw3844940256471150312 := 0
def tw952748999668829263 := 0
def tw3637544964540596577 := 0
def tw11841266114045000794 := 0
def tw17209155631226312470 := 0
def tw11235141675104407120 := 0
def tw7417375155124123029 := 0
def tw115373554582854635 := 0
def tw3411777948091213067 := 0
def tw17892872220340575943 := 0
def tw14080789365140355499 := 0
def tw14589107308960633039 := 0
def tw4971698137398548297 := 0
def tw3499137726080394438 := 0
def tw8119104538501084711 := 0
def tw5684977308850264889 := 0
def tw5549937224250028146 := 0
def tw17689186495555728914 := 0
def tw1082403384265217878 := 0
def tw17891432315750070625 := 0
def tw7421105281446106434 := 0
def tw1861043578034982420 := 0
def tw4947393018164158399 := 0
def tw8818538846841758340 := 0
def tw15889563955877204917 := 0
def tw11723959147586655291 := 0
def tw11182782741330533737 := 0
def tw14755908438237302869 := 0
def tw3516209800478140192 := 0
def tw6057776886698506356 := 0
def tw2768580695812520639 := 0
def tw13187258991598408969 := 0
def tw18144012429810620187 := 0
def tw13090441802319154350 := 0
def tw1602898136214438373 := 0
def tw407166190835221924 := 0
def tw3051423012908050810 := 0
def tw8531981731367591570 := 0
def tw13037376825710894572 := 0
def tw5587533842697217699 := 0
def tw4735040618123977849 := 0
def tw13983933072227802284 := 0
def tw411878517202422105 := 0
def tw7947441816194061607 := 0
def tw3028219405502788202 := 0
def tw3974166167665708047 := 0
def tw3831914936710685039 := 0
def tw6958722460605147678 := 0
def tw8459723682727425766 := 0
def tw16758566497866077932 := 0
def tw16516198051181560068 := 0
def tw6840820763964426720 := 0
def tw9328117889768210144 := 0
def tw10093665633859392263 := 0
def tw639884680408202726 := 0
def tw7755740936374030317 := 0
def tw8495300089852860052 := 0
def tw9915637903241442994 := 0
def tw15677602888821824897 := 0
def tw18178943466320691852 := 0
def tw14657264599262332996 := 0
def tw11064017507524319116 := 0
def tw16933190112456083256 := 0
def tw10145286513925280998 := 0
def tw5263440340849946495 := 0
def tw1503546603533358799 := 0
def tw8804213646095438017 := 0
end PySem.W.Fast
open PySem PySem.W PyProof.Rows
set_option maxRecDepth 100000 in
set_option maxHeartbeats 0 in
theorem PySem.Challenge.cw_singlemail_s01_answers_holds : PySem.Challenge.rw_singlemail_s01_answers.Holds := by
  w_on; k_headS; (case hw => exact ⟨[.list [.int 1]], by decide +kernel, by decide +kernel⟩)
  k_fillS
  refine L2.walk_specK (r := PySem.Challenge.rw_singlemail_s01_answers) (k := 40) (CX := L2.CX0) (ps := ["calls"]) (sp := Sm.spAns) (by decide +kernel) rfl rfl ⟨rfl, by decide, by decide⟩ (fun w h Y => PySem.W.kIn_of Y) ?F ?S (fun _ _ _ _ z => z)
  case F =>
    intro w mg fa h Y KX G hmg
    refine Sm.fin_mk (P := PySem.Challenge.rw_singlemail_s01_answers.prog) (w := w) (h := h) hmg ?tx
    refine' Sm.tx_ex (Sm.tx_mk KX G ?aC_Answer ?aC_Message ?aC_Socket ?aC_Machine ?a_Answer_init ?i_Answer_init ?l_Answer_init ?q_Answer_init ?k_Answer_init ?a_plain ?l_plain ?q_plain ?k_plain ?a_packet_sent ?l_packet_sent ?q_packet_sent ?k_packet_sent ?a_error_told ?l_error_told ?q_error_told ?k_error_told ?a_something_now ?l_something_now ?q_something_now ?k_something_now ?a_written ?l_written ?q_written ?k_written ?a_number_at ?l_number_at ?q_number_at ?k_number_at ?a_written_bytes ?l_written_bytes ?q_written_bytes ?k_written_bytes ?a_two_by_two ?l_two_by_two ?q_two_by_two ?k_two_by_two ?a_whole_total ?l_whole_total ?q_whole_total ?k_whole_total ?a_datagram ?l_datagram ?q_datagram ?k_datagram ?a_is_datagram ?l_is_datagram ?q_is_datagram ?k_is_datagram ?a_port_from ?l_port_from ?q_port_from ?k_port_from ?a_port_to ?l_port_to ?q_port_to ?k_port_to ?a_body_of ?l_body_of ?q_body_of ?k_body_of ?a_is_packet_start ?l_is_packet_start ?q_is_packet_start ?k_is_packet_start ?a_packet_from ?l_packet_from ?q_packet_from ?k_packet_from ?a_packet_to ?l_packet_to ?q_packet_to ?k_packet_to ?a_Message_init ?i_Message_init ?l_Message_init ?q_Message_init ?k_Message_init ?a_Socket_init ?i_Socket_init ?l_Socket_init ?q_Socket_init ?k_Socket_init ?a_meets ?l_meets ?q_meets ?k_meets ?a_fits_at_any ?l_fits_at_any ?q_fits_at_any ?k_fits_at_any ?a_fits ?l_fits ?q_fits ?k_fits ?a_has_address ?l_has_address ?q_has_address ?k_has_address ?a_rank ?l_rank ?q_rank ?k_rank ?a_sent_there ?l_sent_there ?q_sent_there ?k_sent_there ?a_has_something ?l_has_something ?q_has_something ?k_has_something ?a_weight ?l_weight ?q_weight ?k_weight ?a_has_room ?l_has_room ?q_has_room ?k_has_room ?a_get_message ?l_get_message ?q_get_message ?k_get_message ?a_drop_others ?l_drop_others ?q_drop_others ?k_drop_others ?a_port_of_round ?l_port_of_round ?q_port_of_round ?k_port_of_round ?a_Machine_init ?i_Machine_init ?l_Machine_init ?q_Machine_init ?k_Machine_init ?a_Machine_begins ?i_Machine_begins ?l_Machine_begins ?q_Machine_begins ?k_Machine_begins ?a_Machine_opens ?i_Machine_opens ?l_Machine_opens ?q_Machine_opens ?k_Machine_opens ?a_Machine_close ?i_Machine_close ?l_Machine_close ?q_Machine_close ?k_Machine_close ?a_Machine_bind ?i_Machine_bind ?l_Machine_bind ?q_Machine_bind ?k_Machine_bind ?a_Machine_connect ?i_Machine_connect ?l_Machine_connect ?q_Machine_connect ?k_Machine_connect ?a_Machine_hear ?i_Machine_hear ?l_Machine_hear ?q_Machine_hear ?k_Machine_hear ?a_Machine_send ?i_Machine_send ?l_Machine_send ?q_Machine_send ?k_Machine_send ?a_Machine_came ?i_Machine_came ?l_Machine_came ?q_Machine_came ?k_Machine_came ?a_Machine_problem ?i_Machine_problem ?l_Machine_problem ?q_Machine_problem ?k_Machine_problem ?a_Machine_take ?i_Machine_take ?l_Machine_take ?q_Machine_take ?k_Machine_take ?a_Machine_told ?i_Machine_told ?l_Machine_told ?q_Machine_told ?k_Machine_told ?a_Machine_let_peer_go ?i_Machine_let_peer_go ?l_Machine_let_peer_go ?q_Machine_let_peer_go ?k_Machine_let_peer_go ?a_Machine_take_peer ?i_Machine_take_peer ?l_Machine_take_peer ?q_Machine_take_peer ?k_Machine_take_peer ?a_Machine_is_met ?i_Machine_is_met ?l_Machine_is_met ?q_Machine_is_met ?k_Machine_is_met ?a_Machine_port_for ?i_Machine_port_for ?l_Machine_port_for ?q_Machine_port_for ?k_Machine_port_for ?a_Machine_free_port ?i_Machine_free_port ?l_Machine_free_port ?q_Machine_free_port ?k_Machine_free_port ?a_Machine_give ?i_Machine_give ?l_Machine_give ?q_Machine_give ?k_Machine_give ?a_Machine_hearing ?i_Machine_hearing ?l_Machine_hearing ?q_Machine_hearing ?k_Machine_hearing ?a_Machine_best_fitting ?i_Machine_best_fitting ?l_Machine_best_fitting ?q_Machine_best_fitting ?k_Machine_best_fitting ?a_Machine_hand_over ?i_Machine_hand_over ?l_Machine_hand_over ?q_Machine_hand_over ?k_Machine_hand_over ?a_answers ?l_answers ?q_answers ?k_answers ?a_called ?l_called ?q_called ?k_called ?a_called_for_a_number ?l_called_for_a_number ?q_called_for_a_number ?k_called_for_a_number ?pg_Answer ?hd_Answer ?po_Answer ?sa_Answer ?mk_Answer ?kc_Answer ?n_Answer_number ?n_Answer_figures ?n_Answer_row ?n_Answer_wanted ?pg_Message ?hd_Message ?po_Message ?sa_Message ?mk_Message ?kc_Message ?n_Message_sender ?n_Message_to_address ?n_Message_body ?pg_Socket ?hd_Socket ?po_Socket ?sa_Socket ?mk_Socket ?kc_Socket ?n_Socket_address ?n_Socket_port ?n_Socket_peer ?n_Socket_hears ?n_Socket_queue ?n_Socket_error ?n_Socket_lost ?pg_Machine ?hd_Machine ?po_Machine ?sa_Machine ?mk_Machine ?kc_Machine ?n_Machine_sockets ?n_Machine_turn ?v_PACKET_SENT ?v_ERROR_TOLD ?v_SOMETHING_NOW ?v_HEADER ?v_CARRIED_AS ?v_ROUND ?v_PACKET_START ?v_PACKET_FIRST ?v_MOST_WAITING ?v_MOST_WEIGHT ?v_OWN_WEIGHT ?v_NOT_AS_TOLD ?v_NO_SUCH_SOCKET ?v_NO_DATAGRAM ?v_IN_THE_WAY ?v_NONE_FREE ?v_TOO_LONG ?v_MOST_SOCKETS ?v_EVERYBODY ?v_LAST_PORT ?v_FIRST_GIVEN ?v_GIVEN_PORTS ?v_LONGEST_BODY ?v_LAST_KIND ?v_LAST_OF_ERROR ?v_MOST_TAKEN ?v_BEGINS ?v_OPENS ?v_CLOSE ?v_BIND ?v_CONNECT ?v_HEAR ?v_SEND ?v_CAME ?v_PROBLEM ?v_TAKE ?v_NO_PEER ?w_NO_PEER ?x_NO_PEER ?v_HOW_MANY ?w_HOW_MANY ?x_HOW_MANY ?v_WITH_A_ROW ?w_WITH_A_ROW ?x_WITH_A_ROW ?z_len ?z_list ?z_range ?z_sorted ?z_sum)
    (case aC_Answer => k_is)
    (case aC_Message => k_is)
    (case aC_Socket => k_is)
    (case aC_Machine => k_is)
    (case a_Answer_init => k_is)
    (case i_Answer_init => k_is)
    (case l_Answer_init => k_is)
    (case q_Answer_init => k_is)
    (case k_Answer_init => k_is)
    (case a_plain => k_is)
    (case l_plain => k_is)
    (case q_plain => k_is)
    (case k_plain => k_is)
    (case a_packet_sent => k_is)
    (case l_packet_sent => k_is)
    (case q_packet_sent => k_is)
    (case k_packet_sent => k_is)
    (case a_error_told => k_is)
    (case l_error_told => k_is)
    (case q_error_told => k_is)
    (case k_error_told => k_is)
    (case a_something_now => k_is)
    (case l_something_now => k_is)
    (case q_something_now => k_is)
    (case k_something_now => k_is)
    (case a_written => k_is)
    (case l_written => k_is)
    (case q_written => k_is)
    (case k_written => k_is)
    (case a_number_at => k_is)
    (case l_number_at => k_is)
    (case q_number_at => k_is)
    (case k_number_at => k_is)
    (case a_written_bytes => k_is)
    (case l_written_bytes => k_is)
    (case q_written_bytes => k_is)
    (case k_written_bytes => k_is)
    (case a_two_by_two => k_is)
    (case l_two_by_two => k_is)
    (case q_two_by_two => k_is)
    (case k_two_by_two => k_is)
    (case a_whole_total => k_is)
    (case l_whole_total => k_is)
    (case q_whole_total => k_is)
    (case k_whole_total => k_is)
    (case a_datagram => k_is)
    (case l_datagram => k_is)
    (case q_datagram => k_is)
    (case k_datagram => k_is)
    (case a_is_datagram => k_is)
    (case l_is_datagram => k_is)
    (case q_is_datagram => k_is)
    (case k_is_datagram => k_is)
    (case a_port_from => k_is)
    (case l_port_from => k_is)
    (case q_port_from => k_is)
    (case k_port_from => k_is)
    (case a_port_to => k_is)
    (case l_port_to => k_is)
    (case q_port_to => k_is)
    (case k_port_to => k_is)
    (case a_body_of => k_is)
    (case l_body_of => k_is)
    (case q_body_of => k_is)
    (case k_body_of => k_is)
    (case a_is_packet_start => k_is)
    (case l_is_packet_start => k_is)
    (case q_is_packet_start => k_is)
    (case k_is_packet_start => k_is)
    (case a_packet_from => k_is)
    (case l_packet_from => k_is)
    (case q_packet_from => k_is)
    (case k_packet_from => k_is)
    (case a_packet_to => k_is)
    (case l_packet_to => k_is)
    (case q_packet_to => k_is)
    (case k_packet_to => k_is)
    (case a_Message_init => k_is)
    (case i_Message_init => k_is)
    (case l_Message_init => k_is)
    (case q_Message_init => k_is)
    (case k_Message_init => k_is)
    (case a_Socket_init => k_is)
    (case i_Socket_init => k_is)
    (case l_Socket_init => k_is)
    (case q_Socket_init => k_is)
    (case k_Socket_init => k_is)
    (case a_meets => k_is)
    (case l_meets => k_is)
    (case q_meets => k_is)
    (case k_meets => k_is)
    (case a_fits_at_any => k_is)
    (case l_fits_at_any => k_is)
    (case q_fits_at_any => k_is)
    (case k_fits_at_any => k_is)
    (case a_fits => k_is)
    (case l_fits => k_is)
    (case q_fits => k_is)
    (case k_fits => k_is)
    (case a_has_address => k_is)
    (case l_has_address => k_is)
    (case q_has_address => k_is)
    (case k_has_address => k_is)
    (case a_rank => k_is)
    (case l_rank => k_is)
    (case q_rank => k_is)
    (case k_rank => k_is)
    (case a_sent_there => k_is)
    (case l_sent_there => k_is)
    (case q_sent_there => k_is)
    (case k_sent_there => k_is)
    (case a_has_something => k_is)
    (case l_has_something => k_is)
    (case q_has_something => k_is)
    (case k_has_something => k_is)
    (case a_weight => k_is)
    (case l_weight => k_is)
    (case q_weight => k_is)
    (case k_weight => k_is)
    (case a_has_room => k_is)
    (case l_has_room => k_is)
    (case q_has_room => k_is)
    (case k_has_room => k_is)
    (case a_get_message => k_is)
    (case l_get_message => k_is)
    (case q_get_message => k_is)
    (case k_get_message => k_is)
    (case a_drop_others => k_is)
    (case l_drop_others => k_is)
    (case q_drop_others => k_is)
    (case k_drop_others => k_is)
    (case a_port_of_round => k_is)
    (case l_port_of_round => k_is)
    (case q_port_of_round => k_is)
    (case k_port_of_round => k_is)
    (case a_Machine_init => k_is)
    (case i_Machine_init => k_is)
    (case l_Machine_init => k_is)
    (case q_Machine_init => k_is)
    (case k_Machine_init => k_is)
    (case a_Machine_begins => k_is)
    (case i_Machine_begins => k_is)
    (case l_Machine_begins => k_is)
    (case q_Machine_begins => k_is)
    (case k_Machine_begins => k_is)
    (case a_Machine_opens => k_is)
    (case i_Machine_opens => k_is)
    (case l_Machine_opens => k_is)
    (case q_Machine_opens => k_is)
    (case k_Machine_opens => k_is)
    (case a_Machine_close => k_is)
    (case i_Machine_close => k_is)
    (case l_Machine_close => k_is)
    (case q_Machine_close => k_is)
    (case k_Machine_close => k_is)
    (case a_Machine_bind => k_is)
    (case i_Machine_bind => k_is)
    (case l_Machine_bind => k_is)
    (case q_Machine_bind => k_is)
    (case k_Machine_bind => k_is)
    (case a_Machine_connect => k_is)
    (case i_Machine_connect => k_is)
    (case l_Machine_connect => k_is)
    (case q_Machine_connect => k_is)
    (case k_Machine_connect => k_is)
    (case a_Machine_hear => k_is)
    (case i_Machine_hear => k_is)
    (case l_Machine_hear => k_is)
    (case q_Machine_hear => k_is)
    (case k_Machine_hear => k_is)
    (case a_Machine_send => k_is)
    (case i_Machine_send => k_is)
    (case l_Machine_send => k_is)
    (case q_Machine_send => k_is)
    (case k_Machine_send => k_is)
    (case a_Machine_came => k_is)
    (case i_Machine_came => k_is)
    (case l_Machine_came => k_is)
    (case q_Machine_came => k_is)
    (case k_Machine_came => k_is)
    (case a_Machine_problem => k_is)
    (case i_Machine_problem => k_is)
    (case l_Machine_problem => k_is)
    (case q_Machine_problem => k_is)
    (case k_Machine_problem => k_is)
    (case a_Machine_take => k_is)
    (case i_Machine_take => k_is)
    (case l_Machine_take => k_is)
    (case q_Machine_take => k_is)
    (case k_Machine_take => k_is)
    (case a_Machine_told => k_is)
    (case i_Machine_told => k_is)
    (case l_Machine_told => k_is)
    (case q_Machine_told => k_is)
    (case k_Machine_told => k_is)
    (case a_Machine_let_peer_go => k_is)
    (case i_Machine_let_peer_go => k_is)
    (case l_Machine_let_peer_go => k_is)
    (case q_Machine_let_peer_go => k_is)
    (case k_Machine_let_peer_go => k_is)
    (case a_Machine_take_peer => k_is)
    (case i_Machine_take_peer => k_is)
    (case l_Machine_take_peer => k_is)
    (case q_Machine_take_peer => k_is)
    (case k_Machine_take_peer => k_is)
    (case a_Machine_is_met => k_is)
    (case i_Machine_is_met => k_is)
    (case l_Machine_is_met => k_is)
    (case q_Machine_is_met => k_is)
    (case k_Machine_is_met => k_is)
    (case a_Machine_port_for => k_is)
    (case i_Machine_port_for => k_is)
    (case l_Machine_port_for => k_is)
    (case q_Machine_port_for => k_is)
    (case k_Machine_port_for => k_is)
    (case a_Machine_free_port => k_is)
    (case i_Machine_free_port => k_is)
    (case l_Machine_free_port => k_is)
    (case q_Machine_free_port => k_is)
    (case k_Machine_free_port => k_is)
    (case a_Machine_give => k_is)
    (case i_Machine_give => k_is)
    (case l_Machine_give => k_is)
    (case q_Machine_give => k_is)
    (case k_Machine_give => k_is)
    (case a_Machine_hearing => k_is)
    (case i_Machine_hearing => k_is)
    (case l_Machine_hearing => k_is)
    (case q_Machine_hearing => k_is)
    (case k_Machine_hearing => k_is)
    (case a_Machine_best_fitting => k_is)
    (case i_Machine_best_fitting => k_is)
    (case l_Machine_best_fitting => k_is)
    (case q_Machine_best_fitting => k_is)
    (case k_Machine_best_fitting => k_is)
    (case a_Machine_hand_over => k_is)
    (case i_Machine_hand_over => k_is)
    (case l_Machine_hand_over => k_is)
    (case q_Machine_hand_over => k_is)
    (case k_Machine_hand_over => k_is)
    (case a_answers => k_is)
    (case l_answers => k_is)
    (case q_answers => k_is)
    (case k_answers => k_is)
    (case a_called => k_is)
    (case l_called => k_is)
    (case q_called => k_is)
    (case k_called => k_is)
    (case a_called_for_a_number => k_is)
    (case l_called_for_a_number => k_is)
    (case q_called_for_a_number => k_is)
    (case k_called_for_a_number => k_is)
    (case pg_Answer => k_is)
    (case hd_Answer => k_is)
    (case po_Answer => k_is)
    (case sa_Answer => k_is)
    (case mk_Answer => k_is)
    (case kc_Answer => k_is)
    (case n_Answer_number => k_is)
    (case n_Answer_figures => k_is)
    (case n_Answer_row => k_is)
    (case n_Answer_wanted => k_is)
    (case pg_Message => k_is)
    (case hd_Message => k_is)
    (case po_Message => k_is)
    (case sa_Message => k_is)
    (case mk_Message => k_is)
    (case kc_Message => k_is)
    (case n_Message_sender => k_is)
    (case n_Message_to_address => k_is)
    (case n_Message_body => k_is)
    (case pg_Socket => k_is)
    (case hd_Socket => k_is)
    (case po_Socket => k_is)
    (case sa_Socket => k_is)
    (case mk_Socket => k_is)
    (case kc_Socket => k_is)
    (case n_Socket_address => k_is)
    (case n_Socket_port => k_is)
    (case n_Socket_peer => k_is)
    (case n_Socket_hears => k_is)
    (case n_Socket_queue => k_is)
    (case n_Socket_error => k_is)
    (case n_Socket_lost => k_is)
    (case pg_Machine => k_is)
    (case hd_Machine => k_is)
    (case po_Machine => k_is)
    (case sa_Machine => k_is)
    (case mk_Machine => k_is)
    (case kc_Machine => k_is)
    (case n_Machine_sockets => k_is)
    (case n_Machine_turn => k_is)
    (case v_PACKET_SENT => k_is)
    (case v_ERROR_TOLD => k_is)
    (case v_SOMETHING_NOW => k_is)
    (case v_HEADER => k_is)
    (case v_CARRIED_AS => k_is)
    (case v_ROUND => k_is)
    (case v_PACKET_START => k_is)
    (case v_PACKET_FIRST => k_is)
    (case v_MOST_WAITING => k_is)
    (case v_MOST_WEIGHT => k_is)
    (case v_OWN_WEIGHT => k_is)
    (case v_NOT_AS_TOLD => k_is)
    (case v_NO_SUCH_SOCKET => k_is)
    (case v_NO_DATAGRAM => k_is)
    (case v_IN_THE_WAY => k_is)
    (case v_NONE_FREE => k_is)
    (case v_TOO_LONG => k_is)
    (case v_MOST_SOCKETS => k_is)
    (case v_EVERYBODY => k_is)
    (case v_LAST_PORT => k_is)
    (case v_FIRST_GIVEN => k_is)
    (case v_GIVEN_PORTS => k_is)
    (case v_LONGEST_BODY => k_is)
    (case v_LAST_KIND => k_is)
    (case v_LAST_OF_ERROR => k_is)
    (case v_MOST_TAKEN => k_is)
    (case v_BEGINS => k_is)
    (case v_OPENS => k_is)
    (case v_CLOSE => k_is)
    (case v_BIND => k_is)
    (case v_CONNECT => k_is)
    (case v_HEAR => k_is)
    (case v_SEND => k_is)
    (case v_CAME => k_is)
    (case v_PROBLEM => k_is)
    (case v_TAKE => k_is)
    (case v_NO_PEER => k_is)
    (case w_NO_PEER => k_is)
    (case x_NO_PEER => rfl)
    (case v_HOW_MANY => k_is)
    (case w_HOW_MANY => k_is)
    (case x_HOW_MANY => rfl)
    (case v_WITH_A_ROW => k_is)
    (case w_WITH_A_ROW => k_is)
    (case x_WITH_A_ROW => rfl)
    (case z_len => k_is)
    (case z_list => k_is)
    (case z_range => k_is)
    (case z_sorted => k_is)
    (case z_sum => k_is)
  case S =>
    intro K H xs a hO hwi hask hx
    cases hx with
    | cons h1 h2 =>
      cases h2
      cases h1 with
      | lst hs ha =>
        have e := L2.ints_dw a.1 _ ha
        subst e
        exact ⟨_, a.1, rfl, hs, hask, fun H' p hp => .lst (L2.SqL.of hp) (L2.dw_ints _)⟩
#print axioms PySem.Challenge.cw_singlemail_s01_answers_holds

