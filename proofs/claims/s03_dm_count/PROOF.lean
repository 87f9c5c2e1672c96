import PyProof.Rows.All
import Wide.All
import OpenK.AllK
import Wide.FinOn
import PyProof.EqAt
import PyProof.EqKinds
import PyProof.TupleCall
import KE.BitLaws
import KE.OsGo
import KE.OsArgs
import Open.SpecLaws
import KE.KSortTupG
import PySem.Challenge.RW_spellsame_s03_dm_count
set_option Elab.async false
set_option linter.all false
set_option maxRecDepth 100000
namespace L2
open PySem PySem.Spec PyProof.Rows
/-- a key: an int or a str -/
abbrev Key := Sum Int Str
def keyIs : Key → Value → Bool
  | .inl k, v => Value.isInt k v
  | .inr x, v => Value.isStrOf x v
def keyH (w : World) : Key → Int
  | .inl k => hashInt k
  | .inr x => hashStr w x
theorem keyIs_shape : ∀ {k : Key} {v : Value}, keyIs k v = true → (∃ i t, k = Sum.inl i ∧ v = Value.int i t) ∨ (∃ x t, k = Sum.inr x ∧ v = Value.str x t)
  | .inl i, v, h => by
    obtain ⟨t, e⟩ := Value.isInt_shape (k := i) (v := v) h
    exact .inl ⟨i, t, rfl, e⟩
  | .inr x, v, h => by
    obtain ⟨t, e⟩ := Value.isStrOf_shape (x := x) (v := v) h
    exact .inr ⟨x, t, rfl, e⟩
theorem keyIs_int (i : Int) (t : Tok) : keyIs (.inl i) (.int i t) = true := by simp [keyIs, Value.isInt]
theorem keyIs_str (x : Str) (t : Tok) : keyIs (.inr x) (.str x t) = true := by simp [keyIs, Value.isStrOf]
theorem key_ll (a b : Int) : decide ((Sum.inl a : Key) = Sum.inl b) = (a == b) := by
  by_cases e : a = b
  · subst e; simp
  · have h : ¬ (Sum.inl a : Key) = Sum.inl b := fun q => e (Sum.inl.inj q)
    rw [decide_eq_false h]
    exact (beq_eq_false_iff_ne.mpr e).symm
theorem key_rr (a b : Str) : decide ((Sum.inr a : Key) = Sum.inr b) = decide (a = b) := by
  by_cases e : a = b
  · subst e; simp
  · have h : ¬ (Sum.inr a : Key) = Sum.inr b := fun q => e (Sum.inr.inj q)
    rw [decide_eq_false h, decide_eq_false e]
theorem key_lr (a : Int) (b : Str) : decide ((Sum.inl a : Key) = Sum.inr b) = false := decide_eq_false (fun q => nomatch q)
theorem key_rl (a : Str) (b : Int) : decide ((Sum.inr a : Key) = Sum.inl b) = false := decide_eq_false (fun q => nomatch q)
def mixKind (prog : Program) (w : World) : PySem.KeyKind prog w Key where
  is := keyIs
  hash := keyH w
  inj := fun v a b ha hb => by
    rcases keyIs_shape ha with ⟨i, t, rfl, rfl⟩ | ⟨x, t, rfl, rfl⟩
    · rcases keyIs_shape hb with ⟨j, u, rfl, e⟩ | ⟨y, u, rfl, e⟩
      · injection e with e1 _; rw [e1]
      · exact nomatch e
    · rcases keyIs_shape hb with ⟨j, u, rfl, e⟩ | ⟨y, u, rfl, e⟩
      · exact nomatch e
      · injection e with e1 _; rw [e1]
  byValue := fun k v h => by
    rcases keyIs_shape h with ⟨i, t, rfl, rfl⟩ | ⟨x, t, rfl, rfl⟩ <;> rfl
  pyHash := fun hv h => by
    rcases keyIs_shape hv with ⟨i, t, rfl, rfl⟩ | ⟨x, t, rfl, rfl⟩
    · exact wpAny_pyHash_int h
    · exact wpAny_pyHash_str h
  eqBool := fun hu hv h => by
    rcases keyIs_shape hu with ⟨i, t, rfl, rfl⟩ | ⟨x, t, rfl, rfl⟩
    · rcases keyIs_shape hv with ⟨j, u, rfl, rfl⟩ | ⟨y, u, rfl, rfl⟩
      · rw [key_ll] at h; exact wpAny_eqBool_int h
      · rw [key_lr] at h; exact SeqAt.EqAt.int_str i t y u _ _ _ _ h
    · rcases keyIs_shape hv with ⟨j, u, rfl, rfl⟩ | ⟨y, u, rfl, rfl⟩
      · rw [key_rl] at h; exact SeqAt.EqAt.str_int x t j u _ _ _ _ h
      · rw [key_rr] at h; exact wpAny_eqBool_str h
  «strs» := fun k x t v h => by
    rcases keyIs_shape h with ⟨i, u, rfl, e⟩ | ⟨y, u, rfl, e⟩
    · exact nomatch e
    · injection e with e1 _
      subst e1
      cases v <;> rfl
theorem mixKind_int (prog : Program) (w : World) (i : Int) (t : Tok) : (mixKind prog w).is (.inl i) (.int i t) = true := keyIs_int i t
theorem mixKind_str (prog : Program) (w : World) (x : Str) (t : Tok) : (mixKind prog w).is (.inr x) (.str x t) = true := keyIs_str x t
end L2
namespace L2
open PySem PySem.Spec PyProof.Rows
/-- a value, without the heap -/
inductive V where
  | non | bl (b : Bool) | int (i : Int) | str (x : Str) | byt (b : Array UInt8) | flt (b : UInt64) | ref (a : Addr) | ty (n : String)
  deriving DecidableEq
def RelV : V → Value → Prop
  | .non, u => u = Value.none
  | .bl b, u => u = Value.bool b
  | .int i, u => ∃ t, u = Value.int i t
  | .str x, u => ∃ t, u = Value.str x t
  | .byt b, u => ∃ t, u = Value.bytes b t
  | .flt b, u => ∃ t, u = Value.float b t
  | .ref a, u => u = Value.ref a
  | .ty n, u => u = Value.type n
abbrev Vals : List V → List Value → Prop := Paired RelV
theorem Vals.length {xs : List V} {us : List Value} (r : Vals xs us) : xs.length = us.length := Paired.length r
theorem Vals.get : ∀ {xs : List V} {us : List Value} {i : Nat} {x : V}, Vals xs us → xs[i]? = some x → ∃ u, us[i]? = some u ∧ RelV x u
  | _, _, _, _, .nil, e => by simp at e
  | _, _, 0, _, .cons r _, e => by simp at e; subst e; exact ⟨_, rfl, r⟩
  | _, _, i + 1, x, .cons _ t, e => by
    obtain ⟨u, h1, h2⟩ := Vals.get (i := i) (x := x) t (by simpa using e)
    exact ⟨u, by simpa using h1, h2⟩
theorem Vals.append : ∀ {xs ys : List V} {us ws : List Value}, Vals xs us → Vals ys ws → Vals (xs ++ ys) (us ++ ws)
  | _, _, _, _, .nil, s => s
  | _, _, _, _, .cons r t, s => .cons r (Vals.append t s)
theorem Vals.take : ∀ {xs : List V} {us : List Value} (n : Nat), Vals xs us → Vals (xs.take n) (us.take n)
  | _, _, 0, _ => .nil
  | _, _, _ + 1, .nil => .nil
  | _, _, n + 1, .cons r t => .cons r (Vals.take n t)
theorem Vals.drop : ∀ {xs : List V} {us : List Value} (n : Nat), Vals xs us → Vals (xs.drop n) (us.drop n)
  | _, _, 0, r => r
  | _, _, _ + 1, .nil => .nil
  | _, _, n + 1, .cons _ t => Vals.drop n t
def RelO : Option V → Option Value → Prop
  | some v, some u => RelV v u
  | none, none => True
  | _, _ => False
def KV {κ : Type} : List (κ × V) → List (κ × Value) → Prop := Paired fun (p : κ × V) (q : κ × Value) => p.1 = q.1 ∧ RelV p.2 q.2
/-- a key of a dict (00_mix): an int or a text -/
def kV : Key → V
  | .inl i => .int i
  | .inr x => .str x
/-- what stands at a tracked address -/
inductive HO where
  /-- a list -/
  | lst (xs : List V)
  /-- a tuple (never changes) -/
  | tup (xs : List V)
  /-- a dict whose keys are ints and texts; one whose keys are tuples of ints and texts (the empty one is both) -/
  | dK (kvs : List (Key × V)) | dT (kvs : List (List Key × V))
  /-- a set of ints: its members, its size -/
  | set (S : Int → Bool) (n : Nat)
  /-- an instance of the class at C, its dict at dx, its attributes -/
  | ins (C dx : Addr) (fs : List (Str × V))
  /-- the dict of the instance at x -/
  | own (x : Addr)
  /-- the dict of an exception -/
  | xd (fs : List (Str × V))
  /-- a bound method, f of x -/
  | met (f x : Addr)
  /-- a range object lo, lo + 1, .. below hi -/
  | rng (lo hi : Int)
  /-- a thing that is known to the object (the script; a dict while a loop walks it): read, never written while it is so -/
  | frz (o : Obj) (u : HO)
  /-- a code object's table -/
  | tbl (ps : Array Value)
  /-- any other thing, by what is true of its one object (a def of one's own: SetO a S n := HO.ext fun h => ..) -/
  | ext (φ : Heap → Prop)
abbrev Hp := Addr → Option HO
def upd (H : Hp) (a : Addr) (o : HO) : Hp := fun b => if b = a then some o else H b
theorem upd_same {H : Hp} {a : Addr} {o : HO} : upd H a o a = some o := by unfold upd; rw [if_pos rfl]
theorem upd_ne {H : Hp} {a b : Addr} {o : HO} (h : b ≠ a) : upd H a o b = H b := by unfold upd; rw [if_neg h]
theorem upd_upd {H : Hp} {a : Addr} {o u : HO} : upd (upd H a o) a u = upd H a u := by
  funext b; unfold upd; split <;> rfl
/-- two objects of different content stand apart -/
theorem ne_of {H : Hp} {a b : Addr} {o u : HO} (h : H a = some o) (h' : H b = some u) (d : o ≠ u) : a ≠ b := by
  intro e; subst e; rw [h] at h'; exact d (Option.some.inj h')
theorem ne_of_none {H : Hp} {a b : Addr} {o : HO} (h : H a = some o) (h' : H b = none) : a ≠ b := by
  intro e; subst e; rw [h] at h'; cases h'
section
variable (P : Program) (w : World)
def ObjOk (H : Hp) (h : Heap) (a : Addr) : HO → Prop
  | .lst xs => xs.length ≤ sizeLine ∧ ∃ (its : List Value) (n : Nat), Vals xs its ∧ h.get? a = some { cls := .type "list", data := .seq its.toArray n }
  | .tup xs => xs.length ≤ sizeLine ∧ ∃ its : List Value, Vals xs its ∧ IsTup h a its.toArray
  | .dK kvs => kvs.length ≤ sizeLine ∧ (a == sysModules) = false ∧ ∃ vs, KV kvs vs ∧ h.DictOf (mixKind P w) a vs
  | .dT kvs => kvs.length ≤ sizeLine ∧ (a == sysModules) = false ∧ ∃ xs : List (List Key × Addr × Value),
      Paired (fun (p : List Key × V) (q : List Key × Addr × Value) => p.1 = q.1 ∧ H q.2.1 = some (.tup (p.1.map kV)) ∧ RelV p.2 q.2.2) kvs xs ∧
      ∃ o es ep, h.get? a = some o ∧ o.ExactDict ∧ o.data = .dict es ep ∧ es.toList = xs.map (entryOfKey (tupleKind (mixKind P w))) ∧ (xs.map (·.1)).Nodup
  | .set S n => h.SetOf (intKind P w) a S n
  | .ins C dx fs => H dx = some (.own a) ∧ fs.length ≤ 1000 ∧ dx ≠ a ∧ h.get? a = some (PySem.W.instObj C dx) ∧
      ∃ mA, h.Ns1 dx mA ∧ (∀ f, RelO (fs.lookup f) (mA f)) ∧ PySem.Within mA (fs.map (·.1))
  | .own _ => ∃ o, h.get? a = some o
  | .xd fs => ∃ mA, h.Ns1 a mA ∧ ∀ f, RelO (fs.lookup f) (mA f)
  | .rng lo hi => ∃ t u v, h.get? a = some { cls := .type "range", data := .fields #[.int lo t, .int hi u, .int 1 v] }
  | .frz o u => h.get? a = some o ∧ ObjOk H h a u
  | .tbl ps => h.get? a = some { cls := .none, data := .fields ps }
  | .met f x => h.get? a = some (PySem.W.methodObj (.ref f) (.ref x))
  | .ext φ => φ h ∧ (∃ o, h.get? a = some o) ∧ ∀ h1 h2 : Heap, φ h1 → (∀ o, h1.get? a = some o → h2.get? a = some o) → φ h2
/-- the abstract heap is held -/
def HOk (H : Hp) (h : Heap) : Prop := ∀ a o, H a = some o → ObjOk P w H h a o
end
section
variable {P : Program} {w : World} {H H' : Hp} {h h' : Heap} {a : Addr} {o : HO}
theorem ObjOk.lt (x : ObjOk P w H h a o) : a < h.objs.size := by
  cases o with
  | lst xs => obtain ⟨_, _, _, _, e⟩ := x; exact Heap.lt_size e
  | tup xs => obtain ⟨_, _, _, p⟩ := x; exact p.lt
  | dK kvs => obtain ⟨_, _, _, _, o, _, _, e, _⟩ := x; exact Heap.lt_size e
  | dT kvs => obtain ⟨_, _, _, _, o, _, _, e, _⟩ := x; exact Heap.lt_size e
  | set S n => obtain ⟨o, _, _, _, e, _⟩ := x; exact Heap.lt_size e
  | ins C dx fs => obtain ⟨_, _, _, e, _⟩ := x; exact Heap.lt_size e
  | own y => obtain ⟨_, e⟩ := x; exact Heap.lt_size e
  | xd fs => obtain ⟨_, ⟨_, _, _, e, _⟩, _⟩ := x; exact Heap.lt_size e
  | rng lo hi => obtain ⟨_, _, _, e⟩ := x; exact Heap.lt_size e
  | frz ob u => obtain ⟨e, _⟩ := x; exact Heap.lt_size e
  | tbl ps => exact Heap.lt_size (show h.get? a = some _ from x)
  | met f y => exact Heap.lt_size (show h.get? a = some _ from x)
  | ext φ => obtain ⟨_, ⟨_, e⟩, _⟩ := x; exact Heap.lt_size e
theorem Paired.mapP {α β : Type} {F G : α → β → Prop} : ∀ {l₁ : List α} {l₂ : List β}, Paired F l₁ l₂ → (∀ a b, F a b → G a b) → Paired G l₁ l₂
  | _, _, .nil, _ => .nil
  | _, _, .cons r t, f => .cons (f _ _ r) (Paired.mapP t f)
/-- what an object's description leans on: its own object, its own dict, the tuples -/
theorem ObjOk.stay (x : ObjOk P w H h a o) (k : ∀ b u, (b = a ∨ H b = some (.own a)) → h.get? b = some u → h'.get? b = some u)
    (ho : ∀ b, H b = some (.own a) → H' b = some (.own a)) (ht : ∀ b xs, H b = some (.tup xs) → H' b = some (.tup xs)) : ObjOk P w H' h' a o := by
  induction o with
  | lst xs => obtain ⟨z, its, n, r, e⟩ := x; exact ⟨z, its, n, r, k _ _ (.inl rfl) e⟩
  | tup xs => obtain ⟨z, its, r, ob, e, c⟩ := x; exact ⟨z, its, r, ob, k _ _ (.inl rfl) e, c⟩
  | dK kvs => obtain ⟨z, y, vs, r, ob, es, ep, e, c⟩ := x; exact ⟨z, y, vs, r, ob, es, ep, k _ _ (.inl rfl) e, c⟩
  | dT kvs =>
    obtain ⟨z, y, xs, r, ob, es, ep, e, c⟩ := x
    exact ⟨z, y, xs, Paired.mapP r fun p q z => ⟨z.1, ht _ _ z.2.1, z.2.2⟩, ob, es, ep, k _ _ (.inl rfl) e, c⟩
  | set S n => obtain ⟨ob, es, ep, t, e, c⟩ := x; exact ⟨ob, es, ep, t, k _ _ (.inl rfl) e, c⟩
  | ins C dx fs =>
    obtain ⟨d, z, ne, e, mA, ⟨od, es, ep, e2, c⟩, r⟩ := x
    exact ⟨ho _ d, z, ne, k _ _ (.inl rfl) e, mA, ⟨od, es, ep, k _ _ (.inr d) e2, c⟩, r⟩
  | own y => obtain ⟨ob, e⟩ := x; exact ⟨ob, k _ _ (.inl rfl) e⟩
  | xd fs => obtain ⟨mA, ⟨od, es, ep, e, c⟩, r⟩ := x; exact ⟨mA, ⟨od, es, ep, k _ _ (.inl rfl) e, c⟩, r⟩
  | rng lo hi => obtain ⟨t, u, v, e⟩ := x; exact ⟨t, u, v, k _ _ (.inl rfl) e⟩
  | frz ob u ih => obtain ⟨e, q⟩ := x; exact ⟨k _ _ (.inl rfl) e, ih q⟩
  | tbl ps =>
    have e : h.get? a = some { cls := .none, data := .fields ps } := x
    show h'.get? a = some { cls := .none, data := .fields ps }
    exact k a _ (.inl rfl) e
  | met f y =>
    have e : h.get? a = some (PySem.W.methodObj (.ref f) (.ref y)) := x
    show h'.get? a = some (PySem.W.methodObj (.ref f) (.ref y))
    exact k a _ (.inl rfl) e
  | ext φ => obtain ⟨p, ⟨o, e⟩, st⟩ := x; exact ⟨st _ _ p fun o q => k _ _ (.inl rfl) q, ⟨o, k _ _ (.inl rfl) e⟩, st⟩
theorem HOk.lt (x : HOk P w H h) (e : H a = some o) : a < h.objs.size := (x a o e).lt
theorem HOk.fresh (x : HOk P w H h) (e : h.objs.size ≤ a) : H a = none := by
  cases q : H a with
  | none => rfl
  | some u => exact absurd (Nat.lt_of_lt_of_le (x.lt q) e) (Nat.lt_irrefl _)
/-- every object of the heap is kept -/
theorem HOk.kept (x : HOk P w H h) (k : ∀ b u, h.get? b = some u → h'.get? b = some u) : HOk P w H h' := fun a o e =>
  (x a o e).stay (fun b u _ q => k b u q) (fun _ q => q) fun _ _ q => q
/-- a new object is laid and tracked -/
theorem HOk.laid (x : HOk P w H h) (k : ∀ b u, h.get? b = some u → h'.get? b = some u) (hp : h.objs.size ≤ a) (new : ObjOk P w (upd H a o) h' a o) : HOk P w (upd H a o) h' := fun b u e => by
  have hn := x.fresh hp
  by_cases hb : b = a
  · subst hb; rw [upd_same] at e; cases e; exact new
  · rw [upd_ne hb] at e
    exact (x b u e).stay (fun c v _ q => k c v q) (fun c q => by rw [upd_ne (ne_of_none q hn)]; exact q) fun c xs q => by rw [upd_ne (ne_of_none q hn)]; exact q
end
/-- what may be read as u: it is u, or a known u -/
def Rd (H : Hp) (a : Addr) (u : HO) : Prop := H a = some u ∨ ∃ o, H a = some (.frz o u)
theorem Rd.of {H : Hp} {a : Addr} {u : HO} (h : H a = some u) : Rd H a u := .inl h
theorem Rd.ok {P : Program} {w : World} {H : Hp} {h : Heap} {a : Addr} {u : HO} (r : Rd H a u) (x : HOk P w H h) : ObjOk P w H h a u := by
  rcases r with r | ⟨o, r⟩
  · exact x a u r
  · obtain ⟨_, q⟩ := x a _ r
    exact q
/-- what may be written -/
def Mut : Option HO → Prop
  | some (.lst _) => True
  | some (.dK _) => True
  | some (.dT _) => True
  | some (.set _ _) => True
  | some (.ins _ _ _) => True
  | some (.ext _) => True
  | _ => False
section
variable {P : Program} {w : World} {H : Hp} {h h' : Heap} {x e : Addr} {o' : HO}
/-- the object at e is changed: x itself, or the dict of the instance x -/
theorem HOk.write (ok : HOk P w H h) (mu : Mut (H x)) (he : e = x ∨ H e = some (.own x)) (k : ∀ b u, b ≠ e → h.get? b = some u → h'.get? b = some u) (heo : ∃ u, h'.get? e = some u)
    (new : ObjOk P w (upd H x o') h' x o') : HOk P w (upd H x o') h' := fun b u q => by
  have nown : ∀ c y, H c = some (.own y) → c ≠ x := fun c y r z => by subst z; rw [r] at mu; exact mu
  have ntup : ∀ c xs, H c = some (.tup xs) → c ≠ x := fun c xs r z => by subst z; rw [r] at mu; exact mu
  by_cases hb : b = x
  · subst hb; rw [upd_same] at q; cases q; exact new
  · rw [upd_ne hb] at q
    by_cases hbe : b = e
    · have q' : H b = some (.own x) := by
        rcases he with z | z
        · exact absurd (hbe.trans z) hb
        · rw [hbe]; exact z
      rw [q] at q'; cases q'
      obtain ⟨v, hv⟩ := heo
      exact ⟨v, by rw [hbe]; exact hv⟩
    · refine (ok b u q).stay (fun c v hc r => k c v ?_ r) (fun c r => by rw [upd_ne (nown c b r)]; exact r) fun c xs r => by rw [upd_ne (ntup c xs r)]; exact r
      rcases hc with rfl | hc
      · exact hbe
      · rintro rfl
        rcases he with z | z
        · exact nown c b hc z
        · rw [hc] at z; cases z; exact hb rfl
end
structure Un (fs ex : List Addr) (H H' : Hp) (h h' : Heap) : Prop where
  keep : ∀ b o, h.get? b = some o → H b = none → b ∉ fs → b ∉ ex → h'.get? b = some o
  slot : ∀ b o, h.get? b = some o → H b = none → b ∈ fs → b ∉ ex → ∃ sl, h'.get? b = some { o with slots := sl }
  free : ∀ b o, h.get? b = some o → H b = none → b ∉ ex → H' b = none
  there : ∀ b o, h.get? b = some o → b ∉ ex → ∃ o', h'.get? b = some o'
  tups : ∀ b xs, H b = some (.tup xs) → H' b = some (.tup xs)
  frzs : ∀ b o u, H b = some (.frz o u) → H' b = some (.frz o u)
  tbls : ∀ b ps, H b = some (.tbl ps) → ∃ more, H' b = some (.tbl (ps ++ more))
section
variable {fs fs' ex ex' : List Addr} {H H1 H2 : Hp} {h h1 h2 h' : Heap} {a x e : Addr} {o : HO}
theorem Un.any (u : Un fs ex H H1 h h1) {b : Addr} {ob : Obj} (q : h.get? b = some ob) (n : H b = none) (hx : b ∉ ex) : ∃ sl, h1.get? b = some { ob with slots := sl } := by
  by_cases hb : b ∈ fs
  · exact u.slot b ob q n hb hx
  · exact ⟨ob.slots, u.keep b ob q n hb hx⟩
theorem Un.kept (k : ∀ b u, h.get? b = some u → h'.get? b = some u) : Un fs ex H H h h' :=
  ⟨fun b ob q _ _ _ => k b ob q, fun b ob q _ _ _ => ⟨ob.slots, k b ob q⟩, fun _ _ _ n _ => n, fun b ob q _ => ⟨ob, k b ob q⟩, fun _ _ q => q, fun _ _ _ q => q, fun _ ps q => ⟨#[], by rw [q]; simp⟩⟩
theorem Un.refl : Un fs ex H H h h := Un.kept fun _ _ q => q
theorem Un.laid (k : ∀ b u, h.get? b = some u → h'.get? b = some u) (hp : h.objs.size ≤ a) (hn : H a = none) : Un fs ex H (upd H a o) h h' where
  keep := fun b u q _ _ _ => k b u q
  slot := fun b u q _ _ _ => ⟨u.slots, k b u q⟩
  free := fun b u q n _ => by rw [upd_ne (Nat.ne_of_lt (Nat.lt_of_lt_of_le (Heap.lt_size q) hp))]; exact n
  there := fun b u q _ => ⟨u, k b u q⟩
  tups := fun b xs q => by rw [upd_ne (ne_of_none q hn)]; exact q
  frzs := fun b u xs q => by rw [upd_ne (ne_of_none q hn)]; exact q
  tbls := fun b ps q => ⟨#[], by rw [upd_ne (ne_of_none q hn), q]; simp⟩
theorem Un.write (mu : Mut (H x)) (he : e = x ∨ H e = some (.own x)) (k : ∀ b u, b ≠ e → h.get? b = some u → h'.get? b = some u) (heo : ∃ u, h'.get? e = some u) : Un fs ex H (upd H x o) h h' := by
  have hx : ∀ b, H b = none → b ≠ x := fun b n z => by subst z; rw [n] at mu; exact mu
  have hb : ∀ b, H b = none → b ≠ e := fun b n z => by
    subst z
    rcases he with r | r
    · exact hx b n r
    · rw [n] at r; cases r
  have hm : ∀ b u, H b = some u → ¬ Mut (some u) → b ≠ x := fun b u q nm z => by subst z; rw [q] at mu; exact nm mu
  refine ⟨fun b u q n _ _ => k b u (hb b n) q, fun b u q n _ _ => ⟨u.slots, k b u (hb b n) q⟩, fun b u q n _ => by rw [upd_ne (hx b n)]; exact n, fun b u q _ => ?_,
    fun b xs q => by rw [upd_ne (hm b _ q fun z => z)]; exact q, fun b u xs q => by rw [upd_ne (hm b _ q fun z => z)]; exact q, fun b ps q => ⟨#[], by rw [upd_ne (hm b _ q fun z => z), q]; simp⟩⟩
  by_cases hbe : b = e
  · subst hbe; exact heo
  · exact ⟨u, k b u hbe q⟩
end
def trk (h : Heap) (H : Hp) : List Addr := (List.range h.objs.size).filter fun a => (H a).isSome
def hidT (h : Heap) (H : Hp) : Heap := PySem.W.hideAll h (trk h H)
theorem hidT_size (h : Heap) (H : Hp) : (hidT h H).objs.size = h.objs.size := PySem.W.hideAll_size _ _
theorem hidT_get {h : Heap} {H : Hp} {b : Addr} {o : Obj} (e : h.get? b = some o) (n : H b = none) : (hidT h H).get? b = some o :=
  PySem.W.hideAll_get _ e fun hm => by
    have q : (H b).isSome = true := (List.mem_filter.mp hm).2
    rw [n] at q; simp at q
theorem of_hidT {h : Heap} {H : Hp} {b : Addr} {o : Obj} (e : (hidT h H).get? b = some o) : h.get? b = some o ∧ H b = none := by
  have e' : h.get? b = some o := PySem.W.of_hideAll (trk h H) e
  refine ⟨e', ?_⟩
  cases q : H b with
  | none => rfl
  | some x =>
    have hm : b ∈ trk h H := List.mem_filter.mpr ⟨List.mem_range.mpr (Heap.lt_size e'), by simp [q]⟩
    have z : (hidT h H).get? b = none := PySem.W.hideAll_none (trk h H) hm
    rw [z] at e; cases e
end L2
namespace L2
open PySem PySem.Spec PyProof.Rows
/-- the module's facts, over the base: the heap at the law's entry without what is tracked there -/
structure Mod (K : PySem.W.Frag) (mg : Str → Option Value) (base : Heap) : Prop where
  kin : K.In base
  glob : base.Ns mainGlobals mg
  blt : ∃ mb, base.Ns builtinsNs mb ∧ ∀ x : Str, x ≠ "__name__" → mb x = bootBuiltins x
  nolimit : base.NoLimit
/-- the context: a def's body (or a comprehension's block) running. base: fixed through the whole law; s₀, H₀: the entry; outer: the frames whose slots others may change (a def's callers); stack: all frames that run;
   ex: iterators that were made ahead of the entry and are walked here (a comprehension's); fn: the names whose cells were made at the entry (a def: all; a comprehension's block: its own); calm: not within an except suite; pn: pins that every state bears; xe: what is wanted of an exception that leaves the code -/
structure Cx where
  prog : Program
  w : World
  K : PySem.W.Frag
  mg : Str → Option Value
  base : Heap
  A : Around
  N : List Str
  s_0 : Shared
  H_0 : Hp
  env : Env
  outer : List Env
  stack : List Env
  ex : List Addr
  fn : Str → Bool
  calm : Bool
  pn : List (Addr × Obj)
  xe : Value → Shared → Prop
/-- the callers' frames -/
def frs (l : List Env) : List Addr := l.filterMap (·.frame)
abbrev Cx.fs (X : Cx) : List Addr := frs X.outer
def Vis (sc : Scope) (x : Str) : Prop := sc.names.lookup x = some .local ∨ sc.names.lookup x = some .cell ∨ sc.names.lookup x = some .free
def Loc (sc : Scope) (x : Str) : Prop := sc.names.lookup x = some .local ∨ sc.names.lookup x = some .cell
def Look (env : Env) (h : Heap) (m : Str → Option Value) (x : Str) (u : Value) : Prop :=
  (env.kindOf x = some .local ∧ m x = some u) ∨ ((env.kindOf x = some .cell ∨ env.kindOf x = some .free) ∧ ∃ c, env.cells.lookup x = some c ∧ h.IsCell c (some u))
structure Cx.Ok (X : Cx) : Prop where
  mod : Mod X.K X.mg X.base
  kind : X.env.scope.kind = .function
  glob : X.env.globals = mainGlobals
  blt : X.env.builtins = builtinsNs
  above : X.s_0.heap.objs.size ≤ X.env.locals
  inj : ∀ x y c, X.env.cells.lookup x = some c → X.env.cells.lookup y = some c → x = y
  has : ∀ x, (X.env.kindOf x = some .cell ∨ X.env.kindOf x = some .free) → ∃ c, X.env.cells.lookup x = some c
  cab : ∀ x c, X.fn x = true → X.env.cells.lookup x = some c → X.s_0.heap.objs.size ≤ c
  hd : X.calm = true → X.A.handled = none
  frames : X.A.frames = some X.stack
  stk : X.stack = X.outer ∨ (X.stack = X.env :: X.outer ∧ X.env.frame = some X.env.locals)
  exf : ∀ b ∈ X.ex, b ≠ X.env.locals ∧ ∀ x c, X.env.cells.lookup x = some c → c ≠ b
  bs : ∀ b o, X.base.get? b = some o → X.s_0.heap.get? b = some o ∧ X.H_0 b = none
  bsz : X.base.objs.size ≤ X.s_0.heap.objs.size
  noex : ∀ b o, X.base.get? b = some o → b ∉ X.ex
  exfs : ∀ b ∈ X.ex, b ∉ X.fs
  funs : X.s_0.heap.FunFrames X.base X.outer
  frf : ∀ b ∈ X.fs, X.H_0 b = none
structure Inv (X : Cx) (pins : List (Addr × Obj)) (σ : List (Option V)) (H : Hp) (s : Shared) : Prop where
  ok : X.Ok
  os : s.os = X.s_0.os
  bare : AllBare s.gens
  base : Un X.fs X.ex X.H_0 H X.s_0.heap s.heap
  loc : ∃ m, s.heap.Ns X.env.locals m ∧ ∀ (i : Nat) (x : Str) (v : V), X.N[i]? = some x → σ[i]? = some (some v) → Vis X.env.scope x → ∃ u, RelV v u ∧ Look X.env s.heap m x u
  cell : ∀ x c, X.env.cells.lookup x = some c → ∃ v, s.heap.IsCell c v
  free : H X.env.locals = none
  freeC : ∀ x c, X.env.cells.lookup x = some c → H c = none
  pin : ∀ p ∈ X.pn ++ pins, s.heap.get? p.1 = some p.2 ∧ H p.1 = none ∧ p.1 ≠ X.env.locals ∧ p.1 ∉ X.fs ∧ ∀ v, p.2.data ≠ .cell v
  hok : HOk X.prog X.w H s.heap
  len : σ.length = X.N.length
section
variable {X : Cx} {pins : List (Addr × Obj)} {σ : List (Option V)} {H H' : Hp} {s : Shared} {h' : Heap}
theorem Cx.Ok.nofr (ok : X.Ok) {b : Addr} {o : Obj} (e : X.base.get? b = some o) : b ∉ X.fs := fun hb => by
  have := (ok.funs.mem hb).1
  rw [e] at this; cases this
theorem Inv.bs (I : Inv X pins σ H s) : ∀ b o, X.base.get? b = some o → s.heap.get? b = some o ∧ H b = none := fun b o e =>
  ⟨I.base.keep b o (I.ok.bs b o e).1 (I.ok.bs b o e).2 (I.ok.nofr e) (I.ok.noex b o e), I.base.free b o (I.ok.bs b o e).1 (I.ok.bs b o e).2 (I.ok.noex b o e)⟩
theorem Inv.bk (I : Inv X pins σ H s) : ∀ b o, X.base.get? b = some o → s.heap.get? b = some o := fun b o e => (I.bs b o e).1
theorem Inv.mod (I : Inv X pins σ H s) : Mod X.K X.mg X.base := I.ok.mod
theorem Inv.kIn (I : Inv X pins σ H s) : X.K.In s.heap := I.ok.mod.kin.keeps I.bk
/-- the frame over the base: for OpenK's rules (K.In X.base is I.mod.kin) -/
theorem Inv.fr (I : Inv X pins σ H s) : ∃ m, Fr X.base X.env.locals s.heap m :=
  let ⟨m, hn, _⟩ := I.loc
  ⟨m, hn, I.bk, Nat.le_trans I.ok.bsz I.ok.above⟩
theorem Inv.lt (I : Inv X pins σ H s) : X.env.locals < s.heap.objs.size := let ⟨_, hn, _⟩ := I.loc; hn.lt
theorem Inv.sz (I : Inv X pins σ H s) : X.s_0.heap.objs.size ≤ s.heap.objs.size := Nat.le_trans I.ok.above (Nat.le_of_lt I.lt)
theorem Inv.nofs (I : Inv X pins σ H s) {a : Addr} (h : s.heap.objs.size ≤ a) : a ∉ X.fs := fun hb => by
  obtain ⟨_, o, ho, _⟩ := I.ok.funs.mem hb
  exact absurd (Nat.lt_of_lt_of_le (Heap.lt_size ho) (Nat.le_trans I.sz h)) (Nat.lt_irrefl _)
theorem Inv.cne (I : Inv X pins σ H s) : ∀ x c, X.env.cells.lookup x = some c → c ≠ X.env.locals := fun x c e z => by
  obtain ⟨v, o, ho, hd⟩ := I.cell x c e
  obtain ⟨m, ⟨o', es, ep, ho', hd', _⟩, _⟩ := I.loc
  rw [z, ho'] at ho; cases ho; rw [hd'] at hd; cases hd
theorem Inv.funs (I : Inv X pins σ H s) : s.heap.FunFrames X.base X.outer := by
  have all : ∀ (l : List Env), (∀ b ∈ frs l, b ∈ X.fs) → X.s_0.heap.FunFrames X.base l → s.heap.FunFrames X.base l := by
    intro l
    induction l with
    | nil => intro _ _; trivial
    | cons env r ih =>
      intro hs hl
      obtain ⟨hk, ⟨L, o, hf, hn, ho, hd⟩, hr⟩ := hl
      have hL : L ∈ X.fs := hs L (by unfold frs; rw [List.filterMap_cons, hf]; exact List.mem_cons_self)
      obtain ⟨sl, e⟩ := I.base.slot L o ho (I.ok.frf L hL) hL fun z => I.ok.exfs L z hL
      exact ⟨hk, ⟨L, _, hf, hn, e, hd⟩, ih (fun b hb => hs b (by unfold frs; rw [List.filterMap_cons, hf]; exact List.mem_cons_of_mem _ hb)) hr⟩
  exact all X.outer (fun _ hb => hb) I.ok.funs
/-- the frames that run, for a call -/
theorem Inv.stack (I : Inv X pins σ H s) : s.heap.FunFrames X.base X.stack := by
  rcases I.ok.stk with e | ⟨e, hf⟩
  · rw [e]; exact I.funs
  · rw [e]
    obtain ⟨m, hn, _⟩ := I.loc
    refine .cons (by rw [I.ok.kind]; decide) hf hn ?_ I.funs
    exact Heap.get?_none_of_le (Nat.le_trans I.ok.bsz I.ok.above)
theorem Inv.stkSub (I : Inv X pins σ H s) : ∀ b ∈ frs X.stack, b ∈ X.env.locals :: X.fs := fun b hb => by
  rcases I.ok.stk with e | ⟨e, hf⟩
  · rw [e] at hb; exact List.mem_cons_of_mem _ hb
  · rw [e] at hb
    unfold frs at hb
    rw [List.filterMap_cons, hf] at hb
    exact hb
theorem Inv.stkFree (I : Inv X pins σ H s) : ∀ b ∈ frs X.stack, H b = none := fun b hb => by
  rcases List.mem_cons.mp (I.stkSub b hb) with e | hb
  · rw [e]; exact I.free
  · obtain ⟨_, o, ho, _⟩ := I.ok.funs.mem hb
    exact I.base.free b o ho (I.ok.frf b hb) fun z => I.ok.exfs b z hb
/-- THE STEP: the untracked objects but the frame and the records at ch are kept (the callers' frames up to slots), the frame's map is kept, the new abstract heap is held -/
theorem Inv.step {g' : Array GenState} {t' : Nat} {d' : Drawn} {ch : List Addr} (I : Inv X pins σ H s)
    (hch : ∀ b ∈ ch, (b ∈ X.ex ∨ X.s_0.heap.objs.size ≤ b) ∧ b ≠ X.env.locals ∧ (∀ x c, X.env.cells.lookup x = some c → c ≠ b) ∧ ∀ p ∈ X.pn ++ pins, p.1 ≠ b)
    (keep : ∀ b o, b ≠ X.env.locals → b ∉ X.fs → b ∉ ch → s.heap.get? b = some o → H b = none → h'.get? b = some o)
    (slot : ∀ b o, b ≠ X.env.locals → b ∈ X.fs → b ∉ ch → s.heap.get? b = some o → H b = none → ∃ sl, h'.get? b = some { o with slots := sl }) (free : ∀ b o, b ∉ ch → s.heap.get? b = some o → H b = none → H' b = none)
    (there : ∀ b o, b ∉ ch → s.heap.get? b = some o → ∃ o', h'.get? b = some o')
    (tups : ∀ b xs, H b = some (.tup xs) → H' b = some (.tup xs)) (frzs : ∀ b o u, H b = some (.frz o u) → H' b = some (.frz o u)) (tbls : ∀ b ps, H b = some (.tbl ps) → ∃ more, H' b = some (.tbl (ps ++ more)))
    (ns : ∀ m, s.heap.Ns X.env.locals m → h'.Ns X.env.locals m) (hok : HOk X.prog X.w H' h') (hg : AllBare g') :
    Inv X pins σ H' { s with heap := h', gens := g', drawn := d', toks := t' } := by
  have neL : ∀ b o, X.s_0.heap.get? b = some o → b ≠ X.env.locals := fun b o e => Nat.ne_of_lt (Nat.lt_of_lt_of_le (Heap.lt_size e) I.ok.above)
  have neC : ∀ b o, X.s_0.heap.get? b = some o → b ∉ X.ex → b ∉ ch := fun b o e hx hb => by
    rcases (hch b hb).1 with z | z
    · exact hx z
    · exact absurd (Nat.lt_of_lt_of_le (Heap.lt_size e) z) (Nat.lt_irrefl _)
  have cellK : ∀ x c, X.env.cells.lookup x = some c → ∀ v, s.heap.IsCell c v → h'.IsCell c v := fun x c e v ⟨o, ho, hd⟩ => by
    have nch : c ∉ ch := fun z => (hch c z).2.2.1 x c e rfl
    by_cases hc : c ∈ X.fs
    · obtain ⟨sl, q⟩ := slot c o (I.cne x c e) hc nch ho (I.freeC x c e)
      exact ⟨_, q, hd⟩
    · exact ⟨o, keep c o (I.cne x c e) hc nch ho (I.freeC x c e), hd⟩
  refine ⟨I.ok, I.os, hg, ⟨fun b o e n hb hx => ?_, fun b o e n hb hx => ?_, fun b o e n hx => ?_, fun b o e hx => ?_, fun b xs e => tups b xs (I.base.tups b xs e), fun b o xs e => frzs b o xs (I.base.frzs b o xs e), fun b ps e => ?_⟩, ?_, fun x c e => ?_, ?_, fun x c e => ?_, fun p hp => ?_, hok, I.len⟩
  · exact keep b o (neL b o e) hb (neC b o e hx) (I.base.keep b o e n hb hx) (I.base.free b o e n hx)
  · obtain ⟨sl, e1⟩ := I.base.slot b o e n hb hx
    obtain ⟨sl', e2⟩ := slot b _ (neL b o e) hb (neC b o e hx) e1 (I.base.free b o e n hx)
    exact ⟨sl', e2⟩
  · obtain ⟨o', e1⟩ := I.base.there b o e hx
    exact free b o' (neC b o e hx) e1 (I.base.free b o e n hx)
  · obtain ⟨o', e1⟩ := I.base.there b o e hx
    exact there b o' (neC b o e hx) e1
  · obtain ⟨m1, e1⟩ := I.base.tbls b ps e
    obtain ⟨m2, e2⟩ := tbls b _ e1
    exact ⟨m1 ++ m2, by rw [e2, Array.append_assoc]⟩
  · obtain ⟨m, hn, hl⟩ := I.loc
    refine ⟨m, ns m hn, fun i x v e1 e2 e3 => ?_⟩
    obtain ⟨u, r, l⟩ := hl i x v e1 e2 e3
    refine ⟨u, r, ?_⟩
    rcases l with l | ⟨k, c, e, z⟩
    · exact .inl l
    · exact .inr ⟨k, c, e, cellK x c e _ z⟩
  · obtain ⟨v, z⟩ := I.cell x c e
    exact ⟨v, cellK x c e v z⟩
  · obtain ⟨m, ⟨o, _, _, ho, _⟩, _⟩ := I.loc
    exact free _ o (fun z => (hch _ z).2.1 rfl) ho I.free
  · obtain ⟨v, o, ho, hd⟩ := I.cell x c e
    exact free c o (fun z => (hch c z).2.2.1 x c e rfl) ho (I.freeC x c e)
  · obtain ⟨e, n, ne, nf, d⟩ := I.pin p hp
    have nch : p.1 ∉ ch := fun z => (hch p.1 z).2.2.2 p hp rfl
    exact ⟨keep p.1 p.2 ne nf nch e n, free p.1 p.2 nch e n, ne, nf, d⟩
/-- .. where the frame's own object is kept too -/
theorem Inv.un {t' : Nat} (I : Inv X pins σ H s) (u : Un X.fs [] H H' s.heap h') (hok : HOk X.prog X.w H' h') : Inv X pins σ H' { s with heap := h', toks := t' } := by
  obtain ⟨m, ⟨o, es, ep, ho, r⟩, _⟩ := id I.loc
  obtain ⟨sl, hL⟩ := u.any ho I.free (by simp)
  exact I.step (g' := s.gens) (d' := s.drawn) (ch := []) (fun _ z => nomatch z) (fun b o _ hb _ e n => u.keep b o e n hb (by simp)) (fun b o _ hb _ e n => u.slot b o e n hb (by simp)) (fun b o _ e n => u.free b o e n (by simp)) (fun b o _ e => u.there b o e (by simp)) u.tups u.frzs u.tbls (fun m' hm => by
    obtain ⟨o', es', ep', ho', r'⟩ := hm
    rw [ho] at ho'; cases ho'
    exact ⟨_, es', ep', hL, r'⟩) hok I.bare
/-- behind a call (or a comprehension's block): the slots of this frame may have changed too, the records at ch may have turned -/
theorem Inv.call {g' : Array GenState} {t' : Nat} {d' : Drawn} {ch : List Addr} (I : Inv X pins σ H s) (u : Un (frs X.stack) ch H H' s.heap h') (hok : HOk X.prog X.w H' h') (hg : AllBare g')
    (hch : ∀ b ∈ ch, (b ∈ X.ex ∨ X.s_0.heap.objs.size ≤ b) ∧ b ≠ X.env.locals ∧ (∀ x c, X.env.cells.lookup x = some c → c ≠ b) ∧ ∀ p ∈ X.pn ++ pins, p.1 ≠ b) :
    Inv X pins σ H' { s with heap := h', gens := g', drawn := d', toks := t' } := by
  obtain ⟨m, ⟨o, es, ep, ho, r⟩, _⟩ := id I.loc
  obtain ⟨sl, hL⟩ := u.any ho I.free fun z => (hch _ z).2.1 rfl
  exact I.step (ch := ch) hch (fun b o hL hb hc e n => u.keep b o e n (fun z => (List.mem_cons.mp (I.stkSub b z)).elim hL hb) hc) (fun b o _ _ hc e n => u.any e n hc) (fun b o hc e n => u.free b o e n hc) (fun b o hc e => u.there b o e hc) u.tups u.frzs u.tbls (fun m' hm => by
    obtain ⟨o', es', ep', ho', r'⟩ := hm
    rw [ho] at ho'; cases ho'
    exact ⟨_, es', ep', hL, r'⟩) hok hg
/-- an untracked record of ours (an iterator) has turned -/
theorem Inv.turned {t' : Nat} {it : Addr} (I : Inv X pins σ H s) (k : ∀ b o, b ≠ it → s.heap.get? b = some o → h'.get? b = some o) (hn : H it = none) (hL : it ≠ X.env.locals)
    (h1 : it ∈ X.ex ∨ X.s_0.heap.objs.size ≤ it) (h2 : ∀ x c, X.env.cells.lookup x = some c → c ≠ it) (h3 : ∀ p ∈ X.pn ++ pins, p.1 ≠ it) : Inv X pins σ H { s with heap := h', toks := t' } := by
  have nit : ∀ b u, H b = some u → b ≠ it := fun b u e z => by rw [z, hn] at e; cases e
  refine I.step (g' := s.gens) (d' := s.drawn) (ch := [it]) (fun b hb => ?_) (fun b o _ _ hc e _ => k b o (fun z => hc (by simp [z])) e) (fun b o _ _ hc e _ => ⟨o.slots, k b o (fun z => hc (by simp [z])) e⟩) (fun _ _ _ _ n => n)
    (fun b o hc e => ⟨o, k b o (fun z => hc (by simp [z])) e⟩) (fun _ _ e => e) (fun _ _ _ e => e) (fun b ps e => ⟨#[], by rw [e]; simp⟩) (fun m hm => ?_) (fun b u e => ?_) I.bare
  · have e : b = it := by simpa using hb
    subst e
    exact ⟨h1, hL, h2, h3⟩
  · obtain ⟨o, es, ep, ho, r⟩ := hm
    exact ⟨o, es, ep, k _ o (Ne.symm hL) ho, r⟩
  · refine (I.hok b u e).stay (fun c v hc q => k c v ?_ q) (fun _ q => q) fun _ _ q => q
    rcases hc with z | z
    · rw [z]; exact nit b u e
    · exact nit c _ z
theorem Inv.tok (I : Inv X pins σ H s) (t : Nat) : Inv X pins σ H { s with toks := t } := I.un (h' := s.heap) (t' := t) Un.refl I.hok
/-- all objects kept -/
theorem Inv.kept {t' : Nat} (I : Inv X pins σ H s) (k : ∀ b u, s.heap.get? b = some u → h'.get? b = some u) : Inv X pins σ H { s with heap := h', toks := t' } := I.un (Un.kept k) (I.hok.kept k)
/-- a new object laid and tracked -/
theorem Inv.laid {a : Addr} {o : HO} {t' : Nat} (I : Inv X pins σ H s) (k : ∀ b u, s.heap.get? b = some u → h'.get? b = some u) (hp : s.heap.objs.size ≤ a) (new : ObjOk X.prog X.w (upd H a o) h' a o) :
    Inv X pins σ (upd H a o) { s with heap := h', toks := t' } := I.un (Un.laid k hp (I.hok.fresh hp)) (I.hok.laid k hp new)
/-- an object written -/
theorem Inv.write {x e : Addr} {o : HO} {t' : Nat} (I : Inv X pins σ H s) (mu : Mut (H x)) (he : e = x ∨ H e = some (.own x)) (k : ∀ b u, b ≠ e → s.heap.get? b = some u → h'.get? b = some u) (heo : ∃ u, h'.get? e = some u)
    (new : ObjOk X.prog X.w (upd H x o) h' x o) : Inv X pins σ (upd H x o) { s with heap := h', toks := t' } := I.un (Un.write mu he k heo) (I.hok.write mu he k heo new)
/-- forgetting slots, pins -/
theorem Inv.weak {σ' : List (Option V)} (I : Inv X pins σ H s) (hl : σ'.length = σ.length) (w : ∀ (i : Nat) v, σ'[i]? = some (some v) → σ[i]? = some (some v)) : Inv X pins σ' H s :=
  ⟨I.ok, I.os, I.bare, I.base, let ⟨m, hn, hl'⟩ := I.loc; ⟨m, hn, fun i x v e1 e2 e3 => hl' i x v e1 (w i v e2) e3⟩, I.cell, I.free, I.freeC, I.pin, I.hok, hl.trans I.len⟩
theorem Inv.pins_of {pins' : List (Addr × Obj)} (I : Inv X pins σ H s) (h : ∀ p ∈ pins', s.heap.get? p.1 = some p.2 ∧ H p.1 = none ∧ p.1 ≠ X.env.locals ∧ p.1 ∉ X.fs ∧ ∀ v, p.2.data ≠ .cell v) : Inv X pins' σ H s :=
  ⟨I.ok, I.os, I.bare, I.base, I.loc, I.cell, I.free, I.freeC, fun p hp => (List.mem_append.mp hp).elim (fun z => I.pin p (List.mem_append_left _ z)) (h p), I.hok, I.len⟩
theorem nodup_ix {N : List Str} (hN : N.Nodup) {i j : Nat} {x : Str} (a : N[i]? = some x) (b : N[j]? = some x) : i = j := by
  obtain ⟨h1, e1⟩ := List.getElem?_eq_some_iff.mp a
  obtain ⟨h2, e2⟩ := List.getElem?_eq_some_iff.mp b
  exact (List.getElem_inj hN).mp (e1.trans e2.symm)
/-- a name is stored; what changed -/
theorem store_ok2 {M : Model} {A : Around} {E : Value → Shared → Prop} {i : Nat} {x : Str} {v : V} {u : Value} {Q : Unit → Shared → Prop} (I : Inv X pins σ H s) (hN : X.N.Nodup) (hi : X.N[i]? = some x) (hx : Loc X.env.scope x) (r : RelV v u)
    (h : ∀ s', Inv X pins (σ.set i (some v)) H s' → (∃ a, Heap.SameBut a s.heap s'.heap ∧ (a = X.env.locals ∨ X.env.cells.lookup x = some a)) → Q () s') (hf : X.fn x = true ∨ X.env.scope.names.lookup x = some .local := by first | exact .inl rfl | exact .inr rfl | assumption) : wpAny M A (storeName X.env x u) Q E s := by
  obtain ⟨m, hn, hl⟩ := id I.loc
  have hcls : (X.env.scope.kind == .class || (X.env.scope.kind == .module && X.env.locals != X.env.globals)) = false := by rw [I.ok.kind]; rfl
  have hiσ : i < σ.length := by rw [I.len]; exact (List.getElem?_eq_some_iff.mp hi).1
  have cne := I.cne
  have tracked : ∀ {a : Addr} {h' : Heap}, (∃ o, s.heap.get? a = some o ∧ H a = none) → Heap.SameBut a s.heap h' → HOk X.prog X.w H h' := fun {a h'} ha hs b ob e => by
    obtain ⟨_, _, hfree⟩ := ha
    refine (I.hok b ob e).stay (fun c w' hc q => (hs.2 c ?_).trans q) (fun _ q => q) fun _ _ q => q
    rintro rfl
    rcases hc with rfl | hc
    · rw [hfree] at e; cases e
    · rw [hfree] at hc; cases hc
  rcases hx with hk | hk
  · refine wpAny_storeName_local hk hn (fun h' hn' hs => ?_) hcls
    obtain ⟨oL, _, _, hoL, _⟩ := id hn
    refine h _ ⟨I.ok, I.os, I.bare, ⟨fun b o e n hb hx => ?_, fun b o e n hb hx => ?_, I.base.free, fun b o e hx => ?_, I.base.tups, I.base.frzs, I.base.tbls⟩, ⟨_, hn', fun j y v' e1 e2 e3 => ?_⟩, fun y c e => ?_, I.free, I.freeC, fun p hp => ?_, tracked ⟨oL, hoL, I.free⟩ hs, by simpa using I.len⟩ ⟨_, hs, .inl rfl⟩
    · exact (hs.2 b (Nat.ne_of_lt (Nat.lt_of_lt_of_le (Heap.lt_size e) I.ok.above))).trans (I.base.keep b o e n hb hx)
    · obtain ⟨sl, e1⟩ := I.base.slot b o e n hb hx
      exact ⟨sl, (hs.2 b (Nat.ne_of_lt (Nat.lt_of_lt_of_le (Heap.lt_size e) I.ok.above))).trans e1⟩
    · obtain ⟨o', e1⟩ := I.base.there b o e hx
      exact ⟨o', (hs.2 b (Nat.ne_of_lt (Nat.lt_of_lt_of_le (Heap.lt_size e) I.ok.above))).trans e1⟩
    · by_cases hj : j = i
      · subst hj
        rw [hi] at e1; cases e1
        rw [List.getElem?_set_self hiσ] at e2
        cases e2
        exact ⟨u, r, .inl ⟨hk, by simp⟩⟩
      · rw [List.getElem?_set_ne (Ne.symm hj)] at e2
        obtain ⟨u', r', q⟩ := hl j y v' e1 e2 e3
        refine ⟨u', r', ?_⟩
        rcases q with ⟨k, e⟩ | ⟨k, c, e, z⟩
        · refine .inl ⟨k, ?_⟩
          have : y ≠ x := fun e => hj (nodup_ix hN e1 (e ▸ hi))
          simp [this, e]
        · exact .inr ⟨k, c, e, z.sameBut hs (cne y c e)⟩
    · obtain ⟨w', z⟩ := I.cell y c e
      exact ⟨w', z.sameBut hs (cne y c e)⟩
    · obtain ⟨e, n, ne, nf, d⟩ := I.pin p hp
      exact ⟨(hs.2 p.1 ne).trans e, n, ne, nf, d⟩
  · have hfn : X.fn x = true := by
      rcases hf with z | z
      · exact z
      · rw [z] at hk; cases hk
    obtain ⟨c, hc⟩ := I.ok.has x (.inl hk)
    obtain ⟨w', z⟩ := I.cell x c hc
    refine wpAny_storeName_cell I.ok.kind hk hc z (fun h' hc' hs => ?_)
    obtain ⟨oc, hoc, hocd⟩ := id z
    refine h { s with heap := h' } ⟨I.ok, I.os, I.bare, ⟨fun b o e n hb hx => ?_, fun b o e n hb hx => ?_, I.base.free, fun b o e hx => ?_, I.base.tups, I.base.frzs, I.base.tbls⟩, ⟨m, hn.sameBut hs (Ne.symm (cne x c hc)), fun j y v' e1 e2 e3 => ?_⟩, fun y c' e => ?_, I.free, I.freeC, fun p hp => ?_, tracked ⟨oc, hoc, I.freeC x c hc⟩ hs, by simpa using I.len⟩ ⟨c, hs, .inr hc⟩
    · exact (hs.2 b (Nat.ne_of_lt (Nat.lt_of_lt_of_le (Heap.lt_size e) (I.ok.cab x c hfn hc)))).trans (I.base.keep b o e n hb hx)
    · obtain ⟨sl, e1⟩ := I.base.slot b o e n hb hx
      exact ⟨sl, (hs.2 b (Nat.ne_of_lt (Nat.lt_of_lt_of_le (Heap.lt_size e) (I.ok.cab x c hfn hc)))).trans e1⟩
    · obtain ⟨o', e1⟩ := I.base.there b o e hx
      exact ⟨o', (hs.2 b (Nat.ne_of_lt (Nat.lt_of_lt_of_le (Heap.lt_size e) (I.ok.cab x c hfn hc)))).trans e1⟩
    · by_cases hj : j = i
      · subst hj
        rw [hi] at e1; cases e1
        rw [List.getElem?_set_self hiσ] at e2
        cases e2
        exact ⟨u, r, .inr ⟨.inl hk, c, hc, hc'⟩⟩
      · rw [List.getElem?_set_ne (Ne.symm hj)] at e2
        obtain ⟨u', r', q⟩ := hl j y v' e1 e2 e3
        refine ⟨u', r', ?_⟩
        rcases q with q | ⟨k, c', e, z'⟩
        · exact .inl q
        · refine .inr ⟨k, c', e, z'.sameBut hs ?_⟩
          rintro rfl
          exact hj (nodup_ix hN e1 (I.ok.inj _ _ _ e hc ▸ hi))
    · by_cases hcc : c' = c
      · subst hcc; exact ⟨_, hc'⟩
      · obtain ⟨w2, z2⟩ := I.cell y c' e
        exact ⟨w2, z2.sameBut hs hcc⟩
    · obtain ⟨e, n, ne, nf, d⟩ := I.pin p hp
      refine ⟨(hs.2 p.1 ?_).trans e, n, ne, nf, d⟩
      intro q
      rw [q, hoc] at e
      have q' : oc = p.2 := Option.some.inj e
      exact d w' (by rw [← q']; exact hocd)
theorem store_ok {M : Model} {A : Around} {E : Value → Shared → Prop} {i : Nat} {x : Str} {v : V} {u : Value} {Q : Unit → Shared → Prop} (I : Inv X pins σ H s) (hN : X.N.Nodup) (hi : X.N[i]? = some x) (hx : Loc X.env.scope x) (r : RelV v u)
    (h : ∀ s', Inv X pins (σ.set i (some v)) H s' → Q () s') (hf : X.fn x = true ∨ X.env.scope.names.lookup x = some .local := by first | exact .inl rfl | exact .inr rfl | assumption) : wpAny M A (storeName X.env x u) Q E s :=
  store_ok2 I hN hi hx r (fun s' I' _ => h s' I') hf
/-- behind a call or a block, the state as it is -/
theorem Inv.call' {s' : Shared} {ch : List Addr} (I : Inv X pins σ H s) (ho : s'.os = s.os) (u : Un (frs X.stack) ch H H' s.heap s'.heap) (hok : HOk X.prog X.w H' s'.heap) (hg : AllBare s'.gens)
    (hch : ∀ b ∈ ch, (b ∈ X.ex ∨ X.s_0.heap.objs.size ≤ b) ∧ b ≠ X.env.locals ∧ (∀ x c, X.env.cells.lookup x = some c → c ≠ b) ∧ ∀ p ∈ X.pn ++ pins, p.1 ≠ b) : Inv X pins σ H' s' := by
  obtain ⟨h', g', d', t', o'⟩ := s'
  have e : o' = s.os := ho
  subst e
  exact I.call (g' := g') (t' := t') (d' := d') u hok hg hch
end
/-- an exception: its class, its own dict's address (where it has one), the abstract heap behind it -/
abbrev XK := Value → Option Addr → Hp → Prop
abbrev St := List (Option V)
abbrev VK := V → Hp → Prop
/-- an expression's reading; a test's; an argument list's -/
abbrev TE := St → Hp → VK → Prop
abbrev TT := St → Hp → (Bool → Hp → Prop) → Prop
abbrev TA := St → Hp → (List V → Hp → Prop) → Prop
/-- what is wanted behind a statement -/
structure Ends where
  nx : St → Hp → Prop
  rt : VK
  bk : St → Hp → Prop := fun _ _ => False
  ct : St → Hp → Prop := fun _ _ => False
abbrev TS := Ends → St → Hp → Prop
def EP (X : Cx) (pins : List (Addr × Obj)) (σ : St) (Q : VK) (u : Value) (s' : Shared) : Prop := ∃ v H', Inv X pins σ H' s' ∧ RelV v u ∧ Q v H'
def TP (X : Cx) (pins : List (Addr × Obj)) (σ : St) (Q : Bool → Hp → Prop) (b : Bool) (s' : Shared) : Prop := ∃ H', Inv X pins σ H' s' ∧ Q b H'
def AP (X : Cx) (pins : List (Addr × Obj)) (σ : St) (Q : List V → Hp → Prop) (us : List Value) (s' : Shared) : Prop := ∃ vs H', Inv X pins σ H' s' ∧ Vals vs us ∧ Q vs H'
def SP (X : Cx) (pins : List (Addr × Obj)) (D : Ends) (f : Flow) (s' : Shared) : Prop :=
  match f with
  | .next => ∃ σ' H', Inv X pins σ' H' s' ∧ D.nx σ' H'
  | .brk => ∃ σ' H', Inv X pins σ' H' s' ∧ D.bk σ' H'
  | .cont => ∃ σ' H', Inv X pins σ' H' s' ∧ D.ct σ' H'
  | .ret u => ∃ v σ' H', Inv X pins σ' H' s' ∧ RelV v u ∧ D.rt v H'
def PE (X : Cx) (e : Expr) (t : TE) : Prop :=
  ∀ (pins : List (Addr × Obj)) (s : Shared) (σ : St) (H : Hp) (Q : VK), Inv X pins σ H s → t σ H Q → wpAny (model X.prog X.w) X.A (eval e X.env) (EP X pins σ Q) X.xe s
def PT (X : Cx) (e : Expr) (t : TT) : Prop :=
  ∀ (pins : List (Addr × Obj)) (s : Shared) (σ : St) (H : Hp) (Q : Bool → Hp → Prop), Inv X pins σ H s → t σ H Q → wpAny (model X.prog X.w) X.A (isTrue e X.env (eval e X.env)) (TP X pins σ Q) X.xe s
/-- a test whatever its 'whole' is (and, or) -/
def PW (X : Cx) (e : Expr) (t : TT) : Prop :=
  ∀ (whole : Sem Value) (pins : List (Addr × Obj)) (s : Shared) (σ : St) (H : Hp) (Q : Bool → Hp → Prop), Inv X pins σ H s → t σ H Q → wpAny (model X.prog X.w) X.A (isTrue e X.env whole) (TP X pins σ Q) X.xe s
theorem PW.pt {X : Cx} {e : Expr} {t : TT} (h : PW X e t) : PT X e t := h _
/-- an argument list (no star), from the left -/
def PA (X : Cx) (es : List Expr) (t : TA) : Prop :=
  ∀ (pos : Pos) (pins : List (Addr × Obj)) (s : Shared) (σ : St) (H : Hp) (Q : List V → Hp → Prop), Inv X pins σ H s → t σ H Q → wpAny (model X.prog X.w) X.A (spliced (backTo pos (starEach es X.env))) (AP X pins σ Q) X.xe s
def PS (X : Cx) (st : Stmt) (t : TS) : Prop :=
  ∀ (pins : List (Addr × Obj)) (s : Shared) (σ : St) (H : Hp) (D : Ends), Inv X pins σ H s → t D σ H → wpAny (model X.prog X.w) X.A (exec st X.env) (SP X pins D) X.xe s
def PSs (X : Cx) (st : List Stmt) (t : TS) : Prop :=
  ∀ (pins : List (Addr × Obj)) (s : Shared) (σ : St) (H : Hp) (D : Ends), Inv X pins σ H s → t D σ H → wpAny (model X.prog X.w) X.A (execs st X.env) (SP X pins D) X.xe s
/-- weaken the end -/
theorem thn {α : Type} {t : Sem α} {Q Q' : α → Shared → Prop} {M : Model} {A : Around} {E : Value → Shared → Prop} {s : Shared} (h : wpAny M A t Q E s) (hQ : ∀ a s, Q a s → Q' a s) : wpAny M A t Q' E s := wpAny_mono h hQ fun _ _ x => x
end L2
namespace L2
open PySem PySem.Spec PyProof.Rows
section
variable {X : Cx}
/-- two expressions in a row -/
theorem bin {a b : Expr} {ta tb : TE} (ha : PE X a ta) (hb : PE X b tb) {pins : List (Addr × Obj)} {s : Shared} {σ : St} {H : Hp} {R : V → V → Hp → Prop} (I : Inv X pins σ H s) (h : ta σ H fun x H1 => tb σ H1 fun y H2 => R x y H2)
    {α : Type} {Q : α → Shared → Prop} {f : Value → Value → Sem α}
    (hf : ∀ v u s2 x y H2, Inv X pins σ H2 s2 → RelV x v → RelV y u → R x y H2 → wpAny (model X.prog X.w) X.A (f v u) Q X.xe s2) :
    wpAny (model X.prog X.w) X.A (eval a X.env) (fun v s₁ => wpAny (model X.prog X.w) X.A (eval b X.env) (fun u s₂ => wpAny (model X.prog X.w) X.A (f v u) Q X.xe s₂) X.xe s₁) X.xe s := by
  refine thn (ha pins s σ H _ I h) fun v s1 ⟨x, H1, I1, r1, q1⟩ => ?_
  refine thn (hb pins s1 σ H1 _ I1 q1) fun u s2 ⟨y, H2, I2, r2, q2⟩ => ?_
  exact hf v u s2 x y H2 I2 r1 r2 q2
def tVar (i : Nat) : TE := fun σ H Q => ∃ v, σ[i]? = some (some v) ∧ Q v H
def tC (v : V) : TE := fun _ H Q => Q v H
theorem pe_var {i : Nat} {x : Str} {pos : Pos} (hN : X.N[i]? = some x) (hv : Vis X.env.scope x) (hd : (x == ("__debug__" : Str)) = false := by decide) (hcd : (x == ("__classdict__" : Str)) = false := by decide) : PE X (.Name x pos) (tVar i) := by
  intro pins s σ H Q I h
  obtain ⟨v, e, h⟩ := h
  obtain ⟨m, hn, hl⟩ := I.loc
  obtain ⟨u, r, l⟩ := hl i x v hN e hv
  have fin : EP X pins σ Q u s := ⟨v, H, I, r, h⟩
  rcases l with ⟨hk, hm⟩ | ⟨hk, c, hc, hcell⟩
  · exact wpAny_Name (wpAny_loadName_local I.ok.kind hk hn hm fin) hd
  · rcases hk with hk | hk
    · exact wpAny_Name (wpAny_loadName_cell I.ok.kind hk hc hcell fin) hd
    · exact wpAny_Name (wpAny_loadName_free I.ok.kind hk hc hcell fin hcd) hd
theorem pe_int {i j pos} : PE X (.Constant (.int i) j pos) (tC (.int i)) := fun _ _ _ H _ I h => wpAny_Constant_int ⟨.int i, H, I.tok _, ⟨_, rfl⟩, h⟩
theorem pe_bl {b j pos} : PE X (.Constant (.bool b) j pos) (tC (.bl b)) := fun _ _ _ H _ I h => Constant_bool ⟨.bl b, H, I, rfl, h⟩
theorem pe_non {j pos} : PE X (.Constant .none j pos) (tC .non) := fun _ _ _ H _ I h => Constant_none ⟨.non, H, I, rfl, h⟩
theorem pe_str {x j pos} : PE X (.Constant (.str x) j pos) (tC (.str x)) := fun _ _ _ H _ I h => Calls.Constant_str ⟨.str x, H, I.tok _, ⟨_, rfl⟩, h⟩
/-- a global name of the def -/
def Gl (X : Cx) (x : Str) : Prop := X.env.kindOf x = some .globalImplicit
theorem ld_glob {E : Value → Shared → Prop} {pins : List (Addr × Obj)} {s : Shared} {σ : St} {H : Hp} {x : Str} {u : Value} {pos : Pos} {Q : Value → Shared → Prop} (I : Inv X pins σ H s) (hg : Gl X x) (hm : X.mg x = some u) (h : Q u s)
    (hd : (x == ("__debug__" : Str)) = false := by decide) : wpAny (model X.prog X.w) X.A (eval (.Name x pos) X.env) Q E s :=
  Calls.Name_function_global I.ok.kind hg (Calls.loadGlobal_global (by rw [I.ok.glob]; exact I.mod.glob.keeps I.bk) hm h) hd
theorem ld_blt {E : Value → Shared → Prop} {pins : List (Addr × Obj)} {s : Shared} {σ : St} {H : Hp} {x : Str} {u : Value} {pos : Pos} {Q : Value → Shared → Prop} (I : Inv X pins σ H s) (hg : Gl X x) (hm : X.mg x = none) (hv : bootBuiltins x = some u) (h : Q u s)
    (hn : x ≠ "__name__" := by decide) (hd : (x == ("__debug__" : Str)) = false := by decide) : wpAny (model X.prog X.w) X.A (eval (.Name x pos) X.env) Q E s := by
  obtain ⟨mb, h1, h2⟩ := I.mod.blt
  exact Calls.Name_function_global I.ok.kind hg (Calls.loadGlobal_builtin (by rw [I.ok.glob]; exact I.mod.glob.keeps I.bk) hm (by rw [I.ok.blt]; exact h1.keeps I.bk) ((h2 x hn).trans hv) h) hd
/-- a module's constant, a class, a function, as a value -/
theorem pe_glob {x : Str} {v : V} {u : Value} {pos : Pos} (hg : Gl X x) (hm : X.mg x = some u) (r : RelV v u) (hd : (x == ("__debug__" : Str)) = false := by decide) : PE X (.Name x pos) (tC v) :=
  fun _ _ _ H _ I h => ld_glob I hg hm ⟨v, H, I, r, h⟩ hd
variable {a b : Expr} {ta tb : TE} {pos : Pos}
def PC (X : Cx) (op : CmpOp) (a b : Expr) (t : TE) : Prop :=
  ∀ (pins : List (Addr × Obj)) (s : Shared) (σ : St) (H : Hp) (Q : VK), Inv X pins σ H s → t σ H Q →
    wpAny (model X.prog X.w) X.A (eval a X.env) (fun v s₁ => wpAny (model X.prog X.w) X.A (eval b X.env) (fun u s₂ => wpAny (model X.prog X.w) X.A (compareOp op v u) (EP X pins σ Q) X.xe s₂) X.xe s₁) X.xe s
theorem nobehind (b : Expr) {op : CmpOp} (h : op ≠ .In) (h2 : op ≠ .NotIn) : behindInMarks op b = false := by
  have e1 : (op == CmpOp.In) = false := by cases op <;> first | rfl | exact absurd rfl h
  have e2 : (op == CmpOp.NotIn) = false := by cases op <;> first | rfl | exact absurd rfl h2
  cases b <;> simp [behindInMarks, e1, e2]
def tNotN (ta : TE) : TE := fun σ H Q => ta σ H fun x H1 => Q (.bl (!decide (x = .non))) H1
theorem RelV.none_iff {x : V} {v : Value} (r : RelV x v) : (v == Value.none) = decide (x = .non) := by
  cases x with
  | non => cases r; rfl
  | bl _ => cases r; rfl
  | int _ => obtain ⟨t, rfl⟩ := r; rfl
  | str _ => obtain ⟨t, rfl⟩ := r; rfl
  | byt _ => obtain ⟨t, rfl⟩ := r; rfl
  | flt _ => obtain ⟨t, rfl⟩ := r; rfl
  | ref _ => cases r; rfl
  | ty _ => cases r; rfl
theorem pc_notN {j pos'} (ha : PE X a ta) : PC X .IsNot a (.Constant .none j pos') (tNotN ta) := by
  intro pins s σ H Q I h
  refine thn (ha pins s σ H _ I h) fun v s1 ⟨x, H1, I1, r1, q1⟩ => ?_
  exact Constant_none (isnot_none_gen ⟨.bl _, H1, I1, by rw [r1.none_iff]; rfl, q1⟩)
/-- a comparison as a value, as a test -/
def tB (t : TE) : TT := fun σ H Q => t σ H fun x H1 => ∃ c, x = .bl c ∧ Q c H1
theorem pt_cmp {op : CmpOp} {t : TE} (h : PC X op a b t) (h1 : behindInMarks op b = false := by first | exact nobehind _ (by decide) (by decide) | rfl) : PT X (.Compare a [op] [b] pos) (tB t) := by
  intro pins s σ H Q I hw
  refine wpAny_isTrue_Compare1 (thn (h pins s σ H _ I hw) fun v s1 h1 => thn h1 fun u s2 h2 => thn h2 fun c s3 ⟨x, H1, I1, r1, q1⟩ => ?_) h1
  obtain ⟨d, rfl, q⟩ := q1
  cases r1
  exact wpAny_truthy_bool ⟨H1, I1, q⟩
/-- an expression whose value is a bool, as a test -/
theorem pt_val {e : Expr} {t : TE} (h : PE X e t) (he : ∀ whole, isTrue e X.env whole = (do let v ← whole; standAt e.pos; holding [v] (truthy v)) := by intro _; rfl) : PT X e (tB t) := by
  intro pins s σ H Q I hw
  refine isTrue_plain (thn (h pins s σ H _ I hw) fun v s1 ⟨x, H1, I1, r1, q1⟩ => ?_) (he _)
  obtain ⟨d, rfl, q⟩ := q1
  cases r1
  exact wpAny_truthy_bool ⟨H1, I1, q⟩
variable {tA tB' : TT} {rest : List Expr}
def tAnd (t u : TT) : TT := fun σ H Q => t σ H fun c H1 => if c = true then u σ H1 Q else Q false H1
def tOr (t u : TT) : TT := fun σ H Q => t σ H fun c H1 => if c = true then Q true H1 else u σ H1 Q
theorem pw_and1 (ha : PT X a tA) : PW X (.BoolOp .And [a] pos) tA := by
  intro wh pins s σ H Q I h
  refine isTrue_and (thn (ha pins s σ H Q I h) fun c s1 e => ?_)
  cases c with
  | true => exact isTrue_and_nil e
  | false => exact e
theorem pw_or1 (ha : PT X a tA) : PW X (.BoolOp .Or [a] pos) tA := by
  intro wh pins s σ H Q I h
  refine isTrue_or (thn (ha pins s σ H Q I h) fun c s1 e => ?_)
  cases c with
  | false => exact isTrue_or_nil e
  | true => exact e
theorem pw_and (ha : PT X a tA) (hb : PW X (.BoolOp .And (b :: rest) pos) tB') : PW X (.BoolOp .And (a :: b :: rest) pos) (tAnd tA tB') := by
  intro wh pins s σ H Q I h
  refine isTrue_and (thn (ha pins s σ H _ I h) fun c s1 ⟨H1, I1, q1⟩ => ?_)
  cases c with
  | true => exact hb wh pins s1 σ H1 Q I1 q1
  | false => exact ⟨H1, I1, q1⟩
theorem pw_or (ha : PT X a tA) (hb : PW X (.BoolOp .Or (b :: rest) pos) tB') : PW X (.BoolOp .Or (a :: b :: rest) pos) (tOr tA tB') := by
  intro wh pins s σ H Q I h
  refine isTrue_or (thn (ha pins s σ H _ I h) fun c s1 ⟨H1, I1, q1⟩ => ?_)
  cases c with
  | true => exact ⟨H1, I1, q1⟩
  | false => exact hb wh pins s1 σ H1 Q I1 q1
/-- .. as values (bools) -/
def tAndV (ta tb : TE) : TE := fun σ H Q => ta σ H fun x H1 => ∃ c, x = .bl c ∧ if c = true then tb σ H1 Q else Q (.bl false) H1
theorem pe_one {op} {t : TE} (h : PE X a t) : PE X (.BoolOp op [a] pos) t := fun pins s σ H Q I hw => BoolOp_one (h pins s σ H Q I hw)
theorem pe_and (ha : PE X a ta) (hb : PE X (.BoolOp .And (b :: rest) pos) tb) : PE X (.BoolOp .And (a :: b :: rest) pos) (tAndV ta tb) := by
  intro pins s σ H Q I h
  refine BoolOp_and (thn (ha pins s σ H _ I h) fun v s1 ⟨x, H1, I1, r1, q1⟩ => ?_)
  obtain ⟨c, rfl, q1⟩ := q1
  cases r1
  refine wpAny_truthy_bool ?_
  cases c with
  | true => exact hb pins s1 σ H1 Q I1 q1
  | false => exact ⟨.bl false, H1, I1, rfl, q1⟩
end
end L2
namespace L2
open PySem PySem.Spec PyProof.Rows
def SqL (K : PySem.W.Frag) (H : Hp) (a : Addr) (xs : List V) : Prop :=
  Rd H a (.lst xs) ∨
    ∃ (o : Obj) (its : Array Value) (n : Nat), K.lookup a = some o ∧ o.cls = .type "list" ∧ o.dict = none ∧ o.data = .seq its n ∧ its.size ≤ sizeLine ∧ Vals xs its.toList
def SqT (K : PySem.W.Frag) (H : Hp) (a : Addr) (xs : List V) : Prop :=
  Rd H a (.tup xs) ∨
    ∃ (o : Obj) (its : Array Value) (n : Nat), K.lookup a = some o ∧ o.cls = .type "tuple" ∧ o.data = .seq its n ∧ its.size ≤ sizeLine ∧ Vals xs its.toList
def absV : Value → Option V
  | .none => some .non
  | .bool b => some (.bl b)
  | .int i _ => some (.int i)
  | .str x _ => some (.str x)
  | .bytes b _ => some (.byt b)
  | .float b _ => some (.flt b)
  | .ref a => some (.ref a)
  | .type n => some (.ty n)
  | _ => none
theorem RelV.abs {x : V} {u : Value} (r : RelV x u) : absV u = some x := by
  cases x with
  | non => cases r; rfl
  | bl _ => cases r; rfl
  | int _ => obtain ⟨t, rfl⟩ := r; rfl
  | str _ => obtain ⟨t, rfl⟩ := r; rfl
  | byt _ => obtain ⟨t, rfl⟩ := r; rfl
  | flt _ => obtain ⟨t, rfl⟩ := r; rfl
  | ref _ => cases r; rfl
  | ty _ => cases r; rfl
theorem RelV.inj {x y : V} {u : Value} (r : RelV x u) (q : RelV y u) : x = y := Option.some.inj (r.abs.symm.trans q.abs)
theorem Vals.inj : ∀ {xs ys : List V} {us : List Value}, Vals xs us → Vals ys us → xs = ys
  | _, _, _, .nil, .nil => rfl
  | _, _, _, .cons r t, .cons r' t' => by rw [r.inj r', Vals.inj t t']
section
variable {X : Cx} {pins : List (Addr × Obj)} {σ : St} {H : Hp} {s : Shared} {a : Addr} {xs ys : List V}
theorem SqL.of {K : PySem.W.Frag} (h : H a = some (.lst xs)) : SqL K H a xs := .inl (.inl h)
theorem SqT.of {K : PySem.W.Frag} (h : H a = some (.tup xs)) : SqT K H a xs := .inl (.inl h)
theorem Inv.list (I : Inv X pins σ H s) (h : SqL X.K H a xs) : ∃ its : List Value, Vals xs its ∧ PlainL s.heap a its.toArray ∧ xs.length ≤ sizeLine := by
  rcases h with h | ⟨o, its, n, hk, hc, hd, hs, hz, r⟩
  · obtain ⟨z, its, n, r, e⟩ := h.ok I.hok
    exact ⟨its, r, ⟨_, n, e, rfl, rfl, rfl⟩, z⟩
  · refine ⟨its.toList, r, ⟨o, n, I.kIn a o hk, hc, hd, by simpa using hs⟩, ?_⟩
    have e := r.length
    simp only [Array.length_toList] at e
    omega
theorem Inv.tuple (I : Inv X pins σ H s) (h : SqT X.K H a xs) : ∃ its : List Value, Vals xs its ∧ IsTup s.heap a its.toArray ∧ xs.length ≤ sizeLine := by
  rcases h with h | ⟨o, its, n, hk, hc, hs, hz, r⟩
  · obtain ⟨z, its, r, p⟩ := h.ok I.hok
    exact ⟨its, r, p, z⟩
  · refine ⟨its.toList, r, ⟨o, I.kIn a o hk, hc, n, by simpa using hs⟩, ?_⟩
    have e := r.length
    simp only [Array.length_toList] at e
    omega
theorem Inv.list_inj (I : Inv X pins σ H s) (h : SqL X.K H a xs) (h' : SqL X.K H a ys) : xs = ys := by
  obtain ⟨its, r, ⟨o, n, e, _, _, d⟩, _⟩ := I.list h
  obtain ⟨its', r', ⟨o', n', e', _, _, d'⟩, _⟩ := I.list h'
  rw [e] at e'; cases e'
  rw [d] at d'
  injection d' with d1 _
  have : its = its' := by simpa using congrArg Array.toList d1
  subst this
  exact r.inj r'
end
abbrev Cx.wish (X : Cx) (E : Value → Shared → Prop) : Cx := { X with xe := E }
/-- no exception leaves -/
abbrev Cx.nox (X : Cx) : Cx := X.wish fun _ _ => False
theorem Cx.Ok.wish {X : Cx} (ok : X.Ok) (E : Value → Shared → Prop) : (X.wish E).Ok :=
  ⟨ok.mod, ok.kind, ok.glob, ok.blt, ok.above, ok.inj, ok.has, ok.cab, ok.hd, ok.frames, ok.stk, ok.exf, ok.bs, ok.bsz, ok.noex, ok.exfs, ok.funs, ok.frf⟩
theorem Cx.Ok.unwish {X : Cx} {E : Value → Shared → Prop} (ok : (X.wish E).Ok) : X.Ok :=
  ⟨ok.mod, ok.kind, ok.glob, ok.blt, ok.above, ok.inj, ok.has, ok.cab, ok.hd, ok.frames, ok.stk, ok.exf, ok.bs, ok.bsz, ok.noex, ok.exfs, ok.funs, ok.frf⟩
section
variable {X : Cx} {pins : List (Addr × Obj)} {σ : St} {H : Hp} {s : Shared} {E : Value → Shared → Prop}
theorem Inv.wish (I : Inv X pins σ H s) (E : Value → Shared → Prop) : Inv (X.wish E) pins σ H s := ⟨I.ok.wish E, I.os, I.bare, I.base, I.loc, I.cell, I.free, I.freeC, I.pin, I.hok, I.len⟩
theorem Inv.unwish (I : Inv (X.wish E) pins σ H s) : Inv X pins σ H s := ⟨I.ok.unwish, I.os, I.bare, I.base, I.loc, I.cell, I.free, I.freeC, I.pin, I.hok, I.len⟩
theorem SP.unwish {D : Ends} {f : Flow} {s' : Shared} (h : SP (X.wish E) pins D f s') : SP X pins D f s' := by
  cases f with
  | next => obtain ⟨σ', H', I, q⟩ := h; exact ⟨σ', H', I.unwish, q⟩
  | brk => obtain ⟨σ', H', I, q⟩ := h; exact ⟨σ', H', I.unwish, q⟩
  | cont => obtain ⟨σ', H', I, q⟩ := h; exact ⟨σ', H', I.unwish, q⟩
  | ret u => obtain ⟨v, σ', H', I, r, q⟩ := h; exact ⟨v, σ', H', I.unwish, r, q⟩
theorem PSs.nox {st : List Stmt} {t : TS} (h : PSs X.nox st t) : PSs X st t := fun pins s σ H D I hw =>
  wpAny_mono (h pins s σ H D (I.wish _) hw) (fun _ _ q => q.unwish) fun _ _ z => False.elim z
end
section
variable {X : Cx} {st : Stmt} {rest : List Stmt} {t u : TS} {e : Expr} {te : TE} {pos : Pos}
def tNext : TS := fun D σ H => D.nx σ H
def tSeq (t u : TS) : TS := fun D σ H => t { D with nx := u D } σ H
theorem pss_nil : PSs X [] tNext := fun _ _ σ H _ I h => wpAny_execs_nil ⟨σ, H, I, h⟩
theorem pss_cons (h1 : PS X st t) (h2 : PSs X rest u) : PSs X (st :: rest) (tSeq t u) := by
  intro pins s σ H D I h
  refine wpAny_execs_cons (thn (h1 pins s σ H { D with nx := u D } I h) fun f s1 q => ?_)
  cases f with
  | next =>
    obtain ⟨σ', H', I', q⟩ := q
    exact h2 pins s1 σ' H' D I' q
  | ret v => exact q
  | brk => exact q
  | cont => exact q
theorem pss_one (h1 : PS X st t) : PSs X [st] t := by
  intro pins s σ H D I h
  refine wpAny_execs_cons (thn (h1 pins s σ H D I h) fun f s1 q => ?_)
  cases f with
  | next => exact wpAny_execs_nil q
  | ret v => exact q
  | brk => exact q
  | cont => exact q
def tBreak : TS := fun D σ H => D.bk σ H
theorem ps_break : PS X (.Break pos) tBreak := fun _ _ σ H _ I h => wpAny_Break ⟨σ, H, I, h⟩
/-- in a def's body nothing is shown -/
theorem Inv.quiet {pins : List (Addr × Obj)} {σ : St} {H : Hp} {s : Shared} (I : Inv X pins σ H s) : interactive X.env = false := by simp [interactive, I.ok.kind]
/-- an expression whose value is dropped -/
def tDrop (te : TE) : TS := fun D σ H => te σ H fun _ H1 => D.nx σ H1
theorem ps_expr (he : PE X e te) (hs : swapsWith e none pos.line X.env = pure false := by rfl) : PS X (.Expr e pos) (tDrop te) := by
  intro pins s σ H D I h
  exact wpAny_Expr_any (thn (he pins s σ H _ I h) fun v s1 ⟨x, H1, I1, r1, q1⟩ => ⟨σ, H1, I1, q1⟩) I.quiet hs
def tRet (te : TE) : TS := fun D σ H => te σ H D.rt
theorem ps_ret (he : PE X e te) : PS X (.Return (some e) pos) (tRet te) := by
  intro pins s σ H D I h
  exact wpAny_Return_some (thn (he pins s σ H _ I h) fun v s1 ⟨x, H1, I1, r1, q1⟩ => ⟨x, σ, H1, I1, r1, q1⟩)
def tIfS (c : TT) (t u : TS) : TS := fun D σ H => c σ H fun b H1 => if b = true then t D σ H1 else u D σ H1
theorem ps_if {c : Expr} {a b : List Stmt} {tc : TT} (hc : PT X c tc) (ha : PSs X a t) (hb : PSs X b u) : PS X (.If c a b pos) (tIfS tc t u) := by
  intro pins s σ H D I h
  refine wpAny_If (thn (hc pins s σ H _ I h) fun d s1 ⟨H1, I1, q1⟩ => ?_)
  cases d with
  | true => exact ha pins s1 σ H1 D I1 q1
  | false => exact hb pins s1 σ H1 D I1 q1
end
abbrev TG := V → St → Hp → (St → Hp → Prop) → Prop
abbrev TGs := List V → St → Hp → (St → Hp → Prop) → Prop
def PG (X : Cx) (target : Expr) (t : TG) : Prop :=
  ∀ (pins : List (Addr × Obj)) (s : Shared) (σ : St) (H : Hp) (v : V) (u : Value) (Q : St → Hp → Prop), Inv X pins σ H s → RelV v u → t v σ H Q →
    wpAny (model X.prog X.w) X.A (assign target X.env u) (fun _ s' => ∃ σ' H', Inv X pins σ' H' s' ∧ Q σ' H') X.xe s
/-- several targets, one after another -/
def PGs (X : Cx) (ts : List Expr) (t : TGs) : Prop :=
  ∀ (pins : List (Addr × Obj)) (s : Shared) (σ : St) (H : Hp) (vs : List V) (us : List Value) (Q : St → Hp → Prop), Inv X pins σ H s → Vals vs us → t vs σ H Q →
    wpAny (model X.prog X.w) X.A (assignInOrder ((assignEach ts X.env).map (·.2)) us) (fun _ s' => ∃ σ' H', Inv X pins σ' H' s' ∧ Q σ' H') X.xe s
/-- a op= b, by values -/
abbrev TIp := V → V → Hp → VK → Prop
def PIp (X : Cx) (op : Operator) (t : TIp) : Prop :=
  ∀ (pins : List (Addr × Obj)) (s : Shared) (σ : St) (H : Hp) (x y : V) (v u : Value) (Q : VK), Inv X pins σ H s → RelV x v → RelV y u → t x y H Q →
    wpAny (model X.prog X.w) X.A (inplaceOp op v u) (EP X pins σ Q) X.xe s
section
variable {X : Cx} {pos : Pos}
def gName (i : Nat) : TG := fun v σ H Q => Q (σ.set i (some v)) H
theorem pg_name {i : Nat} {x : Str} (hN : X.N.Nodup) (hi : X.N[i]? = some x) (hx : Loc X.env.scope x) (hf : X.fn x = true ∨ X.env.scope.names.lookup x = some .local := by first | exact .inl rfl | exact .inr rfl | assumption) : PG X (.Name x pos) (gName i) := by
  intro pins s σ H v u Q I r h
  exact wpAny_assign_Name (store_ok I hN hi hx r (fun s' I' => ⟨_, H, I', h⟩) hf)
def gNil : TGs := fun vs σ H Q => vs = [] ∧ Q σ H
def gCons (t : TG) (u : TGs) : TGs := fun vs σ H Q => ∃ v r, vs = v :: r ∧ t v σ H fun σ' H' => u r σ' H' Q
theorem pgs_nil : PGs X [] gNil := by
  intro pins s σ H vs us Q I r h
  obtain ⟨e, h⟩ := h
  subst e
  cases r
  exact assignInOrder_nil ⟨σ, H, I, h⟩
theorem pgs_cons {e : Expr} {es : List Expr} {t : TG} {u : TGs} (h1 : PG X e t) (h2 : PGs X es u)
    (hs : (assignEach (e :: es) X.env).map (·.2) = assign e X.env :: (assignEach es X.env).map (·.2) := by rfl) : PGs X (e :: es) (gCons t u) := by
  intro pins s σ H vs us Q I r h
  obtain ⟨v, vr, e1, h⟩ := h
  subst e1
  cases r with
  | cons r rr =>
    rw [hs]
    refine assignInOrder_cons (thn (h1 pins s σ H _ _ _ I r h) fun _ s1 ⟨σ1, H1, I1, q1⟩ => ?_)
    exact h2 pins s1 σ1 H1 _ _ Q I1 rr q1
/-- (a, b, ..) = a tuple of that length -/
def gTup (K : PySem.W.Frag) (n : Nat) (t : TGs) : TG := fun v σ H Q => ∃ a xs, v = .ref a ∧ SqT K H a xs ∧ xs.length = n ∧ t xs σ H Q
theorem pg_tup {es : List Expr} {k : Nat} {t : TGs} {n : Nat} (hc : X.calm = true) (h : PGs X es t)
    (hn : (assignEach es X.env).length = n := by rfl) (hst : (assignEach es X.env).findIdx? (·.1) = none := by rfl) : PG X (.Tuple es k pos) (gTup X.K n t) := by
  intro pins s σ H v u Q I r hw
  obtain ⟨a, xs, e1, hq, hl, hw⟩ := hw
  subst e1
  cases r
  obtain ⟨its, rv, ht, hz⟩ := I.tuple hq
  refine assign_Tuple_tuple (I.ok.hd hc) ht (by simp [hn, ← hl, rv.length]) hst fun h' hx => ?_
  have I1 : Inv X pins σ H { s with heap := h' } := I.kept (t' := s.toks) fun b o e => hx b o (Nat.ne_of_lt (Heap.lt_size e)) e
  exact h pins _ σ H xs _ Q I1 (by simpa using rv) hw
/-- target = value -/
def tAsg (te : TE) (g : TG) : TS := fun D σ H => te σ H fun x H1 => g x σ H1 D.nx
/-- name = value -/
theorem ps_set {i : Nat} {x : Str} {e : Expr} {te : TE} {pos' : Pos} (hN : X.N.Nodup) (hi : X.N[i]? = some x) (hx : Loc X.env.scope x) (he : PE X e te) (hs : swapsWith e (some (.Name x pos')) pos.line X.env = pure false := by rfl) (hf : X.fn x = true ∨ X.env.scope.names.lookup x = some .local := by first | exact .inl rfl | exact .inr rfl | assumption) :
    PS X (.Assign [.Name x pos'] e pos) (tAsg te (gName i)) := by
  intro pins s σ H D I h
  refine wpAny_Assign_Name (thn (he pins s σ H _ I h) fun v s1 ⟨y, H1, I1, r1, q1⟩ => ?_) hs
  exact store_ok I1 hN hi hx r1 (fun s2 I2 => ⟨_, H1, I2, q1⟩) hf
/-- name op= e -/
def tAug (i : Nat) (te : TE) (ti : TIp) : TS := fun D σ H => ∃ x, σ[i]? = some (some x) ∧ te σ H fun y H1 => ti x y H1 fun z H2 => D.nx (σ.set i (some z)) H2
theorem ps_aug {i : Nat} {x : Str} {e : Expr} {te : TE} {op : Operator} {ti : TIp} {pos' : Pos} (hN : X.N.Nodup) (hi : X.N[i]? = some x) (hx : Loc X.env.scope x) (he : PE X e te) (ho : PIp X op ti) (hf : X.fn x = true ∨ X.env.scope.names.lookup x = some .local := by first | exact .inl rfl | exact .inr rfl | assumption) :
    PS X (.AugAssign (.Name x pos') op e pos) (tAug i te ti) := by
  intro pins s σ H D I h
  obtain ⟨v, e1, h⟩ := h
  obtain ⟨m, hn, hl⟩ := I.loc
  have vis : Vis X.env.scope x := by rcases hx with k | k; exact .inl k; exact .inr (.inl k)
  obtain ⟨u, r, l⟩ := hl i x v hi e1 vis
  refine wpAny_AugAssign_Name ?_
  have go : wpAny (model X.prog X.w) X.A (eval e X.env) (fun w s₂ => wpAny (model X.prog X.w) X.A (inplaceOp op u w) (fun r s₃ => wpAny (model X.prog X.w) X.A (storeName X.env x r) (fun _ => SP X pins D .next) X.xe s₃) X.xe s₂) X.xe s := by
    refine thn (he pins s σ H _ I h) fun w s1 ⟨y, H1, I1, r1, q1⟩ => ?_
    refine thn (ho pins s1 σ H1 v y u w _ I1 r r1 q1) fun z s2 ⟨zv, H2, I2, r2, q2⟩ => ?_
    exact store_ok I2 hN hi hx r2 (fun s3 I3 => ⟨_, H2, I3, q2⟩) hf
  rcases l with ⟨hk, hm⟩ | ⟨hk, c, hc, hcell⟩
  · exact wpAny_loadName_local I.ok.kind hk hn hm go
  · rcases hk with hk | hk
    · exact wpAny_loadName_cell I.ok.kind hk hc hcell go
    · rcases hx with k | k
      · have : X.env.scope.names.lookup x = some .free := hk
        rw [k] at this; cases this
      · have : X.env.scope.names.lookup x = some .free := hk
        rw [k] at this; cases this
/-- ints -/
def ipI (f : Int → Int → Int) : TIp := fun x y H Q => ∃ i j, x = .int i ∧ y = .int j ∧ Q (.int (f i j)) H
theorem ip_add : PIp X .Add (ipI fun i j => i + j) := by
  intro pins s σ H x y v u Q I r1 r2 h
  obtain ⟨i, j, e1, e2, q⟩ := h
  subst e1; subst e2
  obtain ⟨t, rfl⟩ := r1
  obtain ⟨t', rfl⟩ := r2
  exact iadd_int ⟨.int _, H, I.tok _, ⟨_, rfl⟩, q⟩
end
section
variable {X : Cx} {pos : Pos}
end
/-- at turn i: it yields x (the heap may grow), or it stops -/
structure It where
  go : Nat → Hp → Prop
  yld : Nat → Hp → V → Hp → Prop
  stop : Nat → Hp → Prop
/-- the iterator's own objects may turn: they are not the frame's, not pinned, younger than the entry (or a comprehension's own) -/
def FpOk (X : Cx) (pins : List (Addr × Obj)) (H : Hp) (b : Addr) : Prop :=
  H b = none ∧ b ≠ X.env.locals ∧ b ∉ X.fs ∧ (b ∈ X.ex ∨ X.s_0.heap.objs.size ≤ b) ∧ (∀ x c, X.env.cells.lookup x = some c → c ≠ b) ∧ ∀ p ∈ X.pn ++ pins, p.1 ≠ b
theorem Inv.fpOk {X : Cx} {pins : List (Addr × Obj)} {σ : St} {H H' : Hp} {s : Shared} {b : Addr} (I : Inv X pins σ H s) (hb : s.heap.objs.size ≤ b) (hn : H' b = none) : FpOk X pins H' b := by
  refine ⟨hn, Nat.ne_of_gt (Nat.lt_of_lt_of_le I.lt hb), I.nofs hb, .inr (Nat.le_trans I.sz hb), fun x c e z => ?_, fun p hp z => ?_⟩
  · obtain ⟨v, q⟩ := I.cell x c e
    exact absurd (Nat.lt_of_lt_of_le q.lt (by rw [z]; exact hb)) (Nat.lt_irrefl _)
  · exact absurd (Nat.lt_of_lt_of_le (Heap.lt_size (I.pin p hp).1) (by rw [z]; exact hb)) (Nat.lt_irrefl _)
structure Turn (P : Program) (w : World) (K : PySem.W.Frag) (tg : Expr) (J : It) (fp : List Addr) (it : Addr) (tn : Nat → Heap → Prop) : Prop where
  mem : it ∈ fp
  obj : ∀ i h, tn i h → ∀ b ∈ fp, ∃ o, h.get? b = some o ∧ ∀ v, o.data ≠ .cell v
  keep : ∀ i h h', tn i h → (∀ b ∈ fp, ∀ o, h.get? b = some o → h'.get? b = some o) → tn i h'
  item : ∀ (X : Cx), X.prog = P → X.w = w → X.K = K → X.calm = true → ∀ (i : Nat) (pins : List (Addr × Obj)) (s : Shared) (σ : St) (H : Hp) (E : Value → Shared → Prop), Inv X pins σ H s → (∀ b ∈ fp, FpOk X pins H b) → tn i s.heap → J.go i H →
    wpAny (model P w) X.A (pyNext (.ref it)) (fun r s1 => ∃ u, r = some u ∧
      wpAny (model P w) X.A (letOwnedTupleGo tg (.ref it) u) (fun _ s2 => ∃ x H', Inv X pins σ H' s2 ∧ RelV x u ∧ J.yld i H x H' ∧ tn (i + 1) s2.heap ∧ ∀ b ∈ fp, H' b = none) E s1) E s
  done : ∀ (X : Cx), X.prog = P → X.w = w → X.K = K → X.calm = true → ∀ (i : Nat) (pins : List (Addr × Obj)) (s : Shared) (σ : St) (H : Hp) (E : Value → Shared → Prop), Inv X pins σ H s → (∀ b ∈ fp, FpOk X pins H b) → tn i s.heap → J.stop i H →
    wpAny (model P w) X.A (pyNext (.ref it)) (fun r s1 => r = none ∧ Inv X pins σ H s1) E s
  self : ∀ (A : Around) (i : Nat) (s : Shared) (Q : Value → Shared → Prop) (E : Value → Shared → Prop), tn i s.heap → Q (.ref it) s → wpAny (model P w) A (pyIter (.ref it)) Q E s
abbrev TI := St → Hp → (It → Hp → Prop) → Prop
/-- an iterator has come -/
def PIE (X : Cx) (pins : List (Addr × Obj)) (σ : St) (tg : Expr) (R : It → Hp → Prop) (itv : Value) (s2 : Shared) : Prop :=
  ∃ (it : Addr) (fp : List Addr) (tn : Nat → Heap → Prop) (J : It) (H' : Hp), itv = .ref it ∧ Inv X pins σ H' s2 ∧ Turn X.prog X.w X.K tg J fp it tn ∧ tn 0 s2.heap ∧ (∀ b ∈ fp, FpOk X pins H' b) ∧ R J H'
def PI (X : Cx) (tg iter : Expr) (wi : TI) : Prop :=
  ∀ (pins : List (Addr × Obj)) (s : Shared) (σ : St) (H : Hp) (R : It → Hp → Prop), Inv X pins σ H s → wi σ H R →
    wpAny (model X.prog X.w) X.A (eval iter X.env) (fun v s1 => wpAny (model X.prog X.w) X.A (pyIter v) (PIE X pins σ tg R) X.xe s1) X.xe s
/-- the step ahead of the store is nothing for an iterator that keeps no tuple -/
theorem go_of {M : Model} {A : Around} {E : Value → Shared → Prop} {s : Shared} {tg : Expr} {it : Addr} {u : Value} {o : Obj} {n : String} {vs : Array Value} {Q : Unit → Shared → Prop} (ho : s.heap.get? it = some o) (hc : o.cls = .type n) (hd : o.data = .fields vs)
    (hn : ["enumerate", "zip", "dict_itemiterator", "dict_reverseitemiterator", "odict_iterator", "itertools.zip_longest", "itertools.pairwise"].contains n = false) (hQ : Q () s) : wpAny M A (letOwnedTupleGo tg (.ref it) u) Q E s := by
  unfold letOwnedTupleGo
  cases tg <;> first
    | exact wpAny_pure hQ
    | (cases u <;> first
        | exact wpAny_pure hQ
        | (refine wpAny_bind (wpAny_load ho ?_)
           rw [hc, hd]
           show wpAny M A (if (["enumerate", "zip", "dict_itemiterator", "dict_reverseitemiterator", "odict_iterator", "itertools.zip_longest", "itertools.pairwise"].contains n && vs[0]? == some (rawInt _)) = true then _ else _) Q E s
           rw [if_neg (by intro h; rw [hn, Bool.false_and] at h; cases h)]
           exact wpAny_pure hQ))
/-- the list at a, as it stands at each turn (a loop may append to it) -/
def Itl (K : PySem.W.Frag) (a : Addr) : It :=
  ⟨fun i H => ∃ xs x, SqL K H a xs ∧ xs[i]? = some x, fun i H x H' => H' = H ∧ ∀ xs, SqL K H a xs → xs[i]? = some x, fun i H => ∃ xs, SqL K H a xs ∧ xs.length ≤ i⟩
/-- lo, lo + 1, .. (n of them) -/
def Itr (lo : Int) (n : Nat) : It := ⟨fun i _ => i < n, fun i H x H' => H' = H ∧ x = .int (lo + i), fun i _ => n ≤ i⟩
theorem turn_list {P : Program} {w : World} {K : PySem.W.Frag} {tg : Expr} (a it : Addr) : Turn P w K tg (Itl K a) [it] it (fun i h => h.IsListIter it a i) where
  mem := by simp
  obj := fun i h st b hb => by
    have e : b = it := by simpa using hb
    subst e
    obtain ⟨o, e, c, d⟩ := st
    exact ⟨o, e, fun v z => by rw [d] at z; cases z⟩
  keep := fun i h h' st k => st.at fun o e => k it (by simp) o e
  item := by
    intro X hP hw hK hc i pins s σ H E I hf st hg
    subst hP hw hK
    obtain ⟨xs, x, hq, hx⟩ := hg
    obtain ⟨its, rv, p, hz⟩ := I.list hq
    obtain ⟨u, hu, ru⟩ := rv.get hx
    obtain ⟨f0, f1, f2, f3, f4, f5⟩ := hf it (by simp)
    refine wpAny_pyNext_list_item st p.isList (x := u) (by simpa using hu) fun h' st' sb => ?_
    have I1 : Inv X pins σ H { s with heap := h' } := I.turned (t' := s.toks) (fun b o hb e => (sb.2 b hb).trans e) f0 f1 f3 f4 f5
    obtain ⟨o, e, c, d⟩ := id st'
    exact ⟨u, rfl, go_of (s := { s with heap := h' }) e c d (by decide) ⟨x, H, I1, ru, ⟨rfl, fun ys hy => by rw [I.list_inj hy hq]; exact hx⟩, st', fun b hb => (hf b hb).1⟩⟩
  done := by
    intro X hP hw hK hc i pins s σ H E I hf st hg
    subst hP hw hK
    obtain ⟨xs, hq, hx⟩ := hg
    obtain ⟨its, rv, p, hz⟩ := I.list hq
    obtain ⟨f0, f1, f2, f3, f4, f5⟩ := hf it (by simp)
    have hl := rv.length
    exact wpAny_pyNext_list_end (I.ok.hd hc) st p.isList (by simp; omega) fun h' eb => ⟨rfl, I.turned (t' := s.toks) (fun b o hb e => eb b o hb e) f0 f1 f3 f4 f5⟩
  self := fun _ _ _ _ _ st h => wpAny_pyIter_listiter st h
theorem turn_range {P : Program} {w : World} {K : PySem.W.Frag} {tg : Expr} (it : Addr) (lo : Int) (n : Nat) : Turn P w K tg (Itr lo n) [it] it (fun i h => IsRangeIter h it (lo + (i : Nat) * 1) ((n : Int) - (i : Nat)) 1) where
  mem := by simp
  obj := fun i h st b hb => by
    have e : b = it := by simpa using hb
    subst e
    exact ⟨_, st, fun v z => by
      have z' : Data.fields _ = Data.cell v := z
      cases z'⟩
  keep := fun i h h' st k => k it (by simp) _ st
  item := by
    intro X hP hw hK hc i pins s σ H E I hf st hg
    subst hP hw hK
    obtain ⟨f0, f1, f2, f3, f4, f5⟩ := hf it (by simp)
    have W := Walks.range (prog := X.prog) (w := X.w) (I.ok.hd hc) it lo 1 n
    refine W.item i s _ _ hg st fun v h' tk hv st' kk => ?_
    obtain ⟨t, rfl⟩ := hv
    have I1 : Inv X pins σ H { s with heap := h', toks := tk } := I.turned (fun b o hb e => kk b o (by simpa using hb) e) f0 f1 f3 f4 f5
    refine ⟨_, rfl, go_of (s := { s with heap := h', toks := tk }) (n := "range_iterator") st' rfl rfl (by decide) ⟨.int (lo + i), H, I1, ⟨t, ?_⟩, ⟨rfl, rfl⟩, st', fun b hb => (hf b hb).1⟩⟩
    rw [Int.mul_one]
  done := by
    intro X hP hw hK hc i pins s σ H E I hf st hg
    subst hP hw hK
    obtain ⟨f0, f1, f2, f3, f4, f5⟩ := hf it (by simp)
    exact wpAny_pyNext_range_end (I.ok.hd hc) st (by have : n ≤ i := hg; omega) fun h' eb => ⟨rfl, I.turned (t' := s.toks) (fun b o hb e => eb b o hb e) f0 f1 f3 f4 f5⟩
  self := fun _ _ _ _ _ st h => wpAny_pyIter_rangeiter st h
end L2
namespace L2
open PySem PySem.Spec PyProof.Rows
section
variable {X : Cx} {tg : Expr}
def iList (K : PySem.W.Frag) (tl : TE) : TI := fun σ H R => tl σ H fun x H1 => ∃ a, x = .ref a ∧ (∃ xs, SqL K H1 a xs) ∧ R (Itl K a) H1
theorem pi_list {l : Expr} {tl : TE} (hl : PE X l tl) : PI X tg l (iList X.K tl) := by
  intro pins s σ H R I h
  refine thn (hl pins s σ H _ I h) fun v s1 ⟨x, H1, I1, r1, q1⟩ => ?_
  obtain ⟨a, e, ⟨xs, hq⟩, q⟩ := q1
  subst e
  cases r1
  obtain ⟨its, rv, p, hz⟩ := I1.list hq
  refine wpAny_pyIter_list p.isList ?_
  refine ⟨s1.heap.objs.size, [s1.heap.objs.size], _, _, H1, rfl, I1.kept (t' := s1.toks) fun b o e => Heap.get?_push_of_some _ e, turn_list a _, ⟨_, Heap.get?_push_size _ rfl, rfl, rfl⟩, fun b hb => ?_, q⟩
  have e : b = s1.heap.objs.size := by simpa using hb
  subst e
  exact I1.fpOk (Nat.le_refl _) (I1.hok.fresh (Nat.le_refl _))
/-- a range object just made, walked -/
theorem range_it {pins : List (Addr × Obj)} {σ : St} {H : Hp} {s : Shared} {R : It → Hp → Prop} {E : Value → Shared → Prop} {lo hi : Int} {t u v : Tok} {tk : Nat} (I : Inv X pins σ H s) (h1 : -(2 ^ 62) ≤ lo) (h2 : lo < 2 ^ 62) (h3 : -(2 ^ 62) ≤ hi) (h4 : hi < 2 ^ 62)
    (q : R (Itr lo (hi - lo).toNat) H) : wpAny (model X.prog X.w) X.A (pyIter (.ref s.heap.objs.size)) (PIE X pins σ tg R) E { s with heap := s.heap.push { cls := .type "range", data := .fields #[.int lo t, .int hi u, .int 1 v] }, toks := tk } := by
  refine wpAny_pyIter_range (IsRange.new ..) (small_one h1 h2 h3 h4) ?_
  have I1 : Inv X pins σ H { s with heap := s.heap.push { cls := .type "range", data := .fields #[.int lo t, .int hi u, .int 1 v] }, toks := tk } := I.kept fun b o e => Heap.get?_push_of_some _ e
  refine ⟨(s.heap.push { cls := .type "range", data := .fields #[.int lo t, .int hi u, .int 1 v] }).objs.size, [(s.heap.push { cls := .type "range", data := .fields #[.int lo t, .int hi u, .int 1 v] }).objs.size], _, _, H, rfl,
    I1.kept (t' := tk) fun b o e => Heap.get?_push_of_some _ e, turn_range _ lo (hi - lo).toNat, ?_, fun b hb => ?_, q⟩
  · have e1 : lo + ((0 : Nat) : Int) * 1 = lo := by simp
    have e2 : (((hi - lo).toNat : Nat) : Int) - ((0 : Nat) : Int) = Builtin.Range.rangeSize lo hi 1 := by rw [rangeSize_one]; split <;> omega
    show IsRangeIter _ _ (lo + ((0 : Nat) : Int) * 1) ((((hi - lo).toNat : Nat) : Int) - ((0 : Nat) : Int)) 1
    rw [e1, e2]
    exact Heap.get?_push_size _ rfl
  · have e : b = (s.heap.push { cls := .type "range", data := .fields #[.int lo t, .int hi u, .int 1 v] }).objs.size := by simpa using hb
    subst e
    exact I1.fpOk (Nat.le_refl _) (I1.hok.fresh (Nat.le_refl _))
def iRng1 (ta : TA) : TI := fun σ H R => ta σ H fun vs H1 => ∃ j : Int, vs = [.int j] ∧ -(2 ^ 62) ≤ j ∧ j < 2 ^ 62 ∧ R (Itr 0 j.toNat) H1
def iRng2 (ta : TA) : TI := fun σ H R => ta σ H fun vs H1 => ∃ i j : Int, vs = [.int i, .int j] ∧ (-(2 ^ 62) ≤ i ∧ i < 2 ^ 62 ∧ -(2 ^ 62) ≤ j ∧ j < 2 ^ 62) ∧ R (Itr i (j - i).toNat) H1
theorem pi_range1 {a : Expr} {ta : TA} {p pos : Pos} (hg : Gl X "range") (hm : X.mg "range" = none) (ha : PA X [a] ta) (hs : starEach [a] X.env = [(false, eval a X.env)] := by rfl) : PI X tg (.Call (.Name "range" p) [a] [] pos) (iRng1 ta) := by
  intro pins s σ H R I h
  refine Call_ (ld_blt I hg hm boot_range (PyProof.Rows.callWith_type1 (thn (ha pos pins s σ H _ I h) fun us s1 ⟨vs, H1, I1, r1, q1⟩ => ?_) hs rfl))
  obtain ⟨j, e, q1, q2, q⟩ := q1
  subst e
  cases r1 with
  | cons r rr =>
    cases rr
    obtain ⟨t, rfl⟩ := r
    exact call_range_1 (range_it I1 (by omega) (by omega) q1 q2 (by simpa using q))
theorem pi_range2 {a b : Expr} {ta : TA} {p pos : Pos} (hg : Gl X "range") (hm : X.mg "range" = none) (ha : PA X [a, b] ta) (hs : starEach [a, b] X.env = [(false, eval a X.env), (false, eval b X.env)] := by rfl) (hs2 : starEach [b] X.env = [(false, eval b X.env)] := by rfl) :
    PI X tg (.Call (.Name "range" p) [a, b] [] pos) (iRng2 ta) := by
  intro pins s σ H R I h
  refine Call_ (ld_blt I hg hm boot_range (PyProof.Rows.callWith_type1 (thn (ha pos pins s σ H _ I h) fun us s1 ⟨vs, H1, I1, r1, q1⟩ => ?_) (by rw [hs, hs2]) (by rw [hs2]; rfl)))
  obtain ⟨i, j, e, ⟨q1, q2, q3, q4⟩, q⟩ := q1
  subst e
  cases r1 with
  | cons r rr =>
    cases rr with
    | cons r' rr =>
      cases rr
      obtain ⟨t, rfl⟩ := r
      obtain ⟨t', rfl⟩ := r'
      exact call_range_2 (range_it I1 q1 q2 q3 q4 q)
/-- W: the invariant by the turn and a measure; N: what the body is to reach -/
def tFor (wi : TI) (g : TG) (tb : TS) : TS := fun D σ H => wi σ H fun J H1 => ∃ W : Nat → Nat → St → Hp → Prop, (∃ m, W 0 m σ H1) ∧ ∀ i m σ H, W i m σ H →
  (J.stop i H ∧ D.nx σ H) ∨ (J.go i H ∧ ∃ N : St → Hp → Prop, (∀ σ' H', N σ' H' → ∃ m', m' < m ∧ W (i + 1) m' σ' H') ∧ ∀ x H', J.yld i H x H' → g x σ H' fun σ2 H2 => tb { D with nx := N, ct := N, bk := D.nx } σ2 H2)
/-- the records at fp as they stand -/
def pinsAt (fp : List Addr) (h : Heap) : List (Addr × Obj) := fp.filterMap fun b => (h.get? b).map fun o => (b, o)
theorem mem_pinsAt {fp : List Addr} {h : Heap} {b : Addr} {o : Obj} (hb : b ∈ fp) (e : h.get? b = some o) : (b, o) ∈ pinsAt fp h := List.mem_filterMap.mpr ⟨b, hb, by rw [e]; rfl⟩
theorem of_pinsAt {fp : List Addr} {h : Heap} {p : Addr × Obj} (hp : p ∈ pinsAt fp h) : p.1 ∈ fp ∧ h.get? p.1 = some p.2 := by
  obtain ⟨b, hb, e⟩ := List.mem_filterMap.mp hp
  cases q : h.get? b with
  | none => rw [q] at e; cases e
  | some o =>
    rw [q] at e
    have e' : (b, o) = p := Option.some.inj e
    subst e'
    exact ⟨hb, q⟩
theorem Inv.pinned {pins : List (Addr × Obj)} {σ : St} {H : Hp} {s : Shared} {fp : List Addr} (I : Inv X pins σ H s) (hf : ∀ b ∈ fp, FpOk X pins H b) (ho : ∀ b ∈ fp, ∃ o, s.heap.get? b = some o ∧ ∀ v, o.data ≠ .cell v) : Inv X (pins ++ pinsAt fp s.heap) σ H s :=
  I.pins_of fun p hp => (List.mem_append.mp hp).elim (fun z => I.pin p (List.mem_append_right _ z)) fun z => by
    obtain ⟨hb, e⟩ := of_pinsAt z
    obtain ⟨f0, f1, f2, _⟩ := hf p.1 hb
    obtain ⟨o, e', d⟩ := ho p.1 hb
    rw [e] at e'; cases e'
    exact ⟨e, f0, f1, f2, d⟩
theorem Inv.unpinned {pins pl : List (Addr × Obj)} {σ : St} {H : Hp} {s : Shared} (I : Inv X (pins ++ pl) σ H s) : Inv X pins σ H s := I.pins_of fun p hp => I.pin p (List.mem_append_right _ (List.mem_append_left _ hp))
theorem ps_for {iter : Expr} {body : List Stmt} {wi : TI} {g : TG} {tb : TS} {pos : Pos} (hp : PassesOwn (model X.prog X.w) X.A X.env X.xe) (hc : X.calm = true) (hi : PI X tg iter wi) (hg : PG X tg g) (hb : PSs X body tb)
    (hs : ∀ x, foldedSetIterable iter X.env x = pure x := by intro _; rfl) : PS X (.For tg iter body [] pos) (tFor wi g tb) := by
  intro pins s σ H D I h
  refine wpAny_For (thn (hi pins s σ H _ I h) fun v s1 h1 => thn h1 fun itv s2 h2 => ?_) hs
  obtain ⟨it, fp, tn, J, H2, e, I2, T, st2, f2, W, ⟨m0, w0⟩, turn⟩ := h2
  subst e
  -- what stays true of the iterator's objects through the loop
  have stat : ∀ {H' : Hp}, (∀ b ∈ fp, H' b = none) → ∀ b ∈ fp, FpOk X pins H' b := fun hn b hb => ⟨hn b hb, (f2 b hb).2⟩
  refine codeAny_forLoop_any (fun n s' => ∃ i σ' H', Inv X pins σ' H' s' ∧ tn i s'.heap ∧ (∀ b ∈ fp, H' b = none) ∧ W i n σ' H') ?_ m0 ⟨0, σ, H2, I2, st2, fun b hb => (f2 b hb).1, w0⟩
  rintro n s3 ⟨i, σ3, H3, I3, st3, fr3, w3⟩
  rcases turn i n σ3 H3 w3 with ⟨stop, qn⟩ | ⟨go, N, hN, step⟩
  · refine wpAny_passesOwn hp (thn (T.done X rfl rfl rfl hc i pins s3 σ3 H3 X.xe I3 (stat fr3) st3 stop) fun r s4 ⟨hr, I4⟩ => ?_)
    subst hr
    exact wpAny_execs_nil ⟨σ3, H3, I4, qn⟩
  · refine wpAny_passesOwn hp (thn (T.item X rfl rfl rfl hc i pins s3 σ3 H3 X.xe I3 (stat fr3) st3 go) fun r s4 ⟨u, hr, h4⟩ => ?_)
    subst hr
    refine wpAny_passesOwn hp (thn h4 fun _ s5 ⟨x, H5, I5, r5, y5, st5, fr5⟩ => ?_)
    have I5' := I5.pinned (stat fr5) (T.obj _ _ st5)
    refine wpAny_passesOwn hp (thn (hg _ s5 σ3 H5 x u _ I5' r5 (step x H5 y5)) fun _ s6 ⟨σ6, H6, I6, q6⟩ => ?_)
    refine wpAny_passesOwn hp (thn (hb _ s6 σ6 H6 _ I6 q6) fun f s7 q7 => ?_)
    have again : ∀ {σ7 : St} {H7 : Hp}, Inv X (pins ++ pinsAt fp s5.heap) σ7 H7 s7 → N σ7 H7 → ∃ m, m < n ∧ ∃ i σ' H', Inv X pins σ' H' s7 ∧ tn i s7.heap ∧ (∀ b ∈ fp, H' b = none) ∧ W i m σ' H' := fun {σ7 H7} I7 n7 => by
      obtain ⟨m', hm, w7⟩ := hN σ7 H7 n7
      refine ⟨m', hm, i + 1, σ7, H7, I7.unpinned, T.keep _ _ _ st5 fun b hb o e => (I7.pin (b, o) (List.mem_append_right _ (List.mem_append_right _ (mem_pinsAt hb e)))).1, fun b hb => ?_, w7⟩
      obtain ⟨o, e, d⟩ := T.obj _ _ st5 b hb
      exact (I7.pin (b, o) (List.mem_append_right _ (List.mem_append_right _ (mem_pinsAt hb e)))).2.1
    cases f with
    | next => obtain ⟨σ7, H7, I7, n7⟩ := q7; exact again I7 n7
    | cont => obtain ⟨σ7, H7, I7, n7⟩ := q7; exact again I7 n7
    | brk => obtain ⟨σ7, H7, I7, q7⟩ := q7; exact ⟨σ7, H7, I7.unpinned, q7⟩
    | ret v => obtain ⟨x7, σ7, H7, I7, r7, q7⟩ := q7; exact ⟨x7, σ7, H7, I7.unpinned, r7, q7⟩
end
/-- over a list that the body leaves as it is -/
theorem for_list {K : PySem.W.Frag} {a : Addr} {xs : List V} {g : TG} {tb : TS} {D : Ends} {σ : St} {H : Hp} (Pv : Nat → St → Hp → Prop) (h0 : Pv 0 σ H) (hl : ∀ i σ H, i ≤ xs.length → Pv i σ H → SqL K H a xs)
    (hs : ∀ i x σ H, xs[i]? = some x → Pv i σ H → g x σ H fun σ2 H2 => tb { D with nx := Pv (i + 1), ct := Pv (i + 1), bk := D.nx } σ2 H2) (hd : ∀ σ H, Pv xs.length σ H → D.nx σ H) :
    ∃ W : Nat → Nat → St → Hp → Prop, (∃ m, W 0 m σ H) ∧ ∀ i m σ H, W i m σ H →
      ((Itl K a).stop i H ∧ D.nx σ H) ∨ ((Itl K a).go i H ∧ ∃ N : St → Hp → Prop, (∀ σ' H', N σ' H' → ∃ m', m' < m ∧ W (i + 1) m' σ' H') ∧ ∀ x H', (Itl K a).yld i H x H' → g x σ H' fun σ2 H2 => tb { D with nx := N, ct := N, bk := D.nx } σ2 H2) := by
  refine ⟨fun i m σ H => m = xs.length - i ∧ i ≤ xs.length ∧ Pv i σ H, ⟨xs.length, by simp, Nat.zero_le _, h0⟩, ?_⟩
  rintro i m σ H ⟨rfl, hi, p⟩
  have q := hl i σ H hi p
  by_cases hlt : i < xs.length
  · refine .inr ⟨⟨xs, xs[i], q, by simp [hlt]⟩, Pv (i + 1), fun σ' H' p' => ⟨xs.length - (i + 1), by omega, rfl, hlt, p'⟩, fun x H' y => ?_⟩
    obtain ⟨e, y⟩ := y
    subst e
    exact hs i x σ _ (y xs q) p
  · have e : i = xs.length := by omega
    subst e
    exact .inl ⟨⟨xs, q, Nat.le_refl _⟩, hd σ H p⟩
theorem for_range {lo : Int} {n : Nat} {g : TG} {tb : TS} {D : Ends} {σ : St} {H : Hp} (Pv : Nat → St → Hp → Prop) (h0 : Pv 0 σ H)
    (hs : ∀ i σ H, i < n → Pv i σ H → g (.int (lo + i)) σ H fun σ2 H2 => tb { D with nx := Pv (i + 1), ct := Pv (i + 1), bk := D.nx } σ2 H2) (hd : ∀ σ H, Pv n σ H → D.nx σ H) :
    ∃ W : Nat → Nat → St → Hp → Prop, (∃ m, W 0 m σ H) ∧ ∀ i m σ H, W i m σ H →
      ((Itr lo n).stop i H ∧ D.nx σ H) ∨ ((Itr lo n).go i H ∧ ∃ N : St → Hp → Prop, (∀ σ' H', N σ' H' → ∃ m', m' < m ∧ W (i + 1) m' σ' H') ∧ ∀ x H', (Itr lo n).yld i H x H' → g x σ H' fun σ2 H2 => tb { D with nx := N, ct := N, bk := D.nx } σ2 H2) := by
  refine ⟨fun i m σ H => m = n - i ∧ i ≤ n ∧ Pv i σ H, ⟨n, by simp, Nat.zero_le _, h0⟩, ?_⟩
  rintro i m σ H ⟨rfl, hi, p⟩
  by_cases hlt : i < n
  · refine .inr ⟨hlt, Pv (i + 1), fun σ' H' p' => ⟨n - (i + 1), by omega, rfl, hlt, p'⟩, fun x H' y => ?_⟩
    obtain ⟨e, y⟩ := y
    subst e y
    exact hs i σ _ hlt p
  · have e : i = n := by omega
    subst e
    exact .inl ⟨Nat.le_refl _, hd σ H p⟩
end L2
namespace L2
open PySem PySem.Spec PyProof.Rows
abbrev R2 := V → V → Hp → VK → Prop
/-- a two-place operation on values: f is binaryOp op, inplaceOp op or compareOp op -/
def OpR (X : Cx) (f : Value → Value → Sem Value) (r : R2) : Prop :=
  ∀ (pins : List (Addr × Obj)) (s : Shared) (σ : St) (H : Hp) (x y : V) (v u : Value) (Q : VK), Inv X pins σ H s → RelV x v → RelV y u → r x y H Q →
    wpAny (model X.prog X.w) X.A (f v u) (EP X pins σ Q) X.xe s
/-- a one-place operation -/
def UnR (X : Cx) (f : Value → Sem Value) (r : V → Hp → VK → Prop) : Prop :=
  ∀ (pins : List (Addr × Obj)) (s : Shared) (σ : St) (H : Hp) (x : V) (v : Value) (Q : VK), Inv X pins σ H s → RelV x v → r x H Q →
    wpAny (model X.prog X.w) X.A (f v) (EP X pins σ Q) X.xe s
/-- a call of a value that is known (a builtin, a type) with values -/
def CallR (X : Cx) (f : Value) (r : List V → Hp → VK → Prop) : Prop :=
  ∀ (pins : List (Addr × Obj)) (s : Shared) (σ : St) (H : Hp) (xs : List V) (us : List Value) (Q : VK), Inv X pins σ H s → Vals xs us → r xs H Q →
    wpAny (model X.prog X.w) X.A (call f us) (EP X pins σ Q) X.xe s
def tOp (r : R2) (ta tb : TE) : TE := fun σ H Q => ta σ H fun x H1 => tb σ H1 fun y H2 => r x y H2 Q
def tUn (r : V → Hp → VK → Prop) (ta : TE) : TE := fun σ H Q => ta σ H fun x H1 => r x H1 Q
/-- ints in, under C, and a value out -/
def rI (C : Int → Int → Prop) (g : Int → Int → V) : R2 := fun x y H Q => ∃ i j, x = .int i ∧ y = .int j ∧ C i j ∧ Q (g i j) H
def rI0 (g : Int → Int → V) : R2 := fun x y H Q => ∃ i j, x = .int i ∧ y = .int j ∧ Q (g i j) H
def rU (g : Int → V) : V → Hp → VK → Prop := fun x H Q => ∃ i, x = .int i ∧ Q (g i) H
section
variable {X : Cx} {a b c : Expr} {ta tb tc : TE} {pos : Pos}
theorem binT (ha : PE X a ta) (hb : PE X b tb) {pins : List (Addr × Obj)} {s : Shared} {σ : St} {H : Hp} {R : V → V → Hp → Prop} (I : Inv X pins σ H s)
    (h : ta σ H fun x H1 => tb σ H1 fun y H2 => R x y H2) {Q : Value → Shared → Prop} {f : Value → Value → Sem Value}
    (hf : ∀ v u s2 x y H2, Inv X pins σ H2 s2 → RelV x v → RelV y u → R x y H2 → wpAny (model X.prog X.w) X.A (f v u) Q X.xe s2) :
    wpAny (model X.prog X.w) X.A (eval a X.env) (fun v s₁ => wpAny (model X.prog X.w) X.A (eval b X.env) (fun u s₂ => wpAny (model X.prog X.w) X.A (f v u) Q X.xe s₂) X.xe s₁) X.xe s := by
  refine thn (ha pins s σ H _ I h) fun v s1 ⟨x, H1, I1, r1, q1⟩ => ?_
  refine thn (hb pins s1 σ H1 _ I1 q1) fun u s2 ⟨y, H2, I2, r2, q2⟩ => ?_
  exact hf v u s2 x y H2 I2 r1 r2 q2
theorem pe_op {op : Operator} {r : R2} (ho : OpR X (binaryOp op) r) (ha : PE X a ta) (hb : PE X b tb) : PE X (.BinOp a op b pos) (tOp r ta tb) := by
  intro pins s σ H Q I h
  exact wpAny_BinOp (binT ha hb I h fun v u s2 x y H2 I2 rx ry q => ho pins s2 σ H2 x y v u Q I2 rx ry q)
theorem pe_un {op : UnaryOp} {r : V → Hp → VK → Prop} (ho : UnR X (unaryOp op) r) (ha : PE X a ta) : PE X (.UnaryOp op a pos) (tUn r ta) := by
  intro pins s σ H Q I h
  exact UnaryOp_ (thn (ha pins s σ H _ I h) fun v s1 ⟨x, H1, I1, r1, q1⟩ => ho pins s1 σ H1 x v Q I1 r1 q1)
theorem opI {f : Value → Value → Sem Value} {C : Int → Int → Prop} {g : Int → Int → Int}
    (rule : ∀ (i j : Int) (t u : Tok) (s : Shared) (Q : Value → Shared → Prop) (E : Value → Shared → Prop), C i j → Q (.int (g i j) s.toks) { s with toks := s.toks + 1 } → wpAny (model X.prog X.w) X.A (f (.int i t) (.int j u)) Q E s) :
    OpR X f (rI C fun i j => .int (g i j)) := by
  intro pins s σ H x y v u Q I rx ry h
  obtain ⟨i, j, rfl, rfl, hc, q⟩ := h
  obtain ⟨t, rfl⟩ := rx
  obtain ⟨t', rfl⟩ := ry
  exact rule i j t t' s _ _ hc ⟨.int (g i j), H, I.tok _, ⟨_, rfl⟩, q⟩
theorem opI0 {f : Value → Value → Sem Value} {g : Int → Int → Int}
    (rule : ∀ (i j : Int) (t u : Tok) (s : Shared) (Q : Value → Shared → Prop) (E : Value → Shared → Prop), Q (.int (g i j) s.toks) { s with toks := s.toks + 1 } → wpAny (model X.prog X.w) X.A (f (.int i t) (.int j u)) Q E s) :
    OpR X f (rI0 fun i j => .int (g i j)) := by
  intro pins s σ H x y v u Q I rx ry h
  obtain ⟨i, j, rfl, rfl, q⟩ := h
  obtain ⟨t, rfl⟩ := rx
  obtain ⟨t', rfl⟩ := ry
  exact rule i j t t' s _ _ ⟨.int (g i j), H, I.tok _, ⟨_, rfl⟩, q⟩
theorem opB0 {f : Value → Value → Sem Value} {g : Int → Int → Bool}
    (rule : ∀ (i j : Int) (t u : Tok) (s : Shared) (Q : Value → Shared → Prop) (E : Value → Shared → Prop), Q (.bool (g i j)) s → wpAny (model X.prog X.w) X.A (f (.int i t) (.int j u)) Q E s) :
    OpR X f (rI0 fun i j => .bl (g i j)) := by
  intro pins s σ H x y v u Q I rx ry h
  obtain ⟨i, j, rfl, rfl, q⟩ := h
  obtain ⟨t, rfl⟩ := rx
  obtain ⟨t', rfl⟩ := ry
  exact rule i j t t' s _ _ ⟨.bl (g i j), H, I, rfl, q⟩
def CDiv (i j : Int) : Prop := 0 < j ∧ j < 1073741824
def CMul (i j : Int) : Prop := (-(2 ^ 64) < i ∧ i < 2 ^ 64) ∨ (-(2 ^ 64) < j ∧ j < 2 ^ 64)
theorem CMul.ok {i j : Int} (h : CMul i j) : IntMulOk i j := by
  rcases h with ⟨h1, h2⟩ | ⟨h1, h2⟩
  · exact .of_left (intBits_le_64 h1 h2)
  · exact .of_right (intBits_le_64 h1 h2)
theorem op_add : OpR X (binaryOp .Add) (rI0 fun i j => .int (i + j)) := opI0 fun _ _ _ _ _ _ _ q => add_int q
theorem op_sub : OpR X (binaryOp .Sub) (rI0 fun i j => .int (i - j)) := opI0 fun _ _ _ _ _ _ _ q => sub_int q
theorem op_mul : OpR X (binaryOp .Mult) (rI CMul fun i j => .int (i * j)) := opI fun _ _ _ _ _ _ _ hc q => mul_int q hc.ok
/-- // by a positive divisor -/
theorem op_fdiv : OpR X (binaryOp .FloorDiv) (rI CDiv fun i j => .int (i / j)) := opI fun i j _ _ _ _ _ hc q => by
  have h1 : (0 : Int) < j := hc.1
  have h2 : j < 1073741824 := hc.2
  exact floordiv_int (by omega) (by rw [Int.fdiv_eq_ediv_of_nonneg i (by omega)]; exact q) (.inl (PyProof.noPylong_small (by omega)))
theorem unI {f : Value → Sem Value} {g : Int → Int}
    (rule : ∀ (i : Int) (t : Tok) (s : Shared) (Q : Value → Shared → Prop) (E : Value → Shared → Prop), Q (.int (g i) s.toks) { s with toks := s.toks + 1 } → wpAny (model X.prog X.w) X.A (f (.int i t)) Q E s) :
    UnR X f (rU fun i => .int (g i)) := by
  intro pins s σ H x v Q I rx h
  obtain ⟨i, rfl, q⟩ := h
  obtain ⟨t, rfl⟩ := rx
  exact rule i t s _ _ ⟨.int (g i), H, I.tok _, ⟨_, rfl⟩, q⟩
theorem un_neg : UnR X (unaryOp .USub) (rU fun i => .int (-i)) := unI fun _ _ _ _ _ q => neg_int q
end
/-- the scalars that == tells apart as data does -/
def scal : V → V → Bool
  | .non, .non => true | .non, .int _ => true | .int _, .non => true | .non, .bl _ => true | .bl _, .non => true | .non, .str _ => true | .str _, .non => true
  | .int _, .int _ => true | .bl _, .bl _ => true | .str _, .str _ => true | .byt _, .byt _ => true
  | .int _, .str _ => true | .str _, .int _ => true | .bl _, .str _ => true | .str _, .bl _ => true
  | _, _ => false
def rEq : R2 := fun x y H Q => scal x y = true ∧ Q (.bl (decide (x = y))) H
def rNe : R2 := fun x y H Q => scal x y = true ∧ Q (.bl (!decide (x = y))) H
theorem dec_int {i j : Int} : decide (V.int i = V.int j) = (i == j) := by
  rw [Bool.eq_iff_iff]
  simp
theorem dec_bl {i j : Bool} : decide (V.bl i = V.bl j) = (i == j) := by
  rw [Bool.eq_iff_iff]
  simp
theorem dec_str {i j : Str} : decide (V.str i = V.str j) = (i == j) := by
  rw [Bool.eq_iff_iff]
  simp
theorem dec_byt {i j : Array UInt8} : decide (V.byt i = V.byt j) = (i.toList == j.toList) := by
  rw [Bool.eq_iff_iff]
  cases i
  cases j
  simp
section
variable {X : Cx} {a b c : Expr} {ta tb tc : TE} {pos : Pos}
theorem fin_bl {pins : List (Addr × Obj)} {σ : St} {H : Hp} {s : Shared} {Q : VK} {k k' : Bool} (I : Inv X pins σ H s) (q : Q (.bl k) H) (e : k = k') : EP X pins σ Q (.bool k') s := by
  subst e
  exact ⟨.bl k, H, I, rfl, q⟩
theorem op_eq : OpR X (compareOp .Eq) rEq := by
  intro pins s σ H x y v u Q I rx ry h
  obtain ⟨hs, q⟩ := h
  cases x with
  | non =>
    cases rx
    cases y with
    | non => cases ry; exact PySem.EqNone.eq_none_none (fin_bl I q (by simp))
    | bl j => cases ry; exact PySem.EqNone.eq_none_bool (fin_bl I q (by simp))
    | int j => obtain ⟨t', rfl⟩ := ry; exact PySem.EqNone.eq_none_int (fin_bl I q (by simp))
    | str j => obtain ⟨t', rfl⟩ := ry; exact PySem.EqNone.eq_none_str (fin_bl I q (by simp))
    | _ => exact absurd (show false = true from hs) Bool.false_ne_true
  | bl i =>
    cases rx
    cases y with
    | non => cases ry; exact PySem.EqNone.eq_bool_none (fin_bl I q (by simp))
    | bl j => cases ry; exact eq_bool (fin_bl I q dec_bl)
    | str j => obtain ⟨t', rfl⟩ := ry; exact PySem.EqMixed.eq_bool_str (fin_bl I q (by simp))
    | _ => exact absurd (show false = true from hs) Bool.false_ne_true
  | int i =>
    obtain ⟨t, rfl⟩ := rx
    cases y with
    | non => cases ry; exact PySem.EqNone.eq_int_none (fin_bl I q (by simp))
    | int j => obtain ⟨t', rfl⟩ := ry; exact eq_int (fin_bl I q dec_int)
    | str j => obtain ⟨t', rfl⟩ := ry; exact PySem.EqMixed.eq_int_str (fin_bl I q (by simp))
    | _ => exact absurd (show false = true from hs) Bool.false_ne_true
  | str i =>
    obtain ⟨t, rfl⟩ := rx
    cases y with
    | non => cases ry; exact PySem.EqNone.eq_str_none (fin_bl I q (by simp))
    | bl j => cases ry; exact PySem.EqMixed.eq_str_bool (fin_bl I q (by simp))
    | int j => obtain ⟨t', rfl⟩ := ry; exact PySem.EqMixed.eq_str_int (fin_bl I q (by simp))
    | str j => obtain ⟨t', rfl⟩ := ry; exact eq_str (fin_bl I q dec_str)
    | _ => exact absurd (show false = true from hs) Bool.false_ne_true
  | byt i =>
    obtain ⟨t, rfl⟩ := rx
    cases y with
    | byt j => obtain ⟨t', rfl⟩ := ry; exact PySem.W.eq_bytes (fin_bl I q dec_byt)
    | _ => exact absurd (show false = true from hs) Bool.false_ne_true
  | _ => cases y <;> exact absurd (show false = true from hs) Bool.false_ne_true
theorem op_ne : OpR X (compareOp .NotEq) rNe := by
  intro pins s σ H x y v u Q I rx ry h
  obtain ⟨hs, q⟩ := h
  cases x with
  | non =>
    cases rx
    cases y with
    | non => cases ry; exact PySem.EqNone.ne_none_none (fin_bl I q (by simp))
    | bl j => cases ry; exact PySem.EqNone.ne_none_bool (fin_bl I q (by simp))
    | int j => obtain ⟨t', rfl⟩ := ry; exact PySem.EqNone.ne_none_int (fin_bl I q (by simp))
    | str j => obtain ⟨t', rfl⟩ := ry; exact PySem.EqNone.ne_none_str (fin_bl I q (by simp))
    | _ => exact absurd (show false = true from hs) Bool.false_ne_true
  | bl i =>
    cases rx
    cases y with
    | non => cases ry; exact PySem.EqNone.ne_bool_none (fin_bl I q (by simp))
    | bl j => cases ry; exact ne_bool (fin_bl I q (congrArg not dec_bl))
    | str j => obtain ⟨t', rfl⟩ := ry; exact PySem.EqMixed.ne_bool_str (fin_bl I q (by simp))
    | _ => exact absurd (show false = true from hs) Bool.false_ne_true
  | int i =>
    obtain ⟨t, rfl⟩ := rx
    cases y with
    | non => cases ry; exact PySem.EqNone.ne_int_none (fin_bl I q (by simp))
    | int j => obtain ⟨t', rfl⟩ := ry; exact ne_int (fin_bl I q (congrArg not dec_int))
    | str j => obtain ⟨t', rfl⟩ := ry; exact PySem.EqMixed.ne_int_str (fin_bl I q (by simp))
    | _ => exact absurd (show false = true from hs) Bool.false_ne_true
  | str i =>
    obtain ⟨t, rfl⟩ := rx
    cases y with
    | non => cases ry; exact PySem.EqNone.ne_str_none (fin_bl I q (by simp))
    | bl j => cases ry; exact PySem.EqMixed.ne_str_bool (fin_bl I q (by simp))
    | int j => obtain ⟨t', rfl⟩ := ry; exact PySem.EqMixed.ne_str_int (fin_bl I q (by simp))
    | str j => obtain ⟨t', rfl⟩ := ry; exact ne_str (fin_bl I q (congrArg not dec_str))
    | _ => exact absurd (show false = true from hs) Bool.false_ne_true
  | byt i =>
    obtain ⟨t, rfl⟩ := rx
    cases y with
    | byt j => obtain ⟨t', rfl⟩ := ry; exact PySem.W.ne_bytes (fin_bl I q (congrArg not dec_byt))
    | _ => exact absurd (show false = true from hs) Bool.false_ne_true
  | _ => cases y <;> exact absurd (show false = true from hs) Bool.false_ne_true
theorem op_lt : OpR X (compareOp .Lt) (rI0 fun i j => .bl (decide (i < j))) := opB0 fun _ _ _ _ _ _ _ q => lt_int q
theorem op_gt : OpR X (compareOp .Gt) (rI0 fun i j => .bl (decide (j < i))) := opB0 fun _ _ _ _ _ _ _ q => gt_int q
theorem op_ge : OpR X (compareOp .GtE) (rI0 fun i j => .bl (decide (j ≤ i))) := opB0 fun _ _ _ _ _ _ _ q => ge_int q
theorem nomark (b : Expr) {op : CmpOp} (h : op ≠ .In := by decide) (h2 : op ≠ .NotIn := by decide) : behindInMarks op b = false := by
  have e1 : (op == CmpOp.In) = false := by cases op <;> first | rfl | exact absurd rfl h
  have e2 : (op == CmpOp.NotIn) = false := by cases op <;> first | rfl | exact absurd rfl h2
  cases b <;> simp [behindInMarks, e1, e2]
/-- a comparison as a value; hm: nomark b, or (for in, not in) by with_unfolding_all rfl -/
theorem pe_cmpR {op : CmpOp} {r : R2} (ho : OpR X (compareOp op) r) (ha : PE X a ta) (hb : PE X b tb) (hm : behindInMarks op b = false) : PE X (.Compare a [op] [b] pos) (tOp r ta tb) := by
  intro pins s σ H Q I h
  exact wpAny_Compare1 (binT ha hb I h fun v u s2 x y H2 I2 rx ry q => ho pins s2 σ H2 x y v u Q I2 rx ry q) hm
/-- a reading of a value as a test -/
def tTest (t : TE) : TT := fun σ H Q => t σ H fun x H' => ∃ k, x = .bl k ∧ Q k H'
theorem pt_cmpR {op : CmpOp} {r : R2} (ho : OpR X (compareOp op) r) (ha : PE X a ta) (hb : PE X b tb) (hm : behindInMarks op b = false) : PT X (.Compare a [op] [b] pos) (tTest (tOp r ta tb)) := by
  intro pins s σ H Q I h
  refine wpAny_isTrue_Compare1 (thn (ha pins s σ H _ I h) fun v s1 ⟨x, H1, I1, r1, q1⟩ => thn (hb pins s1 σ H1 _ I1 q1) fun u s2 ⟨y, H2, I2, r2, q2⟩ =>
    thn (ho pins s2 σ H2 x y v u _ I2 r1 r2 q2) fun c s3 ⟨z, H3, I3, r3, k, e, q3⟩ => ?_) hm
  subst e
  cases r3
  exact wpAny_truthy_bool ⟨H3, I3, q3⟩
theorem line63 : (sizeLine : Nat) < 2 ^ 63 := by rw [sizeLine_eq]; decide
theorem op_add_str : OpR X (binaryOp .Add) (fun x y H Q => ∃ i j, x = .str i ∧ y = .str j ∧ i.length + j.length ≤ sizeLine ∧ Q (.str (i ++ j)) H) := by
  intro pins s σ H x y v u Q I rx ry h
  obtain ⟨i, j, rfl, rfl, hz, q⟩ := h
  obtain ⟨t, rfl⟩ := rx
  obtain ⟨t', rfl⟩ := ry
  exact add_str (fun t' tk => ⟨.str (i ++ j), H, I.tok _, ⟨_, rfl⟩, q⟩) hz
theorem vals1 {x : V} {us : List Value} (r : Vals [x] us) : ∃ u, us = [u] ∧ RelV x u := by
  cases r with
  | cons r1 r2 => cases r2; exact ⟨_, rfl, r1⟩
theorem vals2 {x y : V} {us : List Value} (r : Vals [x, y] us) : ∃ u w', us = [u, w'] ∧ RelV x u ∧ RelV y w' := by
  cases r with
  | cons r1 r2 =>
    cases r2 with
    | cons r3 r4 => cases r4; exact ⟨_, _, rfl, r1, r3⟩
theorem call_min2 (hc : X.calm = true) : CallR X (.builtin "min") (fun xs H Q => ∃ i j, xs = [.int i, .int j] ∧ Q (.int (if j < i then j else i)) H) := by
  intro pins s σ H xs us Q I r h
  obtain ⟨i, j, rfl, q⟩ := h
  obtain ⟨u, w', rfl, ⟨t, rfl⟩, ⟨t', rfl⟩⟩ := vals2 r
  refine min_two_ints (I.ok.hd hc) fun h' tk k => ⟨_, H, I.kept k, ?_, q⟩
  by_cases hj : j < i
  · rw [if_pos hj, if_pos hj]; exact ⟨_, rfl⟩
  · rw [if_neg hj, if_neg hj]; exact ⟨_, rfl⟩
theorem call_str_int : CallR X (.type "str") (fun xs H Q => ∃ i, xs = [.int i] ∧ i.natAbs.log2 < 1920 ∧ Q (.str (toString i)) H) := by
  intro pins s σ H xs us Q I r h
  obtain ⟨i, rfl, hz, q⟩ := h
  obtain ⟨u, rfl, t, rfl⟩ := vals1 r
  exact PySem.P.str_of_int hz ⟨.str _, H, I.tok _, ⟨_, rfl⟩, q⟩
end
end L2
namespace L2
open PySem PySem.Spec PyProof.Rows
structure ObjM (h : Heap) (x dx C : Addr) (mA : Str → Option Value) : Prop where
  obj : h.get? x = some (PySem.W.instObj C dx)
  ns : h.Ns1 dx mA
  ne : dx ≠ x
theorem lookIn_ns {h : Heap} {dx : Addr} {mA : Str → Option Value} (n : h.Ns1 dx mA) : ∃ od, h.get? dx = some od ∧ ∀ name, PySem.W.lookIn name od = some (mA name) := by
  obtain ⟨o, es, ep, ho, hd, hk, _, hm⟩ := n
  refine ⟨o, ho, fun name => ?_⟩
  have e := hm name
  unfold nsFind findBy at e
  rw [← Array.find?_toList] at e
  unfold PySem.W.lookIn
  rw [hd]
  dsimp only
  split
  · rename_i y q
    rw [q] at e
    exact congrArg some e
  · rename_i q
    rw [q] at e
    have a : es.toList.any (·.refKey) = false := by
      rw [List.any_eq_false]
      intro y hy
      obtain ⟨z, t, hkey⟩ := hk y (Array.mem_toList_iff.mp hy)
      simp [DictEntry.refKey, hkey]
    have a' : ¬ es.toList.any (·.refKey) = true := by rw [a]; exact Bool.false_ne_true
    rw [if_neg a']
    exact congrArg some e
theorem ObjM.look {h : Heap} {x dx C : Addr} {mA : Str → Option Value} (I : ObjM h x dx C mA) : ∃ od, PySem.W.InstAt h x (PySem.W.instObj C dx) C (some od) ∧ ∀ name, PySem.W.lookIn name od = some (mA name) :=
  let ⟨od, ho, hl⟩ := lookIn_ns I.ns
  ⟨od, ⟨I.obj, rfl, rfl, ho⟩, hl⟩
section
variable {prog : Program} {w : World} {A : Around} {E : Value → Shared → Prop} {s : Shared} {K : PySem.W.Frag} {x dx C f : Addr} {mA : Str → Option Value} {name : Str} {v : Value}
theorem get_map {expr : Bool} {Q : Value → Shared → Prop} (X : K.In s.heap) (I : ObjM s.heap x dx C mA) (hg : PySem.W.plainGet K C name = true) (hh : PySem.W.hasDictIn K C = true)
    (ha : PySem.W.findIn K (.ref C) name = some none) (hv : mA name = some v) (hv' : PySem.W.handedIn v = true) (h : Q v { s with toks := s.toks + 1 }) :
    wpAny (model prog w) A (getAttr (.ref x) name expr) Q E s := by
  obtain ⟨od, J, hl⟩ := I.look
  exact PySem.W.get_value X J (PySem.W.plainGet_of hg).1 (PySem.W.findObj_own hh ha rfl (by rw [hl, hv])) hv' h
theorem get_meth {pl : Sem Bool} {Q : Value × List Value → Shared → Prop} (X : K.In s.heap) (I : ObjM s.heap x dx C mA) (hg : PySem.W.plainGet K C name = true)
    (hf : PySem.W.findIn K (.ref C) name = some (some (.ref f))) (ht : PySem.W.isFn K (.ref f) = true) (hv : mA name = none) (h : Q (.ref f, [.ref x]) s) :
    wpAny (model prog w) A (getMethod (.ref x) name pl) Q E s := by
  obtain ⟨od, J, hl⟩ := I.look
  exact PySem.W.method_fn X J (PySem.W.plainGet_of hg).1 (PySem.W.plainGet_of hg).2 hf (beq_iff_eq.mp ht) (by show (PySem.W.lookIn name od).map (·.isSome) = some false; rw [hl, hv]; rfl) h
theorem set_map {ns : List Str} {Q : Unit → Shared → Prop} (X : K.In s.heap) (I : ObjM s.heap x dx C mA)
    (hs : PySem.W.findIn K (.ref C) "__setattr__" = some (some (.builtin "object.__setattr__"))) (hp : PySem.W.plainOver K C = true) (ht : PySem.W.takerIn K C name = some none) (hh : PySem.W.hasDictIn K C = true)
    (hw : PySem.Within mA ns) (hsz : ns.length ≤ sizeLine)
    (h : ∀ h', ObjM h' x dx C (fun y => if y = name then some v else mA y) → Heap.SameBut dx s.heap h' → Q () { s with heap := h', toks := s.toks + 2 }) :
    wpAny (model prog w) A (setAttr (.ref x) name v) Q E s := by
  obtain ⟨od, J, hl⟩ := I.look
  refine PySem.W.set_plain X J hs (PySem.W.osa_open (s := { s with toks := s.toks + 1 }) (r := none) X J hp ht fun b => ?_)
  obtain ⟨cd, hc, hd'⟩ := PySem.W.any_some hh
  have hx : s.heap.get? x = some ⟨.ref C, some dx, .plain, #[]⟩ := I.obj
  refine wpAny_bind (wpAny_pure (wpAny_bind (wpAny_bind (wpAny_loadPart hx (wpAny_bind (PySem.W.Looks.here (s := { s with toks := s.toks + 1 }) (PySem.W.looks_clsIn X hc) ?_))))))
  rw [hd']
  refine wpAny_pure (a := some dx) (wpAny_bind (wpAny_pure (wpAny_bind ?_)))
  refine wpAny_nsSet1 (s := { s with toks := s.toks + 1 }) I.ns fun h' hn2 hs2 => ?_
  obtain ⟨oD, esD, epD, hoD, hdD, hcD⟩ := hn2.count (PySem.Within.cons name v hw)
  refine wpAny_bind (wpAny_lookBehind hoD (by rw [hdD]; exact pastItsLine_dict (Nat.le_trans hcD (by rw [List.length_cons]; omega))) ?_)
  exact wpAny_pure (h _ ⟨(hs2.2 _ (Ne.symm I.ne)).trans I.obj, hn2, I.ne⟩ hs2)
/-- C(..): the dict at the heap's end, the instance behind it; then its __init__ -/
theorem make_map {R : Result → Shared → Prop} {vs : List Value} {kw : List (Str × Value)} (X : K.In s.heap) (hm : PySem.W.makesIn K C = true)
    (hi : PySem.W.findIn K (.ref C) "__init__" = some (some (.ref f))) (hf : PySem.W.typeIn K (.ref f) = some (.type "function"))
    (h : codeAny (model prog w) (A.under (.builtin "type.__call__" ⟨.ref C :: vs, kw⟩)) (.call (.ref f) ⟨.ref (s.heap.objs.size + 1) :: vs, kw⟩) (PySem.W.InitBack (s.heap.objs.size + 1) R)
      { s with heap := (s.heap.push PySem.W.emptyDict).push (PySem.W.instObj C s.heap.objs.size) }) :
    codeAny (model prog w) A (.call (.ref C) ⟨vs, kw⟩) R s := by
  obtain ⟨hh, g, d, t, os⟩ := s
  exact PySem.W.make_core (PySem.W.makes_of X hm) (PySem.W.looks_findIn X hi) (fun self => PySem.W.bind_fn X self hf) (.inl rfl) h
end
def putF (f : Str) (v : V) : List (Str × V) → List (Str × V)
  | [] => [(f, v)]
  | (g, x) :: r => if g = f then (g, v) :: r else (g, x) :: putF f v r
theorem lookup_putF (f g : Str) (v : V) : ∀ fs : List (Str × V), (putF f v fs).lookup g = if g = f then some v else fs.lookup g
  | [] => by
    show List.lookup g [(f, v)] = _
    by_cases h : g = f
    · have hb : (g == f) = true := beq_iff_eq.mpr h
      simp only [List.lookup, hb, if_pos h]
    · have hb : (g == f) = false := beq_eq_false_iff_ne.mpr h
      simp only [List.lookup, hb, if_neg h]
  | (k, x) :: r => by
    have ih := lookup_putF f g v r
    rw [show putF f v ((k, x) :: r) = (if k = f then (k, v) :: r else (k, x) :: putF f v r) from rfl]
    by_cases hk : k = f
    · rw [if_pos hk]
      by_cases h : g = k
      · have hb : (g == k) = true := beq_iff_eq.mpr h
        simp only [List.lookup, hb, if_pos (h.trans hk)]
      · have hb : (g == k) = false := beq_eq_false_iff_ne.mpr h
        simp only [List.lookup, hb, if_neg (fun e : g = f => h (e.trans hk.symm))]
    · rw [if_neg hk]
      by_cases h : g = k
      · have hb : (g == k) = true := beq_iff_eq.mpr h
        simp only [List.lookup, hb, if_neg (fun e : g = f => hk (h.symm.trans e))]
      · have hb : (g == k) = false := beq_eq_false_iff_ne.mpr h
        simp only [List.lookup, hb]
        exact ih
theorem keys_putF (f : Str) (v : V) : ∀ fs : List (Str × V), f ∈ (putF f v fs).map (·.1) ∧ ∀ g, g ∈ fs.map (·.1) → g ∈ (putF f v fs).map (·.1)
  | [] => ⟨by simp [putF], fun g h => by simp at h⟩
  | (k, x) :: r => by
    obtain ⟨i1, i2⟩ := keys_putF f v r
    rw [show putF f v ((k, x) :: r) = (if k = f then (k, v) :: r else (k, x) :: putF f v r) from rfl]
    by_cases hk : k = f
    · rw [if_pos hk]
      subst hk
      exact ⟨by simp, fun g h => by simpa using h⟩
    · rw [if_neg hk]
      refine ⟨?_, fun g h => ?_⟩
      · rw [List.map_cons]
        exact List.mem_cons_of_mem _ i1
      · rw [List.map_cons] at h ⊢
        rcases List.mem_cons.mp h with e | e
        · exact List.mem_cons.mpr (.inl e)
        · exact List.mem_cons_of_mem _ (i2 g e)
theorem length_putF (f : Str) (v : V) : ∀ fs : List (Str × V), (putF f v fs).length ≤ fs.length + 1
  | [] => by simp [putF]
  | (k, x) :: r => by
    have ih := length_putF f v r
    rw [show putF f v ((k, x) :: r) = (if k = f then (k, v) :: r else (k, x) :: putF f v r) from rfl]
    by_cases hk : k = f
    · rw [if_pos hk, List.length_cons, List.length_cons]; omega
    · rw [if_neg hk, List.length_cons, List.length_cons]; omega
theorem RelO.some_of {v : V} {o : Option Value} (r : RelO (some v) o) : ∃ u, o = some u ∧ RelV v u := by
  cases o with
  | none => exact (show False from r).elim
  | some u => exact ⟨u, rfl, r⟩
theorem RelO.none_of {o : Option Value} (r : RelO none o) : o = none := by
  cases o with
  | none => rfl
  | some u => exact (show False from r).elim
theorem handed_of {v : V} {u : Value} (r : RelV v u) : PySem.W.handedIn u = true := by
  cases v with
  | non => cases (show u = Value.none from r); rfl
  | bl b => cases (show u = Value.bool b from r); rfl
  | int i => obtain ⟨t, e⟩ := (show ∃ t, u = Value.int i t from r); cases e; rfl
  | str x => obtain ⟨t, e⟩ := (show ∃ t, u = Value.str x t from r); cases e; rfl
  | byt b => obtain ⟨t, e⟩ := (show ∃ t, u = Value.bytes b t from r); cases e; rfl
  | flt b => obtain ⟨t, e⟩ := (show ∃ t, u = Value.float b t from r); cases e; rfl
  | ref a => cases (show u = Value.ref a from r); rfl
  | ty n => cases (show u = Value.type n from r); rfl
section
variable {P : Program} {w : World} {H H' : Hp} {h h' : Heap} {a C dx : Addr} {fs fs' : List (Str × V)}
theorem ins_get (hok : HOk P w H h) (e : H a = some (.ins C dx fs)) : ∃ mA, ObjM h a dx C mA ∧ (∀ f, RelO (fs.lookup f) (mA f)) ∧ PySem.Within mA (fs.map (·.1)) ∧ fs.length ≤ 1000 ∧ H dx = some (.own a) := by
  obtain ⟨d, z, ne, ob, mA, n, r, q⟩ := (show ObjOk P w H h a (.ins C dx fs) from hok a _ e)
  exact ⟨mA, ⟨ob, n, ne⟩, r, q, z, d⟩
end
structure Cls (K : PySem.W.Frag) (C : Addr) : Prop where
  pg : PySem.W.plainGet K C Str.empty = true
  hd : PySem.W.hasDictIn K C = true
  po : PySem.W.plainOver K C = true
  sa : PySem.W.findIn K (.ref C) "__setattr__" = some (some (.builtin "object.__setattr__"))
theorem Cls.get {K : PySem.W.Frag} {C : Addr} (c : Cls K C) (f : Str) : PySem.W.plainGet K C f = true := c.pg
/-- no class of it has the name -/
def NoAttr (K : PySem.W.Frag) (C : Addr) (f : Str) : Prop := PySem.W.findIn K (.ref C) f = some none
theorem NoAttr.taker {K : PySem.W.Frag} {C : Addr} {f : Str} (n : NoAttr K C f) : PySem.W.takerIn K C f = some none := by
  unfold PySem.W.takerIn
  rw [show PySem.W.findIn K (.ref C) f = some none from n]
  rfl
/-- a method: a plain def of the class or of one above it -/
structure Meth (K : PySem.W.Frag) (C : Addr) (m : Str) (f : Addr) : Prop where
  at_ : PySem.W.findIn K (.ref C) m = some (some (.ref f))
  fn : PySem.W.isFn K (.ref f) = true
  kp : PySem.W.keepIn K (.ref f) = true
section
variable {X : Cx} {pins : List (Addr × Obj)} {σ : St} {H : Hp} {s : Shared} {a C dx : Addr} {fs : List (Str × V)} {f : Str} {v : V} {A : Around} {E : Value → Shared → Prop}
theorem getattr_ok {b : Bool} {Q : Value → Shared → Prop} (I : Inv X pins σ H s) (e : H a = some (.ins C dx fs)) (c : Cls X.K C) (n : NoAttr X.K C f) (l : fs.lookup f = some v)
    (h : ∀ u s', Inv X pins σ H s' → RelV v u → Q u s') : wpAny (model X.prog X.w) A (getAttr (.ref a) f b) Q E s := by
  obtain ⟨mA, O, r, _, _, _⟩ := ins_get I.hok e
  obtain ⟨u, hu, ru⟩ := RelO.some_of (v := v) (o := mA f) (by rw [← l]; exact r f)
  exact get_map I.kIn O (c.get f) c.hd n hu (handed_of ru) (h u _ (I.tok _) ru)
theorem getmeth_ok {m : Str} {g : Addr} {pl : Sem Bool} {Q : Value × List Value → Shared → Prop} (I : Inv X pins σ H s) (e : H a = some (.ins C dx fs)) (c : Cls X.K C) (k : Meth X.K C m g) (l : fs.lookup m = none)
    (h : Q (.ref g, [.ref a]) s) : wpAny (model X.prog X.w) A (getMethod (.ref a) m pl) Q E s := by
  obtain ⟨mA, O, r, _, _, _⟩ := ins_get I.hok e
  have hn : mA m = none := RelO.none_of (by rw [← l]; exact r m)
  exact get_meth I.kIn O (c.get m) k.at_ k.fn hn h
theorem setattr_ok {y : V} {u : Value} {Q : Unit → Shared → Prop} (I : Inv X pins σ H s) (e : H a = some (.ins C dx fs)) (c : Cls X.K C) (n : NoAttr X.K C f) (hl : fs.length < 1000) (ry : RelV y u)
    (h : ∀ s', Inv X pins σ (upd H a (.ins C dx (putF f y fs))) s' → Q () s') : wpAny (model X.prog X.w) A (setAttr (.ref a) f u) Q E s := by
  obtain ⟨mA, O, r, wi, _, ho⟩ := ins_get I.hok e
  have hz : (fs.map (·.1)).length ≤ sizeLine := by rw [List.length_map, sizeLine_eq]; omega
  refine set_map I.kIn O c.sa c.po n.taker c.hd wi hz fun h' O' sb => h _ ?_
  have hd : ∃ o, h'.get? dx = some o := let ⟨o, _, _, e', _⟩ := O'.ns; ⟨o, e'⟩
  refine I.write (x := a) (e := dx) (by rw [e]; exact True.intro) (.inr ho) (fun b q hb z => (sb.2 b hb).trans z) hd ?_
  refine ⟨by rw [upd_ne O.ne]; exact ho, ?_, O.ne, O'.obj, _, O'.ns, fun g => ?_, fun g hg => ?_⟩
  · have := length_putF f y fs; omega
  · show RelO ((putF f y fs).lookup g) (if g = f then some u else mA g)
    rw [lookup_putF]
    by_cases q : g = f
    · rw [if_pos q, if_pos q]; exact ry
    · rw [if_neg q, if_neg q]; exact r g
  · by_cases q : g = f
    · rw [q]; exact (keys_putF f y fs).1
    · refine (keys_putF f y fs).2 g (wi g fun z => hg ?_)
      show (if g = f then some u else mA g) = none
      rw [if_neg q]; exact z
/-- a new instance, tracked, without attributes -/
theorem Inv.made (I : Inv X pins σ H s) : Inv X pins σ (upd (upd H s.heap.objs.size (.own (s.heap.objs.size + 1))) (s.heap.objs.size + 1) (.ins C s.heap.objs.size []))
    { s with heap := (s.heap.push PySem.W.emptyDict).push (PySem.W.instObj C s.heap.objs.size) } := by
  have e1 : (s.heap.push PySem.W.emptyDict).get? s.heap.objs.size = some PySem.W.emptyDict := Heap.get?_push_size s.heap rfl
  have e2 : ((s.heap.push PySem.W.emptyDict).push (PySem.W.instObj C s.heap.objs.size)).get? (s.heap.objs.size + 1) = some (PySem.W.instObj C s.heap.objs.size) := by
    have := Heap.get?_push_size (s.heap.push PySem.W.emptyDict) (o := PySem.W.instObj C s.heap.objs.size) rfl
    rwa [Heap.size_push] at this
  have e3 : (s.heap.push PySem.W.emptyDict).Ns s.heap.objs.size (fun _ => none) := ⟨PySem.W.emptyDict, #[], _, e1, rfl, (fun e he => absurd he (by simp)), fun _ => rfl⟩
  have I1 := I.laid (a := s.heap.objs.size) (o := .own (s.heap.objs.size + 1)) (h' := s.heap.push PySem.W.emptyDict) (t' := s.toks) (fun b u q => Heap.get?_push_of_some _ q) (Nat.le_refl _) ⟨_, e1⟩
  refine I1.laid (a := s.heap.objs.size + 1) (o := .ins C s.heap.objs.size []) (t' := s.toks) (fun b u q => Heap.get?_push_of_some _ q) (Nat.le_of_eq (Heap.size_push _ _)) ?_
  have ne : s.heap.objs.size ≠ s.heap.objs.size + 1 := Nat.ne_of_lt (Nat.lt_succ_self _)
  refine ⟨by rw [upd_ne ne, upd_same], Nat.zero_le _, ne, e2, fun _ => none, (Heap.Ns1.of_empty e3).at fun o q => Heap.get?_push_of_some _ q, fun _ => True.intro, fun y hy => absurd rfl hy⟩
/-- e.f where nothing but the object is asked: through attributeBase (super) and the last hold -/
theorem attr_of {prog : Program} {w : World} {env : Env} {e : Expr} {f : Str} {pos : Pos} {s : Shared} {Q : Value → Shared → Prop} (hb : attributeBase e f env (eval e env) = eval e env)
    (h : wpAny (model prog w) A (eval e env) (fun o s₁ => wpAny (model prog w) A (getAttr o f true) Q E s₁) E s) : wpAny (model prog w) A (eval (.Attribute e f pos) env) Q E s :=
  Attribute_any_ h (by rw [arm_eval_Attribute, hb])
end
/-- e.f, an attribute of the instance -/
def tFld (K : PySem.W.Frag) (ta : TE) (f : Str) : TE := fun σ H Q => ta σ H fun x H1 => ∃ a C dx fs v, x = .ref a ∧ H1 a = some (.ins C dx fs) ∧ Cls K C ∧ NoAttr K C f ∧ fs.lookup f = some v ∧ Q v H1
/-- e.f = value -/
def sFld (K : PySem.W.Frag) (ta tv : TE) (f : Str) : TS := fun D σ H => tv σ H fun y H1 => ta σ H1 fun x H2 => ∃ a C dx fs, x = .ref a ∧ H2 a = some (.ins C dx fs) ∧ Cls K C ∧ NoAttr K C f ∧ fs.length < 1000 ∧
  D.nx σ (upd H2 a (.ins C dx (putF f y fs)))
section
variable {X : Cx} {o e value : Expr} {f : Str} {pos pos' tpos : Pos} {ta tv : TE}
theorem pe_fld (he : PE X e ta) (hb : attributeBase e f X.env (eval e X.env) = eval e X.env) : PE X (.Attribute e f pos) (tFld X.K ta f) := by
  intro pins s σ H Q I h
  refine attr_of hb (thn (he pins s σ H _ I h) fun u s1 ⟨x, H1, I1, rx, a, C, dx, fs, v, ex, ea, c, n, l, q⟩ => ?_)
  subst ex
  obtain rfl : u = Value.ref a := rx
  exact getattr_ok I1 ea c n l fun u' s2 I2 ru => ⟨v, H1, I2, ru, q⟩
theorem ps_fld (ha : PE X o ta) (hv : PE X value tv) (hs : swapsWith value (some (.Attribute o f pos')) pos.line X.env = pure false) : PS X (.Assign [.Attribute o f pos'] value pos) (sFld X.K ta tv f) := by
  intro pins s σ H D I h
  refine plainObj_wpAny_Assign_Attribute (thn (hv pins s σ H _ I h) fun u s1 ⟨y, H1, I1, ry, q⟩ => thn (ha pins s1 σ H1 _ I1 q) fun ov s2 ⟨x, H2, I2, rx, a, C, dx, fs, ex, ea, c, n, l, q2⟩ => ?_) hs
  subst ex
  obtain rfl : ov = Value.ref a := rx
  exact setattr_ok I2 ea c n l ry fun s3 I3 => ⟨σ, _, I3, q2⟩
/-- what is between an instance and its method: the tree of a method call -/
theorem methcall_of {pl : Sem Bool} {m : Str} {apos : Pos} {args : List Expr} {pins : List (Addr × Obj)} {s : Shared} {σ : St} {H : Hp} {Q : Value → Shared → Prop} {te : TE} (he : PE X e te) (I : Inv X pins σ H s)
    (h : te σ H fun x H1 => ∃ a C dx fs g, x = .ref a ∧ H1 a = some (.ins C dx fs) ∧ Cls X.K C ∧ Meth X.K C m g ∧ fs.lookup m = none ∧
      ∀ s1, Inv X pins σ H1 s1 → wpAny (model X.prog X.w) X.A (callWith pos (.ref g) [.ref a] (backTo pos (starEach args X.env)) (backToKw pos (keywordEach [] X.env))) Q X.xe s1)
    (ht : eval (.Call (.Attribute e m apos) args [] pos) X.env = (do
      let ov ← eval e X.env
      standAt apos.atName
      let (f, first) ← holding [ov] (getMethod ov m pl)
      callWith pos f first (backTo pos (starEach args X.env)) (backToKw pos (keywordEach [] X.env)))) :
    wpAny (model X.prog X.w) X.A (eval (.Call (.Attribute e m apos) args [] pos) X.env) Q X.xe s := by
  refine PySem.W.methodCall_KW (pl := pl) (thn (he pins s σ H _ I h) fun u s1 ⟨x, H1, I1, rx, a, C, dx, fs, g, ex, ea, c, k, l, q⟩ => ?_) ht
  subst ex
  obtain rfl : u = Value.ref a := rx
  exact getmeth_ok I1 ea c k l (q s1 I1)
end
section
variable {X : Cx} {pins : List (Addr × Obj)} {σ : St} {H : Hp} {s : Shared} {A : Around} {E : Value → Shared → Prop} {Q : Value → Shared → Prop} {c : Value} {b : Bool}
end
end L2
namespace L2
open PySem PySem.Spec PyProof.Rows
structure Room (k : Nat) (A : Around) : Prop where
  hd : A.handled = none
  dp : A.depth + 3 * k + 5 < recursionLimit
  un : A.units + 16 * k + 200 < cLine
theorem Room.mono {j k : Nat} {A : Around} (r : Room k A) (h : j ≤ k) : Room j A := ⟨r.hd, by have := r.dp; omega, by have := r.un; omega⟩
theorem Room.deeper {k : Nat} {A : Around} (r : Room (k + 1) A) (env : Env) : Room k (A.deeper env) :=
  ⟨r.hd, by have := r.dp; show A.depth + 1 + 3 * k + 5 < _; omega, by have := r.un; show A.units + 3 + 16 * k + 200 < _; omega⟩
theorem make_depth {A : Around} {C : Addr} {us : List Value} {kw : List (Str × Value)} : (A.under (.builtin "type.__call__" ⟨.ref C :: us, kw⟩)).depth = A.depth + 1 := by
  first | rfl | simp [Around.under, Code.weight, Code.isCreation, Code.isGuard, Code.isCaller, Code.frames, Code.isFrame, guardIds]
theorem make_units {A : Around} {C : Addr} {us : List Value} {kw : List (Str × Value)} : (A.under (.builtin "type.__call__" ⟨.ref C :: us, kw⟩)).units = A.units + 1 := by
  first | rfl | simp [Around.under, Code.cUnits, Code.frames, Code.isFrame]
theorem Room.make {k : Nat} {A : Around} (r : Room (k + 1) A) (C : Addr) (us : List Value) (kw : List (Str × Value)) : Room k (A.under (.builtin "type.__call__" ⟨.ref C :: us, kw⟩)) :=
  ⟨r.hd, by have := r.dp; rw [make_depth]; omega, by have := r.un; rw [make_units]; omega⟩
theorem Room.depth {k : Nat} {A : Around} (r : Room k A) : A.depth < recursionLimit := by have := r.dp; omega
theorem Room.units {k : Nat} {A : Around} (r : Room k A) : A.units + 64 < cLine := by have := r.un; omega
def tNil : TA := fun _ H Q => Q [] H
def tCons (ta : TE) (tr : TA) : TA := fun σ H Q => ta σ H fun x H1 => tr σ H1 fun xs H2 => Q (x :: xs) H2
section
variable {X : Cx} {e : Expr} {es : List Expr} {te : TE} {t : TA} {pos : Pos}
theorem pa_nil : PA X [] tNil := fun _ _ _ _ H Q I h => Calls.spliced_nil ⟨[], H, I, .nil, h⟩
theorem pa_cons (ha : PE X e te) (hr : PA X es t) (hs : starEach (e :: es) X.env = (false, eval e X.env) :: starEach es X.env := by rfl) : PA X (e :: es) (tCons te t) := by
  intro pos pins s σ H Q I h
  rw [hs]
  show wpAny _ _ (spliced ((false, eval e X.env) :: backTo pos (starEach es X.env))) _ _ s
  refine Calls.spliced_cons (thn (ha pins s σ H _ I h) fun u s1 ⟨x, H1, I1, r1, q1⟩ => ?_)
  exact thn (hr pos pins s1 σ H1 _ I1 q1) fun us s2 ⟨xs, H2, I2, r2, q2⟩ => ⟨x :: xs, H2, I2, .cons r1 r2, q2⟩
/-- a tuple, a list of written items -/
def tTup (t : TA) : TE := fun σ H Q => t σ H fun xs H1 => xs.length ≤ sizeLine ∧ ∀ p, H1 p = none → Q (.ref p) (upd H1 p (.tup xs))
def tLst (t : TA) : TE := fun σ H Q => t σ H fun xs H1 => xs.length ≤ sizeLine ∧ ∀ p, H1 p = none → Q (.ref p) (upd H1 p (.lst xs))
theorem pe_tup {x1} (h : PA X es t) : PE X (.Tuple es x1 pos) (tTup t) := by
  intro pins s σ H Q I hq
  refine wpAny_Tuple_spliced (thn (h pos pins s σ H _ I hq) fun us s1 ⟨xs, H1, I1, r, z, q⟩ => ⟨by rw [← r.length]; exact z, ?_⟩)
  have hf : H1 s1.heap.objs.size = none := I1.hok.fresh (Nat.le_refl _)
  refine ⟨.ref s1.heap.objs.size, upd H1 s1.heap.objs.size (.tup xs), I1.laid (t' := s1.toks) (fun b u e => Heap.get?_push_of_some _ e) (Nat.le_refl _) ?_, rfl, q _ hf⟩
  exact ⟨z, us, r, ⟨_, Heap.get?_push_size _ rfl, rfl, _, rfl⟩⟩
theorem pe_lst (h : PA X es t) : PE X (.List es pos) (tLst t) := by
  intro pins s σ H Q I hq
  refine wpAny_List_spliced (thn (h pos pins s σ H _ I hq) fun us s1 ⟨xs, H1, I1, r, z, q⟩ => ⟨by rw [← r.length]; exact z, ?_⟩)
  have hf : H1 s1.heap.objs.size = none := I1.hok.fresh (Nat.le_refl _)
  refine ⟨.ref s1.heap.objs.size, upd H1 s1.heap.objs.size (.lst xs), I1.laid (t' := s1.toks) (fun b u e => Heap.get?_push_of_some _ e) (Nat.le_refl _) ?_, rfl, q _ hf⟩
  exact ⟨z, us, 0, r, Heap.get?_push_size _ rfl⟩
end
/-- a def's promise: the bound arguments in the parameters' order, the heap, the wanted end, the wanted exception -/
abbrev Sp := List V → Hp → VK → XK → Prop
/-- how an exception lies behind a call (file 08 gives it): the callers' frames, abstract heap and state ahead of the call, the wish, the exception, the state -/
abbrev CXT := List Env → Hp → Shared → XK → Value → Shared → Prop
/-- the state at a call -/
structure Env0 (P : Program) (w : World) (K : PySem.W.Frag) (mg : Str → Option Value) (base : Heap) (A : Around) (outer : List Env) (s : Shared) (H : Hp) : Prop where
  frames : A.frames = some outer
  mod : Mod K mg base
  bs : ∀ b o, base.get? b = some o → s.heap.get? b = some o ∧ H b = none
  bsz : base.objs.size ≤ s.heap.objs.size
  funs : s.heap.FunFrames base outer
  frf : ∀ b ∈ frs outer, H b = none
  hok : HOk P w H s.heap
  bare : AllBare s.gens
/-- a call's end -/
def CE (outer : List Env) (P : Program) (w : World) (H : Hp) (s : Shared) (Q : VK) (u : Value) (s' : Shared) : Prop :=
  ∃ v H', s'.os = s.os ∧ AllBare s'.gens ∧ Un (frs outer) [] H H' s.heap s'.heap ∧ HOk P w H' s'.heap ∧ RelV v u ∧ Q v H'
def CR (CX : CXT) (outer : List Env) (P : Program) (w : World) (H : Hp) (s : Shared) (Q : VK) (E : XK) (r : Result) (s' : Shared) : Prop :=
  match r with
  | .ok (.ret u) => CE outer P w H s Q u s'
  | .ok _ => False
  | .error e => CX outer H s E e s'
structure FnOk (P : Program) (w : World) (K : PySem.W.Frag) (mg : Str → Option Value) (base : Heap) (CX : CXT) (k : Nat) (f : Addr) (fd : FuncData) (ps : List Str) (sp : Sp) : Prop where
  len : ∀ vs H Q E, sp vs H Q E → vs.length = ps.length
  run : ∀ (A : Around) (outer : List Env) (s : Shared) (H : Hp) (args : Args) (us : List Value) (vs : List V) (Q : VK) (E : XK), Room k A → Env0 P w K mg base A outer s H → BindsTo s fd args (ps.zip us) → Vals vs us → sp vs H Q E →
    codeAny (model P w) A (.call (.ref f) args) (CR CX outer P w H s Q E) s
theorem FnOk.mono {P : Program} {w : World} {K : PySem.W.Frag} {mg : Str → Option Value} {base : Heap} {CX : CXT} {j k : Nat} {f : Addr} {fd : FuncData} {ps : List Str} {sp : Sp} (F : FnOk P w K mg base CX j f fd ps sp) (h : j ≤ k) :
    FnOk P w K mg base CX k f fd ps sp := ⟨F.len, fun A outer s H args us vs Q E hr => F.run A outer s H args us vs Q E (hr.mono h)⟩
theorem Env0.make {P : Program} {w : World} {K : PySem.W.Frag} {mg : Str → Option Value} {base : Heap} {A : Around} {outer : List Env} {s : Shared} {H : Hp} (e : Env0 P w K mg base A outer s H) (C : Addr) (us : List Value) (kw : List (Str × Value)) :
    Env0 P w K mg base (A.under (.builtin "type.__call__" ⟨.ref C :: us, kw⟩)) outer s H := ⟨by first | exact e.frames | (simpa [Around.under, Code.envs, Code.isFrame, pushEnvs] using e.frames), e.mod, e.bs, e.bsz, e.funs, e.frf, e.hok, e.bare⟩
section
variable {X : Cx} {pins : List (Addr × Obj)} {σ : St} {H : Hp} {s s' : Shared}
/-- from a body: what a callee wants -/
theorem Inv.env0 (I : Inv X pins σ H s) : Env0 X.prog X.w X.K X.mg X.base X.A X.stack s H :=
  ⟨I.ok.frames, I.ok.mod, I.bs, Nat.le_trans I.ok.bsz I.sz, I.stack, I.stkFree, I.hok, I.bare⟩
/-- behind a call -/
theorem Inv.after {Q : VK} {u : Value} (I : Inv X pins σ H s) (h : CE X.stack X.prog X.w H s Q u s') : EP X pins σ Q u s' := by
  obtain ⟨v, H', os, bare, un, hok, r, q⟩ := h
  obtain ⟨hh, g, d, t, os'⟩ := s'
  obtain rfl : os' = s.os := os
  exact ⟨v, H', I.call (h' := hh) (g' := g) (d' := d) (t' := t) (ch := []) un hok bare (fun b z => absurd z (by simp)), r, q⟩
end
/-- f(..): the written arguments, then the defaults dvs; E: what is wanted of an exception -/
def tCall (sp : Sp) (dvs : List V) (E : XK) (t : TA) : TE := fun σ H Q => t σ H fun vs H1 => sp (vs ++ dvs) H1 Q E
/-- o.m(..) of an instance of the class at C -/
def tMeth (C : Addr) (m : Str) (sp : Sp) (dvs : List V) (E : XK) (ta : TE) (t : TA) : TE := fun σ H Q => ta σ H fun x H1 => ∃ a dx fs, x = .ref a ∧ H1 a = some (.ins C dx fs) ∧ fs.lookup m = none ∧
  t σ H1 fun vs H2 => sp (x :: (vs ++ dvs)) H2 Q E
/-- C(..): a new instance and its dict, then __init__ -/
def tMake (C : Addr) (sp : Sp) (dvs : List V) (E : XK) (t : TA) : TE := fun σ H Q => t σ H fun vs H1 => ∀ x dx, H1 x = none → H1 dx = none → dx ≠ x →
  sp (.ref x :: (vs ++ dvs)) (upd (upd H1 dx (.own x)) x (.ins C dx [])) (fun v H2 => v = .non ∧ Q (.ref x) H2) E
/-- how the parameters are bound: us the positional arguments, kw the keywords' values by name, ds the defaults that fill up -/
def Binds (K : PySem.W.Frag) (fd : FuncData) (ps : List Str) (ds : List Value) : Prop :=
  ∀ (s : Shared) (us : List Value), K.In s.heap → (us ++ ds).length = ps.length → BindsTo s fd ⟨us, []⟩ (ps.zip (us ++ ds))
/-- every parameter is given -/
theorem Binds.all {K : PySem.W.Frag} {fd : FuncData} {ps : List Str} (h : ∀ us : List Value, us.length = ps.length → bindArgs fd ⟨us, []⟩ = pure (ps.zip us)) : Binds K fd ps [] := fun s us _ hl => by
  rw [List.append_nil] at hl ⊢
  exact .of_eq (h us hl)
/-- an exception of a callee reaches what this body wants of exceptions -/
def Passes (CX : CXT) (X : Cx) (E : XK) : Prop := ∀ (pins : List (Addr × Obj)) (σ : St) (H : Hp) (s : Shared) (e : Value) (s' : Shared), Inv X pins σ H s → CX X.stack H s E e s' → X.xe e s'
section
variable {X : Cx} {CX : CXT} {k : Nat} {f C : Addr} {fd : FuncData} {ps : List Str} {sp : Sp} {dvs : List V} {ds : List Value} {E : XK} {x m : Str} {p pos apos : Pos} {e o : Expr} {es : List Expr} {ta : TE} {t : TA}
/-- the callee runs -/
theorem run_fn {pins : List (Addr × Obj)} {σ : St} {H : Hp} {s : Shared} {Q : VK} {us : List Value} {vs : List V} (F : FnOk X.prog X.w X.K X.mg X.base CX k f fd ps sp) (hr : Room k X.A) (hb : Binds X.K fd ps ds) (hd : Vals dvs ds) (hx : Passes CX X E)
    (I : Inv X pins σ H s) (r : Vals vs us) (h : sp (vs ++ dvs) H Q E) : wpAny (model X.prog X.w) X.A (call (.ref f) us) (EP X pins σ Q) X.xe s := by
  have r2 : Vals (vs ++ dvs) (us ++ ds) := r.append hd
  have hl : (us ++ ds).length = ps.length := by rw [← r2.length]; exact F.len _ _ _ _ h
  refine wpAny_call (codeAny_mono (F.run X.A X.stack s H ⟨us, []⟩ (us ++ ds) (vs ++ dvs) Q E hr I.env0 (hb s us I.kIn hl) r2 h) fun r s' hq => ?_)
  cases r with
  | error e => exact hx pins σ H s e s' I hq
  | ok fl =>
    cases fl with
    | ret u => exact I.after hq
    | next => exact False.elim hq
    | brk => exact False.elim hq
    | cont => exact False.elim hq
theorem pe_call (F : FnOk X.prog X.w X.K X.mg X.base CX k f fd ps sp) (hr : Room k X.A) (hg : Gl X x) (hm : X.mg x = some (.ref f)) (hk : PySem.W.keepIn X.K (.ref f) = true) (hb : Binds X.K fd ps ds) (hd : Vals dvs ds) (hx : Passes CX X E)
    (ha : PA X (e :: es) t) (hdb : (x == ("__debug__" : Str)) = false := by decide) (he : starEach (e :: es) X.env = (false, eval e X.env) :: starEach es X.env := by rfl) (hpl : (backTo pos (starEach es X.env)).any (·.1) = false := by rfl) :
    PE X (.Call (.Name x p) (e :: es) [] pos) (tCall sp dvs E t) := by
  intro pins s σ H Q I h
  refine wpAny_Call_Name_kw (ld_glob I hg hm ?_ hdb)
  refine PySem.W.callWith_K (h₀ := X.base) I.ok.mod.kin hk (thn (ha pos pins s σ H _ I h) fun us s1 ⟨vs, H1, I1, r, q⟩ => ⟨I1.kIn, ?_⟩) he hpl
  exact run_fn F hr hb hd hx I1 r q
/-- o.m(e, ..) -/
theorem pe_meth {pl : Sem Bool} (he : PE X o ta) (c : Cls X.K C) (hm : Meth X.K C m f) (F : FnOk X.prog X.w X.K X.mg X.base CX k f fd ps sp) (hr : Room k X.A) (hb : Binds X.K fd ps ds) (hd : Vals dvs ds) (hx : Passes CX X E) (ha : PA X (e :: es) t)
    (hst : starEach (e :: es) X.env = (false, eval e X.env) :: starEach es X.env := by rfl) (hpl : (backTo pos (starEach es X.env)).any (·.1) = false := by rfl)
    (ht : eval (.Call (.Attribute o m apos) (e :: es) [] pos) X.env = (do
      let ov ← eval o X.env
      standAt apos.atName
      let (f, first) ← holding [ov] (getMethod ov m pl)
      callWith pos f first (backTo pos (starEach (e :: es) X.env)) (backToKw pos (keywordEach [] X.env))) := by rfl) :
    PE X (.Call (.Attribute o m apos) (e :: es) [] pos) (tMeth C m sp dvs E ta t) := by
  intro pins s σ H Q I h
  refine PySem.W.methodCall_KW (pl := pl) (thn (he pins s σ H _ I h) fun u s1 ⟨x, H1, I1, rx, a, dx, fs, ex, ea, l, q⟩ => ?_) ht
  subst ex
  obtain rfl : u = Value.ref a := rx
  refine getmeth_ok I1 ea c hm l ?_
  refine PySem.W.callWith_K (first := [.ref a]) (h₀ := X.base) I.ok.mod.kin hm.kp (thn (ha pos pins s1 σ H1 _ I1 q) fun us s2 ⟨vs, H2, I2, r, q2⟩ => ⟨I2.kIn, ?_⟩) hst hpl
  exact run_fn (us := .ref a :: us) (vs := .ref a :: vs) F hr hb hd hx I2 (.cons rfl r) q2
/-- what a class must have to be made -/
structure Mk (K : PySem.W.Frag) (C f : Addr) : Prop where
  makes : PySem.W.makesIn K C = true
  init : PySem.W.findIn K (.ref C) "__init__" = some (some (.ref f))
  fn : PySem.W.isFn K (.ref f) = true
  kp : PySem.W.keepIn K (.ref C) = true
theorem run_make {pins : List (Addr × Obj)} {σ : St} {H : Hp} {s : Shared} {Q : VK} {us : List Value} {vs : List V} (M : Mk X.K C f) (F : FnOk X.prog X.w X.K X.mg X.base CX k f fd ps sp) (hr : Room (k + 1) X.A) (hb : Binds X.K fd ps ds) (hd : Vals dvs ds)
    (hx : Passes CX X E) (I : Inv X pins σ H s) (r : Vals vs us)
    (h : ∀ x dx, H x = none → H dx = none → dx ≠ x → sp (.ref x :: (vs ++ dvs)) (upd (upd H dx (.own x)) x (.ins C dx [])) (fun v H2 => v = .non ∧ Q (.ref x) H2) E) :
    wpAny (model X.prog X.w) X.A (call (.ref C) us) (EP X pins σ Q) X.xe s := by
  have hq := h (s.heap.objs.size + 1) s.heap.objs.size (I.hok.fresh (Nat.le_succ _)) (I.hok.fresh (Nat.le_refl _)) (Nat.ne_of_lt (Nat.lt_succ_self _))
  have I2 := Inv.made (C := C) I
  have r2 : Vals (V.ref (s.heap.objs.size + 1) :: (vs ++ dvs)) (Value.ref (s.heap.objs.size + 1) :: (us ++ ds)) := .cons rfl (r.append hd)
  have hl : (Value.ref (s.heap.objs.size + 1) :: us ++ ds).length = ps.length := by
    have e := r2.length
    rw [F.len _ _ _ _ hq] at e
    exact e.symm
  refine wpAny_call (make_map (f := f) I.kIn M.makes M.init (beq_iff_eq.mp M.fn) (codeAny_mono (F.run _ X.stack _ _ ⟨Value.ref (s.heap.objs.size + 1) :: us, []⟩ (Value.ref (s.heap.objs.size + 1) :: (us ++ ds)) _ _ E (hr.make C us [])
    (I2.env0.make C us []) (hb _ (Value.ref (s.heap.objs.size + 1) :: us) I2.kIn hl) r2 hq) fun r s' hq' => ?_))
  cases r with
  | error e => exact hx pins σ _ _ e s' I2 hq'
  | ok fl =>
    cases fl with
    | ret u =>
      obtain ⟨v, H', I3, rv, ev, q3⟩ := I2.after hq'
      subst ev
      exact ⟨rv, ⟨V.ref (s.heap.objs.size + 1), H', I3, rfl, q3⟩⟩
    | next => exact False.elim hq'
    | brk => exact False.elim hq'
    | cont => exact False.elim hq'
theorem pe_make (M : Mk X.K C f) (F : FnOk X.prog X.w X.K X.mg X.base CX k f fd ps sp) (hr : Room (k + 1) X.A) (hg : Gl X x) (hm : X.mg x = some (.ref C)) (hb : Binds X.K fd ps ds) (hd : Vals dvs ds) (hx : Passes CX X E)
    (ha : PA X (e :: es) t) (hdb : (x == ("__debug__" : Str)) = false := by decide) (he : starEach (e :: es) X.env = (false, eval e X.env) :: starEach es X.env := by rfl) (hpl : (backTo pos (starEach es X.env)).any (·.1) = false := by rfl) :
    PE X (.Call (.Name x p) (e :: es) [] pos) (tMake C sp dvs E t) := by
  intro pins s σ H Q I h
  refine wpAny_Call_Name_kw (ld_glob I hg hm ?_ hdb)
  refine PySem.W.callWith_K (h₀ := X.base) I.ok.mod.kin M.kp (thn (ha pos pins s σ H _ I h) fun us s1 ⟨vs, H1, I1, r, q⟩ => ⟨I1.kIn, ?_⟩) he hpl
  exact run_make M F hr hb hd hx I1 r q
end
section
variable {X : Cx} {CX : CXT} {k : Nat} {f C : Addr} {fd : FuncData} {ps ks : List Str} {sp : Sp} {E : XK} {x m : Str} {p pos apos kpos : Pos} {e o : Expr} {es : List Expr} {kws : List Keyword} {te ta : TE} {t tk : TA} {nm : Option Str}
variable {g : List Value → List Value → List Value} {gV : List V → List V → List V}
end
/-- names: the parameters first -/
structure FnScope (N P : List Str) (sc : Scope) : Prop where
  kind : sc.kind = .function
  co : sc.isCoroutine = false
  gen : sc.isGenerator = false
  nd : N.Nodup
  pre : N.take P.length = P
  par : ∀ x ∈ P, sc.names.lookup x = some .local ∨ sc.names.lookup x = some .cell
  nofree : ∀ y ∈ sc.names, y.2 ≠ .free
theorem bindL_out {kindOf : Str → Option NameKind} {x : Str} : ∀ {binds : List (Str × Value)} {m : Str → Option Value}, (∀ v, (x, v) ∉ binds) → bindL kindOf binds m x = m x
  | [], _, _ => rfl
  | (n, v) :: r, m, h => by
    unfold bindL
    rw [bindL_out fun w hw => h w (List.mem_cons_of_mem _ hw)]
    split
    · have : x ≠ n := by rintro rfl; exact h v List.mem_cons_self
      simp [this]
    · rfl
theorem bindC_out {kindOf : Str → Option NameKind} {x : Str} : ∀ {binds : List (Str × Value)} {m : Str → Option Value}, (∀ v, (x, v) ∉ binds) → bindC kindOf binds m x = m x
  | [], _, _ => rfl
  | (n, v) :: r, m, h => by
    unfold bindC
    rw [bindC_out fun w hw => h w (List.mem_cons_of_mem _ hw)]
    split
    · rfl
    · have : x ≠ n := by rintro rfl; exact h v List.mem_cons_self
      simp [this]
theorem bindL_get {kindOf : Str → Option NameKind} {x : Str} {v : Value} : ∀ {P : List Str} {vs : List Value} {i : Nat} {m : Str → Option Value}, P.Nodup → P[i]? = some x → vs[i]? = some v → kindOf x = some .local →
    bindL kindOf (P.zip vs) m x = some v
  | [], _, _, _, _, h, _, _ => by simp at h
  | _ :: _, [], _, _, _, _, h, _ => by simp at h
  | p :: P, w :: vs, 0, m, nd, h1, h2, hk => by
    simp at h1 h2; subst h1; subst h2
    show bindL kindOf ((p, w) :: P.zip vs) m p = _
    unfold bindL
    rw [bindL_out fun v hv => (List.nodup_cons.mp nd).1 (List.of_mem_zip hv).1, if_pos hk]
    simp
  | p :: P, w :: vs, i + 1, m, nd, h1, h2, hk => by
    show bindL kindOf ((p, w) :: P.zip vs) m x = _
    unfold bindL
    exact bindL_get (i := i) (List.nodup_cons.mp nd).2 (by simpa using h1) (by simpa using h2) hk
theorem bindC_get {kindOf : Str → Option NameKind} {x : Str} {v : Value} : ∀ {P : List Str} {vs : List Value} {i : Nat} {m : Str → Option Value}, P.Nodup → P[i]? = some x → vs[i]? = some v → kindOf x ≠ some .local →
    bindC kindOf (P.zip vs) m x = some v
  | [], _, _, _, _, h, _, _ => by simp at h
  | _ :: _, [], _, _, _, _, h, _ => by simp at h
  | p :: P, w :: vs, 0, m, nd, h1, h2, hk => by
    simp at h1 h2; subst h1; subst h2
    show bindC kindOf ((p, w) :: P.zip vs) m p = _
    unfold bindC
    rw [bindC_out fun v hv => (List.nodup_cons.mp nd).1 (List.of_mem_zip hv).1, if_neg hk]
    simp
  | p :: P, w :: vs, i + 1, m, nd, h1, h2, hk => by
    show bindC kindOf ((p, w) :: P.zip vs) m x = _
    unfold bindC
    exact bindC_get (i := i) (List.nodup_cons.mp nd).2 (by simpa using h1) (by simpa using h2) hk
/-- the names' values at the entry -/
def start (N : List Str) (vs : List V) : St := vs.map some ++ List.replicate (N.length - vs.length) none
/-- the context of a def's body, at its entry; an exception leaves the frame, then lies as CX says -/
def cxOf (CX : CXT) (P : Program) (w : World) (K : PySem.W.Frag) (mg : Str → Option Value) (base : Heap) (N : List Str) (qual : Str) (scope : Scope) (f : Addr) (cd : Value) (A : Around) (outer : List Env) (s : Shared) (H : Hp) (E : XK) : Cx where
  prog := P
  w := w
  K := K
  mg := mg
  base := base
  A := A.deeper (envOfC qual scope s.heap.objs.size f cd)
  N := N
  s_0 := s
  H_0 := H
  env := envOfC qual scope s.heap.objs.size f cd
  outer := outer
  stack := envOfC qual scope s.heap.objs.size f cd :: outer
  ex := []
  calm := true
  fn := fun _ => true
  pn := []
  xe := fun e s' => wpAny (model P w) (A.deeper (envOfC qual scope s.heap.objs.size f cd)) (leaving (envOfC qual scope s.heap.objs.size f cd) e) (fun _ s'' => CX outer H s E e s'') (fun e' s'' => CX outer H s E e' s'') s'
theorem cell_has {sc : Scope} {n : Nat} {x : Str} (h : sc.names.lookup x = some .cell) : ∃ c, (cellsFrom n sc.names []).lookup x = some c := by
  have q := PySem.W.cellsFrom_some sc.names n [] (.inl h)
  exact Option.isSome_iff_exists.mp q
theorem inv_start {CX : CXT} {P : Program} {w : World} {K : PySem.W.Frag} {mg : Str → Option Value} {base : Heap} {N ps : List Str} {qual : Str} {scope : Scope} {f : Addr} {cd : Value} {A : Around} {outer : List Env} {s s1 : Shared} {H : Hp} {E : XK} {us : List Value} {vs : List V}
    (S : FnScope N ps scope) (hd : A.handled = none) (e0 : Env0 P w K mg base A outer s H) (hl : vs.length = ps.length) (r : Vals vs us)
    (x : InCallC s s.heap.objs.size (bindL (envOfC qual scope s.heap.objs.size f cd).kindOf (ps.zip us) fun _ => none) (cellsFrom (s.heap.objs.size + 1) scope.names []) (bindC (envOfC qual scope s.heap.objs.size f cd).kindOf (ps.zip us) fun _ => none) s1) :
    Inv (cxOf CX P w K mg base N qual scope f cd A outer s H E) [] (start N vs) H s1 := by
  have hpl : ps.length ≤ N.length := by have := congrArg List.length S.pre; rw [List.length_take] at this; omega
  obtain ⟨h1, tk, rfl, hk⟩ := x.done
  have noA : ∀ b : Addr, b ∉ (cxOf CX P w K mg base N qual scope f cd A outer s H E).ex := fun b z => absurd (show b ∈ ([] : List Addr) from z) (by simp)
  refine ⟨⟨e0.mod, S.kind, rfl, rfl, Nat.le_refl _, fun y z c h1 h2 => ?_, fun y hy => ?_, fun y c _ h => ?_, fun _ => hd, Around.frames_deeper e0.frames, .inr ⟨rfl, rfl⟩, fun b z => absurd z (noA b), e0.bs, e0.bsz, fun b _ _ => noA b, fun b z => absurd z (noA b), e0.funs, e0.frf⟩,
    rfl, e0.bare, Un.kept hk, ⟨_, x.toInCall.ns, fun i y v h1 h2 h3 => ?_⟩, fun y c h => ⟨_, x.cell y c h⟩, e0.hok.fresh (Nat.le_refl _), fun y c h => ?_, fun p hp => absurd (show p ∈ ([] : List (Addr × Obj)) from hp) (by simp), e0.hok.kept hk, ?_⟩
  · exact name_of_addr x.apart (PySem.mem_of_lookup h1) (PySem.mem_of_lookup h2)
  · have hy : scope.names.lookup y = some .cell ∨ scope.names.lookup y = some .free := hy
    rcases hy with hy | hy
    · exact cell_has hy
    · exact absurd rfl (S.nofree _ (PySem.mem_of_lookup hy))
  · exact Nat.le_of_lt (x.above y c (PySem.mem_of_lookup h))
  · have hi : i < vs.length := by
      unfold start at h2
      by_cases hi : i < vs.length
      · exact hi
      · rw [List.getElem?_append_right (by simpa using hi)] at h2
        rw [List.getElem?_replicate] at h2
        split at h2 <;> cases h2
    have ha : vs[i]? = some v := by
      unfold start at h2
      rw [List.getElem?_append_left (by simpa using hi), List.getElem?_map] at h2
      cases e : vs[i]? with
      | none => rw [e] at h2; cases h2
      | some a => rw [e] at h2; cases h2; rfl
    obtain ⟨u, hu, rv⟩ := r.get ha
    have hp : ps[i]? = some y := by
      rw [← S.pre, List.getElem?_take_of_lt (by omega)]; exact h1
    have ndP : ps.Nodup := by rw [← S.pre]; exact S.nd.sublist (List.take_sublist _ _)
    refine ⟨u, rv, ?_⟩
    rcases S.par y (List.mem_of_getElem? hp) with k | k
    · exact .inl ⟨k, bindL_get ndP hp hu k⟩
    · obtain ⟨c, e⟩ := cell_has (n := s.heap.objs.size + 1) k
      refine .inr ⟨.inl k, c, e, ?_⟩
      have q := x.cell y c e
      rw [bindC_get ndP hp hu (by show scope.names.lookup y ≠ _; rw [k]; decide)] at q
      exact q
  · exact e0.hok.fresh (Nat.le_of_lt (x.above y c (PySem.mem_of_lookup h)))
  · unfold start
    show _ = N.length
    rw [List.length_append, List.length_map, List.length_replicate]
    omega
/-- THE RULE: a def (or a method) of the text, by its body. The body's reading t is chosen for each entry; it is run at the parameters' values -/
theorem fn_of {CX : CXT} {P : Program} {w : World} {K : PySem.W.Frag} {mg : Str → Option Value} {base : Heap} {k : Nat} {f : Addr} {name qual : Str} {params : Arguments} {body : List Stmt} {scope : Scope} {dV kV doc pm cdv ct oc : Value} {an od : Option Addr}
    {osl : Array (Option Value)} {N ps : List Str} {sp : Sp} (lk : K.lookup f = some ⟨oc, od, .func (PySem.W.fnOf name qual params body scope dV kV doc pm an cdv ct), osl⟩) (hcd : PySem.W.codeIn K cdv qual = true) (S : FnScope N ps scope)
    (len : ∀ vs H Q E, sp vs H Q E → vs.length = ps.length)
    (hbody : ∀ (A : Around) (outer : List Env) (s : Shared) (H : Hp) (vs : List V) (Q : VK) (E : XK), Room k (A.deeper (envOfC qual scope s.heap.objs.size f cdv)) → sp vs H Q E →
      ∃ t, PSs (cxOf CX P w K mg base N qual scope f cdv A outer s H E) body t ∧ t { nx := fun _ H' => Q .non H', rt := Q } (start N vs) H) :
    FnOk P w K mg base CX (k + 1) f (PySem.W.fnOf name qual params body scope dV kV doc pm an cdv ct) ps sp := by
  refine ⟨len, fun A outer s H args us vs Q E hr e0 hb r hsp => ?_⟩
  have hl := len _ _ _ _ hsp
  have KX : K.In s.heap := e0.mod.kin.keeps fun b o e => (e0.bs b o e).1
  have lim : s.heap.NoLimit := e0.mod.nolimit.keeps fun b o e => (e0.bs b o e).1
  have hkind : ∀ y ∈ ps.zip us, scope.names.lookup y.1 = some .local ∨ (scope.names.lookup y.1 = some .cell ∧ ((cellsFrom (s.heap.objs.size + 1) scope.names []).lookup y.1).isSome = true) := fun ⟨n, v⟩ hy => by
    rcases S.par n (List.of_mem_zip hy).1 with q | q
    · exact .inl q
    · exact .inr ⟨q, PySem.W.cellsFrom_some _ _ _ (.inl q)⟩
  refine codeAny_call_function hr.depth (KX _ _ lk) rfl S.co S.gen rfl (PySem.W.codeRec_of KX hcd) (hb _ _ _ _ ?_)
  refine wpAny_newFunctionEnv_cells S.kind hkind fun env he s1 x => ?_
  subst he
  refine ⟨lim.keeps x.toInCall.keep, codeAny_func ?_⟩
  obtain ⟨t, ht, hq⟩ := hbody A outer s H vs Q E (hr.deeper _) hsp
  have I : Inv (cxOf CX P w K mg base N qual scope f cdv A outer s H E) [] (start N vs) H s1 := inv_start S hr.hd e0 hl r x
  refine wpAny_mono (ht [] s1 (start N vs) H _ I hq) (fun fl s' hs => ?_) fun e s' hs => hs
  have fin : ∀ {σ' : St} {H' : Hp} {v : V} {u : Value}, Inv (cxOf CX P w K mg base N qual scope f cdv A outer s H E) [] σ' H' s' → RelV v u → Q v H' → CE outer P w H s Q u s' :=
    fun {σ' H' v u} J rv q => ⟨v, H', J.os, J.bare, J.base, J.hok, rv, q⟩
  cases fl with
  | ret u =>
    obtain ⟨v, σ', H', J, rv, q⟩ := hs
    exact fin J rv q
  | next =>
    obtain ⟨σ', H', J, q⟩ := hs
    exact fin (v := V.non) (u := Value.none) J rfl q
  | brk =>
    obtain ⟨_, _, _, q⟩ := hs
    exact False.elim q
  | cont =>
    obtain ⟨_, _, _, q⟩ := hs
    exact False.elim q
end L2
namespace L2
open PySem PySem.Spec PyProof.Rows
section
variable {X : Cx} {x : Str} {p pos : Pos} {e : Expr} {es : List Expr} {t : TA} {id T : String} {r : List V → Hp → VK → Prop}
def tCB (r : List V → Hp → VK → Prop) (t : TA) : TE := fun σ H Q => t σ H fun vs H1 => r vs H1 Q
/-- f(e, ..), f a built-in function -/
theorem pe_callB (hc : CallR X (.builtin id) r) (hg : Gl X x) (hm : X.mg x = none) (hv : bootBuiltins x = some (.builtin id)) (ha : PA X (e :: es) t) (hn : x ≠ "__name__" := by decide) (hdb : (x == ("__debug__" : Str)) = false := by decide)
    (he : starEach (e :: es) X.env = (false, eval e X.env) :: starEach es X.env := by rfl) (hpl : (backTo pos (starEach es X.env)).any (·.1) = false := by rfl) : PE X (.Call (.Name x p) (e :: es) [] pos) (tCB r t) := by
  intro pins s σ H Q I h
  refine wpAny_Call_Name_kw (ld_blt I hg hm hv ?_ hn hdb)
  exact PyProof.Rows.callWith_builtin1 (thn (ha pos pins s σ H _ I h) fun us s1 ⟨vs, H1, I1, r1, q1⟩ => hc pins s1 σ H1 vs us Q I1 r1 q1) he hpl
/-- T(e, ..), T a built-in type -/
theorem pe_callTy (hc : CallR X (.type T) r) (hg : Gl X x) (hm : X.mg x = none) (hv : bootBuiltins x = some (.type T)) (ha : PA X (e :: es) t) (hn : x ≠ "__name__" := by decide) (hdb : (x == ("__debug__" : Str)) = false := by decide)
    (he : starEach (e :: es) X.env = (false, eval e X.env) :: starEach es X.env := by rfl) (hpl : (backTo pos (starEach es X.env)).any (·.1) = false := by rfl) : PE X (.Call (.Name x p) (e :: es) [] pos) (tCB r t) := by
  intro pins s σ H Q I h
  refine wpAny_Call_Name_kw (ld_blt I hg hm hv ?_ hn hdb)
  exact PyProof.Rows.callWith_type1 (thn (ha pos pins s σ H _ I h) fun us s1 ⟨vs, H1, I1, r1, q1⟩ => hc pins s1 σ H1 vs us Q I1 r1 q1) he hpl
end
end L2
namespace HT
open PySem PyProof.Rows
section
open PySem.SeqAt
open PySem.AutoSeq1 (wpAny_loadPart')
open PySem.MeetsSeq PySem.MeetsSeq2 PySem.MeetsSeq3
end
section
variable {prog : Program} {w : World} {A : Around} {E : Value → Shared → Prop} {s : Shared}
/-- a slice's bound as a place among n (d where it is left out) -/
def sIx (n d : Nat) : Option Int → Nat
  | none => d
  | some v => if v < 0 then (v + (n : Int)).toNat else min v.toNat n
theorem sIx_none (n d : Nat) : sIx n d none = d := rfl
theorem sIx_nat (n d k : Nat) : sIx n d (some (k : Int)) = min k n := by
  show (if (k : Int) < 0 then ((k : Int) + (n : Int)).toNat else min (k : Int).toNat n) = min k n
  rw [if_neg (by omega), Int.toNat_natCast]
theorem sIx_le (n d : Nat) (hd : d ≤ n) (o : Option Int) : sIx n d o ≤ n := by
  cases o with
  | none => exact hd
  | some v =>
    show (if v < 0 then (v + (n : Int)).toNat else min v.toNat n) ≤ n
    by_cases hv : v < 0
    · rw [if_pos hv]; omega
    · rw [if_neg hv]; exact Nat.min_le_right _ _
end
end HT
namespace L2
open PySem PySem.Spec PyProof.Rows
abbrev TO := St → Hp → (Option Int → Hp → Prop) → Prop
/-- a slice's part (left out, or an int) -/
def PO (X : Cx) (e : Option Expr) (t : TO) : Prop :=
  ∀ (pins : List (Addr × Obj)) (s : Shared) (σ : St) (H : Hp) (Q : Option Int → Hp → Prop), Inv X pins σ H s → t σ H Q →
    wpAny (model X.prog X.w) X.A (evalPart e X.env) (fun u s' => ∃ o H', Inv X pins σ H' s' ∧ IsPart u o ∧ Q o H') X.xe s
def tNoPart : TO := fun _ H Q => Q none H
def tPart (t : TE) : TO := fun σ H Q => t σ H fun x H1 => ∃ i, x = .int i ∧ Q (some i) H1
section
variable {X : Cx} {e : Expr} {te : TE} {lo hi : Option Expr} {tl th : TO} {pos p2 : Pos}
theorem po_none : PO X none tNoPart := by
  intro pins s σ H Q I h
  rw [evalPart_none]
  exact wpAny_pure ⟨none, H, I, .none, h⟩
theorem po_some (h : PE X e te) : PO X (some e) (tPart te) := by
  intro pins s σ H Q I hw
  rw [evalPart_some]
  refine thn (h pins s σ H _ I hw) fun u s1 ⟨x, H1, I1, r1, q1⟩ => ?_
  obtain ⟨i, rfl, q⟩ := q1
  obtain ⟨t, rfl⟩ := r1
  exact ⟨some i, H1, I1, .int i t, q⟩
/-- what a slice of a value is, by values: the slice object stands at sl -/
def SlR (X : Cx) (r : V → Option Int → Option Int → Hp → VK → Prop) : Prop :=
  ∀ (pins : List (Addr × Obj)) (s : Shared) (σ : St) (H : Hp) (x : V) (v vl vu : Value) (lo hi : Option Int) (sl : Addr) (Q : VK), Inv X pins σ H s → RelV x v → s.heap.IsSliceOf sl vl vu .none → IsPart vl lo → IsPart vu hi → r x lo hi H Q →
    ∃ T id, typeLookup (.type T) "__getitem__" = pure (some (.builtin id)) ∧ s.TypeIs v T ∧ wpAny (model X.prog X.w) X.A (getItem v (.ref sl)) (EP X pins σ Q) X.xe s
def tSl (r : V → Option Int → Option Int → Hp → VK → Prop) (te : TE) (tl th : TO) : TE := fun σ H Q => te σ H fun x H1 => tl σ H1 fun l H2 => th σ H2 fun u H3 => r x l u H3 Q
/-- a[lo:hi], any a -/
theorem pe_slice {r : V → Option Int → Option Int → Hp → VK → Prop} (hr : SlR X r) (he : PE X e te) (hl : PO X lo tl) (hu : PO X hi th) : PE X (.Subscript e (.Slice lo hi none p2) pos) (tSl r te tl th) := by
  intro pins s σ H Q I h
  refine Subscript_ (thn (he pins s σ H _ I h) fun v s1 ⟨x, H1, I1, r1, q1⟩ => ?_)
  refine wpAny_Slice (thn (hl pins s1 σ H1 _ I1 q1) fun vl s2 ⟨l, H2, I2, pl, q2⟩ => thn (hu pins s2 σ H2 _ I2 q2) fun vu s3 ⟨u, H3, I3, pu, q3⟩ => ?_)
  rw [evalPart_none]
  refine wpAny_pure ?_
  have I4 : Inv X pins σ H3 { s3 with heap := s3.heap.push { cls := .type "slice", data := .fields #[vl, vu, .none] } } := I3.kept (t' := s3.toks) fun b ob q => Heap.get?_push_of_some _ q
  obtain ⟨T, id, hT, ht, hg⟩ := hr pins { s3 with heap := s3.heap.push { cls := .type "slice", data := .fields #[vl, vu, .none] } } σ H3 x v vl vu l u s3.heap.objs.size Q I4 r1 (Heap.IsSliceOf.new ..) pl pu q3
  show wpAny (model X.prog X.w) X.A (subscriptTail e (.Slice lo hi none p2) v (.ref s3.heap.objs.size)) (EP X pins σ Q) X.xe { s3 with heap := s3.heap.push { cls := .type "slice", data := .fields #[vl, vu, .none] } }
  exact tail_any (ops := [.ref s3.heap.objs.size, v]) ht hT hg (by with_unfolding_all rfl)
/-- the items of xs[lo:hi] -/
def cutV (xs : List V) (lo hi : Option Int) : List V := (xs.drop (HT.sIx xs.length 0 lo)).take (HT.sIx xs.length xs.length hi - HT.sIx xs.length 0 lo)
theorem cutV_length (xs : List V) (lo hi : Option Int) : (cutV xs lo hi).length ≤ xs.length := by
  unfold cutV
  rw [List.length_take, List.length_drop]
  omega
end
end L2
namespace L2
open PySem PySem.Spec PyProof.Rows
/-- the place that an index of any sign means -/
def ixN (n : Nat) (i : Int) : Option Nat := if 0 ≤ i then (if i < n then some i.toNat else none) else if -(n : Int) ≤ i then some (i + n).toNat else none
def atI {α : Type} (xs : List α) (i : Int) : Option α := (ixN xs.length i).bind fun j => xs[j]?
theorem ixN_seq {n : Nat} {i : Int} {j : Nat} (h : ixN n i = some j) : seqIndex? i n = some j ∧ j < n ∧ -(n : Int) ≤ i ∧ i < n := by
  unfold ixN at h
  by_cases h0 : 0 ≤ i
  · rw [if_pos h0] at h
    by_cases h1 : i < n
    · rw [if_pos h1] at h
      have e : i.toNat = j := Option.some.inj h
      exact ⟨by rw [seqIndex_of h0 h1, e], by omega, by omega, h1⟩
    · rw [if_neg h1] at h; cases h
  · rw [if_neg h0] at h
    by_cases h1 : -(n : Int) ≤ i
    · rw [if_pos h1] at h
      have e : (i + n).toNat = j := Option.some.inj h
      exact ⟨by rw [seqIndex_neg (by omega) h1, e], by omega, h1, by omega⟩
    · rw [if_neg h1] at h; cases h
theorem atI_get {α : Type} {xs : List α} {i : Int} {v : α} (h : atI xs i = some v) : ∃ j, seqIndex? i xs.length = some j ∧ xs[j]? = some v ∧ j < xs.length ∧ -(xs.length : Int) ≤ i ∧ i < xs.length := by
  unfold atI at h
  cases e : ixN xs.length i with
  | none => rw [e] at h; cases h
  | some j =>
    rw [e] at h
    obtain ⟨h1, h2, h3, h4⟩ := ixN_seq e
    exact ⟨j, h1, h, h2, h3, h4⟩
theorem atI_nat {α : Type} {xs : List α} {j : Nat} {v : α} (h : xs[j]? = some v) : atI xs (j : Int) = some v := by
  have hj : j < xs.length := (List.getElem?_eq_some_iff.mp h).1
  have e : ixN xs.length (j : Int) = some j := by
    unfold ixN
    rw [if_pos (by omega), if_pos (by omega)]; simp
  unfold atI; rw [e]; exact h
/-- what stands as an index of a plain subscript -/
def PlainIx (b : Expr) : Prop := ∀ o i, subscripted b false o i = operate [o, i] (getItem o i)
/-- a subscript by values -/
def IxR (X : Cx) (r : R2) : Prop :=
  ∀ (value slice : Expr) (pins : List (Addr × Obj)) (s : Shared) (σ : St) (H : Hp) (x y : V) (v u : Value) (Q : VK), Inv X pins σ H s → RelV x v → RelV y u → r x y H Q →
    subscripted slice false v u = operate [v, u] (getItem v u) → wpAny (model X.prog X.w) X.A (subscriptTail value slice v u) (EP X pins σ Q) X.xe s
/-- a call of a builtin's method by values: the receiver, the arguments -/
def MtR (X : Cx) (id : String) (r : V → List V → Hp → VK → Prop) : Prop :=
  ∀ (pins : List (Addr × Obj)) (s : Shared) (σ : St) (H : Hp) (x : V) (xs : List V) (v : Value) (us : List Value) (Q : VK), Inv X pins σ H s → RelV x v → Vals xs us → r x xs H Q →
    wpAny (model X.prog X.w) X.A (call (.builtin id) (v :: us)) (EP X pins σ Q) X.xe s
section
variable {X : Cx} {a b : Expr} {ta tb : TE} {pos : Pos}
/-- a[b] -/
theorem pe_ix {r : R2} (hr : IxR X r) (ha : PE X a ta) (hb : PE X b tb) (hs : PlainIx b) : PE X (.Subscript a b pos) (tOp r ta tb) := by
  intro pins s σ H Q I h
  exact Subscript_ (binT ha hb I h fun v u s2 x y H2 I2 rx ry q => hr a b pins s2 σ H2 x y v u Q I2 rx ry q (hs _ _))
def rIxL (K : PySem.W.Frag) : R2 := fun x y H Q => ∃ p xs i v, x = .ref p ∧ y = .int i ∧ SqL K H p xs ∧ atI xs i = some v ∧ Q v H
def rIxT (K : PySem.W.Frag) : R2 := fun x y H Q => ∃ p xs i v, x = .ref p ∧ y = .int i ∧ SqT K H p xs ∧ atI xs i = some v ∧ Q v H
theorem ix_list : IxR X (rIxL X.K) := by
  intro value slice pins s σ H x y v u Q I rx ry h hs
  obtain ⟨p, xs, i, z, rfl, rfl, hq, he, q⟩ := h
  cases rx
  obtain ⟨t, rfl⟩ := ry
  obtain ⟨its, r, pl, hz⟩ := I.list hq
  obtain ⟨j, h1, h2, h3, h4, h5⟩ := atI_get he
  obtain ⟨w, ew, rw'⟩ := r.get h2
  have hl := r.length
  have hn := line63
  have fin : EP X pins σ Q w s := ⟨z, H, I, rw', q⟩
  by_cases h0 : 0 ≤ i
  · have hj : i.toNat = j := by
      rw [seqIndex_of h0 h5] at h1
      exact Option.some.inj h1
    exact item_listR pl.isList h0 (by omega) (by rw [hj]; simpa using ew) fin hs
  · have hj : (i + (its.toArray.size : Int)).toNat = j := by
      rw [seqIndex_neg (by omega) h4] at h1
      rw [List.size_toArray, ← hl]
      exact Option.some.inj h1
    exact subscriptTail_builtinR (x := w) pl.isList.typeIs slot_list_getitem.lookup
      (wpAny_getItem_list_neg (Q := fun r s' => r = w ∧ EP X pins σ Q r s') pl.isList (by omega) (by rw [List.size_toArray] <;> omega) (by omega) (by rw [hj]; simpa using ew) ⟨rfl, fin⟩) hs
theorem ix_tup : IxR X (rIxT X.K) := by
  intro value slice pins s σ H x y v u Q I rx ry h hs
  obtain ⟨p, xs, i, z, rfl, rfl, hq, he, q⟩ := h
  cases rx
  obtain ⟨t, rfl⟩ := ry
  obtain ⟨its, r, pl, hz⟩ := I.tuple hq
  obtain ⟨j, h1, h2, h3, h4, h5⟩ := atI_get he
  obtain ⟨w, ew, rw'⟩ := r.get h2
  have hl := r.length
  have hn := line63
  have fin : EP X pins σ Q w s := ⟨z, H, I, rw', q⟩
  exact subscriptTail_builtinR (x := w) pl.typeIs slot_tuple_getitem.lookup
    (getItem_tuple (j := j) (Q := fun r s' => r = w ∧ EP X pins σ Q r s') pl (by omega) (by omega) (by rw [List.size_toArray, ← hl]; exact h1) (by simpa using ew) ⟨rfl, fin⟩) hs
theorem slice_bounds (lo hi : Option Int) (n : Nat) : (sliceBounds lo hi none n).1 = ((HT.sIx n 0 lo : Nat) : Int) ∧ (sliceBounds lo hi none n).2.1 = ((HT.sIx n n hi : Nat) : Int) ∧ (sliceBounds lo hi none n).2.2 = 1 := by
  refine ⟨?_, ?_, rfl⟩
  · cases lo with
    | none => simp [sliceBounds, HT.sIx]
    | some i =>
      simp only [sliceBounds, HT.sIx, Option.getD_none, show (1 : Int) > 0 by decide, if_true]
      by_cases h : i < 0
      · simp only [h, if_true] <;> omega
      · simp only [h, if_false] <;> omega
  · cases hi with
    | none => simp [sliceBounds, HT.sIx]
    | some i =>
      simp only [sliceBounds, HT.sIx, Option.getD_none, show (1 : Int) > 0 by decide, if_true]
      by_cases h : i < 0
      · simp only [h, if_true] <;> omega
      · simp only [h, if_false] <;> omega
theorem slicePick_cut (its : List Value) (lo hi : Option Int) : slicePick its.toArray lo hi none = ((its.drop (HT.sIx its.length 0 lo)).take (HT.sIx its.length its.length hi - HT.sIx its.length 0 lo)).toArray := by
  obtain ⟨h1, h2, h3⟩ := slice_bounds lo hi its.toArray.size
  unfold slicePick
  rw [h1, h2, h3]
  simp only [sliceRange_one, pick_run, List.size_toArray] <;> rfl
/-- xs[lo:hi] of a list: a new list -/
def rSlL (K : PySem.W.Frag) : V → Option Int → Option Int → Hp → VK → Prop := fun x lo hi H Q => ∃ a xs, x = .ref a ∧ SqL K H a xs ∧ ∀ p, H p = none → Q (.ref p) (upd H p (.lst (cutV xs lo hi)))
theorem sl_list : SlR X (rSlL X.K) := by
  intro pins s σ H x v vl vu lo hi sl Q I rx hs pl pu h
  obtain ⟨a, xs, rfl, hx, q⟩ := h
  cases rx
  obtain ⟨its, r, ht, hz⟩ := I.list hx
  have hlen := r.length
  refine ⟨"list", _, slot_list_getitem.lookup, ht.isList.typeIs, ?_⟩
  refine wpAny_getItem_list_slice ht.isList hs pl pu .none (by simp) ?_ (by rw [List.size_toArray] <;> omega)
  rw [slicePick_cut, ← hlen]
  refine ⟨.ref s.heap.objs.size, _, I.laid (t' := s.toks) (o := .lst (cutV xs lo hi)) (fun b ob q => Heap.get?_push_of_some _ q) (Nat.le_refl _) ?_, rfl, q _ (I.hok.fresh (Nat.le_refl _))⟩
  exact ⟨Nat.le_trans (cutV_length xs lo hi) hz, _, 0, (r.drop (HT.sIx xs.length 0 lo)).take (HT.sIx xs.length xs.length hi - HT.sIx xs.length 0 lo), Heap.get?_push_size _ rfl⟩
theorem call_len_seq : CallR X (.builtin "len") (fun xs H Q => ∃ p ys, xs = [.ref p] ∧ (SqL X.K H p ys ∨ SqT X.K H p ys) ∧ Q (.int ys.length) H) := by
  intro pins s σ H xs us Q I r h
  obtain ⟨p, ys, rfl, hq, q⟩ := h
  obtain ⟨u, rfl, rx⟩ := vals1 r
  cases rx
  have hn := line63
  rcases hq with hq | hq
  · obtain ⟨its, r', pl, hz⟩ := I.list hq
    have hlen := r'.length
    exact Calls.call_len_list pl.isList (by simp only [List.size_toArray] <;> omega) ⟨.int ys.length, H, I.tok _, ⟨s.toks + 1, by rw [List.size_toArray, hlen]⟩, q⟩
  · obtain ⟨its, r', pl, hz⟩ := I.tuple hq
    have hlen := r'.length
    exact len_tuple pl (by simp only [List.size_toArray] <;> omega) ⟨.int ys.length, H, I.tok _, ⟨s.toks + 1, by rw [List.size_toArray, hlen]⟩, q⟩
theorem call_len_str : CallR X (.builtin "len") (fun xs H Q => ∃ z, xs = [.str z] ∧ z.length ≤ sizeLine ∧ Q (.int z.length) H) := by
  intro pins s σ H xs us Q I r h
  obtain ⟨z, rfl, hz, q⟩ := h
  obtain ⟨u, rfl, t, rfl⟩ := vals1 r
  have hn := line63
  exact len_str (by omega) ⟨.int z.length, H, I.tok _, ⟨_, rfl⟩, q⟩
/-- the value is of that builtin type -/
def tyV (K : PySem.W.Frag) (T : String) (x : V) (H : Hp) : Prop := match x with
  | .str _ => T = "str"
  | .int _ => T = "int"
  | .ref p => (T = "list" ∧ ∃ xs, SqL K H p xs) ∨ (T = "tuple" ∧ ∃ o, K.lookup p = some o ∧ o.cls = .type "tuple" ∧ o.dict = none) ∨
      (T = "dict" ∧ ((∃ kvs, H p = some (.dK kvs)) ∨ ∃ kvs, H p = some (.dT kvs))) ∨ (T = "set" ∧ ∃ S n, H p = some (.set S n))
  | _ => False
theorem tyV_is {pins : List (Addr × Obj)} {σ : St} {H : Hp} {s : Shared} {T : String} {x : V} {v : Value} (I : Inv X pins σ H s) (r : RelV x v) (ty : tyV X.K T x H) :
    s.TypeIs v T ∧ ∀ a, v = .ref a → ∃ ob, s.heap.get? a = some ob ∧ ob.dict = none := by
  cases x with
  | str z =>
    obtain ⟨t, rfl⟩ := r
    cases (show T = "str" from ty)
    exact ⟨typeIs_str s z t, fun _ e => nomatch e⟩
  | int i =>
    obtain ⟨t, rfl⟩ := r
    cases (show T = "int" from ty)
    exact ⟨typeIs_int s i t, fun _ e => nomatch e⟩
  | ref p =>
    cases r
    rcases ty with ⟨rfl, xs, hq⟩ | ⟨rfl, o, hk, hc, hd⟩ | ⟨rfl, hk⟩ | ⟨rfl, S, n, hk⟩
    · obtain ⟨its, _, pl, _⟩ := I.list hq
      refine ⟨pl.isList.typeIs, fun a e => ?_⟩
      cases e
      obtain ⟨o, n, e, c, hd, _⟩ := pl
      exact ⟨o, e, hd⟩
    · refine ⟨⟨o, I.kIn p o hk, hc⟩, fun a e => ?_⟩
      cases e
      exact ⟨o, I.kIn _ o hk, hd⟩
    · have z : ∃ o, s.heap.get? p = some o ∧ o.ExactDict := by
        rcases hk with ⟨kvs, hk⟩ | ⟨kvs, hk⟩
        · obtain ⟨_, _, _, _, o, _, _, e, ex, _⟩ := I.hok p _ hk
          exact ⟨o, e, ex⟩
        · obtain ⟨_, _, _, _, o, _, _, e, ex, _⟩ := I.hok p _ hk
          exact ⟨o, e, ex⟩
      obtain ⟨o, e, ex⟩ := z
      refine ⟨⟨o, e, ex.1⟩, fun a e2 => ?_⟩
      cases e2
      exact ⟨o, e, ex.2.1⟩
    · obtain ⟨o, _, _, _, e, ex, _⟩ := I.hok p _ hk
      refine ⟨⟨o, e, ex.1⟩, fun a e2 => ?_⟩
      cases e2
      exact ⟨o, e, ex.2.1⟩
  | _ => exact False.elim ty
def tBM (K : PySem.W.Frag) (T : String) (r : V → List V → Hp → VK → Prop) (to : TE) (t : TA) : TE := fun σ H Q => to σ H fun x H1 => tyV K T x H1 ∧ t σ H1 fun xs H2 => r x xs H2 Q
variable {o e : Expr} {es : List Expr} {to : TE} {t : TA} {name : Str} {apos cpos : Pos} {T id : String} {r : V → List V → Hp → VK → Prop}
theorem pe_bm (pa : PlainAttrs T) (slot : Slot T name id) (hty : typeOf (.builtin id) = pure (.type "method_descriptor")) (hm : MtR X id r) (ho : PE X o to) (ha : PA X (e :: es) t)
    (hbase : attributeBase o name X.env (eval o X.env) = eval o X.env := by rfl)
    (hfew : ((backTo cpos (starEach (e :: es) X.env)).all (fun x => !x.1) && (backToKw cpos (keywordEach [] X.env)).all (fun x => x.1.isSome)
      && decide ((e :: es).length + ([] : List Keyword).length + (if ([] : List Keyword).isEmpty then 0 else 1) < 30)) = true := by rfl)
    (hline : (apos.endLine == cpos.line) = true := by rfl) (hs : starEach (e :: es) X.env = (false, eval e X.env) :: starEach es X.env := by rfl) (hplain : (backTo cpos (starEach es X.env)).any (·.1) = false := by rfl) :
    PE X (.Call (.Attribute o name apos) (e :: es) [] cpos) (tBM X.K T r to t) := by
  intro pins s σ H Q I h
  refine wpAny_Call_method_late hbase hfew hline rfl (thn (ho pins s σ H _ I h) fun v s1 ⟨x, H1, I1, r1, ty, q1⟩ => ?_)
  obtain ⟨h1, h2⟩ := tyV_is I1 r1 ty
  refine ⟨T, id, pa, slot, hty, h1, h2, ?_⟩
  have hA := ha cpos pins s1 σ H1 _ I1 q1
  rw [hs] at hA ⊢
  refine Calls.callWith_builtin (by show (false || (backTo cpos (starEach es X.env)).any (·.1)) = false; rw [hplain] <;> rfl) (Calls.evalArgs_plain ?_)
  exact thn hA fun us s2 ⟨vs, H2, I2, r2, q2⟩ => hm pins s2 σ H2 x vs v us Q I2 r1 r2 q2
end
end L2
namespace L2
open PySem PySem.Spec PyProof.Rows
def MtM (X : Cx) (id : String) (r : V → List V → Hp → VK → Prop) : Prop :=
  ∀ (pins : List (Addr × Obj)) (s : Shared) (σ : St) (H : Hp) (x : V) (xs : List V) (v : Value) (us : List Value) (Q : VK), Inv X pins σ H s → RelV x v → Vals xs us → r x xs H Q →
    wpAny (model X.prog X.w) X.A (call (.builtin id) (v :: us)) (EP X pins σ Q) X.xe s
theorem Vals.one : ∀ {x : V} {us : List Value}, Vals [x] us → ∃ u, us = [u] ∧ RelV x u
  | _, _, .cons r .nil => ⟨_, rfl, r⟩
theorem Vals.two : ∀ {x y : V} {us : List Value}, Vals [x, y] us → ∃ u v, us = [u, v] ∧ RelV x u ∧ RelV y v
  | _, _, _, .cons r (.cons q .nil) => ⟨_, _, rfl, r, q⟩
section
variable {X : Cx} {pins : List (Addr × Obj)} {σ : St} {H : Hp} {s : Shared} {l b : Addr} {xs ys zs : List V}
theorem Inv.lset {its its' : List Value} {n : Nat} {f : Array Value → Array Value} {t' : Nat} (I : Inv X pins σ H s) (hH : H l = some (.lst xs))
    (e : s.heap.get? l = some { cls := .type "list", data := .seq its.toArray n }) (hf : f its.toArray = its'.toArray) (hv : Vals ys its') (hz : ys.length ≤ sizeLine) :
    Inv X pins σ (upd H l (.lst ys)) { s with heap := s.heap.update l (Obj.mapSeq f), toks := t' } := by
  have q := PySem.IsL.update e f
  rw [hf] at q
  refine I.write (x := l) (e := l) (by rw [hH]; exact trivial) (.inl rfl) (fun b' u hb hu => (Heap.get?_update_other s.heap (Obj.mapSeq f) (Ne.symm hb)).trans hu) ⟨_, q⟩ ?_
  exact ⟨hz, its', _, hv, q⟩
theorem Inv.lstM (I : Inv X pins σ H s) (hH : H l = some (.lst xs)) : xs.length ≤ sizeLine ∧ ∃ (its : List Value) (n : Nat), Vals xs its ∧ xs.length = its.length ∧ s.heap.get? l = some { cls := .type "list", data := .seq its.toArray n } := by
  obtain ⟨z, its, n, r, e⟩ := I.hok l _ hH
  exact ⟨z, its, n, r, r.length, e⟩
end
section
variable {X : Cx}
def rAppend : V → List V → Hp → VK → Prop := fun x vs H Q => ∃ l xs y, x = .ref l ∧ vs = [y] ∧ H l = some (.lst xs) ∧ xs.length < sizeLine ∧ Q .non (upd H l (.lst (xs ++ [y])))
theorem mt_append : MtM X "list.append" rAppend := by
  intro pins s σ H x vs v us Q I rx rv h
  obtain ⟨l, xs, y, rfl, rfl, hH, hz, q⟩ := h
  cases rx
  obtain ⟨u, rfl, ru⟩ := rv.one
  obtain ⟨z, its, n, r, hl, e⟩ := I.lstM hH
  refine call_meets F.slot_list_append ⟨_, e, rfl⟩ F.entry_list_append (F.args_list_append_2 _ _) (PySem.list_append l its.toArray n u (by rw [List.size_toArray]; omega)) ⟨e, ?_⟩
  refine ⟨.non, _, I.lset (its' := its ++ [u]) hH e (by simp) (r.append (.cons ru .nil)) ?_, rfl, q⟩
  rw [List.length_append, List.length_singleton]
  omega
end
section
variable {prog : Program} {w : World} {A : Around} {E : Value → Shared → Prop} {s : Shared}
end
section
variable {X : Cx}
end
end L2
namespace L2
open PySem PySem.Spec PyProof.Rows
theorem Vals.ints : ∀ {ns : List Int} {us : List Value}, Vals (ns.map V.int) us → IntsAre us ns
  | [], us, h => by
    rw [List.map_nil] at h
    cases h
    exact IntsAre.nil
  | n :: ns, us, h => by
    rw [List.map_cons] at h
    cases h with
    | cons r t =>
      obtain ⟨k, rfl⟩ := r
      exact IntsAre.cons n k (Vals.ints t)
theorem vals_of_ints : ∀ {us : List Value} {ns : List Int}, IntsAre us ns → Vals (ns.map V.int) us
  | _, _, .nil => by rw [List.map_nil]; exact Paired.nil
  | _, _, .cons n t h => by rw [List.map_cons]; exact Paired.cons (show RelV (V.int n) (Value.int n t) from ⟨t, rfl⟩) (vals_of_ints h)
theorem Vals.ref1 {a : Addr} {us : List Value} (r : Vals [V.ref a] us) : us = [Value.ref a] := by
  cases r with
  | cons r t =>
    cases t
    cases r
    rfl
section
variable {prog : Program} {w : World} {A : Around} {E : Value → Shared → Prop} {s : Shared} {l : Addr} {its : List Value} {ns : List Int} {Q : Value → Shared → Prop}
theorem max_raw (hh : A.handled = none) (hl : s.heap.IsList l its.toArray) (hi : IntsAre its ns) (hne : 0 < ns.length)
    (h : ∀ h' tk M t', (∀ b o, s.heap.get? b = some o → h'.get? b = some o) → M ∈ ns → (∀ a, a ∈ ns → a ≤ M) → Q (.int M t') { s with heap := h', toks := tk }) : wpAny (model prog w) A (call (.builtin "max") [.ref l]) Q E s := by
  obtain ⟨xs, e⟩ := hi.allInts.items
  have hn : numsOf (intItems xs).toList = ns := by rw [← e]; exact hi.numsOf
  rw [nums_intItems] at hn
  subst hn
  rw [e] at hl
  have hsz : 0 < xs.size := by simpa using hne
  refine PySem.max_intList hh hl hsz fun v h' tk hv hk => ?_
  obtain ⟨t, rfl⟩ := intItems_at hv
  obtain ⟨h1, h2⟩ := argBest_gt (numAt xs) (xs.size - 1)
  refine h h' tk _ t hk ?_ fun a ha => ?_
  · rw [numAt_eq]; exact PySem.getD_mem (by rw [List.length_map, Array.length_toList]; omega)
  · obtain ⟨j, hj, rfl⟩ := mem_getD ha
    rw [List.length_map, Array.length_toList] at hj
    rw [← numAt_eq]; exact h2 j (by omega)
end
section
variable {X : Cx}
/-- max(xs), min(xs) of a list of ints -/
def rMax (K : PySem.W.Frag) : List V → Hp → VK → Prop := fun vs H Q => ∃ (a : Addr) (ns : List Int), vs = [V.ref a] ∧ SqL K H a (ns.map V.int) ∧ 0 < ns.length ∧ ∀ m, m ∈ ns → (∀ y, y ∈ ns → y ≤ m) → Q (.int m) H
theorem cr_max (hc : X.calm = true) : CallR X (.builtin "max") (rMax X.K) := by
  intro pins s σ H vs us Q I r h
  obtain ⟨a, ns, rfl, hs, hne, q⟩ := h
  obtain ⟨its, rv, hl, _⟩ := I.list hs
  rw [Vals.ref1 r]
  exact max_raw (I.ok.hd hc) hl.isList rv.ints hne fun h' tk m t' hk h1 h2 => ⟨.int _, H, I.kept hk, ⟨_, rfl⟩, q m h1 h2⟩
end
section
variable {X : Cx}
end
section
variable {X : Cx}
end
section
variable {X : Cx}
end
section
variable {X : Cx} {pins : List (Addr × Obj)} {σ : St} {H : Hp} {s : Shared}
end
section
variable {X : Cx}
end
end L2
namespace L2
open PySem PySem.Spec PyProof.Rows
abbrev CellAt (h : Heap) (c : Addr) (v : Option Value) : Prop := h.IsCell c v
def relS (scope sc : Scope) : Scope :=
  { scope with names := scope.names.map fun (n, k) => if (k == .free && sc.kind == .function && sc.names.lookup n == some .cell) then (n, .cell) else (n, k) }
def cloFrom (cells : List (Str × Addr)) : List (Str × NameKind) → List (Str × Addr) → List (Str × Addr)
  | [], acc => acc
  | (n, k) :: r, acc => if k == .free then cloFrom cells r ((n, (cells.lookup n).getD 0) :: acc) else cloFrom cells r acc
theorem closure_loop (env : Env) (f : Str × NameKind → List (Str × Addr) → Sem (ForInStep (List (Str × Addr))))
    (hf : ∀ n k c, f (n, k) c = if k == .free then (do let a ← cellOf env n; pure (.yield ((n, a) :: c))) else pure (.yield c)) :
    ∀ (names : List (Str × NameKind)) (acc : List (Str × Addr)), (∀ y ∈ names, y.2 = .free → ∃ c, env.cells.lookup y.1 = some c) → forIn names acc f = pure (cloFrom env.cells names acc)
  | [], acc, _ => by rw [List.forIn_nil]; rfl
  | (n, k) :: r, acc, h => by
    rw [List.forIn_cons, hf]
    have ih := fun acc => closure_loop env f hf r acc fun y hy => h y (List.mem_cons_of_mem _ hy)
    unfold cloFrom
    by_cases hk : (k == NameKind.free) = true
    · rw [if_pos hk, if_pos hk]
      obtain ⟨c, hc⟩ := h (n, k) List.mem_cons_self (by simpa using hk)
      have e : cellOf env n = pure c := by unfold cellOf; rw [hc]
      rw [e]
      have e2 : (env.cells.lookup n).getD 0 = c := by rw [hc]; rfl
      rw [e2]
      exact ih _
    · rw [if_neg hk, if_neg hk]
      exact ih _
theorem closure_ok {scope : Scope} {env : Env} (h : ∀ y ∈ scope.names, y.2 = .free → ∃ c, env.cells.lookup y.1 = some c) : closureFor scope env = pure (cloFrom env.cells scope.names []) := by
  simp only [closureFor]
  rw [closure_loop env _ (fun n k c => rfl) scope.names [] h]
  rfl
theorem mem_lookup {α : Type} : ∀ {l : List (Str × α)} {n : Str} {c : α}, (n, c) ∈ l → ∃ c', l.lookup n = some c'
  | (k, v) :: r, n, c, h => by
    rw [List.lookup_cons]
    cases hb : n == k with
    | true => exact ⟨_, rfl⟩
    | false =>
      rcases List.mem_cons.mp h with e | h
      · cases e; simp at hb
      · exact mem_lookup h
theorem cloFrom_mem {cells : List (Str × Addr)} : ∀ {names : List (Str × NameKind)} {acc : List (Str × Addr)} {n : Str} {c : Addr}, (n, c) ∈ cloFrom cells names acc → (n, c) ∈ acc ∨ ((n, .free) ∈ names ∧ c = (cells.lookup n).getD 0)
  | [], _, _, _, h => .inl h
  | (m, k) :: r, acc, n, c, h => by
    unfold cloFrom at h
    split at h
    · rename_i hk
      have hk : k = .free := by simpa using hk
      rcases cloFrom_mem h with h | ⟨h1, h2⟩
      · rcases List.mem_cons.mp h with e | h
        · cases e; exact .inr ⟨hk ▸ List.mem_cons_self, rfl⟩
        · exact .inl h
      · exact .inr ⟨List.mem_cons_of_mem _ h1, h2⟩
    · rcases cloFrom_mem h with h | ⟨h1, h2⟩
      · exact .inl h
      · exact .inr ⟨List.mem_cons_of_mem _ h1, h2⟩
theorem cloFrom_acc {cells : List (Str × Addr)} : ∀ {names : List (Str × NameKind)} {acc : List (Str × Addr)} {p : Str × Addr}, p ∈ acc → p ∈ cloFrom cells names acc
  | [], _, _, h => h
  | (m, k) :: r, acc, p, h => by
    unfold cloFrom
    split
    · exact cloFrom_acc (List.mem_cons_of_mem _ h)
    · exact cloFrom_acc h
theorem cloFrom_has {cells : List (Str × Addr)} : ∀ {names : List (Str × NameKind)} {acc : List (Str × Addr)} {n : Str}, (n, .free) ∈ names → (n, (cells.lookup n).getD 0) ∈ cloFrom cells names acc
  | (m, k) :: r, acc, n, h => by
    unfold cloFrom
    rcases List.mem_cons.mp h with e | h
    · cases e
      exact cloFrom_acc List.mem_cons_self
    · split
      · exact cloFrom_has h
      · exact cloFrom_has h
theorem cells_mem : ∀ {names : List (Str × NameKind)} {h : Heap} {acc : List (Str × Addr)} {x : Str} {c : Addr}, (x, c) ∈ cellsFrom h.objs.size names acc →
    (x, c) ∈ acc ∨ ((x, .cell) ∈ names ∧ h.objs.size ≤ c ∧ CellAt (pushCells h names) c none)
  | [], _, _, _, _, h => .inl h
  | (n, k) :: r, h, acc, x, c, hm => by
    unfold cellsFrom at hm
    unfold pushCells
    split at hm
    · rename_i hk
      rw [if_pos hk]
      have hk : k = .cell := by simpa using hk
      rw [← Heap.size_push h { cls := .type "cell", data := .cell none }] at hm
      rcases cells_mem hm with hm | ⟨h1, h2, h3⟩
      · rcases List.mem_cons.mp hm with e | hm
        · cases e
          exact .inr ⟨hk ▸ List.mem_cons_self, Nat.le_refl _, _, pushCells_keeps r _ _ _ (Heap.get?_push_size _ rfl), rfl⟩
        · exact .inl hm
      · rw [Heap.size_push] at h2
        exact .inr ⟨List.mem_cons_of_mem _ h1, Nat.le_of_succ_le h2, h3⟩
    · rename_i hk
      rw [if_neg hk]
      rcases cells_mem hm with hm | ⟨h1, h2, h3⟩
      · exact .inl hm
      · exact .inr ⟨List.mem_cons_of_mem _ h1, h2, h3⟩
theorem cells_acc : ∀ {names : List (Str × NameKind)} {n : Nat} {acc : List (Str × Addr)} {p : Str × Addr}, p ∈ acc → p ∈ cellsFrom n names acc
  | [], _, _, _, h => h
  | (m, k) :: r, n, acc, p, h => by
    unfold cellsFrom
    split
    · exact cells_acc (List.mem_cons_of_mem _ h)
    · exact cells_acc h
theorem cells_has : ∀ {names : List (Str × NameKind)} {n : Nat} {acc : List (Str × Addr)} {x : Str}, (x, .cell) ∈ names → ∃ c, (x, c) ∈ cellsFrom n names acc
  | (m, k) :: r, n, acc, x, h => by
    unfold cellsFrom
    rcases List.mem_cons.mp h with e | h
    · cases e
      exact ⟨n, cells_acc List.mem_cons_self⟩
    · split
      · exact cells_has h
      · exact cells_has h
theorem cells_inj : ∀ {names : List (Str × NameKind)} {h : Heap} {acc : List (Str × Addr)} {x y : Str} {c : Addr}, (∀ p ∈ acc, p.2 < h.objs.size) → (∀ x y c, (x, c) ∈ acc → (y, c) ∈ acc → x = y) →
    (x, c) ∈ cellsFrom h.objs.size names acc → (y, c) ∈ cellsFrom h.objs.size names acc → x = y
  | [], _, _, _, _, _, _, hi, h1, h2 => hi _ _ _ h1 h2
  | (n, k) :: r, h, acc, x, y, c, hl, hi, h1, h2 => by
    unfold cellsFrom at h1 h2
    split at h1
    · rename_i hk
      rw [if_pos hk] at h2
      rw [← Heap.size_push h { cls := .type "cell", data := .cell none }] at h1 h2
      refine cells_inj (h := h.push _) (fun p hp => ?_) (fun x y c a b => ?_) h1 h2
      · rw [Heap.size_push]
        rcases List.mem_cons.mp hp with rfl | hp
        · exact Nat.lt_succ_self _
        · exact Nat.lt_succ_of_lt (hl p hp)
      · rcases List.mem_cons.mp a with e | a <;> rcases List.mem_cons.mp b with e' | b
        · cases e; cases e'; rfl
        · cases e; exact absurd (hl _ b) (Nat.lt_irrefl _)
        · cases e'; exact absurd (hl _ a) (Nat.lt_irrefl _)
        · exact hi _ _ _ a b
    · rename_i hk
      rw [if_neg hk] at h2
      exact cells_inj hl hi h1 h2
theorem newEnv_comp {M : Model} {A : Around} {E : Value → Shared → Prop} {s : Shared} {scope : Scope} {globals : Addr} {closure : List (Str × Addr)} {qual : Str} {func : Option Addr} {code : Value} {around : Env} {builtins : Addr} {Q : Env → Shared → Prop}
    (h : Q (newEnv scope s.heap.objs.size globals (cellsFrom (s.heap.objs.size + 1) scope.names closure) qual func code (some around) builtins)
      { s with heap := pushCells (s.heap.push { cls := .type "dict", data := .dict #[] }) scope.names }) :
    wpAny M A (newFunctionEnv scope globals closure [] qual func code (some around) builtins) Q E s := by
  simp only [newFunctionEnv, Option.isSome_some, if_true]
  refine wpAny_bind (wpAny_alloc ?_)
  refine wpAny_bind (wpAny_layCells _ (fun n k c => rfl) scope.names closure _ _ ?_)
  rw [show ({ s with heap := s.heap.push { cls := .type "dict", data := .dict #[] } } : Shared).heap.objs.size = s.heap.objs.size + 1 from Heap.size_push ..]
  rw [List.forIn_nil]
  exact wpAny_bind (wpAny_pure (wpAny_pure h))
/-- every name of the written scope, in the scope that runs -/
theorem lookup_relS {sc : Scope} : ∀ {names : List (Str × NameKind)} {x : Str} {k : NameKind},
    (names.map fun (n, k) => if (k == NameKind.free && sc.kind == .function && sc.names.lookup n == some .cell) then (n, NameKind.cell) else (n, k)).lookup x = some k →
    ∃ k', names.lookup x = some k' ∧ (k = k' ∨ (k' = .free ∧ k = .cell))
  | [], _, _, h => by simp at h
  | (n, k₀) :: r, x, k, h => by
    have ih := @lookup_relS sc r x k
    have h' : List.lookup x ((if (k₀ == NameKind.free && sc.kind == .function && sc.names.lookup n == some .cell) = true then (n, NameKind.cell) else (n, k₀)) :: (r.map _)) = some k := h
    cases hx : x == n with
    | true =>
      simp only [List.lookup_cons, hx]
      by_cases hc : (k₀ == NameKind.free && sc.kind == .function && sc.names.lookup n == some .cell) = true
      · rw [if_pos hc] at h'
        simp only [List.lookup_cons, hx] at h'
        cases h'
        simp only [Bool.and_eq_true, beq_iff_eq] at hc
        exact ⟨k₀, rfl, .inr ⟨hc.1.1, rfl⟩⟩
      · rw [if_neg hc] at h'
        simp only [List.lookup_cons, hx] at h'
        cases h'
        exact ⟨_, rfl, .inl rfl⟩
    | false =>
      simp only [List.lookup_cons, hx]
      by_cases hc : (k₀ == NameKind.free && sc.kind == .function && sc.names.lookup n == some .cell) = true
      · rw [if_pos hc] at h'
        simp only [List.lookup_cons, hx] at h'
        exact ih h'
      · rw [if_neg hc] at h'
        simp only [List.lookup_cons, hx] at h'
        exact ih h'
/-- the names of a comprehension's block: its own (with their places in N), or captured -/
structure BlkOk (N : List Str) (sc scope : Scope) (own : List (Str × Nat)) : Prop where
  kind : scope.kind = .function
  uniq : ∀ y ∈ scope.names, scope.names.lookup y.1 = some y.2
  ix : ∀ p ∈ own, N[p.2]? = some p.1
  free : ∀ y ∈ scope.names, y.2 = .free → sc.names.lookup y.1 = some .cell ∨ sc.names.lookup y.1 = some .free
  own : ∀ y ∈ scope.names, y.2 = .local ∨ y.2 = .cell → y.1 ∈ own.map (·.1) ∨ y.1 ∉ N
/-- the slots of the block's own names forgotten -/
def wipe (σ : St) : List Nat → St
  | [] => σ
  | v :: vs => (wipe σ vs).set v none
theorem wipe_length (σ : St) : ∀ vs : List Nat, (wipe σ vs).length = σ.length
  | [] => rfl
  | v :: vs => by unfold wipe; rw [List.length_set, wipe_length σ vs]
theorem wipe_some {σ : St} {i : Nat} {x : V} : ∀ {vs : List Nat}, (wipe σ vs)[i]? = some (some x) → σ[i]? = some (some x) ∧ i ∉ vs
  | [], h => ⟨h, by simp⟩
  | v :: vs, h => by
    unfold wipe at h
    by_cases hi : v = i
    · subst hi
      by_cases hv : v < (wipe σ vs).length
      · rw [List.getElem?_set_self hv] at h; cases h
      · rw [List.getElem?_eq_none (by simpa using hv)] at h; cases h
    · rw [List.getElem?_set_ne hi] at h
      obtain ⟨h1, h2⟩ := wipe_some h
      exact ⟨h1, by simp only [List.mem_cons, not_or]; exact ⟨fun e => hi e.symm, h2⟩⟩
/-- the context of a block that starts at s, its iterator's objects at fp -/
abbrev Cx.blk (X : Cx) (s : Shared) (H : Hp) (scope : Scope) (cenv : Env) (fp : List Addr) : Cx := { X with s_0 := s, H_0 := H, env := cenv, outer := X.stack, ex := fp, fn := fun x => scope.names.lookup x == some .cell, pn := [], xe := fun _ _ => False }
section
variable {X : Cx} {pins : List (Addr × Obj)} {σ : St} {H : Hp} {s : Shared}
theorem block_start {scope : Scope} {own : List (Str × Nat)} {fp : List Addr} (I : Inv X pins σ H s) (ok : BlkOk X.N X.env.scope scope own) (hN : X.N.Nodup) (hfp : ∀ b ∈ fp, FpOk X pins H b ∧ b < s.heap.objs.size) :
    Inv (X.blk s H scope (compEnvC scope (cellsFrom (s.heap.objs.size + 1) scope.names (cloFrom X.env.cells scope.names [])) s.heap.objs.size X.env) fp) [] (wipe σ (own.map (·.2))) H { s with heap := pushCells (s.heap.push { cls := .type "dict", data := .dict #[] }) scope.names } := by
  have hfree : ∀ y ∈ scope.names, y.2 = .free → ∃ c, X.env.cells.lookup y.1 = some c := fun y hy e => by
    rcases ok.free y hy e with k | k
    · exact I.ok.has _ (.inl k)
    · exact I.ok.has _ (.inr k)
  generalize hcenv : compEnvC scope (cellsFrom (s.heap.objs.size + 1) scope.names (cloFrom X.env.cells scope.names [])) s.heap.objs.size X.env = cenv
  have kp : ∀ b o, s.heap.get? b = some o → (pushCells (s.heap.push { cls := .type "dict", data := .dict #[] }) scope.names).get? b = some o := fun b o e => pushCells_keeps _ _ _ _ (Heap.get?_push_of_some _ e)
  have hL : cenv.locals = s.heap.objs.size := by rw [← hcenv]; rfl
  have hcl : cenv.cells = cellsFrom (s.heap.objs.size + 1) scope.names (cloFrom X.env.cells scope.names []) := by rw [← hcenv]; rfl
  have hsc : cenv.scope = relS scope X.env.scope := by rw [← hcenv]; rfl
  rw [← Heap.size_push s.heap { cls := .type "dict", data := .dict #[] }] at hcl
  have cm : ∀ {y c}, (y, c) ∈ cloFrom X.env.cells scope.names [] → X.env.cells.lookup y = some c ∧ c < s.heap.objs.size := fun {y c} hm => by
    rcases cloFrom_mem hm with hm | ⟨h1, rfl⟩
    · cases hm
    · obtain ⟨c, hc⟩ := hfree _ h1 rfl
      rw [hc]
      obtain ⟨w, z⟩ := I.cell _ _ hc
      exact ⟨rfl, z.lt⟩
  have mem : ∀ {y c}, cenv.cells.lookup y = some c → (X.env.cells.lookup y = some c ∧ c < s.heap.objs.size) ∨ (s.heap.objs.size + 1 ≤ c ∧ CellAt (pushCells (s.heap.push { cls := .type "dict", data := .dict #[] }) scope.names) c none) := fun {y c} e => by
    rw [hcl] at e
    rcases cells_mem (PySem.mem_of_lookup e) with hm | ⟨_, h2, h3⟩
    · exact .inl (cm hm)
    · rw [Heap.size_push] at h2; exact .inr ⟨h2, h3⟩
  have look : ∀ {y}, scope.names.lookup y = some .free → ∃ c, cenv.cells.lookup y = some c ∧ X.env.cells.lookup y = some c := fun {y} hl => by
    have hy : (y, NameKind.free) ∈ scope.names := PySem.mem_of_lookup hl
    obtain ⟨c', e'⟩ := mem_lookup (cells_acc (names := scope.names) (n := (s.heap.push { cls := .type "dict", data := .dict #[] }).objs.size) (cloFrom_has (cells := X.env.cells) (acc := []) hy))
    rw [← hcl] at e'
    refine ⟨c', e', ?_⟩
    rw [hcl] at e'
    rcases cells_mem (PySem.mem_of_lookup e') with hm | ⟨h1, _, _⟩
    · exact (cm hm).1
    · have := ok.uniq _ h1
      rw [hl] at this; cases this
  have okB : (X.blk s H scope cenv fp).Ok := by
    refine ⟨I.ok.mod, by show cenv.scope.kind = _; rw [hsc]; exact ok.kind, by show cenv.globals = _; rw [← hcenv]; exact I.ok.glob, by show cenv.builtins = _; rw [← hcenv]; exact I.ok.blt, by show s.heap.objs.size ≤ cenv.locals; rw [hL]; exact Nat.le_refl _,
      fun y z c e1 e2 => ?_, fun y hy => ?_, fun y c z e => ?_, I.ok.hd, I.ok.frames, .inl rfl, fun b hb => ⟨?_, fun y c e z => ?_⟩, I.bs, Nat.le_trans I.ok.bsz I.sz, fun b o e hb => ?_, fun b hb z => ?_, I.stack, I.stkFree⟩
    · have e1 : cenv.cells.lookup y = some c := e1
      have e2 : cenv.cells.lookup z = some c := e2
      rw [hcl] at e1 e2
      refine cells_inj (fun p hp => ?_) (fun y z c a b => I.ok.inj y z c (cm a).1 (cm b).1) (PySem.mem_of_lookup e1) (PySem.mem_of_lookup e2)
      rw [Heap.size_push]
      exact Nat.lt_succ_of_lt (cm (y := p.1) (c := p.2) hp).2
    · show ∃ c, cenv.cells.lookup y = some c
      have key : ∀ k, cenv.kindOf y = some k → (k = .cell ∨ k = .free) → ∃ c, cenv.cells.lookup y = some c := fun k hk hk' => by
        unfold Env.kindOf at hk
        rw [hsc] at hk
        obtain ⟨k', e, r⟩ := lookup_relS hk
        have : k' = .cell ∨ k' = .free := by
          rcases r with rfl | ⟨rfl, _⟩
          · exact hk'
          · exact .inr rfl
        rcases this with rfl | rfl
        · obtain ⟨c, hm⟩ := cells_has (n := (s.heap.push { cls := .type "dict", data := .dict #[] }).objs.size) (acc := cloFrom X.env.cells scope.names []) (PySem.mem_of_lookup e)
          obtain ⟨c', e'⟩ := mem_lookup hm
          exact ⟨c', by rw [hcl]; exact e'⟩
        · obtain ⟨c, h1, _⟩ := look e
          exact ⟨c, h1⟩
      rcases hy with hy | hy
      · exact key _ hy (.inl rfl)
      · exact key _ hy (.inr rfl)
    · have z : (scope.names.lookup y == some NameKind.cell) = true := z
      have z : scope.names.lookup y = some .cell := by simpa using z
      have e : cenv.cells.lookup y = some c := e
      rw [hcl] at e
      rcases cells_mem (PySem.mem_of_lookup e) with hm | ⟨_, h2, _⟩
      · rcases cloFrom_mem hm with hm | ⟨h1, _⟩
        · cases hm
        · have q := ok.uniq _ h1
          rw [z] at q; cases q
      · rw [Heap.size_push] at h2
        exact Nat.le_of_succ_le h2
    · show b ≠ cenv.locals
      rw [hL]; exact Nat.ne_of_lt (hfp b hb).2
    · have e : cenv.cells.lookup y = some c := e
      rcases mem e with ⟨h1, _⟩ | ⟨h1, _⟩
      · exact (hfp b hb).1.2.2.2.2.1 y c h1 z
      · have h2 : s.heap.objs.size + 1 ≤ b := by rw [← z]; exact h1
        exact absurd (Nat.lt_of_lt_of_le (hfp b hb).2 (Nat.le_of_succ_le h2)) (Nat.lt_irrefl _)
    · rcases (hfp b hb).1.2.2.2.1 with z | z
      · exact I.ok.noex b o e z
      · exact absurd (Nat.lt_of_lt_of_le (Heap.lt_size e) (Nat.le_trans I.ok.bsz z)) (Nat.lt_irrefl _)
    · rcases List.mem_cons.mp (I.stkSub b z) with z | z
      · exact (hfp b hb).1.2.1 z
      · exact (hfp b hb).1.2.2.1 z
  refine ⟨okB, rfl, I.bare, Un.kept kp, ⟨fun _ => none, ?_, fun i y av e1 e2 e3 => ?_⟩, fun y c e => ?_, ?_, fun y c e => ?_, fun p hp => ?_, I.hok.kept kp, by rw [wipe_length]; exact I.len⟩
  · show Heap.Ns _ cenv.locals _
    rw [hL]
    exact Heap.Ns.keeps (Heap.Ns.new ..) fun b o e => pushCells_keeps _ _ _ _ e
  · obtain ⟨e2, hne⟩ := wipe_some e2
    have hfr : scope.names.lookup y = some .free ∧ (cenv.kindOf y = some .cell ∨ cenv.kindOf y = some .free) := by
      have key : ∀ k, cenv.scope.names.lookup y = some k → k = .local ∨ k = .cell ∨ k = .free → scope.names.lookup y = some .free ∧ (cenv.kindOf y = some .cell ∨ cenv.kindOf y = some .free) := fun k hk hk' => by
        have hk0 := hk
        rw [hsc] at hk
        obtain ⟨k', e, r⟩ := lookup_relS hk
        have no : ¬ (k' = .local ∨ k' = .cell) := fun hh => by
          rcases ok.own _ (PySem.mem_of_lookup e) hh with e' | e'
          · obtain ⟨p, hp, hpy⟩ := List.mem_map.mp e'
            have e3 := ok.ix p hp
            have : p.1 = y := hpy
            rw [this] at e3
            exact hne (List.mem_map.mpr ⟨p, hp, nodup_ix hN e3 e1⟩)
          · exact e' (List.mem_of_getElem? e1)
        rcases r with rfl | ⟨rfl, rfl⟩
        · rcases hk' with rfl | rfl | rfl
          · exact absurd (.inl rfl) no
          · exact absurd (.inr rfl) no
          · exact ⟨e, .inr hk0⟩
        · exact ⟨e, .inl hk0⟩
      have e3 : Vis cenv.scope y := e3
      rcases e3 with e3 | e3 | e3
      · exact key _ e3 (.inl rfl)
      · exact key _ e3 (.inr (.inl rfl))
      · exact key _ e3 (.inr (.inr rfl))
    obtain ⟨m, hn, hl⟩ := I.loc
    have hvis : Vis X.env.scope y := (ok.free _ (PySem.mem_of_lookup hfr.1) rfl).elim (fun k => .inr (.inl k)) (fun k => .inr (.inr k))
    obtain ⟨w, r, q⟩ := hl i y av e1 e2 hvis
    refine ⟨w, r, .inr ⟨hfr.2, ?_⟩⟩
    obtain ⟨c, h1, h2⟩ := look hfr.1
    rcases q with ⟨k, _⟩ | ⟨_, c', e', z⟩
    · have k : X.env.scope.names.lookup y = some .local := k
      rcases ok.free _ (PySem.mem_of_lookup hfr.1) rfl with k' | k' <;> rw [show X.env.scope.names.lookup y = _ from k'] at k <;> cases k
    · rw [h2] at e'; cases e'
      exact ⟨c, h1, z.keeps kp⟩
  · have e : cenv.cells.lookup y = some c := e
    rcases mem e with ⟨h1, _⟩ | ⟨_, z⟩
    · obtain ⟨w, z⟩ := I.cell y c h1
      exact ⟨w, z.keeps kp⟩
    · exact ⟨_, z⟩
  · show H cenv.locals = none
    rw [hL]; exact I.hok.fresh (Nat.le_refl _)
  · have e : cenv.cells.lookup y = some c := e
    rcases mem e with ⟨h1, _⟩ | ⟨h1, _⟩
    · exact I.freeC y c h1
    · exact I.hok.fresh (Nat.le_of_succ_le h1)
  · exact absurd (show p ∈ ([] : List (Addr × Obj)) ++ [] from hp) (by simp)
/-- an item appended to a tracked list -/
theorem app_ok {E : Value → Shared → Prop} {D : Addr} {xs : List V} {y : V} {v : Value} {Q : Value → Shared → Prop} (I : Inv X pins σ H s) (hD : H D = some (.lst xs)) (hz : xs.length < sizeLine) (r : RelV y v)
    (h : ∀ s', Inv X pins σ (upd H D (.lst (xs ++ [y]))) s' → Q .none s') : wpAny (model X.prog X.w) X.A (call (.builtin "list.append") [.ref D, v]) Q E s := by
  obtain ⟨hz', its, n, ri, e⟩ := I.hok D _ hD
  have hl := ri.length
  refine append_at (hsz := by rw [List.size_toArray]; omega) e fun h' sb ho' => ?_
  refine h { s with heap := h' } (I.write (t' := s.toks) (by rw [hD]; trivial) (.inl rfl) (fun b u hb q => (sb.2 b hb).trans q) ⟨_, ho'⟩ ⟨by rw [List.length_append]; exact hz, its ++ [v], n + 1, ri.append (.cons r .nil), ?_⟩)
  rw [ho']
  simp
/-- a clause's tests -/
def PTs (X : Cx) (ifs : List Expr) (t : TT) : Prop :=
  ∀ (pins : List (Addr × Obj)) (s : Shared) (σ : St) (H : Hp) (Q : Bool → Hp → Prop), Inv X pins σ H s → t σ H Q →
    wpAny (model X.prog X.w) X.A (forIn ifs true fun c r => if r = true then do let ok ← isTrue c X.env (eval c X.env); pure (ForInStep.yield ok) else pure (ForInStep.yield r)) (TP X pins σ Q) X.xe s
def tYes : TT := fun _ H Q => Q true H
theorem pts_nil : PTs X [] tYes := fun _ _ _ H _ I h => wpAny_tests_nil ⟨H, I, h⟩
end
theorem thnF {α : Type} {t : Sem α} {Q Q' : α → Shared → Prop} {M : Model} {A : Around} {E : Value → Shared → Prop} {s : Shared} (h : wpAny M A t Q (fun _ _ => False) s) (hQ : ∀ a s, Q a s → Q' a s) : wpAny M A t Q' E s := wpAny_mono h hQ fun _ _ z => False.elim z
/-- the loop of a list comprehension's block, the target of any form (codeAny_compLoop_tests asks a target that no tuple goes to; statement and proof follow it, PyProof/CompMap.lean:41-61, with the step letOwnedTupleGo kept) -/
theorem compLoop_any {prog : Program} {w : World} {A : Around} {R : Result → Shared → Prop} {s : Shared} {elt target iter : Expr} {ifs : List Expr} {scope : Scope} {pos : Pos} {it acc : Value} {env : Env} (I : Nat → Shared → Prop)
    (turn : ∀ n s, I n s → wpAny (model prog w) A (pyNext it) (fun r s₁ => match r with
      | none => R (.ok .next) s₁
      | some v => wpAny (model prog w) A (letOwnedTupleGo target it v) (fun _ s₁' => wpAny (model prog w) A (assign target env v) (fun _ s₂ =>
          wpAny (model prog w) A (forIn ifs true fun c r => if r = true then do let ok ← isTrue c env (eval c env); pure (ForInStep.yield ok) else pure (ForInStep.yield r)) (fun ok s₃ =>
            if ok = true then wpAny (model prog w) A (eval elt env) (fun x s₄ =>
              wpAny (model prog w) A (call (.builtin "list.append") [acc, x]) (fun _ s₅ => ∃ m, m < n ∧ I m s₅) (notedBy (model prog w) A env fun e s' => R (.error e) s') s₄) (notedBy (model prog w) A env fun e s' => R (.error e) s') s₃
            else ∃ m, m < n ∧ I m s₃) (notedBy (model prog w) A env fun e s' => R (.error e) s') s₂) (notedBy (model prog w) A env fun e s' => R (.error e) s') s₁') (notedBy (model prog w) A env fun e s' => R (.error e) s') s₁) (notedBy (model prog w) A env fun e s' => R (.error e) s') s)
    (n : Nat) (h : I n s) :
    codeAny (model prog w) A (.compLoop (.ListComp elt [⟨target, iter, ifs, 0⟩] scope pos) 0 it acc env) R s := by
  refine codeAny_loop rfl I (fun n s hI => ?_) n h
  show wpAny _ A ((compTurn (.ListComp elt [⟨target, iter, ifs, 0⟩] scope pos) 0 it acc env).onRaise (fun x => do noteFrame x env; theTreesLotGoes x)) _ _ s
  refine wpAny_noted ?_
  rw [compTurn_list]
  refine wpAny_bind (wpAny_standAt (wpAny_bind (wpAny_mono (turn n s hI) (fun r s₁ h₁ => ?_) fun _ _ h' => h')))
  cases r with
  | none => exact wpAny_pure h₁
  | some v =>
    refine wpAny_bind (wpAny_mono h₁ (fun _ s₁' h₁' => ?_) fun _ _ h' => h')
    refine wpAny_bind (wpAny_mono h₁' (fun _ s₂ h₂ => wpAny_bind (wpAny_mono h₂ (fun ok s₃ h₃ => ?_) fun _ _ h' => h')) fun _ _ h' => h')
    cases ok with
    | false => exact wpAny_pure ⟨rfl, h₃⟩
    | true =>
      exact wpAny_bind (wpAny_bind (wpAny_mono h₃ (fun x s₄ h₄ => wpAny_bind (wpAny_mono h₄ (fun _ s₅ h₅ => wpAny_pure (wpAny_pure ⟨rfl, h₅⟩)) fun _ _ h' => h')) fun _ _ h' => h'))
section
variable {X : Cx}
/-- [elt for target in iter if ..]: D the new list; W by the turn and a measure, Nx what a turn is to reach -/
def tLc (wi : TI) (g : TG) (tt : TT) (te : TE) (vs : List Nat) : TE := fun σ H Q => wi σ H fun J H1 => ∀ D, H1 D = none → ∃ W : Nat → Nat → Hp → Prop, (∃ m, W 0 m (upd H1 D (.lst []))) ∧ ∀ i m H, W i m H →
  (J.stop i H ∧ Q (.ref D) H) ∨ (J.go i H ∧ ∃ Nx : Hp → Prop, (∀ H', Nx H' → ∃ m', m' < m ∧ W (i + 1) m' H') ∧ ∀ x H', J.yld i H x H' → g x (wipe σ vs) H' fun σ2 H2 => wipe σ2 vs = wipe σ vs ∧ tt σ2 H2 fun b H3 =>
    if b = true then te σ2 H3 fun y H4 => ∃ acc, H4 D = some (.lst acc) ∧ acc.length < sizeLine ∧ Nx (upd H4 D (.lst (acc ++ [y]))) else Nx H3)
theorem lc_core {pins : List (Addr × Obj)} {s : Shared} {σ : St} {H : Hp} {Q : VK} {elt tg iter : Expr} {ifs : List Expr} {scope : Scope} {own : List (Str × Nat)} {pos pos' : Pos} {wi : TI} {g : TG} {tt : TT} {te : TE} {use : Option (Value → Sem Unit)} {Qf : Value → Shared → Prop}
    (hc : X.calm = true) (hN : X.N.Nodup) (I : Inv X pins σ H s) (hi : PI X tg iter wi) (ok : BlkOk X.N X.env.scope scope own)
    (hg : ∀ (s : Shared) (H : Hp) (C : Addr) (cl : List (Str × Addr)) (fp : List Addr), PG (X.blk s H scope (compEnvC scope cl C X.env) fp) tg g) (ht : ∀ (s : Shared) (H : Hp) (C : Addr) (cl : List (Str × Addr)) (fp : List Addr), PTs (X.blk s H scope (compEnvC scope cl C X.env) fp) ifs tt)
    (he : ∀ (s : Shared) (H : Hp) (C : Addr) (cl : List (Str × Addr)) (fp : List Addr), PE (X.blk s H scope (compEnvC scope cl C X.env) fp) elt te) (hs : ∀ x, foldedSetIterable iter X.env x = pure x)
    (h : tLc wi g tt te (own.map (·.2)) σ H Q)
    (hRR : ∀ D C s' m H', Inv X pins σ H' s' → Q (.ref D) H' → s'.heap.Ns C m → FpOk X pins H' C → compPost (model X.prog X.w) X.A X.xe use Qf (.ref D) C (.ok .next) s') :
    wpAny (model X.prog X.w) X.A (comprehension (.ListComp elt [⟨tg, iter, ifs, 0⟩] scope pos) scope X.env pos' (newList []) false (eval iter X.env) use) Qf X.xe s := by
  have hfree : ∀ y ∈ scope.names, y.2 = .free → ∃ c, X.env.cells.lookup y.1 = some c := fun y hy e => by
    rcases ok.free y hy e with k | k
    · exact I.ok.has _ (.inl k)
    · exact I.ok.has _ (.inr k)
  refine wpAny_comprehension_free (use := use) rfl hs (closure_ok hfree) ok.kind (fun y hy e => by rw [ok.uniq y hy, e])
    (thn (hi pins s σ H _ I h) fun xv s1 hx => thn hx fun itv s2 h2 => ?_)
  obtain ⟨it, fp, tn, J, H2, e, I2, T, st2, f2, q⟩ := h2
  subst e
  refine wpAny_newObj_type (newEnv_comp ?_) (by show 0 ≤ sizeLine; decide)
  generalize hD : s2.heap.objs.size = D
  have hDn : H2 D = none := I2.hok.fresh (Nat.le_of_eq hD)
  obtain ⟨W, ⟨m0, w0⟩, turn⟩ := q D hDn
  -- the new list
  generalize hs3 : ({ s2 with heap := s2.heap.push { cls := .type "list", data := .seq ([] : List Value).toArray } } : Shared) = s3
  have I3 : Inv X pins σ (upd H2 D (.lst [])) s3 := by
    rw [← hs3]
    refine I2.laid (t' := s2.toks) (fun b o e => Heap.get?_push_of_some _ e) (Nat.le_of_eq hD) ⟨Nat.zero_le _, [], 0, .nil, ?_⟩
    rw [← hD]
    exact Heap.get?_push_size _ rfl
  have h3 : s3.heap = s2.heap.push { cls := .type "list", data := .seq ([] : List Value).toArray } := by rw [← hs3]
  have sz : ∀ b ∈ fp, b < s2.heap.objs.size := fun b hb => by
    obtain ⟨o, e, _⟩ := T.obj _ _ st2 b hb
    exact Heap.lt_size e
  have f3 : ∀ b ∈ fp, FpOk X pins (upd H2 D (.lst [])) b ∧ b < s3.heap.objs.size := fun b hb => by
    have hlt := sz b hb
    refine ⟨⟨?_, (f2 b hb).2⟩, by rw [h3, Heap.size_push]; exact Nat.lt_succ_of_lt hlt⟩
    rw [upd_ne (by rw [← hD]; exact Nat.ne_of_lt hlt)]
    exact (f2 b hb).1
  have st3 : tn 0 s3.heap := T.keep _ _ _ st2 fun b _ o e => by rw [h3]; exact Heap.get?_push_of_some _ e
  have I4 := block_start I3 ok hN f3
  have pg := hg s3 (upd H2 D (.lst [])) s3.heap.objs.size (cellsFrom (s3.heap.objs.size + 1) scope.names (cloFrom X.env.cells scope.names [])) fp
  have pt := ht s3 (upd H2 D (.lst [])) s3.heap.objs.size (cellsFrom (s3.heap.objs.size + 1) scope.names (cloFrom X.env.cells scope.names [])) fp
  have pe := he s3 (upd H2 D (.lst [])) s3.heap.objs.size (cellsFrom (s3.heap.objs.size + 1) scope.names (cloFrom X.env.cells scope.names [])) fp
  show codeAny _ _ (.compStart (.ListComp elt [⟨tg, iter, ifs, 0⟩] scope pos) 0 (.ref it) (.ref D) (compEnvC scope (cellsFrom (s3.heap.objs.size + 1) scope.names (cloFrom X.env.cells scope.names [])) s3.heap.objs.size X.env)) (compPost (model X.prog X.w) X.A X.xe use Qf (.ref D) s3.heap.objs.size) { s3 with heap := pushCells (s3.heap.push { cls := .type "dict", data := .dict #[] }) scope.names }
  have nfp : ∀ b ∈ fp, (upd H2 D (.lst [])) b = none := fun b hb => (f3 b hb).1.1
  generalize hce : compEnvC scope (cellsFrom (s3.heap.objs.size + 1) scope.names (cloFrom X.env.cells scope.names [])) s3.heap.objs.size X.env = ce at I4 pg pt pe ⊢
  have cL : ce.locals = s3.heap.objs.size := by subst hce; rfl
  generalize hH3 : upd H2 D (.lst []) = H3 at I3 I4 pg pt pe w0 nfp f3
  generalize hs4 : ({ s3 with heap := pushCells (s3.heap.push { cls := .type "dict", data := .dict #[] }) scope.names } : Shared) = s4 at I4 ⊢
  have st4 : tn 0 s4.heap := T.keep _ _ _ st3 fun b _ o e => by rw [← hs4]; exact pushCells_keeps _ _ _ _ (Heap.get?_push_of_some _ e)
  have stat : ∀ {σ' : St} {H' : Hp} {s' : Shared}, Inv (X.blk s3 H3 scope ce fp) [] σ' H' s' → (∀ b ∈ fp, H' b = none) → ∀ b ∈ fp, FpOk (X.blk s3 H3 scope ce fp) [] H' b := fun {σ' H' s'} I' hn b hb =>
    ⟨hn b hb, (I'.ok.exf b hb).1, I'.ok.exfs b hb, .inl hb, fun x c e => (I'.ok.exf b hb).2 x c e, fun p hp => absurd (show p ∈ ([] : List (Addr × Obj)) ++ [] from hp) (by simp)⟩
  have loop : codeAny (model X.prog X.w) X.A (.compLoop (.ListComp elt [⟨tg, iter, ifs, 0⟩] scope pos) 0 (.ref it) (.ref D) ce) (compPost (model X.prog X.w) X.A X.xe use Qf (.ref D) s3.heap.objs.size) s4 := by
    refine compLoop_any (fun n s' => ∃ i H', Inv (X.blk s3 H3 scope ce fp) [] (wipe σ (own.map (·.2))) H' s' ∧ tn i s'.heap ∧ (∀ b ∈ fp, H' b = none) ∧ W i n H') ?_ m0 ⟨0, H3, I4, st4, nfp, w0⟩
    rintro n s5 ⟨i, H5, I5, st5, n5, w5⟩
    rcases turn i n H5 w5 with ⟨stop, qq⟩ | ⟨go, Nx, hNx, step⟩
    · have td := T.done (X.blk s3 H3 scope ce fp) rfl rfl rfl hc i [] s5 _ H5 (fun _ _ => False) I5 (stat I5 n5) st5 stop
      refine thnF td fun r s6 ⟨hr, I6⟩ => ?_
      subst hr
      -- back in the def's context
      have I7 : Inv X pins σ H5 s6 := I3.call' (ch := fp) I6.os I6.base I6.hok I6.bare fun b hb => ⟨(f3 b hb).1.2.2.2.1, (f3 b hb).1.2.1, (f3 b hb).1.2.2.2.2.1, (f3 b hb).1.2.2.2.2.2⟩
      have nC : H5 s3.heap.objs.size = none := by
        have z : H5 ce.locals = none := I6.free
        rw [cL] at z
        exact z
      obtain ⟨m, hn, _⟩ := I6.loc
      have hn : s6.heap.Ns ce.locals m := hn
      rw [cL] at hn
      exact hRR D s3.heap.objs.size s6 m H5 I7 qq hn (I3.fpOk (Nat.le_refl _) nC)
    · have ti := T.item (X.blk s3 H3 scope ce fp) rfl rfl rfl hc i [] s5 _ H5 (fun _ _ => False) I5 (stat I5 n5) st5 go
      refine thnF ti fun r s6 ⟨u, hr, h6⟩ => ?_
      subst hr
      refine thnF h6 fun _ s7 ⟨x, H7, I7, r7, y7, st7, n7⟩ => ?_
      have I7' := I7.pinned (stat I7 n7) (T.obj _ _ st7)
      refine thnF (pg _ s7 _ H7 x u _ I7' r7 (step x H7 y7)) fun _ s8 ⟨σ8, H8, I8, hw8, q8⟩ => ?_
      refine thnF (pt _ s8 σ8 H8 _ I8 q8) fun b s9 ⟨H9, I9, q9⟩ => ?_
      -- the turn's end
      have fin : ∀ {s' : Shared} {H' : Hp}, Inv (X.blk s3 H3 scope ce fp) ([] ++ pinsAt fp s7.heap) σ8 H' s' → Nx H' → ∃ m, m < n ∧ ∃ i H', Inv (X.blk s3 H3 scope ce fp) [] (wipe σ (own.map (·.2))) H' s' ∧ tn i s'.heap ∧ (∀ b ∈ fp, H' b = none) ∧ W i m H' := fun {s' H'} I' nx => by
        obtain ⟨m', hm, w'⟩ := hNx H' nx
        have pin' : ∀ b ∈ fp, ∀ o, s7.heap.get? b = some o → s'.heap.get? b = some o ∧ H' b = none := fun b hb o e =>
          let z := I'.pin (b, o) (List.mem_append_right _ (List.mem_append_right _ (mem_pinsAt hb e)))
          ⟨z.1, z.2.1⟩
        have hl : (wipe σ (own.map (·.2))).length = σ8.length := by rw [← hw8, wipe_length]
        refine ⟨m', hm, i + 1, H', (I'.unpinned (pins := [])).weak hl (fun j v e => ?_), T.keep _ _ _ st7 fun b hb o e => (pin' b hb o e).1, fun b hb => ?_, w'⟩
        · rw [← hw8] at e
          exact (wipe_some e).1
        · obtain ⟨o, e, _⟩ := T.obj _ _ st7 b hb
          exact (pin' b hb o e).2
      cases b with
      | false =>
        simp only [Bool.false_eq_true, if_false] at q9 ⊢
        exact fin I9 q9
      | true =>
        simp only [if_true] at q9 ⊢
        refine thnF (pe _ s9 σ8 H9 _ I9 q9) fun z s10 ⟨yv, H10, I10, r10, acc, hD10, hz10, nx⟩ => ?_
        exact app_ok (X := X.blk s3 H3 scope ce fp) I10 hD10 hz10 r10 fun s11 I11 => fin I11 nx
  exact codeAny_compStart_list loop (T.self X.A 0 _ _ _ st4 loop)
/-- as a value -/
theorem pe_lc {elt tg iter : Expr} {ifs : List Expr} {scope : Scope} {own : List (Str × Nat)} {pos : Pos} {wi : TI} {g : TG} {tt : TT} {te : TE} (hc : X.calm = true) (hN : X.N.Nodup) (hi : PI X tg iter wi) (ok : BlkOk X.N X.env.scope scope own)
    (hg : ∀ (s : Shared) (H : Hp) (C : Addr) (cl : List (Str × Addr)) (fp : List Addr), PG (X.blk s H scope (compEnvC scope cl C X.env) fp) tg g) (ht : ∀ (s : Shared) (H : Hp) (C : Addr) (cl : List (Str × Addr)) (fp : List Addr), PTs (X.blk s H scope (compEnvC scope cl C X.env) fp) ifs tt)
    (he : ∀ (s : Shared) (H : Hp) (C : Addr) (cl : List (Str × Addr)) (fp : List Addr), PE (X.blk s H scope (compEnvC scope cl C X.env) fp) elt te) (hs : ∀ x, foldedSetIterable iter X.env x = pure x := by intro _; rfl) :
    PE X (.ListComp elt [⟨tg, iter, ifs, 0⟩] scope pos) (tLc wi g tt te (own.map (·.2))) := by
  intro pins s σ H Q I h
  rw [eval_ListComp]
  refine lc_core hc hN I hi ok hg ht he hs h fun D C s' m H' I' q hn f => ⟨m, hn, fun h'' sb => ?_⟩
  obtain ⟨f0, f1, f2, f3, f4, f5⟩ := f
  exact ⟨.ref D, H', I'.turned (t' := s'.toks) (fun b o hb e => (sb.2 b hb).trans e) f0 f1 f3 f4 f5, rfl, q⟩
/-- name = [..] on one line, the name a local -/
theorem ps_setLc {i : Nat} {y : Str} {py : Pos} {elt tg iter : Expr} {ifs : List Expr} {scope : Scope} {own : List (Str × Nat)} {pos spos : Pos} {wi : TI} {g : TG} {tt : TT} {te : TE} (hc : X.calm = true) (hN : X.N.Nodup) (hy : X.N[i]? = some y) (hyl : X.env.scope.names.lookup y = some .local)
    (hsw : swapsWith (.ListComp elt [⟨tg, iter, ifs, 0⟩] scope pos) (some (.Name y py)) spos.line X.env = pure true) (hi : PI X tg iter wi) (ok : BlkOk X.N X.env.scope scope own)
    (hg : ∀ (s : Shared) (H : Hp) (C : Addr) (cl : List (Str × Addr)) (fp : List Addr), PG (X.blk s H scope (compEnvC scope cl C X.env) fp) tg g) (ht : ∀ (s : Shared) (H : Hp) (C : Addr) (cl : List (Str × Addr)) (fp : List Addr), PTs (X.blk s H scope (compEnvC scope cl C X.env) fp) ifs tt)
    (he : ∀ (s : Shared) (H : Hp) (C : Addr) (cl : List (Str × Addr)) (fp : List Addr), PE (X.blk s H scope (compEnvC scope cl C X.env) fp) elt te) (hs : ∀ x, foldedSetIterable iter X.env x = pure x := by intro _; rfl) :
    PS X (.Assign [.Name y py] (.ListComp elt [⟨tg, iter, ifs, 0⟩] scope pos) spos) (tAsg (tLc wi g tt te (own.map (·.2))) (gName i)) := by
  intro pins s σ H D I h
  rw [exec_Assign_Name_used _ _ _ _ hsw]
  refine wpAny_bind (wpAny_standAt (wpAny_bind ?_))
  show wpAny _ X.A (do let _ ← comprehension (.ListComp elt [⟨tg, iter, ifs, 0⟩] scope pos) scope X.env (firstIterPos [⟨tg, iter, ifs, 0⟩] pos) (newList []) false (eval iter X.env) (some (assign (.Name y py) X.env))) _ _ s
  have h : tLc wi g tt te (own.map (·.2)) σ H (fun x H1 => gName i x σ H1 D.nx) := h
  refine wpAny_bind (thn (lc_core (Qf := fun _ s' => SP X pins D .next s') hc hN I hi ok hg ht he hs h fun L C s' m H' I' q hn f => ?_) fun _ s' hq => wpAny_pure (wpAny_pure hq))
  show wpAny _ _ (assign (.Name y py) X.env (.ref L)) _ _ _
  refine wpAny_assign_Name (store_ok2 (v := V.ref L) I' hN hy (.inl hyl) rfl (fun s2 I2 ⟨a, sb, ha⟩ => ?_) (.inr hyl))
  obtain ⟨f0, f1, f2, f3, f4, f5⟩ := f
  have haC : C ≠ a := by
    rcases ha with z | z
    · rw [z]; exact f1
    · exact fun e => f4 y a z e.symm
  refine ⟨m, hn.sameBut sb haC, fun h3 sb3 => ?_⟩
  exact ⟨_, H', I2.turned (t' := s2.toks) (fun b o hb e => (sb3.2 b hb).trans e) f0 f1 f3 f4 f5, q⟩
theorem sw_true {elt : Expr} {gs : List Comprehension} {scope : Scope} {pos py : Pos} {y : Str} {l : Nat} {env : Env} (hk : env.scope.kind = .function) (hy : env.scope.names.lookup y = some .local) (hl : (py.line == pos.line) = true)
    (ha : (scope.names.any fun (n, k) => n == y && (k == .local || k == .cell)) = false) : swapsWith (.ListComp elt gs scope pos) (some (.Name y py)) l env = pure true := by
  have ky : env.kindOf y = some .local := hy
  have hb : env.blockKind = .function := by unfold Env.blockKind; rw [hk]; rfl
  unfold swapsWith
  simp only [hb, ky, ha, Expr.pos, hl]
  rfl
end
/-- over a list that the block leaves as it is -/
theorem lc_list {K : PySem.W.Frag} {a : Addr} {xs : List V} {g : TG} {tt : TT} {te : TE} {vs : List Nat} {σ : St} {H1 : Hp} {D : Addr} {Qd : Hp → Prop} (Pv : Nat → Hp → Prop) (h0 : Pv 0 (upd H1 D (.lst []))) (hl : ∀ i H, i ≤ xs.length → Pv i H → SqL K H a xs)
    (hs : ∀ i x H, xs[i]? = some x → Pv i H → g x (wipe σ vs) H fun σ2 H2 => wipe σ2 vs = wipe σ vs ∧ tt σ2 H2 fun b H3 =>
      if b = true then te σ2 H3 fun y H4 => ∃ acc, H4 D = some (.lst acc) ∧ acc.length < sizeLine ∧ Pv (i + 1) (upd H4 D (.lst (acc ++ [y]))) else Pv (i + 1) H3) (hd : ∀ H, Pv xs.length H → Qd H) :
    ∃ W : Nat → Nat → Hp → Prop, (∃ m, W 0 m (upd H1 D (.lst []))) ∧ ∀ i m H, W i m H →
      ((Itl K a).stop i H ∧ Qd H) ∨ ((Itl K a).go i H ∧ ∃ Nx : Hp → Prop, (∀ H', Nx H' → ∃ m', m' < m ∧ W (i + 1) m' H') ∧ ∀ x H', (Itl K a).yld i H x H' → g x (wipe σ vs) H' fun σ2 H2 => wipe σ2 vs = wipe σ vs ∧ tt σ2 H2 fun b H3 =>
        if b = true then te σ2 H3 fun y H4 => ∃ acc, H4 D = some (.lst acc) ∧ acc.length < sizeLine ∧ Nx (upd H4 D (.lst (acc ++ [y]))) else Nx H3) := by
  refine ⟨fun i m H => m = xs.length - i ∧ i ≤ xs.length ∧ Pv i H, ⟨xs.length, by simp, Nat.zero_le _, h0⟩, ?_⟩
  rintro i m H ⟨rfl, hi, p⟩
  have q := hl i H hi p
  by_cases hlt : i < xs.length
  · refine .inr ⟨⟨xs, xs[i], q, by simp [hlt]⟩, Pv (i + 1), fun H' p' => ⟨xs.length - (i + 1), by omega, rfl, hlt, p'⟩, fun x H' y => ?_⟩
    obtain ⟨e, y⟩ := y
    subst e
    exact hs i x _ (y xs q) p
  · have e : i = xs.length := by omega
    subst e
    exact .inl ⟨⟨xs, q, Nat.le_refl _⟩, hd H p⟩
def blkC (N : List Str) (sc scope : Scope) (own : List (Str × Nat)) : Bool :=
  (match scope.kind with | .function => true | _ => false) && (scope.names.all fun y => decide (scope.names.lookup y.1 = some y.2)) && (own.all fun p => decide (N[p.2]? = some p.1)) &&
    (scope.names.all fun y => match y.2 with
      | .free => (match sc.names.lookup y.1 with | some .cell => true | some .free => true | _ => false)
      | .local => decide (y.1 ∈ own.map (·.1)) || decide (y.1 ∉ N)
      | .cell => decide (y.1 ∈ own.map (·.1)) || decide (y.1 ∉ N)
      | _ => true)
theorem blkOk_by {N : List Str} {sc scope : Scope} {own : List (Str × Nat)} (h : blkC N sc scope own = true) : BlkOk N sc scope own := by
  unfold blkC at h
  simp only [Bool.and_eq_true, List.all_eq_true, decide_eq_true_eq] at h
  obtain ⟨⟨⟨h1, h2⟩, h3⟩, h4⟩ := h
  refine ⟨?_, h2, h3, fun y hy e => ?_, fun y hy e => ?_⟩
  · split at h1
    · assumption
    · cases h1
  · have q := h4 y hy
    simp only [e] at q
    split at q <;> first | exact .inl (by assumption) | exact .inr (by assumption) | cases q
  · have q := h4 y hy
    rcases e with e | e <;> (simp only [e, Bool.or_eq_true, decide_eq_true_eq] at q; exact q)
end L2
namespace L2
open PySem PySem.Spec PyProof.Rows
section
variable {prog : Program} {w : World} {A : Around} {R : Result → Shared → Prop} {s : Shared} {elt t0 i0 t1 i1 : Expr} {ifs0 ifs1 : List Expr} {scope : Scope} {pos : Pos} {it acc : Value} {env : Env}
end
section
variable {X : Cx}
end
end L2
namespace L2
open PySem PySem.Spec PyProof.Rows
section
variable {κ : Type} [DecidableEq κ]
def valV (kvs : List (κ × V)) (k : κ) : Option V := (kvs.find? fun kv => decide (kv.1 = k)).map (·.2)
/-- in its place, or at the end -/
def putK (kvs : List (κ × V)) (k : κ) (v : V) : List (κ × V) :=
  if (kvs.any fun kv => decide (kv.1 = k)) = true then kvs.map (fun kv => if kv.1 = k then (kv.1, v) else kv) else kvs ++ [(k, v)]
def dropK (kvs : List (κ × V)) (k : κ) : List (κ × V) := kvs.filter fun kv => decide (kv.1 ≠ k)
theorem valV_pos {p : κ × V} {r : List (κ × V)} {k : κ} (e : p.1 = k) : valV (p :: r) k = some p.2 := by simp [valV, List.find?_cons, e]
theorem valV_neg {p : κ × V} {r : List (κ × V)} {k : κ} (e : ¬ p.1 = k) : valV (p :: r) k = valV r k := by simp [valV, List.find?_cons, e]
theorem valV_any (k : κ) : ∀ kvs : List (κ × V), (kvs.any fun kv => decide (kv.1 = k)) = (valV kvs k).isSome
  | [] => rfl
  | p :: r => by
    rw [List.any_cons]
    by_cases e : p.1 = k
    · simp only [valV_pos e, decide_eq_true e, Bool.true_or, Option.isSome_some]
    · rw [valV_neg e, decide_eq_false e, Bool.false_or]; exact valV_any k r
theorem valV_map (k j : κ) (y : V) : ∀ kvs : List (κ × V), valV (kvs.map fun kv => if kv.1 = k then (kv.1, y) else kv) j = (valV kvs j).map fun x => if j = k then y else x
  | [] => rfl
  | p :: r => by
    have ih := valV_map k j y r
    rw [List.map_cons]
    by_cases h : p.1 = k
    · rw [if_pos h]
      by_cases e : p.1 = j
      · rw [valV_pos (p := (p.1, y)) e, valV_pos e, Option.map_some, if_pos (e.symm.trans h)]
      · rw [valV_neg (p := (p.1, y)) e, valV_neg e, ih]
    · rw [if_neg h]
      by_cases e : p.1 = j
      · rw [valV_pos (p := p) e, valV_pos e, Option.map_some, if_neg (fun z => h (e.trans z))]
      · rw [valV_neg (p := p) e, valV_neg e, ih]
theorem valV_snoc (k j : κ) (y : V) : ∀ kvs : List (κ × V), valV kvs k = none → valV (kvs ++ [(k, y)]) j = if j = k then some y else valV kvs j
  | [], _ => by
    by_cases e : k = j
    · rw [if_pos e.symm]; exact valV_pos (p := (k, y)) e
    · rw [if_neg (fun z => e z.symm)]; exact valV_neg (p := (k, y)) e
  | p :: r, hn => by
    rw [List.cons_append]
    have hk : ¬ p.1 = k := fun z => by rw [valV_pos z] at hn; cases hn
    rw [valV_neg hk] at hn
    have ih := valV_snoc k j y r hn
    by_cases e : p.1 = j
    · rw [valV_pos e, valV_pos e, if_neg (fun z => hk (e.trans z))]
    · rw [valV_neg e, valV_neg e, ih]
theorem valV_put (kvs : List (κ × V)) (k j : κ) (y : V) : valV (putK kvs k y) j = if j = k then some y else valV kvs j := by
  unfold putK
  by_cases a : (kvs.any fun kv => decide (kv.1 = k)) = true
  · rw [if_pos a, valV_map]
    rw [valV_any] at a
    by_cases e : j = k
    · obtain ⟨x, hx⟩ := Option.isSome_iff_exists.mp a
      rw [if_pos e, e, hx, Option.map_some, if_pos rfl]
    · rw [if_neg e]
      cases valV kvs j with
      | none => rfl
      | some x => rw [Option.map_some, if_neg e]
  · rw [if_neg a]
    refine valV_snoc k j y kvs ?_
    rw [valV_any] at a
    cases q : valV kvs k with
    | none => rfl
    | some x => rw [q] at a; exact (a rfl).elim
theorem length_putK (kvs : List (κ × V)) (k : κ) (v : V) : (putK kvs k v).length ≤ kvs.length + 1 := by
  unfold putK
  split
  · rw [List.length_map]; omega
  · rw [List.length_append, List.length_cons, List.length_nil]; omega
theorem putK_new {kvs : List (κ × V)} {k : κ} (v : V) (h : valV kvs k = none) : putK kvs k v = kvs ++ [(k, v)] := by
  unfold putK
  rw [valV_any, h]
  exact if_neg (by decide)
theorem RelO.isSome_eq {o : Option V} {u : Option Value} (r : RelO o u) : o.isSome = u.isSome := by
  cases o with
  | none => cases u with
    | none => rfl
    | some _ => exact (show False from r).elim
  | some _ => cases u with
    | none => exact (show False from r).elim
    | some _ => rfl
theorem RelO.getD {o : Option V} {u : Option Value} {d : V} {d' : Value} (r : RelO o u) (rd : RelV d d') : RelV (o.getD d) (u.getD d') := by
  cases o with
  | none => cases u with
    | none => exact rd
    | some _ => exact (show False from r).elim
  | some _ => cases u with
    | none => exact (show False from r).elim
    | some _ => exact r
/-- raw tables of the same keys -/
theorem KV.val {kvs : List (κ × V)} {vs : List (κ × Value)} (r : KV kvs vs) (k : κ) : RelO (valV kvs k) (valueAt vs k) := by
  unfold KV at r
  induction r with
  | nil => exact True.intro
  | @cons p q ps qs h t ih =>
    obtain ⟨h1, h2⟩ := h
    by_cases e : p.1 = k
    · have e' : q.1 = k := h1.symm.trans e
      have b : valueAt (q :: qs) k = some q.2 := by simp [valueAt, List.find?_cons, e']
      rw [valV_pos e, b]; exact h2
    · have e' : ¬ q.1 = k := fun z => e (h1.trans z)
      have b : valueAt (q :: qs) k = valueAt qs k := by simp [valueAt, List.find?_cons, e']
      rw [valV_neg e, b]; exact ih
theorem KV.any {kvs : List (κ × V)} {vs : List (κ × Value)} (r : KV kvs vs) (k : κ) : (kvs.any fun kv => decide (kv.1 = k)) = vs.any fun kv => decide (kv.1 = k) := by
  unfold KV at r
  induction r with
  | nil => rfl
  | cons h t ih => rw [List.any_cons, List.any_cons, ih, h.1]
theorem KV.repl {kvs : List (κ × V)} {vs : List (κ × Value)} (r : KV kvs vs) (k : κ) {y : V} {u : Value} (ry : RelV y u) :
    KV (kvs.map fun kv => if kv.1 = k then (kv.1, y) else kv) (vs.map fun kv => if kv.1 = k then (kv.1, u) else kv) := by
  unfold KV at r ⊢
  induction r with
  | nil => exact .nil
  | @cons p q ps qs h t ih =>
    rw [List.map_cons, List.map_cons]
    refine .cons ?_ ih
    obtain ⟨h1, h2⟩ := h
    by_cases e : p.1 = k
    · rw [if_pos e, if_pos (h1.symm.trans e)]; exact ⟨h1, ry⟩
    · rw [if_neg e, if_neg (fun z => e (h1.trans z))]; exact ⟨h1, h2⟩
theorem KV.put {kvs : List (κ × V)} {vs : List (κ × Value)} (r : KV kvs vs) (k : κ) {y : V} {u : Value} (ry : RelV y u) : KV (putK kvs k y) (stored vs k u) := by
  unfold putK stored
  rw [r.any k]
  by_cases e : (vs.any fun kv => decide (kv.1 = k)) = true
  · rw [if_pos e, if_pos e]; exact r.repl k ry
  · rw [if_neg e, if_neg e]; exact Paired.snoc r ⟨rfl, ry⟩
theorem KV.length {kvs : List (κ × V)} {vs : List (κ × Value)} (r : KV kvs vs) : kvs.length = vs.length := Paired.length r
theorem dropK_le (kvs : List (κ × V)) (k : κ) : (dropK kvs k).length ≤ kvs.length := List.length_filter_le _ _
end
theorem kV_is {P : Program} {w : World} {k : Key} {u : Value} (r : RelV (kV k) u) : (mixKind P w).is k u = true := by
  cases k with
  | inl i => obtain ⟨t, e⟩ := (show ∃ t, u = Value.int i t from r); subst e; exact mixKind_int P w i t
  | inr x => obtain ⟨t, e⟩ := (show ∃ t, u = Value.str x t from r); subst e; exact mixKind_str P w x t
theorem items_are {P : Program} {w : World} : ∀ {ks : List Key} {us : List Value}, Vals (ks.map kV) us → ItemsAre (mixKind P w) ks us
  | [], _, r => by rw [List.map_nil] at r; cases r; exact .nil
  | k :: ks, _, r => by
    rw [List.map_cons] at r
    cases r with
    | cons h t => exact .cons (kV_is h) (items_are t)
/-- raw entries of a dict with tuple keys -/
abbrev KT (H : Hp) : List (List Key × V) → List (List Key × Addr × Value) → Prop := Paired fun p q => p.1 = q.1 ∧ H q.2.1 = some (.tup (p.1.map kV)) ∧ RelV p.2 q.2.2
theorem KT.val {H : Hp} {kvs : List (List Key × V)} {xs : List (List Key × Addr × Value)} (r : KT H kvs xs) (k : List Key) : RelO (valV kvs k) ((atKey xs k).map (·.2)) := by
  induction r with
  | nil => exact True.intro
  | @cons p q ps qs h t ih =>
    obtain ⟨h1, _, h2⟩ := h
    by_cases e : p.1 = k
    · have e' : q.1 = k := h1.symm.trans e
      have b : atKey (q :: qs) k = some q.2 := by simp [atKey, List.find?_cons, e']
      rw [valV_pos e, b]; exact h2
    · have e' : ¬ q.1 = k := fun z => e (h1.trans z)
      have b : atKey (q :: qs) k = atKey qs k := by simp [atKey, List.find?_cons, e']
      rw [valV_neg e, b]; exact ih
theorem KT.repl {H : Hp} {kvs : List (List Key × V)} {xs : List (List Key × Addr × Value)} (r : KT H kvs xs) (k : List Key) {y : V} {u : Value} (ry : RelV y u) :
    KT H (kvs.map fun kv => if kv.1 = k then (kv.1, y) else kv) (xs.map (putAt k u)) := by
  induction r with
  | nil => exact .nil
  | @cons p q ps qs h t ih =>
    rw [List.map_cons, List.map_cons]
    refine .cons ?_ ih
    obtain ⟨h1, h2, h3⟩ := h
    unfold putAt
    by_cases e : p.1 = k
    · rw [if_pos e, if_pos (h1.symm.trans e)]; exact ⟨h1, h2, ry⟩
    · rw [if_neg e, if_neg (fun z => e (h1.trans z))]; exact ⟨h1, h2, h3⟩
theorem KT.put {H : Hp} {kvs : List (List Key × V)} {xs : List (List Key × Addr × Value)} (r : KT H kvs xs) (k : List Key) {b : Addr} {y : V} {u : Value} (hb : H b = some (.tup (k.map kV))) (ry : RelV y u) :
    KT H (putK kvs k y) (storedH xs k b u) := by
  have e : (kvs.any fun kv => decide (kv.1 = k)) = (atKey xs k).isSome := by
    rw [valV_any, (r.val k).isSome_eq, Option.isSome_map]
  unfold putK storedH
  rw [e]
  by_cases q : (atKey xs k).isSome = true
  · rw [if_pos q, if_pos q]; exact r.repl k ry
  · rw [if_neg q, if_neg q]; exact Paired.snoc r ⟨rfl, hb, ry⟩
theorem KT.keeps {H H' : Hp} {kvs : List (List Key × V)} {xs : List (List Key × Addr × Value)} (r : KT H kvs xs) (ht : ∀ b ys, H b = some (.tup ys) → H' b = some (.tup ys)) : KT H' kvs xs :=
  Paired.mapP r fun _ _ z => ⟨z.1, ht _ _ z.2.1, z.2.2⟩
section
variable {P : Program} {w : World} {H : Hp} {h : Heap} {a : Addr}
theorem rd_of {u : HO} (ok : HOk P w H h) (e : Rd H a u) : ObjOk P w H h a u := e.ok ok
theorem dk_rd {kvs : List (Key × V)} (ok : HOk P w H h) (e : Rd H a (.dK kvs)) : kvs.length ≤ sizeLine ∧ (a == sysModules) = false ∧ ∃ vs, KV kvs vs ∧ h.DictOf (mixKind P w) a vs :=
  show ObjOk P w H h a (.dK kvs) from rd_of ok e
theorem dk_of {kvs : List (Key × V)} (ok : HOk P w H h) (e : H a = some (.dK kvs)) : kvs.length ≤ sizeLine ∧ (a == sysModules) = false ∧ ∃ vs, KV kvs vs ∧ h.DictOf (mixKind P w) a vs := dk_rd ok (.inl e)
/-- a tracked tuple of ints and texts is a key -/
theorem key_of {ks : List Key} (ok : HOk P w H h) (e : H a = some (.tup (ks.map kV))) : (tupleKind (mixKind P w)).is h ks a := by
  obtain ⟨_, its, r, o, h1, h2, n, h3⟩ := (show ObjOk P w H h a (.tup (ks.map kV)) from ok a _ e)
  exact ⟨o, its.toArray, n, h1, h2, h3, by simpa using items_are r⟩
theorem dt_rd {kvs : List (List Key × V)} (ok : HOk P w H h) (e : Rd H a (.dT kvs)) : kvs.length ≤ sizeLine ∧ (a == sysModules) = false ∧
    ∃ xs, KT H kvs xs ∧ h.DictOfH (tupleKind (mixKind P w)) a xs := by
  obtain ⟨z, y, xs, r, o, es, ep, h1, h2, h3, h4, h5⟩ := (show ObjOk P w H h a (.dT kvs) from rd_of ok e)
  refine ⟨z, y, xs, r, o, es, ep, h1, h2, h3, h4, fun x hx => ?_, h5⟩
  have all : ∀ {l : List (List Key × V)} {m : List (List Key × Addr × Value)}, KT H l m → ∀ x ∈ m, (tupleKind (mixKind P w)).is h x.1 x.2.1 := by
    intro l m q
    induction q with
    | nil => intro x hx; exact nomatch hx
    | @cons p q ps qs hq t ih =>
      intro x hx
      rcases List.mem_cons.mp hx with e | hx
      · subst e
        exact key_of ok (by rw [← hq.1]; exact hq.2.1)
      · exact ih x hx
  exact all r x hx
theorem dt_of {kvs : List (List Key × V)} (ok : HOk P w H h) (e : H a = some (.dT kvs)) : kvs.length ≤ sizeLine ∧ (a == sysModules) = false ∧
    ∃ xs, KT H kvs xs ∧ h.DictOfH (tupleKind (mixKind P w)) a xs := dt_rd ok (.inl e)
end
/-- what the dict at a holds at the key y -/
def DGet (H : Hp) (a : Addr) (y : V) (r : Option V) : Prop :=
  (∃ kvs k, Rd H a (.dK kvs) ∧ y = kV k ∧ r = valV kvs k) ∨ ∃ kvs k b, Rd H a (.dT kvs) ∧ y = .ref b ∧ H b = some (.tup (k.map kV)) ∧ r = valV kvs k
/-- the heap behind a[y] = v -/
def DPut (H : Hp) (a : Addr) (y v : V) (H' : Hp) : Prop :=
  (∃ kvs k, H a = some (.dK kvs) ∧ y = kV k ∧ kvs.length < sizeLine ∧ H' = upd H a (.dK (putK kvs k v))) ∨
  ∃ kvs k b, H a = some (.dT kvs) ∧ y = .ref b ∧ H b = some (.tup (k.map kV)) ∧ kvs.length < sizeLine ∧ H' = upd H a (.dT (putK kvs k v))
theorem DGet.k {H : Hp} {a : Addr} {kvs : List (Key × V)} {k : Key} (e : H a = some (.dK kvs)) : DGet H a (kV k) (valV kvs k) := .inl ⟨kvs, k, .inl e, rfl, rfl⟩
theorem DPut.k {H : Hp} {a : Addr} {kvs : List (Key × V)} {k : Key} {v : V} (e : H a = some (.dK kvs)) (hl : kvs.length < sizeLine) : DPut H a (kV k) v (upd H a (.dK (putK kvs k v))) := .inl ⟨kvs, k, e, rfl, hl, rfl⟩
section
variable {X : Cx} {pins : List (Addr × Obj)} {σ : St} {H : Hp} {s : Shared} {a : Addr} {y v : V} {u r : Value} {o : Option V} {A : Around} {E : Value → Shared → Prop}
theorem Inv.big (I : Inv X pins σ H s) : sysModules < s.heap.objs.size := by
  have h : mainGlobals < s.heap.objs.size := (I.mod.glob.keeps I.bk).lt
  exact Nat.lt_trans (by decide) h
/-- d[y], there -/
theorem d_getItem {Q : Value → Shared → Prop} (hu : A.units + 1 < cLine) (I : Inv X pins σ H s) (g : DGet H a y (some v)) (ry : RelV y u) (h : ∀ w' s', Inv X pins σ H s' → RelV v w' → Q w' s') :
    wpAny (model X.prog X.w) A (getItem (.ref a) u) Q E s := by
  rcases g with ⟨kvs, k, e, ey, l⟩ | ⟨kvs, k, b, e, ey, eb, l⟩
  · subst ey
    obtain ⟨z, hd, vs, rel, dd⟩ := dk_rd I.hok e
    obtain ⟨w', hw, rw'⟩ := RelO.some_of (v := v) (o := valueAt vs k) (by rw [l]; exact rel.val k)
    exact wpAny_getItem_of (kV_is ry) dd.mapOf hw (h w' _ (I.tok _) rw')
  · subst ey
    cases (show u = Value.ref b from ry)
    obtain ⟨z, hd, xs, rel, dd⟩ := dt_rd I.hok e
    obtain ⟨w', hw, rw'⟩ := RelO.some_of (v := v) (o := (atKey xs k).map (·.2)) (by rw [l]; exact rel.val k)
    obtain ⟨p, hp, hp2⟩ := Option.map_eq_some_iff.mp hw
    refine wpAny_getItem_heap (tupleKind_room_in1 hu) (key_of I.hok eb) dd hp ?_
    rw [hp2]
    exact h w' _ (I.tok _) rw'
/-- y in d -/
theorem d_in {Q : Value → Shared → Prop} (hu : A.units + 1 < cLine) (I : Inv X pins σ H s) (g : DGet H a y o) (ry : RelV y u) (h : ∀ s', Inv X pins σ H s' → Q (.bool o.isSome) s') :
    wpAny (model X.prog X.w) A (compareOp .In u (.ref a)) Q E s := by
  rcases g with ⟨kvs, k, e, ey, l⟩ | ⟨kvs, k, b, e, ey, eb, l⟩
  · subst ey
    obtain ⟨z, hd, vs, rel, dd⟩ := dk_rd I.hok e
    refine wpAny_in_of (kV_is ry) hd dd.mapOf ?_
    rw [← (rel.val k).isSome_eq, ← l]
    exact h _ (I.tok _)
  · subst ey
    cases (show u = Value.ref b from ry)
    obtain ⟨z, hd, xs, rel, dd⟩ := dt_rd I.hok e
    refine wpAny_in_heap (tupleKind_room_in1 hu) (key_of I.hok eb) hd dd ?_
    have q := (rel.val k).isSome_eq
    rw [Option.isSome_map] at q
    rw [← q, ← l]
    exact h _ (I.tok _)
theorem d_notIn {Q : Value → Shared → Prop} (hu : A.units + 1 < cLine) (I : Inv X pins σ H s) (g : DGet H a y o) (ry : RelV y u) (h : ∀ s', Inv X pins σ H s' → Q (.bool (!o.isSome)) s') :
    wpAny (model X.prog X.w) A (compareOp .NotIn u (.ref a)) Q E s := by
  rcases g with ⟨kvs, k, e, ey, l⟩ | ⟨kvs, k, b, e, ey, eb, l⟩
  · subst ey
    obtain ⟨z, hd, vs, rel, dd⟩ := dk_rd I.hok e
    refine wpAny_notIn_of (kV_is ry) hd dd.mapOf ?_
    rw [← (rel.val k).isSome_eq, ← l]
    exact h _ (I.tok _)
  · subst ey
    cases (show u = Value.ref b from ry)
    obtain ⟨z, hd, xs, rel, dd⟩ := dt_rd I.hok e
    refine wpAny_notIn_heap (tupleKind_room_in1 hu) (key_of I.hok eb) hd dd ?_
    have q := (rel.val k).isSome_eq
    rw [Option.isSome_map] at q
    rw [← q, ← l]
    exact h _ (I.tok _)
/-- a dict's object is replaced -/
theorem d_write {h' : Heap} {t' : Nat} {ob : HO} (I : Inv X pins σ H s) (mu : Mut (H a)) (hs : Heap.SameBut a s.heap h') (he : ∃ q, h'.get? a = some q) (new : ObjOk X.prog X.w (upd H a ob) h' a ob) :
    Inv X pins σ (upd H a ob) { s with heap := h', toks := t' } :=
  I.write (x := a) (e := a) mu (.inl rfl) (fun b q hb z => (hs.2 b hb).trans z) he new
theorem dk_new {P : Program} {w : World} {H' : Hp} {h' : Heap} {kvs : List (Key × V)} {vs : List (Key × Value)} (z : kvs.length ≤ sizeLine) (hd : (a == sysModules) = false) (rel : KV kvs vs) (dd : h'.DictOf (mixKind P w) a vs) :
    ObjOk P w H' h' a (.dK kvs) := ⟨z, hd, vs, rel, dd⟩
/-- d[y] = v -/
theorem d_setItem {H' : Hp} {Q : Unit → Shared → Prop} (hu : A.units + 1 < cLine) (I : Inv X pins σ H s) (g : DPut H a y v H') (ry : RelV y u) (rv : RelV v r) (h : ∀ s', Inv X pins σ H' s' → Q () s') :
    wpAny (model X.prog X.w) A (setItem (.ref a) u r) Q E s := by
  rcases g with ⟨kvs, k, e, ey, l, eH⟩ | ⟨kvs, k, b, e, ey, eb, l, eH⟩
  · subst ey eH
    obtain ⟨z, hd, vs, rel, dd⟩ := dk_of I.hok e
    have hz : vs.length ≤ sizeLine := by rw [← rel.length]; exact z
    have hl : (putK kvs k v).length ≤ sizeLine := by have := length_putK kvs k v; omega
    refine wpAny_setItem_pairs (hsz := hz) (kV_is ry) dd fun h' dd' hs => h _ ?_
    have he : ∃ q, h'.get? a = some q := let ⟨q, _, _, hq, _⟩ := dd'; ⟨q, hq⟩
    exact d_write I (by rw [e]; exact True.intro) hs he (dk_new hl hd (rel.put k rv) dd')
  · subst ey eH
    cases (show u = Value.ref b from ry)
    obtain ⟨z, hd, xs, rel, dd⟩ := dt_of I.hok e
    have hz : xs.length ≤ sizeLine := by rw [← Paired.length rel]; exact z
    have hl : (putK kvs k v).length ≤ sizeLine := by have := length_putK kvs k v; omega
    refine wpAny_setItem_heap (hsz := hz) (tupleKind_room_in1 hu) (key_of I.hok eb) dd fun h' dd' hs => h _ ?_
    obtain ⟨q, es, ep, hq, h2, h3, h4, _, h5⟩ := dd'
    refine d_write I (by rw [e]; exact True.intro) hs ⟨q, hq⟩ ⟨hl, hd, _, (rel.put k eb rv).keeps fun c ys ec => ?_, q, es, ep, hq, h2, h3, h4, h5⟩
    rw [upd_ne (ne_of ec e (fun z => nomatch z))]
    exact ec
end
section
variable {X : Cx} {pins : List (Addr × Obj)} {σ : St} {H : Hp} {s : Shared} {a : Addr} {kvs : List (Key × V)} {k : Key} {u : Value} {A : Around} {E : Value → Shared → Prop}
end
/-- the element of a subscription, not a slice -/
def NoSl (i : Expr) : Prop := ∀ ov iv, subscripted i false ov iv = operate [ov, iv] (getItem ov iv)
theorem subD_of {prog : Program} {w : World} {A : Around} {E : Value → Shared → Prop} {s : Shared} {env : Env} {value slice : Expr} {pos : Pos} {T id : String} {Q : Value → Shared → Prop}
    (hl : typeLookup (.type T) "__getitem__" = pure (some (.builtin id))) (hs : NoSl slice)
    (h : wpAny (model prog w) A (eval value env) (fun o s₁ => wpAny (model prog w) A (eval slice env) (fun i s₂ => s₂.TypeIs o T ∧ wpAny (model prog w) A (getItem o i) Q E s₂) E s₁) E s) :
    wpAny (model prog w) A (eval (.Subscript value slice pos) env) Q E s := by
  refine Subscript_ (wpAny_mono h (fun o s₁ h₁ => wpAny_mono h₁ (fun i s₂ h₂ => ?_) fun _ _ x => x) fun _ _ x => x)
  obtain ⟨hT, h₂⟩ := h₂
  unfold subscriptTail
  refine wpAny_bind ?_
  rw [getitemInPython_of_ne hT.not_modules]
  refine wpAny_bind (wpAny_specialOf hT hl ?_)
  have fin : wpAny (model prog w) A (subscripted slice false o i) (fun r s₃ => wpAny (model prog w) A (letTemporaryGo value o r >>= fun _ => pure r) Q E s₃) E s₂ := by
    rw [hs o i]
    exact wpAny_operating (wpAny_mono h₂ (fun r s₃ h₃ => wpAny_bind (wpAny_letTemporaryGo (wpAny_pure h₃))) fun _ _ x => x)
  first
    | exact wpAny_pure (wpAny_bind fin)
    | exact wpAny_bind (wpAny_pure (wpAny_bind fin))
    | exact wpAny_bind fin
theorem dict_typeIs {X : Cx} {pins : List (Addr × Obj)} {σ : St} {H : Hp} {s : Shared} {a : Addr} {y : V} {o : Option V} (I : Inv X pins σ H s) (g : DGet H a y o) : s.TypeIs (.ref a) "dict" := by
  rcases g with ⟨kvs, k, e, _, _⟩ | ⟨kvs, k, b, e, _, _, _⟩
  · obtain ⟨_, _, vs, _, dd⟩ := dk_rd I.hok e
    exact dd.typeIs
  · obtain ⟨_, _, xs, _, dd⟩ := dt_rd I.hok e
    exact dd.typeIs
/-- d[y] -/
def tDGet (td ty : TE) : TE := fun σ H Q => td σ H fun x H1 => ty σ H1 fun y H2 => ∃ a v, x = .ref a ∧ DGet H2 a y (some v) ∧ Q v H2
/-- y in d, y not in d -/
def tDIn (ty td : TE) : TE := fun σ H Q => ty σ H fun y H1 => td σ H1 fun x H2 => ∃ a o, x = .ref a ∧ DGet H2 a y o ∧ Q (.bl o.isSome) H2
def tDNotIn (ty td : TE) : TE := fun σ H Q => ty σ H fun y H1 => td σ H1 fun x H2 => ∃ a o, x = .ref a ∧ DGet H2 a y o ∧ Q (.bl (!o.isSome)) H2
/-- d[y] = v -/
def sDPut (td ty tv : TE) : TS := fun D σ H => tv σ H fun v H1 => td σ H1 fun x H2 => ty σ H2 fun y H3 => ∃ a H4, x = .ref a ∧ DPut H3 a y v H4 ∧ D.nx σ H4
section
variable {X : Cx} {o i e value : Expr} {pos pos' tpos : Pos} {td ty tv : TE}
theorem pe_dget (hu : X.A.units + 1 < cLine) (ho : PE X o td) (hi : PE X i ty) (hs : NoSl i) : PE X (.Subscript o i pos) (tDGet td ty) := by
  intro pins s σ H Q I h
  refine subD_of PySem.F.slot_dict_getitem.lookup hs (thn (ho pins s σ H _ I h) fun u s1 ⟨x, H1, I1, rx, q1⟩ => thn (hi pins s1 σ H1 _ I1 q1) fun iv s2 ⟨y, H2, I2, ry, a, v, ex, g, q2⟩ => ?_)
  subst ex
  obtain rfl : u = Value.ref a := rx
  exact ⟨dict_typeIs I2 g, d_getItem hu I2 g ry fun w' s3 I3 rw' => ⟨v, H2, I3, rw', q2⟩⟩
theorem pc_din (hu : X.A.units + 1 < cLine) (hi : PE X i ty) (ho : PE X o td) : PC X .In i o (tDIn ty td) := by
  intro pins s σ H Q I h
  refine thn (hi pins s σ H _ I h) fun iv s1 ⟨y, H1, I1, ry, q1⟩ => thn (ho pins s1 σ H1 _ I1 q1) fun u s2 ⟨x, H2, I2, rx, a, ov, ex, g, q2⟩ => ?_
  subst ex
  obtain rfl : u = Value.ref a := rx
  exact d_in hu I2 g ry fun s3 I3 => ⟨.bl ov.isSome, H2, I3, rfl, q2⟩
theorem pc_dnotin (hu : X.A.units + 1 < cLine) (hi : PE X i ty) (ho : PE X o td) : PC X .NotIn i o (tDNotIn ty td) := by
  intro pins s σ H Q I h
  refine thn (hi pins s σ H _ I h) fun iv s1 ⟨y, H1, I1, ry, q1⟩ => thn (ho pins s1 σ H1 _ I1 q1) fun u s2 ⟨x, H2, I2, rx, a, ov, ex, g, q2⟩ => ?_
  subst ex
  obtain rfl : u = Value.ref a := rx
  exact d_notIn hu I2 g ry fun s3 I3 => ⟨.bl (!ov.isSome), H2, I3, rfl, q2⟩
theorem ps_dput (hu : X.A.units + 1 < cLine) (ho : PE X o td) (hi : PE X i ty) (hv : PE X value tv) (hs : swapsWith value (some (.Subscript o i pos')) pos.line X.env = pure false) :
    PS X (.Assign [.Subscript o i pos'] value pos) (sDPut td ty tv) := by
  intro pins s σ H D I h
  refine wpAny_Assign_Subscript (thn (hv pins s σ H _ I h) fun r s1 ⟨v, H1, I1, rv, q1⟩ => thn (ho pins s1 σ H1 _ I1 q1) fun u s2 ⟨x, H2, I2, rx, q2⟩ => thn (hi pins s2 σ H2 _ I2 q2) fun iv s3 ⟨y, H3, I3, ry, a, H4, ex, g, q3⟩ => ?_) hs
  subst ex
  obtain rfl : u = Value.ref a := rx
  exact d_setItem hu I3 g ry rv fun s4 I4 => ⟨σ, H4, I4, q3⟩
end
theorem dk_empty {P : Program} {w : World} {H : Hp} (h : Heap) (hb : sysModules < h.objs.size) : ObjOk P w H (h.push { cls := .type "dict", data := .dict #[] }) h.objs.size (.dK []) :=
  ⟨Nat.zero_le _, beq_eq_false_iff_ne.mpr (Ne.symm (Nat.ne_of_lt hb)), [], .nil, Heap.DictOf.new h⟩
/-- {}, to be a dict of the kind that is wanted -/
def tDNewK : TE := fun _ H Q => ∀ p, H p = none → Q (.ref p) (upd H p (.dK []))
section
variable {X : Cx} {pos : Pos}
theorem pe_dnewK : PE X (.Dict [] [] pos) tDNewK := fun pins s σ H Q I h =>
  wpAny_Dict_empty ⟨.ref s.heap.objs.size, _, I.laid (a := s.heap.objs.size) (o := .dK []) (t' := s.toks) (fun _ _ q => Heap.get?_push_of_some _ q) (Nat.le_refl _) (dk_empty s.heap I.big), rfl, h _ (I.hok.fresh (Nat.le_refl _))⟩
end
/-- the pairs of a display, from the left -/
def tPairs : List (TE × TE) → St → Hp → (List (V × V) → Hp → Prop) → Prop
  | [], _, H, Q => Q [] H
  | (tk, tv) :: r, σ, H, Q => tk σ H fun x H1 => tv σ H1 fun y H2 => tPairs r σ H2 fun ps H3 => Q ((x, y) :: ps) H3
abbrev VV : List (V × V) → List (Value × Value) → Prop := Paired fun p q => RelV p.1 q.1 ∧ RelV p.2 q.2
def PPs (X : Cx) (pos : Pos) (keys : List (Option Expr)) (values : List Expr) (trs : List (TE × TE)) : Prop :=
  ∀ (pins : List (Addr × Obj)) (s : Shared) (σ : St) (H : Hp) (Q : List (V × V) → Hp → Prop), Inv X pins σ H s → tPairs trs σ H Q →
    wpAny (model X.prog X.w) X.A (evalPairs (pairTrees keys values X.env pos)) (fun vs s' => ∃ ps H', Inv X pins σ H' s' ∧ VV ps vs ∧ Q ps H') X.xe s
theorem pps_nil {X : Cx} {pos : Pos} : PPs X pos [] [] [] := fun pins s σ H Q I h => pairTrees_nil_walk ⟨[], H, I, .nil, h⟩
theorem pps_cons {X : Cx} {pos : Pos} {k v : Expr} {ks : List (Option Expr)} {vs : List Expr} {tk tv : TE} {trs : List (TE × TE)} (hk : PE X k tk) (hv : PE X v tv) (hr : PPs X pos ks vs trs) :
    PPs X pos (some k :: ks) (v :: vs) ((tk, tv) :: trs) := fun pins s σ H Q I h =>
  pairTrees_cons_walk (thn (hk pins s σ H _ I h) fun u s1 ⟨x, H1, I1, rx, q1⟩ => thn (hv pins s1 σ H1 _ I1 q1) fun w2 s2 ⟨y, H2, I2, ry, q2⟩ =>
    thn (hr pins s2 σ H2 _ I2 q2) fun ws s3 ⟨ps, H3, I3, rel, q3⟩ => ⟨(x, y) :: ps, H3, I3, .cons ⟨rx, ry⟩ rel, q3⟩)
def mergeK (kvs more : List (Key × V)) : List (Key × V) := more.foldl (fun acc kv => putK acc kv.1 kv.2) kvs
theorem KV.merge : ∀ {more : List (Key × V)} {rs : List (Key × Value)} {kvs : List (Key × V)} {vs : List (Key × Value)}, KV more rs → KV kvs vs → KV (mergeK kvs more) (merged vs rs) := by
  intro more rs kvs vs r
  unfold KV at r
  induction r generalizing kvs vs with
  | nil => intro q; exact q
  | @cons p q ps qs h t ih =>
    intro r0
    have e : KV (putK kvs p.1 p.2) (stored vs q.1 q.2) := by
      have := r0.put p.1 h.2
      rw [← h.1]; exact this
    exact ih e
theorem length_mergeK : ∀ (more kvs : List (Key × V)), (mergeK kvs more).length ≤ kvs.length + more.length
  | [], kvs => by show kvs.length ≤ kvs.length + 0; omega
  | p :: r, kvs => by
    have h1 := length_mergeK r (putK kvs p.1 p.2)
    have h2 := length_putK kvs p.1 p.2
    show (mergeK (putK kvs p.1 p.2) r).length ≤ _
    rw [List.length_cons]; omega
theorem carries_of {P : Program} {w : World} : ∀ {kvs : List (Key × V)} {ws : List (Value × Value)}, VV (kvs.map fun kv => (kV kv.1, kv.2)) ws → ∃ rs, Carries (mixKind P w) ws rs ∧ KV kvs rs
  | [], _, r => by rw [List.map_nil] at r; cases r; exact ⟨[], True.intro, .nil⟩
  | p :: kvs, _, r => by
    rw [List.map_cons] at r
    cases r with
    | @cons a b as bs h t =>
      obtain ⟨rs, c, q⟩ := carries_of (P := P) (w := w) t
      obtain ⟨b1, b2⟩ := b
      exact ⟨(p.1, b2) :: rs, ⟨kV_is h.1, rfl, c⟩, .cons ⟨rfl, h.2⟩ q⟩
/-- {k: v, ..} with keys ints and texts; the new dict stands empty while the pairs are made -/
def tDisp (trs : List (TE × TE)) : TE := fun σ H Q => ∀ p, H p = none → tPairs trs σ (upd H p (.dK [])) fun ps H2 => H2 p = some (.dK []) ∧ ∃ kvs : List (Key × V), ps = kvs.map (fun kv => (kV kv.1, kv.2)) ∧ kvs.length ≤ 15 ∧ Q (.ref p) (upd H2 p (.dK (mergeK [] kvs)))
theorem pe_disp {X : Cx} {pos : Pos} {keys : List (Option Expr)} {values : List Expr} {trs : List (TE × TE)} (h : PPs X pos keys values trs) (hall : keys.all (·.isSome) = true) (hl : keys.length = values.length) (h0 : keys ≠ [])
    (h15 : keys.length ≤ 15) : PE X (.Dict keys values pos) (tDisp trs) := by
  intro pins s σ H Q I q
  have hn := I.hok.fresh (Nat.le_refl s.heap.objs.size)
  have I1 := I.laid (a := s.heap.objs.size) (o := .dK []) (h' := s.heap.push { cls := .type "dict", data := .dict #[] }) (t' := s.toks) (fun _ _ q => Heap.get?_push_of_some _ q) (Nat.le_refl _) (dk_empty s.heap I.big)
  refine wpAny_Dict_walk (knd := mixKind X.prog X.w) hall hl h0 h15 (thn (h pins _ σ _ _ I1 (q _ hn)) fun ws s2 ⟨ps, H2, I2, rel, e, kvs, ep, lk, q2⟩ => ?_)
  subst ep
  obtain ⟨rs, c, rk⟩ := carries_of (P := X.prog) (w := X.w) rel
  obtain ⟨z, hd, vs0, r0, dd⟩ := dk_of I2.hok e
  cases r0
  refine ⟨rs, c, dd, fun h' dd' hs => ⟨.ref s.heap.objs.size, _, ?_, rfl, q2⟩⟩
  have hz : (mergeK [] kvs).length ≤ sizeLine := by
    have h1 := length_mergeK kvs []
    rw [List.length_nil] at h1
    rw [sizeLine_eq]; omega
  have he : ∃ q, h'.get? s.heap.objs.size = some q := let ⟨q, _, _, hq, _⟩ := dd'; ⟨q, hq⟩
  exact d_write I2 (by rw [e]; exact True.intro) hs he (dk_new hz hd (rk.merge .nil) dd')
structure M2 (X : Cx) (o : Expr) (m : Str) (apos : Pos) (e f : Expr) (cpos : Pos) : Prop where
  base : attributeBase o m X.env (eval o X.env) = eval o X.env
  few : ((backTo cpos (starEach [e, f] X.env)).all (fun x => !x.1) && (backToKw cpos (keywordEach [] X.env)).all (fun x => x.1.isSome)
    && decide (([e, f] : List Expr).length + ([] : List Keyword).length + (if ([] : List Keyword).isEmpty then 0 else 1) < 30)) = true
  line : (apos.endLine == cpos.line) = true
  trees : backTo cpos (starEach [e, f] X.env) = [(false, eval e X.env), (false, eval f X.env)]
/-- a is a dict, whatever its keys -/
def IsD (H : Hp) (a : Addr) : Prop := (∃ kvs, Rd H a (.dK kvs)) ∨ ∃ kvs, Rd H a (.dT kvs)
theorem isD_at {X : Cx} {pins : List (Addr × Obj)} {σ : St} {H : Hp} {s : Shared} {a : Addr} (I : Inv X pins σ H s) (d : IsD H a) :
    s.TypeIs (.ref a) "dict" ∧ (∀ b, Value.ref a = .ref b → ∃ ob, s.heap.get? b = some ob ∧ ob.dict = none) ∧ (a == sysModules) = false := by
  rcases d with ⟨kvs, e⟩ | ⟨kvs, e⟩
  · obtain ⟨_, hd, vs, _, dd⟩ := dk_rd I.hok e
    refine ⟨dd.typeIs, fun b q => ?_, hd⟩
    cases q
    obtain ⟨ob, _, _, h1, h2, _⟩ := dd
    exact ⟨ob, h1, h2.2.1⟩
  · obtain ⟨_, hd, xs, _, dd⟩ := dt_rd I.hok e
    refine ⟨dd.typeIs, fun b q => ?_, hd⟩
    cases q
    obtain ⟨ob, _, _, h1, h2, _⟩ := dd
    exact ⟨ob, h1, h2.2.1⟩
section
variable {X : Cx} {pins : List (Addr × Obj)} {σ : St} {H : Hp} {s : Shared} {a : Addr} {y d : V} {u r : Value} {o : Option V} {A : Around} {E : Value → Shared → Prop}
/-- d.get(y, x) -/
theorem d_get2 {Q : Value → Shared → Prop} (hu : A.units + 1 < cLine) (I : Inv X pins σ H s) (g : DGet H a y o) (ry : RelV y u) (rd : RelV d r) (h : ∀ w' s', Inv X pins σ H s' → RelV (o.getD d) w' → Q w' s') :
    wpAny (model X.prog X.w) A (call (.builtin "dict.get") [.ref a, u, r]) Q E s := by
  rcases g with ⟨kvs, k, e, ey, l⟩ | ⟨kvs, k, b, e, ey, eb, l⟩
  · subst ey
    obtain ⟨z, hd, vs, rel, dd⟩ := dk_rd I.hok e
    refine call_meetsIn PySem.F.slot_dict_get dd.typeIs PySem.F.entry_dict_get (PySem.F.args_dict_get_3 _ _ _) (meets_dict_get_default (mixKind X.prog X.w) a (kV_is ry) hd r) ⟨_, dd.mapOf, h _ _ (I.tok _) ?_⟩
    rw [l]
    exact (rel.val k).getD rd
  · subst ey
    cases (show u = Value.ref b from ry)
    obtain ⟨z, hd, xs, rel, dd⟩ := dt_rd I.hok e
    refine call_meetsIn PySem.F.slot_dict_get dd.typeIs PySem.F.entry_dict_get (PySem.F.args_dict_get_3 _ _ _) (meetsH_dict_get_default (tupleKind (mixKind X.prog X.w)) a b hd r) ⟨tupleKind_room_in1 hu, k, xs, key_of I.hok eb, dd, h _ _ (I.tok _) ?_⟩
    rw [l]
    exact (rel.val k).getD rd
end
def tDGet2 (td ty tx : TE) : TE := fun σ H Q => td σ H fun x H1 => ∃ a, x = .ref a ∧ IsD H1 a ∧ ty σ H1 fun y H2 => tx σ H2 fun z H3 => ∃ o, DGet H3 a y o ∧ Q (o.getD z) H3
section
variable {X : Cx} {o e f : Expr} {apos cpos : Pos} {td ty tx : TE}
theorem pe_dget2 (hu : X.A.units + 1 < cLine) (ho : PE X o td) (he : PE X e ty) (hf : PE X f tx) (m : M2 X o "get" apos e f cpos) : PE X (.Call (.Attribute o "get" apos) [e, f] [] cpos) (tDGet2 td ty tx) := by
  intro pins s σ H Q I h
  refine wpAny_Call_method m.base m.few m.line PySem.F.plainAttrs_dict PySem.F.slot_dict_get PySem.F.type_dict_get (thn (ho pins s σ H _ I h) fun u s1 ⟨x, H1, I1, rx, a, ex, d, q1⟩ => ?_)
  subst ex
  obtain rfl : u = Value.ref a := rx
  obtain ⟨t1, t2, _⟩ := isD_at I1 d
  refine ⟨t1, t2, ?_⟩
  rw [m.trees]
  refine Calls.callWith_builtin rfl (Calls.evalArgs_plain (Calls.spliced_cons (thn (he pins s1 σ H1 _ I1 q1) fun iv s2 ⟨y, H2, I2, ry, q2⟩ =>
    Calls.spliced_cons (thn (hf pins s2 σ H2 _ I2 q2) fun fv s3 ⟨z, H3, I3, rz, ov, g, q3⟩ => Calls.spliced_nil ?_))))
  exact d_get2 hu I3 g ry rz fun w' s4 I4 rw' => ⟨_, H3, I4, rw', q3⟩
end
section
variable {X : Cx} {pins : List (Addr × Obj)} {σ : St} {H : Hp} {s : Shared} {a : Addr} {kvs : List (Key × V)} {A : Around} {E : Value → Shared → Prop}
end
section
variable {X : Cx} {pins : List (Addr × Obj)} {σ : St} {H : Hp} {s : Shared} {a : Addr} {y : V} {u : Value} {A : Around} {E : Value → Shared → Prop}
end
end L2
namespace L2
open PySem PySem.Spec PyProof.Rows
section
variable {prog : Program} {w : World} {A : Around} {E : Value → Shared → Prop}
end
section
variable {X : Cx}
theorem refs_at : ∀ {ps : List Addr} {us : List Value}, Vals (ps.map V.ref) us → us = ps.map Value.ref
  | [], us, r => by
    rw [List.map_nil] at r
    cases r
    rfl
  | p :: ps, us, r => by
    rw [List.map_cons] at r
    cases r with
    | cons h t =>
      cases h
      rw [List.map_cons, ← refs_at t]
end
end L2
namespace L2
open PySem PySem.Spec PyProof.Rows
section
variable {X : Cx} {pins : List (Addr × Obj)} {σ : St} {H : Hp} {s : Shared} {h' : Heap}
/-- several records of ours have turned -/
theorem Inv.turnedL {t' : Nat} {ch : List Addr} (I : Inv X pins σ H s) (k : ∀ b o, b ∉ ch → s.heap.get? b = some o → h'.get? b = some o) (hf : ∀ b ∈ ch, FpOk X pins H b) : Inv X pins σ H { s with heap := h', toks := t' } := by
  have nit : ∀ b u, H b = some u → b ∉ ch := fun b u e z => by
    have q := (hf b z).1
    rw [q] at e; cases e
  refine I.step (g' := s.gens) (d' := s.drawn) (ch := ch) (fun b hb => ⟨(hf b hb).2.2.2.1, (hf b hb).2.1, (hf b hb).2.2.2.2.1, (hf b hb).2.2.2.2.2⟩) (fun b o _ _ hc e _ => k b o hc e) (fun b o _ _ hc e _ => ⟨o.slots, k b o hc e⟩)
    (fun _ _ _ _ n => n) (fun b o hc e => ⟨o, k b o hc e⟩) (fun _ _ e => e) (fun _ _ _ e => e) (fun b ps e => ⟨#[], by rw [e]; simp⟩) (fun m hm => ?_) (fun b u e => ?_) I.bare
  · obtain ⟨o, es, ep, ho, r⟩ := hm
    exact ⟨o, es, ep, k _ o (fun z => (hf _ z).2.1 rfl) ho, r⟩
  · refine (I.hok b u e).stay (fun c v hc q => k c v ?_ q) (fun _ q => q) fun _ _ q => q
    rcases hc with z | z
    · rw [z]; exact nit b u e
    · exact nit c _ z
/-- .. and one new object is laid -/
theorem Inv.turnedNew {t' : Nat} {ch : List Addr} {T : Addr} {ob : HO} (I : Inv X pins σ H s) (k : ∀ b o, b ∉ ch → s.heap.get? b = some o → h'.get? b = some o) (hf : ∀ b ∈ ch, FpOk X pins H b) (hT : s.heap.objs.size ≤ T)
    (new : ObjOk X.prog X.w (upd H T ob) h' T ob) : Inv X pins σ (upd H T ob) { s with heap := h', toks := t' } := by
  have hn : H T = none := I.hok.fresh hT
  have nit : ∀ b u, H b = some u → b ∉ ch := fun b u e z => by
    have q := (hf b z).1
    rw [q] at e; cases e
  refine I.step (g' := s.gens) (d' := s.drawn) (ch := ch) (fun b hb => ⟨(hf b hb).2.2.2.1, (hf b hb).2.1, (hf b hb).2.2.2.2.1, (hf b hb).2.2.2.2.2⟩) (fun b o _ _ hc e _ => k b o hc e) (fun b o _ _ hc e _ => ⟨o.slots, k b o hc e⟩)
    (fun b o _ e n => ?_) (fun b o hc e => ⟨o, k b o hc e⟩) (fun b xs e => ?_) (fun b o u e => ?_) (fun b ps e => ⟨#[], ?_⟩) (fun m hm => ?_) (fun b u e => ?_) I.bare
  · rw [upd_ne (Nat.ne_of_lt (Nat.lt_of_lt_of_le (Heap.lt_size e) hT))]; exact n
  · rw [upd_ne (ne_of_none e hn)]; exact e
  · rw [upd_ne (ne_of_none e hn)]; exact e
  · rw [upd_ne (ne_of_none e hn), e]; simp
  · obtain ⟨o, es, ep, ho, r⟩ := hm
    exact ⟨o, es, ep, k _ o (fun z => (hf _ z).2.1 rfl) ho, r⟩
  · by_cases hb : b = T
    · subst hb
      rw [upd_same] at e
      cases e
      exact new
    · rw [upd_ne hb] at e
      refine (I.hok b u e).stay (fun c v hc q => k c v ?_ q) (fun c q => by rw [upd_ne (ne_of_none q hn)]; exact q) fun c xs q => by rw [upd_ne (ne_of_none q hn)]; exact q
      rcases hc with z | z
      · rw [z]; exact nit b u e
      · exact nit c _ z
theorem Inv.lock {d : Addr} {u : HO} (I : Inv X pins σ H s) (h : H d = some u) (mu : Mut (some u)) : ∃ od, Inv X pins σ (upd H d (.frz od u)) s := by
  have x := I.hok d u h
  have ex : ∃ od, s.heap.get? d = some od := by
    cases u with
    | lst xs => obtain ⟨_, _, _, _, e⟩ := x; exact ⟨_, e⟩
    | dK kvs => obtain ⟨_, _, _, _, o, _, _, e, _⟩ := x; exact ⟨o, e⟩
    | dT kvs => obtain ⟨_, _, _, _, o, _, _, e, _⟩ := x; exact ⟨o, e⟩
    | set S n => obtain ⟨o, _, _, _, e, _⟩ := x; exact ⟨o, e⟩
    | ins C dx fs => obtain ⟨_, _, _, e, _⟩ := x; exact ⟨_, e⟩
    | ext φ => obtain ⟨_, ⟨_, e⟩, _⟩ := x; exact ⟨_, e⟩
    | _ => exact False.elim mu
  obtain ⟨od, e⟩ := ex
  have new : ObjOk X.prog X.w (upd H d (.frz od u)) s.heap d (.frz od u) := by
    refine ⟨e, x.stay (fun b v _ q => q) (fun b q => ?_) fun b xs q => ?_⟩
    · rw [upd_ne (fun z => by rw [z, h] at q; cases q; exact mu)]; exact q
    · rw [upd_ne (fun z => by rw [z, h] at q; cases q; exact mu)]; exact q
  exact ⟨od, I.write (x := d) (e := d) (t' := s.toks) (h' := s.heap) (by rw [h]; exact mu) (.inl rfl) (fun b v _ q => q) ⟨od, e⟩ new⟩
theorem Inv.nofrz {d : Addr} {u : HO} (I : Inv X pins σ H s) (h : H d = some u) (mu : Mut (some u)) : ∀ o' u', X.H_0 d ≠ some (.frz o' u') := fun o' u' e => by
  have q := I.base.frzs d o' u' e
  rw [h] at q
  cases q
  exact mu
theorem Inv.unlock {d : Addr} {od : Obj} {u : HO} (I : Inv X pins σ H s) (h : H d = some (.frz od u)) (hn : ∀ o' u', X.H_0 d ≠ some (.frz o' u')) : Inv X pins σ (upd H d u) s := by
  have neH : ∀ b o, H b = some o → (∀ o' u', o ≠ .frz o' u') → b ≠ d := fun b o e hne z => by
    rw [z, h] at e
    cases e
    exact hne _ _ rfl
  have neN : ∀ b, H b = none → b ≠ d := fun b e z => by rw [z, h] at e; cases e
  refine ⟨I.ok, I.os, I.bare, ⟨I.base.keep, I.base.slot, fun b o e n hx => ?_, I.base.there, fun b xs e => ?_, fun b o x e => ?_, fun b ps e => ?_⟩, I.loc, I.cell, ?_, fun x c e => ?_, fun p hp => ?_, fun b o e => ?_, I.len⟩
  · rw [upd_ne (neN b (I.base.free b o e n hx))]; exact I.base.free b o e n hx
  · have q := I.base.tups b xs e
    rw [upd_ne (neH b _ q (fun _ _ z => nomatch z))]; exact q
  · have q := I.base.frzs b o x e
    rw [upd_ne (fun z => by rw [z] at e; exact hn _ _ e)]; exact q
  · obtain ⟨m, q⟩ := I.base.tbls b ps e
    exact ⟨m, by rw [upd_ne (neH b _ q (fun _ _ z => nomatch z))]; exact q⟩
  · rw [upd_ne (neN _ I.free)]; exact I.free
  · rw [upd_ne (neN c (I.freeC x c e))]; exact I.freeC x c e
  · obtain ⟨e, n, r⟩ := I.pin p hp
    exact ⟨e, by rw [upd_ne (neN _ n)]; exact n, r⟩
  · by_cases hb : b = d
    · rw [hb, upd_same] at e
      cases e
      rw [hb]
      obtain ⟨_, x⟩ := I.hok d _ h
      exact x.stay (fun c v _ q => q) (fun c q => by rw [upd_ne (neH c _ q (fun _ _ z => nomatch z))]; exact q) fun c xs q => by rw [upd_ne (neH c _ q (fun _ _ z => nomatch z))]; exact q
    · rw [upd_ne hb] at e
      exact (I.hok b o e).stay (fun c v _ q => q) (fun c q => by rw [upd_ne (neH c _ q (fun _ _ z => nomatch z))]; exact q) fun c xs q => by rw [upd_ne (neH c _ q (fun _ _ z => nomatch z))]; exact q
end
def tLockE (t : TE) : TE := fun σ H Q => ∃ d u, H d = some u ∧ Mut (some u) ∧ ∀ od, t σ (upd H d (.frz od u)) fun v H' => H' d = some (.frz od u) ∧ Q v (upd H' d u)
section
variable {X : Cx}
theorem pe_lock {e : Expr} {t : TE} (h : PE X e t) : PE X e (tLockE t) := by
  intro pins s σ H Q I hw
  obtain ⟨d, u, hd, mu, hw⟩ := hw
  obtain ⟨od, I1⟩ := I.lock hd mu
  refine thn (h pins s σ _ _ I1 (hw od)) fun v s1 ⟨x, H1, I2, r, e2, q⟩ => ?_
  exact ⟨x, _, I2.unlock e2 (I.nofrz hd mu), r, q⟩
theorem pi_one {tg : Expr} {pins : List (Addr × Obj)} {σ : St} {H : Hp} {s : Shared} {R : It → Hp → Prop} {J : It} {tn : Nat → Heap → Prop} {tk : Nat} (I : Inv X pins σ H s) (o : Obj)
    (T : Turn X.prog X.w X.K tg J [s.heap.objs.size] s.heap.objs.size tn) (st : tn 0 (s.heap.push o)) (q : R J H) : PIE X pins σ tg R (.ref s.heap.objs.size) { s with heap := s.heap.push o, toks := tk } := by
  refine ⟨s.heap.objs.size, [s.heap.objs.size], tn, J, H, rfl, I.kept fun b ob e => Heap.get?_push_of_some _ e, T, st, fun b hb => ?_, q⟩
  have e : b = s.heap.objs.size := by simpa using hb
  subst e
  exact I.fpOk (Nat.le_refl _) (I.hok.fresh (Nat.le_refl _))
end
/-- lo, lo + c, .. (n of them) -/
def Itc (lo c : Int) (n : Nat) : It := ⟨fun i _ => i < n, fun i H x H' => H' = H ∧ x = .int (lo + (i : Nat) * c), fun i _ => n ≤ i⟩
theorem turn_rangeC {P : Program} {w : World} {K : PySem.W.Frag} {tg : Expr} (it : Addr) (lo c : Int) (n : Nat) : Turn P w K tg (Itc lo c n) [it] it (fun i h => IsRangeIter h it (lo + (i : Nat) * c) ((n : Int) - (i : Nat)) c) where
  mem := by simp
  obj := fun i h st b hb => by
    have e : b = it := by simpa using hb
    subst e
    exact ⟨_, st, fun v z => nomatch z⟩
  keep := fun i h h' st k => k it (by simp) _ st
  item := by
    intro X hP hw hK hc i pins s σ H E I hf st hg
    subst hP hw hK
    obtain ⟨f0, f1, f2, f3, f4, f5⟩ := hf it (by simp)
    have W := Walks.range (prog := X.prog) (w := X.w) (I.ok.hd hc) it lo c n
    refine W.item i s _ _ hg st fun v h' tk hv st' kk => ?_
    obtain ⟨t, rfl⟩ := hv
    have I1 : Inv X pins σ H { s with heap := h', toks := tk } := I.turned (fun b o hb e => kk b o (by simpa using hb) e) f0 f1 f3 f4 f5
    exact ⟨_, rfl, go_of (s := { s with heap := h', toks := tk }) (n := "range_iterator") st' rfl rfl (by decide) ⟨.int (lo + (i : Nat) * c), H, I1, ⟨t, rfl⟩, ⟨rfl, rfl⟩, st', fun b hb => (hf b hb).1⟩⟩
  done := by
    intro X hP hw hK hc i pins s σ H E I hf st hg
    subst hP hw hK
    obtain ⟨f0, f1, f2, f3, f4, f5⟩ := hf it (by simp)
    exact wpAny_pyNext_range_end (I.ok.hd hc) st (by have : n ≤ i := hg; omega) fun h' eb => ⟨rfl, I.turned (t' := s.toks) (fun b o hb e => eb b o hb e) f0 f1 f3 f4 f5⟩
  self := fun A i s Q E st h => wpAny_pyIter_rangeiter st h
/-- range(i, j, c): small bounds, n items -/
def RgC (i j c : Int) (n : Nat) : Prop := c ≠ 0 ∧ c.natAbs < 1073741824 ∧ Builtin.Range.small i j c = true ∧ Builtin.Range.rangeSize i j c = n
theorem RgC.neg {i j : Int} (ha : -(2 ^ 62) ≤ i) (ha' : i < 2 ^ 62) (hb : -(2 ^ 62) ≤ j) (hb' : j < 2 ^ 62) : RgC i j (-1) (i - j).toNat :=
  ⟨by decide, by decide, PySem.W.small_down ha ha' hb hb', PySem.W.rangeSize_downNat i j⟩
def iRng3 (ta : TA) : TI := fun σ H R => ta σ H fun vs H1 => ∃ (i j c : Int) (n : Nat), vs = [.int i, .int j, .int c] ∧ RgC i j c n ∧ R (Itc i c n) H1
section
variable {X : Cx} {tg : Expr}
theorem pi_range3 {a b c : Expr} {ta : TA} {p pos : Pos} (hg : Gl X "range") (hm : X.mg "range" = none) (ha : PA X [a, b, c] ta)
    (hs : starEach [a, b, c] X.env = (false, eval a X.env) :: starEach [b, c] X.env := by rfl) (hpl : (backTo pos (starEach [b, c] X.env)).any (·.1) = false := by rfl) :
    PI X tg (.Call (.Name "range" p) [a, b, c] [] pos) (iRng3 ta) := by
  intro pins s σ H R I h
  refine Call_ (ld_blt I hg hm boot_range (PyProof.Rows.callWith_type1 (thn (ha pos pins s σ H _ I h) fun us s1 ⟨vs, H1, I1, r1, q1⟩ => ?_) hs hpl))
  obtain ⟨i, j, k, n, e, ⟨c0, c1, c2, c3⟩, q⟩ := q1
  subst e
  cases r1 with
  | cons r rr =>
    cases rr with
    | cons r' rr =>
      cases rr with
      | cons r'' rr =>
        cases rr
        obtain ⟨t, rfl⟩ := r
        obtain ⟨t', rfl⟩ := r'
        obtain ⟨t'', rfl⟩ := r''
        refine call_range_3 c0 ?_ (.inl (PyProof.noPylong_small c1))
        refine wpAny_pyIter_range (IsRange.new ..) c2 ?_
        have I2 : Inv X pins σ H1 { s1 with heap := s1.heap.push { cls := .type "range", data := .fields #[.int i t, .int j t', .int k t''] } } := I1.kept (t' := s1.toks) fun b o e => Heap.get?_push_of_some _ e
        refine pi_one (tk := s1.toks) I2 _ (turn_rangeC _ i k n) ?_ q
        have e1 : i + ((0 : Nat) : Int) * k = i := by simp
        have e2 : (n : Int) - ((0 : Nat) : Int) = Builtin.Range.rangeSize i j k := by rw [c3]; simp
        show IsRangeIter _ _ (i + ((0 : Nat) : Int) * k) ((n : Int) - ((0 : Nat) : Int)) k
        rw [e1, e2]
        exact Heap.get?_push_size _ rfl
end
/-- the turns of a step range, for the for loop -/
theorem for_rangeC {lo c : Int} {n : Nat} {g : TG} {tb : TS} {D : Ends} {σ : St} {H : Hp} (Pv : Nat → St → Hp → Prop) (h0 : Pv 0 σ H)
    (hs : ∀ i σ H, i < n → Pv i σ H → g (.int (lo + (i : Nat) * c)) σ H fun σ2 H2 => tb { D with nx := Pv (i + 1), ct := Pv (i + 1), bk := D.nx } σ2 H2) (hd : ∀ σ H, Pv n σ H → D.nx σ H) :
    ∃ W : Nat → Nat → St → Hp → Prop, (∃ m, W 0 m σ H) ∧ ∀ i m σ H, W i m σ H →
      ((Itc lo c n).stop i H ∧ D.nx σ H) ∨ ((Itc lo c n).go i H ∧ ∃ N : St → Hp → Prop, (∀ σ' H', N σ' H' → ∃ m', m' < m ∧ W (i + 1) m' σ' H') ∧ ∀ x H', (Itc lo c n).yld i H x H' → g x σ H' fun σ2 H2 => tb { D with nx := N, ct := N, bk := D.nx } σ2 H2) := by
  refine ⟨fun i m σ H => m = n - i ∧ i ≤ n ∧ Pv i σ H, ⟨n, by simp, Nat.zero_le _, h0⟩, ?_⟩
  rintro i m σ H ⟨rfl, hi, p⟩
  by_cases hlt : i < n
  · refine .inr ⟨hlt, Pv (i + 1), fun σ' H' p' => ⟨n - (i + 1), by omega, rfl, hlt, p'⟩, fun x H' y => ?_⟩
    obtain ⟨e, y⟩ := y
    subst e y
    exact hs i σ _ hlt p
  · have e : i = n := by omega
    subst e
    exact .inl ⟨Nat.le_refl _, hd σ H p⟩
section
variable {X : Cx} {tg : Expr}
end
section
variable {prog : Program} {w : World} {A : Around} {E : Value → Shared → Prop} {s : Shared}
end
theorem kv_get {κ : Type} {kvs : List (κ × V)} {vs : List (κ × Value)} (h : KV kvs vs) : ∀ {i : Nat} {k : κ} {v : V}, kvs[i]? = some (k, v) → ∃ u, vs[i]? = some (k, u) ∧ RelV v u := by
  unfold KV at h
  induction h with
  | nil => intro i k v e; simp at e
  | @cons a b l₁ l₂ r t ih =>
    intro i k v e
    cases i with
    | zero =>
      simp only [List.getElem?_cons_zero, Option.some.injEq] at e
      subst e
      refine ⟨b.2, ?_, r.2⟩
      simp only [List.getElem?_cons_zero]
      exact congrArg some (Prod.ext r.1.symm rfl)
    | succ j =>
      simp only [List.getElem?_cons_succ] at e ⊢
      exact ih e
theorem paired_get {α β : Type} {G : α → β → Prop} {l₁ : List α} {l₂ : List β} (h : Paired G l₁ l₂) : ∀ {i : Nat} {a : α}, l₁[i]? = some a → ∃ b, l₂[i]? = some b ∧ G a b := by
  induction h with
  | nil => intro i a e; simp at e
  | @cons a b l₁ l₂ r t ih =>
    intro i a' e
    cases i with
    | zero =>
      simp only [List.getElem?_cons_zero, Option.some.injEq] at e
      subst e
      exact ⟨b, rfl, r⟩
    | succ j =>
      simp only [List.getElem?_cons_succ] at e ⊢
      exact ih e
theorem relV_key {k : Key} {u : Value} (h : keyIs k u = true) : RelV (kV k) u := by
  rcases keyIs_shape h with ⟨i, t, rfl, rfl⟩ | ⟨x, t, rfl, rfl⟩
  · exact ⟨t, rfl⟩
  · exact ⟨t, rfl⟩
section
variable {X : Cx} {pins : List (Addr × Obj)} {σ : St} {H : Hp} {s : Shared} {d : Addr} {o : Obj}
theorem Inv.frzK {kvs : List (Key × V)} (I : Inv X pins σ H s) (h : H d = some (.frz o (.dK kvs))) :
    (d == sysModules) = false ∧ s.heap.get? d = some o ∧ o.ExactDict ∧ ∃ (es : Array DictEntry) (ep : Nat) (vs : List (Key × Value)), o.data = .dict es ep ∧ es.size = kvs.length ∧ KV kvs vs ∧ s.heap.DictAt (mixKind X.prog X.w) d vs ep := by
  obtain ⟨hd, z, hs, vs, kv, o', es, ep, ho, hx, hdt, r⟩ := I.hok d _ h
  rw [hd] at ho
  cases ho
  refine ⟨hs, hd, hx, es, ep, vs, hdt, ?_, kv, o, es, hd, hx, hdt, r⟩
  have l1 := r.2.1.length
  have l2 : kvs.length = vs.length := Paired.length kv
  rw [Array.length_toList] at l1
  omega
end
/-- the values -/
def Itd (d : Addr) (o : Obj) (kvs : List (Key × V)) : It :=
  ⟨fun i H => H d = some (.frz o (.dK kvs)) ∧ i < kvs.length, fun i H x H' => H' = H ∧ ∃ k, kvs[i]? = some (k, x), fun i H => H d = some (.frz o (.dK kvs)) ∧ kvs.length ≤ i⟩
/-- the pairs, each a new tuple -/
def Iti (d : Addr) (o : Obj) (kvs : List (Key × V)) : It :=
  ⟨fun i H => H d = some (.frz o (.dK kvs)) ∧ i < kvs.length, fun i H x H' => ∃ T k v, kvs[i]? = some (k, v) ∧ x = .ref T ∧ H T = none ∧ H' = upd H T (.tup [kV k, v]), fun i H => H d = some (.frz o (.dK kvs)) ∧ kvs.length ≤ i⟩
theorem dict_ep {o : Obj} {es es' : Array DictEntry} {ep ep' : Nat} (h : o.data = .dict es ep) (h' : o.data = .dict es' ep') : es' = es ∧ ep' = ep := by
  rw [h] at h'
  cases h'
  exact ⟨rfl, rfl⟩
section
variable {P : Program} {w : World} {K : PySem.W.Frag} {tg : Expr} {d : Addr} {o : Obj} {es : Array DictEntry} {ep : Nat}
theorem turn_vals {kvs : List (Key × V)} (it : Addr) (hod : o.data = .dict es ep) : Turn P w K tg (Itd d o kvs) [it] it (fun i h => h.IsValIter it d i kvs.length ep) where
  mem := by simp
  obj := fun i h st b hb => by
    have e : b = it := by simpa using hb
    subst e
    obtain ⟨oi, e, c, dd⟩ := st
    exact ⟨oi, e, fun v z => by rw [dd] at z; cases z⟩
  keep := fun i h h' st k => st.at fun oi e => k it (by simp) oi e
  item := by
    intro X hP hw hK hc i pins s σ H E I hf st hg
    subst hP hw hK
    obtain ⟨hd, hi⟩ := hg
    obtain ⟨f0, f1, f2, f3, f4, f5⟩ := hf it (by simp)
    obtain ⟨hs, hgd, hx, es', ep', vs, hdt, hsz, kv, hm⟩ := I.frzK hd
    obtain ⟨rfl, rfl⟩ := dict_ep hod hdt
    obtain ⟨⟨k, v⟩, hkv⟩ : ∃ p, kvs[i]? = some p := ⟨kvs[i], List.getElem?_eq_getElem hi⟩
    obtain ⟨u, hu, ru⟩ := kv_get kv hkv
    have hl : kvs.length = vs.length := Paired.length kv
    rw [hl] at st
    refine wpAny_pyNext_values_item st hm hu fun h' st' sb => ?_
    have I1 : Inv X pins σ H { s with heap := h' } := I.turned (t' := s.toks) (fun b ob hb e => (sb.2 b hb).trans e) f0 f1 f3 f4 f5
    obtain ⟨oi, e, c, dd⟩ := id st'
    refine ⟨u, rfl, go_of (s := { s with heap := h' }) e c dd (by decide) ⟨v, H, I1, ru, ⟨rfl, k, hkv⟩, ?_, fun b hb => (hf b hb).1⟩⟩
    show h'.IsValIter it d (i + 1) kvs.length _
    rw [hl]
    exact st'
  done := by
    intro X hP hw hK hc i pins s σ H E I hf st hg
    subst hP hw hK
    obtain ⟨hd, hi⟩ := hg
    obtain ⟨f0, f1, f2, f3, f4, f5⟩ := hf it (by simp)
    obtain ⟨hs, hgd, hx, es', ep', vs, hdt, hsz, kv, hm⟩ := I.frzK hd
    obtain ⟨rfl, rfl⟩ := dict_ep hod hdt
    have hl : kvs.length = vs.length := Paired.length kv
    rw [hl] at st
    exact wpAny_pyNext_values_end (I.ok.hd hc) st hm (List.getElem?_eq_none (by omega)) fun h' eb => ⟨rfl, I.turned (t' := s.toks) (fun b ob hb e => eb b ob hb e) f0 f1 f3 f4 f5⟩
  self := fun A i s Q E st h => wpAny_pyIter_valiter st h
theorem turn_items {kvs : List (Key × V)} {elts : List Expr} {kk : Nat} {tpos : Pos} (it : Addr) (hod : o.data = .dict es ep) :
    Turn P w K (.Tuple elts kk tpos) (Iti d o kvs) [it] it (fun i h => ∃ ok ov, IsItemIter h it d i kvs.length ep ok ov) where
  mem := by simp
  obj := fun i h st b hb => by
    have e : b = it := by simpa using hb
    subst e
    obtain ⟨ok, ov, e⟩ := st
    exact ⟨_, e, fun v z => nomatch z⟩
  keep := fun i h h' st k => let ⟨ok, ov, e⟩ := st; ⟨ok, ov, k it (by simp) _ e⟩
  item := by
    intro X hP hw hK hc i pins s σ H E I hf st hg
    subst hP hw hK
    obtain ⟨hd, hi⟩ := hg
    obtain ⟨hs, hgd, hx, es', ep', vs, hdt, hsz, kv, hm⟩ := I.frzK hd
    obtain ⟨rfl, rfl⟩ := dict_ep hod hdt
    obtain ⟨⟨k, v⟩, hkv⟩ : ∃ p, kvs[i]? = some p := ⟨kvs[i], List.getElem?_eq_getElem hi⟩
    obtain ⟨u, hu, ru⟩ := kv_get kv hkv
    have hl : kvs.length = vs.length := Paired.length kv
    obtain ⟨ok, ov, he⟩ := st
    rw [hl] at he
    have hlt : it < s.heap.objs.size := Heap.lt_size he
    refine wpAny_pyNext_items_item he hm hu fun key h' hkey ho hT hz hk => ?_
    refine ⟨_, rfl, wpAny_letOwnedTupleGo_items (s := { s with heap := h' }) ho fun h'' he' sb => ?_⟩
    have hT2 : h''.get? s.heap.objs.size = some { cls := .type "tuple", data := .seq #[key, u] } := (sb.2 _ (Nat.ne_of_gt hlt)).trans hT
    have new : ObjOk X.prog X.w (upd H s.heap.objs.size (.tup [kV k, v])) h'' s.heap.objs.size (.tup [kV k, v]) :=
      ⟨by show 2 ≤ sizeLine; decide, [key, u], .cons (relV_key (show keyIs k key = true from hkey)) (.cons ru .nil), ⟨_, hT2, rfl, _, rfl⟩⟩
    have I1 : Inv X pins σ (upd H s.heap.objs.size (.tup [kV k, v])) { s with heap := h'' } :=
      I.turnedNew (t' := s.toks) (ch := [it]) (fun b ob hb e => (sb.2 b (by simpa using hb)).trans (hk b ob (by simpa using hb) e)) hf (Nat.le_refl _) new
    refine ⟨.ref s.heap.objs.size, _, I1, rfl, ⟨_, k, v, hkv, rfl, I.hok.fresh (Nat.le_refl _), rfl⟩, ⟨key, u, ?_⟩, fun b hb => ?_⟩
    · rw [hl]; exact he'
    · have e : b = it := by simpa using hb
      rw [e, upd_ne (Nat.ne_of_lt hlt)]
      exact (hf it (by simp)).1
  done := by
    intro X hP hw hK hc i pins s σ H E I hf st hg
    subst hP hw hK
    obtain ⟨hd, hi⟩ := hg
    obtain ⟨f0, f1, f2, f3, f4, f5⟩ := hf it (by simp)
    obtain ⟨hs, hgd, hx, es', ep', vs, hdt, hsz, kv, hm⟩ := I.frzK hd
    obtain ⟨rfl, rfl⟩ := dict_ep hod hdt
    have hl : kvs.length = vs.length := Paired.length kv
    obtain ⟨ok, ov, he⟩ := st
    rw [hl] at he
    exact wpAny_pyNext_items_end (I.ok.hd hc) he hm (List.getElem?_eq_none (by omega)) fun h' eb => ⟨rfl, I.turned (t' := s.toks) (fun b ob hb e => eb b ob hb e) f0 f1 f3 f4 f5⟩
  self := fun A i s Q E st h => let ⟨_, _, e⟩ := st; PySem.W.kcp_self e h
end
def iItems (td : TE) : TI := fun σ H R => td σ H fun x H1 => ∃ d o kvs, x = .ref d ∧ H1 d = some (.frz o (.dK kvs)) ∧ R (Iti d o kvs) H1
section
variable {X : Cx} {tg e : Expr} {td : TE} {apos cpos : Pos}
theorem pi_items {elts : List Expr} {kk : Nat} {tpos : Pos} (he : PE X e td) (hbase : attributeBase e "items" X.env (eval e X.env) = eval e X.env := by rfl) (hline : (apos.endLine == cpos.line) = true := by rfl) :
    PI X (.Tuple elts kk tpos) (.Call (.Attribute e "items" apos) [] [] cpos) (iItems td) := by
  intro pins s σ H R I h
  refine wpAny_Call_method (T := "dict") (id := "dict.items") hbase rfl hline F.plainAttrs_dict F.slot_dict_items F.type_dict_items (thn (he pins s σ H _ I h) fun u s1 ⟨x, H1, I1, rx, d, o, kvs, ex, hd, q⟩ => ?_)
  subst ex
  obtain rfl : u = Value.ref d := rx
  obtain ⟨hs, hgd, hx, es, ep, vs, hdt, hsz, kv, hm⟩ := I1.frzK hd
  have hl : kvs.length = vs.length := Paired.length kv
  refine ⟨hm.dictOf.typeIs, hm.dictOf.mapOf.noDict, ?_⟩
  have I2 : Inv X pins σ H1 { s1 with heap := s1.heap.push { cls := .type "dict_items", data := .fields #[.ref d] } } := I1.kept (t' := s1.toks) fun b ob q => Heap.get?_push_of_some _ q
  have fin : wpAny (model X.prog X.w) X.A (pyIter (.ref s1.heap.objs.size)) (PIE X pins σ (.Tuple elts kk tpos) R) X.xe { s1 with heap := s1.heap.push { cls := .type "dict_items", data := .fields #[.ref d] } } := by
    refine wpAny_pyIter_items (d := d) (knd := mixKind X.prog X.w) ⟨_, Heap.get?_push_size _ rfl, rfl, rfl⟩ (hm.push _) (pi_one (tk := s1.toks) I2 _ (turn_items _ hdt) ⟨.none, .none, ?_⟩ q)
    rw [hl]
    exact Heap.get?_push_size _ rfl
  show wpAny _ _ (callWith cpos (.builtin "dict.items") [.ref d] [] []) _ X.xe s1
  exact method_meetsIn F.slot_dict_items F.entry_dict_items rfl (PySem.evalArgs_none ⟨rfl, hm.dictOf.typeIs, F.args_dict_items_1 _, _, meets_dict_items (mixKind X.prog X.w) d hs, ⟨vs, hm.dictOf⟩, fin⟩)
end
theorem boot_zip5 : bootBuiltins "zip" = some (.type "zip") := by decide +kernel
/-- the lists at a and b as they stand at each turn, the items in new pairs -/
def Itz (K : PySem.W.Frag) (a b : Addr) : It :=
  ⟨fun i H => ∃ (xs ys : List V) (x y : V), SqL K H a xs ∧ SqL K H b ys ∧ xs[i]? = some x ∧ ys[i]? = some y,
    fun i H v H' => ∃ T x y, v = .ref T ∧ H T = none ∧ H' = upd H T (.tup [x, y]) ∧ (∀ xs, SqL K H a xs → xs[i]? = some x) ∧ ∀ ys, SqL K H b ys → ys[i]? = some y,
    fun i H => ∃ xs ys : List V, SqL K H a xs ∧ SqL K H b ys ∧ (xs.length ≤ i ∨ ys.length ≤ i)⟩
theorem turn_zip {P : Program} {w : World} {K : PySem.W.Frag} {elts : List Expr} {kk : Nat} {tpos : Pos} {a b z TI TO i1 i2 : Addr} (D : ZipApart z TI TO i1 i2 a b) :
    Turn P w K (.Tuple elts kk tpos) (Itz K a b) [z, TI, TO, i1, i2] z (fun i h => IsZip h z TI TO .none ∧ IsPair h TI (.ref i1) (.ref i2) ∧ (∃ x y, IsPair h TO x y) ∧ h.IsListIter i1 a i ∧ h.IsListIter i2 b i) where
  mem := by simp
  obj := fun i h st c hc => by
    obtain ⟨hz, hTI, ⟨x, y, hTO⟩, ⟨o1, e1, _, d1⟩, ⟨o2, e2, _, d2⟩⟩ := st
    have e' : c = z ∨ c = TI ∨ c = TO ∨ c = i1 ∨ c = i2 := by simpa using hc
    rcases e' with q | q | q | q | q
    · rw [q]; exact ⟨_, hz, fun v q => nomatch q⟩
    · rw [q]; exact ⟨_, hTI, fun v q => nomatch q⟩
    · rw [q]; exact ⟨_, hTO, fun v q => nomatch q⟩
    · rw [q]; exact ⟨o1, e1, fun v q => by rw [d1] at q; cases q⟩
    · rw [q]; exact ⟨o2, e2, fun v q => by rw [d2] at q; cases q⟩
  keep := fun i h h' st k => by
    obtain ⟨hz, hTI, ⟨x, y, hTO⟩, h1, h2⟩ := st
    exact ⟨k z (by simp) _ hz, k TI (by simp) _ hTI, ⟨x, y, k TO (by simp) _ hTO⟩, h1.at fun o q => k i1 (by simp) o q, h2.at fun o q => k i2 (by simp) o q⟩
  item := by
    intro X hP hw hK hc i pins s σ H E I hf st hg
    subst hP hw hK
    obtain ⟨hz, hTI, ⟨x0, y0, hTO⟩, h1, h2⟩ := st
    obtain ⟨xs, ys, x, y, hqx, hqy, hx, hy⟩ := hg
    obtain ⟨its, rv, p, _⟩ := I.list hqx
    obtain ⟨its2, rv2, p2, _⟩ := I.list hqy
    obtain ⟨u, hu, ru⟩ := rv.get hx
    obtain ⟨u2, hu2, ru2⟩ := rv2.get hy
    have hzl : z < s.heap.objs.size := Heap.lt_size hz
    refine wpAny_pyNext_zip_item D hz hTI hTO h1 h2 p.isList p2.isList (x := u) (y := u2) (by simpa using hu) (by simpa using hu2) fun h' z' TO' h1' h2' hT hsz hk => ?_
    refine ⟨_, rfl, wpAny_letOwnedTupleGo_zip (s := { s with heap := h' }) z' fun h'' z'' sb => ?_⟩
    have hT2 : h''.get? s.heap.objs.size = some { cls := .type "tuple", data := .seq #[u, u2] } := (sb.2 _ (Nat.ne_of_gt hzl)).trans hT
    have new : ObjOk X.prog X.w (upd H s.heap.objs.size (.tup [x, y])) h'' s.heap.objs.size (.tup [x, y]) :=
      ⟨by show 2 ≤ sizeLine; decide, [u, u2], .cons ru (.cons ru2 .nil), ⟨_, hT2, rfl, _, rfl⟩⟩
    have I1 : Inv X pins σ (upd H s.heap.objs.size (.tup [x, y])) { s with heap := h'' } :=
      I.turnedNew (t' := s.toks) (ch := [z, TI, TO, i1, i2]) (fun c o hb q => (sb.2 c (fun q' => hb (by simp [q']))).trans (hk c o (fun q' => hb (by simp [q'])) (fun q' => hb (by simp [q'])) (fun q' => hb (by simp [q'])) (fun q' => hb (by simp [q'])) q)) hf (Nat.le_refl _) new
    refine ⟨.ref s.heap.objs.size, _, I1, rfl, ⟨_, x, y, rfl, I.hok.fresh (Nat.le_refl _), rfl, fun l hl => by rw [I.list_inj hl hqx]; exact hx, fun l hl => by rw [I.list_inj hl hqy]; exact hy⟩, ⟨z'', ?_, ⟨u, u2, ?_⟩, ?_, ?_⟩, fun c hcm => ?_⟩
    · exact (sb.2 _ D.TIz).trans (hk _ _ D.TIz D.TITO D.TIi1 D.TIi2 hTI)
    · exact (sb.2 _ D.TOz).trans TO'
    · exact h1'.at fun o q => (sb.2 _ D.i1z).trans q
    · exact h2'.at fun o q => (sb.2 _ D.i2z).trans q
    · have hlt : c < s.heap.objs.size := by
        have e' : c = z ∨ c = TI ∨ c = TO ∨ c = i1 ∨ c = i2 := by simpa using hcm
        rcases e' with q | q | q | q | q
        · rw [q]; exact hzl
        · rw [q]; exact Heap.lt_size hTI
        · rw [q]; exact Heap.lt_size hTO
        · rw [q]; obtain ⟨_, e1, _⟩ := h1; exact Heap.lt_size e1
        · rw [q]; obtain ⟨_, e2, _⟩ := h2; exact Heap.lt_size e2
      rw [upd_ne (Nat.ne_of_lt hlt)]
      exact (hf c hcm).1
  done := by
    intro X hP hw hK hc i pins s σ H E I hf st hg
    subst hP hw hK
    obtain ⟨hz, hTI, ⟨x0, y0, hTO⟩, h1, h2⟩ := st
    obtain ⟨xs, ys, hqx, hqy, hend⟩ := hg
    obtain ⟨its, rv, p, _⟩ := I.list hqx
    obtain ⟨its2, rv2, p2, _⟩ := I.list hqy
    have l1 := rv.length
    have l2 := rv2.length
    have he : its.toArray[i]? = none ∨ its2.toArray[i]? = none := by
      rcases hend with q | q
      · exact .inl (by simp; omega)
      · exact .inr (by simp; omega)
    exact wpAny_pyNext_zip_end (I.ok.hd hc) D hz hTI hTO h1 h2 p.isList p2.isList he fun h' hk => ⟨rfl, I.turnedL (t' := s.toks) (ch := [z, TI, TO, i1, i2]) (fun c o hb q =>
      hk c o (fun q' => hb (by simp [q'])) (fun q' => hb (by simp [q'])) (fun q' => hb (by simp [q'])) (fun q' => hb (by simp [q'])) q) hf⟩
  self := fun A i s Q E st h => wpAny_pyIter_zip st.1 h
def iZip (K : PySem.W.Frag) (ta : TA) : TI := fun σ H R => ta σ H fun vs H1 => ∃ a b xs ys, vs = [.ref a, .ref b] ∧ SqL K H1 a xs ∧ SqL K H1 b ys ∧ R (Itz K a b) H1
theorem pi_zip {X : Cx} {e e2 : Expr} {ta : TA} {p pos tpos : Pos} {elts : List Expr} {kk : Nat} (hg : Gl X "zip") (hm : X.mg "zip" = none) (ha : PA X [e, e2] ta)
    (hs : starEach [e, e2] X.env = (false, eval e X.env) :: starEach [e2] X.env := by rfl) (hpl : (backTo pos (starEach [e2] X.env)).any (·.1) = false := by rfl) :
    PI X (.Tuple elts kk tpos) (.Call (.Name "zip" p) [e, e2] [] pos) (iZip X.K ta) := by
  intro pins s σ H R I h
  refine Call_ (ld_blt I hg hm boot_zip5 (PyProof.Rows.callWith_type1 (thn (ha pos pins s σ H _ I h) fun us s1 ⟨vs, H1, I1, r1, q1⟩ => ?_) hs hpl))
  obtain ⟨a, b, xs, ys, ex, hqx, hqy, q⟩ := q1
  subst ex
  cases r1 with
  | cons r rr =>
    cases rr with
    | cons r' rr =>
      cases rr
      cases r
      cases r'
      obtain ⟨its, rv, p1, _⟩ := I1.list hqx
      obtain ⟨its2, rv2, p2, _⟩ := I1.list hqy
      have la : a < s1.heap.objs.size := p1.lt
      have lb : b < s1.heap.objs.size := p2.lt
      refine call_zip_2 p1.isList p2.isList fun h' hz hTI hTO h1 h2 hsz hk => wpAny_pyIter_zip hz ?_
      have I2 : Inv X pins σ H1 { s1 with heap := h' } := I1.kept (t' := s1.toks) hk
      refine ⟨s1.heap.objs.size + 4, [s1.heap.objs.size + 4, s1.heap.objs.size + 2, s1.heap.objs.size + 3, s1.heap.objs.size, s1.heap.objs.size + 1], _, _, H1, rfl, I2, turn_zip (PySem.W.ktu_apart s1.heap.objs.size a b la lb), ⟨hz, hTI, ⟨_, _, hTO⟩, h1, h2⟩, fun c hcm => ?_, q⟩
      have e' : c = s1.heap.objs.size + 4 ∨ c = s1.heap.objs.size + 2 ∨ c = s1.heap.objs.size + 3 ∨ c = s1.heap.objs.size ∨ c = s1.heap.objs.size + 1 := by simpa using hcm
      have hle : s1.heap.objs.size ≤ c := by
        rcases e' with z | z | z | z | z
        · rw [z]; exact Nat.le_add_right _ _
        · rw [z]; exact Nat.le_add_right _ _
        · rw [z]; exact Nat.le_add_right _ _
        · rw [z]; exact Nat.le_refl _
        · rw [z]; exact Nat.le_add_right _ _
      exact I1.fpOk hle (I1.hok.fresh hle)
end L2
section 
namespace Bits
open PySem PyProof.Rows
end Bits
end 
section 
namespace TL
open PySem PySem.Builtin PySem.Builtin.Str PySem.StrLaws
abbrev tl (x : Str) : List Nat := x.cps.toList
theorem ext_tl {x y : Str} (h : tl x = tl y) : x = y := Str.ext' (Array.toList_inj.mp h)
theorem tl_append (x y : Str) : tl (x ++ y) = tl x ++ tl y := by
  show (x ++ y).cps.toList = _
  rw [Str.cps_append, Array.toList_append]
theorem mk_tl (x : Str) : (⟨(tl x).toArray⟩ : Str) = x := ext_tl rfl
/-- joined lists -/
def joinL (S : List Nat) : List (List Nat) → List Nat
  | [] => []
  | [p] => p
  | p :: q :: r => p ++ (S ++ joinL S (q :: r))
theorem tl_join (y : Str) : ∀ parts : List Str, tl (Str.join y parts) = joinL (tl y) (parts.map tl)
  | [] => rfl
  | [_] => rfl
  | x :: z :: r => by
    show tl (x ++ y ++ Str.join y (z :: r)) = tl x ++ (tl y ++ joinL (tl y) ((z :: r).map tl))
    rw [tl_append, tl_append, tl_join y (z :: r), List.append_assoc]
theorem join_eq (y : Str) (parts : List Str) : Txt.join y parts = Str.join y parts := glued_eq_join y parts
/-- the signs of a number -/
def numL (n : Nat) : List Nat := (Nat.toDigits 10 n).map Char.toNat
theorem tl_num (n : Nat) : tl (Str.ofString (toString ((n : Nat) : Int))) = numL n := PySem.W.KIN.signs_num n
theorem digitChar_nat : ∀ d : Nat, d < 10 → (Nat.digitChar d).toNat = 48 + d := by decide
theorem numL_lt {n : Nat} (h : n < 10) : numL n = [48 + n] := by
  unfold numL
  rw [Nat.toDigits_of_lt_base h]
  show [(Nat.digitChar n).toNat] = _
  rw [digitChar_nat n h]
theorem numL_step {n : Nat} (h : 10 ≤ n) : numL n = numL (n / 10) ++ [48 + n % 10] := by
  have hm : n % 10 < 10 := Nat.mod_lt n (by decide)
  have t : Nat.toDigits 10 (n / 10) ++ Nat.toDigits 10 (n % 10) = Nat.toDigits 10 (10 * (n / 10) + n % 10) := Nat.toDigits_append_toDigits (by decide) (by omega) hm
  rw [Nat.div_add_mod] at t
  show (Nat.toDigits 10 n).map Char.toNat = _
  rw [← t, List.map_append, Nat.toDigits_of_lt_base hm]
  show (Nat.toDigits 10 (n / 10)).map Char.toNat ++ [(Nat.digitChar (n % 10)).toNat] = _
  rw [digitChar_nat _ hm] <;> rfl
end TL
end 
namespace L2
open PySem PySem.Spec PyProof.Rows
theorem strs_of_vals : ∀ {ys : List Str} {us : List Value}, Vals (ys.map V.str) us → StrsAre us ys
  | [], _, .nil => .nil
  | y :: ys, _, .cons r t => by
    obtain ⟨k, rfl⟩ := r
    exact .cons y k (strs_of_vals t)
section
variable {X : Cx} {pins : List (Addr × Obj)} {σ : St} {H : Hp} {s : Shared} {Q : VK}
end
section
variable {X : Cx}
/-- sep.join(a list | a tuple of texts) -/
theorem mt_join : MtR X "str.join" (fun x xs H Q => ∃ a p, ∃ ys : List Str, x = .str a ∧ xs = [.ref p] ∧ (SqL X.K H p (ys.map V.str) ∨ SqT X.K H p (ys.map V.str)) ∧
    (ys.map (·.length)).sum + ys.length * a.length ≤ 16777216 ∧ Q (.str (Txt.join a ys)) H) := by
  intro pins s σ H x xs v us Q I rx rs h
  obtain ⟨a, p, ys, rfl, rfl, hp, hz, h⟩ := h
  obtain ⟨t, rfl⟩ := rx
  cases rs with
  | cons r1 rs =>
    cases rs
    cases r1
    rcases hp with hp | hp
    · obtain ⟨its, r, ⟨o, n, ho, hc, _, hd⟩, _⟩ := I.list hp
      exact PyProof.Rows.join_list (items := its.toArray) ⟨o, ho, hc, n, hd⟩ (by rw [List.toList_toArray]; exact strs_of_vals r) hz fun t' k => ⟨.str _, H, I.tok k, ⟨t', rfl⟩, h⟩
    · obtain ⟨its, r, ht, _⟩ := I.tuple hp
      exact PyProof.Rows.join_tuple (items := its.toArray) ht (by rw [List.toList_toArray]; exact strs_of_vals r) hz fun t' k => ⟨.str _, H, I.tok k, ⟨t', rfl⟩, h⟩
theorem mt1 {id : String} {g : Str → Str → V} (rule : ∀ (a b : Str) (t u : Tok) (s : Shared) (Q : Value → Shared → Prop), (∀ (v : Value) (k : Nat), RelV (g a b) v → Q v { s with toks := k }) →
    wpAny (model X.prog X.w) X.A (call (.builtin id) [.str a t, .str b u]) Q X.xe s) : MtR X id (fun x xs H Q => ∃ a b, x = .str a ∧ xs = [.str b] ∧ Q (g a b) H) := by
  intro pins s σ H x xs v us Q I rx rs h
  obtain ⟨a, b, rfl, rfl, h⟩ := h
  obtain ⟨t, rfl⟩ := rx
  cases rs with
  | cons r1 rs =>
    cases rs
    obtain ⟨u, rfl⟩ := r1
    exact rule a b t u s _ fun v k r => ⟨g a b, H, I.tok k, r, h⟩
theorem mt_startswith : MtR X "str.startswith" (fun x xs H Q => ∃ a b, x = .str a ∧ xs = [.str b] ∧ Q (.bl (Txt.startswith a b)) H) :=
  mt1 (g := fun a b => .bl (Txt.startswith a b)) fun _ _ _ _ s _ h => PySem.SC.startswith (h _ s.toks rfl)
end
section
variable {X : Cx} {o e : Expr} {to te : TE}
def tM1 (r : V → List V → Hp → VK → Prop) (to te : TE) : TE := fun σ H Q => to σ H fun x H1 => (∃ a, x = .str a) ∧ te σ H1 fun y H2 => r x [y] H2 Q
theorem pe_m1 {id : String} {name : Str} {apos pos : Pos} {r : V → List V → Hp → VK → Prop} (slot : Slot "str" name id) (ty : typeOf (.builtin id) = pure (.type "method_descriptor")) (rule : MtR X id r) (ho : PE X o to) (he : PE X e te)
    (hs : starEach [e] X.env = [(false, eval e X.env)] := by rfl) (hbase : attributeBase o name X.env (eval o X.env) = eval o X.env := by rfl) (hline : (apos.endLine == pos.line) = true := by rfl) :
    PE X (.Call (.Attribute o name apos) [e] [] pos) (tM1 r to te) := by
  intro pins s σ H Q I h
  refine PySem.Call_method1 hbase hs hline (thn (ho pins s σ H _ I h) fun v s1 ⟨x, H1, I1, r1, q1⟩ => ?_)
  obtain ⟨⟨a, rfl⟩, q1⟩ := q1
  obtain ⟨t, rfl⟩ := _root_.id r1
  refine ⟨"str", _, F.plainAttrs_str, slot, ty, typeIs_str _ _ _, (fun _ e => nomatch e), Calls.callWith_builtin rfl (Calls.evalArgs_plain (Calls.spliced_cons ?_))⟩
  exact thn (he pins s1 σ H1 _ I1 q1) fun u s2 ⟨y, H2, I2, r2, q2⟩ => Calls.spliced_nil (rule pins s2 σ H2 _ [y] _ [u] Q I2 r1 (.cons r2 .nil) q2)
theorem pe_join {apos pos : Pos} (ho : PE X o to) (he : PE X e te) (hs : starEach [e] X.env = [(false, eval e X.env)] := by rfl) (hbase : attributeBase o "join" X.env (eval o X.env) = eval o X.env := by rfl) (hline : (apos.endLine == pos.line) = true := by rfl) :
    PE X (.Call (.Attribute o "join" apos) [e] [] pos) (tM1 (fun x xs H Q => ∃ a p, ∃ ys : List Str, x = .str a ∧ xs = [.ref p] ∧ (SqL X.K H p (ys.map V.str) ∨ SqT X.K H p (ys.map V.str)) ∧
      (ys.map (·.length)).sum + ys.length * a.length ≤ 16777216 ∧ Q (.str (Txt.join a ys)) H) to te) :=
  pe_m1 F.slot_str_join F.type_str_join mt_join ho he hs hbase hline
end
end L2
namespace L2
open PySem PySem.Spec PyProof.Rows
section
variable {X : Cx}
end
theorem IsPart.raw {v : Value} {o : Option Int} (p : IsPart v o) : ∃ l : Option (Int × Tok), v = partValue l ∧ l.map (·.1) = o := by
  cases p with
  | none => exact ⟨none, rfl, rfl⟩
  | int i t => exact ⟨some (i, t), rfl, rfl⟩
/-- a part, clipped, as the text's slice reckons it -/
def clipS (n d : Nat) : Option Int → Int
  | none => (d : Int)
  | some i => max 0 (min (if i < 0 then i + (n : Int) else i) (n : Int))
theorem clipS_eq (n d : Nat) (o : Option Int) : clipS n d o = ((HT.sIx n d o : Nat) : Int) := by
  cases o with
  | none => rfl
  | some v =>
    show max (0 : Int) (min (if v < 0 then v + (n : Int) else v) (n : Int)) = (((if v < 0 then (v + (n : Int)).toNat else min v.toNat n) : Nat) : Int)
    by_cases hv : v < 0
    · simp only [if_pos hv]
      omega
    · simp only [if_neg hv]
      omega
theorem sidx_clip (a b : Option Int) (n : Nat) : Builtin.Str.strSliceIndices a b 1 n = sliceRange (clipS n 0 a) (clipS n n b) 1 := by
  have h1 : ((1 : Int) > 0) = True := by simp
  cases a <;> cases b <;> first
    | rfl
    | (simp only [Builtin.Str.strSliceIndices, clipS, h1, if_true]; rfl)
    | simp [Builtin.Str.strSliceIndices, clipS]
theorem sidx (a b : Option Int) (n : Nat) : Builtin.Str.strSliceIndices a b 1 n = (List.range (HT.sIx n n b - HT.sIx n 0 a)).map (fun k => HT.sIx n 0 a + k) := by
  rw [sidx_clip, clipS_eq, clipS_eq]
  generalize HT.sIx n 0 a = p
  generalize HT.sIx n n b = q
  simp only [sliceRange, show ((1 : Int) > 0) = True from by simp, if_true]
  by_cases hlt : (p : Int) < q
  · have e3 : (((q : Int) - p + 1 - 1) / 1).toNat = q - p := by first | omega | (simp; done) | (simp; omega)
    simp only [hlt, if_true, e3]
    refine List.map_congr_left fun k _ => ?_
    omega
  · have : q - p = 0 := by omega
    simp [hlt, this]
/-- z[lo:hi] -/
def cutS (z : Str) (lo hi : Option Int) : Str :=
  ⟨((z.cps.toList.drop (HT.sIx z.length 0 lo)).take (HT.sIx z.length z.length hi - HT.sIx z.length 0 lo)).toArray⟩
theorem sliceText_cut (z : Str) (lo hi : Option Int) : PySem.StrLaws.sliceText z lo hi = cutS z lo hi := by
  have h1 : HT.sIx z.length 0 lo ≤ z.length := HT.sIx_le _ _ (Nat.zero_le _) _
  have h2 : HT.sIx z.length z.length hi ≤ z.length := HT.sIx_le _ _ (Nat.le_refl _) _
  have hp : HT.sIx z.length 0 lo ≤ max (HT.sIx z.length 0 lo) (HT.sIx z.length z.length hi) := Nat.le_max_left _ _
  have hq : max (HT.sIx z.length 0 lo) (HT.sIx z.length z.length hi) ≤ z.length := Nat.max_le.mpr ⟨h1, h2⟩
  have hd : max (HT.sIx z.length 0 lo) (HT.sIx z.length z.length hi) - HT.sIx z.length 0 lo = HT.sIx z.length z.length hi - HT.sIx z.length 0 lo := by omega
  have e : Builtin.Str.strSliceIndices lo hi 1 z.length =
      Builtin.Str.strSliceIndices (some ((HT.sIx z.length 0 lo : Nat) : Int)) (some ((max (HT.sIx z.length 0 lo) (HT.sIx z.length z.length hi) : Nat) : Int)) 1 z.length := by
    rw [PySem.StrLaws.strSliceIndices_plain hp hq, hd, sidx]
  have e2 : PySem.StrLaws.sliceText z lo hi =
      PySem.StrLaws.sliceText z (some ((HT.sIx z.length 0 lo : Nat) : Int)) (some ((max (HT.sIx z.length 0 lo) (HT.sIx z.length z.length hi) : Nat) : Int)) := by
    unfold PySem.StrLaws.sliceText
    rw [e]
  rw [e2, PySem.StrLaws.sliceText_nat z hp hq, hd]
  rfl
theorem cutS_length (z : Str) (lo hi : Option Int) : (cutS z lo hi).length ≤ z.length := by
  show (((z.cps.toList.drop (HT.sIx z.length 0 lo)).take (HT.sIx z.length z.length hi - HT.sIx z.length 0 lo)).toArray).size ≤ z.cps.size
  rw [List.size_toArray, List.length_take, List.length_drop, Array.length_toList]
  omega
def rSlS : V → Option Int → Option Int → Hp → VK → Prop := fun x lo hi H Q => ∃ z, x = .str z ∧ z.length ≤ sizeLine ∧ Q (.str (cutS z lo hi)) H
theorem sl_str {X : Cx} : SlR X rSlS := by
  intro pins s σ H x v vl vu lo hi sl Q I rx hs pl pu h
  obtain ⟨z, rfl, hz, q⟩ := h
  obtain ⟨t, rfl⟩ := rx
  obtain ⟨os, hos, hcs, hds⟩ := hs
  obtain ⟨l, rfl, rfl⟩ := IsPart.raw pl
  obtain ⟨u, rfl, rfl⟩ := IsPart.raw pu
  refine ⟨"str", _, F.slot_str_getitem.lookup, typeIs_str _ _ _, ?_⟩
  refine wpAny_getItem_str_slice (l := l) (u := u) (st := none) ⟨os, hos, hcs, hds⟩ rfl ?_
  have hl : (PySem.StrLaws.sliceText z (l.map (·.1)) (u.map (·.1))).length ≤ sizeLine := by
    rw [sliceText_cut]
    exact Nat.le_trans (cutS_length z _ _) hz
  rw [← sliceText_cut] at q
  unfold PySem.StrLaws.sliceText at q hl
  show Made.post (if ((1 : Int) == 1 && (Builtin.Str.strSliceIndices (l.map (·.1)) (u.map (·.1)) 1 z.length).length == z.length) = true then Made.val (.str z t)
    else Made.str ⟨((Builtin.Str.strSliceIndices (l.map (·.1)) (u.map (·.1)) 1 z.length).filterMap (z.cps[·]?)).toArray⟩) (EP X pins σ Q) s
  by_cases c : ((1 : Int) == 1 && (Builtin.Str.strSliceIndices (l.map (·.1)) (u.map (·.1)) 1 z.length).length == z.length) = true
  · rw [if_pos c] at q ⊢
    exact ⟨.str z, H, I, ⟨t, rfl⟩, q⟩
  · rw [if_neg c] at q hl ⊢
    exact ⟨hl, .str _, H, I.tok _, ⟨_, rfl⟩, q⟩
end L2
namespace Att
open PySem PySem.W PySem.Calls PyProof.Rows
theorem ints_of_wellAll {P : Params} {h : Heap} : ∀ (ns : List Int) (vs : List Value), WellAll P h vs (ns.map WData.int) → IntsAre vs ns := by
  intro ns
  induction ns with
  | nil =>
    intro vs w
    rw [List.map_nil] at w
    cases w
    exact .nil
  | cons n ns ih =>
    intro vs w
    rw [List.map_cons] at w
    cases w with
    | cons a b =>
      cases a
      exact .cons _ _ (ih _ b)
section
variable {prog : Program} {w : World} {A : Around} {E : Value → Shared → Prop} {s : Shared} {K : Frag}
end
end Att
namespace L2
open PySem PySem.Spec PyProof.Rows
theorem vals_ints : ∀ {vs : List Value} {ns : List Int}, IntsAre vs ns → Vals (ns.map V.int) vs
  | _, _, .nil => .nil
  | _, _, .cons n t h => .cons ⟨t, rfl⟩ (vals_ints h)
end L2
namespace L2
open PySem PySem.Spec PyProof.Rows
end L2
namespace L2
open PySem PySem.Spec PyProof.Rows
/-- the j-th statement of a class's body -/
def inClass (s : Stmt) (j : Nat) : Stmt := match s with
  | .ClassDef _ _ _ body _ _ _ _ _ _ _ => body.getD j (.Pass ⟨0, 0, 0, 0⟩)
  | _ => .Pass ⟨0, 0, 0, 0⟩
def defArgs (s : Stmt) : Arguments := match s with
  | .FunctionDef _ a _ _ _ _ _ _ _ _ => a
  | _ => { posonlyargs := [], args := [], vararg := none, kwonlyargs := [], kw_defaults := [], kwarg := none, defaults := [] }
def defBody (s : Stmt) : List Stmt := match s with
  | .FunctionDef _ _ b _ _ _ _ _ _ _ => b
  | _ => []
def defScope (s : Stmt) : Scope := match s with
  | .FunctionDef _ _ _ _ _ _ sc _ _ _ => sc
  | _ => { kind := .function, names := [], isGenerator := false, isCoroutine := false }
abbrev CX0 : CXT := fun _ _ _ _ _ _ => False
abbrev E0 : XK := fun _ _ _ => False
theorem pass0 {X : Cx} : Passes CX0 X E0 := fun _ _ _ _ _ _ _ h => h.elim
structure Fun (K : PySem.W.Frag) (x qual : Str) (st : Stmt) (f : Addr) (fd : FuncData) : Prop where
  ex : ∃ (oc : Value) (od : Option Addr) (kV doc pm : Value) (an : Option Addr) (cdv ct : Value) (osl : Array (Option Value)),
    fd = PySem.W.fnOf x qual (defArgs st) (defBody st) (defScope st) .none kV doc pm an cdv ct ∧ K.lookup f = some ⟨oc, od, .func fd, osl⟩ ∧ PySem.W.codeIn K cdv qual = true
  kp : PySem.W.keepIn K (.ref f) = true
section
variable {P : Program} {w : World} {K : PySem.W.Frag} {mg : Str → Option Value} {base : Heap}
/-- THE RULE for a def: its body as a term of rules, and the reading of that term -/
theorem Fun.ok {x qual : Str} {st : Stmt} {f : Addr} {fd : FuncData} {N ps : List Str} {k : Nat} {sp : Sp} (F : Fun K x qual st f fd) (S : FnScope N ps (defScope st)) (len : ∀ vs H Q E, sp vs H Q E → vs.length = ps.length)
    (hbody : ∀ (cdv : Value) (A : Around) (outer : List Env) (s : Shared) (H : Hp) (vs : List V) (Q : VK) (E : XK), Room k (A.deeper (envOfC qual (defScope st) s.heap.objs.size f cdv)) → sp vs H Q E →
      ∃ t, PSs (cxOf CX0 P w K mg base N qual (defScope st) f cdv A outer s H E).nox (defBody st) t ∧ t { nx := fun _ H' => Q .non H', rt := Q } (start N vs) H) : FnOk P w K mg base CX0 (k + 1) f fd ps sp := by
  obtain ⟨oc, od, kV, doc, pm, an, cdv, ct, osl, rfl, lk, hcd⟩ := F.ex
  refine fn_of lk hcd S len fun A outer s H vs Q E hr hsp => ?_
  obtain ⟨t, h, q⟩ := hbody cdv A outer s H vs Q E hr hsp
  exact ⟨t, h.nox, q⟩
/-- how its arguments bind (no defaults): h is «fun _ _ _ _ _ _ us hl => match us, hl with | [_, _], _ => rfl», one _ a parameter -/
theorem Fun.binds {x qual : Str} {st : Stmt} {f : Addr} {fd : FuncData} {ps : List Str} (F : Fun K x qual st f fd)
    (h : ∀ (kV doc pm : Value) (an : Option Addr) (cdv ct : Value) (us : List Value), us.length = ps.length → bindArgs (PySem.W.fnOf x qual (defArgs st) (defBody st) (defScope st) .none kV doc pm an cdv ct) ⟨us, []⟩ = pure (ps.zip us)) : Binds K fd ps [] := by
  obtain ⟨oc, od, kV, doc, pm, an, cdv, ct, osl, rfl, lk, hcd⟩ := F.ex
  exact .all (h kV doc pm an cdv ct)
theorem fun_mk {x qual : Str} {st : Stmt} {f : Addr} {oc : Value} {od an : Option Addr} {osl : Array (Option Value)} {kV doc pm cdv ct : Value} (l : K.lookup f = some ⟨oc, od, .func (PySem.W.fnOf x qual (defArgs st) (defBody st) (defScope st) .none kV doc pm an cdv ct), osl⟩)
    (c : PySem.W.codeIn K cdv qual = true) (k : PySem.W.keepIn K (.ref f) = true) : Fun K x qual st f (PySem.W.fnOf x qual (defArgs st) (defBody st) (defScope st) .none kV doc pm an cdv ct) := ⟨⟨oc, od, kV, doc, pm, an, cdv, ct, osl, rfl, l, c⟩, k⟩
end
theorem hu_of {A : Around} {k : Nat} (hr : Room k A) : A.units + 1 < cLine := Nat.lt_of_le_of_lt (Nat.add_le_add_left (by decide : 1 ≤ 64) _) hr.units
section
variable {X : Cx}
theorem pv (i : Nat) {x : Str} {pos : Pos} (hN : X.N[i]? = some x := by rfl) (hv : Vis X.env.scope x := by first | exact Or.inl rfl | exact Or.inr (Or.inl rfl) | exact Or.inr (Or.inr rfl)) (hd : (x == ("__debug__" : Str)) = false := by decide)
    (hcd : (x == ("__classdict__" : Str)) = false := by decide) : PE X (.Name x pos) (tVar i) := pe_var hN hv hd hcd
end
theorem iteF {A B : Prop} (h : B) : if false = true then A else B := by
  rw [if_neg Bool.false_ne_true]
  exact h
theorem iteT {A B : Prop} (h : A) : if true = true then A else B := by
  rw [if_pos rfl]
  exact h
theorem ite2 {c A B : Prop} [Decidable c] (h1 : c → A) (h2 : ¬ c → B) : if c then A else B := by
  by_cases h : c
  · rw [if_pos h]
    exact h1 h
  · rw [if_neg h]
    exact h2 h
/-- all that was tracked is as it was -/
def Same (H H' : Hp) : Prop := ∀ b o, H b = some o → H' b = some o
theorem Same.refl (H : Hp) : Same H H := fun _ _ h => h
theorem Same.trans {H H1 H2 : Hp} (a : Same H H1) (b : Same H1 H2) : Same H H2 := fun c o h => b c o (a c o h)
theorem Same.free {H H' : Hp} (e : Same H H') {l : Addr} (h : H' l = Option.none) : H l = Option.none := by
  cases q : H l with
  | none => rfl
  | some o =>
    rw [e l o q] at h
    cases h
theorem Same.seq {K : PySem.W.Frag} {H H' : Hp} {a : Addr} {xs : List V} (e : Same H H') (h : SqL K H a xs) : SqL K H' a xs := by
  rcases h with (h | ⟨o, h⟩) | h
  · exact .inl (.inl (e _ _ h))
  · exact .inl (.inr ⟨o, e _ _ h⟩)
  · exact .inr h
section
variable {κ : Type} [DecidableEq κ]
end
theorem at_of {xs : List V} {z : Int} {j : Nat} {v : V} (e : z = (j : Int)) (h : xs[j]? = some v) : atI xs z = some v := by
  rw [e]
  exact atI_nat h
end L2

set_option Elab.async false
set_option linter.all false
set_option maxRecDepth 100000
namespace L2
open PySem PySem.Spec PyProof.Rows
open Classical in
/-- the lists of ints of the heap that are not the module's own, each known to its object -/
noncomputable def allInts (K : PySem.W.Frag) (h : Heap) : Hp := fun b =>
  if q : ∃ (p : List Value × List Int), h.get? b = some { cls := .type "list", data := .seq p.1.toArray } ∧ IntsAre p.1 p.2 ∧ p.2.length ≤ sizeLine ∧ K.lookup b = none then
    some (.frz { cls := .type "list", data := .seq q.choose.1.toArray } (.lst (q.choose.2.map V.int))) else none
theorem allInts_some {K : PySem.W.Frag} {h : Heap} {b : Addr} {o : HO} (e : allInts K h b = some o) :
    ∃ (vs : List Value) (ns : List Int), o = .frz { cls := .type "list", data := .seq vs.toArray } (.lst (ns.map V.int)) ∧ h.get? b = some { cls := .type "list", data := .seq vs.toArray } ∧ IntsAre vs ns ∧ ns.length ≤ sizeLine ∧ K.lookup b = none := by
  unfold allInts at e
  split at e
  · rename_i q
    have s := q.choose_spec
    exact ⟨q.choose.1, q.choose.2, (Option.some.inj e).symm, s.1, s.2.1, s.2.2.1, s.2.2.2⟩
  · cases e
theorem ints_inj : ∀ {vs : List Value} {a b : List Int}, IntsAre vs a → IntsAre vs b → a = b
  | _, _, _, .nil, .nil => rfl
  | _, _, _, .cons n t h, .cons _ _ h' => by rw [ints_inj h h']
theorem allInts_sq {K : PySem.W.Frag} {h : Heap} (KX : K.In h) {a : Addr} {vs : List Value} {ns : List Int} (ha : h.get? a = some { cls := .type "list", data := .seq vs.toArray }) (hi : IntsAre vs ns) (hl : ns.length ≤ sizeLine) :
    SqL K (allInts K h) a (ns.map V.int) := by
  have rv := vals_ints hi
  cases hk : K.lookup a with
  | some o =>
    have e := KX a o hk
    rw [ha] at e
    cases e
    exact .inr ⟨_, vs.toArray, _, hk, rfl, rfl, rfl, by rw [List.size_toArray, hi.length]; exact hl, by simpa using rv⟩
  | none =>
    have q : ∃ (p : List Value × List Int), h.get? a = some { cls := .type "list", data := .seq p.1.toArray } ∧ IntsAre p.1 p.2 ∧ p.2.length ≤ sizeLine ∧ K.lookup a = none := ⟨(vs, ns), ha, hi, hl, hk⟩
    have s := q.choose_spec
    have e1 : q.choose.1 = vs := by
      have e3 : Data.seq vs.toArray _ = Data.seq q.choose.1.toArray _ := congrArg Obj.data (Option.some.inj (ha.symm.trans s.1))
      injection e3 with e4
      exact (congrArg Array.toList e4).symm
    have e3 : q.choose.2 = ns := by
      have h2 := s.2.1
      rw [e1] at h2
      exact ints_inj h2 hi
    refine .inl (.inr ⟨{ cls := .type "list", data := .seq q.choose.1.toArray }, ?_⟩)
    unfold allInts
    rw [dif_pos q, e3]
/-- the arguments: ints and lists of ints -/
inductive Lays (K : PySem.W.Frag) (H : Hp) : List V → List PySem.W.WData → Prop where
  | nil : Lays K H [] []
  | num {i : Int} {vs : List V} {ds : List PySem.W.WData} : Lays K H vs ds → Lays K H (.int i :: vs) (.int i :: ds)
  | seq {a : Addr} {ns : List Int} {vs : List V} {ds : List PySem.W.WData} : SqL K H a (ns.map V.int) → Lays K H vs ds → Lays K H (.ref a :: vs) (.list (ns.map .int) :: ds)
inductive GoodArgs : List PySem.W.WData → Prop where
  | nil : GoodArgs []
  | num {i : Int} {ds : List PySem.W.WData} : GoodArgs ds → GoodArgs (.int i :: ds)
  | seq {ns : List Int} {ds : List PySem.W.WData} : ns.length ≤ sizeLine → GoodArgs ds → GoodArgs (.list (ns.map .int) :: ds)
theorem lays_of {P : Params} {K : PySem.W.Frag} {h : Heap} (KX : K.In h) : ∀ {ds : List PySem.W.WData} {us : List Value}, GoodArgs ds → PySem.W.WellAll P h us ds → ∃ vs, Vals vs us ∧ Lays K (allInts K h) vs ds
  | _, _, .nil, w => by
    cases w
    exact ⟨[], .nil, .nil⟩
  | _, _, .num (i := i) g, w => by
    cases w with
    | cons w1 w2 =>
      cases w1
      obtain ⟨vs, r, l⟩ := lays_of KX g w2
      exact ⟨.int i :: vs, .cons ⟨_, rfl⟩ r, .num l⟩
  | _, _, .seq (ns := ns) hl g, w => by
    cases w with
    | cons w1 w2 =>
      cases w1 with
      | list ho hall =>
        obtain ⟨vs, r, l⟩ := lays_of KX g w2
        exact ⟨_, .cons (show RelV (.ref _) _ from rfl) r, .seq (allInts_sq KX ho (Att.ints_of_wellAll ns _ hall) hl) l⟩
theorem spec_call {P : Program} {w : World} {K : PySem.W.Frag} {mg mb : Str → Option Value} {k : Nat} {fa : Addr} {fd : FuncData} {ps : List Str} {sp : Sp} {s₁ : Shared} {us : List Value} {vs : List V} {out : List Int}
    (KX : K.In s₁.heap) (hns : s₁.heap.Ns mainGlobals mg) (hb : s₁.heap.Ns builtinsNs mb) (hbb : ∀ x : Str, x ≠ "__name__" → mb x = bootBuiltins x) (hlim : s₁.heap.NoLimit) (hg : s₁.gens = #[]) (hr : Room k callerA)
    (F : ∀ base : Heap, K.In base → base.Ns mainGlobals mg → FnOk P w K mg base CX0 k fa fd ps sp) (hbind : BindsTo s₁ fd ⟨us, []⟩ (ps.zip us)) (rv : Vals vs us)
    (hsp : sp vs (allInts K s₁.heap) (fun v H' => ∃ p, v = .ref p ∧ H' p = some (.lst (out.map V.int))) fun _ _ _ => False) :
    codeAny (model P w) callerA (.call (.ref fa) ⟨us, []⟩) (fun r s' => ∃ u as, r = .ok (.ret u) ∧ Reads s'.heap u (.list (out.map PyData.int)) as ∧ OldK s₁.heap s'.heap ∧ s'.os = s₁.os ∧ AllBare s'.gens) s₁ := by
  have noA : ∀ {b : Addr} {o : Obj} {es : Array DictEntry} {ep : Nat}, s₁.heap.get? b = some o → o.data = .dict es ep → allInts K s₁.heap b = none := fun {b o es ep} e d => by
    cases q : allInts K s₁.heap b with
    | none => rfl
    | some u =>
      obtain ⟨vs, ns, _, e', _⟩ := allInts_some q
      rw [e'] at e; cases e
      have d' : Data.seq vs.toArray _ = Data.dict es ep := d
      cases d'
  have base_of : ∀ {b : Addr} {o : Obj}, s₁.heap.get? b = some o → allInts K s₁.heap b = none → (hidT s₁.heap (allInts K s₁.heap)).get? b = some o := fun e n => hidT_get e n
  have nsK : ∀ {b : Addr} {m : Str → Option Value}, s₁.heap.Ns b m → (hidT s₁.heap (allInts K s₁.heap)).Ns b m := fun {b m} ⟨o, es, ep, e, d, r⟩ => ⟨o, es, ep, base_of e (noA e d), d, r⟩
  have hKb : K.In (hidT s₁.heap (allInts K s₁.heap)) := fun b o e => base_of (KX b o e) (by
    cases q : allInts K s₁.heap b with
    | none => rfl
    | some u =>
      obtain ⟨_, _, _, _, _, _, e'⟩ := allInts_some q
      rw [e'] at e; cases e)
  have hM : Mod K mg (hidT s₁.heap (allInts K s₁.heap)) := ⟨hKb, nsK hns, ⟨mb, nsK hb, hbb⟩, let ⟨mc, h1, h2⟩ := hlim; ⟨mc, nsK h1, h2⟩⟩
  have hok : HOk P w (allInts K s₁.heap) s₁.heap := fun b o e => by
    obtain ⟨vs, ns, rfl, e1, e2, e3, _⟩ := allInts_some e
    exact ⟨e1, by rw [List.length_map]; exact e3, vs, _, vals_ints e2, e1⟩
  have e0 : Env0 P w K mg (hidT s₁.heap (allInts K s₁.heap)) callerA [] s₁ (allInts K s₁.heap) := ⟨rfl, hM, fun b o e => of_hidT e, Nat.le_of_eq (hidT_size _ _), trivial, fun b hb => absurd (show b ∈ ([] : List Addr) from hb) (by simp), hok, .of_eq hg⟩
  refine codeAny_mono ((F _ hKb (nsK hns)).run callerA [] s₁ (allInts K s₁.heap) ⟨us, []⟩ us vs _ _ hr e0 hbind rv hsp) fun r s' h => ?_
  cases r with
  | error e => exact False.elim h
  | ok fl =>
    cases fl with
    | next => exact False.elim h
    | brk => exact False.elim h
    | cont => exact False.elim h
    | ret u =>
      obtain ⟨v, H', os, bare, un, hok', r', p, rfl, hp⟩ := h
      obtain rfl : u = Value.ref p := r'
      obtain ⟨hz, its, n, rvs, hob⟩ := hok' p _ hp
      have ra : ∀ {ns : List Int} {its : List Value}, IntsAre its ns → ∃ as, ReadsAll s'.heap its (ns.map PyData.int) as := fun {ns its} h => by
        induction h with
        | nil => exact ⟨_, ReadsAll.nil⟩
        | cons n t h ih =>
          obtain ⟨as, ih⟩ := ih
          exact ⟨_, ReadsAll.cons (Reads.int n t) ih⟩
      obtain ⟨as, hra⟩ := ra (Vals.ints rvs)
      refine ⟨_, _, rfl, Reads.list hob rfl rfl hra, OldK.of_keep fun b o e => ?_, os, bare⟩
      cases q : allInts K s₁.heap b with
      | none => exact un.keep b o e q (by intro z; exact absurd (show b ∈ ([] : List Addr) from z) (by simp)) (by simp)
      | some u =>
        obtain ⟨vs', ns', rfl, e1, _⟩ := allInts_some q
        have z2 := un.frzs b _ _ q
        obtain ⟨e2, _⟩ := hok' b _ z2
        rw [e] at e1; cases e1
        exact e2
theorem walk_spec {r : PySem.W.OpenSpec} {q : Program} {loose : List Str} {XP : (Str → Option Value) → Heap → Prop} {YP : World → Heap → Prop} {d : DefRec} {K : Params → PySem.W.Frag} {k : Nat} {ps : List Str} {sp : PySem.W.Frag → Sp}
    (said : r.wellSaid = true) (hdf : d.params.defaults = []) (hr : Room k callerA) (hY : ∀ (w : World) (h : Heap), YP w h → (K w.params).In h)
    (F : ∀ (w : World) (mg : Str → Option Value) (fa : Addr) (h : Heap), (K w.params).In h → h.Ns mainGlobals mg → mg d.name = some (.ref fa) →
      ∃ fd : FuncData, Binds (K w.params) fd ps [] ∧ ∀ base : Heap, (K w.params).In base → base.Ns mainGlobals mg → FnOk r.prog w (K w.params) mg base CX0 k fa fd ps (sp (K w.params)))
    (good : ∀ a : PySem.W.Codec.denoteAll r.args, PySem.W.Codec.withinAll r.args a = true → GoodArgs (PySem.W.Codec.encAll r.args a) ∧ (PySem.W.Codec.encAll r.args a).length = ps.length)
    (hsp : ∀ (K : PySem.W.Frag) (H : Hp) (a : PySem.W.Codec.denoteAll r.args) (vs : List V), PySem.W.Codec.withinAll r.args a = true → PySem.W.Codec.app r.args r.asked a = true → Lays K H vs (PySem.W.Codec.encAll r.args a) →
      ∃ out : List Int, r.ret.enc (PySem.W.Codec.app r.args r.f a) = .list (out.map .int) ∧ sp K vs H (fun v H' => ∃ p, v = .ref p ∧ H' p = some (.lst (out.map V.int))) fun _ _ _ => False) :
    PySem.W.WalkOS q loose XP YP r d [] (fun f vs => PySem.call f vs) := by
  intro w s₀ s₁ mg mb G Y fa o pm cd doc dV kV ho hd hcd hD hmg hg args vals as hpre hlay hrd hwl hlo
  obtain ⟨a, hw, hask, rfl⟩ := (PySem.W.OpenSpec.pre_iff said args).mp hpre
  have KX := hY w _ Y
  obtain ⟨fd, hb, hF⟩ := F w mg fa _ KX G.T.g hmg
  obtain ⟨ga, gl⟩ := good a hw
  obtain ⟨vs, rv, ly⟩ := lays_of KX ga hwl
  obtain ⟨out, eo, hs⟩ := hsp (K w.params) _ a vs hw hask ly
  have hlen : vals.length = ps.length := by
    have h1 : ∀ {us : List Value} {ds : List PySem.W.WData}, PySem.W.WellAll w.params s₁.heap us ds → us.length = ds.length := fun {us ds} h => by
      induction us generalizing ds with
      | nil => cases h; rfl
      | cons u us ih =>
        cases h with
        | cons _ h2 => exact congrArg (· + 1) (ih h2)
    rw [h1 hwl, gl]
  have hbind : BindsTo s₁ fd ⟨vals, []⟩ (ps.zip vals) := by
    have := hb s₁ vals KX (by simpa using hlen)
    simpa using this
  refine PySem.W.enter_call (codeAny_mono (spec_call KX G.T.g G.T.b G.T.builtins G.T.nolimit hg hr hF hbind rv hs) fun r' s' hq => ?_)
  obtain ⟨u, as', rfl, hread, h2, h3, h4⟩ := hq
  refine ⟨.inl ⟨u, _, _, rfl, fun _ => rfl, PySem.W.readsW_of_reads hread, ?_, fun h => absurd h Bool.false_ne_true⟩, h2, h3, h4⟩
  refine (PySem.W.OpenSpec.post_iff said hw _ _).mpr ?_
  rw [eo]
  exact PySem.W.os_list rfl
theorem size_fits {n : Nat} (h : n ≤ 1000000) : n ≤ sizeLine := Nat.le_trans h (by decide)
theorem within_list {least most : Nat} {lo hi : Int} {l : List Int} (h : PySem.W.Codec.within (.list least most (.int lo hi)) l = true) : l.length ≤ most := by
  have := PySem.W.Codec.and_of (show (PySem.W.Codec.inLen least most l && l.all _) = true from h)
  exact (PySem.W.Codec.inNat_iff.mp this.1).2
/-- an int and a list of ints in, a list of ints out -/
theorem walk_il {prog : Program} {name : Str} {l2 m2 l3 m3 : Nat} {lo1 hi1 lo2 hi2 lo3 hi3 : Int} {asked : Int → List Int → Bool} {f : Int → List Int → List Int}
    {q : Program} {loose : List Str} {XP : (Str → Option Value) → Heap → Prop} {YP : World → Heap → Prop} {d : DefRec} {K : Params → PySem.W.Frag} {k : Nat} {ps : List Str} {sp : PySem.W.Frag → Sp}
    (said : (PySem.W.OpenSpec.mk prog name [.int lo1 hi1, .list l2 m2 (.int lo2 hi2)] (.list l3 m3 (.int lo3 hi3)) asked f).wellSaid = true) (h2 : m2 ≤ 1000000) (hps : ps.length = 2)
    (hdf : d.params.defaults = []) (hr : Room k callerA) (hY : ∀ (w : World) (h : Heap), YP w h → (K w.params).In h)
    (F : ∀ (w : World) (mg : Str → Option Value) (fa : Addr) (h : Heap), (K w.params).In h → h.Ns mainGlobals mg → mg d.name = some (.ref fa) →
      ∃ fd : FuncData, Binds (K w.params) fd ps [] ∧ ∀ base : Heap, (K w.params).In base → base.Ns mainGlobals mg → FnOk prog w (K w.params) mg base CX0 k fa fd ps (sp (K w.params)))
    (hsp : ∀ (K : PySem.W.Frag) (H : Hp) (b : Addr) (x : Int) (y : List Int) (Q : VK) (E : XK), lo1 ≤ x → x ≤ hi1 → SqL K H b (y.map V.int) → asked x y = true → (∀ p H', H' p = some (.lst ((f x y).map V.int)) → Q (.ref p) H') → sp K [.int x, .ref b] H Q E) :
    PySem.W.WalkOS q loose XP YP (PySem.W.OpenSpec.mk prog name [.int lo1 hi1, .list l2 m2 (.int lo2 hi2)] (.list l3 m3 (.int lo3 hi3)) asked f) d [] (fun f vs => PySem.call f vs) :=
  walk_spec (sp := sp) said hdf hr hY F
    (fun a h => by
      obtain ⟨x, y, u⟩ := a
      have q1 := PySem.W.Codec.and_of (show (PySem.W.Codec.within (.int lo1 hi1) x && PySem.W.Codec.withinAll [.list l2 m2 (.int lo2 hi2)] (y, u)) = true from h)
      have q2 := PySem.W.Codec.and_of (show (PySem.W.Codec.within (.list l2 m2 (.int lo2 hi2)) y && PySem.W.Codec.withinAll [] u) = true from q1.2)
      refine ⟨?_, hps.symm⟩
      show GoodArgs [.int x, .list (y.map .int)]
      exact .num (.seq (size_fits (Nat.le_trans (within_list q2.1) h2)) .nil))
    (fun K H a vs hw ha ly => by
      obtain ⟨x, y, u⟩ := a
      have q1 := PySem.W.Codec.and_of (show (PySem.W.Codec.within (.int lo1 hi1) x && PySem.W.Codec.withinAll [.list l2 m2 (.int lo2 hi2)] (y, u)) = true from hw)
      have q0 := PySem.W.Codec.inInt_iff.mp (show PySem.W.Codec.inInt lo1 hi1 x = true from q1.1)
      refine ⟨f x y, rfl, ?_⟩
      have ly' : Lays K H vs [.int x, .list (y.map .int)] := ly
      generalize e2 : y.map PySem.W.WData.int = c2 at ly'
      cases ly' with
      | num r1 =>
        rename_i vs1
        cases r1 with
        | seq s2 r2 =>
          rename_i a2 ns2 vs2
          cases r2
          have q2 : y = ns2 := PySem.W.Codec.os_mapInt_inj _ _ e2
          subst q2
          exact hsp K H a2 x y _ _ q0.1 q0.2 s2 ha fun p H' h => ⟨p, rfl, h⟩)
end L2

set_option Elab.async false
set_option linter.all false
set_option maxRecDepth 100000
namespace L2
open PySem PySem.Spec PyProof.Rows
/-- for .. in zip(a, b): two lists of one length that the body leaves as they are -/
theorem for_zip {K : PySem.W.Frag} {a b : Addr} {xs ys : List V} {g : TG} {tb : TS} {D : Ends} {σ : St} {H : Hp} (he : ys.length = xs.length) (Pv : Nat → St → Hp → Prop) (h0 : Pv 0 σ H) (hl : ∀ i σ H, i ≤ xs.length → Pv i σ H → SqL K H a xs ∧ SqL K H b ys)
    (hs : ∀ i x y σ H T, xs[i]? = some x → ys[i]? = some y → Pv i σ H → H T = none → g (.ref T) σ (upd H T (.tup [x, y])) fun σ2 H2 => tb { D with nx := Pv (i + 1), ct := Pv (i + 1), bk := D.nx } σ2 H2) (hd : ∀ σ H, Pv xs.length σ H → D.nx σ H) :
    ∃ W : Nat → Nat → St → Hp → Prop, (∃ m, W 0 m σ H) ∧ ∀ i m σ H, W i m σ H →
      ((Itz K a b).stop i H ∧ D.nx σ H) ∨ ((Itz K a b).go i H ∧ ∃ N : St → Hp → Prop, (∀ σ' H', N σ' H' → ∃ m', m' < m ∧ W (i + 1) m' σ' H') ∧ ∀ x H', (Itz K a b).yld i H x H' → g x σ H' fun σ2 H2 => tb { D with nx := N, ct := N, bk := D.nx } σ2 H2) := by
  refine ⟨fun i m σ H => m = xs.length - i ∧ i ≤ xs.length ∧ Pv i σ H, ⟨xs.length, by simp, Nat.zero_le _, h0⟩, ?_⟩
  rintro i m σ H ⟨rfl, hi, p⟩
  obtain ⟨q, q'⟩ := hl i σ H hi p
  by_cases hlt : i < xs.length
  · have hlt' : i < ys.length := by omega
    refine .inr ⟨⟨xs, ys, xs[i], ys[i], q, q', by simp [hlt], by simp [hlt']⟩, Pv (i + 1), fun σ' H' p' => ⟨xs.length - (i + 1), by omega, rfl, hlt, p'⟩, fun x H' y => ?_⟩
    obtain ⟨T, x1, y1, rfl, hT, rfl, hx, hy⟩ := y
    exact hs i x1 y1 σ _ T (hx xs q) (hy ys q') p hT
  · have e : i = xs.length := by omega
    subst e
    exact .inl ⟨⟨xs, ys, q, q', .inl (Nat.le_refl _)⟩, hd σ H p⟩
end L2

set_option Elab.async false
set_option linter.all false
set_option maxRecDepth 100000
namespace L2
open PySem PySem.Spec PyProof.Rows
theorem Same.tup {K : PySem.W.Frag} {H H' : Hp} {a : Addr} {xs : List V} (e : Same H H') (h : SqT K H a xs) : SqT K H' a xs := by
  rcases h with (h | ⟨o, h⟩) | h
  · exact .inl (.inl (e _ _ h))
  · exact .inl (.inr ⟨o, e _ _ h⟩)
  · exact .inr h
theorem Same.laid {H : Hp} {a : Addr} {o : HO} (h : H a = none) : Same H (upd H a o) := fun c u e => by rw [upd_ne (ne_of_none e h)]; exact e
abbrev Raw := List (List Key × Addr × Value)
def DAt (P : Program) (w : World) (h : Heap) (a : Addr) (xs : Raw) (ep : Nat) : Prop :=
  ∃ o es, h.get? a = some o ∧ o.ExactDict ∧ o.data = .dict es ep ∧ es.toList = xs.map (entryOfKey (tupleKind (mixKind P w))) ∧ (xs.map (·.1)).Nodup
def DTO (P : Program) (w : World) (a : Addr) (xs : Raw) (ep : Nat) : HO := .ext fun h => DAt P w h a xs ep
abbrev KTs (K : PySem.W.Frag) (H : Hp) : List (List Key × V) → Raw → Prop := Paired fun p q => p.1 = q.1 ∧ SqT K H q.2.1 (p.1.map kV) ∧ RelV p.2 q.2.2
structure DTe (P : Program) (w : World) (K : PySem.W.Frag) (H : Hp) (a : Addr) (kvs : List (List Key × V)) (xs : Raw) (ep : Nat) : Prop where
  at_ : H a = some (DTO P w a xs ep)
  ns : (a == sysModules) = false
  len : kvs.length ≤ sizeLine
  rel : KTs K H kvs xs
def DT (P : Program) (w : World) (K : PySem.W.Frag) (H : Hp) (a : Addr) (kvs : List (List Key × V)) : Prop := ∃ xs ep, DTe P w K H a kvs xs ep
section
variable {P : Program} {w : World} {K : PySem.W.Frag} {H H' : Hp} {a : Addr} {kvs : List (List Key × V)} {xs : Raw} {ep : Nat}
theorem DTe.same (D : DTe P w K H a kvs xs ep) (e : Same H H') : DTe P w K H' a kvs xs ep := ⟨e _ _ D.at_, D.ns, D.len, Paired.mapP D.rel fun _ _ z => ⟨z.1, e.tup z.2.1, z.2.2⟩⟩
theorem DT.same (D : DT P w K H a kvs) (e : Same H H') : DT P w K H' a kvs := let ⟨xs, ep, d⟩ := D; ⟨xs, ep, d.same e⟩
theorem DT.isExt (D : DT P w K H a kvs) : ∃ φ, H a = some (.ext φ) := let ⟨_, _, d⟩ := D; ⟨_, d.at_⟩
/-- what stands at another address may change, if no tuple does -/
theorem SqT.other {b c : Addr} {ys : List V} {o : HO} (h : SqT K H b ys) (hc : ∀ zs, H c ≠ some (.tup zs) ∧ ∀ q, H c ≠ some (.frz q (.tup zs))) : SqT K (upd H c o) b ys := by
  rcases h with (h | ⟨q, h⟩) | h
  · have n : b ≠ c := fun e => (hc ys).1 (e ▸ h)
    exact .inl (.inl (by rw [upd_ne n]; exact h))
  · have n : b ≠ c := fun e => (hc ys).2 q (e ▸ h)
    exact .inl (.inr ⟨q, by rw [upd_ne n]; exact h⟩)
  · exact .inr h
theorem ext_ntup {c : Addr} {φ : Heap → Prop} (h : H c = some (.ext φ)) : ∀ zs, H c ≠ some (.tup zs) ∧ ∀ q, H c ≠ some (.frz q (.tup zs)) := fun zs => ⟨by rw [h]; exact nofun, fun q => by rw [h]; exact nofun⟩
theorem dto_ok {h : Heap} (d : DAt P w h a xs ep) : ObjOk P w H h a (DTO P w a xs ep) :=
  ⟨d, let ⟨o, _, e, _⟩ := d; ⟨o, e⟩, fun _ _ ⟨o, es, e, r⟩ k => ⟨o, es, k o e, r⟩⟩
theorem KTs.val (r : KTs K H kvs xs) (k : List Key) : RelO (valV kvs k) ((atKey xs k).map (·.2)) := by
  induction r with
  | nil => exact True.intro
  | @cons p q ps qs h t ih =>
    by_cases e : p.1 = k
    · have b : atKey (q :: qs) k = some q.2 := by simp [atKey, List.find?_cons, h.1.symm.trans e]
      rw [valV_pos e, b]; exact h.2.2
    · have e' : ¬ q.1 = k := fun z => e (h.1.trans z)
      have b : atKey (q :: qs) k = atKey qs k := by simp [atKey, List.find?_cons, e']
      rw [valV_neg e, b]; exact ih
theorem KTs.put (r : KTs K H kvs xs) (k : List Key) {b : Addr} {y : V} {u : Value} (hb : SqT K H b (k.map kV)) (ry : RelV y u) : KTs K H (putK kvs k y) (storedH xs k b u) := by
  have e : (kvs.any fun kv => decide (kv.1 = k)) = (atKey xs k).isSome := by rw [valV_any, (r.val k).isSome_eq, Option.isSome_map]
  have re : KTs K H (kvs.map fun kv => if kv.1 = k then (kv.1, y) else kv) (xs.map (putAt k u)) := by
    clear e
    induction r with
    | nil => exact .nil
    | @cons p q ps qs h t ih =>
      rw [List.map_cons, List.map_cons]
      refine .cons ?_ ih
      unfold putAt
      by_cases e : p.1 = k
      · rw [if_pos e, if_pos (h.1.symm.trans e)]; exact ⟨h.1, h.2.1, ry⟩
      · rw [if_neg e, if_neg (fun z => e (h.1.trans z))]; exact h
  unfold putK storedH
  rw [e]
  by_cases q : (atKey xs k).isSome = true
  · rw [if_pos q, if_pos q]; exact re
  · rw [if_neg q, if_neg q]; exact Paired.snoc r ⟨rfl, hb, ry⟩
def withoutH (xs : Raw) (k : List Key) : Raw := xs.filter fun x => decide (x.1 ≠ k)
theorem KTs.drop (r : KTs K H kvs xs) (k : List Key) : KTs K H (dropK kvs k) (withoutH xs k) := by
  induction r with
  | nil => exact .nil
  | @cons p q ps qs h t ih =>
    unfold dropK withoutH
    rw [List.filter_cons, List.filter_cons]
    by_cases e : p.1 = k
    · rw [if_neg (by rw [decide_eq_true_iff]; exact fun z => z e), if_neg (by rw [decide_eq_true_iff]; exact fun z => z (h.1.symm.trans e))]
      exact ih
    · have e' : q.1 ≠ k := fun z => e (h.1.trans z)
      rw [if_pos (decide_eq_true e), if_pos (decide_eq_true e')]
      exact .cons h ih
end
section
variable {X : Cx} {pins : List (Addr × Obj)} {σ : St} {H : Hp} {s : Shared} {a b : Addr} {kvs : List (List Key × V)} {xs : Raw} {ep : Nat} {k : List Key} {A : Around} {E : Value → Shared → Prop}
theorem key_sq (I : Inv X pins σ H s) (h : SqT X.K H b (k.map kV)) : (tupleKind (mixKind X.prog X.w)).is s.heap k b := by
  obtain ⟨its, r, ⟨o, h1, h2, n, h3⟩, _⟩ := I.tuple h
  exact ⟨o, its.toArray, n, h1, h2, h3, by simpa using items_are r⟩
theorem DTe.raw (I : Inv X pins σ H s) (D : DTe X.prog X.w X.K H a kvs xs ep) : DAt X.prog X.w s.heap a xs ep ∧ s.heap.DictOfH (tupleKind (mixKind X.prog X.w)) a xs ∧ kvs.length = xs.length := by
  obtain ⟨d, _, _⟩ := (show ObjOk X.prog X.w H s.heap a (DTO X.prog X.w a xs ep) from I.hok a _ D.at_)
  refine ⟨d, ?_, Paired.length D.rel⟩
  obtain ⟨o, es, h1, h2, h3, h4, h5⟩ := d
  refine ⟨o, es, ep, h1, h2, h3, h4, fun x hx => ?_, h5⟩
  have all : ∀ {l : List (List Key × V)} {m : Raw}, KTs X.K H l m → ∀ x ∈ m, (tupleKind (mixKind X.prog X.w)).is s.heap x.1 x.2.1 := by
    intro l m q
    induction q with
    | nil => intro x hx; exact nomatch hx
    | @cons p q ps qs hq t ih =>
      intro x hx
      rcases List.mem_cons.mp hx with e | hx
      · subst e
        exact key_sq I (by rw [← hq.1]; exact hq.2.1)
      · exact ih x hx
  exact all D.rel x hx
theorem isDT_at (I : Inv X pins σ H s) (D : DT X.prog X.w X.K H a kvs) : s.TypeIs (.ref a) "dict" ∧ (∀ b, Value.ref a = .ref b → ∃ ob, s.heap.get? b = some ob ∧ ob.dict = none) := by
  obtain ⟨xs, ep, D⟩ := D
  obtain ⟨⟨o, es, h1, h2, _⟩, dd, _⟩ := D.raw I
  refine ⟨dd.typeIs, fun b q => ?_⟩
  cases q
  exact ⟨o, h1, h2.2.1⟩
/-- d[k] = v -/
theorem x_setItem {v : V} {r : Value} {Q : Unit → Shared → Prop} (hu : A.units + 1 < cLine) (I : Inv X pins σ H s) (D : DT X.prog X.w X.K H a kvs) (hk : SqT X.K H b (k.map kV)) (hl : kvs.length < sizeLine) (rv : RelV v r)
    (h : ∀ u s', DT X.prog X.w X.K (upd H a u) a (putK kvs k v) → Inv X pins σ (upd H a u) s' → Q () s') : wpAny (model X.prog X.w) A (setItem (.ref a) (.ref b) r) Q E s := by
  obtain ⟨xs, ep, D⟩ := D
  obtain ⟨_, dd, el⟩ := D.raw I
  refine wpAny_setItem_heap (hsz := by omega) (tupleKind_room_in1 hu) (key_sq I hk) dd fun h' dd' hs => ?_
  obtain ⟨q, es, ep', hq, h2, h3, h4, _, h5⟩ := dd'
  have nt := ext_ntup D.at_
  have hl' : (putK kvs k v).length ≤ sizeLine := by have := length_putK kvs k v; omega
  refine h (DTO X.prog X.w a (storedH xs k b r) ep') _ ⟨_, _, upd_same, D.ns, hl', Paired.mapP (D.rel.put k hk rv) fun _ _ z => ⟨z.1, z.2.1.other nt, z.2.2⟩⟩ ?_
  exact d_write I (by rw [D.at_]; exact True.intro) hs ⟨q, hq⟩ (dto_ok ⟨q, es, hq, h2, h3, h4, h5⟩)
/-- d.get(k, x) -/
theorem x_get2 {d : V} {r : Value} {Q : Value → Shared → Prop} (hu : A.units + 1 < cLine) (I : Inv X pins σ H s) (D : DT X.prog X.w X.K H a kvs) (hk : SqT X.K H b (k.map kV)) (rd : RelV d r)
    (h : ∀ w' s', Inv X pins σ H s' → RelV ((valV kvs k).getD d) w' → Q w' s') : wpAny (model X.prog X.w) A (call (.builtin "dict.get") [.ref a, .ref b, r]) Q E s := by
  obtain ⟨xs, ep, D⟩ := D
  obtain ⟨_, dd, el⟩ := D.raw I
  exact call_meetsIn PySem.F.slot_dict_get dd.typeIs PySem.F.entry_dict_get (PySem.F.args_dict_get_3 _ _ _) (meetsH_dict_get_default (tupleKind (mixKind X.prog X.w)) a b D.ns r)
    ⟨tupleKind_room_in1 hu, k, xs, key_sq I hk, dd, h _ _ (I.tok _) ((D.rel.val k).getD rd)⟩
end
section
variable {X : Cx} {o i e f value : Expr} {td ty tv tx : TE} {pos pos' apos cpos : Pos}
/-- {} that is to have tuples as keys -/
def tXNew (P : Program) (w : World) (K : PySem.W.Frag) : TE := fun _ H Q => ∀ p, H p = none → ∀ u, DT P w K (upd H p u) p [] → Q (.ref p) (upd H p u)
theorem x_new {pins : List (Addr × Obj)} {σ : St} {H : Hp} {s : Shared} (I : Inv X pins σ H s) : Inv X pins σ (upd H s.heap.objs.size (DTO X.prog X.w s.heap.objs.size [] 0)) { s with heap := s.heap.push { cls := .type "dict", data := .dict #[] } } ∧
    DTe X.prog X.w X.K (upd H s.heap.objs.size (DTO X.prog X.w s.heap.objs.size [] 0)) s.heap.objs.size [] [] 0 :=
  ⟨I.laid (t' := s.toks) (fun _ _ q => Heap.get?_push_of_some _ q) (Nat.le_refl _) (dto_ok ⟨_, #[], Heap.get?_push_size _ rfl, ⟨rfl, rfl, rfl⟩, rfl, rfl, List.nodup_nil⟩),
    upd_same, beq_eq_false_iff_ne.mpr (Ne.symm (Nat.ne_of_lt I.big)), Nat.zero_le _, .nil⟩
theorem pe_xnew : PE X (.Dict [] [] pos) (tXNew X.prog X.w X.K) := fun pins s σ H Q I h =>
  wpAny_Dict_empty ⟨.ref s.heap.objs.size, _, (x_new I).1, rfl, h _ (I.hok.fresh (Nat.le_refl _)) _ ⟨_, _, (x_new I).2⟩⟩
/-- {k: v} of one tuple -/
def tXOne (P : Program) (w : World) (K : PySem.W.Frag) (tk tv : TE) : TE := fun σ H Q => ∀ p, H p = none → ∀ u, DT P w K (upd H p u) p [] → tk σ (upd H p u) fun x H1 => tv σ H1 fun y H2 => ∃ b k, x = .ref b ∧ SqT K H2 b (k.map kV) ∧ DT P w K H2 p [] ∧
  ∀ u', DT P w K (upd H2 p u') p [(k, y)] → Q (.ref p) (upd H2 p u')
theorem pe_xone {ke ve : Expr} (hu : X.A.units < cLine) (hk : PE X ke ty) (hv : PE X ve tv) : PE X (.Dict [some ke] [ve] pos) (tXOne X.prog X.w X.K ty tv) := by
  intro pins s σ H Q I h
  obtain ⟨I1, D1⟩ := x_new I
  refine wpAny_Dict_any rfl rfl (by simp) (by simp) (pairTrees_cons_walk (thn (hk pins _ σ _ _ I1 (h _ (I.hok.fresh (Nat.le_refl _)) _ ⟨_, _, D1⟩)) fun kv s2 ⟨x, H2, I2, rx, q2⟩ =>
    thn (hv pins s2 σ H2 _ I2 q2) fun vv s3 ⟨y, H3, I3, ry, q3⟩ => pairTrees_nil_walk ?_))
  obtain ⟨b, k, ex, hb, D3, q3⟩ := q3
  subst ex
  obtain rfl : kv = Value.ref b := rx
  obtain ⟨xs, ep, D3⟩ := D3
  obtain ⟨_, dd, el⟩ := D3.raw I3
  unfold storeAll
  rw [List.forIn_cons]
  refine wpAny_bind (wpAny_bind (wpAny_dictSet_heap (hsz := by rw [← el]; exact Nat.zero_le _) (knd := tupleKind (mixKind X.prog X.w)) hu (key_sq I3 hb) dd fun h' dd' hs => wpAny_pure ?_))
  show wpAny _ _ (forIn [] PUnit.unit _) _ _ _
  rw [List.forIn_nil]
  refine wpAny_pure ?_
  obtain ⟨q, es, ep', hq, h2, h3, h4, _, h5⟩ := dd'
  have nt := ext_ntup D3.at_
  refine ⟨.ref _, _, d_write (ob := DTO X.prog X.w _ (storedH xs k b vv) ep') I3 (by rw [D3.at_]; exact True.intro) hs ⟨q, hq⟩ (dto_ok ⟨q, es, hq, h2, h3, h4, h5⟩), rfl, q3 _ ⟨_, _, upd_same, D3.ns, by show 1 ≤ sizeLine; decide, ?_⟩⟩
  exact Paired.mapP (D3.rel.put k hb ry) fun _ _ z => ⟨z.1, z.2.1.other nt, z.2.2⟩
/-- d.get(k, x) -/
def tXGet2 (P : Program) (w : World) (K : PySem.W.Frag) (td ty tx : TE) : TE := fun σ H Q => td σ H fun x H1 => ∃ a, x = .ref a ∧ (∃ kvs, DT P w K H1 a kvs) ∧ ty σ H1 fun y H2 => tx σ H2 fun z H3 =>
  ∃ kvs b k, y = .ref b ∧ DT P w K H3 a kvs ∧ SqT K H3 b (k.map kV) ∧ Q ((valV kvs k).getD z) H3
theorem pe_xget2 (hu : X.A.units + 1 < cLine) (ho : PE X o td) (he : PE X e ty) (hf : PE X f tx) (m : M2 X o "get" apos e f cpos) : PE X (.Call (.Attribute o "get" apos) [e, f] [] cpos) (tXGet2 X.prog X.w X.K td ty tx) := by
  intro pins s σ H Q I h
  refine wpAny_Call_method m.base m.few m.line PySem.F.plainAttrs_dict PySem.F.slot_dict_get PySem.F.type_dict_get (thn (ho pins s σ H _ I h) fun u s1 ⟨x, H1, I1, rx, a, ex, ⟨kvs0, D0⟩, q1⟩ => ?_)
  subst ex
  obtain rfl : u = Value.ref a := rx
  obtain ⟨t1, t2⟩ := isDT_at I1 D0
  refine ⟨t1, t2, ?_⟩
  rw [m.trees]
  refine Calls.callWith_builtin rfl (Calls.evalArgs_plain (Calls.spliced_cons (thn (he pins s1 σ H1 _ I1 q1) fun iv s2 ⟨y, H2, I2, ry, q2⟩ =>
    Calls.spliced_cons (thn (hf pins s2 σ H2 _ I2 q2) fun fv s3 ⟨z, H3, I3, rz, kvs, b, k, ey, D, hk, q3⟩ => Calls.spliced_nil ?_))))
  subst ey
  obtain rfl : iv = Value.ref b := ry
  exact x_get2 hu I3 D hk rz fun w' s4 I4 rw' => ⟨_, H3, I4, rw', q3⟩
/-- d[k] = v -/
def sXPut (P : Program) (w : World) (K : PySem.W.Frag) (td ty tv : TE) : TS := fun D σ H => tv σ H fun v H1 => td σ H1 fun x H2 => ty σ H2 fun y H3 => ∃ a kvs b k, x = .ref a ∧ y = .ref b ∧ DT P w K H3 a kvs ∧ SqT K H3 b (k.map kV) ∧ kvs.length < sizeLine ∧
  ∀ u, DT P w K (upd H3 a u) a (putK kvs k v) → D.nx σ (upd H3 a u)
theorem ps_xput (hu : X.A.units + 1 < cLine) (ho : PE X o td) (hi : PE X i ty) (hv : PE X value tv) (hs : swapsWith value (some (.Subscript o i pos')) pos.line X.env = pure false) :
    PS X (.Assign [.Subscript o i pos'] value pos) (sXPut X.prog X.w X.K td ty tv) := by
  intro pins s σ H D I h
  refine wpAny_Assign_Subscript (thn (hv pins s σ H _ I h) fun r s1 ⟨v, H1, I1, rv, q1⟩ => thn (ho pins s1 σ H1 _ I1 q1) fun u s2 ⟨x, H2, I2, rx, q2⟩ => thn (hi pins s2 σ H2 _ I2 q2) fun iv s3 ⟨y, H3, I3, ry, a, kvs, b, k, ex, ey, d, hk, hl, q3⟩ => ?_) hs
  subst ex ey
  obtain rfl : u = Value.ref a := rx
  obtain rfl : iv = Value.ref b := ry
  exact x_setItem hu I3 d hk hl rv fun u' s4 d' I4 => ⟨σ, _, I4, q3 u' d'⟩
end
end L2

set_option Elab.async false
set_option linter.all false
set_option maxRecDepth 100000
namespace L2
open PySem PySem.Spec PyProof.Rows
theorem withoutH_erase {k : List Key} : ∀ {xs : Raw} {j : Nat} {p : Addr × Value}, (xs.map (·.1)).Nodup → xs[j]? = some (k, p) → xs.eraseIdx j = withoutH xs k
  | [], _, _, _, h => by simp at h
  | x :: xs, 0, p, hn, h => by
    have e : x = (k, p) := by simpa using h
    subst e
    rw [List.map_cons, List.nodup_cons] at hn
    rw [List.eraseIdx_cons_zero]
    unfold withoutH
    rw [List.filter_cons, if_neg (by simp)]
    symm
    rw [List.filter_eq_self]
    intro y hy
    rw [decide_eq_true_iff]
    exact fun e => hn.1 (List.mem_map.mpr ⟨y, hy, e⟩)
  | x :: xs, j + 1, p, hn, h => by
    rw [List.map_cons, List.nodup_cons] at hn
    have h' : xs[j]? = some (k, p) := by simpa using h
    have ne : x.1 ≠ k := fun e => hn.1 (by rw [e]; exact List.mem_map.mpr ⟨(k, p), List.mem_of_getElem? h', rfl⟩)
    rw [List.eraseIdx_cons_succ, withoutH_erase hn.2 h']
    unfold withoutH
    rw [List.filter_cons, if_pos (decide_eq_true ne)]
theorem erase_map {α β : Type} (f : α → β) : ∀ (l : List α) (j : Nat), (l.map f).eraseIdx j = (l.eraseIdx j).map f
  | [], _ => rfl
  | _ :: _, 0 => rfl
  | x :: l, j + 1 => by rw [List.map_cons, List.eraseIdx_cons_succ, List.eraseIdx_cons_succ, List.map_cons, erase_map f l j]
section
variable {prog : Program} {w : World} {A : Around} {E : Value → Shared → Prop} {s : Shared} {a b : Addr} {xs : Raw} {ep : Nat} {k : List Key}
theorem x_takeOut {Q : Option DictEntry → Shared → Prop} (hu : (tupleKind (mixKind prog w)).room A) (hkey : (tupleKind (mixKind prog w)).is s.heap k b) (hm : s.heap.DictOfH (tupleKind (mixKind prog w)) a xs) (hsz : xs.length ≤ sizeLine)
    (hnone : atKey xs k = none → ∀ tk, Q none { s with toks := tk })
    (hsome : ∀ p, atKey xs k = some p → ∀ h' tk ep', DAt prog w h' a (withoutH xs k) ep' → Heap.SameBut a s.heap h' → Q (some ⟨(tupleKind (mixKind prog w)).hash k, .ref p.1, p.2⟩) { s with heap := h', toks := tk }) :
    wpAny (model prog w) A (Builtin.Dict.takeOut a (.ref b)) Q E s := by
  obtain ⟨o, es, ep, ho, hc, hd, he, his, hn⟩ := hm
  have hes := size_of_entries he
  unfold Builtin.Dict.takeOut
  try with_reducible refine wpAny_holding ?_
  refine wpAny_bind ((tupleKind (mixKind prog w)).pyHash hu hkey ?_)
  refine wpAny_bind (wpAny_dictFind_heap (s := { s with toks := _ }) hu hkey ho hd he his hn (fun no => ?_) fun j p hj => ?_)
  · exact wpAny_pure (hnone (atKey_none_of_get no) _)
  · have hj' : es[j]? = some ⟨(tupleKind (mixKind prog w)).hash k, .ref p.1, p.2⟩ := by rw [entry_at he j, hj]; rfl
    refine wpAny_bind (wpAny_dictEntries (s := { s with toks := _ }) ho hd ?_)
    rw [hj']
    refine wpAny_bind (wpAny_updateDictKeys (hz := by omega) (s := { s with toks := _ }) ho hd (wpAny_pure (hsome p (atKey_of_get hn hj) _ _ (ep + 1) ⟨_, _, Heap.get?_update_self _ ho (Obj.isFreed_of_dict (Obj.data_mapDictKeys hd _)), hc.mapDictKeys _, Obj.data_mapDictKeys hd _, ?_, ?_⟩ (Heap.SameBut.update ..))))
    · rw [← withoutH_erase hn hj]
      obtain ⟨l⟩ := es
      have he' : l = xs.map (entryOfKey (tupleKind (mixKind prog w))) := he
      subst he'
      have hl : j < (xs.map (entryOfKey (tupleKind (mixKind prog w)))).length := by
        rw [List.length_map]
        exact (List.getElem?_eq_some_iff.mp hj).1
      simp [erase_map]
    · exact hn.sublist (List.filter_sublist.map _)
theorem x_pop {Q : Value → Shared → Prop} {r : Value} (hu : A.units + 1 < cLine) (hkey : (tupleKind (mixKind prog w)).is s.heap k b) (hs : (a == sysModules) = false) (hm : s.heap.DictOfH (tupleKind (mixKind prog w)) a xs) (hsz : xs.length ≤ sizeLine)
    (hnone : atKey xs k = none → ∀ tk, Q r { s with toks := tk })
    (hsome : ∀ p, atKey xs k = some p → ∀ h' tk ep', DAt prog w h' a (withoutH xs k) ep' → Heap.SameBut a s.heap h' → Q p.2 { s with heap := h', toks := tk }) :
    wpAny (model prog w) A (call (.builtin "dict.pop") [.ref a, .ref b, r]) Q E s := by
  refine wpAny_call_entry PySem.F.slot_dict_pop hm.typeIs PySem.F.entry_dict_pop ?_ (PySem.F.args_dict_pop_3 _ _ _)
  unfold Builtin.«dict.pop» Builtin.Dict.keyAndDefault
  refine wpAny_bind (wpAny_bind (wpAny_notOrdered_dict hm.typeIs ?_))
  show wpAny _ _ (pure (a, Value.ref b, some r)) _ _ s
  refine wpAny_pure ?_
  have hp : (keyPart (Value.ref b)).isSome = false := rfl
  obtain ⟨o, es, ep, ho, hc, hd, he, his, hn⟩ := id hm
  simp only [hp, Bool.false_eq_true, if_false]
  refine wpAny_bind (wpAny_dictEntries ho hd ?_)
  refine wpAny_bind (wpAny_pure ?_)
  cases hE : es.isEmpty with
  | true =>
    have hx : xs = [] := by
      have e1 := size_of_entries he
      have e2 : es.size = 0 := by simpa using hE
      exact List.eq_nil_of_length_eq_zero (by omega)
    subst hx
    simp only [if_true]
    refine wpAny_bind (wpAny_rule ?_)
    refine wpAny_bind (wpAny_pure ?_)
    simp only [Option.isNone_none, if_true]
    refine wpAny_bind (wpAny_missedRemoval_other hs ?_)
    exact wpAny_bind (wpAny_rule (wpAny_pure ⟨r, rfl, hnone rfl s.toks⟩))
  | false =>
    simp only [Bool.false_eq_true, if_false]
    refine wpAny_bind (x_takeOut (A := A.in1) hu hkey hm hsz (fun no tk => ?_) fun p hp' h' tk ep' dd sb => ?_)
    · simp only [Option.isNone_none, if_true]
      refine wpAny_bind (wpAny_missedRemoval_other hs ?_)
      exact wpAny_bind (wpAny_rule (wpAny_pure ⟨r, rfl, hnone no tk⟩))
    · simp only [Option.isNone_some, Bool.false_eq_true, if_false]
      exact wpAny_bind (wpAny_letGo (wpAny_pure ⟨_, rfl, hsome p hp' h' tk ep' dd sb⟩))
end
section
variable {X : Cx} {o e f : Expr} {td ty tx : TE} {apos cpos : Pos}
/-- d.pop(k, x), a tuple's key -/
def tXPop2 (P : Program) (w : World) (K : PySem.W.Frag) (td ty tx : TE) : TE := fun σ H Q => td σ H fun x H1 => ∃ a, x = .ref a ∧ (∃ kvs, DT P w K H1 a kvs) ∧ ty σ H1 fun y H2 => tx σ H2 fun z H3 =>
  ∃ kvs b k, y = .ref b ∧ DT P w K H3 a kvs ∧ SqT K H3 b (k.map kV) ∧ (∀ v, valV kvs k = some v → ∀ u, DT P w K (upd H3 a u) a (dropK kvs k) → Q v (upd H3 a u)) ∧ (valV kvs k = none → Q z H3)
theorem pe_xpop2 (hu : X.A.units + 1 < cLine) (ho : PE X o td) (he : PE X e ty) (hf : PE X f tx) (m : M2 X o "pop" apos e f cpos) : PE X (.Call (.Attribute o "pop" apos) [e, f] [] cpos) (tXPop2 X.prog X.w X.K td ty tx) := by
  intro pins s σ H Q I h
  refine wpAny_Call_method m.base m.few m.line PySem.F.plainAttrs_dict PySem.F.slot_dict_pop PySem.F.type_dict_pop (thn (ho pins s σ H _ I h) fun u s1 ⟨x, H1, I1, rx, a, ex, ⟨kvs0, D0⟩, q1⟩ => ?_)
  subst ex
  obtain rfl : u = Value.ref a := rx
  obtain ⟨t1, t2⟩ := isDT_at I1 D0
  refine ⟨t1, t2, ?_⟩
  rw [m.trees]
  refine Calls.callWith_builtin rfl (Calls.evalArgs_plain (Calls.spliced_cons (thn (he pins s1 σ H1 _ I1 q1) fun iv s2 ⟨y, H2, I2, ry, q2⟩ =>
    Calls.spliced_cons (thn (hf pins s2 σ H2 _ I2 q2) fun fv s3 ⟨z, H3, I3, rz, kvs, b, k, ey, D, hk, q3, q4⟩ => Calls.spliced_nil ?_))))
  subst ey
  obtain rfl : iv = Value.ref b := ry
  obtain ⟨xs, ep, D⟩ := D
  obtain ⟨_, dd, el⟩ := D.raw I3
  have hv := D.rel.val k
  have hz := D.len
  refine x_pop hu (key_sq I3 hk) D.ns dd (by omega) (fun no tk => ?_) fun p hp h' tk ep' d' sb => ?_
  · rw [no] at hv
    have e0 : valV kvs k = none := by
      cases e1 : valV kvs k with
      | none => rfl
      | some v => rw [e1] at hv; exact hv.elim
    exact ⟨_, H3, I3.tok _, rz, q4 e0⟩
  · rw [hp] at hv
    cases e1 : valV kvs k with
    | none => rw [e1] at hv; exact hv.elim
    | some v =>
      rw [e1] at hv
      have nt := ext_ntup D.at_
      obtain ⟨q, es, hq, r⟩ := id d'
      refine ⟨v, _, d_write (ob := DTO X.prog X.w a (withoutH xs k) ep') I3 (by rw [D.at_]; exact True.intro) sb ⟨q, hq⟩ (dto_ok d'), hv, q3 v e1 _ ⟨_, _, upd_same, D.ns, Nat.le_trans (dropK_le kvs k) hz, ?_⟩⟩
      exact Paired.mapP (D.rel.drop k) fun _ _ z => ⟨z.1, z.2.1.other nt, z.2.2⟩
end
end L2

set_option Elab.async false
set_option linter.all false
set_option maxRecDepth 100000
namespace L2
open PySem PySem.Spec PyProof.Rows
section
variable {prog : Program} {w : World} {A : Around} {E : Value → Shared → Prop} {s : Shared}
theorem iter_items_raw {v d : Addr} {od : Obj} {es : Array DictEntry} {ep : Nat} {Q : Value → Shared → Prop} (hv : s.heap.IsItemsView v d) (hod : s.heap.get? d = some od) (hdd : od.data = .dict es ep)
    (hQ : Q (.ref s.heap.objs.size) { s with heap := s.heap.push { cls := .type "dict_itemiterator", data := .fields #[.none, .bool false, .ref d, .int 0 0, .int es.size 0, .int ep 0, .none, .none] } }) :
    wpAny (model prog w) A (pyIter (.ref v)) Q E s := by
  obtain ⟨q, hq, qc, qd⟩ := id hv
  refine wpAny_pyIter_slot hv.typeIs F.slot_dict_items_iter (wpAny_call_entry F.slot_dict_items_iter hv.typeIs F.entry_dict_items_iter (by
    unfold Builtin.«dict_items.__iter__» Builtin.Dict_items.dictOf
    refine wpAny_bind (wpAny_pure (wpAny_bind (wpAny_bind (wpAny_field hq qd (x := .ref d) rfl (wpAny_pure ?_)))))
    unfold Builtin.Dict_items.newIterator
    refine wpAny_bind (wpAny_bind (wpAny_dictEntries hod hdd (wpAny_bind (wpAny_dictEpoch hod hdd ?_))))
    simp only [show Builtin.Dict_items.ownsTuple "dict_itemiterator" = true by decide, if_true]
    refine wpAny_newObj_type (wpAny_pure ⟨_, rfl, "dict_itemiterator", _, ⟨_, Heap.get?_push_size _ rfl, rfl⟩, F.slot_dict_itemiterator_next.lookup, (by simpa [rawInt, Builtin.Dict_items.ownedTupleFields] using hQ)⟩) (by
      simp only [sizeOk, Builtin.Dict_items.ownedTupleFields, List.size_toArray, List.length_append, List.length_cons, List.length_nil, sizeLine_eq]; omega)) (F.args_dict_items_iter_1 _))
theorem next_item_raw {it d : Addr} {i n ep : Nat} {od : Obj} {es : Array DictEntry} {en : DictEntry} {ok ov : Value} {Q : Option Value → Shared → Prop} (hit : IsItemIter s.heap it d i n ep ok ov) (hod : s.heap.get? d = some od) (hdd : od.data = .dict es ep)
    (hsz : es.size = n) (hx : es[i]? = some en)
    (hQ : ∀ h', IsItemIterOut h' it d (i + 1) n ep en.key en.val s.heap.objs.size → h'.get? s.heap.objs.size = some { cls := .type "tuple", data := .seq #[en.key, en.val] } →
      (∀ b o, b ≠ it → s.heap.get? b = some o → h'.get? b = some o) → Q (some (.ref s.heap.objs.size)) { s with heap := h' }) : wpAny (model prog w) A (pyNext (.ref it)) Q E s := by
  obtain ⟨hp, g, dr, tk, os⟩ := s
  have tyI : Shared.TypeIs ⟨hp, g, dr, tk, os⟩ (.ref it) "dict_itemiterator" := ⟨_, hit, rfl⟩
  obtain ⟨hlt, hen⟩ := Array.getElem?_eq_some_iff.mp hx
  unfold pyNext
  refine wpAny_bind (wpAny_attempt (wpAny_callSpecial?_slot (name := Str.ofString "__next__") tyI F.slot_dict_itemiterator_next (wpAny_call_entry F.slot_dict_itemiterator_next tyI F.entry_dict_itemiterator_next ?_ (F.args_dict_itemiterator_next_1 _))))
  refine wpAny_bind (wpAny_pure (wpAny_bind (wpAny_bind ?_)))
  refine wpAny_bind (wpAny_typeNameOfWhole_itemiter tyI (wpAny_pure (wpAny_bind (wpAny_fieldsOf hit rfl ?_))))
  simp only [show Builtin.Dict_items.ownsTuple "dict_itemiterator" = true by decide, if_true]
  show wpAny _ _ (if (Value.ref d == Value.none) = true then _ else _) _ _ _
  rw [if_neg (show ¬ ((Value.ref d == Value.none) = true) by exact Bool.false_ne_true)]
  refine wpAny_bind (wpAny_pure (wpAny_bind (wpAny_dictEntries hod hdd ?_)))
  rw [if_neg (by simp [hsz])]
  refine wpAny_bind (wpAny_pure (wpAny_bind (wpAny_dictEpoch hod hdd ?_)))
  rw [if_neg (by simp)]
  refine wpAny_pure ?_
  have i0 : ¬ ((i : Int) < 0) := by omega
  simp only [i0, if_false, Int.toNat_natCast, Array.getElem?_eq_getElem hlt]
  refine wpAny_bind (wpAny_bind (wpAny_typeNameOfWhole_itemiter tyI (wpAny_pure (wpAny_bind (wpAny_isOneOf_itemiter tyI ?_)))))
  show wpAny _ _ (setField (.ref it) 3 (rawInt ((i : Int) + 1)) >>= _) _ _ (Shared.mk hp g dr tk os)
  refine wpAny_bind (wpAny_setField_rec hit (by simp) fun h1 e1 b1 => ?_)
  replace b1 : Heap.SameBut it hp h1 := b1
  replace e1 : IsItemIter h1 it d (i + 1) n ep ok ov := by
    have q : ((i + 1 : Nat) : Int) = (i : Int) + 1 := by omega
    unfold IsItemIter; rw [q]; simpa [rawInt] using e1
  have ty1 : Shared.TypeIs ⟨h1, g, dr, tk, os⟩ (.ref it) "dict_itemiterator" := ⟨_, e1, rfl⟩
  refine wpAny_bind (wpAny_holding (wpAny_bind (wpAny_isOneOf_itemiter ty1 (wpAny_bind (wpAny_isOneOf_itemiter ty1 ?_)))))
  show wpAny _ _ (Builtin.Dict_items.pairFromOwner (.ref it) 6 es[i].key es[i].val) _ _ (Shared.mk h1 g dr tk os)
  rw [hen]
  unfold Builtin.Dict_items.pairFromOwner
  refine wpAny_bind (wpAny_newTuple ?_)
  have z1 : h1.objs.size = hp.objs.size := b1.1
  have il : it < hp.objs.size := Heap.lt_size hit
  have ng : hp.objs.size ≠ it := Nat.ne_of_gt il
  have e2 : IsItemIter (h1.push { cls := .type "tuple", data := .seq #[en.key, en.val] }) it d (i + 1) n ep ok ov := Heap.get?_push_of_some _ e1
  have k2 : ∀ b o, b ≠ it → hp.get? b = some o → (h1.push { cls := .type "tuple", data := .seq #[en.key, en.val] }).get? b = some o := fun b o hb e => Heap.get?_push_of_some _ (b1.extBut b o hb e)
  have t2 : (h1.push { cls := .type "tuple", data := .seq #[en.key, en.val] }).get? hp.objs.size = some { cls := .type "tuple", data := .seq #[en.key, en.val] } := by rw [← z1]; exact Heap.get?_push_size _ rfl
  rw [z1]
  generalize h1.push { cls := .type "tuple", data := .seq #[en.key, en.val] } = h2 at e2 k2 t2
  show wpAny _ _ (Builtin.Dict_items.ownedTupleIsFree (.ref it) >>= _) _ _ (Shared.mk h2 g dr tk os)
  unfold Builtin.Dict_items.ownedTupleIsFree
  refine wpAny_bind (wpAny_bind (wpAny_field e2 rfl (x := .none) rfl (wpAny_pure ?_)))
  simp only [if_true]
  refine wpAny_bind (wpAny_field e2 rfl (x := ok) rfl (wpAny_bind (wpAny_field e2 rfl (x := ov) rfl (wpAny_bind (wpAny_setField_rec e2 (by simp) fun h3 e3 b3 => ?_)))))
  replace b3 : Heap.SameBut it h2 h3 := b3
  replace e3 : IsItemIter h3 it d (i + 1) n ep en.key ov := e3
  refine wpAny_bind (wpAny_setField_rec e3 (by simp) fun h4 e4 b4 => ?_)
  replace b4 : Heap.SameBut it h3 h4 := b4
  replace e4 : IsItemIter h4 it d (i + 1) n ep en.key en.val := e4
  refine wpAny_bind (wpAny_setField_rec e4 (by simp) fun h5 e5 b5 => ?_)
  replace b5 : Heap.SameBut it h4 h5 := b5
  replace e5 : IsItemIterOut h5 it d (i + 1) n ep en.key en.val hp.objs.size := e5
  refine wpAny_bind (wpAny_setField_rec e5 (by simp) fun h6 e6 b6 => ?_)
  replace b6 : Heap.SameBut it h5 h6 := b6
  have kk : ∀ b o, b ≠ it → h2.get? b = some o → h6.get? b = some o := fun b o hb e => b6.extBut b o hb (b5.extBut b o hb (b4.extBut b o hb (b3.extBut b o hb e)))
  exact wpAny_bind (wpAny_letGo (wpAny_pure (wpAny_pure ⟨_, rfl, wpAny_pure (hQ h6 e6 (kk _ _ ng t2) fun b o hb e => kk b o hb (k2 b o hb e))⟩)))
theorem next_item_end {it d : Addr} {i n ep : Nat} {od : Obj} {es : Array DictEntry} {ok ov : Value} {Q : Option Value → Shared → Prop} (hh : A.handled = none) (hit : IsItemIter s.heap it d i n ep ok ov) (hod : s.heap.get? d = some od) (hdd : od.data = .dict es ep)
    (hsz : es.size = n) (hge : n ≤ i) (hQ : ∀ h', Heap.ExtBut it s.heap h' → Q none { s with heap := h' }) : wpAny (model prog w) A (pyNext (.ref it)) Q E s := by
  have tyI : s.TypeIs (.ref it) "dict_itemiterator" := ⟨_, hit, rfl⟩
  unfold pyNext
  refine wpAny_bind (wpAny_attempt (wpAny_callSpecial?_slot (name := Str.ofString "__next__") tyI F.slot_dict_itemiterator_next (wpAny_call_entry F.slot_dict_itemiterator_next tyI F.entry_dict_itemiterator_next ?_ (F.args_dict_itemiterator_next_1 _))))
  refine wpAny_bind (wpAny_pure (wpAny_bind (wpAny_bind ?_)))
  refine wpAny_bind (wpAny_typeNameOfWhole_itemiter tyI (wpAny_pure (wpAny_bind (wpAny_fieldsOf hit rfl ?_))))
  simp only [show Builtin.Dict_items.ownsTuple "dict_itemiterator" = true by decide, if_true]
  show wpAny _ _ (if (Value.ref d == Value.none) = true then _ else _) _ _ _
  rw [if_neg (show ¬ ((Value.ref d == Value.none) = true) by exact Bool.false_ne_true)]
  refine wpAny_bind (wpAny_pure (wpAny_bind (wpAny_dictEntries hod hdd ?_)))
  rw [if_neg (by simp [hsz])]
  refine wpAny_bind (wpAny_pure (wpAny_bind (wpAny_dictEpoch hod hdd ?_)))
  rw [if_neg (by simp)]
  refine wpAny_pure ?_
  have i0 : ¬ ((i : Int) < 0) := by omega
  have ge : es.size ≤ i := by omega
  simp only [i0, if_false, Int.toNat_natCast, Array.getElem?_eq_none ge]
  refine wpAny_bind (wpAny_bind (wpAny_typeNameOfWhole_itemiter tyI (wpAny_pure ?_)))
  show wpAny _ _ (setField (.ref it) 2 .none >>= _) _ _ (Shared.mk s.heap s.gens s.drawn s.toks s.os)
  refine wpAny_bind (wpAny_setField hit rfl (by simp) ?_)
  show wpAny _ _ (newExc (.type "StopIteration") [] >>= fun _ => _) _ _ _
  simp only [newExc, newTuple]
  refine wpAny_bind (wpAny_bind (wpAny_newObj_type (wpAny_bind (m := firstArgMember _ _) (wpAny_of_eq (a := Value.none) (by first | rfl | (simp only [firstArgMember]; rfl)) (wpAny_newObj_type ?_ (by size_fits)))) (by size_fits)))
  simp only [raiseNew]
  refine wpAny_bind (wpAny_handled ?_)
  rw [show A.in1.handled = none by exact hh]
  refine wpAny_bind (wpAny_pure (wpAny_throw ?_))
  refine wpAny_bind (wpAny_isInstance (T := "StopIteration") (b := true) (by exact ⟨_, Heap.get?_push_size _ rfl, rfl⟩) isSubtype_stop ?_)
  exact wpAny_pure (hQ _ (((Heap.SameBut.update ..).extBut.push _).push _))
theorem items_view_raw {d : Addr} {od : Obj} {es : Array DictEntry} {ep : Nat} (hs : (d == sysModules) = false) : MeetsIn prog w (Builtin.«dict.items» ⟨[.ref d], []⟩) (fun _ R s => s.TypeIs (.ref d) "dict" ∧
    R (.ok (.ret (.ref s.heap.objs.size))) { s with heap := s.heap.push { cls := .type "dict_items", data := .fields #[.ref d] } }) :=
  .of_wp fun A R s ⟨ty, h⟩ => by
    unfold Builtin.«dict.items» Builtin.Dict.noArgs
    refine wpAny_bind (wpAny_bind (wpAny_notOrdered_dict ty ?_))
    show wpAny _ _ (pure d) _ _ (Shared.mk s.heap s.gens s.drawn s.toks s.os)
    refine wpAny_pure ?_
    show wpAny _ _ (Builtin.Dict.showsAll d >>= fun _ => _) _ _ (Shared.mk s.heap s.gens s.drawn s.toks s.os)
    unfold Builtin.Dict.showsAll
    rw [if_neg (by rw [hs]; decide)]
    exact wpAny_bind (wpAny_pure (wpAny_bind (wpAny_newObj_type (wpAny_pure ⟨_, rfl, h⟩))))
end
/-- the pairs of the dict at d, each a new tuple of the key's own tuple and the value -/
def Itx (P : Program) (w : World) (K : PySem.W.Frag) (d : Addr) (kvs : List (List Key × V)) (xs : Raw) (ep : Nat) : It :=
  ⟨fun i H => DTe P w K H d kvs xs ep ∧ i < kvs.length, fun i H x H' => ∃ T b k v, kvs[i]? = some (k, v) ∧ x = .ref T ∧ H T = none ∧ SqT K H b (k.map kV) ∧ H' = upd H T (.tup [.ref b, v]), fun i H => DTe P w K H d kvs xs ep ∧ kvs.length ≤ i⟩
theorem KTs.get {K : PySem.W.Frag} {H : Hp} {kvs : List (List Key × V)} {xs : Raw} (r : KTs K H kvs xs) {i : Nat} {k : List Key} {v : V} (h : kvs[i]? = some (k, v)) : ∃ b u, xs[i]? = some (k, b, u) ∧ SqT K H b (k.map kV) ∧ RelV v u := by
  obtain ⟨q, hq, e1, e2, e3⟩ := paired_get r h
  obtain ⟨k', b, u⟩ := q
  have e1' : k = k' := e1
  subst e1'
  exact ⟨b, u, hq, e2, e3⟩
section
variable {P : Program} {w : World} {K : PySem.W.Frag} {d : Addr} {kvs : List (List Key × V)} {xs : Raw} {ep : Nat}
theorem turn_xitems {elts : List Expr} {kk : Nat} {tpos : Pos} (it : Addr) : Turn P w K (.Tuple elts kk tpos) (Itx P w K d kvs xs ep) [it] it (fun i h => ∃ ok ov, IsItemIter h it d i kvs.length ep ok ov) where
  mem := by simp
  obj := fun i h st b hb => by
    have e : b = it := by simpa using hb
    subst e
    obtain ⟨ok, ov, e⟩ := st
    exact ⟨_, e, fun v z => nomatch z⟩
  keep := fun i h h' st k => let ⟨ok, ov, e⟩ := st; ⟨ok, ov, k it (by simp) _ e⟩
  item := by
    intro X hP hw hK hc i pins s σ H E I hf st hg
    subst hP hw hK
    obtain ⟨D, hi⟩ := hg
    obtain ⟨⟨o, es, h1, h2, h3, h4, h5⟩, _, el⟩ := D.raw I
    obtain ⟨⟨k, v⟩, hkv⟩ : ∃ p, kvs[i]? = some p := ⟨kvs[i], List.getElem?_eq_getElem hi⟩
    obtain ⟨b, u, hx, hb, ru⟩ := D.rel.get hkv
    have hsz : es.size = kvs.length := by rw [size_of_entries h4, el]
    have hen : es[i]? = some ⟨(tupleKind (mixKind X.prog X.w)).hash k, .ref b, u⟩ := by rw [entry_at h4 i, hx]; rfl
    obtain ⟨ok, ov, he⟩ := st
    have hlt : it < s.heap.objs.size := Heap.lt_size he
    refine next_item_raw he h1 h3 hsz hen fun h' ho hT hk => ?_
    refine ⟨_, rfl, wpAny_letOwnedTupleGo_items (s := { s with heap := h' }) ho fun h'' he' sb => ?_⟩
    have hT2 : h''.get? s.heap.objs.size = some { cls := .type "tuple", data := .seq #[.ref b, u] } := (sb.2 _ (Nat.ne_of_gt hlt)).trans hT
    have new : ObjOk X.prog X.w (upd H s.heap.objs.size (.tup [.ref b, v])) h'' s.heap.objs.size (.tup [.ref b, v]) :=
      ⟨by show 2 ≤ sizeLine; decide, [.ref b, u], .cons rfl (.cons ru .nil), ⟨_, hT2, rfl, _, rfl⟩⟩
    have I1 : Inv X pins σ (upd H s.heap.objs.size (.tup [.ref b, v])) { s with heap := h'' } :=
      I.turnedNew (t' := s.toks) (ch := [it]) (fun c ob hb e => (sb.2 c (by simpa using hb)).trans (hk c ob (by simpa using hb) e)) hf (Nat.le_refl _) new
    refine ⟨.ref s.heap.objs.size, _, I1, rfl, ⟨_, b, k, v, hkv, rfl, I.hok.fresh (Nat.le_refl _), hb, rfl⟩, ⟨_, _, he'⟩, fun c hcm => ?_⟩
    have e : c = it := by simpa using hcm
    rw [e, upd_ne (Nat.ne_of_lt hlt)]
    exact (hf it (by simp)).1
  done := by
    intro X hP hw hK hc i pins s σ H E I hf st hg
    subst hP hw hK
    obtain ⟨D, hi⟩ := hg
    obtain ⟨f0, f1, f2, f3, f4, f5⟩ := hf it (by simp)
    obtain ⟨⟨o, es, h1, h2, h3, h4, h5⟩, _, el⟩ := D.raw I
    have hsz : es.size = kvs.length := by rw [size_of_entries h4, el]
    obtain ⟨ok, ov, he⟩ := st
    exact next_item_end (I.ok.hd hc) he h1 h3 hsz hi fun h' eb => ⟨rfl, I.turned (t' := s.toks) (fun b ob hb e => eb b ob hb e) f0 f1 f3 f4 f5⟩
  self := fun A i s Q E st h => let ⟨_, _, e⟩ := st; PySem.W.kcp_self e h
end
def iXItems (P : Program) (w : World) (K : PySem.W.Frag) (td : TE) : TI := fun σ H R => td σ H fun x H1 => ∃ d kvs xs ep, x = .ref d ∧ DTe P w K H1 d kvs xs ep ∧ R (Itx P w K d kvs xs ep) H1
theorem pi_xitems {X : Cx} {e : Expr} {td : TE} {apos cpos : Pos} {elts : List Expr} {kk : Nat} {tpos : Pos} (he : PE X e td) (hbase : attributeBase e "items" X.env (eval e X.env) = eval e X.env := by rfl) (hline : (apos.endLine == cpos.line) = true := by rfl) :
    PI X (.Tuple elts kk tpos) (.Call (.Attribute e "items" apos) [] [] cpos) (iXItems X.prog X.w X.K td) := by
  intro pins s σ H R I h
  refine wpAny_Call_method (T := "dict") (id := "dict.items") hbase rfl hline F.plainAttrs_dict F.slot_dict_items F.type_dict_items (thn (he pins s σ H _ I h) fun u s1 ⟨x, H1, I1, rx, d, kvs, xs, ep, ex, D, q⟩ => ?_)
  subst ex
  obtain rfl : u = Value.ref d := rx
  obtain ⟨⟨o, es, h1, h2, h3, h4, h5⟩, dd, el⟩ := D.raw I1
  have hsz : es.size = kvs.length := by rw [size_of_entries h4, el]
  refine ⟨dd.typeIs, (isDT_at I1 ⟨_, _, D⟩).2, ?_⟩
  have I2 : Inv X pins σ H1 { s1 with heap := s1.heap.push { cls := .type "dict_items", data := .fields #[.ref d] } } := I1.kept (t' := s1.toks) fun b ob q => Heap.get?_push_of_some _ q
  have fin : wpAny (model X.prog X.w) X.A (pyIter (.ref s1.heap.objs.size)) (PIE X pins σ (.Tuple elts kk tpos) R) X.xe { s1 with heap := s1.heap.push { cls := .type "dict_items", data := .fields #[.ref d] } } := by
    refine iter_items_raw (d := d) ⟨_, Heap.get?_push_size _ rfl, rfl, rfl⟩ (Heap.get?_push_of_some _ h1) h3 (pi_one (tk := s1.toks) I2 _ (turn_xitems _) ⟨.none, .none, ?_⟩ q)
    rw [← hsz]
    exact Heap.get?_push_size _ rfl
  show wpAny _ _ (callWith cpos (.builtin "dict.items") [.ref d] [] []) _ X.xe s1
  exact method_meetsIn F.slot_dict_items F.entry_dict_items rfl (PySem.evalArgs_none ⟨rfl, dd.typeIs, F.args_dict_items_1 _, _, items_view_raw (od := o) (es := es) (ep := ep) D.ns, dd.typeIs, fin⟩)
/-- over the pairs of a dict that the body leaves as it is -/
theorem for_xitems {P : Program} {w : World} {K : PySem.W.Frag} {d : Addr} {kvs : List (List Key × V)} {xs : Raw} {ep : Nat} {g : TG} {tb : TS} {D : Ends} {σ : St} {H : Hp} (Pv : Nat → St → Hp → Prop) (h0 : Pv 0 σ H) (hl : ∀ i σ H, i ≤ kvs.length → Pv i σ H → DTe P w K H d kvs xs ep)
    (hs : ∀ i k v b σ H T, kvs[i]? = some (k, v) → Pv i σ H → H T = none → SqT K H b (k.map kV) → g (.ref T) σ (upd H T (.tup [.ref b, v])) fun σ2 H2 => tb { D with nx := Pv (i + 1), ct := Pv (i + 1), bk := D.nx } σ2 H2) (hd : ∀ σ H, Pv kvs.length σ H → D.nx σ H) :
    ∃ W : Nat → Nat → St → Hp → Prop, (∃ m, W 0 m σ H) ∧ ∀ i m σ H, W i m σ H →
      ((Itx P w K d kvs xs ep).stop i H ∧ D.nx σ H) ∨ ((Itx P w K d kvs xs ep).go i H ∧ ∃ N : St → Hp → Prop, (∀ σ' H', N σ' H' → ∃ m', m' < m ∧ W (i + 1) m' σ' H') ∧ ∀ x H', (Itx P w K d kvs xs ep).yld i H x H' → g x σ H' fun σ2 H2 => tb { D with nx := N, ct := N, bk := D.nx } σ2 H2) := by
  refine ⟨fun i m σ H => m = kvs.length - i ∧ i ≤ kvs.length ∧ Pv i σ H, ⟨kvs.length, by simp, Nat.zero_le _, h0⟩, ?_⟩
  rintro i m σ H ⟨rfl, hi, p⟩
  have q := hl i σ H hi p
  by_cases hlt : i < kvs.length
  · refine .inr ⟨⟨q, hlt⟩, Pv (i + 1), fun σ' H' p' => ⟨kvs.length - (i + 1), by omega, rfl, hlt, p'⟩, fun x H' y => ?_⟩
    obtain ⟨T, b, k, v, hk, rfl, hT, hb, rfl⟩ := y
    exact hs i k v b σ _ T hk p hT hb
  · have e : i = kvs.length := by omega
    subst e
    exact .inl ⟨⟨q, Nat.le_refl _⟩, hd σ H p⟩
end L2

namespace DmA
open Sv77 Sx23 Sx23Neutral
theorem setOf_length : ∀ (n : Nat) (l : List Nat), (setOf n l).length = n
  | 0, _ => rfl
  | n + 1, l => by
    show (setOf n (l.drop 18)).length + 1 = n + 1
    rw [setOf_length n]
def domAt (l : List Nat) (j : Nat) : Domino :=
  ⟨wordOf (l.getD (18 * j) 0) ((l.drop (18 * j + 1)).take 8), wordOf (l.getD (18 * j + 9) 0) ((l.drop (18 * j + 10)).take 8)⟩
theorem getD_drop' (l : List Nat) (k i : Nat) : (l.drop k).getD i 0 = l.getD (k + i) 0 := by
  rw [List.getD_eq_getElem?_getD, List.getD_eq_getElem?_getD, List.getElem?_drop]
theorem setOf_get : ∀ (n : Nat) (l : List Nat) (j : Nat), j < n → (setOf n l)[j]? = some (domAt l j)
  | 0, _, _, h => absurd h (Nat.not_lt_zero _)
  | n + 1, l, 0, _ => rfl
  | n + 1, l, j + 1, h => by
    show (setOf n (l.drop 18))[j]? = _
    rw [setOf_get n _ j (Nat.lt_of_succ_lt_succ h)]
    unfold domAt
    rw [getD_drop', getD_drop', List.drop_drop, List.drop_drop]
    have e1 : 18 + 18 * j = 18 * (j + 1) := by omega
    have e2 : 18 + (18 * j + 9) = 18 * (j + 1) + 9 := by omega
    have e3 : 18 + (18 * j + 1) = 18 * (j + 1) + 1 := by omega
    have e4 : 18 + (18 * j + 10) = 18 * (j + 1) + 10 := by omega
    rw [e1, e2, e3, e4]
theorem wordOf_small (k : Nat) (l : List Nat) : (wordOf k l).length ≤ 8 ↔ k ≤ 8 := by
  unfold wordOf
  by_cases h : 8 < k
  · rw [if_pos h, List.length_replicate]
  · rw [if_neg h]
    constructor
    · intro _
      omega
    · intro _
      rw [List.length_take]
      omega
theorem mem_setOf {n : Nat} {l : List Nat} {x : Domino} (h : x ∈ setOf n l) : ∃ j, j < n ∧ x = domAt l j := by
  obtain ⟨j, hj⟩ := List.mem_iff_getElem?.mp h
  have hl : j < n := by
    have := (List.getElem?_eq_some_iff.mp hj).1
    rw [setOf_length] at this
    exact this
  rw [setOf_get n l j hl] at hj
  exact ⟨j, hl, (Option.some.inj hj).symm⟩
/-- no word is longer than eight letters: every ninth byte is at most eight -/
theorem small_iff (n : Nat) (l : List Nat) : small (setOf n l) = true ↔ ∀ i, i < 2 * n → l.getD (9 * i) 0 ≤ 8 := by
  unfold small
  rw [List.all_eq_true]
  constructor
  · intro h i hi
    have hj : i / 2 < n := by omega
    have hm : domAt l (i / 2) ∈ setOf n l := List.mem_of_getElem? (setOf_get n l _ hj)
    have := h _ hm
    rw [Bool.and_eq_true, decide_eq_true_iff, decide_eq_true_iff] at this
    have h1 : l.getD (18 * (i / 2)) 0 ≤ 8 := (wordOf_small _ _).mp this.1
    have h2 : l.getD (18 * (i / 2) + 9) 0 ≤ 8 := (wordOf_small _ _).mp this.2
    rcases Nat.mod_two_eq_zero_or_one i with e | e
    · have : 18 * (i / 2) = 9 * i := by omega
      rw [this] at h1
      exact h1
    · have : 18 * (i / 2) + 9 = 9 * i := by omega
      rw [this] at h2
      exact h2
  · intro h x hx
    obtain ⟨j, hj, rfl⟩ := mem_setOf hx
    rw [Bool.and_eq_true, decide_eq_true_iff, decide_eq_true_iff]
    refine ⟨(wordOf_small _ _).mpr ?_, (wordOf_small _ _).mpr ?_⟩
    · have := h (2 * j) (by omega)
      have e : 9 * (2 * j) = 18 * j := by omega
      rw [e] at this
      exact this
    · have := h (2 * j + 1) (by omega)
      have e : 9 * (2 * j + 1) = 18 * j + 9 := by omega
      rw [e] at this
      exact this
/-- the letters of the word that begins at p, as the program cuts them -/
def wordI (d : List Int) (p : Nat) : List Int := (d.drop (p + 1)).take (d.getD p 0).toNat
theorem nats_getD (d : List Int) (i : Nat) : (nats d).getD i 0 = (d.getD i 0).toNat := by
  unfold nats
  rw [List.getD_eq_getElem?_getD, List.getD_eq_getElem?_getD, List.getElem?_map]
  cases d[i]? <;> rfl
theorem nats_word {d : List Int} {p : Nat} (h : (nats d).getD p 0 ≤ 8) : wordOf ((nats d).getD p 0) (((nats d).drop (p + 1)).take 8) = nats (wordI d p) := by
  unfold wordOf
  rw [if_neg (by omega), List.take_take, Nat.min_eq_left h, nats_getD]
  unfold nats wordI
  rw [List.map_take, List.map_drop]
/-- the k-th domino's words, read as the program reads them -/
theorem dom_at {d : List Int} {n : Nat} (h : small (setOf n (nats d)) = true) {k : Nat} (hk : k < n) :
    ((setOf n (nats d)).getD k nothing).above = nats (wordI d (k * 18)) ∧ ((setOf n (nats d)).getD k nothing).below = nats (wordI d (k * 18 + 9)) := by
  rw [List.getD_eq_getElem?_getD, setOf_get _ _ _ hk]
  have h0 := (small_iff _ _).mp h
  have h1 := h0 (2 * k) (by omega)
  have h2 := h0 (2 * k + 1) (by omega)
  have e1 : 9 * (2 * k) = 18 * k := by omega
  have e2 : 9 * (2 * k + 1) = 18 * k + 9 := by omega
  have e3 : k * 18 = 18 * k := by omega
  rw [e1] at h1
  rw [e2] at h2
  rw [e3]
  exact ⟨nats_word h1, nats_word h2⟩
theorem nats_append (a b : List Int) : nats (a ++ b) = nats a ++ nats b := List.map_append
def NN (l : List Int) : Prop := ∀ x ∈ l, 0 ≤ x
theorem nats_length (l : List Int) : (nats l).length = l.length := List.length_map ..
def told (a : Ans) : List Int := a.v :: a.l.map fun (y : Nat) => (y : Int)
end DmA

namespace DmB
open Sv77 Sx23
abbrev Stt := Bool × Word
end DmB

namespace DmB
open Sv77 Sx23
end DmB

namespace DmD
open Sv77 Sx23
end DmD

namespace DmD
end DmD

namespace DmO
open DmD
theorem nodup_len : ∀ (n : Nat) (l : List Nat), l.Nodup → (∀ x ∈ l, x < n) → l.length ≤ n
  | 0, l, _, h => by
    cases l with
    | nil => exact Nat.le_refl _
    | cons x r => exact absurd (h x List.mem_cons_self) (by omega)
  | n + 1, l, hn, h => by
    have ih := nodup_len n (l.erase n) (hn.erase n) fun x hx => by
      have h1 := h x (List.mem_of_mem_erase hx)
      have h2 : x ≠ n := fun e => by
        subst e
        exact (hn.not_mem_erase) hx
      omega
    have : l.length ≤ (l.erase n).length + 1 := by
      rw [List.length_erase]
      split <;> omega
    omega
theorem nodup_ints {lo : Int} {n : Nat} {l : List Int} (hn : l.Nodup) (h : ∀ x ∈ l, lo ≤ x ∧ x < lo + n) : l.length ≤ n := by
  have := nodup_len n (l.map fun x => (x - lo).toNat) (by
    rw [List.nodup_iff_pairwise_ne, List.pairwise_map]
    refine List.Pairwise.imp_of_mem (R := fun a b => a ≠ b) ?_ hn
    intro a b ha hb hab e
    have := h a ha
    have := h b hb
    omega) (fun x hx => by
    obtain ⟨y, hy, rfl⟩ := List.mem_map.mp hx
    have := h y hy
    omega)
  rw [List.length_map] at this
  exact this
end DmO

namespace DmS
open Sv77 Sx23 Sx23Neutral DmA
theorem nn_of_all {l : List Int} {b : Nat} (h : (l.all fun (z : Int) => natural z b) = true) : NN l := fun x hx => by
  have := List.all_eq_true.mp h x hx
  unfold natural at this
  rw [Bool.and_eq_true, decide_eq_true_iff] at this
  exact this.1
def LongW (d : List Int) : Prop := ∃ i, i < 2 * (d.length / 18) ∧ 8 < d.getD (9 * i) 0
theorem small_of {d : List Int} (h : ¬ LongW d) : small (setOf (d.length / 18) (nats d)) = true := (small_iff _ _).mpr fun i hi => by
  rw [nats_getD]
  exact Nat.le_of_not_lt fun z => h ⟨i, hi, by omega⟩
theorem not_small {d : List Int} (h : LongW d) : small (setOf (d.length / 18) (nats d)) = false := by
  obtain ⟨i, hi, hv⟩ := h
  rw [← Bool.not_eq_true]
  intro s
  have := (small_iff _ _).mp s i hi
  rw [nats_getD] at this
  omega
instance (d : List Int) : Decidable (LongW d) :=
  if h : small (setOf (d.length / 18) (nats d)) = true then isFalse fun q => by rw [not_small q] at h; cases h
  else isTrue (Classical.byContradiction fun q => h (small_of q))
/-- the dominoes -/
abbrev doms (d : List Int) : Set_ := setOf (d.length / 18) (nats d)
theorem count_asked {m : Int} {d : List Int} (h : PySx23.dm_count_asked m d = true) : d.length = 18 * (d.length / 18) ∧ d.length / 18 ≤ 2 ∧ NN d ∧ ((1 ≤ m ∧ m ≤ 16) ∨ d = []) := by
  unfold PySx23.dm_count_asked asked at h
  rw [Bool.and_eq_true] at h
  have h1 := h.1
  unfold asked1 at h1
  simp only [Bool.and_eq_true, decide_eq_true_iff] at h1
  obtain ⟨_, hd, hdl⟩ := h1
  have nd : NN d := nn_of_all hd
  by_cases q : (within ((d.length : Int) / 18) 1 2 = true ∧ within m 1 16 = true)
  · rw [if_pos q] at hdl
    unfold within at q
    simp only [Bool.and_eq_true, decide_eq_true_iff] at q
    exact ⟨by omega, by omega, nd, .inl ⟨by omega, by omega⟩⟩
  · rw [if_neg q] at hdl
    exact ⟨by omega, by omega, nd, .inr (List.eq_nil_of_length_eq_zero (by omega))⟩
theorem count_eq {m : Int} {d : List Int} (h : PySx23.dm_count_asked m d = true) :
    PySx23.dm_count m d = if d.length / 18 < 1 ∨ m < 1 ∨ 16 < m then [-2] else if LongW d then [-3] else [(countFrom (doms d) m.toNat (true, []) : Int)] := by
  obtain ⟨h1, h2, nd, h4⟩ := count_asked h
  have eT : PySx23.dm_count m d = told (if (within ((d.length : Int) / 18) 1 2 && within m 1 16) = false then ok (-2) else if small (doms d) = false then ok (-3) else ok (countFrom (doms d) m.toNat (true, []) : Nat)) := rfl
  rw [eT]
  by_cases q : d.length / 18 < 1 ∨ m < 1 ∨ 16 < m
  · rw [if_pos q, if_pos]
    · rfl
    · unfold within
      rw [← Bool.not_eq_true]
      intro z
      simp only [Bool.and_eq_true, decide_eq_true_iff] at z
      omega
  · rw [if_neg q, if_neg]
    · by_cases r : LongW d
      · rw [if_pos r, if_pos (not_small r)]
        rfl
      · rw [if_neg r, if_neg (by rw [small_of r]; simp)]
        rfl
    · unfold within
      rw [Bool.not_eq_false]
      simp only [Bool.and_eq_true, decide_eq_true_iff]
      omega
end DmS

namespace DmT
open Sv77 Sx23 DmB
def code (n : Nat) : List Nat := [48 + (100 + n) / 100, 48 + (100 + n) / 10 % 10, 48 + (100 + n) % 10]
theorem code_inj {a b : Nat} (h : code a = code b) : a = b := by
  unfold code at h
  simp only [List.cons.injEq, and_true] at h
  omega
def txt (w : Word) : Word := w.flatMap code
theorem txt_nil : txt [] = [] := rfl
theorem txt_cons (a : Nat) (w : Word) : txt (a :: w) = code a ++ txt w := rfl
theorem txt_append (x y : Word) : txt (x ++ y) = txt x ++ txt y := List.flatMap_append
theorem txt_length : ∀ w : Word, (txt w).length = 3 * w.length
  | [] => rfl
  | a :: w => by
    rw [txt_cons, List.length_append, txt_length w, List.length_cons]
    show 3 + _ = _
    omega
theorem txt_drop : ∀ (k : Nat) (w : Word), (txt w).drop (3 * k) = txt (w.drop k)
  | 0, w => by simp
  | k + 1, [] => by simp [txt_nil]
  | k + 1, a :: w => by
    have e : 3 * (k + 1) = 3 * k + 3 := by omega
    rw [txt_cons, e, List.drop_succ_cons, ← txt_drop k w]
    show List.drop (3 * k + 3) (_ :: _ :: _ :: txt w) = _
    rw [List.drop_succ_cons, List.drop_succ_cons, List.drop_succ_cons]
theorem txt_prefix : ∀ (y x : Word), (txt y).isPrefixOf (txt x) = y.isPrefixOf x
  | [], x => by simp [txt_nil]
  | a :: y, [] => by
    rw [txt_cons]
    rfl
  | a :: y, b :: x => by
    rw [txt_cons, txt_cons]
    have ih := txt_prefix y x
    unfold code
    simp only [List.cons_append, List.nil_append, List.isPrefixOf_cons_cons, ih]
    by_cases e : a = b
    · subst e
      simp
    · have hc : ¬ code a = code b := fun h => e (code_inj h)
      unfold code at hc
      have hb : (a == b) = false := by simpa using e
      rw [hb, Bool.false_and]
      rw [← Bool.not_eq_true]
      intro h
      simp only [Bool.and_eq_true, beq_iff_eq] at h
      exact hc (by rw [h.1, h.2.1, h.2.2.1])
def tdom (d : Domino) : Domino := ⟨txt d.above, txt d.below⟩
def tset (d : Set_) : Set_ := d.map tdom
def tst (s : Stt) : Stt := (s.1, txt s.2)
theorem ahead_txt (x y : Word) : ahead (txt x) (txt y) = (ahead x y).map tst := by
  unfold ahead
  rw [txt_prefix, txt_prefix, txt_length, txt_length, txt_drop, txt_drop]
  split
  · rfl
  · split <;> rfl
theorem next_txt (s : Stt) (d : Domino) : next (tst s) (tdom d) = (next s d).map tst := by
  unfold next tst tdom
  dsimp only
  rw [← txt_append, ← txt_append]
  split
  · exact ahead_txt _ _
  · exact ahead_txt _ _
theorem tst_nil (s : Stt) : (tst s).2 = [] ↔ s.2 = [] := by
  unfold tst
  constructor
  · intro h
    have := congrArg List.length h
    rw [txt_length, List.length_nil] at this
    exact List.eq_nil_of_length_eq_zero (by omega)
  · intro h
    show txt s.2 = []
    rw [h]
    rfl
theorem count_txt (d : Set_) : ∀ (f : Nat) (s : Stt), countFrom (tset d) f (tst s) = countFrom d f s
  | 0, _ => rfl
  | f + 1, s => by
    unfold countFrom tset
    rw [List.map_map]
    congr 1
    refine List.map_congr_left fun x _ => ?_
    show (match next (tst s) (tdom x) with | none => 0 | some t => if t.2 = [] then 1 else countFrom (List.map tdom d) f t) = _
    rw [next_txt]
    cases e : next s x with
    | none => rfl
    | some t =>
      show (if (tst t).2 = [] then 1 else countFrom (tset d) f (tst t)) = (if t.2 = [] then 1 else countFrom d f t)
      rw [count_txt d f t]
      by_cases q : t.2 = []
      · rw [if_pos q, if_pos ((tst_nil t).mpr q)]
      · rw [if_neg q, if_neg fun z => q ((tst_nil t).mp z)]
theorem tset_get (d : Set_) (i : Nat) : (tset d)[i]? = d[i]?.map tdom := List.getElem?_map ..
end DmT

namespace DmP
open Sv77 Sx23 DmB
abbrev Lead := Word × Word
def nextP (p : Lead) (d : Domino) : Option Lead :=
  if (p.2 ++ d.below).isPrefixOf (p.1 ++ d.above) = true then some ((p.1 ++ d.above).drop (p.2 ++ d.below).length, [])
  else if (p.1 ++ d.above).isPrefixOf (p.2 ++ d.below) = true then some ([], (p.2 ++ d.below).drop (p.1 ++ d.above).length) else none
def One (p : Lead) : Prop := p.1 = [] ∨ p.2 = []
def dec (p : Lead) : Stt := if p.2 = [] then (true, p.1) else (false, p.2)
theorem nextP_one {p q : Lead} {d : Domino} (h : nextP p d = some q) : One q := by
  unfold nextP at h
  split at h
  · cases h; exact .inr rfl
  · split at h
    · cases h; exact .inl rfl
    · cases h
theorem dec_ahead (a b : Word) : (if b.isPrefixOf a = true then some ((a.drop b.length, []) : Lead) else if a.isPrefixOf b = true then some ([], b.drop a.length) else none).map dec = ahead a b := by
  unfold ahead
  by_cases h : b.isPrefixOf a = true
  · rw [if_pos h, if_pos h]
    rfl
  · rw [if_neg h, if_neg h]
    by_cases k : a.isPrefixOf b = true
    · rw [if_pos k, if_pos k]
      show some (dec ([], b.drop a.length)) = _
      unfold dec
      rw [if_neg]
      intro z
      have z' : b.drop a.length = [] := z
      rw [List.drop_eq_nil_iff] at z'
      have e := (List.isPrefixOf_iff_prefix.mp k).eq_of_length_le z'
      subst e
      exact h (List.isPrefixOf_iff_prefix.mpr List.prefix_rfl)
    · rw [if_neg k, if_neg k]
      rfl
theorem nextP_dec {p : Lead} (h : One p) (d : Domino) : (nextP p d).map dec = next (dec p) d := by
  unfold nextP
  rw [dec_ahead]
  unfold next dec
  by_cases q : p.2 = []
  · rw [if_pos q, q]
    rfl
  · rw [if_neg q]
    have e : p.1 = [] := by
      rcases h with h | h
      · exact h
      · exact absurd h q
    rw [e]
    rfl
theorem dec_nil {p : Lead} : (dec p).2 = [] ↔ p = ([], []) := by
  unfold dec
  by_cases q : p.2 = []
  · rw [if_pos q]
    constructor
    · intro e
      exact Prod.ext e q
    · intro e
      rw [e]
  · rw [if_neg q]
    constructor
    · intro e
      exact absurd e q
    · intro e
      rw [e] at q
      exact absurd rfl q
def evens (D : Set_) (p : Lead) (k : Nat) : Prop := ∃ l : List Domino, l.length = k ∧ (∀ x ∈ l, x ∈ D) ∧ p.1 ++ l.flatMap (·.above) = p.2 ++ l.flatMap (·.below)
theorem evens_zero (D : Set_) : evens D ([], []) 0 := ⟨[], rfl, fun x hx => by simp at hx, rfl⟩
theorem nextP_text {p q : Lead} {d : Domino} (h : nextP p d = some q) : ∃ c, p.1 ++ d.above = c ++ q.1 ∧ p.2 ++ d.below = c ++ q.2 := by
  unfold nextP at h
  split at h
  · rename_i k
    cases h
    obtain ⟨r, hr⟩ := List.isPrefixOf_iff_prefix.mp k
    exact ⟨p.2 ++ d.below, by rw [← hr, List.drop_left], by simp⟩
  · split at h
    · rename_i k
      cases h
      obtain ⟨r, hr⟩ := List.isPrefixOf_iff_prefix.mp k
      exact ⟨p.1 ++ d.above, by simp, by rw [← hr, List.drop_left]⟩
    · cases h
theorem evens_next {D : Set_} {p q : Lead} {d : Domino} {k : Nat} (h : nextP p d = some q) (hd : d ∈ D) (e : evens D q k) : evens D p (k + 1) := by
  obtain ⟨l, h1, h2, h3⟩ := e
  obtain ⟨c, c1, c2⟩ := nextP_text h
  refine ⟨d :: l, by rw [List.length_cons, h1], fun x hx => ?_, ?_⟩
  · rcases List.mem_cons.mp hx with rfl | hx
    · exact hd
    · exact h2 x hx
  · rw [List.flatMap_cons, List.flatMap_cons, ← List.append_assoc, ← List.append_assoc, c1, c2, List.append_assoc, List.append_assoc, h3]
def gain (x : Domino) : Int := (x.above.length : Int) - (x.below.length : Int)
theorem flat_gain : ∀ l : List Domino, ((l.flatMap (·.above)).length : Int) - ((l.flatMap (·.below)).length : Int) = (l.map gain).sum
  | [] => rfl
  | x :: l => by
    have ih := flat_gain l
    rw [List.flatMap_cons, List.flatMap_cons, List.length_append, List.length_append, List.map_cons, List.sum_cons]
    unfold gain at ih ⊢
    omega
theorem evens_gain {D : Set_} {p : Lead} {k : Nat} (h : evens D p k) : ∃ l : List Domino, l.length = k ∧ (∀ x ∈ l, x ∈ D) ∧ (l.map gain).sum = (p.2.length : Int) - (p.1.length : Int) := by
  obtain ⟨l, h1, h2, h3⟩ := h
  refine ⟨l, h1, h2, ?_⟩
  have := congrArg List.length h3
  rw [List.length_append, List.length_append] at this
  have g := flat_gain l
  omega
def FewOk (gs : List Int) (m : Nat) (F : Int → Option Int) : Prop := ∀ l : List Int, (∀ x ∈ l, x ∈ gs) → l.length ≤ m → ∃ v, F l.sum = some v ∧ v ≤ (l.length : Int)
theorem few_evens {D : Set_} {m : Nat} {F : Int → Option Int} (h : FewOk (D.map gain) m F) {p : Lead} {k : Nat} (hk : k ≤ m) (e : evens D p k) : ∃ v, F ((p.2.length : Int) - (p.1.length : Int)) = some v ∧ v ≤ (k : Int) := by
  obtain ⟨l, h1, h2, h3⟩ := evens_gain e
  obtain ⟨v, v1, v2⟩ := h (l.map gain) (fun x hx => by
    obtain ⟨y, hy, rfl⟩ := List.mem_map.mp hx
    exact List.mem_map.mpr ⟨y, h2 y hy, rfl⟩) (by rw [List.length_map]; omega)
  rw [h3] at v1
  rw [List.length_map, h1] at v2
  exact ⟨v, v1, v2⟩
/-- the search of fewest_by_gain: what it knows after i rounds (F as pairs) -/
structure Fb (gs : List Int) (i : Nat) (F : List (Int × Int)) (L : List Int) : Prop where
  le : ∀ q ∈ F, 0 ≤ q.2 ∧ q.2 ≤ (i : Int)
  real : ∀ q ∈ F, ∃ l : List Int, (l.length : Int) = q.2 ∧ (∀ x ∈ l, x ∈ gs) ∧ l.sum = q.1
  all : ∀ l : List Int, (∀ x ∈ l, x ∈ gs) → l.length ≤ i → ∃ v, (l.sum, v) ∈ F ∧ v ≤ (l.length : Int)
  last : ∀ q ∈ F, q.2 = (i : Int) → q.1 ∈ L
  lastF : ∀ t ∈ L, (t, (i : Int)) ∈ F
  nd : (F.map (·.1)).Nodup
theorem fb_start (gs : List Int) : Fb gs 0 [(0, 0)] [0] where
  le := fun q hq => by rw [List.mem_singleton.mp hq]; exact ⟨Int.le_refl _, Int.le_refl _⟩
  real := fun q hq => by rw [List.mem_singleton.mp hq]; exact ⟨[], rfl, fun x hx => by simp at hx, rfl⟩
  all := fun l _ hl => by
    have e : l = [] := List.eq_nil_of_length_eq_zero (by omega)
    subst e
    exact ⟨0, List.mem_singleton.mpr rfl, Int.le_refl _⟩
  last := fun q hq _ => by rw [List.mem_singleton.mp hq]; exact List.mem_singleton.mpr rfl
  lastF := fun t ht => by rw [List.mem_singleton.mp ht]; exact List.mem_singleton.mpr rfl
  nd := by simp
/-- within a round: of the pairs that P holds of, the sums are there -/
structure Fm (gs : List Int) (i : Nat) (F0 : List (Int × Int)) (P : Int → Int → Prop) (F : List (Int × Int)) (R : List Int) : Prop where
  eq : F = F0 ++ R.map fun t => (t, ((i + 1 : Nat) : Int))
  real : ∀ t ∈ R, ∃ l : List Int, l.length = i + 1 ∧ (∀ x ∈ l, x ∈ gs) ∧ l.sum = t
  done : ∀ x y, P x y → x + y ∈ F.map (·.1)
  nd : (F.map (·.1)).Nodup
theorem fm_start {gs : List Int} {i : Nat} {F : List (Int × Int)} {L : List Int} (A : Fb gs i F L) : Fm gs i F (fun _ _ => False) F [] where
  eq := by simp
  real := fun t ht => by simp at ht
  done := fun _ _ h => h.elim
  nd := A.nd
theorem Fm.imp {gs : List Int} {i : Nat} {F0 F : List (Int × Int)} {P P' : Int → Int → Prop} {R : List Int} (M : Fm gs i F0 P F R) (h : ∀ x y, P' x y → P x y) : Fm gs i F0 P' F R := ⟨M.eq, M.real, fun x y q => M.done x y (h x y q), M.nd⟩
theorem Fm.old {gs : List Int} {i : Nat} {F0 F : List (Int × Int)} {P : Int → Int → Prop} {R : List Int} {x y : Int} (M : Fm gs i F0 P F R) (h : x + y ∈ F.map (·.1)) : Fm gs i F0 (fun u v => P u v ∨ (u = x ∧ v = y)) F R :=
  ⟨M.eq, M.real, fun u v q => by
    rcases q with q | ⟨rfl, rfl⟩
    · exact M.done u v q
    · exact h, M.nd⟩
theorem Fm.fresh {gs : List Int} {i : Nat} {F0 F : List (Int × Int)} {L : List Int} {P : Int → Int → Prop} {R : List Int} {x y : Int} (A : Fb gs i F0 L) (M : Fm gs i F0 P F R) (hx : x ∈ L) (hy : y ∈ gs) (h : ¬ x + y ∈ F.map (·.1)) :
    Fm gs i F0 (fun u v => P u v ∨ (u = x ∧ v = y)) (F ++ [(x + y, ((i + 1 : Nat) : Int))]) (R ++ [x + y]) where
  eq := by rw [M.eq, List.map_append, List.append_assoc]; rfl
  real := fun t ht => by
    rcases List.mem_append.mp ht with ht | ht
    · exact M.real t ht
    · rw [List.mem_singleton.mp ht]
      obtain ⟨l, l1, l2, l3⟩ := A.real _ (A.lastF x hx)
      have l1' : (l.length : Int) = (i : Int) := l1
      have l3' : l.sum = x := l3
      refine ⟨y :: l, by rw [List.length_cons]; omega, fun z hz => ?_, by rw [List.sum_cons, l3', Int.add_comm]⟩
      rcases List.mem_cons.mp hz with rfl | hz
      · exact hy
      · exact l2 z hz
  done := fun u v q => by
    rw [List.map_append, List.mem_append]
    rcases q with q | ⟨rfl, rfl⟩
    · exact .inl (M.done u v q)
    · exact .inr (List.mem_singleton.mpr rfl)
  nd := by
    rw [List.map_append, List.nodup_append]
    refine ⟨M.nd, by simp, fun a ha b hb e => ?_⟩
    have hb' : b = x + y := List.mem_singleton.mp hb
    subst hb'
    exact h (e ▸ ha)
theorem fm_end {gs : List Int} {i : Nat} {F0 F : List (Int × Int)} {L R : List Int} (A : Fb gs i F0 L) (M : Fm gs i F0 (fun x y => x ∈ L ∧ y ∈ gs) F R) : Fb gs (i + 1) F R where
  le := fun q hq => by
    rw [M.eq, List.mem_append] at hq
    rcases hq with hq | hq
    · have := A.le q hq
      omega
    · obtain ⟨t, _, rfl⟩ := List.mem_map.mp hq
      dsimp only
      omega
  real := fun q hq => by
    rw [M.eq, List.mem_append] at hq
    rcases hq with hq | hq
    · exact A.real q hq
    · obtain ⟨t, ht, rfl⟩ := List.mem_map.mp hq
      obtain ⟨l, l1, l2, l3⟩ := M.real t ht
      exact ⟨l, by rw [l1], l2, l3⟩
  all := fun l hl hn => by
    have sub : ∀ q, q ∈ F0 → q ∈ F := fun q hq => by rw [M.eq]; exact List.mem_append_left _ hq
    rcases Nat.lt_or_ge l.length (i + 1) with h | h
    · obtain ⟨v, v1, v2⟩ := A.all l hl (by omega)
      exact ⟨v, sub _ v1, v2⟩
    · cases l with
      | nil => simp at h
      | cons y l =>
        rw [List.length_cons] at h hn
        obtain ⟨v, v1, v2⟩ := A.all l (fun x hx => hl x (List.mem_cons_of_mem _ hx)) (by omega)
        rcases Int.lt_or_le v (i : Int) with hv | hv
        · obtain ⟨l', a1, a2, a3⟩ := A.real _ v1
          have a1' : (l'.length : Int) = v := a1
          have a3' : l'.sum = l.sum := a3
          obtain ⟨v', b1, b2⟩ := A.all (y :: l') (fun x hx => by
            rcases List.mem_cons.mp hx with rfl | hx
            · exact hl _ List.mem_cons_self
            · exact a2 x hx) (by rw [List.length_cons]; omega)
          rw [List.sum_cons, a3'] at b1
          rw [List.length_cons] at b2
          exact ⟨v', by rw [List.sum_cons]; exact sub _ b1, by rw [List.length_cons]; omega⟩
        · have hv2 : v = (i : Int) := by omega
          have hL := A.last _ v1 hv2
          have hd := M.done l.sum y ⟨hL, hl y List.mem_cons_self⟩
          rw [List.sum_cons, Int.add_comm]
          obtain ⟨q, hq, e⟩ := List.mem_map.mp hd
          refine ⟨q.2, by rw [← e]; exact hq, ?_⟩
          rw [List.length_cons]
          rw [M.eq, List.mem_append] at hq
          rcases hq with hq | hq
          · have := A.le q hq
            omega
          · obtain ⟨t, _, rfl⟩ := List.mem_map.mp hq
            dsimp only
            omega
  last := fun q hq e => by
    rw [M.eq, List.mem_append] at hq
    rcases hq with hq | hq
    · have := A.le q hq
      omega
    · obtain ⟨t, ht, rfl⟩ := List.mem_map.mp hq
      exact ht
  lastF := fun t ht => by
    rw [M.eq]
    exact List.mem_append_right _ (List.mem_map.mpr ⟨t, ht, rfl⟩)
  nd := M.nd
def sideW (side : Nat) (x : Domino) : Word := if side = 0 then x.above else x.below
def gainS (side : Nat) (x : Domino) : Int := ((sideW side x).length : Int) - ((sideW (1 - side) x).length : Int)
structure CatchOk (D : Set_) (side : Nat) (most : Int) (ws : List (Int × Word)) : Prop where
  most_ge : ∀ x ∈ D, gainS side x ≤ most
  has : ∀ x ∈ D, sideW side x ≠ [] → ∃ sf, (sf, sideW side x) ∈ ws ∧ sf ≤ most - gainS side x
  srt : ws.Pairwise fun a b => a.1 ≤ b.1
  three : ∀ q ∈ ws, 0 < q.2.length ∧ q.2.length % 3 = 0
def sums (qs : List (Int × Word)) (j : Nat) : Int := ((qs.take j).map (·.1)).sum
def Spells (ahead : Word) (ws : List (Int × Word)) (spare : Int) : Prop := ∃ qs : List (Int × Word), (∀ q ∈ qs, q ∈ ws) ∧ ahead <+: qs.flatMap (·.2) ∧ ∀ j, sums qs j ≤ spare
theorem catch_seq {D : Set_} {side : Nat} {most : Int} {ws : List (Int × Word)} (C : CatchOk D side most ws) : ∀ l : List Domino, (∀ x ∈ l, x ∈ D) →
    ∃ qs : List (Int × Word), (∀ q ∈ qs, q ∈ ws) ∧ qs.flatMap (·.2) = l.flatMap (sideW side) ∧ (∀ j, sums qs j ≤ (l.map fun x => most - gainS side x).sum) ∧ 0 ≤ (l.map fun x => most - gainS side x).sum
  | [], _ => ⟨[], fun q hq => by simp at hq, rfl, fun j => by simp [sums], by simp⟩
  | x :: l, h => by
    obtain ⟨qs, q1, q2, q3, q4⟩ := catch_seq C l fun y hy => h y (List.mem_cons_of_mem _ hy)
    have hx := h x List.mem_cons_self
    have hm := C.most_ge x hx
    rw [List.map_cons, List.sum_cons, List.flatMap_cons]
    by_cases e : sideW side x = []
    · refine ⟨qs, q1, by rw [e, q2, List.nil_append], fun j => ?_, by omega⟩
      have := q3 j
      omega
    · obtain ⟨sf, s1, s2⟩ := C.has x hx e
      refine ⟨(sf, sideW side x) :: qs, fun q hq => ?_, by rw [List.flatMap_cons, q2], fun j => ?_, by omega⟩
      · rcases List.mem_cons.mp hq with rfl | hq
        · exact s1
        · exact q1 q hq
      · cases j with
        | zero =>
          show (0 : Int) ≤ _
          omega
        | succ j =>
          have := q3 j
          unfold sums at this ⊢
          rw [List.take_succ_cons, List.map_cons, List.sum_cons]
          dsimp only
          omega
theorem sum_short (f : Domino → Int) (most : Int) : ∀ l : List Domino, (l.map fun x => most - f x).sum = most * (l.length : Int) - (l.map f).sum
  | [] => by simp
  | x :: l => by
    have ih := sum_short f most l
    rw [List.map_cons, List.sum_cons, List.map_cons, List.sum_cons, ih, List.length_cons]
    have : most * ((l.length + 1 : Nat) : Int) = most * (l.length : Int) + most := by
      rw [Int.natCast_add, Int.mul_add]
      simp
    omega
/-- what is ahead on one side can be caught up with on the other -/
theorem catch_ok {D : Set_} {side : Nat} {most : Int} {ws : List (Int × Word)} (C : CatchOk D side most ws) {a : Word} {l : List Domino} {left : Nat} (ha : a ≠ []) (hl : ∀ x ∈ l, x ∈ D) (hk : l.length ≤ left)
    (e : a ++ l.flatMap (sideW (1 - side)) = l.flatMap (sideW side)) : 0 ≤ most * (left : Int) - (a.length : Int) ∧ Spells a ws (most * (left : Int) - (a.length : Int)) := by
  obtain ⟨qs, q1, q2, q3, q4⟩ := catch_seq C l hl
  have gl : (l.map (gainS side)).sum = (a.length : Int) := by
    have gen : ∀ l : List Domino, ((l.flatMap (sideW side)).length : Int) - ((l.flatMap (sideW (1 - side))).length : Int) = (l.map (gainS side)).sum := by
      intro l
      induction l with
      | nil => rfl
      | cons x l ih =>
        rw [List.flatMap_cons, List.flatMap_cons, List.length_append, List.length_append, List.map_cons, List.sum_cons]
        unfold gainS at ih ⊢
        omega
    have g := gen l
    have := congrArg List.length e
    rw [List.length_append] at this
    omega
  rw [sum_short, gl] at q3 q4
  have hpos : 0 < (a.length : Int) := by
    have := List.length_pos_iff.mpr ha
    omega
  have hm0 : 0 ≤ most := by
    refine Int.not_lt.mp fun z => ?_
    have : most * (l.length : Int) ≤ 0 := Int.mul_nonpos_of_nonpos_of_nonneg (by omega) (by omega)
    omega
  have hle : most * (l.length : Int) ≤ most * (left : Int) := Int.mul_le_mul_of_nonneg_left (by omega) hm0
  exact ⟨by omega, qs, q1, by rw [q2, ← e]; exact List.prefix_append _ _, fun j => by have := q3 j; omega⟩
/-- the places below p (every third) are gone through -/
structure Cl (a : Word) (ws : List (Int × Word)) (spare : Int) (S : Nat → Option Int) (p : Nat) : Prop where
  zero : a ≠ [] → ∃ v, S 0 = some v ∧ v ≤ 0
  step : ∀ p' v q, p' < p → p' % 3 = 0 → S p' = some v → q ∈ ws → v + q.1 ≤ spare → p' + q.2.length < a.length → q.2 <+: a.drop p' → ∃ v', S (p' + q.2.length) = some v' ∧ v' ≤ v + q.1
  miss : ∀ p' v q, p' < p → p' % 3 = 0 → S p' = some v → q ∈ ws → v + q.1 ≤ spare → a.length ≤ p' + q.2.length → ¬ a.drop p' <+: q.2
theorem prefix_split {x y z : Word} (h : x <+: y ++ z) (hl : y.length ≤ x.length) : y <+: x := List.prefix_of_prefix_length_le (List.prefix_append y z) h hl
theorem cl_end {a : Word} {ws : List (Int × Word)} {spare : Int} {S : Nat → Option Int} {p : Nat} (hw : ∀ q ∈ ws, 0 < q.2.length ∧ q.2.length % 3 = 0) (ha : a ≠ []) (C : Cl a ws spare S p) (hp : a.length ≤ p) : ¬ Spells a ws spare := by
  rintro ⟨qs, h1, h2, h3⟩
  have go : ∀ (qs : List (Int × Word)) (p' : Nat) (v : Int), (∀ q ∈ qs, q ∈ ws) → p' < a.length → p' % 3 = 0 → S p' = some v → (∀ j, v + sums qs j ≤ spare) → a.drop p' <+: qs.flatMap (·.2) → False := by
    intro qs
    induction qs with
    | nil =>
      intro p' v _ hp' _ _ _ hpre
      have := hpre.length_le
      rw [List.length_drop] at this
      simp at this
      omega
    | cons q qs ih =>
      intro p' v hq hp' hm hS hs hpre
      have hqw := hq q List.mem_cons_self
      have hs1 : v + q.1 ≤ spare := by
        have := hs 1
        unfold sums at this
        rw [List.take_succ_cons, List.take_zero] at this
        simpa using this
      rw [List.flatMap_cons] at hpre
      rcases Nat.lt_or_ge (p' + q.2.length) a.length with hlt | hge
      · have hq2 : q.2 <+: a.drop p' := prefix_split hpre (by rw [List.length_drop]; omega)
        obtain ⟨v', e1, e2⟩ := C.step p' v q (by omega) hm hS hqw hs1 hlt hq2
        refine ih (p' + q.2.length) v' (fun x hx => hq x (List.mem_cons_of_mem _ hx)) hlt ?_ e1 (fun j => ?_) ?_
        · have := (hw q hqw).2
          omega
        · have := hs (j + 1)
          unfold sums at this ⊢
          rw [List.take_succ_cons, List.map_cons, List.sum_cons] at this
          omega
        · obtain ⟨r, hr⟩ := hq2
          obtain ⟨t, ht⟩ := hpre
          rw [← hr, List.append_assoc] at ht
          have ht' := List.append_cancel_left ht
          have er : a.drop (p' + q.2.length) = r := by
            rw [← List.drop_drop, ← hr, List.drop_left]
          rw [er]
          exact ⟨t, ht'⟩
      · refine C.miss p' v q (by omega) hm hS hqw hs1 hge ?_
        exact List.prefix_of_prefix_length_le hpre (List.prefix_append _ _) (by rw [List.length_drop]; omega)
  obtain ⟨v, v1, v2⟩ := C.zero ha
  have hl := List.length_pos_iff.mpr ha
  exact go qs 0 v h1 hl rfl v1 (fun j => by have := h3 j; omega) (by simpa using h2)
end DmP

namespace DmC
open Sv77 Sx23 DmB DmP
/-- the rows that are counted from a lead, if the next may already fit -/
def Gl (D : Set_) (f : Nat) (p : Lead) : Nat := if p = ([], []) then 1 else countFrom D f (dec p)
def cost (D : Set_) (G : Lead → Nat) (p : Lead) : Nat := (D.map fun x => match nextP p x with
  | none => 0
  | some t => G t).sum
theorem cost_eq (D : Set_) (f : Nat) {p : Lead} (h : One p) : cost D (Gl D f) p = countFrom D (f + 1) (dec p) := by
  unfold cost countFrom
  congr 1
  refine List.map_congr_left fun x _ => ?_
  have e := nextP_dec h x
  cases q : nextP p x with
  | none =>
    rw [q] at e
    have e' : next (dec p) x = none := e.symm
    rw [e']
  | some t =>
    rw [q] at e
    have e' : next (dec p) x = some (dec t) := e.symm
    rw [e']
    have ht := dec_nil (p := t)
    show Gl D f t = if (dec t).2 = [] then 1 else countFrom D f (dec t)
    unfold Gl
    by_cases z : t = ([], [])
    · rw [if_pos z, if_pos (ht.mpr z)]
    · rw [if_neg z, if_neg fun y => z (ht.mp y)]
theorem count_evens (D : Set_) : ∀ (f : Nat) (p : Lead), One p → countFrom D f (dec p) ≠ 0 → ∃ k, k ≤ f ∧ evens D p k
  | 0, _, _, h => absurd rfl h
  | f + 1, p, hp, h => by
    rw [← cost_eq D f hp] at h
    unfold cost at h
    have : ∃ y ∈ (D.map fun x => match nextP p x with | none => 0 | some t => Gl D f t), y ≠ 0 := by
      refine Classical.byContradiction fun z => h ?_
      have all : ∀ l : List Nat, (∀ y ∈ l, y = 0) → l.sum = 0 := by
        intro l
        induction l with
        | nil => exact fun _ => rfl
        | cons a l ih =>
          intro hl
          rw [List.sum_cons, hl a List.mem_cons_self, ih fun y hy => hl y (List.mem_cons_of_mem _ hy)]
      exact all _ fun y hy => Classical.byContradiction fun w => z ⟨y, hy, w⟩
    obtain ⟨y, hy, hne⟩ := this
    obtain ⟨x, hx, rfl⟩ := List.mem_map.mp hy
    cases q : nextP p x with
    | none => rw [q] at hne; exact absurd rfl hne
    | some t =>
      rw [q] at hne
      have hne' : Gl D f t ≠ 0 := hne
      unfold Gl at hne'
      by_cases z : t = ([], [])
      · subst z
        exact ⟨1, by omega, evens_next q hx (evens_zero D)⟩
      · rw [if_neg z] at hne'
        obtain ⟨k, k1, k2⟩ := count_evens D f t (nextP_one q) hne'
        exact ⟨k + 1, by omega, evens_next q hx k2⟩
theorem gl_zero {D : Set_} {f : Nat} {t : Lead} (h : One t) (no : ∀ k, k ≤ f → ¬ evens D t k) : Gl D f t = 0 := by
  unfold Gl
  have z : ¬ t = ([], []) := fun z => no 0 (by omega) (by rw [z]; exact evens_zero D)
  rw [if_neg z]
  refine Classical.byContradiction fun w => ?_
  obtain ⟨k, k1, k2⟩ := count_evens D f t h w
  exact no k k1 k2
abbrev Tab := List (Lead × Nat)
def wsum (G : Lead → Nat) (R : Tab) : Nat := (R.map fun q => q.2 * G q.1).sum
def at_ (R : Tab) (p : Lead) : Option Nat := (R.find? fun q => decide (q.1 = p)).map (·.2)
def addTo : Tab → Lead → Nat → Tab
  | [], p, c => [(p, c)]
  | q :: r, p, c => if q.1 = p then (q.1, q.2 + c) :: r else q :: addTo r p c
theorem wsum_nil (G : Lead → Nat) : wsum G [] = 0 := rfl
theorem wsum_cons (G : Lead → Nat) (q : Lead × Nat) (R : Tab) : wsum G (q :: R) = q.2 * G q.1 + wsum G R := by
  unfold wsum
  rw [List.map_cons, List.sum_cons]
theorem wsum_add (G : Lead → Nat) (p : Lead) (c : Nat) : ∀ R : Tab, wsum G (addTo R p c) = wsum G R + c * G p
  | [] => by
    show wsum G [(p, c)] = _
    rw [wsum_cons, wsum_nil]
    show c * G p + 0 = 0 + c * G p
    omega
  | q :: r => by
    unfold addTo
    by_cases e : q.1 = p
    · rw [if_pos e, wsum_cons, wsum_cons]
      show (q.2 + c) * G q.1 + wsum G r = q.2 * G q.1 + wsum G r + c * G p
      rw [e, Nat.add_mul]
      omega
    · rw [if_neg e, wsum_cons, wsum_cons, wsum_add G p c r]
      omega
theorem add_len (p : Lead) (c : Nat) : ∀ R : Tab, (addTo R p c).length ≤ R.length + 1
  | [] => Nat.le_refl _
  | q :: r => by
    unfold addTo
    have := add_len p c r
    split
    · simp
    · rw [List.length_cons, List.length_cons]
      omega
theorem add_keys (p : Lead) (c : Nat) : ∀ R : Tab, ∀ k, k ∈ (addTo R p c).map (·.1) ↔ k ∈ R.map (·.1) ∨ k = p
  | [], k => by simp [addTo]
  | q :: r, k => by
    unfold addTo
    by_cases e : q.1 = p
    · rw [if_pos e]
      show k ∈ q.1 :: r.map (·.1) ↔ k ∈ q.1 :: r.map (·.1) ∨ k = p
      constructor
      · exact .inl
      · rintro (h | h)
        · exact h
        · rw [h, ← e]
          exact List.mem_cons_self
    · rw [if_neg e, List.map_cons, List.map_cons, List.mem_cons, List.mem_cons, add_keys p c r k, or_assoc]
theorem add_nd (p : Lead) (c : Nat) : ∀ {R : Tab}, (R.map (·.1)).Nodup → ((addTo R p c).map (·.1)).Nodup
  | [], _ => by simp [addTo]
  | q :: r, h => by
    rw [List.map_cons, List.nodup_cons] at h
    unfold addTo
    by_cases e : q.1 = p
    · rw [if_pos e, List.map_cons, List.nodup_cons]
      exact h
    · rw [if_neg e, List.map_cons, List.nodup_cons]
      refine ⟨fun z => ?_, add_nd p c h.2⟩
      rcases (add_keys p c r q.1).mp z with z | z
      · exact h.1 z
      · exact e z
/-- put in place: what stands at p grows by c -/
theorem add_new {p : Lead} {c : Nat} : ∀ {R : Tab}, p ∉ R.map (·.1) → addTo R p c = R ++ [(p, c)]
  | [], _ => rfl
  | q :: r, h => by
    rw [List.map_cons, List.mem_cons] at h
    unfold addTo
    rw [if_neg fun e => h (.inl e.symm), add_new fun z => h (.inr z)]
    rfl
theorem add_old {p : Lead} {c v : Nat} : ∀ {R : Tab}, (R.map (·.1)).Nodup → at_ R p = some v → addTo R p c = R.map fun q => if q.1 = p then (q.1, v + c) else q
  | [], _, h => by cases h
  | q :: r, hn, h => by
    rw [List.map_cons, List.nodup_cons] at hn
    unfold addTo
    unfold at_ at h
    rw [List.find?_cons] at h
    by_cases e : q.1 = p
    · rw [if_pos e, List.map_cons, if_pos e]
      rw [decide_eq_true e] at h
      have hv : q.2 = v := by simpa using h
      rw [hv]
      congr 1
      have : ∀ x ∈ r, (fun q => if q.1 = p then (q.1, v + c) else q) x = x := fun x hx => by
        dsimp only
        rw [if_neg fun z => hn.1 (by rw [e, ← z]; exact List.mem_map.mpr ⟨x, hx, rfl⟩)]
      exact ((List.map_congr_left this).trans (List.map_id' r)).symm
    · rw [if_neg e, List.map_cons, if_neg e]
      rw [decide_eq_false e] at h
      rw [add_old hn.2 h]
theorem at_none {R : Tab} {p : Lead} (h : at_ R p = none) : p ∉ R.map (·.1) := by
  intro z
  obtain ⟨q, hq, e⟩ := List.mem_map.mp z
  unfold at_ at h
  rw [Option.map_eq_none_iff, List.find?_eq_none] at h
  exact h q hq (by simpa using e)
/-- take out -/
def drop_ (R : Tab) (p : Lead) : Tab := R.filter fun q => decide (q.1 ≠ p)
theorem wsum_drop (G : Lead → Nat) (p : Lead) : ∀ {R : Tab}, (R.map (·.1)).Nodup → wsum G R = (at_ R p).getD 0 * G p + wsum G (drop_ R p)
  | [], _ => by simp [wsum, at_, drop_]
  | q :: r, hn => by
    rw [List.map_cons, List.nodup_cons] at hn
    have ih := wsum_drop G p hn.2
    unfold at_ drop_ at ih ⊢
    rw [wsum_cons, List.find?_cons, List.filter_cons]
    by_cases e : q.1 = p
    · have h1 : decide (q.1 ≠ p) = false := decide_eq_false fun z => z e
      rw [decide_eq_true e, h1, if_neg Bool.false_ne_true]
      have h2 : (r.filter fun q => decide (q.1 ≠ p)) = r := by
        rw [List.filter_eq_self]
        intro x hx
        rw [decide_eq_true_iff]
        intro z
        exact hn.1 (by rw [e, ← z]; exact List.mem_map.mpr ⟨x, hx, rfl⟩)
      rw [h2, e]
      rfl
    · have h1 : decide (q.1 ≠ p) = true := decide_eq_true e
      rw [decide_eq_false e, h1, if_pos rfl, wsum_cons, ih]
      dsimp only
      omega
theorem wsum_congr {G G' : Lead → Nat} {R : Tab} (h : ∀ p ∈ R.map (·.1), G p = G' p) : wsum G R = wsum G' R := by
  unfold wsum
  congr 1
  refine List.map_congr_left fun q hq => ?_
  rw [h q.1 (List.mem_map.mpr ⟨q, hq, rfl⟩)]
/-- the sum over what was gone through -/
def spent (D : Set_) (G : Lead → Nat) (R : Tab) : Nat := (R.map fun q => q.2 * cost D G q.1).sum
theorem spent_snoc (D : Set_) (G : Lead → Nat) {R : Tab} {i : Nat} {q : Lead × Nat} (h : R[i]? = some q) : spent D G (R.take (i + 1)) = spent D G (R.take i) + q.2 * cost D G q.1 := by
  unfold spent
  rw [List.take_succ_eq_append_getElem (List.getElem?_eq_some_iff.mp h).1, (List.getElem?_eq_some_iff.mp h).2, List.map_append, List.sum_append]
  simp
def one (G : Lead → Nat) (p : Lead) (x : Domino) : Nat := match nextP p x with
  | none => 0
  | some t => G t
theorem cost_snoc (G : Lead → Nat) (p : Lead) {D : Set_} {j : Nat} {x : Domino} (h : D[j]? = some x) : cost (D.take (j + 1)) G p = cost (D.take j) G p + one G p x := by
  unfold cost
  rw [List.take_succ_eq_append_getElem (List.getElem?_eq_some_iff.mp h).1, (List.getElem?_eq_some_iff.mp h).2, List.map_append, List.sum_append]
  simp
  rfl
/-- what a table of leads is within the search: i dominoes were laid -/
structure TabOk (i : Nat) (R : Tab) : Prop where
  nd : (R.map (·.1)).Nodup
  one : ∀ p ∈ R.map (·.1), One p ∧ p.1.length ≤ 24 * i ∧ p.2.length ≤ 24 * i
theorem nextP_len {p t : Lead} {x : Domino} {i : Nat} (h : nextP p x = some t) (h1 : p.1.length ≤ 24 * i ∧ p.2.length ≤ 24 * i) (h2 : x.above.length ≤ 24 ∧ x.below.length ≤ 24) : t.1.length ≤ 24 * (i + 1) ∧ t.2.length ≤ 24 * (i + 1) := by
  obtain ⟨c, c1, c2⟩ := nextP_text h
  have l1 := congrArg List.length c1
  have l2 := congrArg List.length c2
  rw [List.length_append, List.length_append] at l1 l2
  omega
theorem TabOk.add {i : Nat} {R : Tab} (h : TabOk (i + 1) R) {p t : Lead} {x : Domino} {c : Nat} (e : nextP p x = some t) (h1 : p.1.length ≤ 24 * i ∧ p.2.length ≤ 24 * i) (h2 : x.above.length ≤ 24 ∧ x.below.length ≤ 24) : TabOk (i + 1) (addTo R t c) where
  nd := add_nd t c h.nd
  one := fun k hk => by
    rcases (add_keys t c R k).mp hk with hk | rfl
    · exact h.one k hk
    · exact ⟨nextP_one e, nextP_len e h1 h2⟩
theorem TabOk.drop {i : Nat} {R : Tab} (h : TabOk i R) (p : Lead) : TabOk i (drop_ R p) where
  nd := by
    unfold drop_
    exact (h.nd.sublist (List.filter_sublist.map _))
  one := fun k hk => h.one k (by
    obtain ⟨q, hq, e⟩ := List.mem_map.mp hk
    exact List.mem_map.mpr ⟨q, (List.mem_filter.mp hq).1, e⟩)
theorem spent_count {D : Set_} {f i : Nat} {R : Tab} (h : TabOk i R) : spent D (Gl D f) R = wsum (fun p => countFrom D (f + 1) (dec p)) R := by
  unfold spent wsum
  congr 1
  refine List.map_congr_left fun q hq => ?_
  rw [cost_eq D f (h.one q.1 (List.mem_map.mpr ⟨q, hq, rfl⟩)).1]
theorem drop_wsum {D : Set_} {f : Nat} (R : Tab) : wsum (Gl D f) (drop_ R ([], [])) = wsum (fun p => countFrom D f (dec p)) (drop_ R ([], [])) := wsum_congr fun p hp => by
  obtain ⟨q, hq, rfl⟩ := List.mem_map.mp hp
  have := (List.mem_filter.mp hq).2
  rw [decide_eq_true_iff] at this
  unfold Gl
  rw [if_neg this]
/-- a round: what was counted and what is open come to the same -/
theorem round_ok {D : Set_} {f i : Nat} {R R' : Tab} {counted total : Nat} (h : TabOk i R) (h' : TabOk (i + 1) R') (e : wsum (Gl D f) R' = spent D (Gl D f) R)
    (inv : counted + wsum (fun p => countFrom D (f + 1) (dec p)) R = total) : (counted + (at_ R' ([], [])).getD 0) + wsum (fun p => countFrom D f (dec p)) (drop_ R' ([], [])) = total := by
  rw [spent_count h] at e
  have := wsum_drop (Gl D f) ([], []) h'.nd
  rw [e, drop_wsum] at this
  have g : Gl D f ([], []) = 1 := rfl
  rw [g] at this
  omega
theorem start_ok (D : Set_) (m : Nat) : 0 + wsum (fun p => countFrom D m (dec p)) [(([], []), 1)] = countFrom D m (true, []) := by
  rw [wsum_cons, wsum_nil]
  show 0 + (1 * countFrom D m (true, []) + 0) = _
  omega
theorem end_ok {D : Set_} {R : Tab} {counted total : Nat} (inv : counted + wsum (fun p => countFrom D 0 (dec p)) R = total) : counted = total := by
  have : wsum (fun p => countFrom D 0 (dec p)) R = 0 := by
    unfold wsum countFrom
    have all : ∀ l : Tab, (l.map fun q => q.2 * 0).sum = 0 := by
      intro l
      induction l with
      | nil => rfl
      | cons a l ih => rw [List.map_cons, List.sum_cons, ih]; omega
    exact all R
  omega
end DmC

set_option Elab.async false
set_option linter.all false
set_option maxRecDepth 100000
namespace L2
open PySem PySem.Spec PyProof.Rows
/-- the text of these signs -/
def sw (l : List Nat) : Str := ⟨l.toArray⟩
theorem sw_len (l : List Nat) : (sw l).length = l.length := by
  show l.toArray.size = l.length
  simp
theorem sw_inj {a b : List Nat} (h : sw a = sw b) : a = b := by
  have : (sw a).cps = (sw b).cps := by rw [h]
  have h2 : a.toArray = b.toArray := this
  simpa using congrArg Array.toList h2
theorem sw_tl (x : Str) : sw (TL.tl x) = x := TL.mk_tl x
theorem tl_sw (l : List Nat) : TL.tl (sw l) = l := rfl
theorem sw_append (a b : List Nat) : sw a ++ sw b = sw (a ++ b) := TL.ext_tl (by rw [TL.tl_append]; rfl)
theorem take_beq (a b : List Nat) : ((a.take b.length) == b) = b.isPrefixOf a := by
  rw [Bool.eq_iff_iff, List.isPrefixOf_iff_prefix, beq_iff_eq]
  constructor
  · intro h
    rw [← h]
    exact List.take_prefix _ _
  · exact fun h => (List.prefix_iff_eq_take.mp h).symm
theorem starts_sw (a b : List Nat) : Txt.startswith (sw a) (sw b) = b.isPrefixOf a := by
  unfold Txt.startswith
  rw [PySem.StrLaws.subAt_eq, sw_len, sw_len]
  show (decide (0 + b.length ≤ a.length) && ((a.drop 0).take b.length == b)) = _
  rw [List.drop_zero, take_beq, Nat.zero_add]
  cases h : b.isPrefixOf a with
  | false => rw [Bool.and_false]
  | true => rw [Bool.and_true, decide_eq_true (List.isPrefixOf_iff_prefix.mp h).length_le]
theorem starts3_sw (a b : List Nat) (p : Nat) (hp : p ≤ a.length) : Txt.startswith3 (sw a) (sw b) (p : Int) = b.isPrefixOf (a.drop p) := by
  unfold Txt.startswith3
  have e : fromIndex (sw a).length (p : Int) = p := by
    unfold fromIndex
    rw [if_neg (by omega)]
    omega
  rw [e, PySem.StrLaws.subAt_eq, sw_len, sw_len]
  show (decide (p + b.length ≤ a.length) && ((a.drop p).take b.length == b)) = _
  rw [take_beq]
  cases h : b.isPrefixOf (a.drop p) with
  | false => rw [Bool.and_false]
  | true =>
    have := (List.isPrefixOf_iff_prefix.mp h).length_le
    rw [List.length_drop] at this
    rw [Bool.and_true, decide_eq_true (by omega)]
theorem cut_sw (a : List Nat) (k : Nat) : cutS (sw a) (some (k : Int)) none = sw (a.drop k) := by
  refine TL.ext_tl ?_
  show ((a.drop (HT.sIx (sw a).length 0 (some (k : Int)))).take (HT.sIx (sw a).length (sw a).length none - HT.sIx (sw a).length 0 (some (k : Int)))) = a.drop k
  rw [HT.sIx_none, HT.sIx_nat, sw_len]
  rcases Nat.le_total k a.length with h | h
  · rw [Nat.min_eq_left h, List.take_of_length_le (by rw [List.length_drop]; exact Nat.le_refl _)]
  · rw [Nat.min_eq_right h, Nat.sub_self, List.take_zero, List.drop_eq_nil_of_le h]
theorem num_code (n : Nat) (h : n < 900) : TL.numL (100 + n) = DmT.code n := by
  rw [TL.numL_step (by omega), TL.numL_step (by omega), TL.numL_lt (by omega)]
  unfold DmT.code
  have e : (100 + n) / 10 / 10 = (100 + n) / 100 := by omega
  rw [e]
  rfl
theorem str_code (n : Nat) (h : n < 900) : (Str.ofString (toString ((100 : Int) + (n : Int)))) = sw (DmT.code n) := by
  refine TL.ext_tl ?_
  have e : (100 : Int) + (n : Int) = ((100 + n : Nat) : Int) := by omega
  rw [e, TL.tl_num, num_code n h]
  rfl
theorem join_sw : ∀ ws : List (List Nat), Txt.join ("" : Str) (ws.map sw) = sw ws.flatten := fun ws => by
  refine TL.ext_tl ?_
  rw [TL.join_eq, TL.tl_join]
  have e1 : TL.tl ("" : Str) = [] := rfl
  rw [e1, List.map_map]
  have e2 : (TL.tl ∘ sw) = id := rfl
  rw [e2, List.map_id, tl_sw]
  have gen : ∀ l : List (List Nat), TL.joinL [] l = l.flatten := by
    intro l
    induction l with
    | nil => rfl
    | cons a l ih =>
      cases l with
      | nil => simp [TL.joinL]
      | cons b r =>
        show a ++ ([] ++ TL.joinL [] (b :: r)) = _
        rw [ih, List.nil_append, List.flatten_cons, List.flatten_cons, List.flatten_cons]
  exact gen ws
section
variable {X : Cx}
theorem mt_startswith3 : MtR X "str.startswith" (fun x xs H Q => ∃ a b i, x = .str a ∧ xs = [.str b, .int i] ∧ Q (.bl (Txt.startswith3 a b i)) H) := by
  intro pins s σ H x xs v us Q I rx rs h
  obtain ⟨a, b, i, rfl, rfl, q⟩ := h
  obtain ⟨t, rfl⟩ := rx
  obtain ⟨u, z, rfl, r1, r2⟩ := Vals.two rs
  obtain ⟨t1, rfl⟩ := r1
  obtain ⟨t2, rfl⟩ := r2
  exact PySem.SC.startswith3 ⟨.bl _, H, I, rfl, q⟩
def ad : Value → Addr
  | .ref a => a
  | _ => 0
def rSortedP (K : PySem.W.Frag) : List V → Hp → VK → Prop := fun vs H Q => ∃ (a : Addr) (ps : List Addr) (t : Addr → Int × Str), vs = [V.ref a] ∧ SqL K H a (ps.map V.ref) ∧ (∀ p ∈ ps, SqT K H p [.int (t p).1, .str (t p).2]) ∧
  ∀ (ps' : List Addr) (l : Addr), ps'.Perm ps → ps'.Pairwise (fun p q => (t p).1 ≤ (t q).1) → H l = none → Q (.ref l) (upd H l (.lst (ps'.map V.ref)))
theorem cr_sortedP : CallR X (.builtin "sorted") (rSortedP X.K) := by
  intro pins s σ H vs us Q I r h
  obtain ⟨a, ps, t, rfl, hs, ht, q⟩ := h
  obtain ⟨its, rv, hl, hz⟩ := I.list hs
  rw [Vals.ref1 r]
  have ei : its = ps.map Value.ref := refs_at rv
  subst ei
  rw [List.length_map] at hz
  have at1 : ∀ p ∈ ps, ∃ (o : Obj) (n : Nat) (t1 t2 : Tok), s.heap.get? p = some o ∧ o.cls = .type "tuple" ∧ o.data = .seq #[.int (t p).1 t1, .str (t p).2 t2] n := fun p hp => by
    obtain ⟨its, rv', ⟨o, e1, e2, n, e3⟩, _⟩ := I.tuple (ht p hp)
    obtain ⟨u, z, rfl, ⟨t1, rfl⟩, ⟨t2, rfl⟩⟩ := Vals.two rv'
    exact ⟨o, n, t1, t2, e1, e2, e3⟩
  let shape : Nat → Bool := fun i => decide (i = 1)
  have key1 : ∀ p ∈ ps, PyProof.Rows.G.tupKeyC s.heap shape (.ref p) = some [Sum.inl (t p).1, Sum.inr (t p).2.cps.toList] := fun p hp => by
    obtain ⟨o, n, t1, t2, e1, e2, e3⟩ := at1 p hp
    have h1 : PyProof.Rows.G.isTupObj s.heap (.ref p) = true := by
      show (match s.heap.get? p with | some o => (match o.cls with | .type n => n == "tuple" | _ => false) | none => false) = true
      rw [e1]
      show (match o.cls with | .type n => n == "tuple" | _ => false) = true
      rw [e2]
      rfl
    unfold PyProof.Rows.G.tupKeyC
    rw [if_pos h1]
    show (match s.heap.get? p with | some o => (match o.data with | .seq xs _ => PyProof.Rows.tupItems shape 0 xs.toList | _ => none) | none => none) = _
    rw [e1]
    show (match o.data with | .seq xs _ => PyProof.Rows.tupItems shape 0 xs.toList | _ => none) = _
    rw [e3]
    rfl
  have tups : ∀ l : List Addr, (∀ p ∈ l, p ∈ ps) → ∃ fs, PyProof.Rows.TupsOf s.heap shape (l.map Value.ref) fs := by
    intro l
    induction l with
    | nil => exact fun _ => ⟨[], .nil⟩
    | cons p l ih =>
      intro hp
      obtain ⟨fs, h2⟩ := ih fun x hx => hp x (List.mem_cons_of_mem _ hx)
      obtain ⟨o, n, t1, t2, e1, e2, e3⟩ := at1 p (hp p List.mem_cons_self)
      exact ⟨_, .cons ⟨p, o, _, n, rfl, e1, e2, e3, rfl, fun _ => ⟨_, _, rfl⟩, fun z => absurd z (by decide)⟩ h2⟩
  obtain ⟨fs, hT⟩ := tups ps fun _ h => h
  have hkeys : ∀ v, v ∈ ps.map Value.ref → ∃ l, PyProof.Rows.G.tupKeyC s.heap shape v = some l := fun v hv => by
    obtain ⟨p, hp, rfl⟩ := List.mem_map.mp hv
    exact ⟨_, key1 p hp⟩
  refine PyProof.Rows.G.sorted_tups hl.isList hT hkeys (by rw [List.length_map]; exact hz) fun st' perm srt _ => ?_
  have hlp : (arrOf st').toList.Perm ((ps.map Value.ref).zip (ps.map Value.ref)) := by rw [← pairsOf_toList]; exact Array.perm_iff_toList_perm.mp perm
  have hmem : ∀ p, p ∈ (arrOf st').toList → ∃ x ∈ ps, p = (Value.ref x, Value.ref x) := fun p hp => by
    obtain ⟨e, hm⟩ := mem_zip_self (hlp.mem_iff.mp hp)
    obtain ⟨x, hx, ex⟩ := List.mem_map.mp hm
    exact ⟨x, hx, Prod.ext ex.symm (e ▸ ex.symm)⟩
  have hout : ((arrOf st').map (·.2)).toList = (((arrOf st').toList.map fun p => ad p.2).map Value.ref) := by
    rw [Array.toList_map, List.map_map]
    refine List.map_congr_left fun p hp => ?_
    obtain ⟨x, _, rfl⟩ := hmem p hp
    rfl
  have hperm : ((arrOf st').toList.map fun p => ad p.2).Perm ps := by
    have h1 := hlp.map fun p : Value × Value => ad p.2
    have h2 : (((ps.map Value.ref).zip (ps.map Value.ref)).map fun p : Value × Value => ad p.2) = ps := by
      have gen : ∀ l : List Addr, (((l.map Value.ref).zip (l.map Value.ref)).map fun p : Value × Value => ad p.2) = l := by
        intro l
        induction l with
        | nil => rfl
        | cons x l ih =>
          rw [List.map_cons, List.zip_cons_cons, List.map_cons, ih]
          rfl
      exact gen ps
    rw [h2] at h1
    exact h1
  have hsz : (arrOf st').size = (pairsOf (ps.map Value.ref)).size := perm.size_eq
  have hpw : ((arrOf st').toList.map fun p => ad p.2).Pairwise fun p q => (t p).1 ≤ (t q).1 := by
    have hk : KeysOf (PyProof.Rows.G.tupKindC s.heap shape) (arrOf st') := fun p hp => by
      obtain ⟨x, hx, rfl⟩ := hmem p hp
      exact ⟨_, key1 x hx⟩
    have h1 := keyLe_of_sorted hk (by rw [hsz]; exact srt)
    rw [List.pairwise_map]
    refine h1.imp_of_mem fun {p q} hp hq h => ?_
    obtain ⟨x, hx, rfl⟩ := hmem p hp
    obtain ⟨y, hy, rfl⟩ := hmem q hq
    obtain ⟨ka, kb, e1, e2, le⟩ := h
    have e1' : PyProof.Rows.G.tupKeyC s.heap shape (.ref x) = some ka := e1
    have e2' : PyProof.Rows.G.tupKeyC s.heap shape (.ref y) = some kb := e2
    rw [key1 x hx] at e1'
    rw [key1 y hy] at e2'
    cases e1'
    cases e2'
    have le' : PyProof.Rows.lexLt PyProof.Rows.itemOrd [Sum.inl (t y).1, Sum.inr (t y).2.cps.toList] [Sum.inl (t x).1, Sum.inr (t x).2.cps.toList] = false := le
    show (t x).1 ≤ (t y).1
    refine Int.not_lt.mp fun z => ?_
    have : PyProof.Rows.lexLt PyProof.Rows.itemOrd [Sum.inl (t y).1, Sum.inr (t y).2.cps.toList] [Sum.inl (t x).1, Sum.inr (t x).2.cps.toList] = true := PyProof.Rows.lex_true.mpr (.inl (decide_eq_true z))
    rw [this] at le'
    cases le'
  obtain ⟨e, hat⟩ := sortedAll_at s.heap (ps.map Value.ref) ((arrOf st').map (·.2))
  have vals : Vals ((((arrOf st').toList.map fun p => ad p.2)).map V.ref) ((arrOf st').map (·.2)).toList := by
    rw [hout]
    have gen : ∀ l : List Addr, Vals (l.map V.ref) (l.map Value.ref) := by
      intro l
      induction l with
      | nil => exact .nil
      | cons x l ih => exact .cons rfl ih
    exact gen _
  refine ⟨.ref (s.heap.objs.size + 1), _, I.laid (a := s.heap.objs.size + 1) (t' := s.toks) (fun b o e => sortedAll_old e) (Nat.le_succ _) (show ObjOk X.prog X.w _ _ _ (.lst _) from ⟨?_, _, e, vals, ?_⟩), rfl, q _ _ hperm hpw (I.hok.fresh (Nat.le_succ _))⟩
  · rw [List.length_map, hperm.length_eq]
    exact hz
  · rw [Array.toArray_toList]
    exact hat
end
end L2

set_option Elab.async false
set_option linter.all false
set_option maxRecDepth 100000
namespace L2
open PySem PySem.Spec PyProof.Rows
/-- over the pairs of a locked dict -/
theorem lc_items {d : Addr} {o : Obj} {kvs : List (Key × V)} {g : TG} {tt : TT} {te : TE} {vs : List Nat} {σ : St} {H1 : Hp} {D : Addr} {Qd : Hp → Prop} (Pv : Nat → Hp → Prop) (h0 : Pv 0 (upd H1 D (.lst []))) (hl : ∀ i H, i ≤ kvs.length → Pv i H → H d = some (.frz o (.dK kvs)))
    (hs : ∀ i k v H T, kvs[i]? = some (k, v) → Pv i H → H T = none → g (.ref T) (wipe σ vs) (upd H T (.tup [kV k, v])) fun σ2 H2 => wipe σ2 vs = wipe σ vs ∧ tt σ2 H2 fun b H3 =>
      if b = true then te σ2 H3 fun y H4 => ∃ acc, H4 D = some (.lst acc) ∧ acc.length < sizeLine ∧ Pv (i + 1) (upd H4 D (.lst (acc ++ [y]))) else Pv (i + 1) H3) (hd : ∀ H, Pv kvs.length H → Qd H) :
    ∃ W : Nat → Nat → Hp → Prop, (∃ m, W 0 m (upd H1 D (.lst []))) ∧ ∀ i m H, W i m H →
      ((Iti d o kvs).stop i H ∧ Qd H) ∨ ((Iti d o kvs).go i H ∧ ∃ Nx : Hp → Prop, (∀ H', Nx H' → ∃ m', m' < m ∧ W (i + 1) m' H') ∧ ∀ x H', (Iti d o kvs).yld i H x H' → g x (wipe σ vs) H' fun σ2 H2 => wipe σ2 vs = wipe σ vs ∧ tt σ2 H2 fun b H3 =>
        if b = true then te σ2 H3 fun y H4 => ∃ acc, H4 D = some (.lst acc) ∧ acc.length < sizeLine ∧ Nx (upd H4 D (.lst (acc ++ [y]))) else Nx H3) := by
  refine ⟨fun i m H => m = kvs.length - i ∧ i ≤ kvs.length ∧ Pv i H, ⟨kvs.length, by simp, Nat.zero_le _, h0⟩, ?_⟩
  rintro i m H ⟨rfl, hi, p⟩
  have q := hl i H hi p
  by_cases hlt : i < kvs.length
  · refine .inr ⟨⟨q, hlt⟩, Pv (i + 1), fun H' p' => ⟨kvs.length - (i + 1), by omega, rfl, hlt, p'⟩, fun x H' y => ?_⟩
    obtain ⟨T, k, v, hk, rfl, hT, rfl⟩ := y
    exact hs i k v _ T hk p hT
  · have e : i = kvs.length := by omega
    subst e
    exact .inl ⟨⟨q, Nat.le_refl _⟩, hd H p⟩
theorem ix_tupK {X : Cx} {K : PySem.W.Frag} (h : X.K = K := by rfl) : IxR X (rIxT K) := by
  subst h
  exact ix_tup
theorem pg_tupK {X : Cx} {K : PySem.W.Frag} {pos : Pos} {es : List Expr} {k : Nat} {t : TGs} {n : Nat} (hc : X.calm = true) (h : PGs X es t) (hK : X.K = K := by rfl)
    (hn : (assignEach es X.env).length = n := by rfl) (hst : (assignEach es X.env).findIdx? (·.1) = none := by rfl) : PG X (.Tuple es k pos) (gTup K n t) := by
  subst hK
  exact pg_tup hc h hn hst
def fk (F : List (Int × Int)) : List (Key × V) := F.map fun q => (Sum.inl q.1, V.int q.2)
def getF (F : List (Int × Int)) (t : Int) : Option Int := (F.find? fun q => decide (q.1 = t)).map (·.2)
theorem fk_len (F : List (Int × Int)) : (fk F).length = F.length := List.length_map ..
theorem fk_val : ∀ (F : List (Int × Int)) (t : Int), valV (fk F) (Sum.inl t) = (getF F t).map V.int
  | [], t => rfl
  | q :: F, t => by
    have e : fk (q :: F) = (Sum.inl q.1, V.int q.2) :: fk F := rfl
    rw [e]
    unfold getF
    rw [List.find?_cons]
    by_cases h : q.1 = t
    · rw [valV_pos (show (Sum.inl q.1 : Key) = Sum.inl t from congrArg Sum.inl h), decide_eq_true h]
      rfl
    · rw [valV_neg (show ¬ (Sum.inl q.1 : Key) = Sum.inl t from fun z => h (Sum.inl.inj z)), decide_eq_false h, fk_val F t]
      rfl
theorem getF_none {F : List (Int × Int)} {t : Int} (h : getF F t = none) : t ∉ F.map (·.1) := by
  intro z
  obtain ⟨q, hq, e⟩ := List.mem_map.mp z
  unfold getF at h
  rw [Option.map_eq_none_iff, List.find?_eq_none] at h
  exact h q hq (by simpa using e)
theorem getF_some {F : List (Int × Int)} {t v : Int} (h : getF F t = some v) : (t, v) ∈ F := by
  unfold getF at h
  rw [Option.map_eq_some_iff] at h
  obtain ⟨q, hq, rfl⟩ := h
  have h1 := List.mem_of_find?_eq_some hq
  have h2 := List.find?_some hq
  rw [decide_eq_true_iff] at h2
  rw [← h2]
  exact h1
theorem getF_mem : ∀ {F : List (Int × Int)} {t v : Int}, (F.map (·.1)).Nodup → (t, v) ∈ F → getF F t = some v
  | [], _, _, _, h => by simp at h
  | q :: F, t, v, hn, h => by
    rw [List.map_cons, List.nodup_cons] at hn
    unfold getF
    rw [List.find?_cons]
    rcases List.mem_cons.mp h with rfl | h
    · simp
    · have ne : ¬ q.1 = t := fun e => hn.1 (by rw [e]; exact List.mem_map.mpr ⟨(t, v), h, rfl⟩)
      rw [decide_eq_false ne]
      exact getF_mem hn.2 h
theorem fk_new {F : List (Int × Int)} {t v : Int} (h : getF F t = none) : putK (fk F) (Sum.inl t) (V.int v) = fk (F ++ [(t, v)]) := by
  rw [putK_new _ (by rw [fk_val, h]; rfl)]
  unfold fk
  rw [List.map_append]
  rfl
end L2

set_option Elab.async false
set_option linter.all false
set_option maxRecDepth 100000
set_option maxHeartbeats 4000000
namespace Dc
open PySem L2
def top (i : Nat) : Stmt := PySem.Challenge.pw_spellsame_s03_dm_count.main.body.getD i (.Pass ⟨0, 0, 0, 0⟩)
abbrev sLong : Stmt := top 13
abbrev sWord : Stmt := top 14
abbrev sText : Stmt := top 15
abbrev sPairs : Stmt := top 16
abbrev sLead : Stmt := top 17
abbrev sFewest : Stmt := top 18
abbrev sCatch : Stmt := top 19
abbrev sSpell : Stmt := top 20
abbrev sUp : Stmt := top 21
abbrev sInit : Stmt := inClass (top 22) 0
abbrev sAllows : Stmt := inClass (top 22) 1
abbrev sRef : Stmt := top 23
abbrev sLonger : Stmt := top 24
abbrev sCount : Stmt := top 25
structure Txt (K : PySem.W.Frag) (mg : Str → Option Value) : Prop where
  len : mg "len" = none
  rng : mg "range" = none
  str : mg "str" = none
  mn : mg "min" = none
  mx : mg "max" = none
  zip : mg "zip" = none
  srt : mg "sorted" = none
  ml : ∃ t, mg "MOST_LETTERS" = some (.int 8 t)
  wb : ∃ t, mg "WORD_BYTES" = some (.int 9 t)
  db : ∃ t, mg "DOMINO_BYTES" = some (.int 18 t)
  ab : ∃ t, mg "ABOVE" = some (.int 0 t)
  be : ∃ t, mg "BELOW" = some (.int 9 t)
  ls : ∃ t, mg "LONGEST_SEARCH" = some (.int 16 t)
  lb : ∃ t, mg "LETTER_BASE" = some (.int 100 t)
  sg : ∃ t, mg "LETTER_SIGNS" = some (.int 3 t)
  oo : ∃ t, mg "OUT_OF_RANGE" = some (.int (-2) t)
  na : ∃ t, mg "NOT_ALLOWED" = some (.int (-3) t)
  nl : ∃ a, mg "NO_LEAD" = some (.ref a) ∧ ∀ H, SqT K H a [.str (sw []), .str (sw [])]
  mc : ∃ t, mg "MOST_COUNTED" = some (.int 2 t)
end Dc

namespace DmS
open Sv77 Sx23 Sx23Neutral DmA
theorem bytes_of_all {l : List Int} (h : (l.all fun (z : Int) => natural z 8) = true) : ∀ x ∈ l, 0 ≤ x ∧ x < 256 := fun x hx => by
  have := List.all_eq_true.mp h x hx
  unfold natural at this
  rw [Bool.and_eq_true, decide_eq_true_iff, decide_eq_true_iff] at this
  exact ⟨this.1, by have := this.2; omega⟩
theorem count_bytes {m : Int} {d : List Int} (h : PySx23.dm_count_asked m d = true) : ∀ x ∈ d, 0 ≤ x ∧ x < 256 := by
  unfold PySx23.dm_count_asked asked at h
  rw [Bool.and_eq_true] at h
  have h1 := h.1
  unfold asked1 at h1
  simp only [Bool.and_eq_true, decide_eq_true_iff] at h1
  exact bytes_of_all h1.2.1
/-- the dominoes as texts -/
abbrev tdoms (d : List Int) : Set_ := DmT.tset (doms d)
theorem tdoms_len (d : List Int) : (tdoms d).length = d.length / 18 := by
  show (List.map _ _).length = _
  rw [List.length_map, setOf_length]
theorem tdoms_get {d : List Int} (h : ¬ LongW d) {k : Nat} (hk : k < d.length / 18) : (tdoms d)[k]? = some ⟨DmT.txt (nats (wordI d (k * 18))), DmT.txt (nats (wordI d (k * 18 + 9)))⟩ := by
  have hd := dom_at (small_of h) hk
  have hl : k < (doms d).length := by rw [setOf_length]; exact hk
  rw [DmT.tset_get, List.getElem?_eq_getElem hl]
  rw [List.getD_eq_getElem?_getD, List.getElem?_eq_getElem hl] at hd
  show some (DmT.tdom (doms d)[k]) = _
  unfold DmT.tdom
  have h1 : (doms d)[k].above = nats (wordI d (k * 18)) := hd.1
  have h2 : (doms d)[k].below = nats (wordI d (k * 18 + 9)) := hd.2
  rw [h1, h2]
theorem getD_le {d : List Int} (h : ¬ LongW d) {k side : Nat} (hs : side = 0 ∨ side = 9) (hl : d.length = 18 * (d.length / 18)) : d.getD (k * 18 + side) 0 ≤ 8 := by
  rcases Nat.lt_or_ge (k * 18 + side) d.length with q | q
  · refine Int.not_lt.mp fun z => h ?_
    rcases hs with rfl | rfl
    · exact ⟨2 * k, by omega, by rw [show 9 * (2 * k) = k * 18 + 0 by omega]; exact z⟩
    · exact ⟨2 * k + 1, by omega, by rw [show 9 * (2 * k + 1) = k * 18 + 9 by omega]; exact z⟩
  · rw [List.getD_eq_getElem?_getD, List.getElem?_eq_none q]
    decide
theorem word_len {d : List Int} {p : Nat} (h : d.getD p 0 ≤ 8) : (wordI d p).length ≤ 8 := by
  unfold wordI
  rw [List.length_take]
  omega
theorem word_mem {d : List Int} {p : Nat} {x : Int} (h : x ∈ wordI d p) : x ∈ d := List.mem_of_mem_drop (List.mem_of_mem_take h)
/-- what the search needs to know of the texts -/
structure Ok (D : Set_) : Prop where
  three : ∀ x ∈ D, x.above.length % 3 = 0 ∧ x.below.length % 3 = 0
  short : ∀ x ∈ D, x.above.length ≤ 24 ∧ x.below.length ≤ 24
theorem tdoms_ok {d : List Int} (h : ¬ LongW d) (hl : d.length = 18 * (d.length / 18)) : Ok (tdoms d) := by
  have all : ∀ x ∈ tdoms d, ∃ k, x = ⟨DmT.txt (nats (wordI d (k * 18))), DmT.txt (nats (wordI d (k * 18 + 9)))⟩ := fun x hx => by
    obtain ⟨k, hk, e⟩ := List.getElem_of_mem hx
    have hk' : k < d.length / 18 := by rw [← tdoms_len]; exact hk
    have := tdoms_get h hk'
    rw [List.getElem?_eq_getElem hk] at this
    exact ⟨k, e.symm.trans (Option.some.inj this)⟩
  have len : ∀ l : List Int, (nats l).length = l.length := fun l => nats_length l
  constructor
  · intro x hx
    obtain ⟨k, rfl⟩ := all x hx
    dsimp only
    rw [DmT.txt_length, DmT.txt_length]
    omega
  · intro x hx
    obtain ⟨k, rfl⟩ := all x hx
    have h1 := word_len (getD_le h (k := k) (.inl rfl) hl)
    have h2 := word_len (getD_le h (k := k) (.inr rfl) hl)
    dsimp only
    rw [DmT.txt_length, DmT.txt_length, len, len]
    rw [Nat.add_zero] at h1
    omega
end DmS

set_option Elab.async false
set_option linter.all false
set_option maxRecDepth 100000
set_option maxHeartbeats 4000000
namespace Dc
open PySem L2 Sv77 DmP
theorem pc {X : Cx} {x : Str} {i : Int} {pos : Pos} (hg : Gl X x) (hm : ∃ t, X.mg x = some (.int i t)) (hd : (x == ("__debug__" : Str)) = false := by decide) : PE X (.Name x pos) (tC (.int i)) := by
  obtain ⟨t, h⟩ := hm
  exact pe_glob hg h ⟨t, rfl⟩ hd
theorem map_at {d : List Int} {i : Nat} (h : i < d.length) : (d.map V.int)[i]? = some (V.int (d.getD i 0)) := by
  rw [List.getElem?_map, List.getD_eq_getElem?_getD, List.getElem?_eq_getElem h]
  rfl
theorem of_map' {α : Type} {f : α → V} {d : List α} {i : Nat} {y : V} (h : (d.map f)[i]? = some y) : ∃ x, d[i]? = some x ∧ y = f x := by
  rw [List.getElem?_map] at h
  cases e : d[i]? with
  | none => rw [e] at h; cases h
  | some x => rw [e] at h; exact ⟨x, rfl, (Option.some.inj h).symm⟩
theorem fits {n : Nat} (h : n ≤ 1000000) : n ≤ sizeLine := Nat.le_trans h (by decide)
theorem fits' {n : Nat} (h : n ≤ 1000000) : n < sizeLine := Nat.lt_of_le_of_lt h (by decide)
theorem small_range {n : Nat} (h : n ≤ 144) : Builtin.Range.small 0 (n : Int) 9 = true := by
  have hf : ∀ i : Int, -1000 ≤ i → i ≤ 1000 → Builtin.Range.rangeFitsLong i = true := fun i h1 h2 => by
    unfold Builtin.Range.rangeFitsLong
    rw [Bool.and_eq_true, decide_eq_true_eq, decide_eq_true_eq]
    omega
  have hs : 0 ≤ Builtin.Range.rangeSize 0 (n : Int) 9 ∧ Builtin.Range.rangeSize 0 (n : Int) 9 ≤ 1000 := by
    unfold Builtin.Range.rangeSize
    rw [if_pos (by decide)]
    split <;> omega
  unfold Builtin.Range.small
  rw [hf 0 (by decide) (by decide), hf (n : Int) (by omega) (by omega), hf 9 (by decide) (by decide), hf _ (by omega) hs.2, if_pos (by decide), hf _ (by omega) (by omega)]
  simp
theorem small_range3 {n : Nat} (h : n ≤ 900) : Builtin.Range.small 0 (n : Int) 3 = true := by
  have hf : ∀ i : Int, -1000 ≤ i → i ≤ 1000 → Builtin.Range.rangeFitsLong i = true := fun i h1 h2 => by
    unfold Builtin.Range.rangeFitsLong
    rw [Bool.and_eq_true, decide_eq_true_eq, decide_eq_true_eq]
    omega
  have hs : 0 ≤ Builtin.Range.rangeSize 0 (n : Int) 3 ∧ Builtin.Range.rangeSize 0 (n : Int) 3 ≤ 1000 := by
    unfold Builtin.Range.rangeSize
    rw [if_pos (by decide)]
    split <;> omega
  unfold Builtin.Range.small
  rw [hf 0 (by decide) (by decide), hf (n : Int) (by omega) (by omega), hf 3 (by decide) (by decide), hf _ (by omega) hs.2, if_pos (by decide), hf _ (by omega) (by omega)]
  simp
section
variable {P : Program} {w : World} {K : PySem.W.Frag} {mg : Str → Option Value} {base : Heap}
def spLong (K : PySem.W.Frag) : Sp := fun vs H Q _ => ∃ (a : Addr) (d : List Int), vs = [.ref a] ∧ SqL K H a (d.map V.int) ∧ d.length = 18 * (d.length / 18) ∧ d.length / 18 ≤ 8 ∧ Q (.bl (decide (DmS.LongW d))) H
theorem scLong : FnScope ["d", "start"] ["d"] (defScope sLong) := ⟨rfl, rfl, rfl, by decide +kernel, rfl, by decide +kernel, by decide +kernel⟩
theorem ok_long {f : Addr} {fd : FuncData} (F : Fun K "has_long_word" "has_long_word" sLong f fd) (T : Txt K mg) : FnOk P w K mg base CX0 1 f fd ["d"] (spLong K) := by
  refine F.ok scLong (fun vs H Q E h => ?_) (fun cdv A outer s H vs Q E hr h => ?_)
  · obtain ⟨a, d, rfl, _⟩ := h
    rfl
  · obtain ⟨a, d, rfl, hS, h1, h2, k⟩ := h
    refine ⟨_, pss_cons (ps_for PassesOwn.never rfl (pi_range3 rfl T.rng (pa_cons pe_int (pa_cons (pe_callB call_len_seq (by rfl) T.len PySem.boot_len (pa_cons (pv 0) pa_nil)) (pa_cons (pc rfl T.wb) pa_nil))))
        (pg_name (i := 1) scLong.nd rfl (Or.inl rfl))
        (pss_one (ps_if (pt_cmpR op_gt (pe_ix ix_list (pv 0) (pv 1) (fun _ _ => rfl)) (pc rfl T.ml) (nomark _)) (pss_one (ps_ret pe_bl)) pss_nil)))
      (pss_one (ps_ret pe_bl)), ?_⟩
    have hsz : Builtin.Range.rangeSize 0 (((d.map V.int).length : Nat) : Int) 9 = ((2 * (d.length / 18) : Nat) : Int) := by
      rw [List.length_map]
      unfold Builtin.Range.rangeSize
      rw [if_pos (by decide)]
      split <;> omega
    refine ⟨_, rfl, a, _, rfl, .inl hS, 0, _, 9, 2 * (d.length / 18), rfl, ⟨by decide, by decide, by rw [List.length_map]; exact small_range (by omega), hsz⟩,
      for_rangeC (fun i σ H' => H' = H ∧ ∃ v, σ = [some (.ref a), v] ∧ ∀ j, j < i → d.getD (9 * j) 0 ≤ 8) ⟨rfl, none, rfl, fun j hj => by omega⟩ ?_ ?_⟩
    · rintro i σ H' hi ⟨rfl, v, rfl, hall⟩
      have hp : 9 * i < d.length := by omega
      have e9 : (0 : Int) + (i : Int) * 9 = ((9 * i : Nat) : Int) := by omega
      refine ⟨_, rfl, _, rfl, a, _, _, _, rfl, rfl, hS, at_of e9 (map_at hp), _, _, rfl, rfl, _, rfl, ite2 (fun z => ?_) (fun z => ?_)⟩
      · have z' : (8 : Int) < d.getD (9 * i) 0 := of_decide_eq_true z
        have hL : DmS.LongW d := ⟨i, hi, z'⟩
        rw [decide_eq_true hL] at k
        exact k
      · have z' : ¬ (8 : Int) < d.getD (9 * i) 0 := fun q => z (decide_eq_true q)
        refine ⟨rfl, _, rfl, fun j hj => ?_⟩
        rcases Nat.lt_or_ge j i with q | q
        · exact hall j q
        · have : j = i := by omega
          subst this
          omega
    · rintro σ H' ⟨rfl, v, rfl, hall⟩
      have hL : ¬ DmS.LongW d := fun ⟨i, hi, q⟩ => by
        have := hall i hi
        omega
      rw [decide_eq_false hL] at k
      exact k
theorem cut_word {d : List Int} {p : Nat} (hp : p < d.length) (h0 : 0 ≤ d.getD p 0) : cutV (d.map V.int) (some (((p + 1 : Nat) : Nat) : Int)) (some ((((p + 1 : Nat) : Nat) : Int) + d.getD p 0)) = (DmA.wordI d p).map V.int := by
  unfold cutV DmA.wordI
  obtain ⟨c, hc⟩ : ∃ c : Nat, d.getD p 0 = (c : Int) := ⟨(d.getD p 0).toNat, by omega⟩
  have e1 : (((p + 1 : Nat) : Nat) : Int) + (c : Int) = ((p + 1 + c : Nat) : Int) := by omega
  rw [hc, e1, HT.sIx_nat, HT.sIx_nat, List.length_map, Nat.min_eq_left hp, List.map_take, List.map_drop, List.take_eq_take_iff, List.length_drop, List.length_map]
  have e2 : ((c : Int)).toNat = c := by omega
  rw [e2]
  omega
def spWord (K : PySem.W.Frag) : Sp := fun vs H Q _ => ∃ (a : Addr) (d : List Int) (n sd : Int) (p : Nat), vs = [.ref a, .int n, .int sd] ∧ SqL K H a (d.map V.int) ∧ n * 18 + sd = (p : Int) ∧ 0 ≤ n ∧ n ≤ 255 ∧ p < d.length ∧ 0 ≤ d.getD p 0 ∧
  ∀ q, H q = none → Q (.ref q) (upd H q (.lst ((DmA.wordI d p).map V.int)))
theorem scWord : FnScope ["d", "number", "side", "start", "first_letter"] ["d", "number", "side"] (defScope sWord) := ⟨rfl, rfl, rfl, by decide +kernel, rfl, by decide +kernel, by decide +kernel⟩
theorem ok_word {f : Addr} {fd : FuncData} (F : Fun K "word_of" "word_of" sWord f fd) (T : Txt K mg) : FnOk P w K mg base CX0 1 f fd ["d", "number", "side"] (spWord K) := by
  refine F.ok scWord (fun vs H Q E h => ?_) (fun cdv A outer s H vs Q E hr h => ?_)
  · obtain ⟨a, d, n, sd, p, rfl, _⟩ := h
    rfl
  · obtain ⟨a, d, n, sd, p, rfl, hS, hp, n0, n1, hl, h0, k⟩ := h
    refine ⟨_, pss_cons (ps_set (i := 3) scWord.nd rfl (Or.inl rfl) (pe_op op_add (pe_op op_mul (pv 1) (pc rfl T.db)) (pv 2)))
      (pss_cons (ps_set (i := 4) scWord.nd rfl (Or.inl rfl) (pe_op op_add (pv 3) pe_int))
      (pss_one (ps_ret (pe_slice sl_list (pv 0) (po_some (pv 4)) (po_some (pe_op op_add (pv 4) (pe_ix ix_list (pv 0) (pv 3) (fun _ _ => rfl)))))))), ?_⟩
    refine ⟨_, rfl, _, _, rfl, rfl, .inl ⟨by omega, by omega⟩, _, rfl, _, _, rfl, rfl, ?_⟩
    refine ⟨_, rfl, _, _, rfl, rfl, ?_⟩
    refine ⟨_, rfl, _, rfl, _, rfl, _, rfl, _, rfl, _, rfl, a, _, _, _, rfl, rfl, hS, at_of hp (map_at hl), _, _, rfl, rfl, _, rfl, a, _, rfl, hS, fun q hq => ?_⟩
    have e1 : n * 18 + sd + 1 = ((p + 1 : Nat) : Int) := by omega
    rw [e1, cut_word hl h0]
    exact k q hq
def spText (K : PySem.W.Frag) : Sp := fun vs H Q _ => ∃ (a : Addr) (l : List Int), vs = [.ref a] ∧ SqL K H a (l.map V.int) ∧ l.length ≤ 8 ∧ (∀ x ∈ l, 0 ≤ x ∧ x < 256) ∧ ∀ H', Same H H' → Q (.str (sw (DmT.txt (Sx23Neutral.nats l)))) H'
theorem scText : FnScope ["letters", "letter"] ["letters"] (defScope sText) := ⟨rfl, rfl, rfl, by decide +kernel, rfl, by decide +kernel, by decide +kernel⟩
theorem blkText : BlkOk ["letters", "letter"] (defScope sText) { kind := .function, names := [(".0", .local), ("letter", .local), ("str", .globalImplicit), ("LETTER_BASE", .globalImplicit)], isGenerator := false, isCoroutine := false, more := [] } [("letter", 1)] := blkOk_by (by decide +kernel)
theorem txt_flat : ∀ l : List Int, ((Sx23Neutral.nats l).map DmT.code).flatten = DmT.txt (Sx23Neutral.nats l) := fun l => (List.flatMap_def ..).symm
theorem ok_text {f : Addr} {fd : FuncData} (F : Fun K "text_of" "text_of" sText f fd) (T : Txt K mg) : FnOk P w K mg base CX0 1 f fd ["letters"] (spText K) := by
  refine F.ok scText (fun vs H Q E h => ?_) (fun cdv A outer s H vs Q E hr h => ?_)
  · obtain ⟨a, l, rfl, _⟩ := h
    rfl
  · obtain ⟨a, l, rfl, hA, hl, hb, k⟩ := h
    refine ⟨_, pss_one (ps_ret (pe_join pe_str (pe_lc rfl scText.nd (pi_list (pv 0)) blkText (fun _ _ _ _ _ => pg_name (i := 1) scText.nd rfl (Or.inl rfl)) (fun _ _ _ _ _ => pts_nil)
      (fun _ _ _ _ _ => pe_callTy call_str_int rfl T.str PyProof.Rows.boot_str (pa_cons (pe_op op_add (pc rfl T.lb) (pv 1)) pa_nil))))), ?_⟩
    refine ⟨⟨_, rfl⟩, ?_⟩
    refine ⟨_, rfl, a, rfl, ⟨_, hA⟩, fun p hp => lc_list (K := K) (a := a) (xs := l.map V.int) (fun i H' => Same H H' ∧ H' p = some (.lst (((Sx23Neutral.nats (l.take i)).map fun n => sw (DmT.code n)).map V.str)))
      ⟨Same.laid hp, upd_same⟩ (fun i H' _ ⟨s1, _⟩ => s1.seq hA) ?_ ?_⟩
    · rintro i x H' hx ⟨s1, hP⟩
      obtain ⟨u, hu, rfl⟩ := of_map' hx
      have hi : i < l.length := (List.getElem?_eq_some_iff.mp hu).1
      have hub := hb u (List.mem_of_getElem? hu)
      obtain ⟨n, rfl⟩ : ∃ n : Nat, u = (n : Int) := ⟨u.toNat, by omega⟩
      refine ⟨rfl, ?_⟩
      unfold tYes
      refine iteT ?_
      refine ⟨_, rfl, _, _, rfl, rfl, _, rfl, ?_, ?_⟩
      · have h1 : ((100 : Int) + (n : Int)).natAbs = 100 + n := by omega
        show ((100 : Int) + (n : Int)).natAbs.log2 < 1920
        rw [h1]
        refine (Nat.log2_lt (by omega)).mpr (Nat.lt_of_lt_of_le (show 100 + n < 2 ^ 10 by omega) (Nat.pow_le_pow_right (by decide) (by decide)))
      · refine ⟨_, hP, ?_, fun c o e => ?_, ?_⟩
        · rw [List.length_map, List.length_map]
          have : (Sx23Neutral.nats (l.take i)).length ≤ 8 := by
            rw [DmA.nats_length, List.length_take]
            omega
          exact fits' (by omega)
        · rw [upd_ne (ne_of_none e hp)]
          exact s1 c o e
        · rw [upd_same, List.take_succ_eq_append_getElem hi, (List.getElem?_eq_some_iff.mp hu).2, DmA.nats_append, List.map_append, List.map_append]
          have e1 : (((Sx23Neutral.nats [(n : Int)]).map fun n => sw (DmT.code n)).map V.str) = [V.str (sw (DmT.code n))] := rfl
          rw [e1, ← str_code n (by omega)]
    · rintro H' ⟨s1, hP⟩
      rw [List.length_map, List.take_length] at hP
      refine ⟨_, p, _, rfl, rfl, .inl (SqL.of hP), ?_, ?_⟩
      · have hlen : ∀ ns : List Nat, (((ns.map fun n => sw (DmT.code n)).map fun x => x.length).sum) = 3 * ns.length := by
          intro ns
          induction ns with
          | nil => rfl
          | cons n ns ih =>
            rw [List.map_cons, List.map_cons, List.sum_cons, ih, sw_len, List.length_cons]
            show 3 + _ = _
            omega
        rw [hlen, DmA.nats_length]
        have e0 : (("" : Str)).length = 0 := rfl
        rw [e0]
        omega
      · have e : ((Sx23Neutral.nats l).map fun n => sw (DmT.code n)) = ((Sx23Neutral.nats l).map DmT.code).map sw := by rw [List.map_map]; rfl
        rw [e, join_sw, txt_flat]
        exact k H' s1
/-- a list of pairs of texts -/
def PairsAt (K : PySem.W.Frag) (H : Hp) (a : Addr) (D : Set_) : Prop := ∃ ps : List Addr, SqL K H a (ps.map V.ref) ∧ Paired (fun p (x : Domino) => SqT K H p [.str (sw x.above), .str (sw x.below)]) ps D
theorem PairsAt.same {H H' : Hp} {a : Addr} {D : Set_} (h : PairsAt K H a D) (e : Same H H') : PairsAt K H' a D := let ⟨ps, h1, h2⟩ := h; ⟨ps, e.seq h1, Paired.mapP h2 fun _ _ z => e.tup z⟩
def spPairs (K : PySem.W.Frag) : Sp := fun vs H Q _ => ∃ (a : Addr) (d : List Int), vs = [.ref a] ∧ SqL K H a (d.map V.int) ∧ d.length = 18 * (d.length / 18) ∧ d.length / 18 ≤ 8 ∧ (∀ x ∈ d, 0 ≤ x ∧ x < 256) ∧ ¬ DmS.LongW d ∧
  ∀ p H', Same H H' → H p = none → PairsAt K H' p (DmS.tdoms d) → Q (.ref p) H'
theorem scPairs : FnScope ["d", "pairs", "number"] ["d"] (defScope sPairs) := ⟨rfl, rfl, rfl, by decide +kernel, rfl, by decide +kernel, by decide +kernel⟩
theorem Paired.snoc' {α β : Type} {G : α → β → Prop} : ∀ {l₁ : List α} {l₂ : List β} {a : α} {b : β}, Paired G l₁ l₂ → G a b → Paired G (l₁ ++ [a]) (l₂ ++ [b])
  | _, _, _, _, .nil, h => .cons h .nil
  | _, _, _, _, .cons r t, h => .cons r (Paired.snoc' t h)
theorem ok_pairs {f fT fW : Addr} {fd fdT fdW : FuncData} (F : Fun K "text_pairs" "text_pairs" sPairs f fd) (T : Txt K mg) (FT : Fun K "text_of" "text_of" sText fT fdT) (bT : Binds K fdT ["letters"] []) (mT : mg "text_of" = some (.ref fT))
    (FW : Fun K "word_of" "word_of" sWord fW fdW) (bW : Binds K fdW ["d", "number", "side"] []) (mW : mg "word_of" = some (.ref fW)) : FnOk P w K mg base CX0 2 f fd ["d"] (spPairs K) := by
  have GT : FnOk P w K mg base CX0 1 fT fdT ["letters"] (spText K) := ok_text FT T
  have GW : FnOk P w K mg base CX0 1 fW fdW ["d", "number", "side"] (spWord K) := ok_word FW T
  refine F.ok scPairs (fun vs H Q E h => ?_) (fun cdv A outer s H vs Q E hr h => ?_)
  · obtain ⟨a, d, rfl, _⟩ := h
    rfl
  · obtain ⟨a, d, rfl, hA, h1, h2, hb, hL, k⟩ := h
    refine ⟨_, pss_cons (ps_set (i := 1) scPairs.nd rfl (Or.inl rfl) (pe_lst pa_nil))
      (pss_cons (ps_for PassesOwn.never rfl (pi_range1 rfl T.rng (pa_cons (pe_op op_fdiv (pe_callB call_len_seq (by rfl) T.len PySem.boot_len (pa_cons (pv 0) pa_nil)) (pc rfl T.db)) pa_nil)) (pg_name (i := 2) scPairs.nd rfl (Or.inl rfl))
        (pss_one (ps_expr (pe_bm PySem.F.plainAttrs_list PySem.F.slot_list_append PySem.F.type_list_append mt_append (pv 1)
          (pa_cons (pe_tup (pa_cons (pe_call GT hr rfl mT FT.kp bT .nil pass0 (pa_cons (pe_call GW hr rfl mW FW.kp bW .nil pass0 (pa_cons (pv 0) (pa_cons (pv 2) (pa_cons (pc rfl T.ab) pa_nil)))) pa_nil))
            (pa_cons (pe_call GT hr rfl mT FT.kp bT .nil pass0 (pa_cons (pe_call GW hr rfl mW FW.kp bW .nil pass0 (pa_cons (pv 0) (pa_cons (pv 2) (pa_cons (pc rfl T.be) pa_nil)))) pa_nil)) pa_nil))) pa_nil)))))
      (pss_one (ps_ret (pv 1)))), ?_⟩
    refine ⟨by show 0 ≤ sizeLine; decide, fun l hl => ?_⟩
    have s0 : Same H (upd H l (.lst [])) := Same.laid hl
    have eN : (((d.map V.int).length : Nat) : Int) / 18 = ((d.length / 18 : Nat) : Int) := by rw [List.length_map]; omega
    refine ⟨_, rfl, a, _, rfl, .inl (s0.seq hA), _, _, rfl, rfl, ⟨by decide, by decide⟩, ((d.length / 18 : Nat) : Int), congrArg (fun z => [V.int z]) eN, by omega, by omega, for_range (n := d.length / 18) (fun i σ H' => ∃ v2 ps, σ = [some (.ref a), some (.ref l), v2] ∧ Same H H' ∧ H' l = some (.lst (ps.map V.ref)) ∧ Paired (fun p (x : Domino) => SqT K H' p [.str (sw x.above), .str (sw x.below)]) ps ((DmS.tdoms d).take i))
      ⟨none, [], rfl, s0, upd_same, .nil⟩ ?_ ?_⟩
    · rintro i σ H' hi ⟨v2, ps, rfl, s1, hP, pr⟩
      have hps : ps.length ≤ 8 := by
        rw [Paired.length pr, List.length_take]
        omega
      have nn : ∀ p : Nat, 0 ≤ d.getD p 0 := fun p => by
        rw [List.getD_eq_getElem?_getD]
        cases e : d[p]? with
        | none => exact Int.le_refl 0
        | some x => exact (hb x (List.mem_of_getElem? e)).1
      have e0 : (0 : Int) + (i : Int) = (i : Int) := by omega
      have g1 := DmS.getD_le hL (k := i) (.inl rfl) h1
      have g2 := DmS.getD_le hL (k := i) (.inr rfl) h1
      refine ⟨_, rfl, .inl ⟨rfl, _, SqL.of hP⟩, ?_⟩
      refine ⟨_, rfl, _, rfl, a, d, _, _, i * 18 + 0, rfl, s1.seq hA, by omega, by omega, by omega, by omega, nn _, fun q1 hq1 => ?_⟩
      have s2 := Same.laid (o := .lst ((DmA.wordI d (i * 18 + 0)).map V.int)) hq1
      refine ⟨q1, _, rfl, SqL.of upd_same, DmS.word_len g1, fun x hx => hb x (DmS.word_mem hx), fun H2 s3 => ?_⟩
      have s13 := s1.trans (s2.trans s3)
      refine ⟨_, rfl, _, rfl, a, d, _, _, i * 18 + 9, rfl, s13.seq hA, by omega, by omega, by omega, by omega, nn _, fun q2 hq2 => ?_⟩
      have s4 := Same.laid (o := .lst ((DmA.wordI d (i * 18 + 9)).map V.int)) hq2
      refine ⟨q2, _, rfl, SqL.of upd_same, DmS.word_len g2, fun x hx => hb x (DmS.word_mem hx), fun H3 s5 => ?_⟩
      refine ⟨by show 2 ≤ sizeLine; decide, fun t ht => ?_⟩
      have s6 := s2.trans (s3.trans (s4.trans s5))
      have s7 := s6.trans (Same.laid (o := .tup [.str (sw (DmT.txt (Sx23Neutral.nats (DmA.wordI d (i * 18 + 0))))), .str (sw (DmT.txt (Sx23Neutral.nats (DmA.wordI d (i * 18 + 9)))))]) ht)
      have hP2 := s7 _ _ hP
      refine ⟨l, _, _, rfl, rfl, hP2, by rw [List.length_map]; exact fits' (by omega), ?_⟩
      have nt : ∀ zs, upd H3 t (.tup [.str (sw (DmT.txt (Sx23Neutral.nats (DmA.wordI d (i * 18 + 0))))), .str (sw (DmT.txt (Sx23Neutral.nats (DmA.wordI d (i * 18 + 9)))))]) l ≠ some (.tup zs) ∧ ∀ q, upd H3 t (.tup [.str (sw (DmT.txt (Sx23Neutral.nats (DmA.wordI d (i * 18 + 0))))), .str (sw (DmT.txt (Sx23Neutral.nats (DmA.wordI d (i * 18 + 9)))))]) l ≠ some (.frz q (.tup zs)) :=
        fun zs => ⟨by rw [hP2]; exact nofun, fun q => by rw [hP2]; exact nofun⟩
      refine ⟨_, ps ++ [t], rfl, fun c o e => ?_, by rw [upd_same, List.map_append]; rfl, ?_⟩
      · rw [upd_ne (ne_of_none e hl)]
        exact s7 _ _ (s1 _ _ e)
      · have hg := DmS.tdoms_get hL hi
        rw [List.take_succ_eq_append_getElem (List.getElem?_eq_some_iff.mp hg).1, (List.getElem?_eq_some_iff.mp hg).2]
        refine Paired.snoc' (Paired.mapP pr fun _ _ z => (s7.tup z).other nt) ?_
        have ne : t ≠ l := fun e => by rw [e] at ht; rw [s6 _ _ hP] at ht; cases ht
        exact SqT.of (by rw [upd_ne ne, upd_same, Nat.add_zero])
    · rintro σ H' ⟨v2, ps, rfl, s1, hP, pr⟩
      have e : (DmS.tdoms d).take (d.length / 18) = DmS.tdoms d := List.take_of_length_le (by rw [DmS.tdoms_len]; exact Nat.le_refl _)
      rw [e] at pr
      exact ⟨_, rfl, k l H' s1 hl ⟨ps, SqL.of hP, pr⟩⟩
def LeadAt (K : PySem.W.Frag) (H : Hp) (a : Addr) (p : Lead) : Prop := SqT K H a [.str (sw p.1), .str (sw p.2)]
def spLead (K : PySem.W.Frag) : Sp := fun vs H Q _ => ∃ (a b : Addr) (p : Lead) (x : Domino), vs = [.ref a, .ref b] ∧ LeadAt K H a p ∧ SqT K H b [.str (sw x.above), .str (sw x.below)] ∧ p.1.length ≤ 100000 ∧ p.2.length ≤ 100000 ∧ x.above.length ≤ 100000 ∧ x.below.length ≤ 100000 ∧
  (∀ t q, nextP p x = some q → H t = none → Q (.ref t) (upd H t (.tup [.str (sw q.1), .str (sw q.2)]))) ∧ (nextP p x = none → Q .non H)
theorem scLead : FnScope ["lead", "pair", "above", "below"] ["lead", "pair"] (defScope sLead) := ⟨rfl, rfl, rfl, by decide +kernel, rfl, by decide +kernel, by decide +kernel⟩
theorem ok_lead {f : Addr} {fd : FuncData} (F : Fun K "lead_after" "lead_after" sLead f fd) (T : Txt K mg) : FnOk P w K mg base CX0 1 f fd ["lead", "pair"] (spLead K) := by
  refine F.ok scLead (fun vs H Q E h => ?_) (fun cdv A outer s H vs Q E hr h => ?_)
  · obtain ⟨a, b, p, x, rfl, _⟩ := h
    rfl
  · obtain ⟨a, b, p, x, rfl, hA, hB, l1, l2, l3, l4, k1, k2⟩ := h
    refine ⟨_, pss_cons (ps_set (i := 2) scLead.nd rfl (Or.inl rfl) (pe_op op_add_str (pe_ix ix_tup (pv 0) pe_int (fun _ _ => rfl)) (pe_ix ix_tup (pv 1) pe_int (fun _ _ => rfl))))
      (pss_cons (ps_set (i := 3) scLead.nd rfl (Or.inl rfl) (pe_op op_add_str (pe_ix ix_tup (pv 0) pe_int (fun _ _ => rfl)) (pe_ix ix_tup (pv 1) pe_int (fun _ _ => rfl))))
      (pss_cons (ps_if (pt_val (pe_m1 PySem.F.slot_str_startswith PySem.F.type_str_startswith mt_startswith (pv 2) (pv 3)))
        (pss_one (ps_ret (pe_tup (pa_cons (pe_slice sl_str (pv 2) (po_some (pe_callB call_len_str (by rfl) T.len PySem.boot_len (pa_cons (pv 3) pa_nil))) po_none) (pa_cons pe_str pa_nil))))) pss_nil)
      (pss_cons (ps_if (pt_val (pe_m1 PySem.F.slot_str_startswith PySem.F.type_str_startswith mt_startswith (pv 3) (pv 2)))
        (pss_one (ps_ret (pe_tup (pa_cons pe_str (pa_cons (pe_slice sl_str (pv 3) (po_some (pe_callB call_len_str (by rfl) T.len PySem.boot_len (pa_cons (pv 2) pa_nil))) po_none) pa_nil))))) pss_nil)
      (pss_one (ps_ret pe_non))))), ?_⟩
    refine ⟨_, rfl, a, _, _, _, rfl, rfl, hA, at_of (j := 0) rfl rfl, _, rfl, b, _, _, _, rfl, rfl, hB, at_of (j := 0) rfl rfl, _, _, rfl, rfl, by rw [sw_len, sw_len]; exact fits (by omega), ?_⟩
    refine ⟨_, rfl, a, _, _, _, rfl, rfl, hA, at_of (j := 1) rfl rfl, _, rfl, b, _, _, _, rfl, rfl, hB, at_of (j := 1) rfl rfl, _, _, rfl, rfl, by rw [sw_len, sw_len]; exact fits (by omega), ?_⟩
    rw [sw_append, sw_append]
    have eq : nextP p x = if (p.2 ++ x.below).isPrefixOf (p.1 ++ x.above) = true then some ((p.1 ++ x.above).drop (p.2 ++ x.below).length, []) else if (p.1 ++ x.above).isPrefixOf (p.2 ++ x.below) = true then some ([], (p.2 ++ x.below).drop (p.1 ++ x.above).length) else none := rfl
    have m1 : (p.1 ++ x.above).length ≤ 200000 := by rw [List.length_append]; omega
    have m2 : (p.2 ++ x.below).length ≤ 200000 := by rw [List.length_append]; omega
    generalize p.1 ++ x.above = u at eq m1
    generalize p.2 ++ x.below = v at eq m2
    refine ⟨_, rfl, ⟨_, rfl⟩, _, rfl, _, _, rfl, rfl, _, rfl, ?_⟩
    rw [starts_sw]
    refine ite2 (fun q => ?_) (fun q => ?_)
    · rw [if_pos q] at eq
      refine ⟨_, rfl, _, rfl, _, rfl, by rw [sw_len]; exact fits (by omega), _, rfl, _, rfl, by rw [sw_len]; exact fits (by omega), ?_⟩
      refine ⟨by show 2 ≤ sizeLine; decide, fun t ht => ?_⟩
      have := k1 t _ eq ht
      rw [sw_len, cut_sw]
      exact this
    rw [if_neg q] at eq
    refine ⟨_, rfl, ⟨_, rfl⟩, _, rfl, _, _, rfl, rfl, _, rfl, ?_⟩
    rw [starts_sw]
    refine ite2 (fun q => ?_) (fun q => ?_)
    · rw [if_pos q] at eq
      refine ⟨_, rfl, _, rfl, _, rfl, by rw [sw_len]; exact fits (by omega), _, rfl, _, rfl, by rw [sw_len]; exact fits (by omega), ?_⟩
      refine ⟨by show 2 ≤ sizeLine; decide, fun t ht => ?_⟩
      have := k1 t _ eq ht
      rw [sw_len, cut_sw]
      exact this
    rw [if_neg q] at eq
    exact k2 eq
def spRef (K : PySem.W.Frag) : Sp := fun vs H Q _ => ∃ (m most : Int) (b : Addr) (d : List Int), vs = [.int m, .ref b, .int most] ∧ SqL K H b (d.map V.int) ∧ d.length = 18 * (d.length / 18) ∧ d.length / 18 ≤ 8 ∧
  Q (if d.length / 18 < 1 ∨ most < ((d.length / 18 : Nat) : Int) ∨ m < 1 ∨ 16 < m then .int (-2) else if DmS.LongW d then .int (-3) else .non) H
theorem scRef : FnScope ["m", "d", "most_dominoes", "n"] ["m", "d", "most_dominoes"] (defScope sRef) := ⟨rfl, rfl, rfl, by decide +kernel, rfl, by decide +kernel, by decide +kernel⟩
theorem ok_ref {f fL : Addr} {fd fdL : FuncData} (F : Fun K "search_refusal" "search_refusal" sRef f fd) (T : Txt K mg) (FL : Fun K "has_long_word" "has_long_word" sLong fL fdL) (bL : Binds K fdL ["d"] []) (mL : mg "has_long_word" = some (.ref fL)) :
    FnOk P w K mg base CX0 2 f fd ["m", "d", "most_dominoes"] (spRef K) := by
  have GL : FnOk P w K mg base CX0 1 fL fdL ["d"] (spLong K) := ok_long FL T
  refine F.ok scRef (fun vs H Q E h => ?_) (fun cdv A outer s H vs Q E hr h => ?_)
  · obtain ⟨m, most, b, d, rfl, _⟩ := h
    rfl
  · obtain ⟨m, most, b, d, rfl, hA, h1, h2, k⟩ := h
    refine ⟨_, pss_cons (ps_set (i := 3) scRef.nd rfl (Or.inl rfl) (pe_op op_fdiv (pe_callB call_len_seq (by rfl) T.len PySem.boot_len (pa_cons (pv 1) pa_nil)) (pc rfl T.db)))
      (pss_cons (ps_if (PW.pt (pw_or (pt_cmpR op_lt (pv 3) pe_int (nomark _)) (pw_or (pt_cmpR op_gt (pv 3) (pv 2) (nomark _)) (pw_or (pt_cmpR op_lt (pv 0) pe_int (nomark _)) (pw_or1 (pt_cmpR op_gt (pv 0) (pc rfl T.ls) (nomark _)))))))
        (pss_one (ps_ret (pc rfl T.oo))) pss_nil)
      (pss_cons (ps_if (pt_val (pe_call GL hr rfl mL FL.kp bL .nil pass0 (pa_cons (pv 1) pa_nil))) (pss_one (ps_ret (pc rfl T.na))) pss_nil)
      (pss_one (ps_ret pe_non)))), ?_⟩
    refine ⟨_, rfl, b, _, rfl, .inl hA, _, _, rfl, rfl, ⟨by decide, by decide⟩, ?_⟩
    have eN : (((d.map V.int).length : Nat) : Int) / 18 = ((d.length / 18 : Nat) : Int) := by rw [List.length_map]; omega
    dsimp only
    rw [eN]
    refine ⟨_, rfl, _, _, rfl, rfl, _, rfl, ite2 (fun z => iteT ?_) (fun z => ?_)⟩
    · have z' : ((d.length / 18 : Nat) : Int) < 1 := of_decide_eq_true z
      rw [if_pos (.inl (by omega))] at k
      exact k
    have z1 : ¬ ((d.length / 18 : Nat) : Int) < 1 := fun q => z (decide_eq_true q)
    refine ⟨_, rfl, _, rfl, _, _, rfl, rfl, _, rfl, ite2 (fun z => iteT ?_) (fun z => ?_)⟩
    · have z' : most < ((d.length / 18 : Nat) : Int) := of_decide_eq_true z
      rw [if_pos (.inr (.inl z'))] at k
      exact k
    have z2 : ¬ most < ((d.length / 18 : Nat) : Int) := fun q => z (decide_eq_true q)
    refine ⟨_, rfl, _, _, rfl, rfl, _, rfl, ite2 (fun z => iteT ?_) (fun z => ?_)⟩
    · have z' : m < 1 := of_decide_eq_true z
      rw [if_pos (.inr (.inr (.inl z')))] at k
      exact k
    have z3 : ¬ m < 1 := fun q => z (decide_eq_true q)
    refine ⟨_, rfl, _, _, rfl, rfl, _, rfl, ite2 (fun z => ?_) (fun z => ?_)⟩
    · have z' : 16 < m := of_decide_eq_true z
      rw [if_pos (.inr (.inr (.inr z')))] at k
      exact k
    have z4 : ¬ 16 < m := fun q => z (decide_eq_true q)
    rw [if_neg (by omega)] at k
    refine ⟨_, rfl, b, d, rfl, hA, h1, h2, _, rfl, ite2 (fun z => ?_) (fun z => ?_)⟩
    · rw [if_pos (of_decide_eq_true z)] at k
      exact k
    · rw [if_neg fun q => z (decide_eq_true q)] at k
      exact k
end
end Dc

set_option Elab.async false
set_option linter.all false
set_option maxRecDepth 100000
set_option maxHeartbeats 4000000
namespace Dc
open PySem L2 Sv77 DmP
section
variable {P : Program} {w : World} {K : PySem.W.Frag} {mg : Str → Option Value} {base : Heap}
def spFewest (K : PySem.W.Frag) : Sp := fun vs H Q _ => ∃ (a : Addr) (m : Nat) (D : Set_), vs = [.ref a, .int m] ∧ PairsAt K H a D ∧ D.length ≤ 8 ∧ DmS.Ok D ∧ m ≤ 16 ∧
  ∀ (p : Addr) (H' : Hp) (F : List (Int × Int)), Same H H' → H p = none → H' p = some (.dK (fk F)) → FewOk (D.map gain) m (getF F) → Q (.ref p) H'
theorem scFewest : FnScope ["pairs", "m", "gains", "fewest", "last", "number", "reached", "total", "gain", "pair"] ["pairs", "m"] (defScope sFewest) := ⟨rfl, rfl, rfl, by decide +kernel, rfl, by decide +kernel, by decide +kernel⟩
theorem blkFewest : BlkOk ["pairs", "m", "gains", "fewest", "last", "number", "reached", "total", "gain", "pair"] (defScope sFewest) { kind := .function, names := [(".0", .local), ("pair", .local), ("len", .globalImplicit)], isGenerator := false, isCoroutine := false, more := [] } [("pair", 9)] := blkOk_by (by decide +kernel)
theorem gain_le {D : Set_} (h : DmS.Ok D) {y : Int} (hy : y ∈ D.map gain) : -24 ≤ y ∧ y ≤ 24 := by
  obtain ⟨x, hx, rfl⟩ := List.mem_map.mp hy
  have := h.short x hx
  unfold gain
  omega
theorem sum_le {gs : List Int} (hg : ∀ y ∈ gs, -24 ≤ y ∧ y ≤ 24) : ∀ l : List Int, (∀ x ∈ l, x ∈ gs) → -(24 * (l.length : Int)) ≤ l.sum ∧ l.sum ≤ 24 * (l.length : Int)
  | [], _ => by simp
  | x :: l, h => by
    have ih := sum_le hg l fun y hy => h y (List.mem_cons_of_mem _ hy)
    have := hg x (h x List.mem_cons_self)
    rw [List.sum_cons, List.length_cons]
    omega
theorem fm_room {gs : List Int} (hg : ∀ y ∈ gs, -24 ≤ y ∧ y ≤ 24) {i : Nat} (hi : i < 16) {F0 F : List (Int × Int)} {L R : List Int} {P : Int → Int → Prop} (A : Fb gs i F0 L) (M : Fm gs i F0 P F R) : F.length ≤ 1000 := by
  have := DmO.nodup_ints (lo := -400) (n := 801) M.nd fun t ht => by
    rw [M.eq, List.map_append, List.mem_append] at ht
    rcases ht with ht | ht
    · obtain ⟨q, hq, rfl⟩ := List.mem_map.mp ht
      obtain ⟨l, l1, l2, l3⟩ := A.real q hq
      have := (A.le q hq).2
      have := sum_le hg l l2
      omega
    · rw [List.map_map] at ht
      obtain ⟨t', ht', rfl⟩ := List.mem_map.mp ht
      obtain ⟨l, l1, l2, l3⟩ := M.real t' ht'
      have := sum_le hg l l2
      show -400 ≤ t' ∧ t' < -400 + ((801 : Nat) : Int)
      omega
  rw [List.length_map] at this
  omega
theorem gains_take (D : Set_) {f : Domino → Int} {i : Nat} {x : Domino} (h : D[i]? = some x) : ((D.take (i + 1)).map f) = (D.take i).map f ++ [f x] := by
  rw [List.take_succ_eq_append_getElem (List.getElem?_eq_some_iff.mp h).1, (List.getElem?_eq_some_iff.mp h).2, List.map_append]
  rfl
theorem ok_fewest {f : Addr} {fd : FuncData} (F : Fun K "fewest_by_gain" "fewest_by_gain" sFewest f fd) (T : Txt K mg) : FnOk P w K mg base CX0 1 f fd ["pairs", "m"] (spFewest K) := by
  refine F.ok scFewest (fun vs H Q E h => ?_) (fun cdv A outer s H vs Q E hr h => ?_)
  · obtain ⟨a, m, D, rfl, _⟩ := h
    rfl
  · obtain ⟨a, m, D, rfl, ⟨ps, hA, hD⟩, hn, hO, hm, k⟩ := h
    have hu := hu_of hr
    refine ⟨_, pss_cons (ps_setLc (i := 2) rfl scFewest.nd rfl rfl (sw_true rfl rfl rfl rfl) (pi_list (pv 0)) blkFewest (fun _ _ _ _ _ => pg_name (i := 9) scFewest.nd rfl (Or.inl rfl)) (fun _ _ _ _ _ => pts_nil)
        (fun _ _ _ _ _ => pe_op op_sub (pe_callB call_len_str (by rfl) T.len PySem.boot_len (pa_cons (pe_ix (ix_tupK (K := K)) (pv 9) pe_int (fun _ _ => rfl)) pa_nil)) (pe_callB call_len_str (by rfl) T.len PySem.boot_len (pa_cons (pe_ix (ix_tupK (K := K)) (pv 9) pe_int (fun _ _ => rfl)) pa_nil))))
      (pss_cons (ps_set (i := 3) scFewest.nd rfl (Or.inl rfl) (pe_disp (pps_cons pe_int pe_int pps_nil) rfl rfl (by simp) (by decide)))
      (pss_cons (ps_set (i := 4) scFewest.nd rfl (Or.inl rfl) (pe_lst (pa_cons pe_int pa_nil)))
      (pss_cons (ps_for PassesOwn.never rfl (pi_range2 rfl T.rng (pa_cons pe_int (pa_cons (pe_op op_add (pv 1) pe_int) pa_nil))) (pg_name (i := 5) scFewest.nd rfl (Or.inl rfl))
        (pss_cons (ps_set (i := 6) scFewest.nd rfl (Or.inl rfl) (pe_lst pa_nil))
        (pss_cons (ps_for PassesOwn.never rfl (pi_list (pv 4)) (pg_name (i := 7) scFewest.nd rfl (Or.inl rfl))
          (pss_one (ps_for PassesOwn.never rfl (pi_list (pv 2)) (pg_name (i := 8) scFewest.nd rfl (Or.inl rfl))
            (pss_one (ps_if (pt_cmp (pc_dnotin hu (pe_op op_add (pv 7) (pv 8)) (pv 3)))
              (pss_cons (ps_dput hu (pv 3) (pe_op op_add (pv 7) (pv 8)) (pv 5) rfl)
              (pss_one (ps_expr (pe_bm PySem.F.plainAttrs_list PySem.F.slot_list_append PySem.F.type_list_append mt_append (pv 6) (pa_cons (pe_op op_add (pv 7) (pv 8)) pa_nil))))) pss_nil)))))
        (pss_one (ps_set (i := 4) scFewest.nd rfl (Or.inl rfl) (pv 6))))))
      (pss_one (ps_ret (pv 3)))))), ?_⟩
    -- gains
    have hlen : ps.length = D.length := Paired.length hD
    refine ⟨_, rfl, a, rfl, ⟨_, hA⟩, fun pG hG => lc_list (K := K) (a := a) (xs := ps.map V.ref) (fun i H' => Same H H' ∧ H' pG = some (.lst (((D.take i).map gain).map V.int)))
      ⟨Same.laid hG, upd_same⟩ (fun i H' _ ⟨s1, _⟩ => s1.seq hA) ?_ ?_⟩
    · rintro i x H' hx ⟨s1, hP⟩
      obtain ⟨p, hp, rfl⟩ := of_map' hx
      obtain ⟨y, hy, hs⟩ := paired_get hD hp
      have hs1 := s1.tup hs
      have hsh := hO.short y (List.mem_of_getElem? hy)
      refine ⟨rfl, ?_⟩
      unfold tYes
      refine iteT ?_
      refine ⟨_, rfl, p, _, _, _, rfl, rfl, hs1, at_of (j := 0) rfl rfl, _, rfl, by rw [sw_len]; exact fits (by omega), _, rfl, p, _, _, _, rfl, rfl, hs1, at_of (j := 1) rfl rfl, _, rfl, by rw [sw_len]; exact fits (by omega), _, _, rfl, rfl, ?_⟩
      refine ⟨_, hP, ?_, fun c o e => ?_, ?_⟩
      · rw [List.length_map, List.length_map, List.length_take]
        exact fits' (by omega)
      · rw [upd_ne (ne_of_none e hG)]
        exact s1 c o e
      · rw [upd_same, gains_take D hy, List.map_append, sw_len, sw_len]
        rfl
    rintro H1 ⟨s1, hP1⟩
    have e1 : D.take (ps.map V.ref).length = D := List.take_of_length_le (by rw [List.length_map]; omega)
    rw [e1] at hP1
    generalize hgs : D.map gain = gs at hP1
    have hg : ∀ y ∈ gs, -24 ≤ y ∧ y ≤ 24 := fun y hy => gain_le hO (by rw [hgs]; exact hy)
    have hgl : gs.length ≤ 8 := by rw [← hgs, List.length_map]; exact hn
    -- fewest = {0: 0}
    intro pF hF
    refine ⟨upd_same, [(Sum.inl 0, V.int 0)], rfl, by decide, ?_⟩
    rw [upd_upd]
    have e2 : mergeK [] [((Sum.inl 0 : Key), V.int 0)] = fk [(0, 0)] := rfl
    rw [e2]
    have s2 : Same H1 (upd H1 pF (.dK (fk [(0, 0)]))) := Same.laid hF
    have nGF : pG ≠ pF := ne_of_none hP1 hF
    -- last = [0]
    refine ⟨by show 1 ≤ sizeLine; decide, fun pL hL => ?_⟩
    have s3 := s2.trans (Same.laid (o := .lst [.int 0]) hL)
    have nFL : pF ≠ pL := ne_of_none (upd_same (H := H1) (a := pF)) hL
    -- the rounds
    have em : ((m : Int) + 1 - 1).toNat = m := by omega
    refine ⟨_, rfl, _, _, rfl, rfl, 1, (m : Int) + 1, rfl, ⟨by decide, by decide, by omega, by omega⟩, ?_⟩
    rw [em]
    refine for_range (lo := 1) (n := m) (fun i σ H' => ∃ (F : List (Int × Int)) (L : List Int) (pL : Addr) (v5 v6 v7 v8 v9 : Option V), σ = [some (.ref a), some (.int m), some (.ref pG), some (.ref pF), some (.ref pL), v5, v6, v7, v8, v9] ∧ Fb gs i F L ∧ Same H1 H' ∧
        H' pF = some (.dK (fk F)) ∧ H' pL = some (.lst (L.map V.int)))
      ⟨[(0, 0)], [0], pL, none, none, none, none, none, rfl, fb_start gs, s3, by rw [upd_ne nFL, upd_same], upd_same⟩ ?_ ?_
    · rintro i σ H2 hi ⟨F, L, pL, v5, v6, v7, v8, v9, rfl, A0, s4, hF2, hL2⟩
      refine ⟨by show 0 ≤ sizeLine; decide, fun pR hR => ?_⟩
      have nFR : pF ≠ pR := ne_of_none hF2 hR
      have nLF : pL ≠ pF := ne_of hL2 hF2 (by intro z; cases z)
      have ei : (1 : Int) + (i : Int) = ((i + 1 : Nat) : Int) := by omega
      rw [ei]
      have s5 : Same H2 (upd H2 pR (.lst [])) := Same.laid hR
      refine ⟨_, rfl, pL, rfl, ⟨_, SqL.of (s5 _ _ hL2)⟩, for_list (K := K) (a := pL) (xs := L.map V.int)
        (fun j σ H' => ∃ (F' : List (Int × Int)) (R : List Int) (v7 v8 : Option V), σ = [some (.ref a), some (.int m), some (.ref pG), some (.ref pF), some (.ref pL), some (.int ((i + 1 : Nat) : Int)), some (.ref pR), v7, v8, v9] ∧
          Fm gs i F (fun x y => x ∈ L.take j ∧ y ∈ gs) F' R ∧ (∀ c o, c ≠ pF → H2 c = some o → H' c = some o) ∧ H' pF = some (.dK (fk F')) ∧ H' pR = some (.lst (R.map V.int)))
        ⟨F, [], _, _, rfl, (fm_start A0).imp fun x y q => by simp at q, fun c o _ e => s5 c o e, s5 _ _ hF2, upd_same⟩
        (fun j σ H' _ ⟨F', R, v7, v8, _, _, h1, _⟩ => SqL.of (h1 pL _ nLF hL2)) ?_ ?_⟩
      · rintro j x σ H3 hx ⟨F', R, w7, w8, rfl, M, k3, hF3, hR3⟩
        obtain ⟨u, hu', rfl⟩ := of_map' hx
        have hum : u ∈ L := List.mem_of_getElem? hu'
        have hG3 := k3 pG _ nGF (s4 _ _ hP1)
        refine ⟨_, rfl, pG, rfl, ⟨_, SqL.of hG3⟩, for_list (K := K) (a := pG) (xs := gs.map V.int)
          (fun l σ H' => ∃ (F' : List (Int × Int)) (R : List Int) (v8 : Option V), σ = [some (.ref a), some (.int m), some (.ref pG), some (.ref pF), some (.ref pL), some (.int ((i + 1 : Nat) : Int)), some (.ref pR), some (.int u), v8, v9] ∧
            Fm gs i F (fun x y => (x ∈ L.take j ∧ y ∈ gs) ∨ (x = u ∧ y ∈ gs.take l)) F' R ∧ (∀ c o, c ≠ pF → H2 c = some o → H' c = some o) ∧ H' pF = some (.dK (fk F')) ∧ H' pR = some (.lst (R.map V.int)))
          ⟨F', R, _, rfl, M.imp fun x y q => by
            rcases q with q | ⟨_, q⟩
            · exact q
            · simp at q, k3, hF3, hR3⟩
          (fun l σ H' _ ⟨F', R, v8, _, _, h1, _⟩ => SqL.of (h1 pG _ nGF (s4 _ _ hP1))) ?_ ?_⟩
        · rintro l x σ H4 hx ⟨F', R, y8, rfl, M, k4, hF4, hR4⟩
          obtain ⟨y, hy', rfl⟩ := of_map' hx
          have hyg : y ∈ gs := List.mem_of_getElem? hy'
          have hrm := fm_room hg (by omega) A0 M
          have take1 : ∀ v, v ∈ gs.take (l + 1) → v ∈ gs.take l ∨ v = y := fun v hv => by
            rw [List.take_succ_eq_append_getElem (List.getElem?_eq_some_iff.mp hy').1, (List.getElem?_eq_some_iff.mp hy').2, List.mem_append, List.mem_singleton] at hv
            exact hv
          refine ⟨_, rfl, _, rfl, _, _, rfl, rfl, _, rfl, pF, _, rfl, DGet.k (k := Sum.inl (u + y)) hF4, _, rfl, ?_⟩
          rw [fk_val]
          cases r : getF F' (u + y) with
          | some v =>
            refine iteF ⟨F', R, _, rfl, (M.old (List.mem_map.mpr ⟨_, getF_some r, rfl⟩)).imp fun a b h => ?_, k4, hF4, hR4⟩
            rcases h with h | ⟨h1, h2⟩
            · exact .inl (.inl h)
            · rcases take1 b h2 with h3 | h3
              · exact .inl (.inr ⟨h1, h3⟩)
              · exact .inr ⟨h1, h3⟩
          | none =>
            refine iteT ?_
            refine ⟨_, rfl, _, rfl, _, rfl, _, rfl, _, _, rfl, rfl, pF, _, rfl, DPut.k (k := Sum.inl (u + y)) hF4 (by rw [fk_len]; exact fits' (by omega)), ?_⟩
            rw [fk_new r]
            have nRF : pR ≠ pF := Ne.symm nFR
            have hR5 : upd H4 pF (.dK (fk (F' ++ [(u + y, ((i + 1 : Nat) : Int))]))) pR = some (.lst (R.map V.int)) := by rw [upd_ne nRF]; exact hR4
            have hRl : R.length ≤ F'.length := by rw [M.eq, List.length_append, List.length_map]; omega
            refine ⟨_, rfl, .inl ⟨rfl, _, SqL.of hR5⟩, _, rfl, _, rfl, _, _, rfl, rfl, pR, _, _, rfl, rfl, hR5, by rw [List.length_map]; exact fits' (by omega), ?_⟩
            refine ⟨F' ++ [(u + y, ((i + 1 : Nat) : Int))], R ++ [u + y], _, rfl, (M.fresh A0 hum hyg (getF_none r)).imp fun a b h => ?_, fun c o hc e => ?_, ?_, ?_⟩
            · rcases h with h | ⟨h1, h2⟩
              · exact .inl (.inl h)
              · rcases take1 b h2 with h3 | h3
                · exact .inl (.inr ⟨h1, h3⟩)
                · exact .inr ⟨h1, h3⟩
            · rw [upd_ne (ne_of_none e hR), upd_ne hc]
              exact k4 c o hc e
            · rw [upd_ne nFR, upd_same]
            · rw [upd_same, List.map_append]
              rfl
        · rintro σ H4 ⟨F', R, y8, rfl, M, k4, hF4, hR4⟩
          rw [List.length_map, List.take_length] at M
          refine ⟨F', R, _, _, rfl, M.imp fun x y h => ?_, k4, hF4, hR4⟩
          obtain ⟨h1, h2⟩ := h
          rw [List.take_succ_eq_append_getElem (List.getElem?_eq_some_iff.mp hu').1, (List.getElem?_eq_some_iff.mp hu').2, List.mem_append, List.mem_singleton] at h1
          rcases h1 with h1 | h1
          · exact .inl ⟨h1, h2⟩
          · exact .inr ⟨h1, h2⟩
      · rintro σ H3 ⟨F', R, w7, w8, rfl, M, k3, hF3, hR3⟩
        rw [List.length_map, List.take_length] at M
        refine ⟨_, rfl, F', R, pR, _, _, _, _, _, rfl, fm_end A0 M, fun c o e => k3 c o (ne_of_none e hF) (s4 c o e), hF3, hR3⟩
    · rintro σ H2 ⟨F, L, pL, v5, v6, v7, v8, v9, rfl, A0, s4, hF2, hL2⟩
      refine ⟨_, rfl, k pF H2 F (s1.trans s4) (s1.free hF) hF2 fun l hl hlm => ?_⟩
      obtain ⟨v, v1, v2⟩ := A0.all l (by rw [← hgs]; exact hl) hlm
      exact ⟨v, getF_mem A0.nd v1, v2⟩
end
end Dc

set_option Elab.async false
set_option linter.all false
set_option maxRecDepth 100000
set_option maxHeartbeats 4000000
namespace Dc
open PySem L2 Sv77 DmP
def sk (S : List (Word × Int)) : List (Key × V) := S.map fun q => (Sum.inr (sw q.1), V.int q.2)
def getS (S : List (Word × Int)) (t : Word) : Option Int := (S.find? fun q => decide (q.1 = t)).map (·.2)
def putS (S : List (Word × Int)) (t : Word) (v : Int) : List (Word × Int) := if (getS S t).isSome = true then S.map (fun q => if q.1 = t then (q.1, v) else q) else S ++ [(t, v)]
theorem sk_key (a b : Word) : (Sum.inr (sw a) : Key) = Sum.inr (sw b) ↔ a = b := ⟨fun h => sw_inj (Sum.inr.inj h), fun h => by rw [h]⟩
theorem sk_val : ∀ (S : List (Word × Int)) (t : Word), valV (sk S) (Sum.inr (sw t)) = (getS S t).map V.int
  | [], t => rfl
  | q :: S, t => by
    have e : sk (q :: S) = (Sum.inr (sw q.1), V.int q.2) :: sk S := rfl
    rw [e]
    unfold getS
    rw [List.find?_cons]
    by_cases h : q.1 = t
    · rw [valV_pos (show (Sum.inr (sw q.1) : Key) = Sum.inr (sw t) from (sk_key _ _).mpr h), decide_eq_true h]
      rfl
    · rw [valV_neg (show ¬ (Sum.inr (sw q.1) : Key) = Sum.inr (sw t) from fun z => h ((sk_key _ _).mp z)), decide_eq_false h, sk_val S t]
      rfl
theorem sk_put (S : List (Word × Int)) (t : Word) (v : Int) : putK (sk S) (Sum.inr (sw t)) (V.int v) = sk (putS S t v) := by
  unfold putK putS
  rw [valV_any, sk_val, Option.isSome_map]
  by_cases h : (getS S t).isSome = true
  · rw [if_pos h, if_pos h]
    unfold sk
    rw [List.map_map, List.map_map]
    refine List.map_congr_left fun q _ => ?_
    simp only [Function.comp]
    by_cases e : q.1 = t
    · rw [if_pos ((sk_key _ _).mpr e), if_pos e]
    · rw [if_neg fun z => e ((sk_key _ _).mp z), if_neg e]
  · rw [if_neg h, if_neg h]
    unfold sk
    rw [List.map_append]
    rfl
theorem put_len (S : List (Word × Int)) (t : Word) (v : Int) : (putS S t v).length ≤ S.length + 1 := by
  unfold putS
  split
  · rw [List.length_map]; omega
  · rw [List.length_append, List.length_singleton]; exact Nat.le_refl _
theorem getS_some {S : List (Word × Int)} {t : Word} {v : Int} (h : getS S t = some v) : (t, v) ∈ S := by
  unfold getS at h
  rw [Option.map_eq_some_iff] at h
  obtain ⟨q, hq, rfl⟩ := h
  have h1 := List.mem_of_find?_eq_some hq
  have h2 := List.find?_some hq
  rw [decide_eq_true_iff] at h2
  rw [← h2]
  exact h1
theorem getS_map (t u : Word) (v : Int) : ∀ S : List (Word × Int), getS (S.map fun q => if q.1 = t then (q.1, v) else q) u = (getS S u).map fun o => if u = t then v else o
  | [] => rfl
  | q :: S => by
    have ih := getS_map t u v S
    unfold getS at ih ⊢
    rw [List.map_cons, List.find?_cons, List.find?_cons]
    by_cases e : q.1 = u
    · by_cases f : q.1 = t
      · rw [if_pos f]
        show Option.map _ (match decide (q.1 = u) with | true => some (q.1, v) | false => _) = _
        rw [decide_eq_true e]
        show some v = some (if u = t then v else q.2)
        rw [if_pos (e.symm.trans f)]
      · rw [if_neg f, decide_eq_true e]
        show some q.2 = some (if u = t then v else q.2)
        rw [if_neg fun z => f (e.trans z)]
    · have e' : ¬ (if q.1 = t then (q.1, v) else q).1 = u := by split <;> exact e
      rw [decide_eq_false e, decide_eq_false e']
      exact ih
theorem getS_put (S : List (Word × Int)) (t u : Word) (v : Int) : getS (putS S t v) u = if u = t then some v else getS S u := by
  unfold putS
  cases g : getS S t with
  | none =>
    show getS (S ++ [(t, v)]) u = _
    unfold getS at g ⊢
    rw [List.find?_append]
    by_cases e : u = t
    · subst e
      rw [Option.map_eq_none_iff] at g
      rw [g, if_pos rfl]
      simp
    · rw [if_neg e]
      have : List.find? (fun q : Word × Int => decide (q.1 = u)) [(t, v)] = none := by
        rw [List.find?_cons, decide_eq_false (fun z => e z.symm)]
        rfl
      rw [this, Option.or_none]
  | some o =>
    show getS (S.map fun q => if q.1 = t then (q.1, v) else q) u = _
    rw [getS_map]
    by_cases e : u = t
    · subst e
      rw [g, if_pos rfl, Option.map_some, if_pos rfl]
    · rw [if_neg e]
      cases getS S u with
      | none => rfl
      | some o' => rw [Option.map_some, if_neg e]
/-- what the dict of shortfalls knows of the dominoes gone through -/
structure Sf (D : Set_) (side : Nat) (most : Int) (S : List (Word × Int)) : Prop where
  has : ∀ x ∈ D, sideW side x ≠ [] → ∃ sf, getS S (sideW side x) = some sf ∧ sf ≤ most - gainS side x
  key : ∀ q ∈ S, q.1 ≠ [] ∧ q.1.length % 3 = 0 ∧ q.1.length ≤ 24
theorem Sf.skip {D : Set_} {side : Nat} {most : Int} {S : List (Word × Int)} {x : Domino} (h : Sf D side most S) (e : sideW side x = []) : Sf (D ++ [x]) side most S :=
  ⟨fun y hy ne => by
    rcases List.mem_append.mp hy with hy | hy
    · exact h.has y hy ne
    · rw [List.mem_singleton.mp hy] at ne
      exact absurd e ne, h.key⟩
theorem Sf.put {D : Set_} {side : Nat} {most : Int} {S : List (Word × Int)} {x : Domino} {v : Int} (h : Sf D side most S) (e : sideW side x ≠ []) (h3 : (sideW side x).length % 3 = 0 ∧ (sideW side x).length ≤ 24) (hv : v ≤ most - gainS side x) (hold : ∀ o, getS S (sideW side x) = some o → v ≤ o) :
    Sf (D ++ [x]) side most (putS S (sideW side x) v) where
  has := fun y hy ne => by
    rw [getS_put]
    rcases List.mem_append.mp hy with hy | hy
    · obtain ⟨sf, h1, h2⟩ := h.has y hy ne
      by_cases q : sideW side y = sideW side x
      · rw [if_pos q]
        rw [q] at h1
        have := hold sf h1
        exact ⟨v, rfl, by omega⟩
      · rw [if_neg q]
        exact ⟨sf, h1, h2⟩
    · rw [List.mem_singleton.mp hy, if_pos rfl]
      exact ⟨v, rfl, hv⟩
  key := fun q hq => by
    unfold putS at hq
    split at hq
    · obtain ⟨q', hq', rfl⟩ := List.mem_map.mp hq
      split
      · exact h.key q' hq'
      · exact h.key q' hq'
    · rcases List.mem_append.mp hq with hq | hq
      · exact h.key q hq
      · rw [List.mem_singleton.mp hq]
        exact ⟨e, h3⟩
/-- a list of pairs of an int and a text -/
def WordsAt (K : PySem.W.Frag) (H : Hp) (a : Addr) (ws : List (Int × Word)) : Prop := ∃ ps : List Addr, SqL K H a (ps.map V.ref) ∧ Paired (fun p (q : Int × Word) => SqT K H p [.int q.1, .str (sw q.2)]) ps ws
theorem WordsAt.same {K : PySem.W.Frag} {H H' : Hp} {a : Addr} {ws : List (Int × Word)} (h : WordsAt K H a ws) (e : Same H H') : WordsAt K H' a ws := let ⟨ps, h1, h2⟩ := h; ⟨ps, e.seq h1, Paired.mapP h2 fun _ _ z => e.tup z⟩
/-- what stands in a pair -/
def pairOf (H : Hp) (p : Addr) : Int × Str := match H p with
  | some (.tup [.int a, .str b]) => (a, b)
  | _ => (0, "")
theorem pairOf_eq {H : Hp} {p : Addr} {a : Int} {b : Str} (h : H p = some (.tup [.int a, .str b])) : pairOf H p = (a, b) := by
  unfold pairOf
  rw [h]
section
variable {P : Program} {w : World} {K : PySem.W.Frag} {mg : Str → Option Value} {base : Heap}
def spCatch (K : PySem.W.Frag) : Sp := fun vs H Q _ => ∃ (a : Addr) (side : Nat) (D : Set_), vs = [.ref a, .int side] ∧ (side = 0 ∨ side = 1) ∧ PairsAt K H a D ∧ D ≠ [] ∧ D.length ≤ 8 ∧ DmS.Ok D ∧
  ∀ (p l : Addr) (H' : Hp) (most : Int) (ws : List (Int × Word)), Same H H' → H p = none → H' p = some (.tup [.int most, .ref l]) → WordsAt K H' l ws → CatchOk D side most ws → ws.length ≤ 8 → (∀ q ∈ ws, q.2.length ≤ 24) → Q (.ref p) H'
theorem scCatch : FnScope ["pairs", "side", "gains", "most", "shortfalls", "pair", "gain", "text", "shortfall"] ["pairs", "side"] (defScope sCatch) := ⟨rfl, rfl, rfl, by decide +kernel, rfl, by decide +kernel, by decide +kernel⟩
theorem blkCatch1 : BlkOk ["pairs", "side", "gains", "most", "shortfalls", "pair", "gain", "text", "shortfall"] (defScope sCatch) { kind := .function, names := [(".0", .local), ("pair", .local), ("len", .globalImplicit), ("side", .free)], isGenerator := false, isCoroutine := false, more := [] } [("pair", 5)] := blkOk_by (by decide +kernel)
theorem blkCatch2 : BlkOk ["pairs", "side", "gains", "most", "shortfalls", "pair", "gain", "text", "shortfall"] (defScope sCatch) { kind := .function, names := [(".0", .local), ("text", .local), ("shortfall", .local)], isGenerator := false, isCoroutine := false, more := [] } [("text", 7), ("shortfall", 8)] := blkOk_by (by decide +kernel)
theorem side_at {x : Domino} {side : Nat} (h : side = 0 ∨ side = 1) : atI [V.str (sw x.above), V.str (sw x.below)] (side : Int) = some (V.str (sw (sideW side x))) ∧ atI [V.str (sw x.above), V.str (sw x.below)] (1 - (side : Int)) = some (V.str (sw (sideW (1 - side) x))) := by
  rcases h with rfl | rfl
  · exact ⟨at_of (j := 0) rfl rfl, at_of (j := 1) rfl rfl⟩
  · exact ⟨at_of (j := 1) rfl rfl, at_of (j := 0) rfl rfl⟩
theorem side_ok {D : Set_} (h : DmS.Ok D) {x : Domino} (hx : x ∈ D) (side : Nat) : (sideW side x).length % 3 = 0 ∧ (sideW side x).length ≤ 24 := by
  have h1 := h.three x hx
  have h2 := h.short x hx
  unfold sideW
  split
  · exact ⟨h1.1, h2.1⟩
  · exact ⟨h1.2, h2.2⟩
theorem ok_catch {f : Addr} {fd : FuncData} (F : Fun K "catchers" "catchers" sCatch f fd) (T : Txt K mg) : FnOk P w K mg base CX0 1 f fd ["pairs", "side"] (spCatch K) := by
  refine F.ok scCatch (fun vs H Q E h => ?_) (fun cdv A outer s H vs Q E hr h => ?_)
  · obtain ⟨a, side, D, rfl, _⟩ := h
    rfl
  · obtain ⟨a, side, D, rfl, hside, ⟨ps, hA, hD⟩, hne, hn, hO, k⟩ := h
    have hu := hu_of hr
    refine ⟨_, pss_cons (ps_setLc (i := 2) rfl scCatch.nd rfl rfl (sw_true rfl rfl rfl rfl) (pi_list (pv 0)) blkCatch1 (fun _ _ _ _ _ => pg_name (i := 5) scCatch.nd rfl (Or.inl rfl)) (fun _ _ _ _ _ => pts_nil)
        (fun _ _ _ _ _ => pe_op op_sub (pe_callB call_len_str (by rfl) T.len PySem.boot_len (pa_cons (pe_ix (ix_tupK (K := K)) (pv 5) (pv 1) (fun _ _ => rfl)) pa_nil)) (pe_callB call_len_str (by rfl) T.len PySem.boot_len (pa_cons (pe_ix (ix_tupK (K := K)) (pv 5) (pe_op op_sub pe_int (pv 1)) (fun _ _ => rfl)) pa_nil))))
      (pss_cons (ps_set (i := 3) scCatch.nd rfl (Or.inl rfl) (pe_callB (cr_max rfl) (by rfl) T.mx PyProof.Rows.boot_max (pa_cons (pv 2) pa_nil)))
      (pss_cons (ps_set (i := 4) scCatch.nd rfl (Or.inl rfl) pe_dnewK)
      (pss_cons (ps_for PassesOwn.never rfl (pi_zip rfl T.zip (pa_cons (pv 0) (pa_cons (pv 2) pa_nil))) (pg_tup rfl (pgs_cons (pg_name (i := 5) scCatch.nd rfl (Or.inl rfl)) (pgs_cons (pg_name (i := 6) scCatch.nd rfl (Or.inl rfl)) pgs_nil)))
        (pss_cons (ps_set (i := 7) scCatch.nd rfl (Or.inl rfl) (pe_ix ix_tup (pv 5) (pv 1) (fun _ _ => rfl)))
        (pss_one (ps_if (pt_cmpR op_ne (pv 7) pe_str (nomark _))
          (pss_one (ps_dput hu (pv 4) (pv 7) (pe_callB (call_min2 rfl) (by rfl) T.mn PyProof.Rows.boot_min (pa_cons (pe_op op_sub (pv 3) (pv 6)) (pa_cons (pe_dget2 hu (pv 4) (pv 7) (pe_op op_sub (pv 3) (pv 6)) ⟨rfl, rfl, rfl, rfl⟩) pa_nil))) rfl)) pss_nil))))
      (pss_one (ps_ret (pe_tup (pa_cons (pv 3) (pa_cons (pe_callB cr_sortedP (by rfl) T.srt PyProof.Rows.boot_sorted (pa_cons (pe_lock (pe_lc rfl scCatch.nd (pi_items (pv 4)) blkCatch2
          (fun _ _ _ _ _ => pg_tupK (K := K) (n := 2) rfl (pgs_cons (pg_name (i := 7) scCatch.nd rfl (Or.inl rfl)) (pgs_cons (pg_name (i := 8) scCatch.nd rfl (Or.inl rfl)) pgs_nil))) (fun _ _ _ _ _ => pts_nil)
          (fun _ _ _ _ _ => pe_tup (pa_cons (pv 8) (pa_cons (pv 7) pa_nil))))) pa_nil)) pa_nil)))))))), ?_⟩
    have hlen : ps.length = D.length := Paired.length hD
    -- gains
    refine ⟨_, rfl, a, rfl, ⟨_, hA⟩, fun pG hG => lc_list (K := K) (a := a) (xs := ps.map V.ref) (fun i H' => Same H H' ∧ H' pG = some (.lst (((D.take i).map (gainS side)).map V.int)))
      ⟨Same.laid hG, upd_same⟩ (fun i H' _ ⟨s1, _⟩ => s1.seq hA) ?_ ?_⟩
    · rintro i x H' hx ⟨s1, hP⟩
      obtain ⟨p, hp, rfl⟩ := of_map' hx
      obtain ⟨y, hy, hs⟩ := paired_get hD hp
      have hs1 := s1.tup hs
      obtain ⟨t1, t2⟩ := side_at (x := y) hside
      have o1 := side_ok hO (List.mem_of_getElem? hy) side
      have o2 := side_ok hO (List.mem_of_getElem? hy) (1 - side)
      refine ⟨rfl, ?_⟩
      unfold tYes
      refine iteT ?_
      refine ⟨_, rfl, _, rfl, p, _, _, _, rfl, rfl, hs1, t1, _, rfl, by rw [sw_len]; exact fits (by omega), _, rfl, _, rfl, _, _, rfl, rfl, p, _, _, _, rfl, rfl, hs1, t2, _, rfl, by rw [sw_len]; exact fits (by omega), _, _, rfl, rfl, ?_⟩
      refine ⟨_, hP, ?_, fun c o e => ?_, ?_⟩
      · rw [List.length_map, List.length_map, List.length_take]
        exact fits' (by omega)
      · rw [upd_ne (ne_of_none e hG)]
        exact s1 c o e
      · rw [upd_same, gains_take D hy, List.map_append, sw_len, sw_len]
        rfl
    rintro H1 ⟨s1, hP1⟩
    have e1 : D.take (ps.map V.ref).length = D := List.take_of_length_le (by rw [List.length_map]; omega)
    rw [e1] at hP1
    -- most
    refine ⟨_, rfl, pG, _, rfl, SqL.of hP1, by rw [List.length_map]; exact List.length_pos_iff.mpr hne, fun most hmm hmg => ?_⟩
    have hmost : ∀ x ∈ D, gainS side x ≤ most := fun x hx => hmg _ (List.mem_map.mpr ⟨x, hx, rfl⟩)
    -- shortfalls
    intro pS hS
    have s2 : Same H1 (upd H1 pS (.dK [])) := Same.laid hS
    have hA1 := s1.seq hA
    have hGl : (((D.map (gainS side)).map V.int)).length = (ps.map V.ref).length := by rw [List.length_map, List.length_map, List.length_map, hlen]
    refine ⟨_, rfl, _, rfl, a, pG, _, _, rfl, s2.seq hA1, SqL.of (s2 _ _ hP1), for_zip (K := K) (a := a) (b := pG) (xs := ps.map V.ref) (ys := (D.map (gainS side)).map V.int) hGl
      (fun i σ H' => ∃ (S : List (Word × Int)) (v5 v6 v7 v8 : Option V), σ = [some (.ref a), some (.int side), some (.ref pG), some (.int most), some (.ref pS), v5, v6, v7, v8] ∧ Same H1 H' ∧ H' pS = some (.dK (sk S)) ∧ Sf (D.take i) side most S ∧ S.length ≤ i)
      ⟨[], none, none, none, none, rfl, s2, upd_same, ⟨fun x hx => by simp at hx, fun q hq => by simp at hq⟩, Nat.le_refl _⟩ (fun i σ H' _ ⟨S, v5, v6, v7, v8, _, s3, _⟩ => ⟨s3.seq hA1, SqL.of (s3 _ _ hP1)⟩) ?_ ?_⟩
    · rintro i x1 y1 σ H2 T' hx hy ⟨S, v5, v6, v7, v8, rfl, s3, hS2, hSf, hSl⟩ hT
      obtain ⟨p, hp, rfl⟩ := of_map' hx
      obtain ⟨g, hg, rfl⟩ := of_map' hy
      obtain ⟨y, hyD, hs⟩ := paired_get hD hp
      have hgy : g = gainS side y := by
        rw [List.getElem?_map, hyD] at hg
        exact (Option.some.inj hg).symm
      subst hgy
      have hi : i < D.length := (List.getElem?_eq_some_iff.mp hyD).1
      have ey : D.take (i + 1) = D.take i ++ [y] := by rw [List.take_succ_eq_append_getElem hi, (List.getElem?_eq_some_iff.mp hyD).2]
      have s4 : Same H2 (upd H2 T' (.tup [.ref p, .int (gainS side y)])) := Same.laid hT
      have hs2 := (s1.trans (s3.trans s4)).tup hs
      obtain ⟨t1, t2⟩ := side_at (x := y) hside
      have o1 := side_ok hO (List.mem_of_getElem? hyD) side
      have nST : pS ≠ T' := ne_of_none hS2 hT
      refine ⟨T', _, rfl, SqT.of upd_same, rfl, _, _, rfl, _, _, rfl, rfl, ?_⟩
      refine ⟨_, rfl, _, rfl, p, _, _, _, rfl, rfl, hs2, t1, ?_⟩
      refine ⟨_, rfl, rfl, _, rfl, ite2 (fun q => ?_) (fun q => ?_)⟩
      · have q' : sideW side y ≠ [] := by
          intro z
          rw [z] at q
          exact absurd q (by decide)
        have hS3 : upd H2 T' (.tup [.ref p, .int (gainS side y)]) pS = some (.dK (sk S)) := by rw [upd_ne nST]; exact hS2
        refine ⟨_, rfl, _, rfl, _, _, rfl, rfl, _, rfl, pS, rfl, .inl ⟨_, .of hS3⟩, _, rfl, _, rfl, _, rfl, _, _, rfl, rfl, _, DGet.k (k := Sum.inr (sw (sideW side y))) hS3, ?_⟩
        rw [sk_val]
        have gv : ∃ v, ((getS S (sideW side y)).map V.int).getD (.int (most - gainS side y)) = .int v ∧ (∀ o, getS S (sideW side y) = some o → v = o) ∧ (getS S (sideW side y) = none → v = most - gainS side y) := by
          cases getS S (sideW side y) with
          | none => exact ⟨_, rfl, (fun o h => nomatch h), fun _ => rfl⟩
          | some o => exact ⟨o, rfl, (fun o' h => Option.some.inj h), (fun h => nomatch h)⟩
        obtain ⟨v, ev, hv1, hv2⟩ := gv
        rw [ev]
        refine ⟨_, _, rfl, ?_⟩
        refine ⟨_, rfl, _, rfl, pS, _, rfl, DPut.k (k := Sum.inr (sw (sideW side y))) hS3 ?_, ?_⟩
        · show (sk S).length < sizeLine
          unfold sk
          rw [List.length_map]
          exact fits' (by omega)
        · rw [sk_put]
          refine ⟨_, _, _, _, _, rfl, fun c o e => ?_, upd_same, ?_, ?_⟩
          · rw [upd_ne (ne_of_none e hS), upd_ne (ne_of_none (s3 _ _ e) hT)]
            exact s3 _ _ e
          · rw [ey]
            refine hSf.put q' o1 ?_ fun o ho => ?_
            · split <;> omega
            · have := hv1 o ho
              split <;> omega
          · have := put_len S (sideW side y) (if v < most - gainS side y then v else most - gainS side y)
            omega
      · have q' : sideW side y = [] := by
          refine Classical.byContradiction fun z => q ?_
          show (!decide (V.str (sw (sideW side y)) = V.str "")) = true
          rw [decide_eq_false]
          · rfl
          · intro e
            injection e with e
            exact z (sw_inj (b := []) e)
        refine ⟨S, _, _, _, _, rfl, s3.trans s4, by rw [upd_ne nST]; exact hS2, ?_, by omega⟩
        rw [ey]
        exact hSf.skip q'
    rintro σ H2 ⟨S, v5, v6, v7, v8, rfl, s3, hS2, hSf, hSl⟩
    have e2 : D.take (ps.map V.ref).length = D := e1
    rw [e2] at hSf
    rw [List.length_map] at hSl
    -- the pairs, sorted
    refine ⟨_, rfl, pS, _, hS2, trivial, fun od => ?_⟩
    have hSfz : ∀ c o, c ≠ pS → H2 c = some o → upd H2 pS (.frz od (.dK (sk S))) c = some o := fun c o hc e => by rw [upd_ne hc]; exact e
    refine ⟨_, rfl, pS, od, _, rfl, upd_same, fun pQ hQ => lc_items (d := pS) (o := od) (kvs := sk S) (fun i H' => (∀ c o, upd H2 pS (.frz od (.dK (sk S))) c = some o → H' c = some o) ∧ ∃ qs : List Addr, H' pQ = some (.lst (qs.map V.ref)) ∧
        qs.length = i ∧ ∀ (j : Nat) (p : Addr), qs[j]? = some p → ∃ q : Word × Int, S[j]? = some q ∧ H' p = some (.tup [.int q.2, .str (sw q.1)]))
      ⟨fun c o e => by rw [upd_ne (ne_of_none e hQ)]; exact e, [], upd_same, rfl, fun j p hp => by simp at hp⟩ (fun i H' _ ⟨h1, _⟩ => h1 _ _ upd_same) ?_ ?_⟩
    · rintro i k' v H3 T' hkv ⟨h1, qs, hq, hql, hqs⟩ hT
      unfold sk at hkv
      rw [List.getElem?_map] at hkv
      cases eS : S[i]? with
      | none => rw [eS] at hkv; cases hkv
      | some q =>
        rw [eS] at hkv
        have ekv := Option.some.inj hkv
        have ek : k' = Sum.inr (sw q.1) := (congrArg Prod.fst ekv).symm
        have ev : v = V.int q.2 := (congrArg Prod.snd ekv).symm
        subst ek ev
        have nQT : pQ ≠ T' := ne_of_none hq hT
        refine ⟨T', _, rfl, SqT.of upd_same, rfl, _, _, rfl, _, _, rfl, rfl, rfl, ?_⟩
        unfold tYes
        refine iteT ?_
        refine ⟨_, rfl, _, rfl, by show 2 ≤ sizeLine; decide, fun t ht => ?_⟩
        have nTt : t ≠ T' := fun e => by rw [e, upd_same] at ht; cases ht
        have hQ3 : upd (upd H3 T' (.tup [kV (Sum.inr (sw q.1)), .int q.2])) t (.tup [.int q.2, .str (sw q.1)]) pQ = some (.lst (qs.map V.ref)) := by
          have n2 : pQ ≠ t := fun e => by rw [← e, upd_ne nQT, hq] at ht; cases ht
          rw [upd_ne n2, upd_ne nQT]
          exact hq
        have nQt : t ≠ pQ := fun e => by rw [e, upd_same] at hQ3; cases hQ3
        have keep : ∀ c o, H3 c = some o → c ≠ pQ → upd (upd (upd H3 T' (.tup [kV (Sum.inr (sw q.1)), .int q.2])) t (.tup [.int q.2, .str (sw q.1)])) pQ (.lst (qs.map V.ref ++ [.ref t])) c = some o := fun c o e hc => by
          have n1 : c ≠ T' := ne_of_none e hT
          have n2 : c ≠ t := fun z => by rw [← z, upd_ne n1, e] at ht; cases ht
          rw [upd_ne hc, upd_ne n2, upd_ne n1]
          exact e
        refine ⟨_, hQ3, ?_, fun c o e => ?_, qs ++ [t], by rw [upd_same, List.map_append]; rfl, by rw [List.length_append, hql]; rfl, fun j p hp => ?_⟩
        · rw [List.length_map]
          have : i < S.length := (List.getElem?_eq_some_iff.mp eS).1
          exact fits' (by omega)
        · exact keep c o (h1 c o e) (fun z => by rw [z, hQ] at e; cases e)
        · rcases Nat.lt_or_ge j qs.length with hj | hj
          · rw [List.getElem?_append_left hj] at hp
            obtain ⟨q', h2, h3⟩ := hqs j p hp
            exact ⟨q', h2, keep p _ h3 (ne_of h3 hq (by intro z; cases z))⟩
          · rw [List.getElem?_append_right hj] at hp
            have hj0 : j - qs.length = 0 := by
              refine Classical.byContradiction fun z => ?_
              rw [List.getElem?_eq_none (by simp; omega)] at hp
              cases hp
            rw [hj0] at hp
            have ept : t = p := by simpa using hp
            subst ept
            have ej : j = i := by omega
            subst ej
            exact ⟨q, eS, by rw [upd_ne nQt, upd_same]; rfl⟩
    rintro H3 ⟨h1, qs, hq, hql, hqs⟩
    have hfz := h1 _ _ upd_same
    refine ⟨hfz, ?_⟩
    -- the dict goes back, the list is sorted
    have nQS : pQ ≠ pS := ne_of hq hfz (by intro z; cases z)
    have sk_l : (sk S).length = S.length := List.length_map ..
    rw [sk_l] at hql
    have hq4 : upd H3 pS (.dK (sk S)) pQ = some (.lst (qs.map V.ref)) := by rw [upd_ne nQS]; exact hq
    have hqs4 : ∀ (j : Nat) (p : Addr), qs[j]? = some p → ∃ q : Word × Int, S[j]? = some q ∧ upd H3 pS (.dK (sk S)) p = some (.tup [.int q.2, .str (sw q.1)]) := fun j p hp => by
      obtain ⟨q, h2, h3⟩ := hqs j p hp
      exact ⟨q, h2, by rw [upd_ne (ne_of h3 hfz (by intro z; cases z))]; exact h3⟩
    have s5 : Same H2 (upd H3 pS (.dK (sk S))) := fun c o e => by
      by_cases hc : c = pS
      · subst hc
        rw [hS2] at e
        rw [upd_same]
        exact e
      · rw [upd_ne hc]
        exact h1 c o (hSfz c o hc e)
    generalize upd H3 pS (.dK (sk S)) = H4 at hq4 hqs4 s5
    refine ⟨pQ, qs, pairOf H4, rfl, SqL.of hq4, fun p hp => ?_, fun ps' pW hperm hpw hW => ?_⟩
    · obtain ⟨j, hj, e⟩ := List.getElem_of_mem hp
      obtain ⟨q, _, h3⟩ := hqs4 j p (by rw [List.getElem?_eq_getElem hj, e])
      rw [pairOf_eq h3]
      exact SqT.of h3
    have s6 : Same H4 (upd H4 pW (.lst (ps'.map V.ref))) := Same.laid hW
    refine ⟨by show 2 ≤ sizeLine; decide, fun pT hT => ?_⟩
    have s7 : Same H4 (upd (upd H4 pW (.lst (ps'.map V.ref))) pT (.tup [.int most, .ref pW])) := s6.trans (Same.laid hT)
    have all4 : ∀ p ∈ qs, ∃ q ∈ S, H4 p = some (.tup [.int q.2, .str (sw q.1)]) ∧ pairOf H4 p = (q.2, sw q.1) := fun p hp => by
      obtain ⟨j, hj, e⟩ := List.getElem_of_mem hp
      obtain ⟨q, h2, h3⟩ := hqs4 j p (by rw [List.getElem?_eq_getElem hj, e])
      exact ⟨q, List.mem_of_getElem? h2, h3, pairOf_eq h3⟩
    have sT : Same H (upd (upd H4 pW (.lst (ps'.map V.ref))) pT (.tup [.int most, .ref pW])) := s1.trans (s3.trans (s5.trans s7))
    refine k pT pW _ most (ps'.map fun p => ((pairOf H4 p).1, TL.tl (pairOf H4 p).2)) sT ?_ upd_same ⟨ps', ?_, ?_⟩ ⟨hmost, fun x hx hxn => ?_, ?_, fun q hq => ?_⟩ ?_ fun q hq => ?_
    · have hT4 : H4 pT = none := by
        cases e : H4 pT with
        | none => rfl
        | some o => rw [s6 _ _ e] at hT; cases hT
      exact (s1.trans (s3.trans s5)).free hT4
    · have n : pW ≠ pT := fun e => by rw [← e, upd_same] at hT; cases hT
      exact SqL.of (by rw [upd_ne n, upd_same])
    · have gen : ∀ l : List Addr, (∀ p ∈ l, p ∈ qs) → Paired (fun p (q : Int × Word) => SqT K (upd (upd H4 pW (.lst (ps'.map V.ref))) pT (.tup [.int most, .ref pW])) p [.int q.1, .str (sw q.2)]) l (l.map fun p => ((pairOf H4 p).1, TL.tl (pairOf H4 p).2)) := by
        intro l
        induction l with
        | nil => exact fun _ => .nil
        | cons p l ih =>
          intro hp
          refine .cons ?_ (ih fun x hx => hp x (List.mem_cons_of_mem _ hx))
          obtain ⟨q, _, h3, h4⟩ := all4 p (hp p List.mem_cons_self)
          dsimp only
          rw [h4, sw_tl]
          exact SqT.of (s7 _ _ h3)
      exact gen ps' fun p hp => hperm.mem_iff.mp hp
    · obtain ⟨sf, g1, g2⟩ := hSf.has x hx hxn
      obtain ⟨j, hj, e⟩ := List.getElem_of_mem (getS_some g1)
      have hjq : j < qs.length := by omega
      obtain ⟨q, h2, h3⟩ := hqs4 j qs[j] (List.getElem?_eq_getElem hjq)
      rw [List.getElem?_eq_getElem hj, e] at h2
      have eq : q = (sideW side x, sf) := (Option.some.inj h2).symm
      subst eq
      refine ⟨sf, List.mem_map.mpr ⟨qs[j], hperm.mem_iff.mpr (List.getElem_mem hjq), ?_⟩, g2⟩
      rw [pairOf_eq h3]
      rfl
    · rw [List.pairwise_map]
      exact hpw
    · obtain ⟨p, hp, rfl⟩ := List.mem_map.mp hq
      obtain ⟨q, hqS, _, h4⟩ := all4 p (hperm.mem_iff.mp hp)
      have := hSf.key q hqS
      dsimp only
      rw [h4]
      exact ⟨List.length_pos_iff.mpr this.1, this.2.1⟩
    · rw [List.length_map, hperm.length_eq]
      omega
    · obtain ⟨p, hp, rfl⟩ := List.mem_map.mp hq
      obtain ⟨q, hqS, _, h4⟩ := all4 p (hperm.mem_iff.mp hp)
      dsimp only
      rw [h4]
      exact (hSf.key q hqS).2.2
end
end Dc

set_option Elab.async false
set_option linter.all false
set_option maxRecDepth 100000
set_option maxHeartbeats 4000000
namespace Dc
open PySem L2 Sv77 DmP
def putN (S : Nat → Option Int) (e : Nat) (v : Int) : Nat → Option Int := fun p => if p = e then some v else S p
/-- at one place, of the words gone through -/
structure Pl (A : Word) (ws : List (Int × Word)) (spare : Int) (S : Nat → Option Int) (p : Nat) (v : Int) (wj : List (Int × Word)) : Prop where
  cl : Cl A ws spare S p
  here : S p = some v
  step : ∀ q ∈ wj, v + q.1 ≤ spare → p + q.2.length < A.length → q.2 <+: A.drop p → ∃ v', S (p + q.2.length) = some v' ∧ v' ≤ v + q.1
  miss : ∀ q ∈ wj, v + q.1 ≤ spare → A.length ≤ p + q.2.length → ¬ A.drop p <+: q.2
theorem cl_put {A : Word} {ws : List (Int × Word)} {spare : Int} {S : Nat → Option Int} {p e : Nat} {v : Int} (C : Cl A ws spare S p) (he : p ≤ e) (h0 : 0 < e) (hold : ∀ o, S e = some o → v ≤ o) : Cl A ws spare (putN S e v) p where
  zero := fun h => by
    obtain ⟨z, h1, h2⟩ := C.zero h
    exact ⟨z, by unfold putN; rw [if_neg (by omega)]; exact h1, h2⟩
  step := fun p' z q hp hm hS hq hs hl hpre => by
    unfold putN at hS ⊢
    rw [if_neg (by omega)] at hS
    obtain ⟨v', h1, h2⟩ := C.step p' z q hp hm hS hq hs hl hpre
    by_cases c : p' + q.2.length = e
    · rw [if_pos c]
      rw [c] at h1
      exact ⟨v, rfl, Int.le_trans (hold v' h1) h2⟩
    · rw [if_neg c]
      exact ⟨v', h1, h2⟩
  miss := fun p' z q hp hm hS hq hs hl => by
    unfold putN at hS
    rw [if_neg (by omega)] at hS
    exact C.miss p' z q hp hm hS hq hs hl
theorem pl_start {A : Word} {ws : List (Int × Word)} {spare : Int} {S : Nat → Option Int} {p : Nat} {v : Int} (C : Cl A ws spare S p) (h : S p = some v) : Pl A ws spare S p v [] :=
  ⟨C, h, fun q hq => by simp at hq, fun q hq => by simp at hq⟩
/-- a word that needs no mark -/
theorem Pl.skip {A : Word} {ws wj : List (Int × Word)} {spare : Int} {S : Nat → Option Int} {p : Nat} {v : Int} {q : Int × Word} (h : Pl A ws spare S p v wj)
    (h1 : v + q.1 ≤ spare → p + q.2.length < A.length → q.2 <+: A.drop p → ∃ v', S (p + q.2.length) = some v' ∧ v' ≤ v + q.1) (h2 : v + q.1 ≤ spare → A.length ≤ p + q.2.length → ¬ A.drop p <+: q.2) : Pl A ws spare S p v (wj ++ [q]) :=
  ⟨h.cl, h.here, fun x hx => by
    rcases List.mem_append.mp hx with hx | hx
    · exact h.step x hx
    · rw [List.mem_singleton.mp hx]; exact h1, fun x hx => by
    rcases List.mem_append.mp hx with hx | hx
    · exact h.miss x hx
    · rw [List.mem_singleton.mp hx]; exact h2⟩
theorem Pl.put {A : Word} {ws wj : List (Int × Word)} {spare : Int} {S : Nat → Option Int} {p : Nat} {v : Int} {q : Int × Word} (h : Pl A ws spare S p v wj) (hq : 0 < q.2.length) (hlt : p + q.2.length < A.length)
    (hold : ∀ o, S (p + q.2.length) = some o → v + q.1 ≤ o) : Pl A ws spare (putN S (p + q.2.length) (v + q.1)) p v (wj ++ [q]) where
  cl := cl_put h.cl (by omega) (by omega) hold
  here := by unfold putN; rw [if_neg (by omega)]; exact h.here
  step := fun x hx hs hl hpre => by
    rcases List.mem_append.mp hx with hx | hx
    · obtain ⟨v', h1, h2⟩ := h.step x hx hs hl hpre
      unfold putN
      by_cases c : p + x.2.length = p + q.2.length
      · rw [if_pos c]
        rw [c] at h1
        exact ⟨_, rfl, Int.le_trans (hold v' h1) h2⟩
      · rw [if_neg c]
        exact ⟨v', h1, h2⟩
    · rw [List.mem_singleton.mp hx]
      exact ⟨_, by unfold putN; rw [if_pos rfl], Int.le_refl _⟩
  miss := fun x hx hs hl => by
    rcases List.mem_append.mp hx with hx | hx
    · exact h.miss x hx hs hl
    · rw [List.mem_singleton.mp hx] at hl
      omega
/-- the place is gone through: of the words of wj, the others fall too short -/
theorem Pl.done {A : Word} {ws wj : List (Int × Word)} {spare : Int} {S : Nat → Option Int} {p : Nat} {v : Int} (h : Pl A ws spare S p v wj) (hp : p % 3 = 0) (rest : ∀ q ∈ ws, q ∈ wj ∨ spare < v + q.1) : Cl A ws spare S (p + 3) where
  zero := h.cl.zero
  step := fun p' z q hp' hm hS hq hs hl hpre => by
    rcases Nat.lt_or_ge p' p with c | c
    · exact h.cl.step p' z q c hm hS hq hs hl hpre
    · have e : p' = p := by omega
      subst e
      rw [h.here] at hS
      cases hS
      rcases rest q hq with r | r
      · exact h.step q r hs hl hpre
      · omega
  miss := fun p' z q hp' hm hS hq hs hl => by
    rcases Nat.lt_or_ge p' p with c | c
    · exact h.cl.miss p' z q c hm hS hq hs hl
    · have e : p' = p := by omega
      subst e
      rw [h.here] at hS
      cases hS
      rcases rest q hq with r | r
      · exact h.miss q r hs hl
      · omega
theorem cl_none {A : Word} {ws : List (Int × Word)} {spare : Int} {S : Nat → Option Int} {p : Nat} (C : Cl A ws spare S p) (hp : p % 3 = 0) (h : S p = none) : Cl A ws spare S (p + 3) where
  zero := C.zero
  step := fun p' z q hp' hm hS hq hs hl hpre => by
    rcases Nat.lt_or_ge p' p with c | c
    · exact C.step p' z q c hm hS hq hs hl hpre
    · have e : p' = p := by omega
      subst e
      rw [h] at hS
      cases hS
  miss := fun p' z q hp' hm hS hq hs hl => by
    rcases Nat.lt_or_ge p' p with c | c
    · exact C.miss p' z q c hm hS hq hs hl
    · have e : p' = p := by omega
      subst e
      rw [h] at hS
      cases hS
theorem cl_start (A : Word) (ws : List (Int × Word)) (spare : Int) : Cl A ws spare (fun p => if p = 0 then some 0 else none) 0 :=
  ⟨fun _ => ⟨0, rfl, Int.le_refl _⟩, fun p' _ _ h => by omega, fun p' _ _ h => by omega⟩
/-- the dict at the marks -/
def Marks (kvs : List (Key × V)) (S : Nat → Option Int) : Prop := ∀ p : Nat, valV kvs (Sum.inl (p : Int)) = (S p).map V.int
theorem marks_put {kvs : List (Key × V)} {S : Nat → Option Int} (h : Marks kvs S) (e : Nat) (v : Int) : Marks (putK kvs (Sum.inl (e : Int)) (V.int v)) (putN S e v) := fun p => by
  rw [valV_put]
  unfold putN
  by_cases c : p = e
  · subst c
    rw [if_pos rfl, if_pos rfl]
    rfl
  · rw [if_neg c, if_neg (fun z => c (by have := Sum.inl.inj z; omega))]
    exact h p
section
variable {P : Program} {w : World} {K : PySem.W.Frag} {mg : Str → Option Value} {base : Heap}
def spSpell (K : PySem.W.Frag) : Sp := fun vs H Q _ => ∃ (A : Word) (b : Addr) (ws : List (Int × Word)) (spare : Int), vs = [.str (sw A), .ref b, .int spare] ∧ WordsAt K H b ws ∧ ws.length ≤ 8 ∧ A ≠ [] ∧ A.length ≤ 900 ∧
  (ws.Pairwise fun a b => a.1 ≤ b.1) ∧ (∀ q ∈ ws, 0 < q.2.length ∧ q.2.length % 3 = 0 ∧ q.2.length ≤ 24) ∧ ∀ (r : Bool) (H' : Hp), Same H H' → (r = false → ¬ Spells A ws spare) → Q (.bl r) H'
theorem scSpell : FnScope ["ahead", "words", "spare", "size", "short", "place", "so_far", "shortfall", "text", "end"] ["ahead", "words", "spare"] (defScope sSpell) := ⟨rfl, rfl, rfl, by decide +kernel, rfl, by decide +kernel, by decide +kernel⟩
theorem ok_spell {f : Addr} {fd : FuncData} (F : Fun K "can_spell" "can_spell" sSpell f fd) (T : Txt K mg) : FnOk P w K mg base CX0 1 f fd ["ahead", "words", "spare"] (spSpell K) := by
  refine F.ok scSpell (fun vs H Q E h => ?_) (fun cdv A outer s H vs Q E hr h => ?_)
  · obtain ⟨A, b, ws, spare, rfl, _⟩ := h
    rfl
  · obtain ⟨A, b, ws, spare, rfl, ⟨ps, hB, hW⟩, hn, hA, hAl, hsrt, hw3, k⟩ := h
    have hu := hu_of hr
    refine ⟨_, pss_cons (ps_set (i := 3) scSpell.nd rfl (Or.inl rfl) (pe_callB call_len_str (by rfl) T.len PySem.boot_len (pa_cons (pv 0) pa_nil)))
      (pss_cons (ps_set (i := 4) scSpell.nd rfl (Or.inl rfl) (pe_disp (pps_cons pe_int pe_int pps_nil) rfl rfl (by simp) (by decide)))
      (pss_cons (ps_for PassesOwn.never rfl (pi_range3 rfl T.rng (pa_cons pe_int (pa_cons (pv 3) (pa_cons (pc rfl T.sg) pa_nil)))) (pg_name (i := 5) scSpell.nd rfl (Or.inl rfl))
        (pss_one (ps_if (pt_cmp (pc_din hu (pv 5) (pv 4)))
          (pss_cons (ps_set (i := 6) scSpell.nd rfl (Or.inl rfl) (pe_dget hu (pv 4) (pv 5) (fun _ _ => rfl)))
          (pss_one (ps_for PassesOwn.never rfl (pi_list (pv 1)) (pg_tup rfl (pgs_cons (pg_name (i := 7) scSpell.nd rfl (Or.inl rfl)) (pgs_cons (pg_name (i := 8) scSpell.nd rfl (Or.inl rfl)) pgs_nil)))
            (pss_cons (ps_if (pt_cmpR op_gt (pe_op op_add (pv 6) (pv 7)) (pv 2) (nomark _)) (pss_one ps_break) pss_nil)
            (pss_cons (ps_set (i := 9) scSpell.nd rfl (Or.inl rfl) (pe_op op_add (pv 5) (pe_callB call_len_str (by rfl) T.len PySem.boot_len (pa_cons (pv 8) pa_nil))))
            (pss_one (ps_if (pt_cmpR op_lt (pv 9) (pv 3) (nomark _))
              (pss_one (ps_if (PW.pt (pw_and (pt_val (pe_bm PySem.F.plainAttrs_str PySem.F.slot_str_startswith PySem.F.type_str_startswith mt_startswith3 (pv 0) (pa_cons (pv 8) (pa_cons (pv 5) pa_nil))))
                (pw_and1 (pt_cmpR op_gt (pe_dget2 hu (pv 4) (pv 9) (pe_op op_add (pv 2) pe_int) ⟨rfl, rfl, rfl, rfl⟩) (pe_op op_add (pv 6) (pv 7)) (nomark _)))))
                (pss_one (ps_dput hu (pv 4) (pv 9) (pe_op op_add (pv 6) (pv 7)) rfl)) pss_nil))
              (pss_one (ps_if (pt_val (pe_m1 PySem.F.slot_str_startswith PySem.F.type_str_startswith mt_startswith (pv 8) (pe_slice sl_str (pv 0) (po_some (pv 5)) po_none)))
                (pss_one (ps_ret pe_bl)) pss_nil)))))))))
          pss_nil)))
      (pss_one (ps_ret pe_bl)))), ?_⟩
    have eL : (((sw A).length : Nat) : Int) = ((A.length : Nat) : Int) := by rw [sw_len]
    have hlen : ps.length = ws.length := Paired.length hW
    refine ⟨_, rfl, _, rfl, by rw [sw_len]; exact fits (by omega), ?_⟩
    intro pS hS
    refine ⟨upd_same, [(Sum.inl 0, V.int 0)], rfl, by decide, ?_⟩
    rw [upd_upd]
    have e2 : mergeK [] [((Sum.inl 0 : Key), V.int 0)] = fk [(0, 0)] := rfl
    rw [e2]
    have s0 : Same H (upd H pS (.dK (fk [(0, 0)]))) := Same.laid hS
    have hm0 : Marks (fk [(0, 0)]) (fun p => if p = 0 then some 0 else none) := fun p => by
      rw [fk_val]
      unfold getF
      rw [List.find?_cons]
      by_cases c : p = 0
      · subst c
        rfl
      · show _ = Option.map V.int (if p = 0 then some 0 else none)
        rw [if_neg c, decide_eq_false (by dsimp only; omega)]
        rfl
    have hsz : Builtin.Range.rangeSize 0 (((sw A).length : Nat) : Int) 3 = (((A.length + 2) / 3 : Nat) : Int) := by
      rw [eL]
      unfold Builtin.Range.rangeSize
      rw [if_pos (by decide)]
      have := List.length_pos_iff.mpr hA
      split <;> omega
    refine ⟨_, rfl, 0, _, 3, (A.length + 2) / 3, rfl, ⟨by decide, by decide, by rw [sw_len]; exact small_range3 (by omega), hsz⟩,
      for_rangeC (fun i σ H' => ∃ (kvs : List (Key × V)) (S : Nat → Option Int) (v5 v6 v7 v8 v9 : Option V), σ = [some (.str (sw A)), some (.ref b), some (.int spare), some (.int ((sw A).length : Nat)), some (.ref pS), v5, v6, v7, v8, v9] ∧ Same H H' ∧
          H' pS = some (.dK kvs) ∧ Marks kvs S ∧ kvs.length ≤ 1 + 8 * i ∧ Cl A ws spare S (3 * i))
        ⟨_, _, none, none, none, none, none, rfl, s0, upd_same, hm0, by rw [fk_len]; exact Nat.le_refl _, cl_start A ws spare⟩ ?_ ?_⟩
    · rintro i σ H1 hi ⟨kvs, S, v5, v6, v7, v8, v9, rfl, s1, hS1, hM, hkl, C⟩
      have ep : (0 : Int) + (i : Int) * 3 = ((3 * i : Nat) : Int) := by omega
      rw [ep]
      have h3 : 3 * i < A.length := by omega
      have hnext : 3 * (i + 1) = 3 * i + 3 := by omega
      refine ⟨_, rfl, _, rfl, pS, _, rfl, DGet.k (k := Sum.inl ((3 * i : Nat) : Int)) hS1, _, rfl, ?_⟩
      rw [hM (3 * i)]
      cases hv : S (3 * i) with
      | none =>
        refine iteF ⟨kvs, S, _, _, _, _, _, rfl, s1, hS1, hM, by omega, ?_⟩
        rw [hnext]
        exact cl_none C (by omega) hv
      | some v =>
        refine iteT ?_
        have g0 : DGet H1 pS (kV (Sum.inl ((3 * i : Nat) : Int))) (some (.int v)) := by
          have := DGet.k (k := Sum.inl ((3 * i : Nat) : Int)) hS1
          rw [hM (3 * i), hv] at this
          exact this
        refine ⟨_, rfl, _, rfl, pS, _, rfl, g0, ?_⟩
        refine ⟨_, rfl, b, rfl, ⟨_, s1.seq hB⟩, for_list (K := K) (a := b) (xs := ps.map V.ref)
          (fun j σ H' => ∃ (kvs : List (Key × V)) (S : Nat → Option Int) (v7 v8 v9 : Option V), σ = [some (.str (sw A)), some (.ref b), some (.int spare), some (.int ((sw A).length : Nat)), some (.ref pS), some (.int ((3 * i : Nat) : Int)), some (.int v), v7, v8, v9] ∧ Same H H' ∧
            H' pS = some (.dK kvs) ∧ Marks kvs S ∧ kvs.length ≤ 1 + 8 * i + j ∧ Pl A ws spare S (3 * i) v (ws.take j))
          ⟨kvs, S, _, _, _, rfl, s1, hS1, hM, by omega, by rw [List.take_zero]; exact pl_start C hv⟩
          (fun j σ H' _ ⟨kvs, S, v7, v8, v9, _, s2, _⟩ => s2.seq hB) ?_ ?_⟩
        · rintro j x σ H2 hx ⟨kvs, S, w7, w8, w9, rfl, s2, hS2, hM2, hkl2, L⟩
          obtain ⟨p, hp, rfl⟩ := of_map' hx
          obtain ⟨q, hq, hs⟩ := paired_get hW hp
          have hjl : j < ws.length := (List.getElem?_eq_some_iff.mp hq).1
          have hqw : q ∈ ws := List.mem_of_getElem? hq
          obtain ⟨q0, q3, q24⟩ := hw3 q hqw
          have etk : ws.take (j + 1) = ws.take j ++ [q] := by rw [List.take_succ_eq_append_getElem hjl, (List.getElem?_eq_some_iff.mp hq).2]
          refine ⟨p, _, rfl, s2.tup hs, rfl, _, _, rfl, _, _, rfl, rfl, ?_⟩
          refine ⟨_, rfl, _, rfl, _, _, rfl, rfl, _, rfl, _, _, rfl, rfl, _, rfl, ite2 (fun z => ?_) (fun z => ?_)⟩
          · -- break: the others fall short by more
            have z' : spare < v + q.1 := of_decide_eq_true z
            refine ⟨kvs, S, _, _, _, _, _, rfl, s2, hS2, hM2, by omega, ?_⟩
            rw [hnext]
            refine L.done (by omega) fun x hx => ?_
            obtain ⟨l, hl, ex⟩ := List.getElem_of_mem hx
            rcases Nat.lt_or_ge l j with c | c
            · refine .inl ?_
              rw [← ex]
              exact List.mem_take_iff_getElem.mpr ⟨l, by omega, rfl⟩
            · refine .inr ?_
              rcases Nat.eq_or_lt_of_le c with c | c
              · subst c
                rw [(List.getElem?_eq_some_iff.mp hq).2] at ex
                rw [← ex]
                exact z'
              · have := List.pairwise_iff_getElem.mp hsrt j l hjl hl c
                rw [(List.getElem?_eq_some_iff.mp hq).2, ex] at this
                omega
          have z1 : v + q.1 ≤ spare := Int.not_lt.mp fun r => z (decide_eq_true r)
          refine ⟨_, rfl, _, rfl, _, rfl, by rw [sw_len]; exact fits (by omega), _, _, rfl, rfl, ?_⟩
          have ee : ((3 * i : Nat) : Int) + (((sw q.2).length : Nat) : Int) = ((3 * i + q.2.length : Nat) : Int) := by rw [sw_len]; omega
          dsimp only
          rw [ee]
          refine ⟨_, rfl, _, rfl, _, _, rfl, rfl, _, rfl, ite2 (fun y => ?_) (fun y => ?_)⟩
          · -- the word ends within what is ahead
            have y' : ((3 * i + q.2.length : Nat) : Int) < (((sw A).length : Nat) : Int) := of_decide_eq_true y
            rw [sw_len] at y'
            have hlt : 3 * i + q.2.length < A.length := by omega
            refine ⟨_, rfl, rfl, _, rfl, _, rfl, _, _, _, rfl, rfl, _, rfl, ?_⟩
            rw [starts3_sw A q.2 (3 * i) (by omega)]
            refine ite2 (fun r => ?_) (fun r => ?_)
            · have hpre : q.2 <+: A.drop (3 * i) := List.isPrefixOf_iff_prefix.mp r
              refine ⟨_, rfl, pS, rfl, .inl ⟨_, .of hS2⟩, _, rfl, _, rfl, _, _, rfl, rfl, _, DGet.k (k := Sum.inl ((3 * i + q.2.length : Nat) : Int)) hS2, ?_⟩
              rw [hM2 (3 * i + q.2.length)]
              have gv : ∃ o, ((S (3 * i + q.2.length)).map V.int).getD (.int (spare + 1)) = .int o ∧ (∀ x, S (3 * i + q.2.length) = some x → o = x) ∧ (S (3 * i + q.2.length) = none → o = spare + 1) := by
                cases S (3 * i + q.2.length) with
                | none => exact ⟨_, rfl, (fun o h => nomatch h), fun _ => rfl⟩
                | some o => exact ⟨o, rfl, (fun o' h => Option.some.inj h), (fun h => nomatch h)⟩
              obtain ⟨o, eo, ho1, ho2⟩ := gv
              rw [eo]
              refine ⟨_, rfl, _, rfl, _, _, rfl, rfl, _, _, rfl, rfl, _, rfl, ite2 (fun x => ?_) (fun x => ?_)⟩
              · have x' : v + q.1 < o := of_decide_eq_true x
                refine ⟨_, rfl, _, rfl, _, _, rfl, rfl, _, rfl, _, rfl, pS, _, rfl, DPut.k (k := Sum.inl ((3 * i + q.2.length : Nat) : Int)) hS2 (fits' (by omega)), ?_⟩
                refine ⟨_, putN S (3 * i + q.2.length) (v + q.1), _, _, _, rfl, fun c o e => ?_, upd_same, marks_put hM2 _ _, ?_, ?_⟩
                · rw [upd_ne (ne_of_none e hS)]
                  exact s2 c o e
                · exact Nat.le_trans (length_putK kvs (Sum.inl ((3 * i + q.2.length : Nat) : Int)) (V.int (v + q.1))) (by omega)
                · rw [etk]
                  exact L.put q0 hlt fun x hx => by have := ho1 x hx; omega
              · have x' : ¬ v + q.1 < o := fun r => x (decide_eq_true r)
                refine ⟨kvs, S, _, _, _, rfl, s2, hS2, hM2, by omega, ?_⟩
                rw [etk]
                refine L.skip (fun _ _ _ => ?_) fun _ h => by omega
                cases eS : S (3 * i + q.2.length) with
                | none =>
                  have := ho2 eS
                  omega
                | some x =>
                  have := ho1 x eS
                  exact ⟨x, rfl, by omega⟩
            · refine ⟨kvs, S, _, _, _, rfl, s2, hS2, hM2, by omega, ?_⟩
              rw [etk]
              exact L.skip (fun _ _ h => absurd (List.isPrefixOf_iff_prefix.mpr h) r) fun _ h => by omega
          · have y' : ¬ ((3 * i + q.2.length : Nat) : Int) < (((sw A).length : Nat) : Int) := fun r => y (decide_eq_true r)
            rw [sw_len] at y'
            refine ⟨_, rfl, ⟨_, rfl⟩, _, rfl, _, rfl, _, rfl, _, rfl, by rw [sw_len]; exact fits (by omega), _, _, rfl, rfl, _, rfl, ?_⟩
            rw [cut_sw, starts_sw]
            refine ite2 (fun r => ?_) (fun r => ?_)
            · exact k true H2 s2 fun h => by cases h
            · refine ⟨kvs, S, _, _, _, rfl, s2, hS2, hM2, by omega, ?_⟩
              rw [etk]
              exact L.skip (fun _ h => by omega) fun _ _ h => r (List.isPrefixOf_iff_prefix.mpr h)
        · rintro σ H2 ⟨kvs, S, w7, w8, w9, rfl, s2, hS2, hM2, hkl2, L⟩
          rw [List.length_map, hlen, List.take_length] at L
          refine ⟨kvs, S, _, _, _, _, _, rfl, s2, hS2, hM2, by rw [List.length_map] at hkl2; omega, ?_⟩
          rw [hnext]
          exact L.done (by omega) fun q hq => .inl hq
    · rintro σ H1 ⟨kvs, S, v5, v6, v7, v8, v9, rfl, s1, hS1, hM, hkl, C⟩
      exact k false H1 s1 fun _ => cl_end (fun q hq => ⟨(hw3 q hq).1, (hw3 q hq).2.1⟩) hA C (by omega)
def spUp (K : PySem.W.Frag) : Sp := fun vs H Q _ => ∃ (A : Word) (c l : Addr) (most : Int) (ws : List (Int × Word)) (left : Nat), vs = [.str (sw A), .ref c, .int left] ∧ SqT K H c [.int most, .ref l] ∧ WordsAt K H l ws ∧ ws.length ≤ 8 ∧ A.length ≤ 900 ∧ left ≤ 16 ∧
  (ws.Pairwise fun a b => a.1 ≤ b.1) ∧ (∀ q ∈ ws, 0 < q.2.length ∧ q.2.length % 3 = 0 ∧ q.2.length ≤ 24) ∧ ∀ (r : Bool) (H' : Hp), Same H H' → (r = false → A ≠ [] ∧ ¬ (0 ≤ most * (left : Int) - (A.length : Int) ∧ Spells A ws (most * (left : Int) - (A.length : Int)))) → Q (.bl r) H'
theorem scUp : FnScope ["ahead", "catching", "left", "spare"] ["ahead", "catching", "left"] (defScope sUp) := ⟨rfl, rfl, rfl, by decide +kernel, rfl, by decide +kernel, by decide +kernel⟩
theorem ok_up {f fS : Addr} {fd fdS : FuncData} (F : Fun K "can_catch_up" "can_catch_up" sUp f fd) (T : Txt K mg) (FS : Fun K "can_spell" "can_spell" sSpell fS fdS) (bS : Binds K fdS ["ahead", "words", "spare"] []) (mS : mg "can_spell" = some (.ref fS)) :
    FnOk P w K mg base CX0 2 f fd ["ahead", "catching", "left"] (spUp K) := by
  have GS : FnOk P w K mg base CX0 1 fS fdS ["ahead", "words", "spare"] (spSpell K) := ok_spell FS T
  refine F.ok scUp (fun vs H Q E h => ?_) (fun cdv A outer s H vs Q E hr h => ?_)
  · obtain ⟨A, c, l, most, ws, left, rfl, _⟩ := h
    rfl
  · obtain ⟨A, c, l, most, ws, left, rfl, hC, hW, hn, hAl, hleft, hsrt, hw3, k⟩ := h
    refine ⟨_, pss_cons (ps_if (pt_cmpR op_eq (pv 0) pe_str (nomark _)) (pss_one (ps_ret pe_bl)) pss_nil)
      (pss_cons (ps_set (i := 3) scUp.nd rfl (Or.inl rfl) (pe_op op_sub (pe_op op_mul (pe_ix ix_tup (pv 1) pe_int (fun _ _ => rfl)) (pv 2)) (pe_callB call_len_str (by rfl) T.len PySem.boot_len (pa_cons (pv 0) pa_nil))))
      (pss_one (ps_ret (pe_and (pe_cmpR op_ge (pv 3) pe_int (nomark _)) (pe_one (pe_call GS hr rfl mS FS.kp bS .nil pass0 (pa_cons (pv 0) (pa_cons (pe_ix ix_tup (pv 1) pe_int (fun _ _ => rfl)) (pa_cons (pv 3) pa_nil))))))))), ?_⟩
    refine ⟨_, rfl, rfl, _, rfl, ite2 (fun z => ?_) (fun z => ?_)⟩
    · exact k true H (Same.refl H) fun h => by cases h
    have hA : A ≠ [] := by
      rintro rfl
      exact z (by decide)
    refine ⟨_, rfl, c, _, _, _, rfl, rfl, hC, at_of (j := 0) rfl rfl, _, rfl, _, _, rfl, rfl, .inr ⟨by omega, by omega⟩, _, rfl, _, rfl, by rw [sw_len]; exact fits (by omega), _, _, rfl, rfl, ?_⟩
    dsimp only
    rw [sw_len]
    refine ⟨_, rfl, _, _, rfl, rfl, _, rfl, ite2 (fun y => ?_) (fun y => ?_)⟩
    · have y' : 0 ≤ most * (left : Int) - ((A.length : Nat) : Int) := of_decide_eq_true y
      refine ⟨_, rfl, _, rfl, c, _, _, _, rfl, rfl, hC, at_of (j := 1) rfl rfl, _, rfl, A, l, ws, _, rfl, hW, hn, hA, hAl, hsrt, hw3, fun r H' s1 hr' => k r H' s1 fun e => ⟨hA, fun q => hr' e q.2⟩⟩
    · have y' : ¬ 0 ≤ most * (left : Int) - ((A.length : Nat) : Int) := fun r => y (decide_eq_true r)
      exact k false H (Same.refl H) fun _ => ⟨hA, fun q => y' q.1⟩
end
end Dc

set_option Elab.async false
set_option linter.all false
set_option maxRecDepth 100000
set_option maxHeartbeats 4000000
namespace Dc
open PySem L2 Sv77 DmP
def But (H H' : Hp) (c : Addr) : Prop := ∀ b o, H b = some o → b ≠ c → H' b = some o
theorem But.seq {K : PySem.W.Frag} {H H' : Hp} {a c C dx : Addr} {fs : List (Str × V)} {xs : List V} (k : But H H' c) (hc : H c = some (.ins C dx fs)) (h : SqL K H a xs) : SqL K H' a xs := by
  rcases h with (h | ⟨o, h⟩) | h
  · exact .inl (.inl (k _ _ h (ne_of h hc (by intro z; cases z))))
  · exact .inl (.inr ⟨o, k _ _ h (ne_of h hc (by intro z; cases z))⟩)
  · exact .inr h
theorem But.tup {K : PySem.W.Frag} {H H' : Hp} {a c C dx : Addr} {fs : List (Str × V)} {xs : List V} (k : But H H' c) (hc : H c = some (.ins C dx fs)) (h : SqT K H a xs) : SqT K H' a xs := by
  rcases h with (h | ⟨o, h⟩) | h
  · exact .inl (.inl (k _ _ h (ne_of h hc (by intro z; cases z))))
  · exact .inl (.inr ⟨o, k _ _ h (ne_of h hc (by intro z; cases z))⟩)
  · exact .inr h
theorem But.pairs {K : PySem.W.Frag} {H H' : Hp} {a c C dx : Addr} {fs : List (Str × V)} {D : Set_} (k : But H H' c) (hc : H c = some (.ins C dx fs)) (h : PairsAt K H a D) : PairsAt K H' a D := let ⟨ps, h1, h2⟩ := h; ⟨ps, k.seq hc h1, Paired.mapP h2 fun _ _ z => k.tup hc z⟩
theorem But.words {K : PySem.W.Frag} {H H' : Hp} {a c C dx : Addr} {fs : List (Str × V)} {ws : List (Int × Word)} (k : But H H' c) (hc : H c = some (.ins C dx fs)) (h : WordsAt K H a ws) : WordsAt K H' a ws := let ⟨ps, h1, h2⟩ := h; ⟨ps, k.seq hc h1, Paired.mapP h2 fun _ _ z => k.tup hc z⟩
theorem But.of_upd {H : Hp} {c : Addr} {o : HO} : But H (upd H c o) c := fun b u e hb => by rw [upd_ne hb]; exact e
theorem But.trans {H H1 H2 : Hp} {c : Addr} (a : But H H1 c) (b : But H1 H2 c) : But H H2 c := fun x o e hx => b x o (a x o e hx) hx
theorem Same.but {H H' : Hp} {c : Addr} (s : Same H H') : But H H' c := fun b o e _ => s b o e
theorem nFA : ¬ (("fewest" : Str) = "catching_above") := by decide +kernel
theorem nFB : ¬ (("fewest" : Str) = "catching_below") := by decide +kernel
theorem nAB : ¬ (("catching_above" : Str) = "catching_below") := by decide +kernel
def of (df ca cb : Addr) : List (Str × V) := putF "catching_below" (.ref cb) (putF "catching_above" (.ref ca) (putF "fewest" (.ref df) []))
theorem of_fe (df ca cb : Addr) : (of df ca cb).lookup ("fewest" : Str) = some (.ref df) := by
  unfold of
  rw [lookup_putF, if_neg nFB, lookup_putF, if_neg nFA, lookup_putF, if_pos rfl]
theorem of_ca (df ca cb : Addr) : (of df ca cb).lookup ("catching_above" : Str) = some (.ref ca) := by
  unfold of
  rw [lookup_putF, if_neg nAB, lookup_putF, if_pos rfl]
theorem of_cb (df ca cb : Addr) : (of df ca cb).lookup ("catching_below" : Str) = some (.ref cb) := by
  unfold of
  rw [lookup_putF, if_pos rfl]
theorem of_no (df ca cb : Addr) {m : Str} (h1 : ¬ m = "catching_below") (h2 : ¬ m = "catching_above") (h3 : ¬ m = "fewest") : (of df ca cb).lookup m = none := by
  unfold of
  rw [lookup_putF, if_neg h1, lookup_putF, if_neg h2, lookup_putF, if_neg h3]
  all_goals rfl
/-- one of its two sides -/
def SideAt (K : PySem.W.Frag) (H : Hp) (c : Addr) (D : Set_) (side : Nat) : Prop := ∃ (l : Addr) (most : Int) (ws : List (Int × Word)), SqT K H c [.int most, .ref l] ∧ WordsAt K H l ws ∧ CatchOk D side most ws ∧ ws.length ≤ 8 ∧ ∀ q ∈ ws, q.2.length ≤ 24
theorem SideAt.same {K : PySem.W.Frag} {H H' : Hp} {c : Addr} {D : Set_} {side : Nat} (h : SideAt K H c D side) (s : Same H H') : SideAt K H' c D side := let ⟨l, m, ws, h1, h2, r⟩ := h; ⟨l, m, ws, s.tup h1, h2.same s, r⟩
theorem But.side {K : PySem.W.Frag} {H H' : Hp} {a c C dx : Addr} {fs : List (Str × V)} {D : Set_} {side : Nat} (k : But H H' c) (hc : H c = some (.ins C dx fs)) (h : SideAt K H a D side) : SideAt K H' a D side := let ⟨l, m, ws, h1, h2, r⟩ := h; ⟨l, m, ws, k.tup hc h1, k.words hc h2, r⟩
def OL (C : Addr) (K : PySem.W.Frag) (H : Hp) (o : Addr) (D : Set_) (m : Nat) : Prop := ∃ (dx df ca cb : Addr) (F : List (Int × Int)), H o = some (.ins C dx (of df ca cb)) ∧ H df = some (.dK (fk F)) ∧ FewOk (D.map gain) m (getF F) ∧ SideAt K H ca D 0 ∧ SideAt K H cb D 1
theorem OL.same {C : Addr} {K : PySem.W.Frag} {H H' : Hp} {o : Addr} {D : Set_} {m : Nat} (h : OL C K H o D m) (s : Same H H') : OL C K H' o D m := let ⟨dx, df, ca, cb, F, h1, h2, h3, h4, h5⟩ := h; ⟨dx, df, ca, cb, F, s _ _ h1, s _ _ h2, h3, h4.same s, h5.same s⟩
structure TxtC (K : PySem.W.Frag) (mg : Str → Option Value) (C : Addr) : Prop where
  cl : Cls K C
  nF : NoAttr K C "fewest"
  nA : NoAttr K C "catching_above"
  nB : NoAttr K C "catching_below"
  mgC : mg "Outlook" = some (.ref C)
section
variable {P : Program} {w : World} {K : PySem.W.Frag} {mg : Str → Option Value} {base : Heap}
def spInit (C : Addr) (K : PySem.W.Frag) : Sp := fun vs H Q _ => ∃ (p dx a : Addr) (m : Nat) (D : Set_), vs = [.ref p, .ref a, .int m] ∧ H p = some (.ins C dx []) ∧ PairsAt K H a D ∧ D ≠ [] ∧ D.length ≤ 8 ∧ DmS.Ok D ∧ m ≤ 16 ∧
  ∀ H' : Hp, OL C K H' p D m → But H H' p → Q .non H'
theorem scInit : FnScope ["self", "pairs", "m"] ["self", "pairs", "m"] (defScope sInit) := ⟨rfl, rfl, rfl, by decide +kernel, rfl, by decide +kernel, by decide +kernel⟩
theorem ok_init {f fF fC C : Addr} {fd fdF fdC : FuncData} (F : Fun K "__init__" "Outlook.__init__" sInit f fd) (T : Txt K mg) (TC : TxtC K mg C)
    (FF : Fun K "fewest_by_gain" "fewest_by_gain" sFewest fF fdF) (bF : Binds K fdF ["pairs", "m"] []) (mF : mg "fewest_by_gain" = some (.ref fF))
    (FC : Fun K "catchers" "catchers" sCatch fC fdC) (bC : Binds K fdC ["pairs", "side"] []) (mC : mg "catchers" = some (.ref fC)) : FnOk P w K mg base CX0 2 f fd ["self", "pairs", "m"] (spInit C K) := by
  have GF : FnOk P w K mg base CX0 1 fF fdF ["pairs", "m"] (spFewest K) := ok_fewest FF T
  have GC : FnOk P w K mg base CX0 1 fC fdC ["pairs", "side"] (spCatch K) := ok_catch FC T
  refine F.ok scInit (fun vs H Q E h => ?_) (fun cdv A outer s H vs Q E hr h => ?_)
  · obtain ⟨p, dx, a, m, D, rfl, _⟩ := h
    rfl
  · obtain ⟨p, dx, a, m, D, rfl, hp, hA, hne, hn, hO, hm, k⟩ := h
    refine ⟨_, pss_cons (ps_fld (pv 0) (pe_call GF hr rfl mF FF.kp bF .nil pass0 (pa_cons (pv 1) (pa_cons (pv 2) pa_nil))) rfl)
      (pss_cons (ps_fld (pv 0) (pe_call GC hr rfl mC FC.kp bC .nil pass0 (pa_cons (pv 1) (pa_cons pe_int pa_nil))) rfl)
      (pss_one (ps_fld (pv 0) (pe_call GC hr rfl mC FC.kp bC .nil pass0 (pa_cons (pv 1) (pa_cons pe_int pa_nil))) rfl))), ?_⟩
    refine ⟨_, rfl, _, rfl, a, m, D, rfl, hA, hn, hO, hm, fun df H1 FF s1 nF hF hFew => ?_⟩
    have hp1 := s1 _ _ hp
    refine ⟨_, rfl, p, C, dx, [], rfl, hp1, TC.cl, TC.nF, (by show 0 < 1000; decide), ?_⟩
    have b1 : But H (upd H1 p (.ins C dx (putF "fewest" (.ref df) []))) p := (Same.but s1).trans But.of_upd
    have ndp : df ≠ p := ne_of hF hp1 (by intro z; cases z)
    have hF2 : upd H1 p (.ins C dx (putF "fewest" (.ref df) [])) df = some (.dK (fk FF)) := by rw [upd_ne ndp]; exact hF
    have hp2 : upd H1 p (.ins C dx (putF "fewest" (.ref df) [])) p = some (.ins C dx (putF "fewest" (.ref df) [])) := upd_same
    generalize upd H1 p (.ins C dx (putF "fewest" (.ref df) [])) = H2 at b1 hF2 hp2
    have hA2 := b1.pairs hp hA
    refine ⟨_, rfl, a, 0, D, rfl, .inl rfl, hA2, hne, hn, hO, fun ca la H3 mostA wsA s3 nA hcA hWA cA lA l24A => ?_⟩
    have hp3 := s3 _ _ hp2
    refine ⟨_, rfl, p, C, dx, _, rfl, hp3, TC.cl, TC.nA, (by show 1 < 1000; decide), ?_⟩
    have b3 : But H2 (upd H3 p (.ins C dx (putF "catching_above" (.ref ca) (putF "fewest" (.ref df) [])))) p := (Same.but s3).trans But.of_upd
    have b3' : But H3 (upd H3 p (.ins C dx (putF "catching_above" (.ref ca) (putF "fewest" (.ref df) [])))) p := But.of_upd
    have hF4 := b3 _ _ hF2 ndp
    have hS4 : SideAt K (upd H3 p (.ins C dx (putF "catching_above" (.ref ca) (putF "fewest" (.ref df) [])))) ca D 0 := b3'.side hp3 ⟨la, mostA, wsA, SqT.of hcA, hWA, cA, lA, l24A⟩
    have hp4 : upd H3 p (.ins C dx (putF "catching_above" (.ref ca) (putF "fewest" (.ref df) []))) p = some (.ins C dx (putF "catching_above" (.ref ca) (putF "fewest" (.ref df) []))) := upd_same
    have hA4 := b3.pairs hp2 hA2
    have b4 := b1.trans b3
    generalize upd H3 p (.ins C dx (putF "catching_above" (.ref ca) (putF "fewest" (.ref df) []))) = H4 at b4 hF4 hS4 hp4 hA4
    refine ⟨_, rfl, a, 1, D, rfl, .inr rfl, hA4, hne, hn, hO, fun cb lb H5 mostB wsB s5 nB hcB hWB cB lB l24B => ?_⟩
    have hp5 := s5 _ _ hp4
    have few : (putF "catching_above" (V.ref ca) (putF "fewest" (V.ref df) [])).length < 1000 := by
      have h1 := length_putF "catching_above" (V.ref ca) (putF "fewest" (V.ref df) [])
      have h2 := length_putF "fewest" (V.ref df) []
      have h3 : ([] : List (Str × V)).length = 0 := rfl
      omega
    refine ⟨_, rfl, p, C, dx, _, rfl, hp5, TC.cl, TC.nB, few, ?_⟩
    have b5 : But H5 (upd H5 p (.ins C dx (of df ca cb))) p := But.of_upd
    refine k _ ⟨dx, df, ca, cb, FF, upd_same, b5 _ _ (s5 _ _ hF4) ndp, hFew, b5.side hp5 (hS4.same s5), b5.side hp5 ⟨lb, mostB, wsB, SqT.of hcB, hWB, cB, lB, l24B⟩⟩ (b4.trans ((Same.but s5).trans b5))
def spAllows (C : Addr) (K : PySem.W.Frag) : Sp := fun vs H Q _ => ∃ (o l : Addr) (m left : Nat) (D : Set_) (p : Lead), vs = [.ref o, .ref l, .int left] ∧ OL C K H o D m ∧ LeadAt K H l p ∧ One p ∧ p.1.length ≤ 900 ∧ p.2.length ≤ 900 ∧ left ≤ m ∧ m ≤ 16 ∧
  ∀ (r : Bool) (H' : Hp), Same H H' → (r = false → ∀ k, k ≤ left → ¬ evens D p k) → Q (.bl r) H'
theorem scAllows : FnScope ["self", "lead", "left", "needed"] ["self", "lead", "left"] (defScope sAllows) := ⟨rfl, rfl, rfl, by decide +kernel, rfl, by decide +kernel, by decide +kernel⟩
theorem ok_allows {f fU fS C : Addr} {fd fdU fdS : FuncData} (F : Fun K "allows" "Outlook.allows" sAllows f fd) (T : Txt K mg) (TC : TxtC K mg C)
    (FU : Fun K "can_catch_up" "can_catch_up" sUp fU fdU) (bU : Binds K fdU ["ahead", "catching", "left"] []) (mU : mg "can_catch_up" = some (.ref fU))
    (FS : Fun K "can_spell" "can_spell" sSpell fS fdS) (bS : Binds K fdS ["ahead", "words", "spare"] []) (mS : mg "can_spell" = some (.ref fS)) : FnOk P w K mg base CX0 3 f fd ["self", "lead", "left"] (spAllows C K) := by
  have GU : FnOk P w K mg base CX0 2 fU fdU ["ahead", "catching", "left"] (spUp K) := ok_up FU T FS bS mS
  refine F.ok scAllows (fun vs H Q E h => ?_) (fun cdv A outer s H vs Q E hr h => ?_)
  · obtain ⟨o, l, m, left, D, p, rfl, _⟩ := h
    rfl
  · obtain ⟨o, l, m, left, D, p, rfl, ho, hL, hOne, p1, p2, hlm, hm, k⟩ := h
    have hu := hu_of hr
    refine ⟨_, pss_cons (ps_set (i := 3) scAllows.nd rfl (Or.inl rfl) (pe_dget2 hu (pe_fld (pv 0) rfl)
        (pe_op op_sub (pe_callB call_len_str (by rfl) T.len PySem.boot_len (pa_cons (pe_ix ix_tup (pv 1) pe_int (fun _ _ => rfl)) pa_nil)) (pe_callB call_len_str (by rfl) T.len PySem.boot_len (pa_cons (pe_ix ix_tup (pv 1) pe_int (fun _ _ => rfl)) pa_nil)))
        (pe_op op_add (pv 2) pe_int) ⟨rfl, rfl, rfl, rfl⟩))
      (pss_cons (ps_if (pt_cmpR op_gt (pv 3) (pv 2) (nomark _)) (pss_one (ps_ret pe_bl)) pss_nil)
      (pss_one (ps_ret (pe_and (pe_call GU hr rfl mU FU.kp bU .nil pass0 (pa_cons (pe_ix ix_tup (pv 1) pe_int (fun _ _ => rfl)) (pa_cons (pe_fld (pv 0) rfl) (pa_cons (pv 2) pa_nil))))
        (pe_one (pe_call GU hr rfl mU FU.kp bU .nil pass0 (pa_cons (pe_ix ix_tup (pv 1) pe_int (fun _ _ => rfl)) (pa_cons (pe_fld (pv 0) rfl) (pa_cons (pv 2) pa_nil))))))))), ?_⟩
    obtain ⟨dx, df, ca, cb, F, h1, h2, hFew, hSA, hSB⟩ := ho
    refine ⟨_, rfl, o, C, dx, _, _, rfl, h1, TC.cl, TC.nF, of_fe _ _ _, df, rfl, .inl ⟨_, .of h2⟩, ?_⟩
    refine ⟨_, rfl, l, _, _, _, rfl, rfl, hL, at_of (j := 1) rfl rfl, _, rfl, by rw [sw_len]; exact fits (by omega), _, rfl, l, _, _, _, rfl, rfl, hL, at_of (j := 0) rfl rfl, _, rfl, by rw [sw_len]; exact fits (by omega), _, _, rfl, rfl, ?_⟩
    refine ⟨_, rfl, _, _, rfl, rfl, _, DGet.k (k := Sum.inl ((((sw p.2).length : Nat) : Int) - (((sw p.1).length : Nat) : Int))) h2, ?_⟩
    rw [fk_val, sw_len, sw_len]
    have gv : ∃ v, ((getF F ((p.2.length : Int) - (p.1.length : Int))).map V.int).getD (.int ((left : Int) + 1)) = .int v ∧ (∀ x, getF F ((p.2.length : Int) - (p.1.length : Int)) = some x → v = x) := by
      cases getF F ((p.2.length : Int) - (p.1.length : Int)) with
      | none => exact ⟨_, rfl, (fun o h => nomatch h)⟩
      | some o => exact ⟨o, rfl, (fun o' h => Option.some.inj h)⟩
    obtain ⟨v, ev, hv⟩ := gv
    dsimp only
    rw [ev]
    refine ⟨_, rfl, _, rfl, _, _, rfl, rfl, _, rfl, ite2 (fun z => ?_) (fun z => ?_)⟩
    · have z' : (left : Int) < v := of_decide_eq_true z
      refine k false H (Same.refl H) fun _ n hn e => ?_
      obtain ⟨x, x1, x2⟩ := few_evens hFew (Nat.le_trans hn hlm) e
      have := hv x x1
      omega
    obtain ⟨lb, mostB, wsB, b1, b2, b3, b4, b5⟩ := hSB
    obtain ⟨la, mostA, wsA, a1, a2, a3, a4, a5⟩ := hSA
    refine ⟨_, rfl, l, _, _, _, rfl, rfl, hL, at_of (j := 0) rfl rfl, _, rfl, o, C, dx, _, _, rfl, h1, TC.cl, TC.nB, of_cb _ _ _, _, rfl, p.1, cb, lb, mostB, wsB, left, rfl, b1, b2, b4, p1, by omega, b3.srt, fun q hq => ⟨(b3.three q hq).1, (b3.three q hq).2, b5 q hq⟩, fun r H1 s1 hr1 => ?_⟩
    refine ⟨_, rfl, ite2 (fun y => ?_) (fun y => ?_)⟩
    · have h1' := s1 _ _ h1
      refine ⟨_, rfl, l, _, _, _, rfl, rfl, s1.tup hL, at_of (j := 1) rfl rfl, _, rfl, o, C, dx, _, _, rfl, h1', TC.cl, TC.nA, of_ca _ _ _, _, rfl, p.2, ca, la, mostA, wsA, left, rfl, s1.tup a1, a2.same s1, a4, p2, by omega, a3.srt, fun q hq => ⟨(a3.three q hq).1, (a3.three q hq).2, a5 q hq⟩, fun r2 H2 s2 hr2 => ?_⟩
      refine k r2 H2 (s1.trans s2) fun e n hn ev => ?_
      obtain ⟨hne, no⟩ := hr2 e
      obtain ⟨ds, d1, d2, d3⟩ := ev
      have e0 : p.1 = [] := hOne.resolve_right hne
      rw [e0, List.nil_append] at d3
      exact no (catch_ok a3 (l := ds) hne d2 (by omega) d3.symm)
    · have y' : r = false := by simpa using y
      refine k false H1 s1 fun _ n hn ev => ?_
      obtain ⟨hne, no⟩ := hr1 y'
      obtain ⟨ds, d1, d2, d3⟩ := ev
      have e0 : p.2 = [] := hOne.resolve_left hne
      rw [e0, List.nil_append] at d3
      exact no (catch_ok b3 (l := ds) hne d2 (by omega) d3)
end
end Dc

set_option Elab.async false
set_option linter.all false
set_option maxRecDepth 100000
set_option maxHeartbeats 4000000
namespace Dc
open PySem L2 Sv77 DmP DmC
def lk (p : Lead) : List Key := [Sum.inr (sw p.1), Sum.inr (sw p.2)]
theorem lk_inj {p q : Lead} (h : lk p = lk q) : p = q := by
  unfold lk at h
  simp only [List.cons.injEq, and_true] at h
  exact Prod.ext (sw_inj (Sum.inr.inj h.1)) (sw_inj (Sum.inr.inj h.2))
def tab (R : Tab) : List (List Key × V) := R.map fun q => (lk q.1, V.int ((q.2 : Nat) : Int))
theorem tab_len (R : Tab) : (tab R).length = R.length := List.length_map ..
theorem tab_val : ∀ (R : Tab) (p : Lead), valV (tab R) (lk p) = (at_ R p).map fun n => V.int ((n : Nat) : Int)
  | [], p => rfl
  | q :: R, p => by
    have e : tab (q :: R) = (lk q.1, V.int ((q.2 : Nat) : Int)) :: tab R := rfl
    rw [e]
    unfold at_
    rw [List.find?_cons]
    by_cases h : q.1 = p
    · rw [valV_pos (show lk q.1 = lk p by rw [h]), decide_eq_true h]
      rfl
    · rw [valV_neg (show ¬ lk q.1 = lk p from fun z => h (lk_inj z)), decide_eq_false h, tab_val R p]
      rfl
theorem tab_put {R : Tab} (hn : (R.map (·.1)).Nodup) (p : Lead) (c : Nat) : putK (tab R) (lk p) (V.int ((((at_ R p).getD 0 + c : Nat)) : Int)) = tab (addTo R p c) := by
  cases h : at_ R p with
  | none =>
    rw [putK_new _ (by rw [tab_val, h]; rfl), add_new (at_none h)]
    unfold tab
    rw [List.map_append]
    show _ ++ [(lk p, V.int (((0 + c : Nat)) : Int))] = _
    rw [Nat.zero_add]
    rfl
  | some v =>
    rw [add_old hn h]
    unfold putK
    rw [valV_any, tab_val, h]
    show (if true = true then _ else _) = _
    rw [if_pos rfl]
    unfold tab
    rw [List.map_map, List.map_map]
    refine List.map_congr_left fun q _ => ?_
    simp only [Function.comp]
    by_cases e : q.1 = p
    · rw [if_pos (by rw [e]), if_pos e]
      rfl
    · rw [if_neg (fun z => e (lk_inj z)), if_neg e]
theorem tab_drop (R : Tab) (p : Lead) : dropK (tab R) (lk p) = tab (drop_ R p) := by
  unfold dropK tab drop_
  rw [List.filter_map]
  congr 1
  refine List.filter_congr fun q _ => ?_
  simp only [Function.comp]
  by_cases e : q.1 = p
  · have e' : ¬ lk q.1 ≠ lk p := fun z => z (by rw [e])
    have e'' : ¬ q.1 ≠ p := fun z => z e
    rw [decide_eq_false e', decide_eq_false e'']
  · have e' : lk q.1 ≠ lk p := fun z => e (lk_inj z)
    rw [decide_eq_true e', decide_eq_true (show q.1 ≠ p from e)]
section
variable {P : Program} {w : World} {K : PySem.W.Frag} {mg : Str → Option Value} {base : Heap}
def spLonger (P : Program) (w : World) (C : Addr) (K : PySem.W.Frag) : Sp := fun vs H Q _ => ∃ (r a o : Addr) (m left i : Nat) (R : Tab) (D : Set_), vs = [.ref r, .ref a, .ref o, .int left] ∧ DT P w K H r (tab R) ∧ PairsAt K H a D ∧ OL C K H o D m ∧ DmS.Ok D ∧ D.length ≤ 2 ∧
  TabOk i R ∧ i ≤ 16 ∧ R.length ≤ 65536 ∧ left ≤ m ∧ m ≤ 16 ∧
  ∀ (p : Addr) (H' : Hp) (R' : Tab), Same H H' → H p = none → DT P w K H' p (tab R') → TabOk (i + 1) R' → wsum (Gl D left) R' = spent D (Gl D left) R → R'.length ≤ 2 * R.length → Q (.ref p) H'
theorem scLonger : FnScope ["rows", "pairs", "outlook", "left", "longer_rows", "lead", "how_many", "pair", "longer"] ["rows", "pairs", "outlook", "left"] (defScope sLonger) := ⟨rfl, rfl, rfl, by decide +kernel, rfl, by decide +kernel, by decide +kernel⟩
theorem mul_snoc (a b : Nat) : a * (b + 1) = a * b + a := Nat.mul_succ a b
theorem ok_longer {f fL fA fU fS C : Addr} {fd fdL fdA fdU fdS : FuncData} (F : Fun K "one_longer" "one_longer" sLonger f fd) (T : Txt K mg) (TC : TxtC K mg C)
    (FL : Fun K "lead_after" "lead_after" sLead fL fdL) (bL : Binds K fdL ["lead", "pair"] []) (mL : mg "lead_after" = some (.ref fL))
    (FA : Fun K "allows" "Outlook.allows" sAllows fA fdA) (bA : Binds K fdA ["self", "lead", "left"] []) (mA : Meth K C "allows" fA)
    (FU : Fun K "can_catch_up" "can_catch_up" sUp fU fdU) (bU : Binds K fdU ["ahead", "catching", "left"] []) (mU : mg "can_catch_up" = some (.ref fU))
    (FS : Fun K "can_spell" "can_spell" sSpell fS fdS) (bS : Binds K fdS ["ahead", "words", "spare"] []) (mS : mg "can_spell" = some (.ref fS)) :
    FnOk P w K mg base CX0 4 f fd ["rows", "pairs", "outlook", "left"] (spLonger P w C K) := by
  have GL : FnOk P w K mg base CX0 3 fL fdL ["lead", "pair"] (spLead K) := (ok_lead FL T).mono (by decide)
  have GA : FnOk P w K mg base CX0 3 fA fdA ["self", "lead", "left"] (spAllows C K) := ok_allows FA T TC FU bU mU FS bS mS
  refine F.ok scLonger (fun vs H Q E h => ?_) (fun cdv A outer s H vs Q E hr h => ?_)
  · obtain ⟨r, a, o, m, left, i, R, D, rfl, _⟩ := h
    rfl
  · obtain ⟨r, a, o, m, left, i, R, D, rfl, hR, hA, hO, hOk, hn, tR, hi, hRl, hlm, hm, k⟩ := h
    have hu := hu_of hr
    refine ⟨_, pss_cons (ps_set (i := 4) scLonger.nd rfl (Or.inl rfl) pe_xnew)
      (pss_cons (ps_for PassesOwn.never rfl (pi_xitems (pv 0)) (pg_tup rfl (pgs_cons (pg_name (i := 5) scLonger.nd rfl (Or.inl rfl)) (pgs_cons (pg_name (i := 6) scLonger.nd rfl (Or.inl rfl)) pgs_nil)))
        (pss_one (ps_for PassesOwn.never rfl (pi_list (pv 1)) (pg_name (i := 7) scLonger.nd rfl (Or.inl rfl))
          (pss_cons (ps_set (i := 8) scLonger.nd rfl (Or.inl rfl) (pe_call GL hr rfl mL FL.kp bL .nil pass0 (pa_cons (pv 5) (pa_cons (pv 7) pa_nil))))
          (pss_one (ps_if (PW.pt (pw_and (pt_cmp (pc_notN (pv 8))) (pw_and1 (pt_val (pe_meth (pv 2) TC.cl mA GA hr bA .nil pass0 (pa_cons (pv 8) (pa_cons (pv 3) pa_nil)))))))
            (pss_one (ps_xput hu (pv 4) (pv 8) (pe_op op_add (pe_xget2 hu (pv 4) (pv 8) pe_int ⟨rfl, rfl, rfl, rfl⟩) (pv 6)) rfl)) pss_nil))))))
      (pss_one (ps_ret (pv 4)))), ?_⟩
    obtain ⟨xs, ep, dR⟩ := hR
    obtain ⟨ps, hP, hD⟩ := id hA
    have hlen : ps.length = D.length := Paired.length hD
    intro pL hL u0 d0
    have s0 : Same H (upd H pL u0) := Same.laid hL
    generalize upd H pL u0 = H0 at d0 s0
    refine ⟨_, rfl, r, _, xs, ep, rfl, dR.same s0, for_xitems (P := P) (w := w) (K := K) (d := r) (kvs := tab R) (xs := xs) (ep := ep)
      (fun ii σ H' => ∃ (R' : Tab) (v5 v6 v7 v8 : Option V), σ = [some (.ref r), some (.ref a), some (.ref o), some (.int left), some (.ref pL), v5, v6, v7, v8] ∧ Same H H' ∧ DT P w K H' pL (tab R') ∧ TabOk (i + 1) R' ∧ wsum (Gl D left) R' = spent D (Gl D left) (R.take ii) ∧ R'.length ≤ D.length * ii)
      ⟨[], none, none, none, none, rfl, s0, d0, ⟨by simp, fun p hp => by simp at hp⟩, rfl, Nat.zero_le _⟩ (fun ii σ H' _ ⟨R', v5, v6, v7, v8, _, s1, _⟩ => dR.same s1) ?_ ?_⟩
    · rintro ii k' v b σ H1 T' hkv ⟨R', v5, v6, v7, v8, rfl, s1, d1, t1, w1, l1⟩ hT hb
      obtain ⟨q, hq, ek, ev⟩ : ∃ q, R[ii]? = some q ∧ k' = lk q.1 ∧ v = V.int ((q.2 : Nat) : Int) := by
        unfold tab at hkv
        rw [List.getElem?_map] at hkv
        cases eR : R[ii]? with
        | none => rw [eR] at hkv; cases hkv
        | some q =>
          rw [eR] at hkv
          have e := Option.some.inj hkv
          exact ⟨q, rfl, (congrArg Prod.fst e).symm, (congrArg Prod.snd e).symm⟩
      subst ek ev
      have hii : ii < R.length := (List.getElem?_eq_some_iff.mp hq).1
      have hq1 := tR.one q.1 (List.mem_map.mpr ⟨q, List.mem_of_getElem? hq, rfl⟩)
      have s2 : Same H1 (upd H1 T' (.tup [.ref b, .int ((q.2 : Nat) : Int)])) := Same.laid hT
      have s12 := s1.trans s2
      have d2 := d1.same s2
      refine ⟨T', _, rfl, SqT.of upd_same, rfl, _, _, rfl, _, _, rfl, rfl, ?_⟩
      have hb2 : LeadAt K (upd H1 T' (.tup [.ref b, .int ((q.2 : Nat) : Int)])) b q.1 := s2.tup hb
      generalize upd H1 T' (.tup [.ref b, .int ((q.2 : Nat) : Int)]) = H2 at s12 d2 hb2
      refine ⟨_, rfl, a, rfl, ⟨_, s12.seq hP⟩, for_list (K := K) (a := a) (xs := ps.map V.ref)
        (fun jj σ H' => ∃ (R' : Tab) (v7 v8 : Option V), σ = [some (.ref r), some (.ref a), some (.ref o), some (.int left), some (.ref pL), some (.ref b), some (.int ((q.2 : Nat) : Int)), v7, v8] ∧ Same H H' ∧ LeadAt K H' b q.1 ∧ DT P w K H' pL (tab R') ∧ TabOk (i + 1) R' ∧
          wsum (Gl D left) R' = spent D (Gl D left) (R.take ii) + q.2 * cost (D.take jj) (Gl D left) q.1 ∧ R'.length ≤ D.length * ii + jj)
        ⟨R', _, _, rfl, s12, hb2, d2, t1, by rw [w1]; simp [cost], by omega⟩ (fun jj σ H' _ ⟨R', v7, v8, _, s3, _⟩ => s3.seq hP) ?_ ?_⟩
      · rintro jj x σ H3 hx ⟨R', w7, w8, rfl, s3, hb3, d3, t3, w3, l3⟩
        obtain ⟨p, hp, rfl⟩ := of_map' hx
        obtain ⟨y, hy, hs⟩ := paired_get hD hp
        have hjj : jj < D.length := (List.getElem?_eq_some_iff.mp hy).1
        have hyD := List.mem_of_getElem? hy
        have hsh := hOk.short y hyD
        have cs := cost_snoc (Gl D left) q.1 hy
        have hRs : R'.length ≤ 200000 := by
          have : D.length * ii ≤ 2 * ii := Nat.mul_le_mul_right ii hn
          omega
        refine ⟨_, rfl, _, rfl, b, p, q.1, y, rfl, hb3, s3.tup hs, by omega, by omega, by omega, by omega, fun t q' hq' ht => ?_, fun hno => ?_⟩
        · -- a lead
          have s4 : Same H3 (upd H3 t (.tup [.str (sw q'.1), .str (sw q'.2)])) := Same.laid ht
          have hl4 : LeadAt K (upd H3 t (.tup [.str (sw q'.1), .str (sw q'.2)])) t q' := SqT.of upd_same
          generalize upd H3 t (.tup [.str (sw q'.1), .str (sw q'.2)]) = H4 at s4 hl4
          have s34 := s3.trans s4
          have hlen' := nextP_len hq' (i := i) hq1.2 hsh
          obtain ⟨dx, df, ca, cb, FF, o1, o2⟩ := id (hO.same s34)
          refine ⟨_, rfl, _, rfl, iteT ?_⟩
          refine ⟨_, rfl, o, dx, _, rfl, o1, of_no _ _ _ (by decide +kernel) (by decide +kernel) (by decide +kernel), _, rfl, _, rfl, o, t, m, left, D, q', rfl, hO.same s34, hl4, nextP_one hq', by omega, by omega, hlm, hm, fun rr H5 s5 hrr => ?_⟩
          have s35 := s34.trans s5
          refine ⟨_, rfl, ite2 (fun z => ?_) (fun z => ?_)⟩
          · -- it is counted
            have d5 := (d3.same s4).same s5
            have hl5 : SqT K H5 t ((lk q').map kV) := s5.tup hl4
            refine ⟨_, rfl, pL, rfl, ⟨_, d5⟩, _, rfl, _, t, lk q', rfl, d5, hl5, ?_⟩
            rw [tab_val]
            have ev : ((at_ R' q').map fun n => V.int ((n : Nat) : Int)).getD (.int 0) = .int (((at_ R' q').getD 0 : Nat) : Int) := by cases at_ R' q' <;> rfl
            rw [ev]
            have ea : (((at_ R' q').getD 0 : Nat) : Int) + ((q.2 : Nat) : Int) = (((at_ R' q').getD 0 + q.2 : Nat) : Int) := by omega
            refine ⟨_, rfl, _, _, rfl, rfl, ?_⟩
            dsimp only
            rw [ea]
            refine ⟨_, rfl, _, rfl, pL, _, t, lk q', rfl, rfl, d5, hl5, by rw [tab_len]; exact fits' (by omega), fun u' d6 => ?_⟩
            rw [tab_put t3.nd] at d6
            obtain ⟨φ, hφ⟩ := d5.isExt
            have nL : ∀ c o, H c = some o → upd H5 pL u' c = some o := fun c o e => by rw [upd_ne (ne_of_none e hL)]; exact s35 c o e
            refine ⟨addTo R' q' q.2, _, _, rfl, nL, ?_, d6, t3.add hq' hq1.2 hsh, ?_, ?_⟩
            · exact SqT.other (s5.tup (s4.tup hb3)) (ext_ntup hφ)
            · rw [wsum_add, w3, cs]
              have e1 : one (Gl D left) q.1 y = Gl D left q' := by
                unfold one
                rw [hq']
              rw [e1, Nat.mul_add]
              omega
            · have := add_len q' q.2 R'
              omega
          · have z' : rr = false := by simpa using z
            have g0 := gl_zero (D := D) (f := left) (nextP_one hq') (hrr z')
            refine ⟨R', _, _, rfl, s35, s5.tup (s4.tup hb3), (d3.same s4).same s5, t3, ?_, by omega⟩
            have e1 : one (Gl D left) q.1 y = Gl D left q' := by
              unfold one
              rw [hq']
            rw [w3, cs, e1, g0, Nat.add_zero]
        · refine ⟨_, rfl, _, rfl, iteF (iteF ?_)⟩
          refine ⟨R', _, _, rfl, s3, hb3, d3, t3, ?_, by omega⟩
          have e1 : one (Gl D left) q.1 y = 0 := by
            unfold one
            rw [hno]
          rw [w3, cs, e1, Nat.add_zero]
      · rintro σ H3 ⟨R', w7, w8, rfl, s3, hb3, d3, t3, w3, l3⟩
        rw [List.length_map, hlen, List.take_length] at w3
        rw [List.length_map, hlen] at l3
        exact ⟨R', _, _, _, _, rfl, s3, d3, t3, by rw [w3, spent_snoc D (Gl D left) hq], by rw [mul_snoc]; omega⟩
    · rintro σ H1 ⟨R', v5, v6, v7, v8, rfl, s1, d1, t1, w1, l1⟩
      rw [tab_len, List.take_length] at w1
      rw [tab_len] at l1
      exact ⟨_, rfl, k pL H1 R' s1 hL d1 t1 w1 (Nat.le_trans l1 (Nat.mul_le_mul_right _ hn))⟩
def spCount (K : PySem.W.Frag) : Sp := fun vs H Q _ => ∃ (m : Int) (b : Addr) (d : List Int), vs = [.int m, .ref b] ∧ SqL K H b (d.map V.int) ∧ PySx23.dm_count_asked m d = true ∧ ∀ p H', H' p = some (.lst ((PySx23.dm_count m d).map V.int)) → Q (.ref p) H'
theorem scCount : FnScope ["m", "d", "refusal", "pairs", "outlook", "rows", "counted", "left"] ["m", "d"] (defScope sCount) := ⟨rfl, rfl, rfl, by decide +kernel, rfl, by decide +kernel, by decide +kernel⟩
/-- what the walk asks of the defs that dm_count reaches -/
structure Defs (P : Program) (w : World) (K : PySem.W.Frag) (mg : Str → Option Value) (base : Heap) (C : Addr) (fR fT fI fO : Addr) (fdR fdT fdI fdO : FuncData) : Prop where
  GR : FnOk P w K mg base CX0 4 fR fdR ["m", "d", "most_dominoes"] (spRef K)
  kR : PySem.W.keepIn K (.ref fR) = true
  bR : Binds K fdR ["m", "d", "most_dominoes"] []
  mR : mg "search_refusal" = some (.ref fR)
  GT : FnOk P w K mg base CX0 4 fT fdT ["d"] (spPairs K)
  kT : PySem.W.keepIn K (.ref fT) = true
  bT : Binds K fdT ["d"] []
  mT : mg "text_pairs" = some (.ref fT)
  GI : FnOk P w K mg base CX0 3 fI fdI ["self", "pairs", "m"] (spInit C K)
  MI : Mk K C fI
  bI : Binds K fdI ["self", "pairs", "m"] []
  GO : FnOk P w K mg base CX0 4 fO fdO ["rows", "pairs", "outlook", "left"] (spLonger P w C K)
  kO : PySem.W.keepIn K (.ref fO) = true
  bO : Binds K fdO ["rows", "pairs", "outlook", "left"] []
  mO : mg "one_longer" = some (.ref fO)
theorem ok_count {f C fR fT fI fO : Addr} {fd fdR fdT fdI fdO : FuncData} (F : Fun K "dm_count" "dm_count" sCount f fd) (T : Txt K mg) (TC : TxtC K mg C) (G : Defs P w K mg base C fR fT fI fO fdR fdT fdI fdO) : FnOk P w K mg base CX0 5 f fd ["m", "d"] (spCount K) := by
  refine F.ok scCount (fun vs H Q E h => ?_) (fun cdv A outer s H vs Q E hr h => ?_)
  · obtain ⟨m, b, d, rfl, _⟩ := h
    rfl
  · obtain ⟨m, b, d, rfl, hA, ask, k⟩ := h
    have hu := hu_of hr
    have hu0 : (A.deeper (PyProof.Rows.envOfC "dm_count" (defScope sCount) s.heap.objs.size f cdv)).units < cLine := Nat.lt_of_le_of_lt (Nat.le_add_right _ 1) hu
    obtain ⟨h1, h2, nd, h4⟩ := DmS.count_asked ask
    have hby := DmS.count_bytes ask
    have eq := DmS.count_eq ask
    obtain ⟨aN, mN, hN⟩ := T.nl
    refine ⟨_, pss_cons (ps_set (i := 2) scCount.nd rfl (Or.inl rfl) (pe_call G.GR hr rfl G.mR G.kR G.bR .nil pass0 (pa_cons (pv 0) (pa_cons (pv 1) (pa_cons (pc rfl T.mc) pa_nil)))))
      (pss_cons (ps_if (pt_cmp (pc_notN (pv 2))) (pss_one (ps_ret (pe_lst (pa_cons (pv 2) pa_nil)))) pss_nil)
      (pss_cons (ps_set (i := 3) scCount.nd rfl (Or.inl rfl) (pe_call G.GT hr rfl G.mT G.kT G.bT .nil pass0 (pa_cons (pv 1) pa_nil)))
      (pss_cons (ps_set (i := 4) scCount.nd rfl (Or.inl rfl) (pe_make G.MI G.GI hr rfl TC.mgC G.bI .nil pass0 (pa_cons (pv 3) (pa_cons (pv 0) pa_nil))))
      (pss_cons (ps_set (i := 5) scCount.nd rfl (Or.inl rfl) (pe_xone hu0 (pe_glob (v := .ref aN) rfl mN rfl) pe_int))
      (pss_cons (ps_set (i := 6) scCount.nd rfl (Or.inl rfl) pe_int)
      (pss_cons (ps_for PassesOwn.never rfl (pi_range3 rfl T.rng (pa_cons (pe_op op_sub (pv 0) pe_int) (pa_cons (pe_un un_neg pe_int) (pa_cons (pe_un un_neg pe_int) pa_nil)))) (pg_name (i := 7) scCount.nd rfl (Or.inl rfl))
        (pss_cons (ps_set (i := 5) scCount.nd rfl (Or.inl rfl) (pe_call G.GO hr rfl G.mO G.kO G.bO .nil pass0 (pa_cons (pv 5) (pa_cons (pv 3) (pa_cons (pv 4) (pa_cons (pv 7) pa_nil))))))
        (pss_one (ps_aug (i := 6) scCount.nd rfl (Or.inl rfl) (pe_xpop2 hu (pv 5) (pe_glob (v := .ref aN) rfl mN rfl) pe_int ⟨rfl, rfl, rfl, rfl⟩) ip_add))))
      (pss_one (ps_ret (pe_lst (pa_cons (pv 6) pa_nil)))))))))), ?_⟩
    refine ⟨_, rfl, _, rfl, m, 2, b, d, rfl, hA, h1, by omega, ?_⟩
    by_cases q : d.length / 18 < 1 ∨ (2 : Int) < ((d.length / 18 : Nat) : Int) ∨ m < 1 ∨ 16 < m
    · rw [if_pos q]
      refine ⟨_, rfl, _, rfl, iteT ?_⟩
      refine ⟨_, rfl, by show 1 ≤ sizeLine; decide, fun p hp => k p _ ?_⟩
      rw [upd_same, eq, if_pos (by omega)]
      rfl
    rw [if_neg q]
    by_cases qL : DmS.LongW d
    · rw [if_pos qL]
      refine ⟨_, rfl, _, rfl, iteT ?_⟩
      refine ⟨_, rfl, by show 1 ≤ sizeLine; decide, fun p hp => k p _ ?_⟩
      rw [upd_same, eq, if_neg (by omega), if_pos qL]
      rfl
    rw [if_neg qL]
    rw [if_neg (by omega), if_neg qL] at eq
    refine ⟨_, rfl, _, rfl, iteF ?_⟩
    obtain ⟨n, en⟩ : ∃ n : Nat, m = (n : Int) := ⟨m.toNat, by omega⟩
    subst en
    have en1 : 1 ≤ n := by omega
    have en2 : n ≤ 16 := by omega
    rw [Int.toNat_natCast] at eq
    -- pairs
    refine ⟨_, rfl, b, d, rfl, hA, h1, by omega, hby, qL, fun pP H1 s1 nP hP => ?_⟩
    have hOk := DmS.tdoms_ok qL h1
    have hDl : (DmS.tdoms d).length ≤ 2 := by rw [DmS.tdoms_len]; exact h2
    have hDn : DmS.tdoms d ≠ [] := fun e => by
      have := congrArg List.length e
      rw [DmS.tdoms_len] at this
      simp at this
      omega
    have etot : Sx23.countFrom (DmS.tdoms d) n (true, []) = Sx23.countFrom (DmS.doms d) n (true, []) := DmT.count_txt (DmS.doms d) n (true, [])
    generalize hDe : DmS.tdoms d = D at hP hOk hDl hDn etot
    -- outlook
    refine ⟨_, rfl, _, rfl, fun x dx nx ndx nex => ?_⟩
    have s2 : Same H1 (upd (upd H1 dx (.own x)) x (.ins C dx [])) := fun c u e => by rw [upd_ne (ne_of_none e nx), upd_ne (ne_of_none e ndx)]; exact e
    refine ⟨x, dx, pP, n, D, rfl, upd_same, hP.same s2, hDn, by omega, hOk, en2, fun H3 hO bO => ⟨rfl, ?_⟩⟩
    have s3 : Same H1 H3 := fun c u e => bO c u (s2 c u e) (ne_of_none e nx)
    have hP3 := hP.same s3
    -- rows = {NO_LEAD: 1}
    intro pR hR u0 d0
    have hNk : ∀ H, SqT K H aN ((lk ([], [])).map kV) := hN
    refine ⟨aN, lk ([], []), rfl, hNk _, d0, fun u1 d1 => ?_⟩
    rw [upd_upd] at d1 ⊢
    have s4 : Same H3 (upd H3 pR u1) := Same.laid hR
    generalize upd H3 pR u1 = H4 at d1 s4
    have d1' : DT P w K H4 pR (tab [(([], []), 1)]) := d1
    -- the rounds
    refine ⟨_, rfl, _, _, rfl, rfl, _, rfl, _, rfl, (n : Int) - 1, -1, -1, n, rfl, ?_, ?_⟩
    · have := RgC.neg (i := (n : Int) - 1) (j := -1) (by omega) (by omega) (by omega) (by omega)
      have e : (((n : Int) - 1) - (-1)).toNat = n := by omega
      rw [e] at this
      exact this
    refine for_rangeC (fun i σ H' => ∃ (R : Tab) (c : Nat) (r : Addr) (v7 : Option V), σ = [some (.int n), some (.ref b), some .non, some (.ref pP), some (.ref x), some (.ref r), some (.int c), v7] ∧ Same H3 H' ∧ DT P w K H' r (tab R) ∧ TabOk i R ∧ R.length ≤ 2 ^ i ∧
        c + wsum (fun p => Sx23.countFrom D (n - i) (dec p)) R = Sx23.countFrom D n (true, []))
      ⟨[(([], []), 1)], 0, pR, none, rfl, s4, d1', ⟨by simp, fun p hp => by
        have e : p = ([], []) := by simpa using hp
        subst e
        exact ⟨.inl rfl, by decide, by decide⟩⟩, Nat.le_refl _, start_ok D n⟩ ?_ ?_
    · rintro i σ H5 hi ⟨R, c, r, v7, rfl, s5, d5, t5, l5, w5⟩
      have ei : (n : Int) - 1 + (i : Int) * (-1) = ((n - 1 - i : Nat) : Int) := by omega
      rw [ei]
      have hpow : (2 : Nat) ^ i ≤ 2 ^ 15 := Nat.pow_le_pow_right (by decide) (by omega)
      have e15 : (2 : Nat) ^ 15 = 32768 := by decide
      refine ⟨_, rfl, _, rfl, _, rfl, _, rfl, r, pP, x, n, n - 1 - i, i, R, D, rfl, d5, hP3.same s5, hO.same s5, hOk, hDl, t5, by omega, by omega, by omega, en2, fun r' H6 R' s6 nr' d6 t6 w6 l6 => ?_⟩
      have ef : n - i = n - 1 - i + 1 := by omega
      rw [ef] at w5
      have ro := round_ok t5 t6 w6 w5
      have ef2 : n - (i + 1) = n - 1 - i := by omega
      have lp : R'.length ≤ 2 ^ (i + 1) := by rw [Nat.pow_succ]; omega
      have fin : ∀ (c' : Nat) (H7 : Hp) (R7 : Tab), Same H3 H7 → DT P w K H7 r' (tab R7) → TabOk (i + 1) R7 → R7.length ≤ R'.length → c' + wsum (fun p => Sx23.countFrom D (n - 1 - i) (dec p)) R7 = Sx23.countFrom D n (true, []) →
          ∃ (R : Tab) (c : Nat) (r : Addr) (v7 : Option V), [some (V.int n), some (.ref b), some .non, some (.ref pP), some (.ref x), some (.ref r'), some (.int c'), some (.int ((n - 1 - i : Nat) : Int))] = [some (.int n), some (.ref b), some .non, some (.ref pP), some (.ref x), some (.ref r), some (.int c), v7] ∧ Same H3 H7 ∧ DT P w K H7 r (tab R) ∧ TabOk (i + 1) R ∧ R.length ≤ 2 ^ (i + 1) ∧
            c + wsum (fun p => Sx23.countFrom D (n - (i + 1)) (dec p)) R = Sx23.countFrom D n (true, []) := fun c' H7 R7 a1 a2 a3 a4 a5 => ⟨R7, c', r', _, rfl, a1, a2, a3, Nat.le_trans a4 lp, by rw [ef2]; exact a5⟩
      have nr : ∀ c o, H3 c = some o → c ≠ r' := fun c o e z => by
        rw [z] at e
        rw [s5 _ _ e] at nr'
        cases nr'
      refine ⟨_, rfl, _, rfl, r', rfl, ⟨_, d6⟩, _, aN, lk ([], []), rfl, d6, hNk _, fun v hv u d7 => ?_, fun hv => ?_⟩
      · rw [tab_val] at hv
        rw [tab_drop] at d7
        cases eA : at_ R' ([], []) with
        | none => rw [eA] at hv; cases hv
        | some z =>
          rw [eA] at hv ro
          have ev : v = V.int ((z : Nat) : Int) := (Option.some.inj hv).symm
          subst ev
          have ez : ((c : Nat) : Int) + ((z : Nat) : Int) = ((c + z : Nat) : Int) := by omega
          refine ⟨_, _, rfl, rfl, ?_⟩
          dsimp only
          rw [ez]
          refine fin (c + z) _ (drop_ R' ([], [])) (fun c' o' e => ?_) d7 (t6.drop _) (List.length_filter_le _ _) ro
          rw [upd_ne (nr c' o' e)]
          exact s6 _ _ (s5 _ _ e)
      · rw [tab_val] at hv
        cases eA : at_ R' ([], []) with
        | some z => rw [eA] at hv; cases hv
        | none =>
          rw [eA] at ro
          have ed : drop_ R' ([], []) = R' := by
            unfold drop_
            rw [List.filter_eq_self]
            intro q hq
            rw [decide_eq_true_iff]
            exact fun e => at_none eA (List.mem_map.mpr ⟨q, hq, e⟩)
          rw [ed] at ro
          have ez : ((c : Nat) : Int) + 0 = ((c + 0 : Nat) : Int) := by omega
          refine ⟨_, _, rfl, rfl, ?_⟩
          dsimp only
          rw [ez]
          exact fin (c + 0) _ R' (s5.trans s6) d6 t6 (Nat.le_refl _) ro
    · rintro σ H5 ⟨R, c, r, v7, rfl, s5, d5, t5, l5, w5⟩
      rw [Nat.sub_self] at w5
      have ec := end_ok w5
      refine ⟨_, rfl, by show 1 ≤ sizeLine; decide, fun p hp => k p _ ?_⟩
      rw [upd_same, eq, ec, etot]
      rfl
end
end Dc

set_option Elab.async false
set_option linter.all false
set_option maxRecDepth 100000
set_option maxHeartbeats 4000000
namespace Dc
open PySem L2
theorem all_mk {w : World} {K : PySem.W.Frag} {h : Heap} {mg : Str → Option Value} {P : Program} {fa C nl f1 f2 f3 f4 f5 f6 f7 f8 f9 f10 f11 f12 f13 f14 : Addr} (X : K.In h) (G : h.Ns mainGlobals mg) (hfa : mg "dm_count" = some (.ref fa))
    {od1 an1 od2 an2 od3 an3 od4 an4 od5 an5 od6 an6 od7 an7 od8 an8 od9 an9 od10 an10 od11 an11 od12 an12 od13 an13 od14 an14 odN : Option Addr} {sl1 sl2 sl3 sl4 sl5 sl6 sl7 sl8 sl9 sl10 sl11 sl12 sl13 sl14 slN : Array (Option Value)} {oc1 kV1 dc1 pm1 cd1 ct1 oc2 kV2 dc2 pm2 cd2 ct2 oc3 kV3 dc3 pm3 cd3 ct3 oc4 kV4 dc4 pm4 cd4 ct4 oc5 kV5 dc5 pm5 cd5 ct5 oc6 kV6 dc6 pm6 cd6 ct6 oc7 kV7 dc7 pm7 cd7 ct7 oc8 kV8 dc8 pm8 cd8 ct8 oc9 kV9 dc9 pm9 cd9 ct9 oc10 kV10 dc10 pm10 cd10 ct10 oc11 kV11 dc11 pm11 cd11 ct11 oc12 kV12 dc12 pm12 cd12 ct12 oc13 kV13 dc13 pm13 cd13 ct13 oc14 kV14 dc14 pm14 cd14 ct14 : Value}
    {t1 t2 t3 t4 t5 t6 t7 t8 t9 t10 t11 tN1 tN2 : Tok} {nN : Nat}
    (z1 : PySem.W.nsIn K mainGlobals "len" = some none)
    (z2 : PySem.W.nsIn K mainGlobals "range" = some none)
    (z3 : PySem.W.nsIn K mainGlobals "str" = some none)
    (z4 : PySem.W.nsIn K mainGlobals "min" = some none)
    (z5 : PySem.W.nsIn K mainGlobals "max" = some none)
    (z6 : PySem.W.nsIn K mainGlobals "zip" = some none)
    (z7 : PySem.W.nsIn K mainGlobals "sorted" = some none)
    (y1 : PySem.W.nsIn K mainGlobals "MOST_LETTERS" = some (some (.int 8 t1)))
    (y2 : PySem.W.nsIn K mainGlobals "WORD_BYTES" = some (some (.int 9 t2)))
    (y3 : PySem.W.nsIn K mainGlobals "DOMINO_BYTES" = some (some (.int 18 t3)))
    (y4 : PySem.W.nsIn K mainGlobals "ABOVE" = some (some (.int 0 t4)))
    (y5 : PySem.W.nsIn K mainGlobals "BELOW" = some (some (.int 9 t5)))
    (y6 : PySem.W.nsIn K mainGlobals "LONGEST_SEARCH" = some (some (.int 16 t6)))
    (y7 : PySem.W.nsIn K mainGlobals "LETTER_BASE" = some (some (.int 100 t7)))
    (y8 : PySem.W.nsIn K mainGlobals "LETTER_SIGNS" = some (some (.int 3 t8)))
    (y9 : PySem.W.nsIn K mainGlobals "OUT_OF_RANGE" = some (some (.int (-2) t9)))
    (y10 : PySem.W.nsIn K mainGlobals "NOT_ALLOWED" = some (some (.int (-3) t10)))
    (y11 : PySem.W.nsIn K mainGlobals "MOST_COUNTED" = some (some (.int 2 t11)))
    (aN : PySem.W.nsIn K mainGlobals "NO_LEAD" = some (some (.ref nl))) (lN : K.lookup nl = some ⟨.type "tuple", odN, .seq #[.str "" tN1, .str "" tN2] nN, slN⟩)
    (a1 : PySem.W.nsIn K mainGlobals "has_long_word" = some (some (.ref f1))) (l1 : K.lookup f1 = some ⟨oc1, od1, .func (PySem.W.fnOf "has_long_word" "has_long_word" (defArgs sLong) (defBody sLong) (defScope sLong) .none kV1 dc1 pm1 an1 cd1 ct1), sl1⟩) (c1 : PySem.W.codeIn K cd1 "has_long_word" = true) (k1 : PySem.W.keepIn K (.ref f1) = true)
    (a2 : PySem.W.nsIn K mainGlobals "word_of" = some (some (.ref f2))) (l2 : K.lookup f2 = some ⟨oc2, od2, .func (PySem.W.fnOf "word_of" "word_of" (defArgs sWord) (defBody sWord) (defScope sWord) .none kV2 dc2 pm2 an2 cd2 ct2), sl2⟩) (c2 : PySem.W.codeIn K cd2 "word_of" = true) (k2 : PySem.W.keepIn K (.ref f2) = true)
    (a3 : PySem.W.nsIn K mainGlobals "text_of" = some (some (.ref f3))) (l3 : K.lookup f3 = some ⟨oc3, od3, .func (PySem.W.fnOf "text_of" "text_of" (defArgs sText) (defBody sText) (defScope sText) .none kV3 dc3 pm3 an3 cd3 ct3), sl3⟩) (c3 : PySem.W.codeIn K cd3 "text_of" = true) (k3 : PySem.W.keepIn K (.ref f3) = true)
    (a4 : PySem.W.nsIn K mainGlobals "text_pairs" = some (some (.ref f4))) (l4 : K.lookup f4 = some ⟨oc4, od4, .func (PySem.W.fnOf "text_pairs" "text_pairs" (defArgs sPairs) (defBody sPairs) (defScope sPairs) .none kV4 dc4 pm4 an4 cd4 ct4), sl4⟩) (c4 : PySem.W.codeIn K cd4 "text_pairs" = true) (k4 : PySem.W.keepIn K (.ref f4) = true)
    (a5 : PySem.W.nsIn K mainGlobals "lead_after" = some (some (.ref f5))) (l5 : K.lookup f5 = some ⟨oc5, od5, .func (PySem.W.fnOf "lead_after" "lead_after" (defArgs sLead) (defBody sLead) (defScope sLead) .none kV5 dc5 pm5 an5 cd5 ct5), sl5⟩) (c5 : PySem.W.codeIn K cd5 "lead_after" = true) (k5 : PySem.W.keepIn K (.ref f5) = true)
    (a6 : PySem.W.nsIn K mainGlobals "fewest_by_gain" = some (some (.ref f6))) (l6 : K.lookup f6 = some ⟨oc6, od6, .func (PySem.W.fnOf "fewest_by_gain" "fewest_by_gain" (defArgs sFewest) (defBody sFewest) (defScope sFewest) .none kV6 dc6 pm6 an6 cd6 ct6), sl6⟩) (c6 : PySem.W.codeIn K cd6 "fewest_by_gain" = true) (k6 : PySem.W.keepIn K (.ref f6) = true)
    (a7 : PySem.W.nsIn K mainGlobals "catchers" = some (some (.ref f7))) (l7 : K.lookup f7 = some ⟨oc7, od7, .func (PySem.W.fnOf "catchers" "catchers" (defArgs sCatch) (defBody sCatch) (defScope sCatch) .none kV7 dc7 pm7 an7 cd7 ct7), sl7⟩) (c7 : PySem.W.codeIn K cd7 "catchers" = true) (k7 : PySem.W.keepIn K (.ref f7) = true)
    (a8 : PySem.W.nsIn K mainGlobals "can_spell" = some (some (.ref f8))) (l8 : K.lookup f8 = some ⟨oc8, od8, .func (PySem.W.fnOf "can_spell" "can_spell" (defArgs sSpell) (defBody sSpell) (defScope sSpell) .none kV8 dc8 pm8 an8 cd8 ct8), sl8⟩) (c8 : PySem.W.codeIn K cd8 "can_spell" = true) (k8 : PySem.W.keepIn K (.ref f8) = true)
    (a9 : PySem.W.nsIn K mainGlobals "can_catch_up" = some (some (.ref f9))) (l9 : K.lookup f9 = some ⟨oc9, od9, .func (PySem.W.fnOf "can_catch_up" "can_catch_up" (defArgs sUp) (defBody sUp) (defScope sUp) .none kV9 dc9 pm9 an9 cd9 ct9), sl9⟩) (c9 : PySem.W.codeIn K cd9 "can_catch_up" = true) (k9 : PySem.W.keepIn K (.ref f9) = true)
    (a10 : PySem.W.nsIn K mainGlobals "search_refusal" = some (some (.ref f10))) (l10 : K.lookup f10 = some ⟨oc10, od10, .func (PySem.W.fnOf "search_refusal" "search_refusal" (defArgs sRef) (defBody sRef) (defScope sRef) .none kV10 dc10 pm10 an10 cd10 ct10), sl10⟩) (c10 : PySem.W.codeIn K cd10 "search_refusal" = true) (k10 : PySem.W.keepIn K (.ref f10) = true)
    (a11 : PySem.W.nsIn K mainGlobals "one_longer" = some (some (.ref f11))) (l11 : K.lookup f11 = some ⟨oc11, od11, .func (PySem.W.fnOf "one_longer" "one_longer" (defArgs sLonger) (defBody sLonger) (defScope sLonger) .none kV11 dc11 pm11 an11 cd11 ct11), sl11⟩) (c11 : PySem.W.codeIn K cd11 "one_longer" = true) (k11 : PySem.W.keepIn K (.ref f11) = true)
    (a12 : PySem.W.nsIn K mainGlobals "dm_count" = some (some (.ref f12))) (l12 : K.lookup f12 = some ⟨oc12, od12, .func (PySem.W.fnOf "dm_count" "dm_count" (defArgs sCount) (defBody sCount) (defScope sCount) .none kV12 dc12 pm12 an12 cd12 ct12), sl12⟩) (c12 : PySem.W.codeIn K cd12 "dm_count" = true) (k12 : PySem.W.keepIn K (.ref f12) = true)
    (aC : PySem.W.nsIn K mainGlobals "Outlook" = some (some (.ref C)))
    (a13 : PySem.W.findIn K (.ref C) "__init__" = some (some (.ref f13))) (i13 : PySem.W.isFn K (.ref f13) = true) (l13 : K.lookup f13 = some ⟨oc13, od13, .func (PySem.W.fnOf "__init__" "Outlook.__init__" (defArgs sInit) (defBody sInit) (defScope sInit) .none kV13 dc13 pm13 an13 cd13 ct13), sl13⟩) (c13 : PySem.W.codeIn K cd13 "Outlook.__init__" = true) (k13 : PySem.W.keepIn K (.ref f13) = true)
    (a14 : PySem.W.findIn K (.ref C) "allows" = some (some (.ref f14))) (i14 : PySem.W.isFn K (.ref f14) = true) (l14 : K.lookup f14 = some ⟨oc14, od14, .func (PySem.W.fnOf "allows" "Outlook.allows" (defArgs sAllows) (defBody sAllows) (defScope sAllows) .none kV14 dc14 pm14 an14 cd14 ct14), sl14⟩) (c14 : PySem.W.codeIn K cd14 "Outlook.allows" = true) (k14 : PySem.W.keepIn K (.ref f14) = true)
    (pgC : PySem.W.plainGet K C Str.empty = true) (hdC : PySem.W.hasDictIn K C = true) (poC : PySem.W.plainOver K C = true) (saC : PySem.W.findIn K (.ref C) "__setattr__" = some (some (.builtin "object.__setattr__"))) (mkC : PySem.W.makesIn K C = true) (kcC : PySem.W.keepIn K (.ref C) = true)
    (nF : PySem.W.findIn K (.ref C) "fewest" = some none) (nA : PySem.W.findIn K (.ref C) "catching_above" = some none) (nB : PySem.W.findIn K (.ref C) "catching_below" = some none) :
    ∃ fd : FuncData, Binds K fd ["m", "d"] [] ∧ ∀ base : Heap, K.In base → base.Ns mainGlobals mg → FnOk P w K mg base CX0 5 fa fd ["m", "d"] (spCount K) := by
  have e := hfa.symm.trans (PySem.W.mg_of X G a12)
  cases e
  have T : Txt K mg := ⟨PySem.W.mg_none_of X G z1, PySem.W.mg_none_of X G z2, PySem.W.mg_none_of X G z3, PySem.W.mg_none_of X G z4, PySem.W.mg_none_of X G z5, PySem.W.mg_none_of X G z6, PySem.W.mg_none_of X G z7, ⟨_, PySem.W.mg_of X G y1⟩, ⟨_, PySem.W.mg_of X G y2⟩, ⟨_, PySem.W.mg_of X G y3⟩, ⟨_, PySem.W.mg_of X G y4⟩, ⟨_, PySem.W.mg_of X G y5⟩, ⟨_, PySem.W.mg_of X G y6⟩, ⟨_, PySem.W.mg_of X G y7⟩, ⟨_, PySem.W.mg_of X G y8⟩, ⟨_, PySem.W.mg_of X G y9⟩, ⟨_, PySem.W.mg_of X G y10⟩, ⟨nl, PySem.W.mg_of X G aN, fun H => .inr ⟨_, _, _, lN, rfl, rfl, by show 2 ≤ sizeLine; decide, .cons ⟨_, rfl⟩ (.cons ⟨_, rfl⟩ .nil)⟩⟩, ⟨_, PySem.W.mg_of X G y11⟩⟩
  have TC : TxtC K mg C := ⟨⟨pgC, hdC, poC, saC⟩, nF, nA, nB, PySem.W.mg_of X G aC⟩
  have F1 := fun_mk (st := sLong) l1 c1 k1
  have F2 := fun_mk (st := sWord) l2 c2 k2
  have F3 := fun_mk (st := sText) l3 c3 k3
  have F4 := fun_mk (st := sPairs) l4 c4 k4
  have F5 := fun_mk (st := sLead) l5 c5 k5
  have F6 := fun_mk (st := sFewest) l6 c6 k6
  have F7 := fun_mk (st := sCatch) l7 c7 k7
  have F8 := fun_mk (st := sSpell) l8 c8 k8
  have F9 := fun_mk (st := sUp) l9 c9 k9
  have F10 := fun_mk (st := sRef) l10 c10 k10
  have F11 := fun_mk (st := sLonger) l11 c11 k11
  have F12 := fun_mk (st := sCount) l12 c12 k12
  have F13 := fun_mk (st := sInit) l13 c13 k13
  have F14 := fun_mk (st := sAllows) l14 c14 k14
  have b1 := F1.binds (ps := ["d"]) fun _ _ _ _ _ _ us hl => match us, hl with | [_], _ => rfl
  have b2 := F2.binds (ps := ["d", "number", "side"]) fun _ _ _ _ _ _ us hl => match us, hl with | [_, _, _], _ => rfl
  have b3 := F3.binds (ps := ["letters"]) fun _ _ _ _ _ _ us hl => match us, hl with | [_], _ => rfl
  have b4 := F4.binds (ps := ["d"]) fun _ _ _ _ _ _ us hl => match us, hl with | [_], _ => rfl
  have b5 := F5.binds (ps := ["lead", "pair"]) fun _ _ _ _ _ _ us hl => match us, hl with | [_, _], _ => rfl
  have b6 := F6.binds (ps := ["pairs", "m"]) fun _ _ _ _ _ _ us hl => match us, hl with | [_, _], _ => rfl
  have b7 := F7.binds (ps := ["pairs", "side"]) fun _ _ _ _ _ _ us hl => match us, hl with | [_, _], _ => rfl
  have b8 := F8.binds (ps := ["ahead", "words", "spare"]) fun _ _ _ _ _ _ us hl => match us, hl with | [_, _, _], _ => rfl
  have b9 := F9.binds (ps := ["ahead", "catching", "left"]) fun _ _ _ _ _ _ us hl => match us, hl with | [_, _, _], _ => rfl
  have b10 := F10.binds (ps := ["m", "d", "most_dominoes"]) fun _ _ _ _ _ _ us hl => match us, hl with | [_, _, _], _ => rfl
  have b11 := F11.binds (ps := ["rows", "pairs", "outlook", "left"]) fun _ _ _ _ _ _ us hl => match us, hl with | [_, _, _, _], _ => rfl
  have b12 := F12.binds (ps := ["m", "d"]) fun _ _ _ _ _ _ us hl => match us, hl with | [_, _], _ => rfl
  have b13 := F13.binds (ps := ["self", "pairs", "m"]) fun _ _ _ _ _ _ us hl => match us, hl with | [_, _, _], _ => rfl
  have b14 := F14.binds (ps := ["self", "lead", "left"]) fun _ _ _ _ _ _ us hl => match us, hl with | [_, _, _], _ => rfl
  refine ⟨_, b12, fun base _ _ => ok_count F12 T TC ⟨?_, k10, b10, PySem.W.mg_of X G a10, ?_, k4, b4, PySem.W.mg_of X G a4, ?_, ⟨mkC, a13, i13, kcC⟩, b13, ?_, k11, b11, PySem.W.mg_of X G a11⟩⟩
  · exact (ok_ref F10 T F1 b1 (PySem.W.mg_of X G a1)).mono (by decide)
  · exact (ok_pairs F4 T F3 b3 (PySem.W.mg_of X G a3) F2 b2 (PySem.W.mg_of X G a2)).mono (by decide)
  · exact (ok_init F13 T TC F6 b6 (PySem.W.mg_of X G a6) F7 b7 (PySem.W.mg_of X G a7)).mono (by decide)
  · exact ok_longer F11 T TC F5 b5 (PySem.W.mg_of X G a5) F14 b14 ⟨a14, i14, k14⟩ F9 b9 (PySem.W.mg_of X G a9) F8 b8 (PySem.W.mg_of X G a8)
end Dc

open PySem PySem.W PyProof.Rows
set_option Elab.async false
set_option maxRecDepth 100000
namespace Dc
open PySem L2
theorem said : PySem.Challenge.rw_spellsame_s03_dm_count.wellSaid = true := by decide +kernel
theorem due_at (K : PySem.W.Frag) (H : Hp) (b : Addr) (x : Int) (y : List Int) (Q : VK) (E : XK) (_ : -2147483648 ≤ x) (_ : x ≤ 2147483647) (h2 : SqL K H b (y.map V.int)) (h3 : PySx23.dm_count_asked x y = true) (h4 : ∀ p H', H' p = some (.lst ((PySx23.dm_count x y).map V.int)) → Q (.ref p) H') : spCount K [.int x, .ref b] H Q E :=
  ⟨x, b, y, rfl, h2, h3, h4⟩
end Dc
set_option maxRecDepth 100000 in
set_option maxHeartbeats 0 in
theorem PySem.Challenge.cw_spellsame_s03_dm_count_holds : PySem.Challenge.rw_spellsame_s03_dm_count.Holds := by
  w_on; k_headS; (case hw => exact ⟨[.int 0, .list []], by decide +kernel, by decide +kernel⟩)
  k_fillS
  refine L2.walk_il (sp := Dc.spCount) (ps := ["m", "d"]) (k := 5) Dc.said (by decide) rfl rfl ⟨rfl, by decide, by decide⟩ (fun w h Y => PySem.W.kIn_of Y) ?F Dc.due_at
  case F =>
    intro w mg fa h KX G hmg
    refine' Dc.all_mk KX G hmg ?z1 ?z2 ?z3 ?z4 ?z5 ?z6 ?z7 ?y1 ?y2 ?y3 ?y4 ?y5 ?y6 ?y7 ?y8 ?y9 ?y10 ?y11 ?aN ?lN ?a1 ?l1 ?c1 ?k1 ?a2 ?l2 ?c2 ?k2 ?a3 ?l3 ?c3 ?k3 ?a4 ?l4 ?c4 ?k4 ?a5 ?l5 ?c5 ?k5 ?a6 ?l6 ?c6 ?k6 ?a7 ?l7 ?c7 ?k7 ?a8 ?l8 ?c8 ?k8 ?a9 ?l9 ?c9 ?k9 ?a10 ?l10 ?c10 ?k10 ?a11 ?l11 ?c11 ?k11 ?a12 ?l12 ?c12 ?k12 ?aC ?a13 ?i13 ?l13 ?c13 ?k13 ?a14 ?i14 ?l14 ?c14 ?k14 ?pgC ?hdC ?poC ?saC ?mkC ?kcC ?nF ?nA ?nB
    (case z1 => k_is)
    (case z2 => k_is)
    (case z3 => k_is)
    (case z4 => k_is)
    (case z5 => k_is)
    (case z6 => k_is)
    (case z7 => k_is)
    (case y1 => k_is)
    (case y2 => k_is)
    (case y3 => k_is)
    (case y4 => k_is)
    (case y5 => k_is)
    (case y6 => k_is)
    (case y7 => k_is)
    (case y8 => k_is)
    (case y9 => k_is)
    (case y10 => k_is)
    (case y11 => k_is)
    (case aN => k_is)
    (case lN => k_is)
    (case a1 => k_is)
    (case l1 => k_is)
    (case c1 => k_is)
    (case k1 => k_is)
    (case a2 => k_is)
    (case l2 => k_is)
    (case c2 => k_is)
    (case k2 => k_is)
    (case a3 => k_is)
    (case l3 => k_is)
    (case c3 => k_is)
    (case k3 => k_is)
    (case a4 => k_is)
    (case l4 => k_is)
    (case c4 => k_is)
    (case k4 => k_is)
    (case a5 => k_is)
    (case l5 => k_is)
    (case c5 => k_is)
    (case k5 => k_is)
    (case a6 => k_is)
    (case l6 => k_is)
    (case c6 => k_is)
    (case k6 => k_is)
    (case a7 => k_is)
    (case l7 => k_is)
    (case c7 => k_is)
    (case k7 => k_is)
    (case a8 => k_is)
    (case l8 => k_is)
    (case c8 => k_is)
    (case k8 => k_is)
    (case a9 => k_is)
    (case l9 => k_is)
    (case c9 => k_is)
    (case k9 => k_is)
    (case a10 => k_is)
    (case l10 => k_is)
    (case c10 => k_is)
    (case k10 => k_is)
    (case a11 => k_is)
    (case l11 => k_is)
    (case c11 => k_is)
    (case k11 => k_is)
    (case a12 => k_is)
    (case l12 => k_is)
    (case c12 => k_is)
    (case k12 => k_is)
    (case aC => k_is)
    (case a13 => k_is)
    (case i13 => k_is)
    (case l13 => k_is)
    (case c13 => k_is)
    (case k13 => k_is)
    (case a14 => k_is)
    (case i14 => k_is)
    (case l14 => k_is)
    (case c14 => k_is)
    (case k14 => k_is)
    (case pgC => k_is)
    (case hdC => k_is)
    (case poC => k_is)
    (case saC => k_is)
    (case mkC => k_is)
    (case kcC => k_is)
    (case nF => k_is)
    (case nA => k_is)
    (case nB => k_is)
#print axioms PySem.Challenge.cw_spellsame_s03_dm_count_holds
