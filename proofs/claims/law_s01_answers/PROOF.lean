import PyProof.Rows.All
import Wide.All
import OpenK.AllK
import Wide.FinOn
import PyProof.EqAt
import PyProof.EqKinds
import PyProof.TupleCall
import KE.BitLaws
import Open.SpecLaws
import KE.OsHead
import KE.OsGo
import PySem.Challenge.RW_resistornets_s01_answers
set_option Elab.async false
set_option linter.all false
set_option maxRecDepth 100000
namespace L2
open PySem PySem.Spec PyProof.Rows
/-- a key: an int or a str -/
abbrev Key := Sum Int Str
def keyIs : Key → Value → Bool
  | .inl k, v => Value.isInt k v
  | .inr x, v => Value.isStrOf x v
def keyH (w : World) : Key → Int
  | .inl k => hashInt k
  | .inr x => hashStr w x
theorem keyIs_shape : ∀ {k : Key} {v : Value}, keyIs k v = true → (∃ i t, k = Sum.inl i ∧ v = Value.int i t) ∨ (∃ x t, k = Sum.inr x ∧ v = Value.str x t)
  | .inl i, v, h => by
    obtain ⟨t, e⟩ := Value.isInt_shape (k := i) (v := v) h
    exact .inl ⟨i, t, rfl, e⟩
  | .inr x, v, h => by
    obtain ⟨t, e⟩ := Value.isStrOf_shape (x := x) (v := v) h
    exact .inr ⟨x, t, rfl, e⟩
theorem keyIs_int (i : Int) (t : Tok) : keyIs (.inl i) (.int i t) = true := by simp [keyIs, Value.isInt]
theorem keyIs_str (x : Str) (t : Tok) : keyIs (.inr x) (.str x t) = true := by simp [keyIs, Value.isStrOf]
theorem key_ll (a b : Int) : decide ((Sum.inl a : Key) = Sum.inl b) = (a == b) := by
  by_cases e : a = b
  · subst e; simp
  · have h : ¬ (Sum.inl a : Key) = Sum.inl b := fun q => e (Sum.inl.inj q)
    rw [decide_eq_false h]
    exact (beq_eq_false_iff_ne.mpr e).symm
theorem key_rr (a b : Str) : decide ((Sum.inr a : Key) = Sum.inr b) = decide (a = b) := by
  by_cases e : a = b
  · subst e; simp
  · have h : ¬ (Sum.inr a : Key) = Sum.inr b := fun q => e (Sum.inr.inj q)
    rw [decide_eq_false h, decide_eq_false e]
theorem key_lr (a : Int) (b : Str) : decide ((Sum.inl a : Key) = Sum.inr b) = false := decide_eq_false (fun q => nomatch q)
theorem key_rl (a : Str) (b : Int) : decide ((Sum.inr a : Key) = Sum.inl b) = false := decide_eq_false (fun q => nomatch q)
def mixKind (prog : Program) (w : World) : PySem.KeyKind prog w Key where
  is := keyIs
  hash := keyH w
  inj := fun v a b ha hb => by
    rcases keyIs_shape ha with ⟨i, t, rfl, rfl⟩ | ⟨x, t, rfl, rfl⟩
    · rcases keyIs_shape hb with ⟨j, u, rfl, e⟩ | ⟨y, u, rfl, e⟩
      · injection e with e1 _; rw [e1]
      · exact nomatch e
    · rcases keyIs_shape hb with ⟨j, u, rfl, e⟩ | ⟨y, u, rfl, e⟩
      · exact nomatch e
      · injection e with e1 _; rw [e1]
  byValue := fun k v h => by
    rcases keyIs_shape h with ⟨i, t, rfl, rfl⟩ | ⟨x, t, rfl, rfl⟩ <;> rfl
  pyHash := fun hv h => by
    rcases keyIs_shape hv with ⟨i, t, rfl, rfl⟩ | ⟨x, t, rfl, rfl⟩
    · exact wpAny_pyHash_int h
    · exact wpAny_pyHash_str h
  eqBool := fun hu hv h => by
    rcases keyIs_shape hu with ⟨i, t, rfl, rfl⟩ | ⟨x, t, rfl, rfl⟩
    · rcases keyIs_shape hv with ⟨j, u, rfl, rfl⟩ | ⟨y, u, rfl, rfl⟩
      · rw [key_ll] at h; exact wpAny_eqBool_int h
      · rw [key_lr] at h; exact SeqAt.EqAt.int_str i t y u _ _ _ _ h
    · rcases keyIs_shape hv with ⟨j, u, rfl, rfl⟩ | ⟨y, u, rfl, rfl⟩
      · rw [key_rl] at h; exact SeqAt.EqAt.str_int x t j u _ _ _ _ h
      · rw [key_rr] at h; exact wpAny_eqBool_str h
  «strs» := fun k x t v h => by
    rcases keyIs_shape h with ⟨i, u, rfl, e⟩ | ⟨y, u, rfl, e⟩
    · exact nomatch e
    · injection e with e1 _
      subst e1
      cases v <;> rfl
theorem mixKind_int (prog : Program) (w : World) (i : Int) (t : Tok) : (mixKind prog w).is (.inl i) (.int i t) = true := keyIs_int i t
theorem mixKind_str (prog : Program) (w : World) (x : Str) (t : Tok) : (mixKind prog w).is (.inr x) (.str x t) = true := keyIs_str x t
end L2
namespace L2
open PySem PySem.Spec PyProof.Rows
/-- a value, without the heap -/
inductive V where
  | non | bl (b : Bool) | int (i : Int) | str (x : Str) | byt (b : Array UInt8) | flt (b : UInt64) | ref (a : Addr) | ty (n : String)
  deriving DecidableEq
def RelV : V → Value → Prop
  | .non, u => u = Value.none
  | .bl b, u => u = Value.bool b
  | .int i, u => ∃ t, u = Value.int i t
  | .str x, u => ∃ t, u = Value.str x t
  | .byt b, u => ∃ t, u = Value.bytes b t
  | .flt b, u => ∃ t, u = Value.float b t
  | .ref a, u => u = Value.ref a
  | .ty n, u => u = Value.type n
abbrev Vals : List V → List Value → Prop := Paired RelV
theorem Vals.length {xs : List V} {us : List Value} (r : Vals xs us) : xs.length = us.length := Paired.length r
theorem Vals.get : ∀ {xs : List V} {us : List Value} {i : Nat} {x : V}, Vals xs us → xs[i]? = some x → ∃ u, us[i]? = some u ∧ RelV x u
  | _, _, _, _, .nil, e => by simp at e
  | _, _, 0, _, .cons r _, e => by simp at e; subst e; exact ⟨_, rfl, r⟩
  | _, _, i + 1, x, .cons _ t, e => by
    obtain ⟨u, h1, h2⟩ := Vals.get (i := i) (x := x) t (by simpa using e)
    exact ⟨u, by simpa using h1, h2⟩
theorem Vals.set {x : V} {u : Value} (r : RelV x u) : ∀ {xs : List V} {us : List Value} (i : Nat), Vals xs us → Vals (xs.set i x) (us.set i u)
  | _, _, _, .nil => .nil
  | _, _, 0, .cons _ t => .cons r t
  | _, _, i + 1, .cons q t => .cons q (Vals.set r i t)
theorem Vals.append : ∀ {xs ys : List V} {us ws : List Value}, Vals xs us → Vals ys ws → Vals (xs ++ ys) (us ++ ws)
  | _, _, _, _, .nil, s => s
  | _, _, _, _, .cons r t, s => .cons r (Vals.append t s)
theorem Vals.take : ∀ {xs : List V} {us : List Value} (n : Nat), Vals xs us → Vals (xs.take n) (us.take n)
  | _, _, 0, _ => .nil
  | _, _, _ + 1, .nil => .nil
  | _, _, n + 1, .cons r t => .cons r (Vals.take n t)
theorem Vals.drop : ∀ {xs : List V} {us : List Value} (n : Nat), Vals xs us → Vals (xs.drop n) (us.drop n)
  | _, _, 0, r => r
  | _, _, _ + 1, .nil => .nil
  | _, _, n + 1, .cons _ t => Vals.drop n t
def RelO : Option V → Option Value → Prop
  | some v, some u => RelV v u
  | none, none => True
  | _, _ => False
def KV {κ : Type} : List (κ × V) → List (κ × Value) → Prop := Paired fun (p : κ × V) (q : κ × Value) => p.1 = q.1 ∧ RelV p.2 q.2
/-- a key of a dict (00_mix): an int or a text -/
def kV : Key → V
  | .inl i => .int i
  | .inr x => .str x
/-- what stands at a tracked address -/
inductive HO where
  /-- a list -/
  | lst (xs : List V)
  /-- a tuple (never changes) -/
  | tup (xs : List V)
  /-- a dict whose keys are ints and texts; one whose keys are tuples of ints and texts (the empty one is both) -/
  | dK (kvs : List (Key × V)) | dT (kvs : List (List Key × V))
  /-- a set of ints: its members, its size -/
  | set (S : Int → Bool) (n : Nat)
  /-- an instance of the class at C, its dict at dx, its attributes -/
  | ins (C dx : Addr) (fs : List (Str × V))
  /-- the dict of the instance at x -/
  | own (x : Addr)
  /-- the dict of an exception -/
  | xd (fs : List (Str × V))
  /-- a bound method, f of x -/
  | met (f x : Addr)
  /-- a range object lo, lo + 1, .. below hi -/
  | rng (lo hi : Int)
  /-- a thing that is known to the object (the script; a dict while a loop walks it): read, never written while it is so -/
  | frz (o : Obj) (u : HO)
  /-- a code object's table -/
  | tbl (ps : Array Value)
  /-- any other thing, by what is true of its one object (a def of one's own: SetO a S n := HO.ext fun h => ..) -/
  | ext (φ : Heap → Prop)
abbrev Hp := Addr → Option HO
def upd (H : Hp) (a : Addr) (o : HO) : Hp := fun b => if b = a then some o else H b
theorem upd_same {H : Hp} {a : Addr} {o : HO} : upd H a o a = some o := by unfold upd; rw [if_pos rfl]
theorem upd_ne {H : Hp} {a b : Addr} {o : HO} (h : b ≠ a) : upd H a o b = H b := by unfold upd; rw [if_neg h]
theorem upd_upd {H : Hp} {a : Addr} {o u : HO} : upd (upd H a o) a u = upd H a u := by
  funext b; unfold upd; split <;> rfl
theorem ne_of {H : Hp} {a b : Addr} {o u : HO} (h : H a = some o) (h' : H b = some u) (d : o ≠ u) : a ≠ b := by
  intro e; subst e; rw [h] at h'; exact d (Option.some.inj h')
theorem ne_of_none {H : Hp} {a b : Addr} {o : HO} (h : H a = some o) (h' : H b = none) : a ≠ b := by
  intro e; subst e; rw [h] at h'; cases h'
section
variable (P : Program) (w : World)
def ObjOk (H : Hp) (h : Heap) (a : Addr) : HO → Prop
  | .lst xs => xs.length ≤ sizeLine ∧ ∃ (its : List Value) (n : Nat), Vals xs its ∧ h.get? a = some { cls := .type "list", data := .seq its.toArray n }
  | .tup xs => xs.length ≤ sizeLine ∧ ∃ its : List Value, Vals xs its ∧ IsTup h a its.toArray
  | .dK kvs => kvs.length ≤ sizeLine ∧ (a == sysModules) = false ∧ ∃ vs, KV kvs vs ∧ h.DictOf (mixKind P w) a vs
  | .dT kvs => kvs.length ≤ sizeLine ∧ (a == sysModules) = false ∧ ∃ xs : List (List Key × Addr × Value),
      Paired (fun (p : List Key × V) (q : List Key × Addr × Value) => p.1 = q.1 ∧ H q.2.1 = some (.tup (p.1.map kV)) ∧ RelV p.2 q.2.2) kvs xs ∧
      ∃ o es ep, h.get? a = some o ∧ o.ExactDict ∧ o.data = .dict es ep ∧ es.toList = xs.map (entryOfKey (tupleKind (mixKind P w))) ∧ (xs.map (·.1)).Nodup
  | .set S n => h.SetOf (intKind P w) a S n
  | .ins C dx fs => H dx = some (.own a) ∧ fs.length ≤ 1000 ∧ dx ≠ a ∧ h.get? a = some (PySem.W.instObj C dx) ∧
      ∃ mA, h.Ns1 dx mA ∧ (∀ f, RelO (fs.lookup f) (mA f)) ∧ PySem.Within mA (fs.map (·.1))
  | .own _ => ∃ o, h.get? a = some o
  | .xd fs => ∃ mA, h.Ns1 a mA ∧ ∀ f, RelO (fs.lookup f) (mA f)
  | .rng lo hi => ∃ t u v, h.get? a = some { cls := .type "range", data := .fields #[.int lo t, .int hi u, .int 1 v] }
  | .frz o u => h.get? a = some o ∧ ObjOk H h a u
  | .tbl ps => h.get? a = some { cls := .none, data := .fields ps }
  | .met f x => h.get? a = some (PySem.W.methodObj (.ref f) (.ref x))
  | .ext φ => φ h ∧ (∃ o, h.get? a = some o) ∧ ∀ h1 h2 : Heap, φ h1 → (∀ o, h1.get? a = some o → h2.get? a = some o) → φ h2
/-- the abstract heap is held -/
def HOk (H : Hp) (h : Heap) : Prop := ∀ a o, H a = some o → ObjOk P w H h a o
end
section
variable {P : Program} {w : World} {H H' : Hp} {h h' : Heap} {a : Addr} {o : HO}
theorem ObjOk.lt (x : ObjOk P w H h a o) : a < h.objs.size := by
  cases o with
  | lst xs => obtain ⟨_, _, _, _, e⟩ := x; exact Heap.lt_size e
  | tup xs => obtain ⟨_, _, _, p⟩ := x; exact p.lt
  | dK kvs => obtain ⟨_, _, _, _, o, _, _, e, _⟩ := x; exact Heap.lt_size e
  | dT kvs => obtain ⟨_, _, _, _, o, _, _, e, _⟩ := x; exact Heap.lt_size e
  | set S n => obtain ⟨o, _, _, _, e, _⟩ := x; exact Heap.lt_size e
  | ins C dx fs => obtain ⟨_, _, _, e, _⟩ := x; exact Heap.lt_size e
  | own y => obtain ⟨_, e⟩ := x; exact Heap.lt_size e
  | xd fs => obtain ⟨_, ⟨_, _, _, e, _⟩, _⟩ := x; exact Heap.lt_size e
  | rng lo hi => obtain ⟨_, _, _, e⟩ := x; exact Heap.lt_size e
  | frz ob u => obtain ⟨e, _⟩ := x; exact Heap.lt_size e
  | tbl ps => exact Heap.lt_size (show h.get? a = some _ from x)
  | met f y => exact Heap.lt_size (show h.get? a = some _ from x)
  | ext φ => obtain ⟨_, ⟨_, e⟩, _⟩ := x; exact Heap.lt_size e
theorem Paired.mapP {α β : Type} {F G : α → β → Prop} : ∀ {l₁ : List α} {l₂ : List β}, Paired F l₁ l₂ → (∀ a b, F a b → G a b) → Paired G l₁ l₂
  | _, _, .nil, _ => .nil
  | _, _, .cons r t, f => .cons (f _ _ r) (Paired.mapP t f)
theorem ObjOk.stay (x : ObjOk P w H h a o) (k : ∀ b u, (b = a ∨ H b = some (.own a)) → h.get? b = some u → h'.get? b = some u)
    (ho : ∀ b, H b = some (.own a) → H' b = some (.own a)) (ht : ∀ b xs, H b = some (.tup xs) → H' b = some (.tup xs)) : ObjOk P w H' h' a o := by
  induction o with
  | lst xs => obtain ⟨z, its, n, r, e⟩ := x; exact ⟨z, its, n, r, k _ _ (.inl rfl) e⟩
  | tup xs => obtain ⟨z, its, r, ob, e, c⟩ := x; exact ⟨z, its, r, ob, k _ _ (.inl rfl) e, c⟩
  | dK kvs => obtain ⟨z, y, vs, r, ob, es, ep, e, c⟩ := x; exact ⟨z, y, vs, r, ob, es, ep, k _ _ (.inl rfl) e, c⟩
  | dT kvs =>
    obtain ⟨z, y, xs, r, ob, es, ep, e, c⟩ := x
    exact ⟨z, y, xs, Paired.mapP r fun p q z => ⟨z.1, ht _ _ z.2.1, z.2.2⟩, ob, es, ep, k _ _ (.inl rfl) e, c⟩
  | set S n => obtain ⟨ob, es, ep, t, e, c⟩ := x; exact ⟨ob, es, ep, t, k _ _ (.inl rfl) e, c⟩
  | ins C dx fs =>
    obtain ⟨d, z, ne, e, mA, ⟨od, es, ep, e2, c⟩, r⟩ := x
    exact ⟨ho _ d, z, ne, k _ _ (.inl rfl) e, mA, ⟨od, es, ep, k _ _ (.inr d) e2, c⟩, r⟩
  | own y => obtain ⟨ob, e⟩ := x; exact ⟨ob, k _ _ (.inl rfl) e⟩
  | xd fs => obtain ⟨mA, ⟨od, es, ep, e, c⟩, r⟩ := x; exact ⟨mA, ⟨od, es, ep, k _ _ (.inl rfl) e, c⟩, r⟩
  | rng lo hi => obtain ⟨t, u, v, e⟩ := x; exact ⟨t, u, v, k _ _ (.inl rfl) e⟩
  | frz ob u ih => obtain ⟨e, q⟩ := x; exact ⟨k _ _ (.inl rfl) e, ih q⟩
  | tbl ps =>
    have e : h.get? a = some { cls := .none, data := .fields ps } := x
    show h'.get? a = some { cls := .none, data := .fields ps }
    exact k a _ (.inl rfl) e
  | met f y =>
    have e : h.get? a = some (PySem.W.methodObj (.ref f) (.ref y)) := x
    show h'.get? a = some (PySem.W.methodObj (.ref f) (.ref y))
    exact k a _ (.inl rfl) e
  | ext φ => obtain ⟨p, ⟨o, e⟩, st⟩ := x; exact ⟨st _ _ p fun o q => k _ _ (.inl rfl) q, ⟨o, k _ _ (.inl rfl) e⟩, st⟩
theorem HOk.lt (x : HOk P w H h) (e : H a = some o) : a < h.objs.size := (x a o e).lt
theorem HOk.fresh (x : HOk P w H h) (e : h.objs.size ≤ a) : H a = none := by
  cases q : H a with
  | none => rfl
  | some u => exact absurd (Nat.lt_of_lt_of_le (x.lt q) e) (Nat.lt_irrefl _)
theorem HOk.kept (x : HOk P w H h) (k : ∀ b u, h.get? b = some u → h'.get? b = some u) : HOk P w H h' := fun a o e =>
  (x a o e).stay (fun b u _ q => k b u q) (fun _ q => q) fun _ _ q => q
theorem HOk.laid (x : HOk P w H h) (k : ∀ b u, h.get? b = some u → h'.get? b = some u) (hp : h.objs.size ≤ a) (new : ObjOk P w (upd H a o) h' a o) : HOk P w (upd H a o) h' := fun b u e => by
  have hn := x.fresh hp
  by_cases hb : b = a
  · subst hb; rw [upd_same] at e; cases e; exact new
  · rw [upd_ne hb] at e
    exact (x b u e).stay (fun c v _ q => k c v q) (fun c q => by rw [upd_ne (ne_of_none q hn)]; exact q) fun c xs q => by rw [upd_ne (ne_of_none q hn)]; exact q
end
/-- what may be read as u: it is u, or a known u -/
def Rd (H : Hp) (a : Addr) (u : HO) : Prop := H a = some u ∨ ∃ o, H a = some (.frz o u)
theorem Rd.ok {P : Program} {w : World} {H : Hp} {h : Heap} {a : Addr} {u : HO} (r : Rd H a u) (x : HOk P w H h) : ObjOk P w H h a u := by
  rcases r with r | ⟨o, r⟩
  · exact x a u r
  · obtain ⟨_, q⟩ := x a _ r
    exact q
/-- what may be written -/
def Mut : Option HO → Prop
  | some (.lst _) => True
  | some (.dK _) => True
  | some (.dT _) => True
  | some (.set _ _) => True
  | some (.ins _ _ _) => True
  | some (.ext _) => True
  | _ => False
section
variable {P : Program} {w : World} {H : Hp} {h h' : Heap} {x e : Addr} {o' : HO}
theorem HOk.write (ok : HOk P w H h) (mu : Mut (H x)) (he : e = x ∨ H e = some (.own x)) (k : ∀ b u, b ≠ e → h.get? b = some u → h'.get? b = some u) (heo : ∃ u, h'.get? e = some u)
    (new : ObjOk P w (upd H x o') h' x o') : HOk P w (upd H x o') h' := fun b u q => by
  have nown : ∀ c y, H c = some (.own y) → c ≠ x := fun c y r z => by subst z; rw [r] at mu; exact mu
  have ntup : ∀ c xs, H c = some (.tup xs) → c ≠ x := fun c xs r z => by subst z; rw [r] at mu; exact mu
  by_cases hb : b = x
  · subst hb; rw [upd_same] at q; cases q; exact new
  · rw [upd_ne hb] at q
    by_cases hbe : b = e
    · have q' : H b = some (.own x) := by
        rcases he with z | z
        · exact absurd (hbe.trans z) hb
        · rw [hbe]; exact z
      rw [q] at q'; cases q'
      obtain ⟨v, hv⟩ := heo
      exact ⟨v, by rw [hbe]; exact hv⟩
    · refine (ok b u q).stay (fun c v hc r => k c v ?_ r) (fun c r => by rw [upd_ne (nown c b r)]; exact r) fun c xs r => by rw [upd_ne (ntup c xs r)]; exact r
      rcases hc with rfl | hc
      · exact hbe
      · rintro rfl
        rcases he with z | z
        · exact nown c b hc z
        · rw [hc] at z; cases z; exact hb rfl
end
structure Un (fs ex : List Addr) (H H' : Hp) (h h' : Heap) : Prop where
  keep : ∀ b o, h.get? b = some o → H b = none → b ∉ fs → b ∉ ex → h'.get? b = some o
  slot : ∀ b o, h.get? b = some o → H b = none → b ∈ fs → b ∉ ex → ∃ sl, h'.get? b = some { o with slots := sl }
  free : ∀ b o, h.get? b = some o → H b = none → b ∉ ex → H' b = none
  there : ∀ b o, h.get? b = some o → b ∉ ex → ∃ o', h'.get? b = some o'
  tups : ∀ b xs, H b = some (.tup xs) → H' b = some (.tup xs)
  frzs : ∀ b o u, H b = some (.frz o u) → H' b = some (.frz o u)
  tbls : ∀ b ps, H b = some (.tbl ps) → ∃ more, H' b = some (.tbl (ps ++ more))
section
variable {fs fs' ex ex' : List Addr} {H H1 H2 : Hp} {h h1 h2 h' : Heap} {a x e : Addr} {o : HO}
theorem Un.any (u : Un fs ex H H1 h h1) {b : Addr} {ob : Obj} (q : h.get? b = some ob) (n : H b = none) (hx : b ∉ ex) : ∃ sl, h1.get? b = some { ob with slots := sl } := by
  by_cases hb : b ∈ fs
  · exact u.slot b ob q n hb hx
  · exact ⟨ob.slots, u.keep b ob q n hb hx⟩
theorem Un.kept (k : ∀ b u, h.get? b = some u → h'.get? b = some u) : Un fs ex H H h h' :=
  ⟨fun b ob q _ _ _ => k b ob q, fun b ob q _ _ _ => ⟨ob.slots, k b ob q⟩, fun _ _ _ n _ => n, fun b ob q _ => ⟨ob, k b ob q⟩, fun _ _ q => q, fun _ _ _ q => q, fun _ ps q => ⟨#[], by rw [q]; simp⟩⟩
theorem Un.refl : Un fs ex H H h h := Un.kept fun _ _ q => q
theorem Un.laid (k : ∀ b u, h.get? b = some u → h'.get? b = some u) (hp : h.objs.size ≤ a) (hn : H a = none) : Un fs ex H (upd H a o) h h' where
  keep := fun b u q _ _ _ => k b u q
  slot := fun b u q _ _ _ => ⟨u.slots, k b u q⟩
  free := fun b u q n _ => by rw [upd_ne (Nat.ne_of_lt (Nat.lt_of_lt_of_le (Heap.lt_size q) hp))]; exact n
  there := fun b u q _ => ⟨u, k b u q⟩
  tups := fun b xs q => by rw [upd_ne (ne_of_none q hn)]; exact q
  frzs := fun b u xs q => by rw [upd_ne (ne_of_none q hn)]; exact q
  tbls := fun b ps q => ⟨#[], by rw [upd_ne (ne_of_none q hn), q]; simp⟩
theorem Un.write (mu : Mut (H x)) (he : e = x ∨ H e = some (.own x)) (k : ∀ b u, b ≠ e → h.get? b = some u → h'.get? b = some u) (heo : ∃ u, h'.get? e = some u) : Un fs ex H (upd H x o) h h' := by
  have hx : ∀ b, H b = none → b ≠ x := fun b n z => by subst z; rw [n] at mu; exact mu
  have hb : ∀ b, H b = none → b ≠ e := fun b n z => by
    subst z
    rcases he with r | r
    · exact hx b n r
    · rw [n] at r; cases r
  have hm : ∀ b u, H b = some u → ¬ Mut (some u) → b ≠ x := fun b u q nm z => by subst z; rw [q] at mu; exact nm mu
  refine ⟨fun b u q n _ _ => k b u (hb b n) q, fun b u q n _ _ => ⟨u.slots, k b u (hb b n) q⟩, fun b u q n _ => by rw [upd_ne (hx b n)]; exact n, fun b u q _ => ?_,
    fun b xs q => by rw [upd_ne (hm b _ q fun z => z)]; exact q, fun b u xs q => by rw [upd_ne (hm b _ q fun z => z)]; exact q, fun b ps q => ⟨#[], by rw [upd_ne (hm b _ q fun z => z), q]; simp⟩⟩
  by_cases hbe : b = e
  · subst hbe; exact heo
  · exact ⟨u, k b u hbe q⟩
end
def trk (h : Heap) (H : Hp) : List Addr := (List.range h.objs.size).filter fun a => (H a).isSome
def hidT (h : Heap) (H : Hp) : Heap := PySem.W.hideAll h (trk h H)
theorem hidT_size (h : Heap) (H : Hp) : (hidT h H).objs.size = h.objs.size := PySem.W.hideAll_size _ _
theorem hidT_get {h : Heap} {H : Hp} {b : Addr} {o : Obj} (e : h.get? b = some o) (n : H b = none) : (hidT h H).get? b = some o :=
  PySem.W.hideAll_get _ e fun hm => by
    have q : (H b).isSome = true := (List.mem_filter.mp hm).2
    rw [n] at q; simp at q
theorem of_hidT {h : Heap} {H : Hp} {b : Addr} {o : Obj} (e : (hidT h H).get? b = some o) : h.get? b = some o ∧ H b = none := by
  have e' : h.get? b = some o := PySem.W.of_hideAll (trk h H) e
  refine ⟨e', ?_⟩
  cases q : H b with
  | none => rfl
  | some x =>
    have hm : b ∈ trk h H := List.mem_filter.mpr ⟨List.mem_range.mpr (Heap.lt_size e'), by simp [q]⟩
    have z : (hidT h H).get? b = none := PySem.W.hideAll_none (trk h H) hm
    rw [z] at e; cases e
end L2
namespace L2
open PySem PySem.Spec PyProof.Rows
/-- the module's facts, over the base: the heap at the law's entry without what is tracked there -/
structure Mod (K : PySem.W.Frag) (mg : Str → Option Value) (base : Heap) : Prop where
  kin : K.In base
  glob : base.Ns mainGlobals mg
  blt : ∃ mb, base.Ns builtinsNs mb ∧ ∀ x : Str, x ≠ "__name__" → mb x = bootBuiltins x
  nolimit : base.NoLimit
/-- the context: a def's body (or a comprehension's block) running. base: fixed through the whole law; s₀, H₀: the entry; outer: the frames whose slots others may change (a def's callers); stack: all frames that run;
   ex: iterators that were made ahead of the entry and are walked here (a comprehension's); fn: the names whose cells were made at the entry (a def: all; a comprehension's block: its own); calm: not within an except suite; pn: pins that every state bears; xe: what is wanted of an exception that leaves the code -/
structure Cx where
  prog : Program
  w : World
  K : PySem.W.Frag
  mg : Str → Option Value
  base : Heap
  A : Around
  N : List Str
  s_0 : Shared
  H_0 : Hp
  env : Env
  outer : List Env
  stack : List Env
  ex : List Addr
  fn : Str → Bool
  calm : Bool
  pn : List (Addr × Obj)
  xe : Value → Shared → Prop
/-- the callers' frames -/
def frs (l : List Env) : List Addr := l.filterMap (·.frame)
abbrev Cx.fs (X : Cx) : List Addr := frs X.outer
def Vis (sc : Scope) (x : Str) : Prop := sc.names.lookup x = some .local ∨ sc.names.lookup x = some .cell ∨ sc.names.lookup x = some .free
def Loc (sc : Scope) (x : Str) : Prop := sc.names.lookup x = some .local ∨ sc.names.lookup x = some .cell
def Look (env : Env) (h : Heap) (m : Str → Option Value) (x : Str) (u : Value) : Prop :=
  (env.kindOf x = some .local ∧ m x = some u) ∨ ((env.kindOf x = some .cell ∨ env.kindOf x = some .free) ∧ ∃ c, env.cells.lookup x = some c ∧ h.IsCell c (some u))
structure Cx.Ok (X : Cx) : Prop where
  mod : Mod X.K X.mg X.base
  kind : X.env.scope.kind = .function
  glob : X.env.globals = mainGlobals
  blt : X.env.builtins = builtinsNs
  above : X.s_0.heap.objs.size ≤ X.env.locals
  inj : ∀ x y c, X.env.cells.lookup x = some c → X.env.cells.lookup y = some c → x = y
  has : ∀ x, (X.env.kindOf x = some .cell ∨ X.env.kindOf x = some .free) → ∃ c, X.env.cells.lookup x = some c
  cab : ∀ x c, X.fn x = true → X.env.cells.lookup x = some c → X.s_0.heap.objs.size ≤ c
  hd : X.calm = true → X.A.handled = none
  frames : X.A.frames = some X.stack
  stk : X.stack = X.outer ∨ (X.stack = X.env :: X.outer ∧ X.env.frame = some X.env.locals)
  exf : ∀ b ∈ X.ex, b ≠ X.env.locals ∧ ∀ x c, X.env.cells.lookup x = some c → c ≠ b
  bs : ∀ b o, X.base.get? b = some o → X.s_0.heap.get? b = some o ∧ X.H_0 b = none
  bsz : X.base.objs.size ≤ X.s_0.heap.objs.size
  noex : ∀ b o, X.base.get? b = some o → b ∉ X.ex
  exfs : ∀ b ∈ X.ex, b ∉ X.fs
  funs : X.s_0.heap.FunFrames X.base X.outer
  frf : ∀ b ∈ X.fs, X.H_0 b = none
structure Inv (X : Cx) (pins : List (Addr × Obj)) (σ : List (Option V)) (H : Hp) (s : Shared) : Prop where
  ok : X.Ok
  os : s.os = X.s_0.os
  bare : AllBare s.gens
  base : Un X.fs X.ex X.H_0 H X.s_0.heap s.heap
  loc : ∃ m, s.heap.Ns X.env.locals m ∧ ∀ (i : Nat) (x : Str) (v : V), X.N[i]? = some x → σ[i]? = some (some v) → Vis X.env.scope x → ∃ u, RelV v u ∧ Look X.env s.heap m x u
  cell : ∀ x c, X.env.cells.lookup x = some c → ∃ v, s.heap.IsCell c v
  free : H X.env.locals = none
  freeC : ∀ x c, X.env.cells.lookup x = some c → H c = none
  pin : ∀ p ∈ X.pn ++ pins, s.heap.get? p.1 = some p.2 ∧ H p.1 = none ∧ p.1 ≠ X.env.locals ∧ p.1 ∉ X.fs ∧ ∀ v, p.2.data ≠ .cell v
  hok : HOk X.prog X.w H s.heap
  len : σ.length = X.N.length
section
variable {X : Cx} {pins : List (Addr × Obj)} {σ : List (Option V)} {H H' : Hp} {s : Shared} {h' : Heap}
theorem Cx.Ok.nofr (ok : X.Ok) {b : Addr} {o : Obj} (e : X.base.get? b = some o) : b ∉ X.fs := fun hb => by
  have := (ok.funs.mem hb).1
  rw [e] at this; cases this
theorem Inv.bs (I : Inv X pins σ H s) : ∀ b o, X.base.get? b = some o → s.heap.get? b = some o ∧ H b = none := fun b o e =>
  ⟨I.base.keep b o (I.ok.bs b o e).1 (I.ok.bs b o e).2 (I.ok.nofr e) (I.ok.noex b o e), I.base.free b o (I.ok.bs b o e).1 (I.ok.bs b o e).2 (I.ok.noex b o e)⟩
theorem Inv.bk (I : Inv X pins σ H s) : ∀ b o, X.base.get? b = some o → s.heap.get? b = some o := fun b o e => (I.bs b o e).1
theorem Inv.mod (I : Inv X pins σ H s) : Mod X.K X.mg X.base := I.ok.mod
theorem Inv.kIn (I : Inv X pins σ H s) : X.K.In s.heap := I.ok.mod.kin.keeps I.bk
theorem Inv.lt (I : Inv X pins σ H s) : X.env.locals < s.heap.objs.size := let ⟨_, hn, _⟩ := I.loc; hn.lt
theorem Inv.sz (I : Inv X pins σ H s) : X.s_0.heap.objs.size ≤ s.heap.objs.size := Nat.le_trans I.ok.above (Nat.le_of_lt I.lt)
theorem Inv.nofs (I : Inv X pins σ H s) {a : Addr} (h : s.heap.objs.size ≤ a) : a ∉ X.fs := fun hb => by
  obtain ⟨_, o, ho, _⟩ := I.ok.funs.mem hb
  exact absurd (Nat.lt_of_lt_of_le (Heap.lt_size ho) (Nat.le_trans I.sz h)) (Nat.lt_irrefl _)
theorem Inv.cne (I : Inv X pins σ H s) : ∀ x c, X.env.cells.lookup x = some c → c ≠ X.env.locals := fun x c e z => by
  obtain ⟨v, o, ho, hd⟩ := I.cell x c e
  obtain ⟨m, ⟨o', es, ep, ho', hd', _⟩, _⟩ := I.loc
  rw [z, ho'] at ho; cases ho; rw [hd'] at hd; cases hd
theorem Inv.funs (I : Inv X pins σ H s) : s.heap.FunFrames X.base X.outer := by
  have all : ∀ (l : List Env), (∀ b ∈ frs l, b ∈ X.fs) → X.s_0.heap.FunFrames X.base l → s.heap.FunFrames X.base l := by
    intro l
    induction l with
    | nil => intro _ _; trivial
    | cons env r ih =>
      intro hs hl
      obtain ⟨hk, ⟨L, o, hf, hn, ho, hd⟩, hr⟩ := hl
      have hL : L ∈ X.fs := hs L (by unfold frs; rw [List.filterMap_cons, hf]; exact List.mem_cons_self)
      obtain ⟨sl, e⟩ := I.base.slot L o ho (I.ok.frf L hL) hL fun z => I.ok.exfs L z hL
      exact ⟨hk, ⟨L, _, hf, hn, e, hd⟩, ih (fun b hb => hs b (by unfold frs; rw [List.filterMap_cons, hf]; exact List.mem_cons_of_mem _ hb)) hr⟩
  exact all X.outer (fun _ hb => hb) I.ok.funs
theorem Inv.stack (I : Inv X pins σ H s) : s.heap.FunFrames X.base X.stack := by
  rcases I.ok.stk with e | ⟨e, hf⟩
  · rw [e]; exact I.funs
  · rw [e]
    obtain ⟨m, hn, _⟩ := I.loc
    refine .cons (by rw [I.ok.kind]; decide) hf hn ?_ I.funs
    exact Heap.get?_none_of_le (Nat.le_trans I.ok.bsz I.ok.above)
theorem Inv.stkSub (I : Inv X pins σ H s) : ∀ b ∈ frs X.stack, b ∈ X.env.locals :: X.fs := fun b hb => by
  rcases I.ok.stk with e | ⟨e, hf⟩
  · rw [e] at hb; exact List.mem_cons_of_mem _ hb
  · rw [e] at hb
    unfold frs at hb
    rw [List.filterMap_cons, hf] at hb
    exact hb
theorem Inv.stkFree (I : Inv X pins σ H s) : ∀ b ∈ frs X.stack, H b = none := fun b hb => by
  rcases List.mem_cons.mp (I.stkSub b hb) with e | hb
  · rw [e]; exact I.free
  · obtain ⟨_, o, ho, _⟩ := I.ok.funs.mem hb
    exact I.base.free b o ho (I.ok.frf b hb) fun z => I.ok.exfs b z hb
theorem Inv.step {g' : Array GenState} {t' : Nat} {d' : Drawn} {ch : List Addr} (I : Inv X pins σ H s)
    (hch : ∀ b ∈ ch, (b ∈ X.ex ∨ X.s_0.heap.objs.size ≤ b) ∧ b ≠ X.env.locals ∧ (∀ x c, X.env.cells.lookup x = some c → c ≠ b) ∧ ∀ p ∈ X.pn ++ pins, p.1 ≠ b)
    (keep : ∀ b o, b ≠ X.env.locals → b ∉ X.fs → b ∉ ch → s.heap.get? b = some o → H b = none → h'.get? b = some o)
    (slot : ∀ b o, b ≠ X.env.locals → b ∈ X.fs → b ∉ ch → s.heap.get? b = some o → H b = none → ∃ sl, h'.get? b = some { o with slots := sl }) (free : ∀ b o, b ∉ ch → s.heap.get? b = some o → H b = none → H' b = none)
    (there : ∀ b o, b ∉ ch → s.heap.get? b = some o → ∃ o', h'.get? b = some o')
    (tups : ∀ b xs, H b = some (.tup xs) → H' b = some (.tup xs)) (frzs : ∀ b o u, H b = some (.frz o u) → H' b = some (.frz o u)) (tbls : ∀ b ps, H b = some (.tbl ps) → ∃ more, H' b = some (.tbl (ps ++ more)))
    (ns : ∀ m, s.heap.Ns X.env.locals m → h'.Ns X.env.locals m) (hok : HOk X.prog X.w H' h') (hg : AllBare g') :
    Inv X pins σ H' { s with heap := h', gens := g', drawn := d', toks := t' } := by
  have neL : ∀ b o, X.s_0.heap.get? b = some o → b ≠ X.env.locals := fun b o e => Nat.ne_of_lt (Nat.lt_of_lt_of_le (Heap.lt_size e) I.ok.above)
  have neC : ∀ b o, X.s_0.heap.get? b = some o → b ∉ X.ex → b ∉ ch := fun b o e hx hb => by
    rcases (hch b hb).1 with z | z
    · exact hx z
    · exact absurd (Nat.lt_of_lt_of_le (Heap.lt_size e) z) (Nat.lt_irrefl _)
  have cellK : ∀ x c, X.env.cells.lookup x = some c → ∀ v, s.heap.IsCell c v → h'.IsCell c v := fun x c e v ⟨o, ho, hd⟩ => by
    have nch : c ∉ ch := fun z => (hch c z).2.2.1 x c e rfl
    by_cases hc : c ∈ X.fs
    · obtain ⟨sl, q⟩ := slot c o (I.cne x c e) hc nch ho (I.freeC x c e)
      exact ⟨_, q, hd⟩
    · exact ⟨o, keep c o (I.cne x c e) hc nch ho (I.freeC x c e), hd⟩
  refine ⟨I.ok, I.os, hg, ⟨fun b o e n hb hx => ?_, fun b o e n hb hx => ?_, fun b o e n hx => ?_, fun b o e hx => ?_, fun b xs e => tups b xs (I.base.tups b xs e), fun b o xs e => frzs b o xs (I.base.frzs b o xs e), fun b ps e => ?_⟩, ?_, fun x c e => ?_, ?_, fun x c e => ?_, fun p hp => ?_, hok, I.len⟩
  · exact keep b o (neL b o e) hb (neC b o e hx) (I.base.keep b o e n hb hx) (I.base.free b o e n hx)
  · obtain ⟨sl, e1⟩ := I.base.slot b o e n hb hx
    obtain ⟨sl', e2⟩ := slot b _ (neL b o e) hb (neC b o e hx) e1 (I.base.free b o e n hx)
    exact ⟨sl', e2⟩
  · obtain ⟨o', e1⟩ := I.base.there b o e hx
    exact free b o' (neC b o e hx) e1 (I.base.free b o e n hx)
  · obtain ⟨o', e1⟩ := I.base.there b o e hx
    exact there b o' (neC b o e hx) e1
  · obtain ⟨m1, e1⟩ := I.base.tbls b ps e
    obtain ⟨m2, e2⟩ := tbls b _ e1
    exact ⟨m1 ++ m2, by rw [e2, Array.append_assoc]⟩
  · obtain ⟨m, hn, hl⟩ := I.loc
    refine ⟨m, ns m hn, fun i x v e1 e2 e3 => ?_⟩
    obtain ⟨u, r, l⟩ := hl i x v e1 e2 e3
    refine ⟨u, r, ?_⟩
    rcases l with l | ⟨k, c, e, z⟩
    · exact .inl l
    · exact .inr ⟨k, c, e, cellK x c e _ z⟩
  · obtain ⟨v, z⟩ := I.cell x c e
    exact ⟨v, cellK x c e v z⟩
  · obtain ⟨m, ⟨o, _, _, ho, _⟩, _⟩ := I.loc
    exact free _ o (fun z => (hch _ z).2.1 rfl) ho I.free
  · obtain ⟨v, o, ho, hd⟩ := I.cell x c e
    exact free c o (fun z => (hch c z).2.2.1 x c e rfl) ho (I.freeC x c e)
  · obtain ⟨e, n, ne, nf, d⟩ := I.pin p hp
    have nch : p.1 ∉ ch := fun z => (hch p.1 z).2.2.2 p hp rfl
    exact ⟨keep p.1 p.2 ne nf nch e n, free p.1 p.2 nch e n, ne, nf, d⟩
theorem Inv.un {t' : Nat} (I : Inv X pins σ H s) (u : Un X.fs [] H H' s.heap h') (hok : HOk X.prog X.w H' h') : Inv X pins σ H' { s with heap := h', toks := t' } := by
  obtain ⟨m, ⟨o, es, ep, ho, r⟩, _⟩ := id I.loc
  obtain ⟨sl, hL⟩ := u.any ho I.free (by simp)
  exact I.step (g' := s.gens) (d' := s.drawn) (ch := []) (fun _ z => nomatch z) (fun b o _ hb _ e n => u.keep b o e n hb (by simp)) (fun b o _ hb _ e n => u.slot b o e n hb (by simp)) (fun b o _ e n => u.free b o e n (by simp)) (fun b o _ e => u.there b o e (by simp)) u.tups u.frzs u.tbls (fun m' hm => by
    obtain ⟨o', es', ep', ho', r'⟩ := hm
    rw [ho] at ho'; cases ho'
    exact ⟨_, es', ep', hL, r'⟩) hok I.bare
theorem Inv.call {g' : Array GenState} {t' : Nat} {d' : Drawn} {ch : List Addr} (I : Inv X pins σ H s) (u : Un (frs X.stack) ch H H' s.heap h') (hok : HOk X.prog X.w H' h') (hg : AllBare g')
    (hch : ∀ b ∈ ch, (b ∈ X.ex ∨ X.s_0.heap.objs.size ≤ b) ∧ b ≠ X.env.locals ∧ (∀ x c, X.env.cells.lookup x = some c → c ≠ b) ∧ ∀ p ∈ X.pn ++ pins, p.1 ≠ b) :
    Inv X pins σ H' { s with heap := h', gens := g', drawn := d', toks := t' } := by
  obtain ⟨m, ⟨o, es, ep, ho, r⟩, _⟩ := id I.loc
  obtain ⟨sl, hL⟩ := u.any ho I.free fun z => (hch _ z).2.1 rfl
  exact I.step (ch := ch) hch (fun b o hL hb hc e n => u.keep b o e n (fun z => (List.mem_cons.mp (I.stkSub b z)).elim hL hb) hc) (fun b o _ _ hc e n => u.any e n hc) (fun b o hc e n => u.free b o e n hc) (fun b o hc e => u.there b o e hc) u.tups u.frzs u.tbls (fun m' hm => by
    obtain ⟨o', es', ep', ho', r'⟩ := hm
    rw [ho] at ho'; cases ho'
    exact ⟨_, es', ep', hL, r'⟩) hok hg
theorem Inv.turned {t' : Nat} {it : Addr} (I : Inv X pins σ H s) (k : ∀ b o, b ≠ it → s.heap.get? b = some o → h'.get? b = some o) (hn : H it = none) (hL : it ≠ X.env.locals)
    (h1 : it ∈ X.ex ∨ X.s_0.heap.objs.size ≤ it) (h2 : ∀ x c, X.env.cells.lookup x = some c → c ≠ it) (h3 : ∀ p ∈ X.pn ++ pins, p.1 ≠ it) : Inv X pins σ H { s with heap := h', toks := t' } := by
  have nit : ∀ b u, H b = some u → b ≠ it := fun b u e z => by rw [z, hn] at e; cases e
  refine I.step (g' := s.gens) (d' := s.drawn) (ch := [it]) (fun b hb => ?_) (fun b o _ _ hc e _ => k b o (fun z => hc (by simp [z])) e) (fun b o _ _ hc e _ => ⟨o.slots, k b o (fun z => hc (by simp [z])) e⟩) (fun _ _ _ _ n => n)
    (fun b o hc e => ⟨o, k b o (fun z => hc (by simp [z])) e⟩) (fun _ _ e => e) (fun _ _ _ e => e) (fun b ps e => ⟨#[], by rw [e]; simp⟩) (fun m hm => ?_) (fun b u e => ?_) I.bare
  · have e : b = it := by simpa using hb
    subst e
    exact ⟨h1, hL, h2, h3⟩
  · obtain ⟨o, es, ep, ho, r⟩ := hm
    exact ⟨o, es, ep, k _ o (Ne.symm hL) ho, r⟩
  · refine (I.hok b u e).stay (fun c v hc q => k c v ?_ q) (fun _ q => q) fun _ _ q => q
    rcases hc with z | z
    · rw [z]; exact nit b u e
    · exact nit c _ z
theorem Inv.tok (I : Inv X pins σ H s) (t : Nat) : Inv X pins σ H { s with toks := t } := I.un (h' := s.heap) (t' := t) Un.refl I.hok
theorem Inv.kept {t' : Nat} (I : Inv X pins σ H s) (k : ∀ b u, s.heap.get? b = some u → h'.get? b = some u) : Inv X pins σ H { s with heap := h', toks := t' } := I.un (Un.kept k) (I.hok.kept k)
theorem Inv.laid {a : Addr} {o : HO} {t' : Nat} (I : Inv X pins σ H s) (k : ∀ b u, s.heap.get? b = some u → h'.get? b = some u) (hp : s.heap.objs.size ≤ a) (new : ObjOk X.prog X.w (upd H a o) h' a o) :
    Inv X pins σ (upd H a o) { s with heap := h', toks := t' } := I.un (Un.laid k hp (I.hok.fresh hp)) (I.hok.laid k hp new)
theorem Inv.write {x e : Addr} {o : HO} {t' : Nat} (I : Inv X pins σ H s) (mu : Mut (H x)) (he : e = x ∨ H e = some (.own x)) (k : ∀ b u, b ≠ e → s.heap.get? b = some u → h'.get? b = some u) (heo : ∃ u, h'.get? e = some u)
    (new : ObjOk X.prog X.w (upd H x o) h' x o) : Inv X pins σ (upd H x o) { s with heap := h', toks := t' } := I.un (Un.write mu he k heo) (I.hok.write mu he k heo new)
theorem Inv.weak {σ' : List (Option V)} (I : Inv X pins σ H s) (hl : σ'.length = σ.length) (w : ∀ (i : Nat) v, σ'[i]? = some (some v) → σ[i]? = some (some v)) : Inv X pins σ' H s :=
  ⟨I.ok, I.os, I.bare, I.base, let ⟨m, hn, hl'⟩ := I.loc; ⟨m, hn, fun i x v e1 e2 e3 => hl' i x v e1 (w i v e2) e3⟩, I.cell, I.free, I.freeC, I.pin, I.hok, hl.trans I.len⟩
theorem Inv.pins_of {pins' : List (Addr × Obj)} (I : Inv X pins σ H s) (h : ∀ p ∈ pins', s.heap.get? p.1 = some p.2 ∧ H p.1 = none ∧ p.1 ≠ X.env.locals ∧ p.1 ∉ X.fs ∧ ∀ v, p.2.data ≠ .cell v) : Inv X pins' σ H s :=
  ⟨I.ok, I.os, I.bare, I.base, I.loc, I.cell, I.free, I.freeC, fun p hp => (List.mem_append.mp hp).elim (fun z => I.pin p (List.mem_append_left _ z)) (h p), I.hok, I.len⟩
theorem nodup_ix {N : List Str} (hN : N.Nodup) {i j : Nat} {x : Str} (a : N[i]? = some x) (b : N[j]? = some x) : i = j := by
  obtain ⟨h1, e1⟩ := List.getElem?_eq_some_iff.mp a
  obtain ⟨h2, e2⟩ := List.getElem?_eq_some_iff.mp b
  exact (List.getElem_inj hN).mp (e1.trans e2.symm)
theorem store_ok2 {M : Model} {A : Around} {E : Value → Shared → Prop} {i : Nat} {x : Str} {v : V} {u : Value} {Q : Unit → Shared → Prop} (I : Inv X pins σ H s) (hN : X.N.Nodup) (hi : X.N[i]? = some x) (hx : Loc X.env.scope x) (r : RelV v u)
    (h : ∀ s', Inv X pins (σ.set i (some v)) H s' → (∃ a, Heap.SameBut a s.heap s'.heap ∧ (a = X.env.locals ∨ X.env.cells.lookup x = some a)) → Q () s') (hf : X.fn x = true ∨ X.env.scope.names.lookup x = some .local := by first | exact .inl rfl | exact .inr rfl | assumption) : wpAny M A (storeName X.env x u) Q E s := by
  obtain ⟨m, hn, hl⟩ := id I.loc
  have hcls : (X.env.scope.kind == .class || (X.env.scope.kind == .module && X.env.locals != X.env.globals)) = false := by rw [I.ok.kind]; rfl
  have hiσ : i < σ.length := by rw [I.len]; exact (List.getElem?_eq_some_iff.mp hi).1
  have cne := I.cne
  have tracked : ∀ {a : Addr} {h' : Heap}, (∃ o, s.heap.get? a = some o ∧ H a = none) → Heap.SameBut a s.heap h' → HOk X.prog X.w H h' := fun {a h'} ha hs b ob e => by
    obtain ⟨_, _, hfree⟩ := ha
    refine (I.hok b ob e).stay (fun c w' hc q => (hs.2 c ?_).trans q) (fun _ q => q) fun _ _ q => q
    rintro rfl
    rcases hc with rfl | hc
    · rw [hfree] at e; cases e
    · rw [hfree] at hc; cases hc
  rcases hx with hk | hk
  · refine wpAny_storeName_local hk hn (fun h' hn' hs => ?_) hcls
    obtain ⟨oL, _, _, hoL, _⟩ := id hn
    refine h _ ⟨I.ok, I.os, I.bare, ⟨fun b o e n hb hx => ?_, fun b o e n hb hx => ?_, I.base.free, fun b o e hx => ?_, I.base.tups, I.base.frzs, I.base.tbls⟩, ⟨_, hn', fun j y v' e1 e2 e3 => ?_⟩, fun y c e => ?_, I.free, I.freeC, fun p hp => ?_, tracked ⟨oL, hoL, I.free⟩ hs, by simpa using I.len⟩ ⟨_, hs, .inl rfl⟩
    · exact (hs.2 b (Nat.ne_of_lt (Nat.lt_of_lt_of_le (Heap.lt_size e) I.ok.above))).trans (I.base.keep b o e n hb hx)
    · obtain ⟨sl, e1⟩ := I.base.slot b o e n hb hx
      exact ⟨sl, (hs.2 b (Nat.ne_of_lt (Nat.lt_of_lt_of_le (Heap.lt_size e) I.ok.above))).trans e1⟩
    · obtain ⟨o', e1⟩ := I.base.there b o e hx
      exact ⟨o', (hs.2 b (Nat.ne_of_lt (Nat.lt_of_lt_of_le (Heap.lt_size e) I.ok.above))).trans e1⟩
    · by_cases hj : j = i
      · subst hj
        rw [hi] at e1; cases e1
        rw [List.getElem?_set_self hiσ] at e2
        cases e2
        exact ⟨u, r, .inl ⟨hk, by simp⟩⟩
      · rw [List.getElem?_set_ne (Ne.symm hj)] at e2
        obtain ⟨u', r', q⟩ := hl j y v' e1 e2 e3
        refine ⟨u', r', ?_⟩
        rcases q with ⟨k, e⟩ | ⟨k, c, e, z⟩
        · refine .inl ⟨k, ?_⟩
          have : y ≠ x := fun e => hj (nodup_ix hN e1 (e ▸ hi))
          simp [this, e]
        · exact .inr ⟨k, c, e, z.sameBut hs (cne y c e)⟩
    · obtain ⟨w', z⟩ := I.cell y c e
      exact ⟨w', z.sameBut hs (cne y c e)⟩
    · obtain ⟨e, n, ne, nf, d⟩ := I.pin p hp
      exact ⟨(hs.2 p.1 ne).trans e, n, ne, nf, d⟩
  · have hfn : X.fn x = true := by
      rcases hf with z | z
      · exact z
      · rw [z] at hk; cases hk
    obtain ⟨c, hc⟩ := I.ok.has x (.inl hk)
    obtain ⟨w', z⟩ := I.cell x c hc
    refine wpAny_storeName_cell I.ok.kind hk hc z (fun h' hc' hs => ?_)
    obtain ⟨oc, hoc, hocd⟩ := id z
    refine h { s with heap := h' } ⟨I.ok, I.os, I.bare, ⟨fun b o e n hb hx => ?_, fun b o e n hb hx => ?_, I.base.free, fun b o e hx => ?_, I.base.tups, I.base.frzs, I.base.tbls⟩, ⟨m, hn.sameBut hs (Ne.symm (cne x c hc)), fun j y v' e1 e2 e3 => ?_⟩, fun y c' e => ?_, I.free, I.freeC, fun p hp => ?_, tracked ⟨oc, hoc, I.freeC x c hc⟩ hs, by simpa using I.len⟩ ⟨c, hs, .inr hc⟩
    · exact (hs.2 b (Nat.ne_of_lt (Nat.lt_of_lt_of_le (Heap.lt_size e) (I.ok.cab x c hfn hc)))).trans (I.base.keep b o e n hb hx)
    · obtain ⟨sl, e1⟩ := I.base.slot b o e n hb hx
      exact ⟨sl, (hs.2 b (Nat.ne_of_lt (Nat.lt_of_lt_of_le (Heap.lt_size e) (I.ok.cab x c hfn hc)))).trans e1⟩
    · obtain ⟨o', e1⟩ := I.base.there b o e hx
      exact ⟨o', (hs.2 b (Nat.ne_of_lt (Nat.lt_of_lt_of_le (Heap.lt_size e) (I.ok.cab x c hfn hc)))).trans e1⟩
    · by_cases hj : j = i
      · subst hj
        rw [hi] at e1; cases e1
        rw [List.getElem?_set_self hiσ] at e2
        cases e2
        exact ⟨u, r, .inr ⟨.inl hk, c, hc, hc'⟩⟩
      · rw [List.getElem?_set_ne (Ne.symm hj)] at e2
        obtain ⟨u', r', q⟩ := hl j y v' e1 e2 e3
        refine ⟨u', r', ?_⟩
        rcases q with q | ⟨k, c', e, z'⟩
        · exact .inl q
        · refine .inr ⟨k, c', e, z'.sameBut hs ?_⟩
          rintro rfl
          exact hj (nodup_ix hN e1 (I.ok.inj _ _ _ e hc ▸ hi))
    · by_cases hcc : c' = c
      · subst hcc; exact ⟨_, hc'⟩
      · obtain ⟨w2, z2⟩ := I.cell y c' e
        exact ⟨w2, z2.sameBut hs hcc⟩
    · obtain ⟨e, n, ne, nf, d⟩ := I.pin p hp
      refine ⟨(hs.2 p.1 ?_).trans e, n, ne, nf, d⟩
      intro q
      rw [q, hoc] at e
      have q' : oc = p.2 := Option.some.inj e
      exact d w' (by rw [← q']; exact hocd)
theorem store_ok {M : Model} {A : Around} {E : Value → Shared → Prop} {i : Nat} {x : Str} {v : V} {u : Value} {Q : Unit → Shared → Prop} (I : Inv X pins σ H s) (hN : X.N.Nodup) (hi : X.N[i]? = some x) (hx : Loc X.env.scope x) (r : RelV v u)
    (h : ∀ s', Inv X pins (σ.set i (some v)) H s' → Q () s') (hf : X.fn x = true ∨ X.env.scope.names.lookup x = some .local := by first | exact .inl rfl | exact .inr rfl | assumption) : wpAny M A (storeName X.env x u) Q E s :=
  store_ok2 I hN hi hx r (fun s' I' _ => h s' I') hf
theorem Inv.call' {s' : Shared} {ch : List Addr} (I : Inv X pins σ H s) (ho : s'.os = s.os) (u : Un (frs X.stack) ch H H' s.heap s'.heap) (hok : HOk X.prog X.w H' s'.heap) (hg : AllBare s'.gens)
    (hch : ∀ b ∈ ch, (b ∈ X.ex ∨ X.s_0.heap.objs.size ≤ b) ∧ b ≠ X.env.locals ∧ (∀ x c, X.env.cells.lookup x = some c → c ≠ b) ∧ ∀ p ∈ X.pn ++ pins, p.1 ≠ b) : Inv X pins σ H' s' := by
  obtain ⟨h', g', d', t', o'⟩ := s'
  have e : o' = s.os := ho
  subst e
  exact I.call (g' := g') (t' := t') (d' := d') u hok hg hch
end
/-- an exception: its class, its own dict's address (where it has one), the abstract heap behind it -/
abbrev XK := Value → Option Addr → Hp → Prop
abbrev St := List (Option V)
abbrev VK := V → Hp → Prop
/-- an expression's reading; a test's; an argument list's -/
abbrev TE := St → Hp → VK → Prop
abbrev TT := St → Hp → (Bool → Hp → Prop) → Prop
abbrev TA := St → Hp → (List V → Hp → Prop) → Prop
/-- what is wanted behind a statement -/
structure Ends where
  nx : St → Hp → Prop
  rt : VK
  bk : St → Hp → Prop := fun _ _ => False
  ct : St → Hp → Prop := fun _ _ => False
abbrev TS := Ends → St → Hp → Prop
def EP (X : Cx) (pins : List (Addr × Obj)) (σ : St) (Q : VK) (u : Value) (s' : Shared) : Prop := ∃ v H', Inv X pins σ H' s' ∧ RelV v u ∧ Q v H'
def TP (X : Cx) (pins : List (Addr × Obj)) (σ : St) (Q : Bool → Hp → Prop) (b : Bool) (s' : Shared) : Prop := ∃ H', Inv X pins σ H' s' ∧ Q b H'
def AP (X : Cx) (pins : List (Addr × Obj)) (σ : St) (Q : List V → Hp → Prop) (us : List Value) (s' : Shared) : Prop := ∃ vs H', Inv X pins σ H' s' ∧ Vals vs us ∧ Q vs H'
def SP (X : Cx) (pins : List (Addr × Obj)) (D : Ends) (f : Flow) (s' : Shared) : Prop :=
  match f with
  | .next => ∃ σ' H', Inv X pins σ' H' s' ∧ D.nx σ' H'
  | .brk => ∃ σ' H', Inv X pins σ' H' s' ∧ D.bk σ' H'
  | .cont => ∃ σ' H', Inv X pins σ' H' s' ∧ D.ct σ' H'
  | .ret u => ∃ v σ' H', Inv X pins σ' H' s' ∧ RelV v u ∧ D.rt v H'
def PE (X : Cx) (e : Expr) (t : TE) : Prop :=
  ∀ (pins : List (Addr × Obj)) (s : Shared) (σ : St) (H : Hp) (Q : VK), Inv X pins σ H s → t σ H Q → wpAny (model X.prog X.w) X.A (eval e X.env) (EP X pins σ Q) X.xe s
def PT (X : Cx) (e : Expr) (t : TT) : Prop :=
  ∀ (pins : List (Addr × Obj)) (s : Shared) (σ : St) (H : Hp) (Q : Bool → Hp → Prop), Inv X pins σ H s → t σ H Q → wpAny (model X.prog X.w) X.A (isTrue e X.env (eval e X.env)) (TP X pins σ Q) X.xe s
/-- a test whatever its 'whole' is (and, or) -/
def PW (X : Cx) (e : Expr) (t : TT) : Prop :=
  ∀ (whole : Sem Value) (pins : List (Addr × Obj)) (s : Shared) (σ : St) (H : Hp) (Q : Bool → Hp → Prop), Inv X pins σ H s → t σ H Q → wpAny (model X.prog X.w) X.A (isTrue e X.env whole) (TP X pins σ Q) X.xe s
theorem PW.pt {X : Cx} {e : Expr} {t : TT} (h : PW X e t) : PT X e t := h _
/-- an argument list (no star), from the left -/
def PA (X : Cx) (es : List Expr) (t : TA) : Prop :=
  ∀ (pos : Pos) (pins : List (Addr × Obj)) (s : Shared) (σ : St) (H : Hp) (Q : List V → Hp → Prop), Inv X pins σ H s → t σ H Q → wpAny (model X.prog X.w) X.A (spliced (backTo pos (starEach es X.env))) (AP X pins σ Q) X.xe s
def PS (X : Cx) (st : Stmt) (t : TS) : Prop :=
  ∀ (pins : List (Addr × Obj)) (s : Shared) (σ : St) (H : Hp) (D : Ends), Inv X pins σ H s → t D σ H → wpAny (model X.prog X.w) X.A (exec st X.env) (SP X pins D) X.xe s
def PSs (X : Cx) (st : List Stmt) (t : TS) : Prop :=
  ∀ (pins : List (Addr × Obj)) (s : Shared) (σ : St) (H : Hp) (D : Ends), Inv X pins σ H s → t D σ H → wpAny (model X.prog X.w) X.A (execs st X.env) (SP X pins D) X.xe s
theorem thn {α : Type} {t : Sem α} {Q Q' : α → Shared → Prop} {M : Model} {A : Around} {E : Value → Shared → Prop} {s : Shared} (h : wpAny M A t Q E s) (hQ : ∀ a s, Q a s → Q' a s) : wpAny M A t Q' E s := wpAny_mono h hQ fun _ _ x => x
end L2
namespace L2
open PySem PySem.Spec PyProof.Rows
section
variable {X : Cx}
def tVar (i : Nat) : TE := fun σ H Q => ∃ v, σ[i]? = some (some v) ∧ Q v H
def tC (v : V) : TE := fun _ H Q => Q v H
theorem pe_var {i : Nat} {x : Str} {pos : Pos} (hN : X.N[i]? = some x) (hv : Vis X.env.scope x) (hd : (x == ("__debug__" : Str)) = false := by decide) (hcd : (x == ("__classdict__" : Str)) = false := by decide) : PE X (.Name x pos) (tVar i) := by
  intro pins s σ H Q I h
  obtain ⟨v, e, h⟩ := h
  obtain ⟨m, hn, hl⟩ := I.loc
  obtain ⟨u, r, l⟩ := hl i x v hN e hv
  have fin : EP X pins σ Q u s := ⟨v, H, I, r, h⟩
  rcases l with ⟨hk, hm⟩ | ⟨hk, c, hc, hcell⟩
  · exact wpAny_Name (wpAny_loadName_local I.ok.kind hk hn hm fin) hd
  · rcases hk with hk | hk
    · exact wpAny_Name (wpAny_loadName_cell I.ok.kind hk hc hcell fin) hd
    · exact wpAny_Name (wpAny_loadName_free I.ok.kind hk hc hcell fin hcd) hd
theorem pe_int {i j pos} : PE X (.Constant (.int i) j pos) (tC (.int i)) := fun _ _ _ H _ I h => wpAny_Constant_int ⟨.int i, H, I.tok _, ⟨_, rfl⟩, h⟩
theorem pe_bl {b j pos} : PE X (.Constant (.bool b) j pos) (tC (.bl b)) := fun _ _ _ H _ I h => Constant_bool ⟨.bl b, H, I, rfl, h⟩
theorem pe_non {j pos} : PE X (.Constant .none j pos) (tC .non) := fun _ _ _ H _ I h => Constant_none ⟨.non, H, I, rfl, h⟩
/-- a global name of the def -/
def Gl (X : Cx) (x : Str) : Prop := X.env.kindOf x = some .globalImplicit
theorem ld_glob {E : Value → Shared → Prop} {pins : List (Addr × Obj)} {s : Shared} {σ : St} {H : Hp} {x : Str} {u : Value} {pos : Pos} {Q : Value → Shared → Prop} (I : Inv X pins σ H s) (hg : Gl X x) (hm : X.mg x = some u) (h : Q u s)
    (hd : (x == ("__debug__" : Str)) = false := by decide) : wpAny (model X.prog X.w) X.A (eval (.Name x pos) X.env) Q E s :=
  Calls.Name_function_global I.ok.kind hg (Calls.loadGlobal_global (by rw [I.ok.glob]; exact I.mod.glob.keeps I.bk) hm h) hd
theorem ld_blt {E : Value → Shared → Prop} {pins : List (Addr × Obj)} {s : Shared} {σ : St} {H : Hp} {x : Str} {u : Value} {pos : Pos} {Q : Value → Shared → Prop} (I : Inv X pins σ H s) (hg : Gl X x) (hm : X.mg x = none) (hv : bootBuiltins x = some u) (h : Q u s)
    (hn : x ≠ "__name__" := by decide) (hd : (x == ("__debug__" : Str)) = false := by decide) : wpAny (model X.prog X.w) X.A (eval (.Name x pos) X.env) Q E s := by
  obtain ⟨mb, h1, h2⟩ := I.mod.blt
  exact Calls.Name_function_global I.ok.kind hg (Calls.loadGlobal_builtin (by rw [I.ok.glob]; exact I.mod.glob.keeps I.bk) hm (by rw [I.ok.blt]; exact h1.keeps I.bk) ((h2 x hn).trans hv) h) hd
theorem pe_glob {x : Str} {v : V} {u : Value} {pos : Pos} (hg : Gl X x) (hm : X.mg x = some u) (r : RelV v u) (hd : (x == ("__debug__" : Str)) = false := by decide) : PE X (.Name x pos) (tC v) :=
  fun _ _ _ H _ I h => ld_glob I hg hm ⟨v, H, I, r, h⟩ hd
variable {a b : Expr} {ta tb : TE} {pos : Pos}
def PC (X : Cx) (op : CmpOp) (a b : Expr) (t : TE) : Prop :=
  ∀ (pins : List (Addr × Obj)) (s : Shared) (σ : St) (H : Hp) (Q : VK), Inv X pins σ H s → t σ H Q →
    wpAny (model X.prog X.w) X.A (eval a X.env) (fun v s₁ => wpAny (model X.prog X.w) X.A (eval b X.env) (fun u s₂ => wpAny (model X.prog X.w) X.A (compareOp op v u) (EP X pins σ Q) X.xe s₂) X.xe s₁) X.xe s
theorem nobehind (b : Expr) {op : CmpOp} (h : op ≠ .In) (h2 : op ≠ .NotIn) : behindInMarks op b = false := by
  have e1 : (op == CmpOp.In) = false := by cases op <;> first | rfl | exact absurd rfl h
  have e2 : (op == CmpOp.NotIn) = false := by cases op <;> first | rfl | exact absurd rfl h2
  cases b <;> simp [behindInMarks, e1, e2]
/-- is None -/
def tIsN (ta : TE) : TE := fun σ H Q => ta σ H fun x H1 => Q (.bl (decide (x = .non))) H1
theorem RelV.none_iff {x : V} {v : Value} (r : RelV x v) : (v == Value.none) = decide (x = .non) := by
  cases x with
  | non => cases r; rfl
  | bl _ => cases r; rfl
  | int _ => obtain ⟨t, rfl⟩ := r; rfl
  | str _ => obtain ⟨t, rfl⟩ := r; rfl
  | byt _ => obtain ⟨t, rfl⟩ := r; rfl
  | flt _ => obtain ⟨t, rfl⟩ := r; rfl
  | ref _ => cases r; rfl
  | ty _ => cases r; rfl
theorem pc_isN {j pos'} (ha : PE X a ta) : PC X .Is a (.Constant .none j pos') (tIsN ta) := by
  intro pins s σ H Q I h
  refine thn (ha pins s σ H _ I h) fun v s1 ⟨x, H1, I1, r1, q1⟩ => ?_
  exact Constant_none (is_none_gen ⟨.bl _, H1, I1, by rw [r1.none_iff]; rfl, q1⟩)
/-- a comparison as a value, as a test -/
def tB (t : TE) : TT := fun σ H Q => t σ H fun x H1 => ∃ c, x = .bl c ∧ Q c H1
theorem pt_cmp {op : CmpOp} {t : TE} (h : PC X op a b t) (h1 : behindInMarks op b = false := by first | exact nobehind _ (by decide) (by decide) | rfl) : PT X (.Compare a [op] [b] pos) (tB t) := by
  intro pins s σ H Q I hw
  refine wpAny_isTrue_Compare1 (thn (h pins s σ H _ I hw) fun v s1 h1 => thn h1 fun u s2 h2 => thn h2 fun c s3 ⟨x, H1, I1, r1, q1⟩ => ?_) h1
  obtain ⟨d, rfl, q⟩ := q1
  cases r1
  exact wpAny_truthy_bool ⟨H1, I1, q⟩
theorem pt_val {e : Expr} {t : TE} (h : PE X e t) (he : ∀ whole, isTrue e X.env whole = (do let v ← whole; standAt e.pos; holding [v] (truthy v)) := by intro _; rfl) : PT X e (tB t) := by
  intro pins s σ H Q I hw
  refine isTrue_plain (thn (h pins s σ H _ I hw) fun v s1 ⟨x, H1, I1, r1, q1⟩ => ?_) (he _)
  obtain ⟨d, rfl, q⟩ := q1
  cases r1
  exact wpAny_truthy_bool ⟨H1, I1, q⟩
variable {tA tB' : TT} {rest : List Expr}
def tAnd (t u : TT) : TT := fun σ H Q => t σ H fun c H1 => if c = true then u σ H1 Q else Q false H1
def tOr (t u : TT) : TT := fun σ H Q => t σ H fun c H1 => if c = true then Q true H1 else u σ H1 Q
def tNot (t : TT) : TT := fun σ H Q => t σ H fun c H1 => Q (!c) H1
theorem pw_and1 (ha : PT X a tA) : PW X (.BoolOp .And [a] pos) tA := by
  intro wh pins s σ H Q I h
  refine isTrue_and (thn (ha pins s σ H Q I h) fun c s1 e => ?_)
  cases c with
  | true => exact isTrue_and_nil e
  | false => exact e
theorem pw_or1 (ha : PT X a tA) : PW X (.BoolOp .Or [a] pos) tA := by
  intro wh pins s σ H Q I h
  refine isTrue_or (thn (ha pins s σ H Q I h) fun c s1 e => ?_)
  cases c with
  | false => exact isTrue_or_nil e
  | true => exact e
theorem pw_and (ha : PT X a tA) (hb : PW X (.BoolOp .And (b :: rest) pos) tB') : PW X (.BoolOp .And (a :: b :: rest) pos) (tAnd tA tB') := by
  intro wh pins s σ H Q I h
  refine isTrue_and (thn (ha pins s σ H _ I h) fun c s1 ⟨H1, I1, q1⟩ => ?_)
  cases c with
  | true => exact hb wh pins s1 σ H1 Q I1 q1
  | false => exact ⟨H1, I1, q1⟩
theorem pw_or (ha : PT X a tA) (hb : PW X (.BoolOp .Or (b :: rest) pos) tB') : PW X (.BoolOp .Or (a :: b :: rest) pos) (tOr tA tB') := by
  intro wh pins s σ H Q I h
  refine isTrue_or (thn (ha pins s σ H _ I h) fun c s1 ⟨H1, I1, q1⟩ => ?_)
  cases c with
  | true => exact ⟨H1, I1, q1⟩
  | false => exact hb wh pins s1 σ H1 Q I1 q1
theorem pt_not (ha : PT X a tA) : PT X (.UnaryOp .Not a pos) (tNot tA) := by
  intro pins s σ H Q I h
  exact isTrue_not (ha pins s σ H (fun c H1 => Q (!c) H1) I h)
/-- .. as values (bools) -/
def tAndV (ta tb : TE) : TE := fun σ H Q => ta σ H fun x H1 => ∃ c, x = .bl c ∧ if c = true then tb σ H1 Q else Q (.bl false) H1
theorem pe_one {op} {t : TE} (h : PE X a t) : PE X (.BoolOp op [a] pos) t := fun pins s σ H Q I hw => BoolOp_one (h pins s σ H Q I hw)
theorem pe_and (ha : PE X a ta) (hb : PE X (.BoolOp .And (b :: rest) pos) tb) : PE X (.BoolOp .And (a :: b :: rest) pos) (tAndV ta tb) := by
  intro pins s σ H Q I h
  refine BoolOp_and (thn (ha pins s σ H _ I h) fun v s1 ⟨x, H1, I1, r1, q1⟩ => ?_)
  obtain ⟨c, rfl, q1⟩ := q1
  cases r1
  refine wpAny_truthy_bool ?_
  cases c with
  | true => exact hb pins s1 σ H1 Q I1 q1
  | false => exact ⟨.bl false, H1, I1, rfl, q1⟩
/-- a if t else b -/
def tIf (t : TT) (ta tb : TE) : TE := fun σ H Q => t σ H fun c H1 => if c = true then ta σ H1 Q else tb σ H1 Q
theorem pe_ifExp {c : Expr} (hc : PT X c tA) (ha : PE X a ta) (hb : PE X b tb) : PE X (.IfExp c a b pos) (tIf tA ta tb) := by
  intro pins s σ H Q I h
  refine wpAny_IfExp (thn (hc pins s σ H _ I h) fun d s1 ⟨H1, I1, q1⟩ => ?_)
  cases d with
  | true => exact ha pins s1 σ H1 Q I1 q1
  | false => exact hb pins s1 σ H1 Q I1 q1
end
end L2
namespace L2
open PySem PySem.Spec PyProof.Rows
def SqL (K : PySem.W.Frag) (H : Hp) (a : Addr) (xs : List V) : Prop :=
  Rd H a (.lst xs) ∨
    ∃ (o : Obj) (its : Array Value) (n : Nat), K.lookup a = some o ∧ o.cls = .type "list" ∧ o.dict = none ∧ o.data = .seq its n ∧ its.size ≤ sizeLine ∧ Vals xs its.toList
def SqT (K : PySem.W.Frag) (H : Hp) (a : Addr) (xs : List V) : Prop :=
  Rd H a (.tup xs) ∨
    ∃ (o : Obj) (its : Array Value) (n : Nat), K.lookup a = some o ∧ o.cls = .type "tuple" ∧ o.data = .seq its n ∧ its.size ≤ sizeLine ∧ Vals xs its.toList
def absV : Value → Option V
  | .none => some .non
  | .bool b => some (.bl b)
  | .int i _ => some (.int i)
  | .str x _ => some (.str x)
  | .bytes b _ => some (.byt b)
  | .float b _ => some (.flt b)
  | .ref a => some (.ref a)
  | .type n => some (.ty n)
  | _ => none
theorem RelV.abs {x : V} {u : Value} (r : RelV x u) : absV u = some x := by
  cases x with
  | non => cases r; rfl
  | bl _ => cases r; rfl
  | int _ => obtain ⟨t, rfl⟩ := r; rfl
  | str _ => obtain ⟨t, rfl⟩ := r; rfl
  | byt _ => obtain ⟨t, rfl⟩ := r; rfl
  | flt _ => obtain ⟨t, rfl⟩ := r; rfl
  | ref _ => cases r; rfl
  | ty _ => cases r; rfl
theorem RelV.inj {x y : V} {u : Value} (r : RelV x u) (q : RelV y u) : x = y := Option.some.inj (r.abs.symm.trans q.abs)
theorem Vals.inj : ∀ {xs ys : List V} {us : List Value}, Vals xs us → Vals ys us → xs = ys
  | _, _, _, .nil, .nil => rfl
  | _, _, _, .cons r t, .cons r' t' => by rw [r.inj r', Vals.inj t t']
section
variable {X : Cx} {pins : List (Addr × Obj)} {σ : St} {H : Hp} {s : Shared} {a : Addr} {xs ys : List V}
theorem SqL.of {K : PySem.W.Frag} (h : H a = some (.lst xs)) : SqL K H a xs := .inl (.inl h)
theorem SqT.of {K : PySem.W.Frag} (h : H a = some (.tup xs)) : SqT K H a xs := .inl (.inl h)
theorem Inv.list (I : Inv X pins σ H s) (h : SqL X.K H a xs) : ∃ its : List Value, Vals xs its ∧ PlainL s.heap a its.toArray ∧ xs.length ≤ sizeLine := by
  rcases h with h | ⟨o, its, n, hk, hc, hd, hs, hz, r⟩
  · obtain ⟨z, its, n, r, e⟩ := h.ok I.hok
    exact ⟨its, r, ⟨_, n, e, rfl, rfl, rfl⟩, z⟩
  · refine ⟨its.toList, r, ⟨o, n, I.kIn a o hk, hc, hd, by simpa using hs⟩, ?_⟩
    have e := r.length
    simp only [Array.length_toList] at e
    omega
theorem Inv.tuple (I : Inv X pins σ H s) (h : SqT X.K H a xs) : ∃ its : List Value, Vals xs its ∧ IsTup s.heap a its.toArray ∧ xs.length ≤ sizeLine := by
  rcases h with h | ⟨o, its, n, hk, hc, hs, hz, r⟩
  · obtain ⟨z, its, r, p⟩ := h.ok I.hok
    exact ⟨its, r, p, z⟩
  · refine ⟨its.toList, r, ⟨o, I.kIn a o hk, hc, n, by simpa using hs⟩, ?_⟩
    have e := r.length
    simp only [Array.length_toList] at e
    omega
theorem Inv.list_inj (I : Inv X pins σ H s) (h : SqL X.K H a xs) (h' : SqL X.K H a ys) : xs = ys := by
  obtain ⟨its, r, ⟨o, n, e, _, _, d⟩, _⟩ := I.list h
  obtain ⟨its', r', ⟨o', n', e', _, _, d'⟩, _⟩ := I.list h'
  rw [e] at e'; cases e'
  rw [d] at d'
  injection d' with d1 _
  have : its = its' := by simpa using congrArg Array.toList d1
  subst this
  exact r.inj r'
end
abbrev Cx.wish (X : Cx) (E : Value → Shared → Prop) : Cx := { X with xe := E }
/-- no exception leaves -/
abbrev Cx.nox (X : Cx) : Cx := X.wish fun _ _ => False
theorem Cx.Ok.wish {X : Cx} (ok : X.Ok) (E : Value → Shared → Prop) : (X.wish E).Ok :=
  ⟨ok.mod, ok.kind, ok.glob, ok.blt, ok.above, ok.inj, ok.has, ok.cab, ok.hd, ok.frames, ok.stk, ok.exf, ok.bs, ok.bsz, ok.noex, ok.exfs, ok.funs, ok.frf⟩
theorem Cx.Ok.unwish {X : Cx} {E : Value → Shared → Prop} (ok : (X.wish E).Ok) : X.Ok :=
  ⟨ok.mod, ok.kind, ok.glob, ok.blt, ok.above, ok.inj, ok.has, ok.cab, ok.hd, ok.frames, ok.stk, ok.exf, ok.bs, ok.bsz, ok.noex, ok.exfs, ok.funs, ok.frf⟩
section
variable {X : Cx} {pins : List (Addr × Obj)} {σ : St} {H : Hp} {s : Shared} {E : Value → Shared → Prop}
theorem Inv.wish (I : Inv X pins σ H s) (E : Value → Shared → Prop) : Inv (X.wish E) pins σ H s := ⟨I.ok.wish E, I.os, I.bare, I.base, I.loc, I.cell, I.free, I.freeC, I.pin, I.hok, I.len⟩
theorem Inv.unwish (I : Inv (X.wish E) pins σ H s) : Inv X pins σ H s := ⟨I.ok.unwish, I.os, I.bare, I.base, I.loc, I.cell, I.free, I.freeC, I.pin, I.hok, I.len⟩
theorem SP.unwish {D : Ends} {f : Flow} {s' : Shared} (h : SP (X.wish E) pins D f s') : SP X pins D f s' := by
  cases f with
  | next => obtain ⟨σ', H', I, q⟩ := h; exact ⟨σ', H', I.unwish, q⟩
  | brk => obtain ⟨σ', H', I, q⟩ := h; exact ⟨σ', H', I.unwish, q⟩
  | cont => obtain ⟨σ', H', I, q⟩ := h; exact ⟨σ', H', I.unwish, q⟩
  | ret u => obtain ⟨v, σ', H', I, r, q⟩ := h; exact ⟨v, σ', H', I.unwish, r, q⟩
theorem PSs.nox {st : List Stmt} {t : TS} (h : PSs X.nox st t) : PSs X st t := fun pins s σ H D I hw =>
  wpAny_mono (h pins s σ H D (I.wish _) hw) (fun _ _ q => q.unwish) fun _ _ z => False.elim z
end
section
variable {X : Cx} {st : Stmt} {rest : List Stmt} {t u : TS} {e : Expr} {te : TE} {pos : Pos}
def tNext : TS := fun D σ H => D.nx σ H
def tSeq (t u : TS) : TS := fun D σ H => t { D with nx := u D } σ H
theorem pss_nil : PSs X [] tNext := fun _ _ σ H _ I h => wpAny_execs_nil ⟨σ, H, I, h⟩
theorem pss_cons (h1 : PS X st t) (h2 : PSs X rest u) : PSs X (st :: rest) (tSeq t u) := by
  intro pins s σ H D I h
  refine wpAny_execs_cons (thn (h1 pins s σ H { D with nx := u D } I h) fun f s1 q => ?_)
  cases f with
  | next =>
    obtain ⟨σ', H', I', q⟩ := q
    exact h2 pins s1 σ' H' D I' q
  | ret v => exact q
  | brk => exact q
  | cont => exact q
theorem pss_one (h1 : PS X st t) : PSs X [st] t := by
  intro pins s σ H D I h
  refine wpAny_execs_cons (thn (h1 pins s σ H D I h) fun f s1 q => ?_)
  cases f with
  | next => exact wpAny_execs_nil q
  | ret v => exact q
  | brk => exact q
  | cont => exact q
theorem Inv.quiet {pins : List (Addr × Obj)} {σ : St} {H : Hp} {s : Shared} (I : Inv X pins σ H s) : interactive X.env = false := by simp [interactive, I.ok.kind]
/-- an expression whose value is dropped -/
def tDrop (te : TE) : TS := fun D σ H => te σ H fun _ H1 => D.nx σ H1
theorem ps_expr (he : PE X e te) (hs : swapsWith e none pos.line X.env = pure false := by rfl) : PS X (.Expr e pos) (tDrop te) := by
  intro pins s σ H D I h
  exact wpAny_Expr_any (thn (he pins s σ H _ I h) fun v s1 ⟨x, H1, I1, r1, q1⟩ => ⟨σ, H1, I1, q1⟩) I.quiet hs
def tRet (te : TE) : TS := fun D σ H => te σ H D.rt
theorem ps_ret (he : PE X e te) : PS X (.Return (some e) pos) (tRet te) := by
  intro pins s σ H D I h
  exact wpAny_Return_some (thn (he pins s σ H _ I h) fun v s1 ⟨x, H1, I1, r1, q1⟩ => ⟨x, σ, H1, I1, r1, q1⟩)
def tIfS (c : TT) (t u : TS) : TS := fun D σ H => c σ H fun b H1 => if b = true then t D σ H1 else u D σ H1
theorem ps_if {c : Expr} {a b : List Stmt} {tc : TT} (hc : PT X c tc) (ha : PSs X a t) (hb : PSs X b u) : PS X (.If c a b pos) (tIfS tc t u) := by
  intro pins s σ H D I h
  refine wpAny_If (thn (hc pins s σ H _ I h) fun d s1 ⟨H1, I1, q1⟩ => ?_)
  cases d with
  | true => exact ha pins s1 σ H1 D I1 q1
  | false => exact hb pins s1 σ H1 D I1 q1
end
abbrev TG := V → St → Hp → (St → Hp → Prop) → Prop
abbrev TGs := List V → St → Hp → (St → Hp → Prop) → Prop
def PG (X : Cx) (target : Expr) (t : TG) : Prop :=
  ∀ (pins : List (Addr × Obj)) (s : Shared) (σ : St) (H : Hp) (v : V) (u : Value) (Q : St → Hp → Prop), Inv X pins σ H s → RelV v u → t v σ H Q →
    wpAny (model X.prog X.w) X.A (assign target X.env u) (fun _ s' => ∃ σ' H', Inv X pins σ' H' s' ∧ Q σ' H') X.xe s
/-- several targets, one after another -/
def PGs (X : Cx) (ts : List Expr) (t : TGs) : Prop :=
  ∀ (pins : List (Addr × Obj)) (s : Shared) (σ : St) (H : Hp) (vs : List V) (us : List Value) (Q : St → Hp → Prop), Inv X pins σ H s → Vals vs us → t vs σ H Q →
    wpAny (model X.prog X.w) X.A (assignInOrder ((assignEach ts X.env).map (·.2)) us) (fun _ s' => ∃ σ' H', Inv X pins σ' H' s' ∧ Q σ' H') X.xe s
/-- o[i] = v, by values -/
abbrev TSet := V → V → V → Hp → (Hp → Prop) → Prop
def PSet (X : Cx) (t : TSet) : Prop :=
  ∀ (pins : List (Addr × Obj)) (s : Shared) (σ : St) (H : Hp) (o i v : V) (ov iv u : Value) (Q : Hp → Prop), Inv X pins σ H s → RelV o ov → RelV i iv → RelV v u → t o i v H Q →
    wpAny (model X.prog X.w) X.A (setItem ov iv u) (fun _ s' => ∃ H', Inv X pins σ H' s' ∧ Q H') X.xe s
/-- a op= b, by values -/
abbrev TIp := V → V → Hp → VK → Prop
def PIp (X : Cx) (op : Operator) (t : TIp) : Prop :=
  ∀ (pins : List (Addr × Obj)) (s : Shared) (σ : St) (H : Hp) (x y : V) (v u : Value) (Q : VK), Inv X pins σ H s → RelV x v → RelV y u → t x y H Q →
    wpAny (model X.prog X.w) X.A (inplaceOp op v u) (EP X pins σ Q) X.xe s
section
variable {X : Cx} {pos : Pos}
def gName (i : Nat) : TG := fun v σ H Q => Q (σ.set i (some v)) H
theorem pg_name {i : Nat} {x : Str} (hN : X.N.Nodup) (hi : X.N[i]? = some x) (hx : Loc X.env.scope x) (hf : X.fn x = true ∨ X.env.scope.names.lookup x = some .local := by first | exact .inl rfl | exact .inr rfl | assumption) : PG X (.Name x pos) (gName i) := by
  intro pins s σ H v u Q I r h
  exact wpAny_assign_Name (store_ok I hN hi hx r (fun s' I' => ⟨_, H, I', h⟩) hf)
def gNil : TGs := fun vs σ H Q => vs = [] ∧ Q σ H
def gCons (t : TG) (u : TGs) : TGs := fun vs σ H Q => ∃ v r, vs = v :: r ∧ t v σ H fun σ' H' => u r σ' H' Q
theorem pgs_nil : PGs X [] gNil := by
  intro pins s σ H vs us Q I r h
  obtain ⟨e, h⟩ := h
  subst e
  cases r
  exact assignInOrder_nil ⟨σ, H, I, h⟩
theorem pgs_cons {e : Expr} {es : List Expr} {t : TG} {u : TGs} (h1 : PG X e t) (h2 : PGs X es u)
    (hs : (assignEach (e :: es) X.env).map (·.2) = assign e X.env :: (assignEach es X.env).map (·.2) := by rfl) : PGs X (e :: es) (gCons t u) := by
  intro pins s σ H vs us Q I r h
  obtain ⟨v, vr, e1, h⟩ := h
  subst e1
  cases r with
  | cons r rr =>
    rw [hs]
    refine assignInOrder_cons (thn (h1 pins s σ H _ _ _ I r h) fun _ s1 ⟨σ1, H1, I1, q1⟩ => ?_)
    exact h2 pins s1 σ1 H1 _ _ Q I1 rr q1
/-- (a, b, ..) = a tuple of that length -/
def gTup (K : PySem.W.Frag) (n : Nat) (t : TGs) : TG := fun v σ H Q => ∃ a xs, v = .ref a ∧ SqT K H a xs ∧ xs.length = n ∧ t xs σ H Q
theorem pg_tup {es : List Expr} {k : Nat} {t : TGs} {n : Nat} (hc : X.calm = true) (h : PGs X es t)
    (hn : (assignEach es X.env).length = n := by rfl) (hst : (assignEach es X.env).findIdx? (·.1) = none := by rfl) : PG X (.Tuple es k pos) (gTup X.K n t) := by
  intro pins s σ H v u Q I r hw
  obtain ⟨a, xs, e1, hq, hl, hw⟩ := hw
  subst e1
  cases r
  obtain ⟨its, rv, ht, hz⟩ := I.tuple hq
  refine assign_Tuple_tuple (I.ok.hd hc) ht (by simp [hn, ← hl, rv.length]) hst fun h' hx => ?_
  have I1 : Inv X pins σ H { s with heap := h' } := I.kept (t' := s.toks) fun b o e => hx b o (Nat.ne_of_lt (Heap.lt_size e)) e
  exact h pins _ σ H xs _ Q I1 (by simpa using rv) hw
/-- o[i] = .. -/
def gSub (to ti : TE) (t : TSet) : TG := fun v σ H Q => to σ H fun o H1 => ti σ H1 fun i H2 => t o i v H2 fun H3 => Q σ H3
theorem pg_sub {o i : Expr} {to ti : TE} {t : TSet} (ho : PE X o to) (hi : PE X i ti) (hs : PSet X t)
    (ha : ∀ v, assign (.Subscript o i pos) X.env v = (do
      let ov ← holding [v] (eval o X.env)
      let iv ← holding [v, ov] (eval i X.env)
      standAt pos
      holding [v, ov, iv] (setItem ov iv v)
      release [v, ov, iv] []) := by intro _; rfl) : PG X (.Subscript o i pos) (gSub to ti t) := by
  intro pins s σ H v u Q I r h
  rw [ha]
  refine wpAny_bind (wpAny_holding (thn (ho pins s σ H _ I h) fun ov s1 ⟨x, H1, I1, r1, q1⟩ => ?_))
  refine wpAny_bind (wpAny_holding (thn (hi pins s1 σ H1 _ I1 q1) fun iv s2 ⟨y, H2, I2, r2, q2⟩ => ?_))
  refine wpAny_bind (wpAny_standAt (wpAny_bind (wpAny_holding (thn (hs pins s2 σ H2 x y v ov iv u _ I2 r1 r2 r q2) fun _ s3 ⟨H3, I3, q3⟩ => ?_))))
  exact wpAny_release ⟨σ, H3, I3, q3⟩
/-- target = value -/
def tAsg (te : TE) (g : TG) : TS := fun D σ H => te σ H fun x H1 => g x σ H1 D.nx
theorem ps_asg {tg e : Expr} {te : TE} {g : TG} (he : PE X e te) (hg : PG X tg g) (hs : swapsWithSole [tg] e pos.line X.env = pure false := by rfl) (hw : swappedStores [tg] e X.env = pure none := by rfl)
    (h1 : (assignEach [tg] X.env).map (·.2) = [assign tg X.env] := by rfl) : PS X (.Assign [tg] e pos) (tAsg te g) := by
  intro pins s σ H D I h
  refine wpAny_Assign_stores (thn (he pins s σ H _ I h) fun v s1 ⟨x, H1, I1, r1, q1⟩ => ?_) hs hw
  rw [h1]
  exact thn (hg pins s1 σ H1 x v _ I1 r1 q1) fun _ s2 q => q
theorem ps_set {i : Nat} {x : Str} {e : Expr} {te : TE} {pos' : Pos} (hN : X.N.Nodup) (hi : X.N[i]? = some x) (hx : Loc X.env.scope x) (he : PE X e te) (hs : swapsWith e (some (.Name x pos')) pos.line X.env = pure false := by rfl) (hf : X.fn x = true ∨ X.env.scope.names.lookup x = some .local := by first | exact .inl rfl | exact .inr rfl | assumption) :
    PS X (.Assign [.Name x pos'] e pos) (tAsg te (gName i)) := by
  intro pins s σ H D I h
  refine wpAny_Assign_Name (thn (he pins s σ H _ I h) fun v s1 ⟨y, H1, I1, r1, q1⟩ => ?_) hs
  exact store_ok I1 hN hi hx r1 (fun s2 I2 => ⟨_, H1, I2, q1⟩) hf
/-- name op= e -/
def tAug (i : Nat) (te : TE) (ti : TIp) : TS := fun D σ H => ∃ x, σ[i]? = some (some x) ∧ te σ H fun y H1 => ti x y H1 fun z H2 => D.nx (σ.set i (some z)) H2
theorem ps_aug {i : Nat} {x : Str} {e : Expr} {te : TE} {op : Operator} {ti : TIp} {pos' : Pos} (hN : X.N.Nodup) (hi : X.N[i]? = some x) (hx : Loc X.env.scope x) (he : PE X e te) (ho : PIp X op ti) (hf : X.fn x = true ∨ X.env.scope.names.lookup x = some .local := by first | exact .inl rfl | exact .inr rfl | assumption) :
    PS X (.AugAssign (.Name x pos') op e pos) (tAug i te ti) := by
  intro pins s σ H D I h
  obtain ⟨v, e1, h⟩ := h
  obtain ⟨m, hn, hl⟩ := I.loc
  have vis : Vis X.env.scope x := by rcases hx with k | k; exact .inl k; exact .inr (.inl k)
  obtain ⟨u, r, l⟩ := hl i x v hi e1 vis
  refine wpAny_AugAssign_Name ?_
  have go : wpAny (model X.prog X.w) X.A (eval e X.env) (fun w s₂ => wpAny (model X.prog X.w) X.A (inplaceOp op u w) (fun r s₃ => wpAny (model X.prog X.w) X.A (storeName X.env x r) (fun _ => SP X pins D .next) X.xe s₃) X.xe s₂) X.xe s := by
    refine thn (he pins s σ H _ I h) fun w s1 ⟨y, H1, I1, r1, q1⟩ => ?_
    refine thn (ho pins s1 σ H1 v y u w _ I1 r r1 q1) fun z s2 ⟨zv, H2, I2, r2, q2⟩ => ?_
    exact store_ok I2 hN hi hx r2 (fun s3 I3 => ⟨_, H2, I3, q2⟩) hf
  rcases l with ⟨hk, hm⟩ | ⟨hk, c, hc, hcell⟩
  · exact wpAny_loadName_local I.ok.kind hk hn hm go
  · rcases hk with hk | hk
    · exact wpAny_loadName_cell I.ok.kind hk hc hcell go
    · rcases hx with k | k
      · have : X.env.scope.names.lookup x = some .free := hk
        rw [k] at this; cases this
      · have : X.env.scope.names.lookup x = some .free := hk
        rw [k] at this; cases this
/-- o[i] op= e -/
def tAugS (to ti te : TE) (tget : V → V → Hp → VK → Prop) (tip : TIp) (tset : TSet) : TS := fun D σ H => to σ H fun o H1 => ti σ H1 fun i H2 => tget o i H2 fun x H3 => te σ H3 fun y H4 => tip x y H4 fun z H5 => tset o i z H5 fun H6 => D.nx σ H6
/-- o[i], by values -/
def PGet (X : Cx) (t : V → V → Hp → VK → Prop) : Prop :=
  ∀ (pins : List (Addr × Obj)) (s : Shared) (σ : St) (H : Hp) (o i : V) (ov iv : Value) (Q : VK), Inv X pins σ H s → RelV o ov → RelV i iv → t o i H Q →
    wpAny (model X.prog X.w) X.A (getItem ov iv) (EP X pins σ Q) X.xe s
theorem ps_augS {o i e : Expr} {to ti te : TE} {tget : V → V → Hp → VK → Prop} {tip : TIp} {tset : TSet} {op : Operator} {tpos : Pos} (ho : PE X o to) (hi : PE X i ti) (hg : PGet X tget) (he : PE X e te) (hp : PIp X op tip) (hs : PSet X tset)
    (ha : ∀ ov iv new, augStore i ov iv new = (do holding [new, ov, iv] (setItem ov iv new); release [new, ov, iv] []; pure .next) := by intros; rfl) : PS X (.AugAssign (.Subscript o i tpos) op e pos) (tAugS to ti te tget tip tset) := by
  intro pins s σ H D I h
  refine wpAny_AugAssign_SubscriptAny (thn (ho pins s σ H _ I h) fun ov s1 ⟨x1, H1, I1, r1, q1⟩ => ?_) ha
  refine thn (hi pins s1 σ H1 _ I1 q1) fun iv s2 ⟨x2, H2, I2, r2, q2⟩ => ?_
  refine thn (hg pins s2 σ H2 x1 x2 ov iv _ I2 r1 r2 q2) fun old s3 ⟨x3, H3, I3, r3, q3⟩ => ?_
  refine thn (he pins s3 σ H3 _ I3 q3) fun v s4 ⟨x4, H4, I4, r4, q4⟩ => ?_
  refine thn (hp pins s4 σ H4 x3 x4 old v _ I4 r3 r4 q4) fun new s5 ⟨x5, H5, I5, r5, q5⟩ => ?_
  exact thn (hs pins s5 σ H5 x1 x2 x5 ov iv new _ I5 r1 r2 r5 q5) fun _ s6 ⟨H6, I6, q6⟩ => ⟨σ, H6, I6, q6⟩
/-- ints -/
def ipI (f : Int → Int → Int) : TIp := fun x y H Q => ∃ i j, x = .int i ∧ y = .int j ∧ Q (.int (f i j)) H
theorem ip_add : PIp X .Add (ipI fun i j => i + j) := by
  intro pins s σ H x y v u Q I r1 r2 h
  obtain ⟨i, j, e1, e2, q⟩ := h
  subst e1; subst e2
  obtain ⟨t, rfl⟩ := r1
  obtain ⟨t', rfl⟩ := r2
  exact iadd_int ⟨.int _, H, I.tok _, ⟨_, rfl⟩, q⟩
theorem ip_sub : PIp X .Sub (ipI fun i j => i - j) := by
  intro pins s σ H x y v u Q I r1 r2 h
  obtain ⟨i, j, e1, e2, q⟩ := h
  subst e1; subst e2
  obtain ⟨t, rfl⟩ := r1
  obtain ⟨t', rfl⟩ := r2
  exact isub_int ⟨.int _, H, I.tok _, ⟨_, rfl⟩, q⟩
end
section
variable {X : Cx} {pos : Pos}
/-- the invariant W with its measure -/
def tWhile (c : TT) (tb : TS) : TS := fun D σ H => ∃ W : Nat → St → Hp → Prop, (∃ m, W m σ H) ∧ ∀ m σ H, W m σ H →
  c σ H fun b H1 => if b = true then ∃ N : St → Hp → Prop, (∀ σ' H', N σ' H' → ∃ m', m' < m ∧ W m' σ' H') ∧ tb { D with nx := N, ct := N, bk := D.nx } σ H1 else D.nx σ H1
theorem ps_while {c : Expr} {body : List Stmt} {tc : TT} {tb : TS} (hp : PassesOwn (model X.prog X.w) X.A X.env X.xe) (hc : PT X c tc) (hb : PSs X body tb) : PS X (.While c body [] pos) (tWhile tc tb) := by
  intro pins s σ H D I h
  obtain ⟨W, ⟨m0, w0⟩, turn⟩ := h
  refine wpAny_While (codeAny_whileLoop (fun n s' => ∃ σ' H', Inv X pins σ' H' s' ∧ W n σ' H') ?_ m0 ⟨σ, H, I, w0⟩)
  rintro n s1 ⟨σ1, H1, I1, w1⟩
  refine wpAny_passesOwn hp (thn (hc pins s1 σ1 H1 _ I1 (turn n σ1 H1 w1)) fun b s2 ⟨H2, I2, q2⟩ => ?_)
  cases b with
  | true =>
    obtain ⟨N, hN, q2⟩ := q2
    rw [if_pos rfl]
    refine wpAny_passesOwn hp (thn (hb pins s2 σ1 H2 _ I2 q2) fun f s3 q3 => ?_)
    cases f with
    | next =>
      obtain ⟨σ3, H3, I3, n3⟩ := q3
      obtain ⟨m', hm, w3⟩ := hN σ3 H3 n3
      exact ⟨m', hm, σ3, H3, I3, w3⟩
    | cont =>
      obtain ⟨σ3, H3, I3, n3⟩ := q3
      obtain ⟨m', hm, w3⟩ := hN σ3 H3 n3
      exact ⟨m', hm, σ3, H3, I3, w3⟩
    | brk => exact q3
    | ret v => exact q3
  | false =>
    rw [if_neg Bool.false_ne_true]
    exact wpAny_execs_nil ⟨σ1, H2, I2, q2⟩
end
/-- at turn i: it yields x (the heap may grow), or it stops -/
structure It where
  go : Nat → Hp → Prop
  yld : Nat → Hp → V → Hp → Prop
  stop : Nat → Hp → Prop
/-- the iterator's own objects may turn: they are not the frame's, not pinned, younger than the entry (or a comprehension's own) -/
def FpOk (X : Cx) (pins : List (Addr × Obj)) (H : Hp) (b : Addr) : Prop :=
  H b = none ∧ b ≠ X.env.locals ∧ b ∉ X.fs ∧ (b ∈ X.ex ∨ X.s_0.heap.objs.size ≤ b) ∧ (∀ x c, X.env.cells.lookup x = some c → c ≠ b) ∧ ∀ p ∈ X.pn ++ pins, p.1 ≠ b
theorem Inv.fpOk {X : Cx} {pins : List (Addr × Obj)} {σ : St} {H H' : Hp} {s : Shared} {b : Addr} (I : Inv X pins σ H s) (hb : s.heap.objs.size ≤ b) (hn : H' b = none) : FpOk X pins H' b := by
  refine ⟨hn, Nat.ne_of_gt (Nat.lt_of_lt_of_le I.lt hb), I.nofs hb, .inr (Nat.le_trans I.sz hb), fun x c e z => ?_, fun p hp z => ?_⟩
  · obtain ⟨v, q⟩ := I.cell x c e
    exact absurd (Nat.lt_of_lt_of_le q.lt (by rw [z]; exact hb)) (Nat.lt_irrefl _)
  · exact absurd (Nat.lt_of_lt_of_le (Heap.lt_size (I.pin p hp).1) (by rw [z]; exact hb)) (Nat.lt_irrefl _)
structure Turn (P : Program) (w : World) (K : PySem.W.Frag) (tg : Expr) (J : It) (fp : List Addr) (it : Addr) (tn : Nat → Heap → Prop) : Prop where
  mem : it ∈ fp
  obj : ∀ i h, tn i h → ∀ b ∈ fp, ∃ o, h.get? b = some o ∧ ∀ v, o.data ≠ .cell v
  keep : ∀ i h h', tn i h → (∀ b ∈ fp, ∀ o, h.get? b = some o → h'.get? b = some o) → tn i h'
  item : ∀ (X : Cx), X.prog = P → X.w = w → X.K = K → X.calm = true → ∀ (i : Nat) (pins : List (Addr × Obj)) (s : Shared) (σ : St) (H : Hp) (E : Value → Shared → Prop), Inv X pins σ H s → (∀ b ∈ fp, FpOk X pins H b) → tn i s.heap → J.go i H →
    wpAny (model P w) X.A (pyNext (.ref it)) (fun r s1 => ∃ u, r = some u ∧
      wpAny (model P w) X.A (letOwnedTupleGo tg (.ref it) u) (fun _ s2 => ∃ x H', Inv X pins σ H' s2 ∧ RelV x u ∧ J.yld i H x H' ∧ tn (i + 1) s2.heap ∧ ∀ b ∈ fp, H' b = none) E s1) E s
  done : ∀ (X : Cx), X.prog = P → X.w = w → X.K = K → X.calm = true → ∀ (i : Nat) (pins : List (Addr × Obj)) (s : Shared) (σ : St) (H : Hp) (E : Value → Shared → Prop), Inv X pins σ H s → (∀ b ∈ fp, FpOk X pins H b) → tn i s.heap → J.stop i H →
    wpAny (model P w) X.A (pyNext (.ref it)) (fun r s1 => r = none ∧ Inv X pins σ H s1) E s
  self : ∀ (A : Around) (i : Nat) (s : Shared) (Q : Value → Shared → Prop) (E : Value → Shared → Prop), tn i s.heap → Q (.ref it) s → wpAny (model P w) A (pyIter (.ref it)) Q E s
abbrev TI := St → Hp → (It → Hp → Prop) → Prop
/-- an iterator has come -/
def PIE (X : Cx) (pins : List (Addr × Obj)) (σ : St) (tg : Expr) (R : It → Hp → Prop) (itv : Value) (s2 : Shared) : Prop :=
  ∃ (it : Addr) (fp : List Addr) (tn : Nat → Heap → Prop) (J : It) (H' : Hp), itv = .ref it ∧ Inv X pins σ H' s2 ∧ Turn X.prog X.w X.K tg J fp it tn ∧ tn 0 s2.heap ∧ (∀ b ∈ fp, FpOk X pins H' b) ∧ R J H'
def PI (X : Cx) (tg iter : Expr) (wi : TI) : Prop :=
  ∀ (pins : List (Addr × Obj)) (s : Shared) (σ : St) (H : Hp) (R : It → Hp → Prop), Inv X pins σ H s → wi σ H R →
    wpAny (model X.prog X.w) X.A (eval iter X.env) (fun v s1 => wpAny (model X.prog X.w) X.A (pyIter v) (PIE X pins σ tg R) X.xe s1) X.xe s
theorem go_of {M : Model} {A : Around} {E : Value → Shared → Prop} {s : Shared} {tg : Expr} {it : Addr} {u : Value} {o : Obj} {n : String} {vs : Array Value} {Q : Unit → Shared → Prop} (ho : s.heap.get? it = some o) (hc : o.cls = .type n) (hd : o.data = .fields vs)
    (hn : ["enumerate", "zip", "dict_itemiterator", "dict_reverseitemiterator", "odict_iterator", "itertools.zip_longest", "itertools.pairwise"].contains n = false) (hQ : Q () s) : wpAny M A (letOwnedTupleGo tg (.ref it) u) Q E s := by
  unfold letOwnedTupleGo
  cases tg <;> first
    | exact wpAny_pure hQ
    | (cases u <;> first
        | exact wpAny_pure hQ
        | (refine wpAny_bind (wpAny_load ho ?_)
           rw [hc, hd]
           show wpAny M A (if (["enumerate", "zip", "dict_itemiterator", "dict_reverseitemiterator", "odict_iterator", "itertools.zip_longest", "itertools.pairwise"].contains n && vs[0]? == some (rawInt _)) = true then _ else _) Q E s
           rw [if_neg (by intro h; rw [hn, Bool.false_and] at h; cases h)]
           exact wpAny_pure hQ))
/-- the list at a, as it stands at each turn (a loop may append to it) -/
def Itl (K : PySem.W.Frag) (a : Addr) : It :=
  ⟨fun i H => ∃ xs x, SqL K H a xs ∧ xs[i]? = some x, fun i H x H' => H' = H ∧ ∀ xs, SqL K H a xs → xs[i]? = some x, fun i H => ∃ xs, SqL K H a xs ∧ xs.length ≤ i⟩
/-- lo, lo + 1, .. (n of them) -/
def Itr (lo : Int) (n : Nat) : It := ⟨fun i _ => i < n, fun i H x H' => H' = H ∧ x = .int (lo + i), fun i _ => n ≤ i⟩
theorem turn_list {P : Program} {w : World} {K : PySem.W.Frag} {tg : Expr} (a it : Addr) : Turn P w K tg (Itl K a) [it] it (fun i h => h.IsListIter it a i) where
  mem := by simp
  obj := fun i h st b hb => by
    have e : b = it := by simpa using hb
    subst e
    obtain ⟨o, e, c, d⟩ := st
    exact ⟨o, e, fun v z => by rw [d] at z; cases z⟩
  keep := fun i h h' st k => st.at fun o e => k it (by simp) o e
  item := by
    intro X hP hw hK hc i pins s σ H E I hf st hg
    subst hP hw hK
    obtain ⟨xs, x, hq, hx⟩ := hg
    obtain ⟨its, rv, p, hz⟩ := I.list hq
    obtain ⟨u, hu, ru⟩ := rv.get hx
    obtain ⟨f0, f1, f2, f3, f4, f5⟩ := hf it (by simp)
    refine wpAny_pyNext_list_item st p.isList (x := u) (by simpa using hu) fun h' st' sb => ?_
    have I1 : Inv X pins σ H { s with heap := h' } := I.turned (t' := s.toks) (fun b o hb e => (sb.2 b hb).trans e) f0 f1 f3 f4 f5
    obtain ⟨o, e, c, d⟩ := id st'
    exact ⟨u, rfl, go_of (s := { s with heap := h' }) e c d (by decide) ⟨x, H, I1, ru, ⟨rfl, fun ys hy => by rw [I.list_inj hy hq]; exact hx⟩, st', fun b hb => (hf b hb).1⟩⟩
  done := by
    intro X hP hw hK hc i pins s σ H E I hf st hg
    subst hP hw hK
    obtain ⟨xs, hq, hx⟩ := hg
    obtain ⟨its, rv, p, hz⟩ := I.list hq
    obtain ⟨f0, f1, f2, f3, f4, f5⟩ := hf it (by simp)
    have hl := rv.length
    exact wpAny_pyNext_list_end (I.ok.hd hc) st p.isList (by simp; omega) fun h' eb => ⟨rfl, I.turned (t' := s.toks) (fun b o hb e => eb b o hb e) f0 f1 f3 f4 f5⟩
  self := fun _ _ _ _ _ st h => wpAny_pyIter_listiter st h
theorem turn_range {P : Program} {w : World} {K : PySem.W.Frag} {tg : Expr} (it : Addr) (lo : Int) (n : Nat) : Turn P w K tg (Itr lo n) [it] it (fun i h => IsRangeIter h it (lo + (i : Nat) * 1) ((n : Int) - (i : Nat)) 1) where
  mem := by simp
  obj := fun i h st b hb => by
    have e : b = it := by simpa using hb
    subst e
    exact ⟨_, st, fun v z => by
      have z' : Data.fields _ = Data.cell v := z
      cases z'⟩
  keep := fun i h h' st k => k it (by simp) _ st
  item := by
    intro X hP hw hK hc i pins s σ H E I hf st hg
    subst hP hw hK
    obtain ⟨f0, f1, f2, f3, f4, f5⟩ := hf it (by simp)
    have W := Walks.range (prog := X.prog) (w := X.w) (I.ok.hd hc) it lo 1 n
    refine W.item i s _ _ hg st fun v h' tk hv st' kk => ?_
    obtain ⟨t, rfl⟩ := hv
    have I1 : Inv X pins σ H { s with heap := h', toks := tk } := I.turned (fun b o hb e => kk b o (by simpa using hb) e) f0 f1 f3 f4 f5
    refine ⟨_, rfl, go_of (s := { s with heap := h', toks := tk }) (n := "range_iterator") st' rfl rfl (by decide) ⟨.int (lo + i), H, I1, ⟨t, ?_⟩, ⟨rfl, rfl⟩, st', fun b hb => (hf b hb).1⟩⟩
    rw [Int.mul_one]
  done := by
    intro X hP hw hK hc i pins s σ H E I hf st hg
    subst hP hw hK
    obtain ⟨f0, f1, f2, f3, f4, f5⟩ := hf it (by simp)
    exact wpAny_pyNext_range_end (I.ok.hd hc) st (by have : n ≤ i := hg; omega) fun h' eb => ⟨rfl, I.turned (t' := s.toks) (fun b o hb e => eb b o hb e) f0 f1 f3 f4 f5⟩
  self := fun _ _ _ _ _ st h => wpAny_pyIter_rangeiter st h
end L2
namespace L2
open PySem PySem.Spec PyProof.Rows
section
variable {X : Cx} {tg : Expr}
def iList (K : PySem.W.Frag) (tl : TE) : TI := fun σ H R => tl σ H fun x H1 => ∃ a, x = .ref a ∧ (∃ xs, SqL K H1 a xs) ∧ R (Itl K a) H1
theorem pi_list {l : Expr} {tl : TE} (hl : PE X l tl) : PI X tg l (iList X.K tl) := by
  intro pins s σ H R I h
  refine thn (hl pins s σ H _ I h) fun v s1 ⟨x, H1, I1, r1, q1⟩ => ?_
  obtain ⟨a, e, ⟨xs, hq⟩, q⟩ := q1
  subst e
  cases r1
  obtain ⟨its, rv, p, hz⟩ := I1.list hq
  refine wpAny_pyIter_list p.isList ?_
  refine ⟨s1.heap.objs.size, [s1.heap.objs.size], _, _, H1, rfl, I1.kept (t' := s1.toks) fun b o e => Heap.get?_push_of_some _ e, turn_list a _, ⟨_, Heap.get?_push_size _ rfl, rfl, rfl⟩, fun b hb => ?_, q⟩
  have e : b = s1.heap.objs.size := by simpa using hb
  subst e
  exact I1.fpOk (Nat.le_refl _) (I1.hok.fresh (Nat.le_refl _))
theorem range_it {pins : List (Addr × Obj)} {σ : St} {H : Hp} {s : Shared} {R : It → Hp → Prop} {E : Value → Shared → Prop} {lo hi : Int} {t u v : Tok} {tk : Nat} (I : Inv X pins σ H s) (h1 : -(2 ^ 62) ≤ lo) (h2 : lo < 2 ^ 62) (h3 : -(2 ^ 62) ≤ hi) (h4 : hi < 2 ^ 62)
    (q : R (Itr lo (hi - lo).toNat) H) : wpAny (model X.prog X.w) X.A (pyIter (.ref s.heap.objs.size)) (PIE X pins σ tg R) E { s with heap := s.heap.push { cls := .type "range", data := .fields #[.int lo t, .int hi u, .int 1 v] }, toks := tk } := by
  refine wpAny_pyIter_range (IsRange.new ..) (small_one h1 h2 h3 h4) ?_
  have I1 : Inv X pins σ H { s with heap := s.heap.push { cls := .type "range", data := .fields #[.int lo t, .int hi u, .int 1 v] }, toks := tk } := I.kept fun b o e => Heap.get?_push_of_some _ e
  refine ⟨(s.heap.push { cls := .type "range", data := .fields #[.int lo t, .int hi u, .int 1 v] }).objs.size, [(s.heap.push { cls := .type "range", data := .fields #[.int lo t, .int hi u, .int 1 v] }).objs.size], _, _, H, rfl,
    I1.kept (t' := tk) fun b o e => Heap.get?_push_of_some _ e, turn_range _ lo (hi - lo).toNat, ?_, fun b hb => ?_, q⟩
  · have e1 : lo + ((0 : Nat) : Int) * 1 = lo := by simp
    have e2 : (((hi - lo).toNat : Nat) : Int) - ((0 : Nat) : Int) = Builtin.Range.rangeSize lo hi 1 := by rw [rangeSize_one]; split <;> omega
    show IsRangeIter _ _ (lo + ((0 : Nat) : Int) * 1) ((((hi - lo).toNat : Nat) : Int) - ((0 : Nat) : Int)) 1
    rw [e1, e2]
    exact Heap.get?_push_size _ rfl
  · have e : b = (s.heap.push { cls := .type "range", data := .fields #[.int lo t, .int hi u, .int 1 v] }).objs.size := by simpa using hb
    subst e
    exact I1.fpOk (Nat.le_refl _) (I1.hok.fresh (Nat.le_refl _))
def iRng1 (ta : TA) : TI := fun σ H R => ta σ H fun vs H1 => ∃ j : Int, vs = [.int j] ∧ -(2 ^ 62) ≤ j ∧ j < 2 ^ 62 ∧ R (Itr 0 j.toNat) H1
def iRng2 (ta : TA) : TI := fun σ H R => ta σ H fun vs H1 => ∃ i j : Int, vs = [.int i, .int j] ∧ (-(2 ^ 62) ≤ i ∧ i < 2 ^ 62 ∧ -(2 ^ 62) ≤ j ∧ j < 2 ^ 62) ∧ R (Itr i (j - i).toNat) H1
theorem pi_range1 {a : Expr} {ta : TA} {p pos : Pos} (hg : Gl X "range") (hm : X.mg "range" = none) (ha : PA X [a] ta) (hs : starEach [a] X.env = [(false, eval a X.env)] := by rfl) : PI X tg (.Call (.Name "range" p) [a] [] pos) (iRng1 ta) := by
  intro pins s σ H R I h
  refine Call_ (ld_blt I hg hm boot_range (PyProof.Rows.callWith_type1 (thn (ha pos pins s σ H _ I h) fun us s1 ⟨vs, H1, I1, r1, q1⟩ => ?_) hs rfl))
  obtain ⟨j, e, q1, q2, q⟩ := q1
  subst e
  cases r1 with
  | cons r rr =>
    cases rr
    obtain ⟨t, rfl⟩ := r
    exact call_range_1 (range_it I1 (by omega) (by omega) q1 q2 (by simpa using q))
theorem pi_range2 {a b : Expr} {ta : TA} {p pos : Pos} (hg : Gl X "range") (hm : X.mg "range" = none) (ha : PA X [a, b] ta) (hs : starEach [a, b] X.env = [(false, eval a X.env), (false, eval b X.env)] := by rfl) (hs2 : starEach [b] X.env = [(false, eval b X.env)] := by rfl) :
    PI X tg (.Call (.Name "range" p) [a, b] [] pos) (iRng2 ta) := by
  intro pins s σ H R I h
  refine Call_ (ld_blt I hg hm boot_range (PyProof.Rows.callWith_type1 (thn (ha pos pins s σ H _ I h) fun us s1 ⟨vs, H1, I1, r1, q1⟩ => ?_) (by rw [hs, hs2]) (by rw [hs2]; rfl)))
  obtain ⟨i, j, e, ⟨q1, q2, q3, q4⟩, q⟩ := q1
  subst e
  cases r1 with
  | cons r rr =>
    cases rr with
    | cons r' rr =>
      cases rr
      obtain ⟨t, rfl⟩ := r
      obtain ⟨t', rfl⟩ := r'
      exact call_range_2 (range_it I1 q1 q2 q3 q4 q)
/-- W: the invariant by the turn and a measure; N: what the body is to reach -/
def tFor (wi : TI) (g : TG) (tb : TS) : TS := fun D σ H => wi σ H fun J H1 => ∃ W : Nat → Nat → St → Hp → Prop, (∃ m, W 0 m σ H1) ∧ ∀ i m σ H, W i m σ H →
  (J.stop i H ∧ D.nx σ H) ∨ (J.go i H ∧ ∃ N : St → Hp → Prop, (∀ σ' H', N σ' H' → ∃ m', m' < m ∧ W (i + 1) m' σ' H') ∧ ∀ x H', J.yld i H x H' → g x σ H' fun σ2 H2 => tb { D with nx := N, ct := N, bk := D.nx } σ2 H2)
/-- the records at fp as they stand -/
def pinsAt (fp : List Addr) (h : Heap) : List (Addr × Obj) := fp.filterMap fun b => (h.get? b).map fun o => (b, o)
theorem mem_pinsAt {fp : List Addr} {h : Heap} {b : Addr} {o : Obj} (hb : b ∈ fp) (e : h.get? b = some o) : (b, o) ∈ pinsAt fp h := List.mem_filterMap.mpr ⟨b, hb, by rw [e]; rfl⟩
theorem of_pinsAt {fp : List Addr} {h : Heap} {p : Addr × Obj} (hp : p ∈ pinsAt fp h) : p.1 ∈ fp ∧ h.get? p.1 = some p.2 := by
  obtain ⟨b, hb, e⟩ := List.mem_filterMap.mp hp
  cases q : h.get? b with
  | none => rw [q] at e; cases e
  | some o =>
    rw [q] at e
    have e' : (b, o) = p := Option.some.inj e
    subst e'
    exact ⟨hb, q⟩
theorem Inv.pinned {pins : List (Addr × Obj)} {σ : St} {H : Hp} {s : Shared} {fp : List Addr} (I : Inv X pins σ H s) (hf : ∀ b ∈ fp, FpOk X pins H b) (ho : ∀ b ∈ fp, ∃ o, s.heap.get? b = some o ∧ ∀ v, o.data ≠ .cell v) : Inv X (pins ++ pinsAt fp s.heap) σ H s :=
  I.pins_of fun p hp => (List.mem_append.mp hp).elim (fun z => I.pin p (List.mem_append_right _ z)) fun z => by
    obtain ⟨hb, e⟩ := of_pinsAt z
    obtain ⟨f0, f1, f2, _⟩ := hf p.1 hb
    obtain ⟨o, e', d⟩ := ho p.1 hb
    rw [e] at e'; cases e'
    exact ⟨e, f0, f1, f2, d⟩
theorem Inv.unpinned {pins pl : List (Addr × Obj)} {σ : St} {H : Hp} {s : Shared} (I : Inv X (pins ++ pl) σ H s) : Inv X pins σ H s := I.pins_of fun p hp => I.pin p (List.mem_append_right _ (List.mem_append_left _ hp))
theorem ps_for {iter : Expr} {body : List Stmt} {wi : TI} {g : TG} {tb : TS} {pos : Pos} (hp : PassesOwn (model X.prog X.w) X.A X.env X.xe) (hc : X.calm = true) (hi : PI X tg iter wi) (hg : PG X tg g) (hb : PSs X body tb)
    (hs : ∀ x, foldedSetIterable iter X.env x = pure x := by intro _; rfl) : PS X (.For tg iter body [] pos) (tFor wi g tb) := by
  intro pins s σ H D I h
  refine wpAny_For (thn (hi pins s σ H _ I h) fun v s1 h1 => thn h1 fun itv s2 h2 => ?_) hs
  obtain ⟨it, fp, tn, J, H2, e, I2, T, st2, f2, W, ⟨m0, w0⟩, turn⟩ := h2
  subst e
  -- what stays true of the iterator's objects through the loop
  have stat : ∀ {H' : Hp}, (∀ b ∈ fp, H' b = none) → ∀ b ∈ fp, FpOk X pins H' b := fun hn b hb => ⟨hn b hb, (f2 b hb).2⟩
  refine codeAny_forLoop_any (fun n s' => ∃ i σ' H', Inv X pins σ' H' s' ∧ tn i s'.heap ∧ (∀ b ∈ fp, H' b = none) ∧ W i n σ' H') ?_ m0 ⟨0, σ, H2, I2, st2, fun b hb => (f2 b hb).1, w0⟩
  rintro n s3 ⟨i, σ3, H3, I3, st3, fr3, w3⟩
  rcases turn i n σ3 H3 w3 with ⟨stop, qn⟩ | ⟨go, N, hN, step⟩
  · refine wpAny_passesOwn hp (thn (T.done X rfl rfl rfl hc i pins s3 σ3 H3 X.xe I3 (stat fr3) st3 stop) fun r s4 ⟨hr, I4⟩ => ?_)
    subst hr
    exact wpAny_execs_nil ⟨σ3, H3, I4, qn⟩
  · refine wpAny_passesOwn hp (thn (T.item X rfl rfl rfl hc i pins s3 σ3 H3 X.xe I3 (stat fr3) st3 go) fun r s4 ⟨u, hr, h4⟩ => ?_)
    subst hr
    refine wpAny_passesOwn hp (thn h4 fun _ s5 ⟨x, H5, I5, r5, y5, st5, fr5⟩ => ?_)
    have I5' := I5.pinned (stat fr5) (T.obj _ _ st5)
    refine wpAny_passesOwn hp (thn (hg _ s5 σ3 H5 x u _ I5' r5 (step x H5 y5)) fun _ s6 ⟨σ6, H6, I6, q6⟩ => ?_)
    refine wpAny_passesOwn hp (thn (hb _ s6 σ6 H6 _ I6 q6) fun f s7 q7 => ?_)
    have again : ∀ {σ7 : St} {H7 : Hp}, Inv X (pins ++ pinsAt fp s5.heap) σ7 H7 s7 → N σ7 H7 → ∃ m, m < n ∧ ∃ i σ' H', Inv X pins σ' H' s7 ∧ tn i s7.heap ∧ (∀ b ∈ fp, H' b = none) ∧ W i m σ' H' := fun {σ7 H7} I7 n7 => by
      obtain ⟨m', hm, w7⟩ := hN σ7 H7 n7
      refine ⟨m', hm, i + 1, σ7, H7, I7.unpinned, T.keep _ _ _ st5 fun b hb o e => (I7.pin (b, o) (List.mem_append_right _ (List.mem_append_right _ (mem_pinsAt hb e)))).1, fun b hb => ?_, w7⟩
      obtain ⟨o, e, d⟩ := T.obj _ _ st5 b hb
      exact (I7.pin (b, o) (List.mem_append_right _ (List.mem_append_right _ (mem_pinsAt hb e)))).2.1
    cases f with
    | next => obtain ⟨σ7, H7, I7, n7⟩ := q7; exact again I7 n7
    | cont => obtain ⟨σ7, H7, I7, n7⟩ := q7; exact again I7 n7
    | brk => obtain ⟨σ7, H7, I7, q7⟩ := q7; exact ⟨σ7, H7, I7.unpinned, q7⟩
    | ret v => obtain ⟨x7, σ7, H7, I7, r7, q7⟩ := q7; exact ⟨x7, σ7, H7, I7.unpinned, r7, q7⟩
end
theorem for_list {K : PySem.W.Frag} {a : Addr} {xs : List V} {g : TG} {tb : TS} {D : Ends} {σ : St} {H : Hp} (Pv : Nat → St → Hp → Prop) (h0 : Pv 0 σ H) (hl : ∀ i σ H, i ≤ xs.length → Pv i σ H → SqL K H a xs)
    (hs : ∀ i x σ H, xs[i]? = some x → Pv i σ H → g x σ H fun σ2 H2 => tb { D with nx := Pv (i + 1), ct := Pv (i + 1), bk := D.nx } σ2 H2) (hd : ∀ σ H, Pv xs.length σ H → D.nx σ H) :
    ∃ W : Nat → Nat → St → Hp → Prop, (∃ m, W 0 m σ H) ∧ ∀ i m σ H, W i m σ H →
      ((Itl K a).stop i H ∧ D.nx σ H) ∨ ((Itl K a).go i H ∧ ∃ N : St → Hp → Prop, (∀ σ' H', N σ' H' → ∃ m', m' < m ∧ W (i + 1) m' σ' H') ∧ ∀ x H', (Itl K a).yld i H x H' → g x σ H' fun σ2 H2 => tb { D with nx := N, ct := N, bk := D.nx } σ2 H2) := by
  refine ⟨fun i m σ H => m = xs.length - i ∧ i ≤ xs.length ∧ Pv i σ H, ⟨xs.length, by simp, Nat.zero_le _, h0⟩, ?_⟩
  rintro i m σ H ⟨rfl, hi, p⟩
  have q := hl i σ H hi p
  by_cases hlt : i < xs.length
  · refine .inr ⟨⟨xs, xs[i], q, by simp [hlt]⟩, Pv (i + 1), fun σ' H' p' => ⟨xs.length - (i + 1), by omega, rfl, hlt, p'⟩, fun x H' y => ?_⟩
    obtain ⟨e, y⟩ := y
    subst e
    exact hs i x σ _ (y xs q) p
  · have e : i = xs.length := by omega
    subst e
    exact .inl ⟨⟨xs, q, Nat.le_refl _⟩, hd σ H p⟩
theorem for_range {lo : Int} {n : Nat} {g : TG} {tb : TS} {D : Ends} {σ : St} {H : Hp} (Pv : Nat → St → Hp → Prop) (h0 : Pv 0 σ H)
    (hs : ∀ i σ H, i < n → Pv i σ H → g (.int (lo + i)) σ H fun σ2 H2 => tb { D with nx := Pv (i + 1), ct := Pv (i + 1), bk := D.nx } σ2 H2) (hd : ∀ σ H, Pv n σ H → D.nx σ H) :
    ∃ W : Nat → Nat → St → Hp → Prop, (∃ m, W 0 m σ H) ∧ ∀ i m σ H, W i m σ H →
      ((Itr lo n).stop i H ∧ D.nx σ H) ∨ ((Itr lo n).go i H ∧ ∃ N : St → Hp → Prop, (∀ σ' H', N σ' H' → ∃ m', m' < m ∧ W (i + 1) m' σ' H') ∧ ∀ x H', (Itr lo n).yld i H x H' → g x σ H' fun σ2 H2 => tb { D with nx := N, ct := N, bk := D.nx } σ2 H2) := by
  refine ⟨fun i m σ H => m = n - i ∧ i ≤ n ∧ Pv i σ H, ⟨n, by simp, Nat.zero_le _, h0⟩, ?_⟩
  rintro i m σ H ⟨rfl, hi, p⟩
  by_cases hlt : i < n
  · refine .inr ⟨hlt, Pv (i + 1), fun σ' H' p' => ⟨n - (i + 1), by omega, rfl, hlt, p'⟩, fun x H' y => ?_⟩
    obtain ⟨e, y⟩ := y
    subst e y
    exact hs i σ _ hlt p
  · have e : i = n := by omega
    subst e
    exact .inl ⟨Nat.le_refl _, hd σ H p⟩
end L2
namespace L2
open PySem PySem.Spec PyProof.Rows
abbrev R2 := V → V → Hp → VK → Prop
/-- a two-place operation on values: f is binaryOp op, inplaceOp op or compareOp op -/
def OpR (X : Cx) (f : Value → Value → Sem Value) (r : R2) : Prop :=
  ∀ (pins : List (Addr × Obj)) (s : Shared) (σ : St) (H : Hp) (x y : V) (v u : Value) (Q : VK), Inv X pins σ H s → RelV x v → RelV y u → r x y H Q →
    wpAny (model X.prog X.w) X.A (f v u) (EP X pins σ Q) X.xe s
/-- a one-place operation -/
def UnR (X : Cx) (f : Value → Sem Value) (r : V → Hp → VK → Prop) : Prop :=
  ∀ (pins : List (Addr × Obj)) (s : Shared) (σ : St) (H : Hp) (x : V) (v : Value) (Q : VK), Inv X pins σ H s → RelV x v → r x H Q →
    wpAny (model X.prog X.w) X.A (f v) (EP X pins σ Q) X.xe s
/-- a call of a value that is known (a builtin, a type) with values -/
def CallR (X : Cx) (f : Value) (r : List V → Hp → VK → Prop) : Prop :=
  ∀ (pins : List (Addr × Obj)) (s : Shared) (σ : St) (H : Hp) (xs : List V) (us : List Value) (Q : VK), Inv X pins σ H s → Vals xs us → r xs H Q →
    wpAny (model X.prog X.w) X.A (call f us) (EP X pins σ Q) X.xe s
def tOp (r : R2) (ta tb : TE) : TE := fun σ H Q => ta σ H fun x H1 => tb σ H1 fun y H2 => r x y H2 Q
def tUn (r : V → Hp → VK → Prop) (ta : TE) : TE := fun σ H Q => ta σ H fun x H1 => r x H1 Q
/-- ints in, under C, and a value out -/
def rI (C : Int → Int → Prop) (g : Int → Int → V) : R2 := fun x y H Q => ∃ i j, x = .int i ∧ y = .int j ∧ C i j ∧ Q (g i j) H
def rI0 (g : Int → Int → V) : R2 := fun x y H Q => ∃ i j, x = .int i ∧ y = .int j ∧ Q (g i j) H
def rU (g : Int → V) : V → Hp → VK → Prop := fun x H Q => ∃ i, x = .int i ∧ Q (g i) H
section
variable {X : Cx} {a b c : Expr} {ta tb tc : TE} {pos : Pos}
theorem binT (ha : PE X a ta) (hb : PE X b tb) {pins : List (Addr × Obj)} {s : Shared} {σ : St} {H : Hp} {R : V → V → Hp → Prop} (I : Inv X pins σ H s)
    (h : ta σ H fun x H1 => tb σ H1 fun y H2 => R x y H2) {Q : Value → Shared → Prop} {f : Value → Value → Sem Value}
    (hf : ∀ v u s2 x y H2, Inv X pins σ H2 s2 → RelV x v → RelV y u → R x y H2 → wpAny (model X.prog X.w) X.A (f v u) Q X.xe s2) :
    wpAny (model X.prog X.w) X.A (eval a X.env) (fun v s₁ => wpAny (model X.prog X.w) X.A (eval b X.env) (fun u s₂ => wpAny (model X.prog X.w) X.A (f v u) Q X.xe s₂) X.xe s₁) X.xe s := by
  refine thn (ha pins s σ H _ I h) fun v s1 ⟨x, H1, I1, r1, q1⟩ => ?_
  refine thn (hb pins s1 σ H1 _ I1 q1) fun u s2 ⟨y, H2, I2, r2, q2⟩ => ?_
  exact hf v u s2 x y H2 I2 r1 r2 q2
theorem pe_op {op : Operator} {r : R2} (ho : OpR X (binaryOp op) r) (ha : PE X a ta) (hb : PE X b tb) : PE X (.BinOp a op b pos) (tOp r ta tb) := by
  intro pins s σ H Q I h
  exact wpAny_BinOp (binT ha hb I h fun v u s2 x y H2 I2 rx ry q => ho pins s2 σ H2 x y v u Q I2 rx ry q)
theorem pe_un {op : UnaryOp} {r : V → Hp → VK → Prop} (ho : UnR X (unaryOp op) r) (ha : PE X a ta) : PE X (.UnaryOp op a pos) (tUn r ta) := by
  intro pins s σ H Q I h
  exact UnaryOp_ (thn (ha pins s σ H _ I h) fun v s1 ⟨x, H1, I1, r1, q1⟩ => ho pins s1 σ H1 x v Q I1 r1 q1)
theorem opI {f : Value → Value → Sem Value} {C : Int → Int → Prop} {g : Int → Int → Int}
    (rule : ∀ (i j : Int) (t u : Tok) (s : Shared) (Q : Value → Shared → Prop) (E : Value → Shared → Prop), C i j → Q (.int (g i j) s.toks) { s with toks := s.toks + 1 } → wpAny (model X.prog X.w) X.A (f (.int i t) (.int j u)) Q E s) :
    OpR X f (rI C fun i j => .int (g i j)) := by
  intro pins s σ H x y v u Q I rx ry h
  obtain ⟨i, j, rfl, rfl, hc, q⟩ := h
  obtain ⟨t, rfl⟩ := rx
  obtain ⟨t', rfl⟩ := ry
  exact rule i j t t' s _ _ hc ⟨.int (g i j), H, I.tok _, ⟨_, rfl⟩, q⟩
theorem opI0 {f : Value → Value → Sem Value} {g : Int → Int → Int}
    (rule : ∀ (i j : Int) (t u : Tok) (s : Shared) (Q : Value → Shared → Prop) (E : Value → Shared → Prop), Q (.int (g i j) s.toks) { s with toks := s.toks + 1 } → wpAny (model X.prog X.w) X.A (f (.int i t) (.int j u)) Q E s) :
    OpR X f (rI0 fun i j => .int (g i j)) := by
  intro pins s σ H x y v u Q I rx ry h
  obtain ⟨i, j, rfl, rfl, q⟩ := h
  obtain ⟨t, rfl⟩ := rx
  obtain ⟨t', rfl⟩ := ry
  exact rule i j t t' s _ _ ⟨.int (g i j), H, I.tok _, ⟨_, rfl⟩, q⟩
theorem opB0 {f : Value → Value → Sem Value} {g : Int → Int → Bool}
    (rule : ∀ (i j : Int) (t u : Tok) (s : Shared) (Q : Value → Shared → Prop) (E : Value → Shared → Prop), Q (.bool (g i j)) s → wpAny (model X.prog X.w) X.A (f (.int i t) (.int j u)) Q E s) :
    OpR X f (rI0 fun i j => .bl (g i j)) := by
  intro pins s σ H x y v u Q I rx ry h
  obtain ⟨i, j, rfl, rfl, q⟩ := h
  obtain ⟨t, rfl⟩ := rx
  obtain ⟨t', rfl⟩ := ry
  exact rule i j t t' s _ _ ⟨.bl (g i j), H, I, rfl, q⟩
def CDiv (i j : Int) : Prop := 0 < j ∧ j < 1073741824
def CDivN (i j : Int) : Prop := j ≠ 0 ∧ j.natAbs < 1073741824
def CMul (i j : Int) : Prop := (-(2 ^ 64) < i ∧ i < 2 ^ 64) ∨ (-(2 ^ 64) < j ∧ j < 2 ^ 64)
theorem CMul.ok {i j : Int} (h : CMul i j) : IntMulOk i j := by
  rcases h with ⟨h1, h2⟩ | ⟨h1, h2⟩
  · exact .of_left (intBits_le_64 h1 h2)
  · exact .of_right (intBits_le_64 h1 h2)
theorem op_add : OpR X (binaryOp .Add) (rI0 fun i j => .int (i + j)) := opI0 fun _ _ _ _ _ _ _ q => add_int q
theorem op_sub : OpR X (binaryOp .Sub) (rI0 fun i j => .int (i - j)) := opI0 fun _ _ _ _ _ _ _ q => sub_int q
theorem op_mul : OpR X (binaryOp .Mult) (rI CMul fun i j => .int (i * j)) := opI fun _ _ _ _ _ _ _ hc q => mul_int q hc.ok
theorem op_fdivN : OpR X (binaryOp .FloorDiv) (rI CDivN fun i j => .int (i.fdiv j)) := opI fun _ _ _ _ _ _ _ hc q => floordiv_int hc.1 q (.inl (PyProof.noPylong_small hc.2))
theorem op_mod : OpR X (binaryOp .Mod) (rI (fun _ j => 0 < j) fun i j => .int (i % j)) := opI fun i j _ _ _ _ _ hc q => by
  have h1 : (0 : Int) < j := hc
  exact mod_int' (by omega) (by rw [Int.fmod_eq_emod_of_nonneg i (by omega)]; exact q)
theorem iop_add : OpR X (inplaceOp .Add) (rI0 fun i j => .int (i + j)) := opI0 fun _ _ _ _ _ _ _ q => iadd_int q
theorem iop_mul : OpR X (inplaceOp .Mult) (rI CMul fun i j => .int (i * j)) := opI fun _ _ _ _ _ _ _ hc q => imul_int q hc.ok
theorem iop_fdiv : OpR X (inplaceOp .FloorDiv) (rI CDiv fun i j => .int (i / j)) := opI fun i j _ _ _ _ _ hc q => by
  have h1 : (0 : Int) < j := hc.1
  have h2 : j < 1073741824 := hc.2
  exact ifloordiv_int (by omega) (by rw [Int.fdiv_eq_ediv_of_nonneg i (by omega)]; exact q) (.inl (PyProof.noPylong_small (by omega)))
theorem unI {f : Value → Sem Value} {g : Int → Int}
    (rule : ∀ (i : Int) (t : Tok) (s : Shared) (Q : Value → Shared → Prop) (E : Value → Shared → Prop), Q (.int (g i) s.toks) { s with toks := s.toks + 1 } → wpAny (model X.prog X.w) X.A (f (.int i t)) Q E s) :
    UnR X f (rU fun i => .int (g i)) := by
  intro pins s σ H x v Q I rx h
  obtain ⟨i, rfl, q⟩ := h
  obtain ⟨t, rfl⟩ := rx
  exact rule i t s _ _ ⟨.int (g i), H, I.tok _, ⟨_, rfl⟩, q⟩
theorem un_neg : UnR X (unaryOp .USub) (rU fun i => .int (-i)) := unI fun _ _ _ _ _ q => neg_int q
end
/-- the scalars that == tells apart as data does -/
def scal : V → V → Bool
  | .non, .non => true | .non, .int _ => true | .int _, .non => true | .non, .bl _ => true | .bl _, .non => true | .non, .str _ => true | .str _, .non => true
  | .int _, .int _ => true | .bl _, .bl _ => true | .str _, .str _ => true | .byt _, .byt _ => true
  | .int _, .str _ => true | .str _, .int _ => true | .bl _, .str _ => true | .str _, .bl _ => true
  | _, _ => false
def rEq : R2 := fun x y H Q => scal x y = true ∧ Q (.bl (decide (x = y))) H
def rNe : R2 := fun x y H Q => scal x y = true ∧ Q (.bl (!decide (x = y))) H
theorem dec_int {i j : Int} : decide (V.int i = V.int j) = (i == j) := by
  rw [Bool.eq_iff_iff]
  simp
theorem dec_bl {i j : Bool} : decide (V.bl i = V.bl j) = (i == j) := by
  rw [Bool.eq_iff_iff]
  simp
theorem dec_str {i j : Str} : decide (V.str i = V.str j) = (i == j) := by
  rw [Bool.eq_iff_iff]
  simp
theorem dec_byt {i j : Array UInt8} : decide (V.byt i = V.byt j) = (i.toList == j.toList) := by
  rw [Bool.eq_iff_iff]
  cases i
  cases j
  simp
section
variable {X : Cx} {a b c : Expr} {ta tb tc : TE} {pos : Pos}
theorem fin_bl {pins : List (Addr × Obj)} {σ : St} {H : Hp} {s : Shared} {Q : VK} {k k' : Bool} (I : Inv X pins σ H s) (q : Q (.bl k) H) (e : k = k') : EP X pins σ Q (.bool k') s := by
  subst e
  exact ⟨.bl k, H, I, rfl, q⟩
theorem op_eq : OpR X (compareOp .Eq) rEq := by
  intro pins s σ H x y v u Q I rx ry h
  obtain ⟨hs, q⟩ := h
  cases x with
  | non =>
    cases rx
    cases y with
    | non => cases ry; exact PySem.EqNone.eq_none_none (fin_bl I q (by simp))
    | bl j => cases ry; exact PySem.EqNone.eq_none_bool (fin_bl I q (by simp))
    | int j => obtain ⟨t', rfl⟩ := ry; exact PySem.EqNone.eq_none_int (fin_bl I q (by simp))
    | str j => obtain ⟨t', rfl⟩ := ry; exact PySem.EqNone.eq_none_str (fin_bl I q (by simp))
    | _ => exact absurd (show false = true from hs) Bool.false_ne_true
  | bl i =>
    cases rx
    cases y with
    | non => cases ry; exact PySem.EqNone.eq_bool_none (fin_bl I q (by simp))
    | bl j => cases ry; exact eq_bool (fin_bl I q dec_bl)
    | str j => obtain ⟨t', rfl⟩ := ry; exact PySem.EqMixed.eq_bool_str (fin_bl I q (by simp))
    | _ => exact absurd (show false = true from hs) Bool.false_ne_true
  | int i =>
    obtain ⟨t, rfl⟩ := rx
    cases y with
    | non => cases ry; exact PySem.EqNone.eq_int_none (fin_bl I q (by simp))
    | int j => obtain ⟨t', rfl⟩ := ry; exact eq_int (fin_bl I q dec_int)
    | str j => obtain ⟨t', rfl⟩ := ry; exact PySem.EqMixed.eq_int_str (fin_bl I q (by simp))
    | _ => exact absurd (show false = true from hs) Bool.false_ne_true
  | str i =>
    obtain ⟨t, rfl⟩ := rx
    cases y with
    | non => cases ry; exact PySem.EqNone.eq_str_none (fin_bl I q (by simp))
    | bl j => cases ry; exact PySem.EqMixed.eq_str_bool (fin_bl I q (by simp))
    | int j => obtain ⟨t', rfl⟩ := ry; exact PySem.EqMixed.eq_str_int (fin_bl I q (by simp))
    | str j => obtain ⟨t', rfl⟩ := ry; exact eq_str (fin_bl I q dec_str)
    | _ => exact absurd (show false = true from hs) Bool.false_ne_true
  | byt i =>
    obtain ⟨t, rfl⟩ := rx
    cases y with
    | byt j => obtain ⟨t', rfl⟩ := ry; exact PySem.W.eq_bytes (fin_bl I q dec_byt)
    | _ => exact absurd (show false = true from hs) Bool.false_ne_true
  | _ => cases y <;> exact absurd (show false = true from hs) Bool.false_ne_true
theorem op_ne : OpR X (compareOp .NotEq) rNe := by
  intro pins s σ H x y v u Q I rx ry h
  obtain ⟨hs, q⟩ := h
  cases x with
  | non =>
    cases rx
    cases y with
    | non => cases ry; exact PySem.EqNone.ne_none_none (fin_bl I q (by simp))
    | bl j => cases ry; exact PySem.EqNone.ne_none_bool (fin_bl I q (by simp))
    | int j => obtain ⟨t', rfl⟩ := ry; exact PySem.EqNone.ne_none_int (fin_bl I q (by simp))
    | str j => obtain ⟨t', rfl⟩ := ry; exact PySem.EqNone.ne_none_str (fin_bl I q (by simp))
    | _ => exact absurd (show false = true from hs) Bool.false_ne_true
  | bl i =>
    cases rx
    cases y with
    | non => cases ry; exact PySem.EqNone.ne_bool_none (fin_bl I q (by simp))
    | bl j => cases ry; exact ne_bool (fin_bl I q (congrArg not dec_bl))
    | str j => obtain ⟨t', rfl⟩ := ry; exact PySem.EqMixed.ne_bool_str (fin_bl I q (by simp))
    | _ => exact absurd (show false = true from hs) Bool.false_ne_true
  | int i =>
    obtain ⟨t, rfl⟩ := rx
    cases y with
    | non => cases ry; exact PySem.EqNone.ne_int_none (fin_bl I q (by simp))
    | int j => obtain ⟨t', rfl⟩ := ry; exact ne_int (fin_bl I q (congrArg not dec_int))
    | str j => obtain ⟨t', rfl⟩ := ry; exact PySem.EqMixed.ne_int_str (fin_bl I q (by simp))
    | _ => exact absurd (show false = true from hs) Bool.false_ne_true
  | str i =>
    obtain ⟨t, rfl⟩ := rx
    cases y with
    | non => cases ry; exact PySem.EqNone.ne_str_none (fin_bl I q (by simp))
    | bl j => cases ry; exact PySem.EqMixed.ne_str_bool (fin_bl I q (by simp))
    | int j => obtain ⟨t', rfl⟩ := ry; exact PySem.EqMixed.ne_str_int (fin_bl I q (by simp))
    | str j => obtain ⟨t', rfl⟩ := ry; exact ne_str (fin_bl I q (congrArg not dec_str))
    | _ => exact absurd (show false = true from hs) Bool.false_ne_true
  | byt i =>
    obtain ⟨t, rfl⟩ := rx
    cases y with
    | byt j => obtain ⟨t', rfl⟩ := ry; exact PySem.W.ne_bytes (fin_bl I q (congrArg not dec_byt))
    | _ => exact absurd (show false = true from hs) Bool.false_ne_true
  | _ => cases y <;> exact absurd (show false = true from hs) Bool.false_ne_true
theorem op_lt : OpR X (compareOp .Lt) (rI0 fun i j => .bl (decide (i < j))) := opB0 fun _ _ _ _ _ _ _ q => lt_int q
theorem op_le : OpR X (compareOp .LtE) (rI0 fun i j => .bl (decide (i ≤ j))) := opB0 fun _ _ _ _ _ _ _ q => le_int q
theorem nomark (b : Expr) {op : CmpOp} (h : op ≠ .In := by decide) (h2 : op ≠ .NotIn := by decide) : behindInMarks op b = false := by
  have e1 : (op == CmpOp.In) = false := by cases op <;> first | rfl | exact absurd rfl h
  have e2 : (op == CmpOp.NotIn) = false := by cases op <;> first | rfl | exact absurd rfl h2
  cases b <;> simp [behindInMarks, e1, e2]
theorem pe_cmpR {op : CmpOp} {r : R2} (ho : OpR X (compareOp op) r) (ha : PE X a ta) (hb : PE X b tb) (hm : behindInMarks op b = false) : PE X (.Compare a [op] [b] pos) (tOp r ta tb) := by
  intro pins s σ H Q I h
  exact wpAny_Compare1 (binT ha hb I h fun v u s2 x y H2 I2 rx ry q => ho pins s2 σ H2 x y v u Q I2 rx ry q) hm
/-- a reading of a value as a test -/
def tTest (t : TE) : TT := fun σ H Q => t σ H fun x H' => ∃ k, x = .bl k ∧ Q k H'
theorem pt_cmpR {op : CmpOp} {r : R2} (ho : OpR X (compareOp op) r) (ha : PE X a ta) (hb : PE X b tb) (hm : behindInMarks op b = false) : PT X (.Compare a [op] [b] pos) (tTest (tOp r ta tb)) := by
  intro pins s σ H Q I h
  refine wpAny_isTrue_Compare1 (thn (ha pins s σ H _ I h) fun v s1 ⟨x, H1, I1, r1, q1⟩ => thn (hb pins s1 σ H1 _ I1 q1) fun u s2 ⟨y, H2, I2, r2, q2⟩ =>
    thn (ho pins s2 σ H2 x y v u _ I2 r1 r2 q2) fun c s3 ⟨z, H3, I3, r3, k, e, q3⟩ => ?_) hm
  subst e
  cases r3
  exact wpAny_truthy_bool ⟨H3, I3, q3⟩
/-- a op1 b op2 c -/
def tChain (r r' : R2) (ta tb tc : TE) : TE := fun σ H Q => ta σ H fun x H1 => tb σ H1 fun y H2 => r x y H2 fun z H3 => ∃ k, z = .bl k ∧
  (if k = true then tc σ H3 fun w' H4 => r' y w' H4 Q else Q (.bl false) H3)
theorem pe_chain {op op' : CmpOp} {r r' : R2} (ho : OpR X (compareOp op) r) (ho' : OpR X (compareOp op') r') (ha : PE X a ta) (hb : PE X b tb) (hc : PE X c tc)
    (hm : lastMarks [op, op'] [b, c] = false := by with_unfolding_all rfl) : PE X (.Compare a [op, op'] [b, c] pos) (tChain r r' ta tb tc) := by
  intro pins s σ H Q I h
  refine Compare_chain (thn (ha pins s σ H _ I h) fun v s1 ⟨x, H1, I1, r1, q1⟩ => chain_link (thn (hb pins s1 σ H1 _ I1 q1) fun u s2 ⟨y, H2, I2, r2, q2⟩ =>
    thn (ho pins s2 σ H2 x y v u _ I2 r1 r2 q2) fun d s3 ⟨z, H3, I3, r3, k, e, q3⟩ => ?_)) hm
  subst e
  cases r3
  refine wpAny_truthy_bool ?_
  cases k with
  | false => exact ite_ff ⟨.bl false, H3, I3, rfl, q3⟩
  | true => exact ite_tt (chain_last (thn (hc pins s3 σ H3 _ I3 q3) fun w' s4 ⟨z', H4, I4, r4, q4⟩ => ho' pins s4 σ H4 y z' u w' Q I4 r2 r4 q4))
theorem line63 : (sizeLine : Nat) < 2 ^ 63 := by rw [sizeLine_eq]; decide
theorem vals1 {x : V} {us : List Value} (r : Vals [x] us) : ∃ u, us = [u] ∧ RelV x u := by
  cases r with
  | cons r1 r2 => cases r2; exact ⟨_, rfl, r1⟩
theorem call_abs : CallR X (.builtin "abs") (fun xs H Q => ∃ i, xs = [.int i] ∧ Q (.int (if i < 0 then -i else i)) H) := by
  intro pins s σ H xs us Q I r h
  obtain ⟨i, rfl, q⟩ := h
  obtain ⟨u, rfl, t, rfl⟩ := vals1 r
  exact call_abs_int fun u tk => ⟨.int (if i < 0 then -i else i), H, I.tok _, ⟨_, rfl⟩, q⟩
end
end L2
namespace L2
open PySem PySem.Spec PyProof.Rows
structure ObjM (h : Heap) (x dx C : Addr) (mA : Str → Option Value) : Prop where
  obj : h.get? x = some (PySem.W.instObj C dx)
  ns : h.Ns1 dx mA
  ne : dx ≠ x
theorem lookIn_ns {h : Heap} {dx : Addr} {mA : Str → Option Value} (n : h.Ns1 dx mA) : ∃ od, h.get? dx = some od ∧ ∀ name, PySem.W.lookIn name od = some (mA name) := by
  obtain ⟨o, es, ep, ho, hd, hk, _, hm⟩ := n
  refine ⟨o, ho, fun name => ?_⟩
  have e := hm name
  unfold nsFind findBy at e
  rw [← Array.find?_toList] at e
  unfold PySem.W.lookIn
  rw [hd]
  dsimp only
  split
  · rename_i y q
    rw [q] at e
    exact congrArg some e
  · rename_i q
    rw [q] at e
    have a : es.toList.any (·.refKey) = false := by
      rw [List.any_eq_false]
      intro y hy
      obtain ⟨z, t, hkey⟩ := hk y (Array.mem_toList_iff.mp hy)
      simp [DictEntry.refKey, hkey]
    have a' : ¬ es.toList.any (·.refKey) = true := by rw [a]; exact Bool.false_ne_true
    rw [if_neg a']
    exact congrArg some e
theorem ObjM.look {h : Heap} {x dx C : Addr} {mA : Str → Option Value} (I : ObjM h x dx C mA) : ∃ od, PySem.W.InstAt h x (PySem.W.instObj C dx) C (some od) ∧ ∀ name, PySem.W.lookIn name od = some (mA name) :=
  let ⟨od, ho, hl⟩ := lookIn_ns I.ns
  ⟨od, ⟨I.obj, rfl, rfl, ho⟩, hl⟩
section
variable {prog : Program} {w : World} {A : Around} {E : Value → Shared → Prop} {s : Shared} {K : PySem.W.Frag} {x dx C f : Addr} {mA : Str → Option Value} {name : Str} {v : Value}
theorem get_map {expr : Bool} {Q : Value → Shared → Prop} (X : K.In s.heap) (I : ObjM s.heap x dx C mA) (hg : PySem.W.plainGet K C name = true) (hh : PySem.W.hasDictIn K C = true)
    (ha : PySem.W.findIn K (.ref C) name = some none) (hv : mA name = some v) (hv' : PySem.W.handedIn v = true) (h : Q v { s with toks := s.toks + 1 }) :
    wpAny (model prog w) A (getAttr (.ref x) name expr) Q E s := by
  obtain ⟨od, J, hl⟩ := I.look
  exact PySem.W.get_value X J (PySem.W.plainGet_of hg).1 (PySem.W.findObj_own hh ha rfl (by rw [hl, hv])) hv' h
theorem get_meth {pl : Sem Bool} {Q : Value × List Value → Shared → Prop} (X : K.In s.heap) (I : ObjM s.heap x dx C mA) (hg : PySem.W.plainGet K C name = true)
    (hf : PySem.W.findIn K (.ref C) name = some (some (.ref f))) (ht : PySem.W.isFn K (.ref f) = true) (hv : mA name = none) (h : Q (.ref f, [.ref x]) s) :
    wpAny (model prog w) A (getMethod (.ref x) name pl) Q E s := by
  obtain ⟨od, J, hl⟩ := I.look
  exact PySem.W.method_fn X J (PySem.W.plainGet_of hg).1 (PySem.W.plainGet_of hg).2 hf (beq_iff_eq.mp ht) (by show (PySem.W.lookIn name od).map (·.isSome) = some false; rw [hl, hv]; rfl) h
theorem set_map {ns : List Str} {Q : Unit → Shared → Prop} (X : K.In s.heap) (I : ObjM s.heap x dx C mA)
    (hs : PySem.W.findIn K (.ref C) "__setattr__" = some (some (.builtin "object.__setattr__"))) (hp : PySem.W.plainOver K C = true) (ht : PySem.W.takerIn K C name = some none) (hh : PySem.W.hasDictIn K C = true)
    (hw : PySem.Within mA ns) (hsz : ns.length ≤ sizeLine)
    (h : ∀ h', ObjM h' x dx C (fun y => if y = name then some v else mA y) → Heap.SameBut dx s.heap h' → Q () { s with heap := h', toks := s.toks + 2 }) :
    wpAny (model prog w) A (setAttr (.ref x) name v) Q E s := by
  obtain ⟨od, J, hl⟩ := I.look
  refine PySem.W.set_plain X J hs (PySem.W.osa_open (s := { s with toks := s.toks + 1 }) (r := none) X J hp ht fun b => ?_)
  obtain ⟨cd, hc, hd'⟩ := PySem.W.any_some hh
  have hx : s.heap.get? x = some ⟨.ref C, some dx, .plain, #[]⟩ := I.obj
  refine wpAny_bind (wpAny_pure (wpAny_bind (wpAny_bind (wpAny_loadPart hx (wpAny_bind (PySem.W.Looks.here (s := { s with toks := s.toks + 1 }) (PySem.W.looks_clsIn X hc) ?_))))))
  rw [hd']
  refine wpAny_pure (a := some dx) (wpAny_bind (wpAny_pure (wpAny_bind ?_)))
  refine wpAny_nsSet1 (s := { s with toks := s.toks + 1 }) I.ns fun h' hn2 hs2 => ?_
  obtain ⟨oD, esD, epD, hoD, hdD, hcD⟩ := hn2.count (PySem.Within.cons name v hw)
  refine wpAny_bind (wpAny_lookBehind hoD (by rw [hdD]; exact pastItsLine_dict (Nat.le_trans hcD (by rw [List.length_cons]; omega))) ?_)
  exact wpAny_pure (h _ ⟨(hs2.2 _ (Ne.symm I.ne)).trans I.obj, hn2, I.ne⟩ hs2)
theorem make_map {R : Result → Shared → Prop} {vs : List Value} {kw : List (Str × Value)} (X : K.In s.heap) (hm : PySem.W.makesIn K C = true)
    (hi : PySem.W.findIn K (.ref C) "__init__" = some (some (.ref f))) (hf : PySem.W.typeIn K (.ref f) = some (.type "function"))
    (h : codeAny (model prog w) (A.under (.builtin "type.__call__" ⟨.ref C :: vs, kw⟩)) (.call (.ref f) ⟨.ref (s.heap.objs.size + 1) :: vs, kw⟩) (PySem.W.InitBack (s.heap.objs.size + 1) R)
      { s with heap := (s.heap.push PySem.W.emptyDict).push (PySem.W.instObj C s.heap.objs.size) }) :
    codeAny (model prog w) A (.call (.ref C) ⟨vs, kw⟩) R s := by
  obtain ⟨hh, g, d, t, os⟩ := s
  exact PySem.W.make_core (PySem.W.makes_of X hm) (PySem.W.looks_findIn X hi) (fun self => PySem.W.bind_fn X self hf) (.inl rfl) h
end
def putF (f : Str) (v : V) : List (Str × V) → List (Str × V)
  | [] => [(f, v)]
  | (g, x) :: r => if g = f then (g, v) :: r else (g, x) :: putF f v r
theorem lookup_putF (f g : Str) (v : V) : ∀ fs : List (Str × V), (putF f v fs).lookup g = if g = f then some v else fs.lookup g
  | [] => by
    show List.lookup g [(f, v)] = _
    by_cases h : g = f
    · have hb : (g == f) = true := beq_iff_eq.mpr h
      simp only [List.lookup, hb, if_pos h]
    · have hb : (g == f) = false := beq_eq_false_iff_ne.mpr h
      simp only [List.lookup, hb, if_neg h]
  | (k, x) :: r => by
    have ih := lookup_putF f g v r
    rw [show putF f v ((k, x) :: r) = (if k = f then (k, v) :: r else (k, x) :: putF f v r) from rfl]
    by_cases hk : k = f
    · rw [if_pos hk]
      by_cases h : g = k
      · have hb : (g == k) = true := beq_iff_eq.mpr h
        simp only [List.lookup, hb, if_pos (h.trans hk)]
      · have hb : (g == k) = false := beq_eq_false_iff_ne.mpr h
        simp only [List.lookup, hb, if_neg (fun e : g = f => h (e.trans hk.symm))]
    · rw [if_neg hk]
      by_cases h : g = k
      · have hb : (g == k) = true := beq_iff_eq.mpr h
        simp only [List.lookup, hb, if_neg (fun e : g = f => hk (h.symm.trans e))]
      · have hb : (g == k) = false := beq_eq_false_iff_ne.mpr h
        simp only [List.lookup, hb]
        exact ih
theorem keys_putF (f : Str) (v : V) : ∀ fs : List (Str × V), f ∈ (putF f v fs).map (·.1) ∧ ∀ g, g ∈ fs.map (·.1) → g ∈ (putF f v fs).map (·.1)
  | [] => ⟨by simp [putF], fun g h => by simp at h⟩
  | (k, x) :: r => by
    obtain ⟨i1, i2⟩ := keys_putF f v r
    rw [show putF f v ((k, x) :: r) = (if k = f then (k, v) :: r else (k, x) :: putF f v r) from rfl]
    by_cases hk : k = f
    · rw [if_pos hk]
      subst hk
      exact ⟨by simp, fun g h => by simpa using h⟩
    · rw [if_neg hk]
      refine ⟨?_, fun g h => ?_⟩
      · rw [List.map_cons]
        exact List.mem_cons_of_mem _ i1
      · rw [List.map_cons] at h ⊢
        rcases List.mem_cons.mp h with e | e
        · exact List.mem_cons.mpr (.inl e)
        · exact List.mem_cons_of_mem _ (i2 g e)
theorem length_putF (f : Str) (v : V) : ∀ fs : List (Str × V), (putF f v fs).length ≤ fs.length + 1
  | [] => by simp [putF]
  | (k, x) :: r => by
    have ih := length_putF f v r
    rw [show putF f v ((k, x) :: r) = (if k = f then (k, v) :: r else (k, x) :: putF f v r) from rfl]
    by_cases hk : k = f
    · rw [if_pos hk, List.length_cons, List.length_cons]; omega
    · rw [if_neg hk, List.length_cons, List.length_cons]; omega
theorem RelO.some_of {v : V} {o : Option Value} (r : RelO (some v) o) : ∃ u, o = some u ∧ RelV v u := by
  cases o with
  | none => exact (show False from r).elim
  | some u => exact ⟨u, rfl, r⟩
theorem RelO.none_of {o : Option Value} (r : RelO none o) : o = none := by
  cases o with
  | none => rfl
  | some u => exact (show False from r).elim
theorem handed_of {v : V} {u : Value} (r : RelV v u) : PySem.W.handedIn u = true := by
  cases v with
  | non => cases (show u = Value.none from r); rfl
  | bl b => cases (show u = Value.bool b from r); rfl
  | int i => obtain ⟨t, e⟩ := (show ∃ t, u = Value.int i t from r); cases e; rfl
  | str x => obtain ⟨t, e⟩ := (show ∃ t, u = Value.str x t from r); cases e; rfl
  | byt b => obtain ⟨t, e⟩ := (show ∃ t, u = Value.bytes b t from r); cases e; rfl
  | flt b => obtain ⟨t, e⟩ := (show ∃ t, u = Value.float b t from r); cases e; rfl
  | ref a => cases (show u = Value.ref a from r); rfl
  | ty n => cases (show u = Value.type n from r); rfl
section
variable {P : Program} {w : World} {H H' : Hp} {h h' : Heap} {a C dx : Addr} {fs fs' : List (Str × V)}
theorem ins_get (hok : HOk P w H h) (e : H a = some (.ins C dx fs)) : ∃ mA, ObjM h a dx C mA ∧ (∀ f, RelO (fs.lookup f) (mA f)) ∧ PySem.Within mA (fs.map (·.1)) ∧ fs.length ≤ 1000 ∧ H dx = some (.own a) := by
  obtain ⟨d, z, ne, ob, mA, n, r, q⟩ := (show ObjOk P w H h a (.ins C dx fs) from hok a _ e)
  exact ⟨mA, ⟨ob, n, ne⟩, r, q, z, d⟩
end
structure Cls (K : PySem.W.Frag) (C : Addr) : Prop where
  pg : PySem.W.plainGet K C Str.empty = true
  hd : PySem.W.hasDictIn K C = true
  po : PySem.W.plainOver K C = true
  sa : PySem.W.findIn K (.ref C) "__setattr__" = some (some (.builtin "object.__setattr__"))
theorem Cls.get {K : PySem.W.Frag} {C : Addr} (c : Cls K C) (f : Str) : PySem.W.plainGet K C f = true := c.pg
/-- no class of it has the name -/
def NoAttr (K : PySem.W.Frag) (C : Addr) (f : Str) : Prop := PySem.W.findIn K (.ref C) f = some none
theorem NoAttr.taker {K : PySem.W.Frag} {C : Addr} {f : Str} (n : NoAttr K C f) : PySem.W.takerIn K C f = some none := by
  unfold PySem.W.takerIn
  rw [show PySem.W.findIn K (.ref C) f = some none from n]
  rfl
/-- a method: a plain def of the class or of one above it -/
structure Meth (K : PySem.W.Frag) (C : Addr) (m : Str) (f : Addr) : Prop where
  at_ : PySem.W.findIn K (.ref C) m = some (some (.ref f))
  fn : PySem.W.isFn K (.ref f) = true
  kp : PySem.W.keepIn K (.ref f) = true
section
variable {X : Cx} {pins : List (Addr × Obj)} {σ : St} {H : Hp} {s : Shared} {a C dx : Addr} {fs : List (Str × V)} {f : Str} {v : V} {A : Around} {E : Value → Shared → Prop}
theorem getattr_ok {b : Bool} {Q : Value → Shared → Prop} (I : Inv X pins σ H s) (e : H a = some (.ins C dx fs)) (c : Cls X.K C) (n : NoAttr X.K C f) (l : fs.lookup f = some v)
    (h : ∀ u s', Inv X pins σ H s' → RelV v u → Q u s') : wpAny (model X.prog X.w) A (getAttr (.ref a) f b) Q E s := by
  obtain ⟨mA, O, r, _, _, _⟩ := ins_get I.hok e
  obtain ⟨u, hu, ru⟩ := RelO.some_of (v := v) (o := mA f) (by rw [← l]; exact r f)
  exact get_map I.kIn O (c.get f) c.hd n hu (handed_of ru) (h u _ (I.tok _) ru)
theorem getmeth_ok {m : Str} {g : Addr} {pl : Sem Bool} {Q : Value × List Value → Shared → Prop} (I : Inv X pins σ H s) (e : H a = some (.ins C dx fs)) (c : Cls X.K C) (k : Meth X.K C m g) (l : fs.lookup m = none)
    (h : Q (.ref g, [.ref a]) s) : wpAny (model X.prog X.w) A (getMethod (.ref a) m pl) Q E s := by
  obtain ⟨mA, O, r, _, _, _⟩ := ins_get I.hok e
  have hn : mA m = none := RelO.none_of (by rw [← l]; exact r m)
  exact get_meth I.kIn O (c.get m) k.at_ k.fn hn h
theorem setattr_ok {y : V} {u : Value} {Q : Unit → Shared → Prop} (I : Inv X pins σ H s) (e : H a = some (.ins C dx fs)) (c : Cls X.K C) (n : NoAttr X.K C f) (hl : fs.length < 1000) (ry : RelV y u)
    (h : ∀ s', Inv X pins σ (upd H a (.ins C dx (putF f y fs))) s' → Q () s') : wpAny (model X.prog X.w) A (setAttr (.ref a) f u) Q E s := by
  obtain ⟨mA, O, r, wi, _, ho⟩ := ins_get I.hok e
  have hz : (fs.map (·.1)).length ≤ sizeLine := by rw [List.length_map, sizeLine_eq]; omega
  refine set_map I.kIn O c.sa c.po n.taker c.hd wi hz fun h' O' sb => h _ ?_
  have hd : ∃ o, h'.get? dx = some o := let ⟨o, _, _, e', _⟩ := O'.ns; ⟨o, e'⟩
  refine I.write (x := a) (e := dx) (by rw [e]; exact True.intro) (.inr ho) (fun b q hb z => (sb.2 b hb).trans z) hd ?_
  refine ⟨by rw [upd_ne O.ne]; exact ho, ?_, O.ne, O'.obj, _, O'.ns, fun g => ?_, fun g hg => ?_⟩
  · have := length_putF f y fs; omega
  · show RelO ((putF f y fs).lookup g) (if g = f then some u else mA g)
    rw [lookup_putF]
    by_cases q : g = f
    · rw [if_pos q, if_pos q]; exact ry
    · rw [if_neg q, if_neg q]; exact r g
  · by_cases q : g = f
    · rw [q]; exact (keys_putF f y fs).1
    · refine (keys_putF f y fs).2 g (wi g fun z => hg ?_)
      show (if g = f then some u else mA g) = none
      rw [if_neg q]; exact z
theorem Inv.made (I : Inv X pins σ H s) : Inv X pins σ (upd (upd H s.heap.objs.size (.own (s.heap.objs.size + 1))) (s.heap.objs.size + 1) (.ins C s.heap.objs.size []))
    { s with heap := (s.heap.push PySem.W.emptyDict).push (PySem.W.instObj C s.heap.objs.size) } := by
  have e1 : (s.heap.push PySem.W.emptyDict).get? s.heap.objs.size = some PySem.W.emptyDict := Heap.get?_push_size s.heap rfl
  have e2 : ((s.heap.push PySem.W.emptyDict).push (PySem.W.instObj C s.heap.objs.size)).get? (s.heap.objs.size + 1) = some (PySem.W.instObj C s.heap.objs.size) := by
    have := Heap.get?_push_size (s.heap.push PySem.W.emptyDict) (o := PySem.W.instObj C s.heap.objs.size) rfl
    rwa [Heap.size_push] at this
  have e3 : (s.heap.push PySem.W.emptyDict).Ns s.heap.objs.size (fun _ => none) := ⟨PySem.W.emptyDict, #[], _, e1, rfl, (fun e he => absurd he (by simp)), fun _ => rfl⟩
  have I1 := I.laid (a := s.heap.objs.size) (o := .own (s.heap.objs.size + 1)) (h' := s.heap.push PySem.W.emptyDict) (t' := s.toks) (fun b u q => Heap.get?_push_of_some _ q) (Nat.le_refl _) ⟨_, e1⟩
  refine I1.laid (a := s.heap.objs.size + 1) (o := .ins C s.heap.objs.size []) (t' := s.toks) (fun b u q => Heap.get?_push_of_some _ q) (Nat.le_of_eq (Heap.size_push _ _)) ?_
  have ne : s.heap.objs.size ≠ s.heap.objs.size + 1 := Nat.ne_of_lt (Nat.lt_succ_self _)
  refine ⟨by rw [upd_ne ne, upd_same], Nat.zero_le _, ne, e2, fun _ => none, (Heap.Ns1.of_empty e3).at fun o q => Heap.get?_push_of_some _ q, fun _ => True.intro, fun y hy => absurd rfl hy⟩
theorem attr_of {prog : Program} {w : World} {env : Env} {e : Expr} {f : Str} {pos : Pos} {s : Shared} {Q : Value → Shared → Prop} (hb : attributeBase e f env (eval e env) = eval e env)
    (h : wpAny (model prog w) A (eval e env) (fun o s₁ => wpAny (model prog w) A (getAttr o f true) Q E s₁) E s) : wpAny (model prog w) A (eval (.Attribute e f pos) env) Q E s :=
  Attribute_any_ h (by rw [arm_eval_Attribute, hb])
end
/-- e.f, an attribute of the instance -/
def tFld (K : PySem.W.Frag) (ta : TE) (f : Str) : TE := fun σ H Q => ta σ H fun x H1 => ∃ a C dx fs v, x = .ref a ∧ H1 a = some (.ins C dx fs) ∧ Cls K C ∧ NoAttr K C f ∧ fs.lookup f = some v ∧ Q v H1
/-- e.f = value -/
def sFld (K : PySem.W.Frag) (ta tv : TE) (f : Str) : TS := fun D σ H => tv σ H fun y H1 => ta σ H1 fun x H2 => ∃ a C dx fs, x = .ref a ∧ H2 a = some (.ins C dx fs) ∧ Cls K C ∧ NoAttr K C f ∧ fs.length < 1000 ∧
  D.nx σ (upd H2 a (.ins C dx (putF f y fs)))
section
variable {X : Cx} {o e value : Expr} {f : Str} {pos pos' tpos : Pos} {ta tv : TE}
theorem pe_fld (he : PE X e ta) (hb : attributeBase e f X.env (eval e X.env) = eval e X.env) : PE X (.Attribute e f pos) (tFld X.K ta f) := by
  intro pins s σ H Q I h
  refine attr_of hb (thn (he pins s σ H _ I h) fun u s1 ⟨x, H1, I1, rx, a, C, dx, fs, v, ex, ea, c, n, l, q⟩ => ?_)
  subst ex
  obtain rfl : u = Value.ref a := rx
  exact getattr_ok I1 ea c n l fun u' s2 I2 ru => ⟨v, H1, I2, ru, q⟩
theorem ps_fld (ha : PE X o ta) (hv : PE X value tv) (hs : swapsWith value (some (.Attribute o f pos')) pos.line X.env = pure false) : PS X (.Assign [.Attribute o f pos'] value pos) (sFld X.K ta tv f) := by
  intro pins s σ H D I h
  refine plainObj_wpAny_Assign_Attribute (thn (hv pins s σ H _ I h) fun u s1 ⟨y, H1, I1, ry, q⟩ => thn (ha pins s1 σ H1 _ I1 q) fun ov s2 ⟨x, H2, I2, rx, a, C, dx, fs, ex, ea, c, n, l, q2⟩ => ?_) hs
  subst ex
  obtain rfl : ov = Value.ref a := rx
  exact setattr_ok I2 ea c n l ry fun s3 I3 => ⟨σ, _, I3, q2⟩
end
section
variable {X : Cx} {pins : List (Addr × Obj)} {σ : St} {H : Hp} {s : Shared} {A : Around} {E : Value → Shared → Prop} {Q : Value → Shared → Prop} {c : Value} {b : Bool}
end
end L2
namespace L2
open PySem PySem.Spec PyProof.Rows
structure Room (k : Nat) (A : Around) : Prop where
  hd : A.handled = none
  dp : A.depth + 3 * k + 5 < recursionLimit
  un : A.units + 16 * k + 200 < cLine
theorem Room.mono {j k : Nat} {A : Around} (r : Room k A) (h : j ≤ k) : Room j A := ⟨r.hd, by have := r.dp; omega, by have := r.un; omega⟩
theorem Room.deeper {k : Nat} {A : Around} (r : Room (k + 1) A) (env : Env) : Room k (A.deeper env) :=
  ⟨r.hd, by have := r.dp; show A.depth + 1 + 3 * k + 5 < _; omega, by have := r.un; show A.units + 3 + 16 * k + 200 < _; omega⟩
theorem make_depth {A : Around} {C : Addr} {us : List Value} {kw : List (Str × Value)} : (A.under (.builtin "type.__call__" ⟨.ref C :: us, kw⟩)).depth = A.depth + 1 := by
  first | rfl | simp [Around.under, Code.weight, Code.isCreation, Code.isGuard, Code.isCaller, Code.frames, Code.isFrame, guardIds]
theorem make_units {A : Around} {C : Addr} {us : List Value} {kw : List (Str × Value)} : (A.under (.builtin "type.__call__" ⟨.ref C :: us, kw⟩)).units = A.units + 1 := by
  first | rfl | simp [Around.under, Code.cUnits, Code.frames, Code.isFrame]
theorem Room.make {k : Nat} {A : Around} (r : Room (k + 1) A) (C : Addr) (us : List Value) (kw : List (Str × Value)) : Room k (A.under (.builtin "type.__call__" ⟨.ref C :: us, kw⟩)) :=
  ⟨r.hd, by have := r.dp; rw [make_depth]; omega, by have := r.un; rw [make_units]; omega⟩
theorem Room.depth {k : Nat} {A : Around} (r : Room k A) : A.depth < recursionLimit := by have := r.dp; omega
theorem Room.units {k : Nat} {A : Around} (r : Room k A) : A.units + 64 < cLine := by have := r.un; omega
def tNil : TA := fun _ H Q => Q [] H
def tCons (ta : TE) (tr : TA) : TA := fun σ H Q => ta σ H fun x H1 => tr σ H1 fun xs H2 => Q (x :: xs) H2
section
variable {X : Cx} {e : Expr} {es : List Expr} {te : TE} {t : TA} {pos : Pos}
theorem pa_nil : PA X [] tNil := fun _ _ _ _ H Q I h => Calls.spliced_nil ⟨[], H, I, .nil, h⟩
theorem pa_cons (ha : PE X e te) (hr : PA X es t) (hs : starEach (e :: es) X.env = (false, eval e X.env) :: starEach es X.env := by rfl) : PA X (e :: es) (tCons te t) := by
  intro pos pins s σ H Q I h
  rw [hs]
  show wpAny _ _ (spliced ((false, eval e X.env) :: backTo pos (starEach es X.env))) _ _ s
  refine Calls.spliced_cons (thn (ha pins s σ H _ I h) fun u s1 ⟨x, H1, I1, r1, q1⟩ => ?_)
  exact thn (hr pos pins s1 σ H1 _ I1 q1) fun us s2 ⟨xs, H2, I2, r2, q2⟩ => ⟨x :: xs, H2, I2, .cons r1 r2, q2⟩
/-- a tuple, a list of written items -/
def tTup (t : TA) : TE := fun σ H Q => t σ H fun xs H1 => xs.length ≤ sizeLine ∧ ∀ p, H1 p = none → Q (.ref p) (upd H1 p (.tup xs))
def tLst (t : TA) : TE := fun σ H Q => t σ H fun xs H1 => xs.length ≤ sizeLine ∧ ∀ p, H1 p = none → Q (.ref p) (upd H1 p (.lst xs))
theorem pe_tup {x1} (h : PA X es t) : PE X (.Tuple es x1 pos) (tTup t) := by
  intro pins s σ H Q I hq
  refine wpAny_Tuple_spliced (thn (h pos pins s σ H _ I hq) fun us s1 ⟨xs, H1, I1, r, z, q⟩ => ⟨by rw [← r.length]; exact z, ?_⟩)
  have hf : H1 s1.heap.objs.size = none := I1.hok.fresh (Nat.le_refl _)
  refine ⟨.ref s1.heap.objs.size, upd H1 s1.heap.objs.size (.tup xs), I1.laid (t' := s1.toks) (fun b u e => Heap.get?_push_of_some _ e) (Nat.le_refl _) ?_, rfl, q _ hf⟩
  exact ⟨z, us, r, ⟨_, Heap.get?_push_size _ rfl, rfl, _, rfl⟩⟩
theorem pe_lst (h : PA X es t) : PE X (.List es pos) (tLst t) := by
  intro pins s σ H Q I hq
  refine wpAny_List_spliced (thn (h pos pins s σ H _ I hq) fun us s1 ⟨xs, H1, I1, r, z, q⟩ => ⟨by rw [← r.length]; exact z, ?_⟩)
  have hf : H1 s1.heap.objs.size = none := I1.hok.fresh (Nat.le_refl _)
  refine ⟨.ref s1.heap.objs.size, upd H1 s1.heap.objs.size (.lst xs), I1.laid (t' := s1.toks) (fun b u e => Heap.get?_push_of_some _ e) (Nat.le_refl _) ?_, rfl, q _ hf⟩
  exact ⟨z, us, 0, r, Heap.get?_push_size _ rfl⟩
end
/-- a def's promise: the bound arguments in the parameters' order, the heap, the wanted end, the wanted exception -/
abbrev Sp := List V → Hp → VK → XK → Prop
/-- how an exception lies behind a call (file 08 gives it): the callers' frames, abstract heap and state ahead of the call, the wish, the exception, the state -/
abbrev CXT := List Env → Hp → Shared → XK → Value → Shared → Prop
/-- the state at a call -/
structure Env0 (P : Program) (w : World) (K : PySem.W.Frag) (mg : Str → Option Value) (base : Heap) (A : Around) (outer : List Env) (s : Shared) (H : Hp) : Prop where
  frames : A.frames = some outer
  mod : Mod K mg base
  bs : ∀ b o, base.get? b = some o → s.heap.get? b = some o ∧ H b = none
  bsz : base.objs.size ≤ s.heap.objs.size
  funs : s.heap.FunFrames base outer
  frf : ∀ b ∈ frs outer, H b = none
  hok : HOk P w H s.heap
  bare : AllBare s.gens
/-- a call's end -/
def CE (outer : List Env) (P : Program) (w : World) (H : Hp) (s : Shared) (Q : VK) (u : Value) (s' : Shared) : Prop :=
  ∃ v H', s'.os = s.os ∧ AllBare s'.gens ∧ Un (frs outer) [] H H' s.heap s'.heap ∧ HOk P w H' s'.heap ∧ RelV v u ∧ Q v H'
def CR (CX : CXT) (outer : List Env) (P : Program) (w : World) (H : Hp) (s : Shared) (Q : VK) (E : XK) (r : Result) (s' : Shared) : Prop :=
  match r with
  | .ok (.ret u) => CE outer P w H s Q u s'
  | .ok _ => False
  | .error e => CX outer H s E e s'
structure FnOk (P : Program) (w : World) (K : PySem.W.Frag) (mg : Str → Option Value) (base : Heap) (CX : CXT) (k : Nat) (f : Addr) (fd : FuncData) (ps : List Str) (sp : Sp) : Prop where
  len : ∀ vs H Q E, sp vs H Q E → vs.length = ps.length
  run : ∀ (A : Around) (outer : List Env) (s : Shared) (H : Hp) (args : Args) (us : List Value) (vs : List V) (Q : VK) (E : XK), Room k A → Env0 P w K mg base A outer s H → BindsTo s fd args (ps.zip us) → Vals vs us → sp vs H Q E →
    codeAny (model P w) A (.call (.ref f) args) (CR CX outer P w H s Q E) s
theorem Env0.make {P : Program} {w : World} {K : PySem.W.Frag} {mg : Str → Option Value} {base : Heap} {A : Around} {outer : List Env} {s : Shared} {H : Hp} (e : Env0 P w K mg base A outer s H) (C : Addr) (us : List Value) (kw : List (Str × Value)) :
    Env0 P w K mg base (A.under (.builtin "type.__call__" ⟨.ref C :: us, kw⟩)) outer s H := ⟨by first | exact e.frames | (simpa [Around.under, Code.envs, Code.isFrame, pushEnvs] using e.frames), e.mod, e.bs, e.bsz, e.funs, e.frf, e.hok, e.bare⟩
section
variable {X : Cx} {pins : List (Addr × Obj)} {σ : St} {H : Hp} {s s' : Shared}
theorem Inv.env0 (I : Inv X pins σ H s) : Env0 X.prog X.w X.K X.mg X.base X.A X.stack s H :=
  ⟨I.ok.frames, I.ok.mod, I.bs, Nat.le_trans I.ok.bsz I.sz, I.stack, I.stkFree, I.hok, I.bare⟩
theorem Inv.after {Q : VK} {u : Value} (I : Inv X pins σ H s) (h : CE X.stack X.prog X.w H s Q u s') : EP X pins σ Q u s' := by
  obtain ⟨v, H', os, bare, un, hok, r, q⟩ := h
  obtain ⟨hh, g, d, t, os'⟩ := s'
  obtain rfl : os' = s.os := os
  exact ⟨v, H', I.call (h' := hh) (g' := g) (d' := d) (t' := t) (ch := []) un hok bare (fun b z => absurd z (by simp)), r, q⟩
end
/-- f(..): the written arguments, then the defaults dvs; E: what is wanted of an exception -/
def tCall (sp : Sp) (dvs : List V) (E : XK) (t : TA) : TE := fun σ H Q => t σ H fun vs H1 => sp (vs ++ dvs) H1 Q E
/-- o.m(..) of an instance of the class at C -/
def tMeth (C : Addr) (m : Str) (sp : Sp) (dvs : List V) (E : XK) (ta : TE) (t : TA) : TE := fun σ H Q => ta σ H fun x H1 => ∃ a dx fs, x = .ref a ∧ H1 a = some (.ins C dx fs) ∧ fs.lookup m = none ∧
  t σ H1 fun vs H2 => sp (x :: (vs ++ dvs)) H2 Q E
/-- C(..): a new instance and its dict, then __init__ -/
def tMake (C : Addr) (sp : Sp) (dvs : List V) (E : XK) (t : TA) : TE := fun σ H Q => t σ H fun vs H1 => ∀ x dx, H1 x = none → H1 dx = none → dx ≠ x →
  sp (.ref x :: (vs ++ dvs)) (upd (upd H1 dx (.own x)) x (.ins C dx [])) (fun v H2 => v = .non ∧ Q (.ref x) H2) E
/-- how the parameters are bound: us the positional arguments, kw the keywords' values by name, ds the defaults that fill up -/
def Binds (K : PySem.W.Frag) (fd : FuncData) (ps : List Str) (ds : List Value) : Prop :=
  ∀ (s : Shared) (us : List Value), K.In s.heap → (us ++ ds).length = ps.length → BindsTo s fd ⟨us, []⟩ (ps.zip (us ++ ds))
theorem Binds.all {K : PySem.W.Frag} {fd : FuncData} {ps : List Str} (h : ∀ us : List Value, us.length = ps.length → bindArgs fd ⟨us, []⟩ = pure (ps.zip us)) : Binds K fd ps [] := fun s us _ hl => by
  rw [List.append_nil] at hl ⊢
  exact .of_eq (h us hl)
/-- an exception of a callee reaches what this body wants of exceptions -/
def Passes (CX : CXT) (X : Cx) (E : XK) : Prop := ∀ (pins : List (Addr × Obj)) (σ : St) (H : Hp) (s : Shared) (e : Value) (s' : Shared), Inv X pins σ H s → CX X.stack H s E e s' → X.xe e s'
section
variable {X : Cx} {CX : CXT} {k : Nat} {f C : Addr} {fd : FuncData} {ps : List Str} {sp : Sp} {dvs : List V} {ds : List Value} {E : XK} {x m : Str} {p pos apos : Pos} {e o : Expr} {es : List Expr} {ta : TE} {t : TA}
theorem run_fn {pins : List (Addr × Obj)} {σ : St} {H : Hp} {s : Shared} {Q : VK} {us : List Value} {vs : List V} (F : FnOk X.prog X.w X.K X.mg X.base CX k f fd ps sp) (hr : Room k X.A) (hb : Binds X.K fd ps ds) (hd : Vals dvs ds) (hx : Passes CX X E)
    (I : Inv X pins σ H s) (r : Vals vs us) (h : sp (vs ++ dvs) H Q E) : wpAny (model X.prog X.w) X.A (call (.ref f) us) (EP X pins σ Q) X.xe s := by
  have r2 : Vals (vs ++ dvs) (us ++ ds) := r.append hd
  have hl : (us ++ ds).length = ps.length := by rw [← r2.length]; exact F.len _ _ _ _ h
  refine wpAny_call (codeAny_mono (F.run X.A X.stack s H ⟨us, []⟩ (us ++ ds) (vs ++ dvs) Q E hr I.env0 (hb s us I.kIn hl) r2 h) fun r s' hq => ?_)
  cases r with
  | error e => exact hx pins σ H s e s' I hq
  | ok fl =>
    cases fl with
    | ret u => exact I.after hq
    | next => exact False.elim hq
    | brk => exact False.elim hq
    | cont => exact False.elim hq
theorem pe_call (F : FnOk X.prog X.w X.K X.mg X.base CX k f fd ps sp) (hr : Room k X.A) (hg : Gl X x) (hm : X.mg x = some (.ref f)) (hk : PySem.W.keepIn X.K (.ref f) = true) (hb : Binds X.K fd ps ds) (hd : Vals dvs ds) (hx : Passes CX X E)
    (ha : PA X (e :: es) t) (hdb : (x == ("__debug__" : Str)) = false := by decide) (he : starEach (e :: es) X.env = (false, eval e X.env) :: starEach es X.env := by rfl) (hpl : (backTo pos (starEach es X.env)).any (·.1) = false := by rfl) :
    PE X (.Call (.Name x p) (e :: es) [] pos) (tCall sp dvs E t) := by
  intro pins s σ H Q I h
  refine wpAny_Call_Name_kw (ld_glob I hg hm ?_ hdb)
  refine PySem.W.callWith_K (h₀ := X.base) I.ok.mod.kin hk (thn (ha pos pins s σ H _ I h) fun us s1 ⟨vs, H1, I1, r, q⟩ => ⟨I1.kIn, ?_⟩) he hpl
  exact run_fn F hr hb hd hx I1 r q
theorem pe_meth {pl : Sem Bool} (he : PE X o ta) (c : Cls X.K C) (hm : Meth X.K C m f) (F : FnOk X.prog X.w X.K X.mg X.base CX k f fd ps sp) (hr : Room k X.A) (hb : Binds X.K fd ps ds) (hd : Vals dvs ds) (hx : Passes CX X E) (ha : PA X (e :: es) t)
    (hst : starEach (e :: es) X.env = (false, eval e X.env) :: starEach es X.env := by rfl) (hpl : (backTo pos (starEach es X.env)).any (·.1) = false := by rfl)
    (ht : eval (.Call (.Attribute o m apos) (e :: es) [] pos) X.env = (do
      let ov ← eval o X.env
      standAt apos.atName
      let (f, first) ← holding [ov] (getMethod ov m pl)
      callWith pos f first (backTo pos (starEach (e :: es) X.env)) (backToKw pos (keywordEach [] X.env))) := by rfl) :
    PE X (.Call (.Attribute o m apos) (e :: es) [] pos) (tMeth C m sp dvs E ta t) := by
  intro pins s σ H Q I h
  refine PySem.W.methodCall_KW (pl := pl) (thn (he pins s σ H _ I h) fun u s1 ⟨x, H1, I1, rx, a, dx, fs, ex, ea, l, q⟩ => ?_) ht
  subst ex
  obtain rfl : u = Value.ref a := rx
  refine getmeth_ok I1 ea c hm l ?_
  refine PySem.W.callWith_K (first := [.ref a]) (h₀ := X.base) I.ok.mod.kin hm.kp (thn (ha pos pins s1 σ H1 _ I1 q) fun us s2 ⟨vs, H2, I2, r, q2⟩ => ⟨I2.kIn, ?_⟩) hst hpl
  exact run_fn (us := .ref a :: us) (vs := .ref a :: vs) F hr hb hd hx I2 (.cons rfl r) q2
/-- what a class must have to be made -/
structure Mk (K : PySem.W.Frag) (C f : Addr) : Prop where
  makes : PySem.W.makesIn K C = true
  init : PySem.W.findIn K (.ref C) "__init__" = some (some (.ref f))
  fn : PySem.W.isFn K (.ref f) = true
  kp : PySem.W.keepIn K (.ref C) = true
theorem run_make {pins : List (Addr × Obj)} {σ : St} {H : Hp} {s : Shared} {Q : VK} {us : List Value} {vs : List V} (M : Mk X.K C f) (F : FnOk X.prog X.w X.K X.mg X.base CX k f fd ps sp) (hr : Room (k + 1) X.A) (hb : Binds X.K fd ps ds) (hd : Vals dvs ds)
    (hx : Passes CX X E) (I : Inv X pins σ H s) (r : Vals vs us)
    (h : ∀ x dx, H x = none → H dx = none → dx ≠ x → sp (.ref x :: (vs ++ dvs)) (upd (upd H dx (.own x)) x (.ins C dx [])) (fun v H2 => v = .non ∧ Q (.ref x) H2) E) :
    wpAny (model X.prog X.w) X.A (call (.ref C) us) (EP X pins σ Q) X.xe s := by
  have hq := h (s.heap.objs.size + 1) s.heap.objs.size (I.hok.fresh (Nat.le_succ _)) (I.hok.fresh (Nat.le_refl _)) (Nat.ne_of_lt (Nat.lt_succ_self _))
  have I2 := Inv.made (C := C) I
  have r2 : Vals (V.ref (s.heap.objs.size + 1) :: (vs ++ dvs)) (Value.ref (s.heap.objs.size + 1) :: (us ++ ds)) := .cons rfl (r.append hd)
  have hl : (Value.ref (s.heap.objs.size + 1) :: us ++ ds).length = ps.length := by
    have e := r2.length
    rw [F.len _ _ _ _ hq] at e
    exact e.symm
  refine wpAny_call (make_map (f := f) I.kIn M.makes M.init (beq_iff_eq.mp M.fn) (codeAny_mono (F.run _ X.stack _ _ ⟨Value.ref (s.heap.objs.size + 1) :: us, []⟩ (Value.ref (s.heap.objs.size + 1) :: (us ++ ds)) _ _ E (hr.make C us [])
    (I2.env0.make C us []) (hb _ (Value.ref (s.heap.objs.size + 1) :: us) I2.kIn hl) r2 hq) fun r s' hq' => ?_))
  cases r with
  | error e => exact hx pins σ _ _ e s' I2 hq'
  | ok fl =>
    cases fl with
    | ret u =>
      obtain ⟨v, H', I3, rv, ev, q3⟩ := I2.after hq'
      subst ev
      exact ⟨rv, ⟨V.ref (s.heap.objs.size + 1), H', I3, rfl, q3⟩⟩
    | next => exact False.elim hq'
    | brk => exact False.elim hq'
    | cont => exact False.elim hq'
theorem pe_make (M : Mk X.K C f) (F : FnOk X.prog X.w X.K X.mg X.base CX k f fd ps sp) (hr : Room (k + 1) X.A) (hg : Gl X x) (hm : X.mg x = some (.ref C)) (hb : Binds X.K fd ps ds) (hd : Vals dvs ds) (hx : Passes CX X E)
    (ha : PA X (e :: es) t) (hdb : (x == ("__debug__" : Str)) = false := by decide) (he : starEach (e :: es) X.env = (false, eval e X.env) :: starEach es X.env := by rfl) (hpl : (backTo pos (starEach es X.env)).any (·.1) = false := by rfl) :
    PE X (.Call (.Name x p) (e :: es) [] pos) (tMake C sp dvs E t) := by
  intro pins s σ H Q I h
  refine wpAny_Call_Name_kw (ld_glob I hg hm ?_ hdb)
  refine PySem.W.callWith_K (h₀ := X.base) I.ok.mod.kin M.kp (thn (ha pos pins s σ H _ I h) fun us s1 ⟨vs, H1, I1, r, q⟩ => ⟨I1.kIn, ?_⟩) he hpl
  exact run_make M F hr hb hd hx I1 r q
theorem pe_make0 (M : Mk X.K C f) (F : FnOk X.prog X.w X.K X.mg X.base CX k f fd ps sp) (hr : Room (k + 1) X.A) (hg : Gl X x) (hm : X.mg x = some (.ref C)) (hb : Binds X.K fd ps ds) (hd : Vals dvs ds) (hx : Passes CX X E)
    (hdb : (x == ("__debug__" : Str)) = false := by decide) : PE X (.Call (.Name x p) [] [] pos) (tMake C sp dvs E tNil) := by
  intro pins s σ H Q I h
  refine wpAny_Call_Name_kw (ld_glob I hg hm ?_ hdb)
  exact PySem.W.callWith_K0 I.kIn M.kp (run_make (us := []) M F hr hb hd hx I .nil h)
end
section
variable {X : Cx} {CX : CXT} {k : Nat} {f C : Addr} {fd : FuncData} {ps ks : List Str} {sp : Sp} {E : XK} {x m : Str} {p pos apos kpos : Pos} {e o : Expr} {es : List Expr} {kws : List Keyword} {te ta : TE} {t tk : TA} {nm : Option Str}
variable {g : List Value → List Value → List Value} {gV : List V → List V → List V}
end
/-- names: the parameters first -/
structure FnScope (N P : List Str) (sc : Scope) : Prop where
  kind : sc.kind = .function
  co : sc.isCoroutine = false
  gen : sc.isGenerator = false
  nd : N.Nodup
  pre : N.take P.length = P
  par : ∀ x ∈ P, sc.names.lookup x = some .local ∨ sc.names.lookup x = some .cell
  nofree : ∀ y ∈ sc.names, y.2 ≠ .free
theorem bindL_out {kindOf : Str → Option NameKind} {x : Str} : ∀ {binds : List (Str × Value)} {m : Str → Option Value}, (∀ v, (x, v) ∉ binds) → bindL kindOf binds m x = m x
  | [], _, _ => rfl
  | (n, v) :: r, m, h => by
    unfold bindL
    rw [bindL_out fun w hw => h w (List.mem_cons_of_mem _ hw)]
    split
    · have : x ≠ n := by rintro rfl; exact h v List.mem_cons_self
      simp [this]
    · rfl
theorem bindC_out {kindOf : Str → Option NameKind} {x : Str} : ∀ {binds : List (Str × Value)} {m : Str → Option Value}, (∀ v, (x, v) ∉ binds) → bindC kindOf binds m x = m x
  | [], _, _ => rfl
  | (n, v) :: r, m, h => by
    unfold bindC
    rw [bindC_out fun w hw => h w (List.mem_cons_of_mem _ hw)]
    split
    · rfl
    · have : x ≠ n := by rintro rfl; exact h v List.mem_cons_self
      simp [this]
theorem bindL_get {kindOf : Str → Option NameKind} {x : Str} {v : Value} : ∀ {P : List Str} {vs : List Value} {i : Nat} {m : Str → Option Value}, P.Nodup → P[i]? = some x → vs[i]? = some v → kindOf x = some .local →
    bindL kindOf (P.zip vs) m x = some v
  | [], _, _, _, _, h, _, _ => by simp at h
  | _ :: _, [], _, _, _, _, h, _ => by simp at h
  | p :: P, w :: vs, 0, m, nd, h1, h2, hk => by
    simp at h1 h2; subst h1; subst h2
    show bindL kindOf ((p, w) :: P.zip vs) m p = _
    unfold bindL
    rw [bindL_out fun v hv => (List.nodup_cons.mp nd).1 (List.of_mem_zip hv).1, if_pos hk]
    simp
  | p :: P, w :: vs, i + 1, m, nd, h1, h2, hk => by
    show bindL kindOf ((p, w) :: P.zip vs) m x = _
    unfold bindL
    exact bindL_get (i := i) (List.nodup_cons.mp nd).2 (by simpa using h1) (by simpa using h2) hk
theorem bindC_get {kindOf : Str → Option NameKind} {x : Str} {v : Value} : ∀ {P : List Str} {vs : List Value} {i : Nat} {m : Str → Option Value}, P.Nodup → P[i]? = some x → vs[i]? = some v → kindOf x ≠ some .local →
    bindC kindOf (P.zip vs) m x = some v
  | [], _, _, _, _, h, _, _ => by simp at h
  | _ :: _, [], _, _, _, _, h, _ => by simp at h
  | p :: P, w :: vs, 0, m, nd, h1, h2, hk => by
    simp at h1 h2; subst h1; subst h2
    show bindC kindOf ((p, w) :: P.zip vs) m p = _
    unfold bindC
    rw [bindC_out fun v hv => (List.nodup_cons.mp nd).1 (List.of_mem_zip hv).1, if_neg hk]
    simp
  | p :: P, w :: vs, i + 1, m, nd, h1, h2, hk => by
    show bindC kindOf ((p, w) :: P.zip vs) m x = _
    unfold bindC
    exact bindC_get (i := i) (List.nodup_cons.mp nd).2 (by simpa using h1) (by simpa using h2) hk
/-- the names' values at the entry -/
def start (N : List Str) (vs : List V) : St := vs.map some ++ List.replicate (N.length - vs.length) none
/-- the context of a def's body, at its entry; an exception leaves the frame, then lies as CX says -/
def cxOf (CX : CXT) (P : Program) (w : World) (K : PySem.W.Frag) (mg : Str → Option Value) (base : Heap) (N : List Str) (qual : Str) (scope : Scope) (f : Addr) (cd : Value) (A : Around) (outer : List Env) (s : Shared) (H : Hp) (E : XK) : Cx where
  prog := P
  w := w
  K := K
  mg := mg
  base := base
  A := A.deeper (envOfC qual scope s.heap.objs.size f cd)
  N := N
  s_0 := s
  H_0 := H
  env := envOfC qual scope s.heap.objs.size f cd
  outer := outer
  stack := envOfC qual scope s.heap.objs.size f cd :: outer
  ex := []
  calm := true
  fn := fun _ => true
  pn := []
  xe := fun e s' => wpAny (model P w) (A.deeper (envOfC qual scope s.heap.objs.size f cd)) (leaving (envOfC qual scope s.heap.objs.size f cd) e) (fun _ s'' => CX outer H s E e s'') (fun e' s'' => CX outer H s E e' s'') s'
theorem cell_has {sc : Scope} {n : Nat} {x : Str} (h : sc.names.lookup x = some .cell) : ∃ c, (cellsFrom n sc.names []).lookup x = some c := by
  have q := PySem.W.cellsFrom_some sc.names n [] (.inl h)
  exact Option.isSome_iff_exists.mp q
theorem inv_start {CX : CXT} {P : Program} {w : World} {K : PySem.W.Frag} {mg : Str → Option Value} {base : Heap} {N ps : List Str} {qual : Str} {scope : Scope} {f : Addr} {cd : Value} {A : Around} {outer : List Env} {s s1 : Shared} {H : Hp} {E : XK} {us : List Value} {vs : List V}
    (S : FnScope N ps scope) (hd : A.handled = none) (e0 : Env0 P w K mg base A outer s H) (hl : vs.length = ps.length) (r : Vals vs us)
    (x : InCallC s s.heap.objs.size (bindL (envOfC qual scope s.heap.objs.size f cd).kindOf (ps.zip us) fun _ => none) (cellsFrom (s.heap.objs.size + 1) scope.names []) (bindC (envOfC qual scope s.heap.objs.size f cd).kindOf (ps.zip us) fun _ => none) s1) :
    Inv (cxOf CX P w K mg base N qual scope f cd A outer s H E) [] (start N vs) H s1 := by
  have hpl : ps.length ≤ N.length := by have := congrArg List.length S.pre; rw [List.length_take] at this; omega
  obtain ⟨h1, tk, rfl, hk⟩ := x.done
  have noA : ∀ b : Addr, b ∉ (cxOf CX P w K mg base N qual scope f cd A outer s H E).ex := fun b z => absurd (show b ∈ ([] : List Addr) from z) (by simp)
  refine ⟨⟨e0.mod, S.kind, rfl, rfl, Nat.le_refl _, fun y z c h1 h2 => ?_, fun y hy => ?_, fun y c _ h => ?_, fun _ => hd, Around.frames_deeper e0.frames, .inr ⟨rfl, rfl⟩, fun b z => absurd z (noA b), e0.bs, e0.bsz, fun b _ _ => noA b, fun b z => absurd z (noA b), e0.funs, e0.frf⟩,
    rfl, e0.bare, Un.kept hk, ⟨_, x.toInCall.ns, fun i y v h1 h2 h3 => ?_⟩, fun y c h => ⟨_, x.cell y c h⟩, e0.hok.fresh (Nat.le_refl _), fun y c h => ?_, fun p hp => absurd (show p ∈ ([] : List (Addr × Obj)) from hp) (by simp), e0.hok.kept hk, ?_⟩
  · exact name_of_addr x.apart (PySem.mem_of_lookup h1) (PySem.mem_of_lookup h2)
  · have hy : scope.names.lookup y = some .cell ∨ scope.names.lookup y = some .free := hy
    rcases hy with hy | hy
    · exact cell_has hy
    · exact absurd rfl (S.nofree _ (PySem.mem_of_lookup hy))
  · exact Nat.le_of_lt (x.above y c (PySem.mem_of_lookup h))
  · have hi : i < vs.length := by
      unfold start at h2
      by_cases hi : i < vs.length
      · exact hi
      · rw [List.getElem?_append_right (by simpa using hi)] at h2
        rw [List.getElem?_replicate] at h2
        split at h2 <;> cases h2
    have ha : vs[i]? = some v := by
      unfold start at h2
      rw [List.getElem?_append_left (by simpa using hi), List.getElem?_map] at h2
      cases e : vs[i]? with
      | none => rw [e] at h2; cases h2
      | some a => rw [e] at h2; cases h2; rfl
    obtain ⟨u, hu, rv⟩ := r.get ha
    have hp : ps[i]? = some y := by
      rw [← S.pre, List.getElem?_take_of_lt (by omega)]; exact h1
    have ndP : ps.Nodup := by rw [← S.pre]; exact S.nd.sublist (List.take_sublist _ _)
    refine ⟨u, rv, ?_⟩
    rcases S.par y (List.mem_of_getElem? hp) with k | k
    · exact .inl ⟨k, bindL_get ndP hp hu k⟩
    · obtain ⟨c, e⟩ := cell_has (n := s.heap.objs.size + 1) k
      refine .inr ⟨.inl k, c, e, ?_⟩
      have q := x.cell y c e
      rw [bindC_get ndP hp hu (by show scope.names.lookup y ≠ _; rw [k]; decide)] at q
      exact q
  · exact e0.hok.fresh (Nat.le_of_lt (x.above y c (PySem.mem_of_lookup h)))
  · unfold start
    show _ = N.length
    rw [List.length_append, List.length_map, List.length_replicate]
    omega
theorem fn_of {CX : CXT} {P : Program} {w : World} {K : PySem.W.Frag} {mg : Str → Option Value} {base : Heap} {k : Nat} {f : Addr} {name qual : Str} {params : Arguments} {body : List Stmt} {scope : Scope} {dV kV doc pm cdv ct oc : Value} {an od : Option Addr}
    {osl : Array (Option Value)} {N ps : List Str} {sp : Sp} (lk : K.lookup f = some ⟨oc, od, .func (PySem.W.fnOf name qual params body scope dV kV doc pm an cdv ct), osl⟩) (hcd : PySem.W.codeIn K cdv qual = true) (S : FnScope N ps scope)
    (len : ∀ vs H Q E, sp vs H Q E → vs.length = ps.length)
    (hbody : ∀ (A : Around) (outer : List Env) (s : Shared) (H : Hp) (vs : List V) (Q : VK) (E : XK), Room k (A.deeper (envOfC qual scope s.heap.objs.size f cdv)) → sp vs H Q E →
      ∃ t, PSs (cxOf CX P w K mg base N qual scope f cdv A outer s H E) body t ∧ t { nx := fun _ H' => Q .non H', rt := Q } (start N vs) H) :
    FnOk P w K mg base CX (k + 1) f (PySem.W.fnOf name qual params body scope dV kV doc pm an cdv ct) ps sp := by
  refine ⟨len, fun A outer s H args us vs Q E hr e0 hb r hsp => ?_⟩
  have hl := len _ _ _ _ hsp
  have KX : K.In s.heap := e0.mod.kin.keeps fun b o e => (e0.bs b o e).1
  have lim : s.heap.NoLimit := e0.mod.nolimit.keeps fun b o e => (e0.bs b o e).1
  have hkind : ∀ y ∈ ps.zip us, scope.names.lookup y.1 = some .local ∨ (scope.names.lookup y.1 = some .cell ∧ ((cellsFrom (s.heap.objs.size + 1) scope.names []).lookup y.1).isSome = true) := fun ⟨n, v⟩ hy => by
    rcases S.par n (List.of_mem_zip hy).1 with q | q
    · exact .inl q
    · exact .inr ⟨q, PySem.W.cellsFrom_some _ _ _ (.inl q)⟩
  refine codeAny_call_function hr.depth (KX _ _ lk) rfl S.co S.gen rfl (PySem.W.codeRec_of KX hcd) (hb _ _ _ _ ?_)
  refine wpAny_newFunctionEnv_cells S.kind hkind fun env he s1 x => ?_
  subst he
  refine ⟨lim.keeps x.toInCall.keep, codeAny_func ?_⟩
  obtain ⟨t, ht, hq⟩ := hbody A outer s H vs Q E (hr.deeper _) hsp
  have I : Inv (cxOf CX P w K mg base N qual scope f cdv A outer s H E) [] (start N vs) H s1 := inv_start S hr.hd e0 hl r x
  refine wpAny_mono (ht [] s1 (start N vs) H _ I hq) (fun fl s' hs => ?_) fun e s' hs => hs
  have fin : ∀ {σ' : St} {H' : Hp} {v : V} {u : Value}, Inv (cxOf CX P w K mg base N qual scope f cdv A outer s H E) [] σ' H' s' → RelV v u → Q v H' → CE outer P w H s Q u s' :=
    fun {σ' H' v u} J rv q => ⟨v, H', J.os, J.bare, J.base, J.hok, rv, q⟩
  cases fl with
  | ret u =>
    obtain ⟨v, σ', H', J, rv, q⟩ := hs
    exact fin J rv q
  | next =>
    obtain ⟨σ', H', J, q⟩ := hs
    exact fin (v := V.non) (u := Value.none) J rfl q
  | brk =>
    obtain ⟨_, _, _, q⟩ := hs
    exact False.elim q
  | cont =>
    obtain ⟨_, _, _, q⟩ := hs
    exact False.elim q
end L2
namespace L2
open PySem PySem.Spec PyProof.Rows
section
variable {X : Cx} {x : Str} {p pos : Pos} {e : Expr} {es : List Expr} {t : TA} {id T : String} {r : List V → Hp → VK → Prop}
def tCB (r : List V → Hp → VK → Prop) (t : TA) : TE := fun σ H Q => t σ H fun vs H1 => r vs H1 Q
theorem pe_callB (hc : CallR X (.builtin id) r) (hg : Gl X x) (hm : X.mg x = none) (hv : bootBuiltins x = some (.builtin id)) (ha : PA X (e :: es) t) (hn : x ≠ "__name__" := by decide) (hdb : (x == ("__debug__" : Str)) = false := by decide)
    (he : starEach (e :: es) X.env = (false, eval e X.env) :: starEach es X.env := by rfl) (hpl : (backTo pos (starEach es X.env)).any (·.1) = false := by rfl) : PE X (.Call (.Name x p) (e :: es) [] pos) (tCB r t) := by
  intro pins s σ H Q I h
  refine wpAny_Call_Name_kw (ld_blt I hg hm hv ?_ hn hdb)
  exact PyProof.Rows.callWith_builtin1 (thn (ha pos pins s σ H _ I h) fun us s1 ⟨vs, H1, I1, r1, q1⟩ => hc pins s1 σ H1 vs us Q I1 r1 q1) he hpl
theorem pe_callTy (hc : CallR X (.type T) r) (hg : Gl X x) (hm : X.mg x = none) (hv : bootBuiltins x = some (.type T)) (ha : PA X (e :: es) t) (hn : x ≠ "__name__" := by decide) (hdb : (x == ("__debug__" : Str)) = false := by decide)
    (he : starEach (e :: es) X.env = (false, eval e X.env) :: starEach es X.env := by rfl) (hpl : (backTo pos (starEach es X.env)).any (·.1) = false := by rfl) : PE X (.Call (.Name x p) (e :: es) [] pos) (tCB r t) := by
  intro pins s σ H Q I h
  refine wpAny_Call_Name_kw (ld_blt I hg hm hv ?_ hn hdb)
  exact PyProof.Rows.callWith_type1 (thn (ha pos pins s σ H _ I h) fun us s1 ⟨vs, H1, I1, r1, q1⟩ => hc pins s1 σ H1 vs us Q I1 r1 q1) he hpl
end
end L2
namespace HT
open PySem PyProof.Rows
section
open PySem.SeqAt
open PySem.AutoSeq1 (wpAny_loadPart')
open PySem.MeetsSeq PySem.MeetsSeq2 PySem.MeetsSeq3
end
section
variable {prog : Program} {w : World} {A : Around} {E : Value → Shared → Prop} {s : Shared}
/-- a slice's bound as a place among n (d where it is left out) -/
def sIx (n d : Nat) : Option Int → Nat
  | none => d
  | some v => if v < 0 then (v + (n : Int)).toNat else min v.toNat n
theorem sIx_nat (n d k : Nat) : sIx n d (some (k : Int)) = min k n := by
  show (if (k : Int) < 0 then ((k : Int) + (n : Int)).toNat else min (k : Int).toNat n) = min k n
  rw [if_neg (by omega), Int.toNat_natCast]
end
end HT
namespace L2
open PySem PySem.Spec PyProof.Rows
abbrev TO := St → Hp → (Option Int → Hp → Prop) → Prop
/-- a slice's part (left out, or an int) -/
def PO (X : Cx) (e : Option Expr) (t : TO) : Prop :=
  ∀ (pins : List (Addr × Obj)) (s : Shared) (σ : St) (H : Hp) (Q : Option Int → Hp → Prop), Inv X pins σ H s → t σ H Q →
    wpAny (model X.prog X.w) X.A (evalPart e X.env) (fun u s' => ∃ o H', Inv X pins σ H' s' ∧ IsPart u o ∧ Q o H') X.xe s
def tNoPart : TO := fun _ H Q => Q none H
def tPart (t : TE) : TO := fun σ H Q => t σ H fun x H1 => ∃ i, x = .int i ∧ Q (some i) H1
section
variable {X : Cx} {e : Expr} {te : TE} {lo hi : Option Expr} {tl th : TO} {pos p2 : Pos}
theorem po_none : PO X none tNoPart := by
  intro pins s σ H Q I h
  rw [evalPart_none]
  exact wpAny_pure ⟨none, H, I, .none, h⟩
theorem po_some (h : PE X e te) : PO X (some e) (tPart te) := by
  intro pins s σ H Q I hw
  rw [evalPart_some]
  refine thn (h pins s σ H _ I hw) fun u s1 ⟨x, H1, I1, r1, q1⟩ => ?_
  obtain ⟨i, rfl, q⟩ := q1
  obtain ⟨t, rfl⟩ := r1
  exact ⟨some i, H1, I1, .int i t, q⟩
/-- what a slice of a value is, by values: the slice object stands at sl -/
def SlR (X : Cx) (r : V → Option Int → Option Int → Hp → VK → Prop) : Prop :=
  ∀ (pins : List (Addr × Obj)) (s : Shared) (σ : St) (H : Hp) (x : V) (v vl vu : Value) (lo hi : Option Int) (sl : Addr) (Q : VK), Inv X pins σ H s → RelV x v → s.heap.IsSliceOf sl vl vu .none → IsPart vl lo → IsPart vu hi → r x lo hi H Q →
    ∃ T id, typeLookup (.type T) "__getitem__" = pure (some (.builtin id)) ∧ s.TypeIs v T ∧ wpAny (model X.prog X.w) X.A (getItem v (.ref sl)) (EP X pins σ Q) X.xe s
def tSl (r : V → Option Int → Option Int → Hp → VK → Prop) (te : TE) (tl th : TO) : TE := fun σ H Q => te σ H fun x H1 => tl σ H1 fun l H2 => th σ H2 fun u H3 => r x l u H3 Q
theorem pe_slice {r : V → Option Int → Option Int → Hp → VK → Prop} (hr : SlR X r) (he : PE X e te) (hl : PO X lo tl) (hu : PO X hi th) : PE X (.Subscript e (.Slice lo hi none p2) pos) (tSl r te tl th) := by
  intro pins s σ H Q I h
  refine Subscript_ (thn (he pins s σ H _ I h) fun v s1 ⟨x, H1, I1, r1, q1⟩ => ?_)
  refine wpAny_Slice (thn (hl pins s1 σ H1 _ I1 q1) fun vl s2 ⟨l, H2, I2, pl, q2⟩ => thn (hu pins s2 σ H2 _ I2 q2) fun vu s3 ⟨u, H3, I3, pu, q3⟩ => ?_)
  rw [evalPart_none]
  refine wpAny_pure ?_
  have I4 : Inv X pins σ H3 { s3 with heap := s3.heap.push { cls := .type "slice", data := .fields #[vl, vu, .none] } } := I3.kept (t' := s3.toks) fun b ob q => Heap.get?_push_of_some _ q
  obtain ⟨T, id, hT, ht, hg⟩ := hr pins { s3 with heap := s3.heap.push { cls := .type "slice", data := .fields #[vl, vu, .none] } } σ H3 x v vl vu l u s3.heap.objs.size Q I4 r1 (Heap.IsSliceOf.new ..) pl pu q3
  show wpAny (model X.prog X.w) X.A (subscriptTail e (.Slice lo hi none p2) v (.ref s3.heap.objs.size)) (EP X pins σ Q) X.xe { s3 with heap := s3.heap.push { cls := .type "slice", data := .fields #[vl, vu, .none] } }
  exact tail_any (ops := [.ref s3.heap.objs.size, v]) ht hT hg (by with_unfolding_all rfl)
/-- the items of xs[lo:hi] -/
def cutV (xs : List V) (lo hi : Option Int) : List V := (xs.drop (HT.sIx xs.length 0 lo)).take (HT.sIx xs.length xs.length hi - HT.sIx xs.length 0 lo)
theorem cutV_length (xs : List V) (lo hi : Option Int) : (cutV xs lo hi).length ≤ xs.length := by
  unfold cutV
  rw [List.length_take, List.length_drop]
  omega
end
end L2
namespace L2
open PySem PySem.Spec PyProof.Rows
/-- the place that an index of any sign means -/
def ixN (n : Nat) (i : Int) : Option Nat := if 0 ≤ i then (if i < n then some i.toNat else none) else if -(n : Int) ≤ i then some (i + n).toNat else none
def atI {α : Type} (xs : List α) (i : Int) : Option α := (ixN xs.length i).bind fun j => xs[j]?
theorem ixN_seq {n : Nat} {i : Int} {j : Nat} (h : ixN n i = some j) : seqIndex? i n = some j ∧ j < n ∧ -(n : Int) ≤ i ∧ i < n := by
  unfold ixN at h
  by_cases h0 : 0 ≤ i
  · rw [if_pos h0] at h
    by_cases h1 : i < n
    · rw [if_pos h1] at h
      have e : i.toNat = j := Option.some.inj h
      exact ⟨by rw [seqIndex_of h0 h1, e], by omega, by omega, h1⟩
    · rw [if_neg h1] at h; cases h
  · rw [if_neg h0] at h
    by_cases h1 : -(n : Int) ≤ i
    · rw [if_pos h1] at h
      have e : (i + n).toNat = j := Option.some.inj h
      exact ⟨by rw [seqIndex_neg (by omega) h1, e], by omega, h1, by omega⟩
    · rw [if_neg h1] at h; cases h
theorem atI_get {α : Type} {xs : List α} {i : Int} {v : α} (h : atI xs i = some v) : ∃ j, seqIndex? i xs.length = some j ∧ xs[j]? = some v ∧ j < xs.length ∧ -(xs.length : Int) ≤ i ∧ i < xs.length := by
  unfold atI at h
  cases e : ixN xs.length i with
  | none => rw [e] at h; cases h
  | some j =>
    rw [e] at h
    obtain ⟨h1, h2, h3, h4⟩ := ixN_seq e
    exact ⟨j, h1, h, h2, h3, h4⟩
theorem atI_nat {α : Type} {xs : List α} {j : Nat} {v : α} (h : xs[j]? = some v) : atI xs (j : Int) = some v := by
  have hj : j < xs.length := (List.getElem?_eq_some_iff.mp h).1
  have e : ixN xs.length (j : Int) = some j := by
    unfold ixN
    rw [if_pos (by omega), if_pos (by omega)]; simp
  unfold atI; rw [e]; exact h
theorem atI_last {α : Type} (xs : List α) (v : α) : atI (xs ++ [v]) (-1) = some v := by
  have hl : (xs ++ [v]).length = xs.length + 1 := by simp
  have e : ixN (xs ++ [v]).length (-1) = some xs.length := by
    unfold ixN
    rw [hl, if_neg (by decide), if_pos (by omega)]
    congr 1
    omega
  unfold atI
  rw [e]
  show (xs ++ [v])[xs.length]? = some v
  simp
/-- what stands as an index of a plain subscript -/
def PlainIx (b : Expr) : Prop := ∀ o i, subscripted b false o i = operate [o, i] (getItem o i)
/-- a subscript by values -/
def IxR (X : Cx) (r : R2) : Prop :=
  ∀ (value slice : Expr) (pins : List (Addr × Obj)) (s : Shared) (σ : St) (H : Hp) (x y : V) (v u : Value) (Q : VK), Inv X pins σ H s → RelV x v → RelV y u → r x y H Q →
    subscripted slice false v u = operate [v, u] (getItem v u) → wpAny (model X.prog X.w) X.A (subscriptTail value slice v u) (EP X pins σ Q) X.xe s
/-- a call of a builtin's method by values: the receiver, the arguments -/
def MtR (X : Cx) (id : String) (r : V → List V → Hp → VK → Prop) : Prop :=
  ∀ (pins : List (Addr × Obj)) (s : Shared) (σ : St) (H : Hp) (x : V) (xs : List V) (v : Value) (us : List Value) (Q : VK), Inv X pins σ H s → RelV x v → Vals xs us → r x xs H Q →
    wpAny (model X.prog X.w) X.A (call (.builtin id) (v :: us)) (EP X pins σ Q) X.xe s
section
variable {X : Cx} {a b : Expr} {ta tb : TE} {pos : Pos}
theorem pe_ix {r : R2} (hr : IxR X r) (ha : PE X a ta) (hb : PE X b tb) (hs : PlainIx b) : PE X (.Subscript a b pos) (tOp r ta tb) := by
  intro pins s σ H Q I h
  exact Subscript_ (binT ha hb I h fun v u s2 x y H2 I2 rx ry q => hr a b pins s2 σ H2 x y v u Q I2 rx ry q (hs _ _))
def rIxL (K : PySem.W.Frag) : R2 := fun x y H Q => ∃ p xs i v, x = .ref p ∧ y = .int i ∧ SqL K H p xs ∧ atI xs i = some v ∧ Q v H
def rIxT (K : PySem.W.Frag) : R2 := fun x y H Q => ∃ p xs i v, x = .ref p ∧ y = .int i ∧ SqT K H p xs ∧ atI xs i = some v ∧ Q v H
theorem ix_list : IxR X (rIxL X.K) := by
  intro value slice pins s σ H x y v u Q I rx ry h hs
  obtain ⟨p, xs, i, z, rfl, rfl, hq, he, q⟩ := h
  cases rx
  obtain ⟨t, rfl⟩ := ry
  obtain ⟨its, r, pl, hz⟩ := I.list hq
  obtain ⟨j, h1, h2, h3, h4, h5⟩ := atI_get he
  obtain ⟨w, ew, rw'⟩ := r.get h2
  have hl := r.length
  have hn := line63
  have fin : EP X pins σ Q w s := ⟨z, H, I, rw', q⟩
  by_cases h0 : 0 ≤ i
  · have hj : i.toNat = j := by
      rw [seqIndex_of h0 h5] at h1
      exact Option.some.inj h1
    exact item_listR pl.isList h0 (by omega) (by rw [hj]; simpa using ew) fin hs
  · have hj : (i + (its.toArray.size : Int)).toNat = j := by
      rw [seqIndex_neg (by omega) h4] at h1
      rw [List.size_toArray, ← hl]
      exact Option.some.inj h1
    exact subscriptTail_builtinR (x := w) pl.isList.typeIs slot_list_getitem.lookup
      (wpAny_getItem_list_neg (Q := fun r s' => r = w ∧ EP X pins σ Q r s') pl.isList (by omega) (by rw [List.size_toArray] <;> omega) (by omega) (by rw [hj]; simpa using ew) ⟨rfl, fin⟩) hs
theorem ix_tup : IxR X (rIxT X.K) := by
  intro value slice pins s σ H x y v u Q I rx ry h hs
  obtain ⟨p, xs, i, z, rfl, rfl, hq, he, q⟩ := h
  cases rx
  obtain ⟨t, rfl⟩ := ry
  obtain ⟨its, r, pl, hz⟩ := I.tuple hq
  obtain ⟨j, h1, h2, h3, h4, h5⟩ := atI_get he
  obtain ⟨w, ew, rw'⟩ := r.get h2
  have hl := r.length
  have hn := line63
  have fin : EP X pins σ Q w s := ⟨z, H, I, rw', q⟩
  exact subscriptTail_builtinR (x := w) pl.typeIs slot_tuple_getitem.lookup
    (getItem_tuple (j := j) (Q := fun r s' => r = w ∧ EP X pins σ Q r s') pl (by omega) (by omega) (by rw [List.size_toArray, ← hl]; exact h1) (by simpa using ew) ⟨rfl, fin⟩) hs
theorem mapSeq_set (its : List Value) (n j : Nat) (u : Value) : Obj.mapSeq (·.setIfInBounds j u) { cls := .type "list", data := .seq its.toArray n } = { cls := .type "list", data := .seq (its.set j u).toArray n } := by
  simp [Obj.mapSeq]
theorem Inv.lst {pins : List (Addr × Obj)} {σ : St} {H : Hp} {s : Shared} {p : Addr} {xs : List V} (I : Inv X pins σ H s) (h : H p = some (.lst xs)) :
    ∃ (its : List Value) (n : Nat), Vals xs its ∧ s.heap.get? p = some { cls := .type "list", data := .seq its.toArray n } ∧ xs.length ≤ sizeLine := by
  obtain ⟨z, its, n, r, e⟩ := I.hok p _ h
  exact ⟨its, n, r, e, z⟩
theorem Inv.lstUpd {pins : List (Addr × Obj)} {σ : St} {H : Hp} {s : Shared} {p : Addr} {xs ys : List V} {its its' : List Value} {n n' : Nat} {f : Obj → Obj} (I : Inv X pins σ H s) (h : H p = some (.lst xs))
    (ho : s.heap.get? p = some { cls := .type "list", data := .seq its.toArray n }) (hf : f { cls := .type "list", data := .seq its.toArray n } = { cls := .type "list", data := .seq its'.toArray n' }) (r : Vals ys its') (hz : ys.length ≤ sizeLine) (t : Nat) :
    Inv X pins σ (upd H p (.lst ys)) { s with heap := s.heap.update p f, toks := t } := by
  have e : (s.heap.update p f).get? p = some { cls := .type "list", data := .seq its'.toArray n' } := by
    rw [Heap.get?_update_self f ho (by rw [hf] <;> rfl), hf]
  refine I.write (x := p) (e := p) (by rw [h]; trivial) (.inl rfl) (fun b u hb q => (Heap.get?_update_other _ _ (Ne.symm hb)).trans q) ⟨_, e⟩ ?_
  exact ⟨hz, its', n', r, e⟩
def rSetL : V → V → V → Hp → (Hp → Prop) → Prop := fun o i v H Q => ∃ p xs k j, o = .ref p ∧ i = .int k ∧ H p = some (.lst xs) ∧ ixN xs.length k = some j ∧ Q (upd H p (.lst (xs.set j v)))
theorem set_list : PSet X rSetL := by
  intro pins s σ H o i v ov iv u Q I ro ri rv h
  obtain ⟨p, xs, k, j, rfl, rfl, hp, hj, q⟩ := h
  cases ro
  obtain ⟨t, rfl⟩ := ri
  obtain ⟨its, n, r, ho, hz⟩ := I.lst hp
  obtain ⟨h1, h2, h3, h4⟩ := ixN_seq hj
  have hl := r.length
  have hn := line63
  have I' : Inv X pins σ (upd H p (.lst (xs.set j v))) { s with heap := s.heap.update p (Obj.mapSeq (·.setIfInBounds j u)) } :=
    I.lstUpd hp ho (mapSeq_set its n j u) (r.set rv j) (by rw [List.length_set]; exact hz) s.toks
  by_cases h0 : 0 ≤ k
  · have hk : k.toNat = j := by
      rw [seqIndex_of h0 h4] at h1
      exact Option.some.inj h1
    exact PySem.W.ki_setAt ho h0 (by omega) (by rw [List.size_toArray, ← hl]; exact h4) (by rw [hk]; exact ⟨_, I', q⟩)
  · have hk : (k + (its.toArray.size : Int)).toNat = j := by
      rw [seqIndex_neg (by omega) h3] at h1
      rw [List.size_toArray, ← hl]
      exact Option.some.inj h1
    exact PySem.W.ki_setBack ho (by omega) (by rw [List.size_toArray, ← hl]; exact h3) (by omega) (by rw [hk]; exact ⟨_, I', q⟩)
theorem slice_bounds (lo hi : Option Int) (n : Nat) : (sliceBounds lo hi none n).1 = ((HT.sIx n 0 lo : Nat) : Int) ∧ (sliceBounds lo hi none n).2.1 = ((HT.sIx n n hi : Nat) : Int) ∧ (sliceBounds lo hi none n).2.2 = 1 := by
  refine ⟨?_, ?_, rfl⟩
  · cases lo with
    | none => simp [sliceBounds, HT.sIx]
    | some i =>
      simp only [sliceBounds, HT.sIx, Option.getD_none, show (1 : Int) > 0 by decide, if_true]
      by_cases h : i < 0
      · simp only [h, if_true] <;> omega
      · simp only [h, if_false] <;> omega
  · cases hi with
    | none => simp [sliceBounds, HT.sIx]
    | some i =>
      simp only [sliceBounds, HT.sIx, Option.getD_none, show (1 : Int) > 0 by decide, if_true]
      by_cases h : i < 0
      · simp only [h, if_true] <;> omega
      · simp only [h, if_false] <;> omega
theorem slicePick_cut (its : List Value) (lo hi : Option Int) : slicePick its.toArray lo hi none = ((its.drop (HT.sIx its.length 0 lo)).take (HT.sIx its.length its.length hi - HT.sIx its.length 0 lo)).toArray := by
  obtain ⟨h1, h2, h3⟩ := slice_bounds lo hi its.toArray.size
  unfold slicePick
  rw [h1, h2, h3]
  simp only [sliceRange_one, pick_run, List.size_toArray] <;> rfl
/-- xs[lo:hi] of a list: a new list -/
def rSlL (K : PySem.W.Frag) : V → Option Int → Option Int → Hp → VK → Prop := fun x lo hi H Q => ∃ a xs, x = .ref a ∧ SqL K H a xs ∧ ∀ p, H p = none → Q (.ref p) (upd H p (.lst (cutV xs lo hi)))
theorem sl_list : SlR X (rSlL X.K) := by
  intro pins s σ H x v vl vu lo hi sl Q I rx hs pl pu h
  obtain ⟨a, xs, rfl, hx, q⟩ := h
  cases rx
  obtain ⟨its, r, ht, hz⟩ := I.list hx
  have hlen := r.length
  refine ⟨"list", _, slot_list_getitem.lookup, ht.isList.typeIs, ?_⟩
  refine wpAny_getItem_list_slice ht.isList hs pl pu .none (by simp) ?_ (by rw [List.size_toArray] <;> omega)
  rw [slicePick_cut, ← hlen]
  refine ⟨.ref s.heap.objs.size, _, I.laid (t' := s.toks) (o := .lst (cutV xs lo hi)) (fun b ob q => Heap.get?_push_of_some _ q) (Nat.le_refl _) ?_, rfl, q _ (I.hok.fresh (Nat.le_refl _))⟩
  exact ⟨Nat.le_trans (cutV_length xs lo hi) hz, _, 0, (r.drop (HT.sIx xs.length 0 lo)).take (HT.sIx xs.length xs.length hi - HT.sIx xs.length 0 lo), Heap.get?_push_size _ rfl⟩
def flatV : V → Bool
  | .non => true
  | .bl _ => true
  | .int _ => true
  | .str _ => true
  | _ => false
/-- == of flat values -/
def eqV : V → V → Bool
  | .non, .non => true
  | .bl a, .bl b => a == b
  | .bl a, .int b => (if a then 1 else 0) == b
  | .int a, .bl b => a == (if b then 1 else 0)
  | .int a, .int b => a == b
  | .str a, .str b => a == b
  | _, _ => false
theorem eqAt_V {A : Around} {s : Shared} {y x : V} {u v : Value} (ry : RelV y u) (rx : RelV x v) (fy : flatV y = true) (fx : flatV x = true) : SeqAt.EqAt A s u v (eqV y x) := by
  cases y with
  | non =>
    cases ry
    cases x with
    | non => cases rx; exact SeqAt.EqAt.same _
    | bl b => cases rx; exact SeqAt.EqAt.none_bool b
    | int b => obtain ⟨t, rfl⟩ := rx; exact SeqAt.EqAt.none_int b t
    | str b => obtain ⟨t, rfl⟩ := rx; exact SeqAt.EqAt.none_str b t
    | _ => exact absurd (show false = true from fx) Bool.false_ne_true
  | bl a =>
    cases ry
    cases x with
    | non => cases rx; exact SeqAt.EqAt.bool_none a
    | bl b => cases rx; exact SeqAt.EqAt.bool_bool a b
    | int b => obtain ⟨t, rfl⟩ := rx; exact SeqAt.EqAt.bool_int a b t
    | str b => obtain ⟨t, rfl⟩ := rx; exact SeqAt.EqAt.bool_str a b t
    | _ => exact absurd (show false = true from fx) Bool.false_ne_true
  | int a =>
    obtain ⟨t', rfl⟩ := ry
    cases x with
    | non => cases rx; exact SeqAt.EqAt.int_none a t'
    | bl b => cases rx; exact SeqAt.EqAt.int_bool a t' b
    | int b => obtain ⟨t, rfl⟩ := rx; exact SeqAt.EqAt.int_int a t' b t
    | str b => obtain ⟨t, rfl⟩ := rx; exact SeqAt.EqAt.int_str a t' b t
    | _ => exact absurd (show false = true from fx) Bool.false_ne_true
  | str a =>
    obtain ⟨t', rfl⟩ := ry
    cases x with
    | non => cases rx; exact SeqAt.EqAt.str_none a t'
    | bl b => cases rx; exact SeqAt.EqAt.str_bool a t' b
    | int b => obtain ⟨t, rfl⟩ := rx; exact SeqAt.EqAt.str_int a t' b t
    | str b => obtain ⟨t, rfl⟩ := rx; exact SeqAt.EqAt.str_str a t' b t
    | _ => exact absurd (show false = true from fx) Bool.false_ne_true
  | _ => exact absurd (show false = true from fy) Bool.false_ne_true
/-- the items' answers, read off the values (a value's own answer does not lean on its token) -/
def eqU (x : V) (u : Value) : Bool := match u with
  | .none => eqV .non x
  | .bool b => eqV (.bl b) x
  | .int i _ => eqV (.int i) x
  | .str z _ => eqV (.str z) x
  | _ => false
theorem eqU_of {x y : V} {u : Value} (r : RelV y u) (f : flatV y = true) : eqU x u = eqV y x := by
  cases y with
  | non => cases r; rfl
  | bl b => cases r; rfl
  | int i => obtain ⟨t, rfl⟩ := r; rfl
  | str z => obtain ⟨t, rfl⟩ := r; rfl
  | _ => exact absurd (show false = true from f) Bool.false_ne_true
theorem any_eqU {x : V} : ∀ {xs : List V} {us : List Value}, Vals xs us → xs.all flatV = true → us.any (eqU x) = xs.any fun y => eqV y x
  | _, _, .nil, _ => rfl
  | y :: xs, u :: us, .cons r t, f => by
    rw [List.all_cons, Bool.and_eq_true] at f
    rw [List.any_cons, List.any_cons, eqU_of r f.1, any_eqU t f.2]
theorem mem_eqAt {A : Around} {s : Shared} {x : V} {v : Value} (rx : RelV x v) (fx : flatV x = true) : ∀ {xs : List V} {us : List Value}, Vals xs us → xs.all flatV = true → ∀ u ∈ us, SeqAt.EqAt A s u v (eqU x u)
  | _, _, .nil, _ => fun u hu => by cases hu
  | y :: xs, u :: us, .cons r t, f => fun u' hu => by
    rw [List.all_cons, Bool.and_eq_true] at f
    rcases List.mem_cons.mp hu with rfl | hu
    · rw [eqU_of r f.1]; exact eqAt_V r rx f.1 fx
    · exact mem_eqAt rx fx t f.2 u' hu
def inV (x : V) (xs : List V) : Bool := xs.any fun y => eqV y x
/-- x in a list or tuple of flat items -/
def rIn (K : PySem.W.Frag) (neg : Bool) : R2 := fun x y H Q => ∃ p xs, y = .ref p ∧ (SqL K H p xs ∨ SqT K H p xs) ∧ flatV x = true ∧ xs.all flatV = true ∧ Q (.bl (if neg then !inV x xs else inV x xs)) H
theorem op_in_seq : OpR X (compareOp .In) (rIn X.K false) := by
  intro pins s σ H x y v u Q I rx ry h
  obtain ⟨p, xs, rfl, hq, fx, fs, q⟩ := h
  cases ry
  rcases hq with hq | hq
  · obtain ⟨its, r, pl, hz⟩ := I.list hq
    refine SeqAt.in_listAt (eqU x) pl.isList (fun w hw => mem_eqAt rx fx r fs w (by simpa using hw)) ⟨.bl _, H, I, rfl, ?_⟩
    rw [show its.toArray.any (eqU x) = its.any (eqU x) by simp, any_eqU r fs]
    exact q
  · obtain ⟨its, r, pl, hz⟩ := I.tuple hq
    refine SeqAt.in_tupleAt (eqU x) pl (fun w hw => mem_eqAt rx fx r fs w (by simpa using hw)) ⟨.bl _, H, I, rfl, ?_⟩
    rw [show its.toArray.any (eqU x) = its.any (eqU x) by simp, any_eqU r fs]
    exact q
theorem call_len_seq : CallR X (.builtin "len") (fun xs H Q => ∃ p ys, xs = [.ref p] ∧ (SqL X.K H p ys ∨ SqT X.K H p ys) ∧ Q (.int ys.length) H) := by
  intro pins s σ H xs us Q I r h
  obtain ⟨p, ys, rfl, hq, q⟩ := h
  obtain ⟨u, rfl, rx⟩ := vals1 r
  cases rx
  have hn := line63
  rcases hq with hq | hq
  · obtain ⟨its, r', pl, hz⟩ := I.list hq
    have hlen := r'.length
    exact Calls.call_len_list pl.isList (by simp only [List.size_toArray] <;> omega) ⟨.int ys.length, H, I.tok _, ⟨s.toks + 1, by rw [List.size_toArray, hlen]⟩, q⟩
  · obtain ⟨its, r', pl, hz⟩ := I.tuple hq
    have hlen := r'.length
    exact len_tuple pl (by simp only [List.size_toArray] <;> omega) ⟨.int ys.length, H, I.tok _, ⟨s.toks + 1, by rw [List.size_toArray, hlen]⟩, q⟩
theorem call_list_of : CallR X (.type "list") (fun xs H Q => ∃ p ys, xs = [.ref p] ∧ (SqL X.K H p ys ∨ SqT X.K H p ys) ∧ ∀ l, H l = none → Q (.ref l) (upd H l (.lst ys))) := by
  intro pins s σ H xs us Q I r h
  obtain ⟨p, ys, rfl, hq, q⟩ := h
  obtain ⟨u, rfl, rx⟩ := vals1 r
  cases rx
  have fin : ∀ (its : List Value), Vals ys its → ys.length ≤ sizeLine → ∀ (h' : Heap) (c' : Nat), (∀ b o', s.heap.get? b = some o' → h'.get? b = some o') →
      h'.get? s.heap.objs.size = some { cls := .type "list", dict := none, data := .seq its.toArray c', slots := #[] } → EP X pins σ Q (.ref s.heap.objs.size) { s with heap := h' } := fun its r' hz h' c' kp e =>
    ⟨.ref s.heap.objs.size, _, I.laid (t' := s.toks) kp (Nat.le_refl _) (show ObjOk X.prog X.w _ h' _ (.lst ys) from ⟨hz, its, c', r', e⟩), rfl, q _ (I.hok.fresh (Nat.le_refl _))⟩
  rcases hq with hq | hq
  · obtain ⟨its, r', pl, hz⟩ := I.list hq
    have hlen := r'.length
    obtain ⟨o, ho, hc, n, hd⟩ := pl.isList
    exact call_list_seq p (.inl rfl) ho hc hd (fun h' c' kp e => fin its r' hz h' c' kp e) (by simp only [List.size_toArray] <;> omega)
  · obtain ⟨its, r', pl, hz⟩ := I.tuple hq
    have hlen := r'.length
    obtain ⟨o, ho, hc, n, hd⟩ := pl
    exact call_list_seq p (.inr rfl) ho hc hd (fun h' c' kp e => fin its r' hz h' c' kp e) (by simp only [List.size_toArray] <;> omega)
/-- the value is of that builtin type -/
def tyV (K : PySem.W.Frag) (T : String) (x : V) (H : Hp) : Prop := match x with
  | .str _ => T = "str"
  | .int _ => T = "int"
  | .ref p => (T = "list" ∧ ∃ xs, SqL K H p xs) ∨ (T = "tuple" ∧ ∃ o, K.lookup p = some o ∧ o.cls = .type "tuple" ∧ o.dict = none) ∨
      (T = "dict" ∧ ((∃ kvs, H p = some (.dK kvs)) ∨ ∃ kvs, H p = some (.dT kvs))) ∨ (T = "set" ∧ ∃ S n, H p = some (.set S n))
  | _ => False
theorem tyV_is {pins : List (Addr × Obj)} {σ : St} {H : Hp} {s : Shared} {T : String} {x : V} {v : Value} (I : Inv X pins σ H s) (r : RelV x v) (ty : tyV X.K T x H) :
    s.TypeIs v T ∧ ∀ a, v = .ref a → ∃ ob, s.heap.get? a = some ob ∧ ob.dict = none := by
  cases x with
  | str z =>
    obtain ⟨t, rfl⟩ := r
    cases (show T = "str" from ty)
    exact ⟨typeIs_str s z t, fun _ e => nomatch e⟩
  | int i =>
    obtain ⟨t, rfl⟩ := r
    cases (show T = "int" from ty)
    exact ⟨typeIs_int s i t, fun _ e => nomatch e⟩
  | ref p =>
    cases r
    rcases ty with ⟨rfl, xs, hq⟩ | ⟨rfl, o, hk, hc, hd⟩ | ⟨rfl, hk⟩ | ⟨rfl, S, n, hk⟩
    · obtain ⟨its, _, pl, _⟩ := I.list hq
      refine ⟨pl.isList.typeIs, fun a e => ?_⟩
      cases e
      obtain ⟨o, n, e, c, hd, _⟩ := pl
      exact ⟨o, e, hd⟩
    · refine ⟨⟨o, I.kIn p o hk, hc⟩, fun a e => ?_⟩
      cases e
      exact ⟨o, I.kIn _ o hk, hd⟩
    · have z : ∃ o, s.heap.get? p = some o ∧ o.ExactDict := by
        rcases hk with ⟨kvs, hk⟩ | ⟨kvs, hk⟩
        · obtain ⟨_, _, _, _, o, _, _, e, ex, _⟩ := I.hok p _ hk
          exact ⟨o, e, ex⟩
        · obtain ⟨_, _, _, _, o, _, _, e, ex, _⟩ := I.hok p _ hk
          exact ⟨o, e, ex⟩
      obtain ⟨o, e, ex⟩ := z
      refine ⟨⟨o, e, ex.1⟩, fun a e2 => ?_⟩
      cases e2
      exact ⟨o, e, ex.2.1⟩
    · obtain ⟨o, _, _, _, e, ex, _⟩ := I.hok p _ hk
      refine ⟨⟨o, e, ex.1⟩, fun a e2 => ?_⟩
      cases e2
      exact ⟨o, e, ex.2.1⟩
  | _ => exact False.elim ty
def tBM (K : PySem.W.Frag) (T : String) (r : V → List V → Hp → VK → Prop) (to : TE) (t : TA) : TE := fun σ H Q => to σ H fun x H1 => tyV K T x H1 ∧ t σ H1 fun xs H2 => r x xs H2 Q
variable {o e : Expr} {es : List Expr} {to : TE} {t : TA} {name : Str} {apos cpos : Pos} {T id : String} {r : V → List V → Hp → VK → Prop}
theorem pe_bm (pa : PlainAttrs T) (slot : Slot T name id) (hty : typeOf (.builtin id) = pure (.type "method_descriptor")) (hm : MtR X id r) (ho : PE X o to) (ha : PA X (e :: es) t)
    (hbase : attributeBase o name X.env (eval o X.env) = eval o X.env := by rfl)
    (hfew : ((backTo cpos (starEach (e :: es) X.env)).all (fun x => !x.1) && (backToKw cpos (keywordEach [] X.env)).all (fun x => x.1.isSome)
      && decide ((e :: es).length + ([] : List Keyword).length + (if ([] : List Keyword).isEmpty then 0 else 1) < 30)) = true := by rfl)
    (hline : (apos.endLine == cpos.line) = true := by rfl) (hs : starEach (e :: es) X.env = (false, eval e X.env) :: starEach es X.env := by rfl) (hplain : (backTo cpos (starEach es X.env)).any (·.1) = false := by rfl) :
    PE X (.Call (.Attribute o name apos) (e :: es) [] cpos) (tBM X.K T r to t) := by
  intro pins s σ H Q I h
  refine wpAny_Call_method_late hbase hfew hline rfl (thn (ho pins s σ H _ I h) fun v s1 ⟨x, H1, I1, r1, ty, q1⟩ => ?_)
  obtain ⟨h1, h2⟩ := tyV_is I1 r1 ty
  refine ⟨T, id, pa, slot, hty, h1, h2, ?_⟩
  have hA := ha cpos pins s1 σ H1 _ I1 q1
  rw [hs] at hA ⊢
  refine Calls.callWith_builtin (by show (false || (backTo cpos (starEach es X.env)).any (·.1)) = false; rw [hplain] <;> rfl) (Calls.evalArgs_plain ?_)
  exact thn hA fun us s2 ⟨vs, H2, I2, r2, q2⟩ => hm pins s2 σ H2 x vs v us Q I2 r1 r2 q2
end
end L2
namespace L2
open PySem PySem.Spec PyProof.Rows
def MtM (X : Cx) (id : String) (r : V → List V → Hp → VK → Prop) : Prop :=
  ∀ (pins : List (Addr × Obj)) (s : Shared) (σ : St) (H : Hp) (x : V) (xs : List V) (v : Value) (us : List Value) (Q : VK), Inv X pins σ H s → RelV x v → Vals xs us → r x xs H Q →
    wpAny (model X.prog X.w) X.A (call (.builtin id) (v :: us)) (EP X pins σ Q) X.xe s
theorem Vals.one : ∀ {x : V} {us : List Value}, Vals [x] us → ∃ u, us = [u] ∧ RelV x u
  | _, _, .cons r .nil => ⟨_, rfl, r⟩
theorem Vals.rep {xs : List V} {us : List Value} (h : Vals xs us) : ∀ k : Nat, Vals (List.replicate k xs).flatten (List.replicate k us).flatten
  | 0 => .nil
  | k + 1 => by
    rw [List.replicate_succ, List.replicate_succ, List.flatten_cons, List.flatten_cons]
    exact Vals.append h (Vals.rep h k)
theorem foldl_rep (its : List Value) : ∀ (k : Nat) (acc : List Value),
    List.foldl (fun x1 x2 => x1 ++ x2) acc.toArray (List.replicate k its.toArray) = (acc ++ (List.replicate k its).flatten).toArray
  | 0, acc => by simp
  | k + 1, acc => by
    have e : acc.toArray ++ its.toArray = (acc ++ its).toArray := by simp
    have e2 : (acc ++ its) ++ (List.replicate k its).flatten = acc ++ (List.replicate (k + 1) its).flatten := by
      rw [List.replicate_succ, List.flatten_cons, List.append_assoc]
    rw [← e2, ← foldl_rep its k (acc ++ its), ← e, List.replicate_succ, List.foldl_cons]
section
variable {X : Cx} {pins : List (Addr × Obj)} {σ : St} {H : Hp} {s : Shared} {l b : Addr} {xs ys zs : List V}
theorem Inv.lset {its its' : List Value} {n : Nat} {f : Array Value → Array Value} {t' : Nat} (I : Inv X pins σ H s) (hH : H l = some (.lst xs))
    (e : s.heap.get? l = some { cls := .type "list", data := .seq its.toArray n }) (hf : f its.toArray = its'.toArray) (hv : Vals ys its') (hz : ys.length ≤ sizeLine) :
    Inv X pins σ (upd H l (.lst ys)) { s with heap := s.heap.update l (Obj.mapSeq f), toks := t' } := by
  have q := PySem.IsL.update e f
  rw [hf] at q
  refine I.write (x := l) (e := l) (by rw [hH]; exact trivial) (.inl rfl) (fun b' u hb hu => (Heap.get?_update_other s.heap (Obj.mapSeq f) (Ne.symm hb)).trans hu) ⟨_, q⟩ ?_
  exact ⟨hz, its', _, hv, q⟩
theorem Inv.lnew {its : List Value} {t' : Nat} (I : Inv X pins σ H s) (hv : Vals ys its) (hz : ys.length ≤ sizeLine) :
    Inv X pins σ (upd H s.heap.objs.size (.lst ys)) { s with heap := s.heap.push { cls := .type "list", data := .seq its.toArray }, toks := t' } :=
  I.laid (fun _ _ q => Heap.get?_push_of_some _ q) (Nat.le_refl _) ⟨hz, its, 0, hv, Heap.get?_push_size _ rfl⟩
theorem Inv.fresh (I : Inv X pins σ H s) : H s.heap.objs.size = none := I.hok.fresh (Nat.le_refl _)
theorem Inv.lstM (I : Inv X pins σ H s) (hH : H l = some (.lst xs)) : xs.length ≤ sizeLine ∧ ∃ (its : List Value) (n : Nat), Vals xs its ∧ xs.length = its.length ∧ s.heap.get? l = some { cls := .type "list", data := .seq its.toArray n } := by
  obtain ⟨z, its, n, r, e⟩ := I.hok l _ hH
  exact ⟨z, its, n, r, r.length, e⟩
theorem notLongL {n : Nat} (h : n ≤ sizeLine) : Builtin.List.listTooLong n = false := by
  unfold Builtin.List.listTooLong
  exact decide_eq_false (by omega)
end
section
variable {X : Cx}
def rAppend : V → List V → Hp → VK → Prop := fun x vs H Q => ∃ l xs y, x = .ref l ∧ vs = [y] ∧ H l = some (.lst xs) ∧ xs.length < sizeLine ∧ Q .non (upd H l (.lst (xs ++ [y])))
theorem mt_append : MtM X "list.append" rAppend := by
  intro pins s σ H x vs v us Q I rx rv h
  obtain ⟨l, xs, y, rfl, rfl, hH, hz, q⟩ := h
  cases rx
  obtain ⟨u, rfl, ru⟩ := rv.one
  obtain ⟨z, its, n, r, hl, e⟩ := I.lstM hH
  refine call_meets F.slot_list_append ⟨_, e, rfl⟩ F.entry_list_append (F.args_list_append_2 _ _) (PySem.list_append l its.toArray n u (by rw [List.size_toArray]; omega)) ⟨e, ?_⟩
  refine ⟨.non, _, I.lset (its' := its ++ [u]) hH e (by simp) (r.append (.cons ru .nil)) ?_, rfl, q⟩
  rw [List.length_append, List.length_singleton]
  omega
def rExtend : V → List V → Hp → VK → Prop := fun x vs H Q => ∃ l b xs zs, x = .ref l ∧ vs = [.ref b] ∧ H l = some (.lst xs) ∧ H b = some (.lst zs) ∧ xs.length + zs.length ≤ sizeLine ∧ Q .non (upd H l (.lst (xs ++ zs)))
theorem mt_extend : MtM X "list.extend" rExtend := by
  intro pins s σ H x vs v us Q I rx rv h
  obtain ⟨l, b, xs, zs, rfl, rfl, hH, hB, hz, q⟩ := h
  cases rx
  obtain ⟨u, rfl, ru⟩ := rv.one
  cases ru
  obtain ⟨z, its, n, r, hl, e⟩ := I.lstM hH
  obtain ⟨z2, its2, n2, r2, hl2, e2⟩ := I.lstM hB
  have hsz : its.toArray.size + its2.toArray.size ≤ sizeLine := by rw [List.size_toArray, List.size_toArray]; omega
  have hlong : ¬ (!its.toArray.isEmpty && Builtin.List.listTooLong (its.toArray.size + its2.toArray.size)) = true := by
    rw [notLongL hsz, Bool.and_false]
    exact Bool.false_ne_true
  refine call_meets F.slot_list_extend ⟨_, e, rfl⟩ F.entry_list_extend (F.args_list_extend_2 _ _)
    (AutoSeq1.list_extend_list_list_0 l its.toArray n b its2.toArray n2 hlong (by rw [List.size_toArray]; omega) (by omega)) ⟨e, e2, ?_⟩
  refine ⟨.non, _, I.lset (its' := its ++ its2) hH e (by simp) (r.append r2) ?_, rfl, q⟩
  rw [List.length_append]
  omega
def rCat : R2 := fun x y H Q => ∃ l b xs zs, x = .ref l ∧ y = .ref b ∧ H l = some (.lst xs) ∧ H b = some (.lst zs) ∧ xs.length + zs.length ≤ sizeLine ∧ ∀ p, H p = none → Q (.ref p) (upd H p (.lst (xs ++ zs)))
theorem op_cat : OpR X (binaryOp .Add) rCat := by
  intro pins s σ H x y v u Q I rx ry h
  obtain ⟨l, b, xs, zs, rfl, rfl, hH, hB, hz, q⟩ := h
  cases rx
  cases ry
  obtain ⟨z, its, n, r, hl, e⟩ := I.lstM hH
  obtain ⟨z2, its2, n2, r2, hl2, e2⟩ := I.lstM hB
  refine PySem.P.add_list e e2 ?_ (by rw [List.size_toArray, List.size_toArray]; omega)
  have ea : its.toArray ++ its2.toArray = (its ++ its2).toArray := by simp
  rw [ea]
  exact ⟨.ref _, _, I.lnew (t' := s.toks) (r.append r2) (by rw [List.length_append]; omega), rfl, q _ I.fresh⟩
/-- a list times an int (a negative one is nothing) -/
def rRep : R2 := fun x y H Q => ∃ l k xs, x = .ref l ∧ y = .int k ∧ H l = some (.lst xs) ∧ -(2 ^ 63) ≤ k ∧ k < 2 ^ 63 ∧ xs.length * k.toNat ≤ sizeLine ∧
  ∀ p, H p = none → Q (.ref p) (upd H p (.lst (List.replicate k.toNat xs).flatten))
theorem len_rep {α : Type} (xs : List α) (k : Nat) : (List.replicate k xs).flatten.length = k * xs.length := by
  induction k with
  | zero => simp
  | succ k ih => rw [List.replicate_succ, List.flatten_cons, List.length_append, ih, Nat.succ_mul, Nat.add_comm]
theorem op_rep : OpR X (binaryOp .Mult) rRep := by
  intro pins s σ H x y v u Q I rx ry h
  obtain ⟨l, k, xs, rfl, rfl, hH, h1, h2, hz, q⟩ := h
  cases rx
  obtain ⟨t, rfl⟩ := ry
  obtain ⟨z, its, n, r, hl, e⟩ := I.lstM hH
  have hlen : its.toArray.size * k.toNat ≤ sizeLine := by rw [List.size_toArray, ← hl]; exact hz
  have hcap : ¬ its.toArray.size * k.toNat > (2 ^ 63 - 1) / 8 := by
    have : (sizeLine : Nat) ≤ (2 ^ 63 - 1) / 8 := by decide
    omega
  have hfit : ¬ (!Builtin.List.listFitsIndex k) = true := by
    rw [fitsIndex_both h1 h2]
    exact Bool.false_ne_true
  have hlong : ¬ Builtin.List.listTooLong (its.toArray.size * k.toNat) = true := by
    rw [notLongL hlen]
    exact Bool.false_ne_true
  have hnew : List.foldl (fun x1 x2 => x1 ++ x2) #[] (List.replicate (if its.toArray.isEmpty = true then 0 else k.toNat) its.toArray) = (List.replicate k.toNat its).flatten.toArray := by
    have f0 : ∀ m : Nat, List.foldl (fun x1 x2 => x1 ++ x2) #[] (List.replicate m its.toArray) = (List.replicate m its).flatten.toArray := fun m => by
      have := foldl_rep its m []
      rw [List.nil_append] at this
      exact this
    rw [f0]
    cases its with
    | nil => simp
    | cons a r' => rw [if_neg (by simp)]
  refine wpAny_binaryOp_repeat_ref (T := "list") (U := "int") (by decide) ⟨_, e, rfl⟩ (fun s' => typeIs_int s' k t) noFill_list_mul F.fills_int_mul F.slot_int_rmul repeat_list F.slot_int_index.lookup
    (call_meets F.slot_int_rmul (typeIs_int s k t) F.entry_int_rmul (F.args_int_rmul_2 _ _) (int___rmul___int_list k t l its.toArray n)
      ⟨e, rfl, ⟨_, e, rfl⟩, call_meets F.slot_list_mul ⟨_, e, rfl⟩ F.entry_list_mul (F.args_list_mul_2 _ _) (AutoListH.list___mul___list_int_3 l its.toArray n k t hfit hcap hlong) ⟨e, ?_⟩⟩)
  rw [hnew]
  exact ⟨.ref _, _, I.lnew (t' := s.toks) (r.rep k.toNat) (by rw [len_rep, Nat.mul_comm]; exact hz), rfl, q _ I.fresh⟩
end
section
variable {prog : Program} {w : World} {A : Around} {E : Value → Shared → Prop} {s : Shared}
set_option maxRecDepth 100000 in
end
section
variable {X : Cx}
end
end L2
namespace L2
open PySem PySem.Spec PyProof.Rows
theorem Vals.bls : ∀ {bs : List Bool} {us : List Value}, Vals (bs.map V.bl) us → us = bs.map Value.bool
  | [], us, h => by
    rw [List.map_nil] at h
    cases h
    rfl
  | b :: bs, us, h => by
    rw [List.map_cons] at h
    cases h with
    | cons r t =>
      cases r
      rw [Vals.bls t, List.map_cons]
theorem Vals.ref1 {a : Addr} {us : List Value} (r : Vals [V.ref a] us) : us = [Value.ref a] := by
  cases r with
  | cons r t =>
    cases t
    cases r
    rfl
section
variable {prog : Program} {w : World} {A : Around} {E : Value → Shared → Prop} {s : Shared} {l : Addr} {its : List Value} {ns : List Int} {Q : Value → Shared → Prop}
end
section
variable {X : Cx}
end
section
variable {X : Cx}
end
section
variable {X : Cx}
end
theorem iter_any {prog : Program} {w : World} {A : Around} {E : Value → Shared → Prop} {s : Shared} {l : Addr} {items : Array Value} {Q : Value → Shared → Prop} (hl : s.heap.IsList l items)
    (h : ∀ s₂ : Shared, s₂ = { s with heap := s.heap.push { cls := .type "list_iterator", data := .fields #[.ref l, .int 0 0] } } →
      (s₂.heap.IsListIter s.heap.objs.size l 0 ∧ s₂.heap.IsList l items) → l ≠ s.heap.objs.size → Q (.ref s.heap.objs.size) s₂) : wpAny (model prog w) A (pyIter (.ref l)) Q E s := by
  have hlt : l < s.heap.objs.size := by obtain ⟨_, e, _⟩ := hl; exact Heap.lt_size e
  exact wpAny_pyIter_list hl (h _ rfl ⟨⟨_, Heap.get?_push_size _ rfl, rfl, rfl⟩, hl.push _⟩ (Nat.ne_of_lt hlt))
theorem truth_bools {prog : Program} {w : World} {A : Around} {bs : List Bool} {its : List Value} (e : its = bs.map Value.bool) :
    TruthOf prog w A (fun i v => its.toArray[i]? = some v) (fun i => bs.getD i false) := fun i v s Q E hv hq => by
  have hv' : its[i]? = some v := by simpa using hv
  rw [e, List.getElem?_map] at hv'
  obtain ⟨b, hb, rfl⟩ := Option.map_eq_some_iff.mp hv'
  have hg : bs.getD i false = b := by rw [List.getD_eq_getElem?_getD, hb] <;> rfl
  have hq' : Q (bs.getD i false) s := hq
  rw [hg] at hq'
  exact wpAny_truthy_bool hq'
theorem all_range : ∀ bs : List Bool, (List.range bs.length).all (fun i => bs.getD i false) = bs.all id
  | [] => rfl
  | b :: bs => by
    rw [List.length_cons, List.range_succ_eq_map, List.all_cons, List.all_map, List.all_cons, ← all_range bs]
    all_goals rfl
section
variable {X : Cx}
def rAll (K : PySem.W.Frag) : List V → Hp → VK → Prop := fun vs H Q => ∃ (a : Addr) (bs : List Bool), vs = [V.ref a] ∧ SqL K H a (bs.map V.bl) ∧ Q (.bl (bs.all id)) H
theorem cr_all (hc : X.calm = true) : CallR X (.builtin "all") (rAll X.K) := by
  intro pins s σ H vs us Q I r h
  obtain ⟨a, bs, rfl, hs, q⟩ := h
  obtain ⟨its, rv, hl, _⟩ := I.list hs
  rw [Vals.ref1 r]
  have hb := rv.bls
  refine call_all_walk (iter_any hl.isList fun s₂ e2 st hne => ?_)
  subst e2
  refine ⟨_, _, _, _, _, _, _, rfl, Walks.list (A := X.A.in1) (I.ok.hd hc) _ a hne its.toArray, st, truth_bools hb, fun h' tk hk => ?_⟩
  refine ⟨.bl _, H, I.kept fun b o eo => hk b o (fun hmem => ?_) (Heap.get?_push_of_some _ eo), ?_, q⟩
  · rcases List.mem_cons.mp hmem with e1 | hmem
    · exact absurd (e1 ▸ Heap.lt_size eo) (Nat.lt_irrefl _)
    · cases hmem
  · show Value.bool _ = Value.bool _
    rw [← all_range, hb, List.size_toArray, List.length_map]
end
mutual
inductive Dp (K : PySem.W.Frag) (H : Hp) : V → PyData → Prop
  | non : Dp K H .non .none
  | bl (b : Bool) : Dp K H (.bl b) (.bool b)
  | int (i : Int) : Dp K H (.int i) (.int i)
  | str (x : Str) : Dp K H (.str x) (.str x)
  | lst {a : Addr} {xs : List V} {ds : List PyData} : SqL K H a xs → DpAll K H xs ds → Dp K H (.ref a) (.list ds)
  | tup {a : Addr} {xs : List V} {ds : List PyData} : SqT K H a xs → DpAll K H xs ds → Dp K H (.ref a) (.tuple ds)
inductive DpAll (K : PySem.W.Frag) (H : Hp) : List V → List PyData → Prop
  | nil : DpAll K H [] []
  | cons {v : V} {vs : List V} {d : PyData} {ds : List PyData} : Dp K H v d → DpAll K H vs ds → DpAll K H (v :: vs) (d :: ds)
end
section
variable {X : Cx} {pins : List (Addr × Obj)} {σ : St} {H : Hp} {s : Shared}
mutual
theorem Dp.reads (I : Inv X pins σ H s) : ∀ (d : PyData) (v : V) (u : Value), Dp X.K H v d → RelV v u → ∃ as, Reads s.heap u d as
  | .none, _, _, h, r => by
    cases h
    cases r
    exact ⟨_, Reads.none⟩
  | .bool b, _, _, h, r => by
    cases h
    cases r
    exact ⟨_, Reads.bool b⟩
  | .int i, _, _, h, r => by
    cases h
    obtain ⟨t, rfl⟩ := r
    exact ⟨_, Reads.int i t⟩
  | .str x, _, _, h, r => by
    cases h
    obtain ⟨t, rfl⟩ := r
    exact ⟨_, Reads.str x t⟩
  | .list ds, _, _, h, r => by
    cases h with
    | lst hs ha =>
      cases r
      obtain ⟨its, rv, ⟨o, n, ho, hc, _, hd⟩, _⟩ := I.list hs
      obtain ⟨as, hr⟩ := Dp.readsAll I ds _ its ha rv
      exact ⟨_, Reads.list ho hc hd hr⟩
  | .tuple ds, _, _, h, r => by
    cases h with
    | tup hs ha =>
      cases r
      obtain ⟨its, rv, ⟨o, ho, hc, n, hd⟩, _⟩ := I.tuple hs
      obtain ⟨as, hr⟩ := Dp.readsAll I ds _ its ha rv
      exact ⟨_, Reads.tuple ho hc hd hr⟩
  | .dict _, _, _, h, _ => by cases h
theorem Dp.readsAll (I : Inv X pins σ H s) : ∀ (ds : List PyData) (vs : List V) (us : List Value), DpAll X.K H vs ds → Vals vs us → ∃ as, ReadsAll s.heap us ds as
  | [], _, _, h, r => by
    cases h
    cases r
    exact ⟨_, ReadsAll.nil⟩
  | d :: ds, _, _, h, r => by
    cases h with
    | cons h1 h2 =>
      cases r with
      | cons r1 r2 =>
        obtain ⟨as, q1⟩ := Dp.reads I d _ _ h1 r1
        obtain ⟨bs, q2⟩ := Dp.readsAll I ds _ _ h2 r2
        exact ⟨_, ReadsAll.cons q1 q2⟩
end
end
section
variable {X : Cx}
end
end L2
namespace L2
open PySem PySem.Spec PyProof.Rows
abbrev CellAt (h : Heap) (c : Addr) (v : Option Value) : Prop := h.IsCell c v
def relS (scope sc : Scope) : Scope :=
  { scope with names := scope.names.map fun (n, k) => if (k == .free && sc.kind == .function && sc.names.lookup n == some .cell) then (n, .cell) else (n, k) }
def cloFrom (cells : List (Str × Addr)) : List (Str × NameKind) → List (Str × Addr) → List (Str × Addr)
  | [], acc => acc
  | (n, k) :: r, acc => if k == .free then cloFrom cells r ((n, (cells.lookup n).getD 0) :: acc) else cloFrom cells r acc
theorem closure_loop (env : Env) (f : Str × NameKind → List (Str × Addr) → Sem (ForInStep (List (Str × Addr))))
    (hf : ∀ n k c, f (n, k) c = if k == .free then (do let a ← cellOf env n; pure (.yield ((n, a) :: c))) else pure (.yield c)) :
    ∀ (names : List (Str × NameKind)) (acc : List (Str × Addr)), (∀ y ∈ names, y.2 = .free → ∃ c, env.cells.lookup y.1 = some c) → forIn names acc f = pure (cloFrom env.cells names acc)
  | [], acc, _ => by rw [List.forIn_nil]; rfl
  | (n, k) :: r, acc, h => by
    rw [List.forIn_cons, hf]
    have ih := fun acc => closure_loop env f hf r acc fun y hy => h y (List.mem_cons_of_mem _ hy)
    unfold cloFrom
    by_cases hk : (k == NameKind.free) = true
    · rw [if_pos hk, if_pos hk]
      obtain ⟨c, hc⟩ := h (n, k) List.mem_cons_self (by simpa using hk)
      have e : cellOf env n = pure c := by unfold cellOf; rw [hc]
      rw [e]
      have e2 : (env.cells.lookup n).getD 0 = c := by rw [hc]; rfl
      rw [e2]
      exact ih _
    · rw [if_neg hk, if_neg hk]
      exact ih _
theorem closure_ok {scope : Scope} {env : Env} (h : ∀ y ∈ scope.names, y.2 = .free → ∃ c, env.cells.lookup y.1 = some c) : closureFor scope env = pure (cloFrom env.cells scope.names []) := by
  simp only [closureFor]
  rw [closure_loop env _ (fun n k c => rfl) scope.names [] h]
  rfl
theorem mem_lookup {α : Type} : ∀ {l : List (Str × α)} {n : Str} {c : α}, (n, c) ∈ l → ∃ c', l.lookup n = some c'
  | (k, v) :: r, n, c, h => by
    rw [List.lookup_cons]
    cases hb : n == k with
    | true => exact ⟨_, rfl⟩
    | false =>
      rcases List.mem_cons.mp h with e | h
      · cases e; simp at hb
      · exact mem_lookup h
theorem cloFrom_mem {cells : List (Str × Addr)} : ∀ {names : List (Str × NameKind)} {acc : List (Str × Addr)} {n : Str} {c : Addr}, (n, c) ∈ cloFrom cells names acc → (n, c) ∈ acc ∨ ((n, .free) ∈ names ∧ c = (cells.lookup n).getD 0)
  | [], _, _, _, h => .inl h
  | (m, k) :: r, acc, n, c, h => by
    unfold cloFrom at h
    split at h
    · rename_i hk
      have hk : k = .free := by simpa using hk
      rcases cloFrom_mem h with h | ⟨h1, h2⟩
      · rcases List.mem_cons.mp h with e | h
        · cases e; exact .inr ⟨hk ▸ List.mem_cons_self, rfl⟩
        · exact .inl h
      · exact .inr ⟨List.mem_cons_of_mem _ h1, h2⟩
    · rcases cloFrom_mem h with h | ⟨h1, h2⟩
      · exact .inl h
      · exact .inr ⟨List.mem_cons_of_mem _ h1, h2⟩
theorem cloFrom_acc {cells : List (Str × Addr)} : ∀ {names : List (Str × NameKind)} {acc : List (Str × Addr)} {p : Str × Addr}, p ∈ acc → p ∈ cloFrom cells names acc
  | [], _, _, h => h
  | (m, k) :: r, acc, p, h => by
    unfold cloFrom
    split
    · exact cloFrom_acc (List.mem_cons_of_mem _ h)
    · exact cloFrom_acc h
theorem cloFrom_has {cells : List (Str × Addr)} : ∀ {names : List (Str × NameKind)} {acc : List (Str × Addr)} {n : Str}, (n, .free) ∈ names → (n, (cells.lookup n).getD 0) ∈ cloFrom cells names acc
  | (m, k) :: r, acc, n, h => by
    unfold cloFrom
    rcases List.mem_cons.mp h with e | h
    · cases e
      exact cloFrom_acc List.mem_cons_self
    · split
      · exact cloFrom_has h
      · exact cloFrom_has h
theorem cells_mem : ∀ {names : List (Str × NameKind)} {h : Heap} {acc : List (Str × Addr)} {x : Str} {c : Addr}, (x, c) ∈ cellsFrom h.objs.size names acc →
    (x, c) ∈ acc ∨ ((x, .cell) ∈ names ∧ h.objs.size ≤ c ∧ CellAt (pushCells h names) c none)
  | [], _, _, _, _, h => .inl h
  | (n, k) :: r, h, acc, x, c, hm => by
    unfold cellsFrom at hm
    unfold pushCells
    split at hm
    · rename_i hk
      rw [if_pos hk]
      have hk : k = .cell := by simpa using hk
      rw [← Heap.size_push h { cls := .type "cell", data := .cell none }] at hm
      rcases cells_mem hm with hm | ⟨h1, h2, h3⟩
      · rcases List.mem_cons.mp hm with e | hm
        · cases e
          exact .inr ⟨hk ▸ List.mem_cons_self, Nat.le_refl _, _, pushCells_keeps r _ _ _ (Heap.get?_push_size _ rfl), rfl⟩
        · exact .inl hm
      · rw [Heap.size_push] at h2
        exact .inr ⟨List.mem_cons_of_mem _ h1, Nat.le_of_succ_le h2, h3⟩
    · rename_i hk
      rw [if_neg hk]
      rcases cells_mem hm with hm | ⟨h1, h2, h3⟩
      · exact .inl hm
      · exact .inr ⟨List.mem_cons_of_mem _ h1, h2, h3⟩
theorem cells_acc : ∀ {names : List (Str × NameKind)} {n : Nat} {acc : List (Str × Addr)} {p : Str × Addr}, p ∈ acc → p ∈ cellsFrom n names acc
  | [], _, _, _, h => h
  | (m, k) :: r, n, acc, p, h => by
    unfold cellsFrom
    split
    · exact cells_acc (List.mem_cons_of_mem _ h)
    · exact cells_acc h
theorem cells_has : ∀ {names : List (Str × NameKind)} {n : Nat} {acc : List (Str × Addr)} {x : Str}, (x, .cell) ∈ names → ∃ c, (x, c) ∈ cellsFrom n names acc
  | (m, k) :: r, n, acc, x, h => by
    unfold cellsFrom
    rcases List.mem_cons.mp h with e | h
    · cases e
      exact ⟨n, cells_acc List.mem_cons_self⟩
    · split
      · exact cells_has h
      · exact cells_has h
theorem cells_inj : ∀ {names : List (Str × NameKind)} {h : Heap} {acc : List (Str × Addr)} {x y : Str} {c : Addr}, (∀ p ∈ acc, p.2 < h.objs.size) → (∀ x y c, (x, c) ∈ acc → (y, c) ∈ acc → x = y) →
    (x, c) ∈ cellsFrom h.objs.size names acc → (y, c) ∈ cellsFrom h.objs.size names acc → x = y
  | [], _, _, _, _, _, _, hi, h1, h2 => hi _ _ _ h1 h2
  | (n, k) :: r, h, acc, x, y, c, hl, hi, h1, h2 => by
    unfold cellsFrom at h1 h2
    split at h1
    · rename_i hk
      rw [if_pos hk] at h2
      rw [← Heap.size_push h { cls := .type "cell", data := .cell none }] at h1 h2
      refine cells_inj (h := h.push _) (fun p hp => ?_) (fun x y c a b => ?_) h1 h2
      · rw [Heap.size_push]
        rcases List.mem_cons.mp hp with rfl | hp
        · exact Nat.lt_succ_self _
        · exact Nat.lt_succ_of_lt (hl p hp)
      · rcases List.mem_cons.mp a with e | a <;> rcases List.mem_cons.mp b with e' | b
        · cases e; cases e'; rfl
        · cases e; exact absurd (hl _ b) (Nat.lt_irrefl _)
        · cases e'; exact absurd (hl _ a) (Nat.lt_irrefl _)
        · exact hi _ _ _ a b
    · rename_i hk
      rw [if_neg hk] at h2
      exact cells_inj hl hi h1 h2
theorem newEnv_comp {M : Model} {A : Around} {E : Value → Shared → Prop} {s : Shared} {scope : Scope} {globals : Addr} {closure : List (Str × Addr)} {qual : Str} {func : Option Addr} {code : Value} {around : Env} {builtins : Addr} {Q : Env → Shared → Prop}
    (h : Q (newEnv scope s.heap.objs.size globals (cellsFrom (s.heap.objs.size + 1) scope.names closure) qual func code (some around) builtins)
      { s with heap := pushCells (s.heap.push { cls := .type "dict", data := .dict #[] }) scope.names }) :
    wpAny M A (newFunctionEnv scope globals closure [] qual func code (some around) builtins) Q E s := by
  simp only [newFunctionEnv, Option.isSome_some, if_true]
  refine wpAny_bind (wpAny_alloc ?_)
  refine wpAny_bind (wpAny_layCells _ (fun n k c => rfl) scope.names closure _ _ ?_)
  rw [show ({ s with heap := s.heap.push { cls := .type "dict", data := .dict #[] } } : Shared).heap.objs.size = s.heap.objs.size + 1 from Heap.size_push ..]
  rw [List.forIn_nil]
  exact wpAny_bind (wpAny_pure (wpAny_pure h))
theorem lookup_relS {sc : Scope} : ∀ {names : List (Str × NameKind)} {x : Str} {k : NameKind},
    (names.map fun (n, k) => if (k == NameKind.free && sc.kind == .function && sc.names.lookup n == some .cell) then (n, NameKind.cell) else (n, k)).lookup x = some k →
    ∃ k', names.lookup x = some k' ∧ (k = k' ∨ (k' = .free ∧ k = .cell))
  | [], _, _, h => by simp at h
  | (n, k₀) :: r, x, k, h => by
    have ih := @lookup_relS sc r x k
    have h' : List.lookup x ((if (k₀ == NameKind.free && sc.kind == .function && sc.names.lookup n == some .cell) = true then (n, NameKind.cell) else (n, k₀)) :: (r.map _)) = some k := h
    cases hx : x == n with
    | true =>
      simp only [List.lookup_cons, hx]
      by_cases hc : (k₀ == NameKind.free && sc.kind == .function && sc.names.lookup n == some .cell) = true
      · rw [if_pos hc] at h'
        simp only [List.lookup_cons, hx] at h'
        cases h'
        simp only [Bool.and_eq_true, beq_iff_eq] at hc
        exact ⟨k₀, rfl, .inr ⟨hc.1.1, rfl⟩⟩
      · rw [if_neg hc] at h'
        simp only [List.lookup_cons, hx] at h'
        cases h'
        exact ⟨_, rfl, .inl rfl⟩
    | false =>
      simp only [List.lookup_cons, hx]
      by_cases hc : (k₀ == NameKind.free && sc.kind == .function && sc.names.lookup n == some .cell) = true
      · rw [if_pos hc] at h'
        simp only [List.lookup_cons, hx] at h'
        exact ih h'
      · rw [if_neg hc] at h'
        simp only [List.lookup_cons, hx] at h'
        exact ih h'
/-- the names of a comprehension's block: its own (with their places in N), or captured -/
structure BlkOk (N : List Str) (sc scope : Scope) (own : List (Str × Nat)) : Prop where
  kind : scope.kind = .function
  uniq : ∀ y ∈ scope.names, scope.names.lookup y.1 = some y.2
  ix : ∀ p ∈ own, N[p.2]? = some p.1
  free : ∀ y ∈ scope.names, y.2 = .free → sc.names.lookup y.1 = some .cell ∨ sc.names.lookup y.1 = some .free
  own : ∀ y ∈ scope.names, y.2 = .local ∨ y.2 = .cell → y.1 ∈ own.map (·.1) ∨ y.1 ∉ N
/-- the slots of the block's own names forgotten -/
def wipe (σ : St) : List Nat → St
  | [] => σ
  | v :: vs => (wipe σ vs).set v none
theorem wipe_length (σ : St) : ∀ vs : List Nat, (wipe σ vs).length = σ.length
  | [] => rfl
  | v :: vs => by unfold wipe; rw [List.length_set, wipe_length σ vs]
theorem wipe_some {σ : St} {i : Nat} {x : V} : ∀ {vs : List Nat}, (wipe σ vs)[i]? = some (some x) → σ[i]? = some (some x) ∧ i ∉ vs
  | [], h => ⟨h, by simp⟩
  | v :: vs, h => by
    unfold wipe at h
    by_cases hi : v = i
    · subst hi
      by_cases hv : v < (wipe σ vs).length
      · rw [List.getElem?_set_self hv] at h; cases h
      · rw [List.getElem?_eq_none (by simpa using hv)] at h; cases h
    · rw [List.getElem?_set_ne hi] at h
      obtain ⟨h1, h2⟩ := wipe_some h
      exact ⟨h1, by simp only [List.mem_cons, not_or]; exact ⟨fun e => hi e.symm, h2⟩⟩
/-- the context of a block that starts at s, its iterator's objects at fp -/
abbrev Cx.blk (X : Cx) (s : Shared) (H : Hp) (scope : Scope) (cenv : Env) (fp : List Addr) : Cx := { X with s_0 := s, H_0 := H, env := cenv, outer := X.stack, ex := fp, fn := fun x => scope.names.lookup x == some .cell, pn := [], xe := fun _ _ => False }
section
variable {X : Cx} {pins : List (Addr × Obj)} {σ : St} {H : Hp} {s : Shared}
theorem block_start {scope : Scope} {own : List (Str × Nat)} {fp : List Addr} (I : Inv X pins σ H s) (ok : BlkOk X.N X.env.scope scope own) (hN : X.N.Nodup) (hfp : ∀ b ∈ fp, FpOk X pins H b ∧ b < s.heap.objs.size) :
    Inv (X.blk s H scope (compEnvC scope (cellsFrom (s.heap.objs.size + 1) scope.names (cloFrom X.env.cells scope.names [])) s.heap.objs.size X.env) fp) [] (wipe σ (own.map (·.2))) H { s with heap := pushCells (s.heap.push { cls := .type "dict", data := .dict #[] }) scope.names } := by
  have hfree : ∀ y ∈ scope.names, y.2 = .free → ∃ c, X.env.cells.lookup y.1 = some c := fun y hy e => by
    rcases ok.free y hy e with k | k
    · exact I.ok.has _ (.inl k)
    · exact I.ok.has _ (.inr k)
  generalize hcenv : compEnvC scope (cellsFrom (s.heap.objs.size + 1) scope.names (cloFrom X.env.cells scope.names [])) s.heap.objs.size X.env = cenv
  have kp : ∀ b o, s.heap.get? b = some o → (pushCells (s.heap.push { cls := .type "dict", data := .dict #[] }) scope.names).get? b = some o := fun b o e => pushCells_keeps _ _ _ _ (Heap.get?_push_of_some _ e)
  have hL : cenv.locals = s.heap.objs.size := by rw [← hcenv]; rfl
  have hcl : cenv.cells = cellsFrom (s.heap.objs.size + 1) scope.names (cloFrom X.env.cells scope.names []) := by rw [← hcenv]; rfl
  have hsc : cenv.scope = relS scope X.env.scope := by rw [← hcenv]; rfl
  rw [← Heap.size_push s.heap { cls := .type "dict", data := .dict #[] }] at hcl
  have cm : ∀ {y c}, (y, c) ∈ cloFrom X.env.cells scope.names [] → X.env.cells.lookup y = some c ∧ c < s.heap.objs.size := fun {y c} hm => by
    rcases cloFrom_mem hm with hm | ⟨h1, rfl⟩
    · cases hm
    · obtain ⟨c, hc⟩ := hfree _ h1 rfl
      rw [hc]
      obtain ⟨w, z⟩ := I.cell _ _ hc
      exact ⟨rfl, z.lt⟩
  have mem : ∀ {y c}, cenv.cells.lookup y = some c → (X.env.cells.lookup y = some c ∧ c < s.heap.objs.size) ∨ (s.heap.objs.size + 1 ≤ c ∧ CellAt (pushCells (s.heap.push { cls := .type "dict", data := .dict #[] }) scope.names) c none) := fun {y c} e => by
    rw [hcl] at e
    rcases cells_mem (PySem.mem_of_lookup e) with hm | ⟨_, h2, h3⟩
    · exact .inl (cm hm)
    · rw [Heap.size_push] at h2; exact .inr ⟨h2, h3⟩
  have look : ∀ {y}, scope.names.lookup y = some .free → ∃ c, cenv.cells.lookup y = some c ∧ X.env.cells.lookup y = some c := fun {y} hl => by
    have hy : (y, NameKind.free) ∈ scope.names := PySem.mem_of_lookup hl
    obtain ⟨c', e'⟩ := mem_lookup (cells_acc (names := scope.names) (n := (s.heap.push { cls := .type "dict", data := .dict #[] }).objs.size) (cloFrom_has (cells := X.env.cells) (acc := []) hy))
    rw [← hcl] at e'
    refine ⟨c', e', ?_⟩
    rw [hcl] at e'
    rcases cells_mem (PySem.mem_of_lookup e') with hm | ⟨h1, _, _⟩
    · exact (cm hm).1
    · have := ok.uniq _ h1
      rw [hl] at this; cases this
  have okB : (X.blk s H scope cenv fp).Ok := by
    refine ⟨I.ok.mod, by show cenv.scope.kind = _; rw [hsc]; exact ok.kind, by show cenv.globals = _; rw [← hcenv]; exact I.ok.glob, by show cenv.builtins = _; rw [← hcenv]; exact I.ok.blt, by show s.heap.objs.size ≤ cenv.locals; rw [hL]; exact Nat.le_refl _,
      fun y z c e1 e2 => ?_, fun y hy => ?_, fun y c z e => ?_, I.ok.hd, I.ok.frames, .inl rfl, fun b hb => ⟨?_, fun y c e z => ?_⟩, I.bs, Nat.le_trans I.ok.bsz I.sz, fun b o e hb => ?_, fun b hb z => ?_, I.stack, I.stkFree⟩
    · have e1 : cenv.cells.lookup y = some c := e1
      have e2 : cenv.cells.lookup z = some c := e2
      rw [hcl] at e1 e2
      refine cells_inj (fun p hp => ?_) (fun y z c a b => I.ok.inj y z c (cm a).1 (cm b).1) (PySem.mem_of_lookup e1) (PySem.mem_of_lookup e2)
      rw [Heap.size_push]
      exact Nat.lt_succ_of_lt (cm (y := p.1) (c := p.2) hp).2
    · show ∃ c, cenv.cells.lookup y = some c
      have key : ∀ k, cenv.kindOf y = some k → (k = .cell ∨ k = .free) → ∃ c, cenv.cells.lookup y = some c := fun k hk hk' => by
        unfold Env.kindOf at hk
        rw [hsc] at hk
        obtain ⟨k', e, r⟩ := lookup_relS hk
        have : k' = .cell ∨ k' = .free := by
          rcases r with rfl | ⟨rfl, _⟩
          · exact hk'
          · exact .inr rfl
        rcases this with rfl | rfl
        · obtain ⟨c, hm⟩ := cells_has (n := (s.heap.push { cls := .type "dict", data := .dict #[] }).objs.size) (acc := cloFrom X.env.cells scope.names []) (PySem.mem_of_lookup e)
          obtain ⟨c', e'⟩ := mem_lookup hm
          exact ⟨c', by rw [hcl]; exact e'⟩
        · obtain ⟨c, h1, _⟩ := look e
          exact ⟨c, h1⟩
      rcases hy with hy | hy
      · exact key _ hy (.inl rfl)
      · exact key _ hy (.inr rfl)
    · have z : (scope.names.lookup y == some NameKind.cell) = true := z
      have z : scope.names.lookup y = some .cell := by simpa using z
      have e : cenv.cells.lookup y = some c := e
      rw [hcl] at e
      rcases cells_mem (PySem.mem_of_lookup e) with hm | ⟨_, h2, _⟩
      · rcases cloFrom_mem hm with hm | ⟨h1, _⟩
        · cases hm
        · have q := ok.uniq _ h1
          rw [z] at q; cases q
      · rw [Heap.size_push] at h2
        exact Nat.le_of_succ_le h2
    · show b ≠ cenv.locals
      rw [hL]; exact Nat.ne_of_lt (hfp b hb).2
    · have e : cenv.cells.lookup y = some c := e
      rcases mem e with ⟨h1, _⟩ | ⟨h1, _⟩
      · exact (hfp b hb).1.2.2.2.2.1 y c h1 z
      · have h2 : s.heap.objs.size + 1 ≤ b := by rw [← z]; exact h1
        exact absurd (Nat.lt_of_lt_of_le (hfp b hb).2 (Nat.le_of_succ_le h2)) (Nat.lt_irrefl _)
    · rcases (hfp b hb).1.2.2.2.1 with z | z
      · exact I.ok.noex b o e z
      · exact absurd (Nat.lt_of_lt_of_le (Heap.lt_size e) (Nat.le_trans I.ok.bsz z)) (Nat.lt_irrefl _)
    · rcases List.mem_cons.mp (I.stkSub b z) with z | z
      · exact (hfp b hb).1.2.1 z
      · exact (hfp b hb).1.2.2.1 z
  refine ⟨okB, rfl, I.bare, Un.kept kp, ⟨fun _ => none, ?_, fun i y av e1 e2 e3 => ?_⟩, fun y c e => ?_, ?_, fun y c e => ?_, fun p hp => ?_, I.hok.kept kp, by rw [wipe_length]; exact I.len⟩
  · show Heap.Ns _ cenv.locals _
    rw [hL]
    exact Heap.Ns.keeps (Heap.Ns.new ..) fun b o e => pushCells_keeps _ _ _ _ e
  · obtain ⟨e2, hne⟩ := wipe_some e2
    have hfr : scope.names.lookup y = some .free ∧ (cenv.kindOf y = some .cell ∨ cenv.kindOf y = some .free) := by
      have key : ∀ k, cenv.scope.names.lookup y = some k → k = .local ∨ k = .cell ∨ k = .free → scope.names.lookup y = some .free ∧ (cenv.kindOf y = some .cell ∨ cenv.kindOf y = some .free) := fun k hk hk' => by
        have hk0 := hk
        rw [hsc] at hk
        obtain ⟨k', e, r⟩ := lookup_relS hk
        have no : ¬ (k' = .local ∨ k' = .cell) := fun hh => by
          rcases ok.own _ (PySem.mem_of_lookup e) hh with e' | e'
          · obtain ⟨p, hp, hpy⟩ := List.mem_map.mp e'
            have e3 := ok.ix p hp
            have : p.1 = y := hpy
            rw [this] at e3
            exact hne (List.mem_map.mpr ⟨p, hp, nodup_ix hN e3 e1⟩)
          · exact e' (List.mem_of_getElem? e1)
        rcases r with rfl | ⟨rfl, rfl⟩
        · rcases hk' with rfl | rfl | rfl
          · exact absurd (.inl rfl) no
          · exact absurd (.inr rfl) no
          · exact ⟨e, .inr hk0⟩
        · exact ⟨e, .inl hk0⟩
      have e3 : Vis cenv.scope y := e3
      rcases e3 with e3 | e3 | e3
      · exact key _ e3 (.inl rfl)
      · exact key _ e3 (.inr (.inl rfl))
      · exact key _ e3 (.inr (.inr rfl))
    obtain ⟨m, hn, hl⟩ := I.loc
    have hvis : Vis X.env.scope y := (ok.free _ (PySem.mem_of_lookup hfr.1) rfl).elim (fun k => .inr (.inl k)) (fun k => .inr (.inr k))
    obtain ⟨w, r, q⟩ := hl i y av e1 e2 hvis
    refine ⟨w, r, .inr ⟨hfr.2, ?_⟩⟩
    obtain ⟨c, h1, h2⟩ := look hfr.1
    rcases q with ⟨k, _⟩ | ⟨_, c', e', z⟩
    · have k : X.env.scope.names.lookup y = some .local := k
      rcases ok.free _ (PySem.mem_of_lookup hfr.1) rfl with k' | k' <;> rw [show X.env.scope.names.lookup y = _ from k'] at k <;> cases k
    · rw [h2] at e'; cases e'
      exact ⟨c, h1, z.keeps kp⟩
  · have e : cenv.cells.lookup y = some c := e
    rcases mem e with ⟨h1, _⟩ | ⟨_, z⟩
    · obtain ⟨w, z⟩ := I.cell y c h1
      exact ⟨w, z.keeps kp⟩
    · exact ⟨_, z⟩
  · show H cenv.locals = none
    rw [hL]; exact I.hok.fresh (Nat.le_refl _)
  · have e : cenv.cells.lookup y = some c := e
    rcases mem e with ⟨h1, _⟩ | ⟨h1, _⟩
    · exact I.freeC y c h1
    · exact I.hok.fresh (Nat.le_of_succ_le h1)
  · exact absurd (show p ∈ ([] : List (Addr × Obj)) ++ [] from hp) (by simp)
theorem app_ok {E : Value → Shared → Prop} {D : Addr} {xs : List V} {y : V} {v : Value} {Q : Value → Shared → Prop} (I : Inv X pins σ H s) (hD : H D = some (.lst xs)) (hz : xs.length < sizeLine) (r : RelV y v)
    (h : ∀ s', Inv X pins σ (upd H D (.lst (xs ++ [y]))) s' → Q .none s') : wpAny (model X.prog X.w) X.A (call (.builtin "list.append") [.ref D, v]) Q E s := by
  obtain ⟨hz', its, n, ri, e⟩ := I.hok D _ hD
  have hl := ri.length
  refine append_at (hsz := by rw [List.size_toArray]; omega) e fun h' sb ho' => ?_
  refine h { s with heap := h' } (I.write (t' := s.toks) (by rw [hD]; trivial) (.inl rfl) (fun b u hb q => (sb.2 b hb).trans q) ⟨_, ho'⟩ ⟨by rw [List.length_append]; exact hz, its ++ [v], n + 1, ri.append (.cons r .nil), ?_⟩)
  rw [ho']
  simp
/-- a clause's tests -/
def PTs (X : Cx) (ifs : List Expr) (t : TT) : Prop :=
  ∀ (pins : List (Addr × Obj)) (s : Shared) (σ : St) (H : Hp) (Q : Bool → Hp → Prop), Inv X pins σ H s → t σ H Q →
    wpAny (model X.prog X.w) X.A (forIn ifs true fun c r => if r = true then do let ok ← isTrue c X.env (eval c X.env); pure (ForInStep.yield ok) else pure (ForInStep.yield r)) (TP X pins σ Q) X.xe s
def tYes : TT := fun _ H Q => Q true H
theorem pts_nil : PTs X [] tYes := fun _ _ _ H _ I h => wpAny_tests_nil ⟨H, I, h⟩
theorem pts_one {c : Expr} {t : TT} (h : PT X c t) : PTs X [c] t := fun pins s σ H Q I hw => wpAny_tests_one (h pins s σ H Q I hw)
end
theorem thnF {α : Type} {t : Sem α} {Q Q' : α → Shared → Prop} {M : Model} {A : Around} {E : Value → Shared → Prop} {s : Shared} (h : wpAny M A t Q (fun _ _ => False) s) (hQ : ∀ a s, Q a s → Q' a s) : wpAny M A t Q' E s := wpAny_mono h hQ fun _ _ z => False.elim z
theorem compLoop_any {prog : Program} {w : World} {A : Around} {R : Result → Shared → Prop} {s : Shared} {elt target iter : Expr} {ifs : List Expr} {scope : Scope} {pos : Pos} {it acc : Value} {env : Env} (I : Nat → Shared → Prop)
    (turn : ∀ n s, I n s → wpAny (model prog w) A (pyNext it) (fun r s₁ => match r with
      | none => R (.ok .next) s₁
      | some v => wpAny (model prog w) A (letOwnedTupleGo target it v) (fun _ s₁' => wpAny (model prog w) A (assign target env v) (fun _ s₂ =>
          wpAny (model prog w) A (forIn ifs true fun c r => if r = true then do let ok ← isTrue c env (eval c env); pure (ForInStep.yield ok) else pure (ForInStep.yield r)) (fun ok s₃ =>
            if ok = true then wpAny (model prog w) A (eval elt env) (fun x s₄ =>
              wpAny (model prog w) A (call (.builtin "list.append") [acc, x]) (fun _ s₅ => ∃ m, m < n ∧ I m s₅) (notedBy (model prog w) A env fun e s' => R (.error e) s') s₄) (notedBy (model prog w) A env fun e s' => R (.error e) s') s₃
            else ∃ m, m < n ∧ I m s₃) (notedBy (model prog w) A env fun e s' => R (.error e) s') s₂) (notedBy (model prog w) A env fun e s' => R (.error e) s') s₁') (notedBy (model prog w) A env fun e s' => R (.error e) s') s₁) (notedBy (model prog w) A env fun e s' => R (.error e) s') s)
    (n : Nat) (h : I n s) :
    codeAny (model prog w) A (.compLoop (.ListComp elt [⟨target, iter, ifs, 0⟩] scope pos) 0 it acc env) R s := by
  refine codeAny_loop rfl I (fun n s hI => ?_) n h
  show wpAny _ A ((compTurn (.ListComp elt [⟨target, iter, ifs, 0⟩] scope pos) 0 it acc env).onRaise (fun x => do noteFrame x env; theTreesLotGoes x)) _ _ s
  refine wpAny_noted ?_
  rw [compTurn_list]
  refine wpAny_bind (wpAny_standAt (wpAny_bind (wpAny_mono (turn n s hI) (fun r s₁ h₁ => ?_) fun _ _ h' => h')))
  cases r with
  | none => exact wpAny_pure h₁
  | some v =>
    refine wpAny_bind (wpAny_mono h₁ (fun _ s₁' h₁' => ?_) fun _ _ h' => h')
    refine wpAny_bind (wpAny_mono h₁' (fun _ s₂ h₂ => wpAny_bind (wpAny_mono h₂ (fun ok s₃ h₃ => ?_) fun _ _ h' => h')) fun _ _ h' => h')
    cases ok with
    | false => exact wpAny_pure ⟨rfl, h₃⟩
    | true =>
      exact wpAny_bind (wpAny_bind (wpAny_mono h₃ (fun x s₄ h₄ => wpAny_bind (wpAny_mono h₄ (fun _ s₅ h₅ => wpAny_pure (wpAny_pure ⟨rfl, h₅⟩)) fun _ _ h' => h')) fun _ _ h' => h'))
section
variable {X : Cx}
/-- [elt for target in iter if ..]: D the new list; W by the turn and a measure, Nx what a turn is to reach -/
def tLc (wi : TI) (g : TG) (tt : TT) (te : TE) (vs : List Nat) : TE := fun σ H Q => wi σ H fun J H1 => ∀ D, H1 D = none → ∃ W : Nat → Nat → Hp → Prop, (∃ m, W 0 m (upd H1 D (.lst []))) ∧ ∀ i m H, W i m H →
  (J.stop i H ∧ Q (.ref D) H) ∨ (J.go i H ∧ ∃ Nx : Hp → Prop, (∀ H', Nx H' → ∃ m', m' < m ∧ W (i + 1) m' H') ∧ ∀ x H', J.yld i H x H' → g x (wipe σ vs) H' fun σ2 H2 => wipe σ2 vs = wipe σ vs ∧ tt σ2 H2 fun b H3 =>
    if b = true then te σ2 H3 fun y H4 => ∃ acc, H4 D = some (.lst acc) ∧ acc.length < sizeLine ∧ Nx (upd H4 D (.lst (acc ++ [y]))) else Nx H3)
theorem lc_core {pins : List (Addr × Obj)} {s : Shared} {σ : St} {H : Hp} {Q : VK} {elt tg iter : Expr} {ifs : List Expr} {scope : Scope} {own : List (Str × Nat)} {pos pos' : Pos} {wi : TI} {g : TG} {tt : TT} {te : TE} {use : Option (Value → Sem Unit)} {Qf : Value → Shared → Prop}
    (hc : X.calm = true) (hN : X.N.Nodup) (I : Inv X pins σ H s) (hi : PI X tg iter wi) (ok : BlkOk X.N X.env.scope scope own)
    (hg : ∀ (s : Shared) (H : Hp) (C : Addr) (cl : List (Str × Addr)) (fp : List Addr), PG (X.blk s H scope (compEnvC scope cl C X.env) fp) tg g) (ht : ∀ (s : Shared) (H : Hp) (C : Addr) (cl : List (Str × Addr)) (fp : List Addr), PTs (X.blk s H scope (compEnvC scope cl C X.env) fp) ifs tt)
    (he : ∀ (s : Shared) (H : Hp) (C : Addr) (cl : List (Str × Addr)) (fp : List Addr), PE (X.blk s H scope (compEnvC scope cl C X.env) fp) elt te) (hs : ∀ x, foldedSetIterable iter X.env x = pure x)
    (h : tLc wi g tt te (own.map (·.2)) σ H Q)
    (hRR : ∀ D C s' m H', Inv X pins σ H' s' → Q (.ref D) H' → s'.heap.Ns C m → FpOk X pins H' C → compPost (model X.prog X.w) X.A X.xe use Qf (.ref D) C (.ok .next) s') :
    wpAny (model X.prog X.w) X.A (comprehension (.ListComp elt [⟨tg, iter, ifs, 0⟩] scope pos) scope X.env pos' (newList []) false (eval iter X.env) use) Qf X.xe s := by
  have hfree : ∀ y ∈ scope.names, y.2 = .free → ∃ c, X.env.cells.lookup y.1 = some c := fun y hy e => by
    rcases ok.free y hy e with k | k
    · exact I.ok.has _ (.inl k)
    · exact I.ok.has _ (.inr k)
  refine wpAny_comprehension_free (use := use) rfl hs (closure_ok hfree) ok.kind (fun y hy e => by rw [ok.uniq y hy, e])
    (thn (hi pins s σ H _ I h) fun xv s1 hx => thn hx fun itv s2 h2 => ?_)
  obtain ⟨it, fp, tn, J, H2, e, I2, T, st2, f2, q⟩ := h2
  subst e
  refine wpAny_newObj_type (newEnv_comp ?_) (by show 0 ≤ sizeLine; decide)
  generalize hD : s2.heap.objs.size = D
  have hDn : H2 D = none := I2.hok.fresh (Nat.le_of_eq hD)
  obtain ⟨W, ⟨m0, w0⟩, turn⟩ := q D hDn
  -- the new list
  generalize hs3 : ({ s2 with heap := s2.heap.push { cls := .type "list", data := .seq ([] : List Value).toArray } } : Shared) = s3
  have I3 : Inv X pins σ (upd H2 D (.lst [])) s3 := by
    rw [← hs3]
    refine I2.laid (t' := s2.toks) (fun b o e => Heap.get?_push_of_some _ e) (Nat.le_of_eq hD) ⟨Nat.zero_le _, [], 0, .nil, ?_⟩
    rw [← hD]
    exact Heap.get?_push_size _ rfl
  have h3 : s3.heap = s2.heap.push { cls := .type "list", data := .seq ([] : List Value).toArray } := by rw [← hs3]
  have sz : ∀ b ∈ fp, b < s2.heap.objs.size := fun b hb => by
    obtain ⟨o, e, _⟩ := T.obj _ _ st2 b hb
    exact Heap.lt_size e
  have f3 : ∀ b ∈ fp, FpOk X pins (upd H2 D (.lst [])) b ∧ b < s3.heap.objs.size := fun b hb => by
    have hlt := sz b hb
    refine ⟨⟨?_, (f2 b hb).2⟩, by rw [h3, Heap.size_push]; exact Nat.lt_succ_of_lt hlt⟩
    rw [upd_ne (by rw [← hD]; exact Nat.ne_of_lt hlt)]
    exact (f2 b hb).1
  have st3 : tn 0 s3.heap := T.keep _ _ _ st2 fun b _ o e => by rw [h3]; exact Heap.get?_push_of_some _ e
  have I4 := block_start I3 ok hN f3
  have pg := hg s3 (upd H2 D (.lst [])) s3.heap.objs.size (cellsFrom (s3.heap.objs.size + 1) scope.names (cloFrom X.env.cells scope.names [])) fp
  have pt := ht s3 (upd H2 D (.lst [])) s3.heap.objs.size (cellsFrom (s3.heap.objs.size + 1) scope.names (cloFrom X.env.cells scope.names [])) fp
  have pe := he s3 (upd H2 D (.lst [])) s3.heap.objs.size (cellsFrom (s3.heap.objs.size + 1) scope.names (cloFrom X.env.cells scope.names [])) fp
  show codeAny _ _ (.compStart (.ListComp elt [⟨tg, iter, ifs, 0⟩] scope pos) 0 (.ref it) (.ref D) (compEnvC scope (cellsFrom (s3.heap.objs.size + 1) scope.names (cloFrom X.env.cells scope.names [])) s3.heap.objs.size X.env)) (compPost (model X.prog X.w) X.A X.xe use Qf (.ref D) s3.heap.objs.size) { s3 with heap := pushCells (s3.heap.push { cls := .type "dict", data := .dict #[] }) scope.names }
  have nfp : ∀ b ∈ fp, (upd H2 D (.lst [])) b = none := fun b hb => (f3 b hb).1.1
  generalize hce : compEnvC scope (cellsFrom (s3.heap.objs.size + 1) scope.names (cloFrom X.env.cells scope.names [])) s3.heap.objs.size X.env = ce at I4 pg pt pe ⊢
  have cL : ce.locals = s3.heap.objs.size := by subst hce; rfl
  generalize hH3 : upd H2 D (.lst []) = H3 at I3 I4 pg pt pe w0 nfp f3
  generalize hs4 : ({ s3 with heap := pushCells (s3.heap.push { cls := .type "dict", data := .dict #[] }) scope.names } : Shared) = s4 at I4 ⊢
  have st4 : tn 0 s4.heap := T.keep _ _ _ st3 fun b _ o e => by rw [← hs4]; exact pushCells_keeps _ _ _ _ (Heap.get?_push_of_some _ e)
  have stat : ∀ {σ' : St} {H' : Hp} {s' : Shared}, Inv (X.blk s3 H3 scope ce fp) [] σ' H' s' → (∀ b ∈ fp, H' b = none) → ∀ b ∈ fp, FpOk (X.blk s3 H3 scope ce fp) [] H' b := fun {σ' H' s'} I' hn b hb =>
    ⟨hn b hb, (I'.ok.exf b hb).1, I'.ok.exfs b hb, .inl hb, fun x c e => (I'.ok.exf b hb).2 x c e, fun p hp => absurd (show p ∈ ([] : List (Addr × Obj)) ++ [] from hp) (by simp)⟩
  have loop : codeAny (model X.prog X.w) X.A (.compLoop (.ListComp elt [⟨tg, iter, ifs, 0⟩] scope pos) 0 (.ref it) (.ref D) ce) (compPost (model X.prog X.w) X.A X.xe use Qf (.ref D) s3.heap.objs.size) s4 := by
    refine compLoop_any (fun n s' => ∃ i H', Inv (X.blk s3 H3 scope ce fp) [] (wipe σ (own.map (·.2))) H' s' ∧ tn i s'.heap ∧ (∀ b ∈ fp, H' b = none) ∧ W i n H') ?_ m0 ⟨0, H3, I4, st4, nfp, w0⟩
    rintro n s5 ⟨i, H5, I5, st5, n5, w5⟩
    rcases turn i n H5 w5 with ⟨stop, qq⟩ | ⟨go, Nx, hNx, step⟩
    · have td := T.done (X.blk s3 H3 scope ce fp) rfl rfl rfl hc i [] s5 _ H5 (fun _ _ => False) I5 (stat I5 n5) st5 stop
      refine thnF td fun r s6 ⟨hr, I6⟩ => ?_
      subst hr
      -- back in the def's context
      have I7 : Inv X pins σ H5 s6 := I3.call' (ch := fp) I6.os I6.base I6.hok I6.bare fun b hb => ⟨(f3 b hb).1.2.2.2.1, (f3 b hb).1.2.1, (f3 b hb).1.2.2.2.2.1, (f3 b hb).1.2.2.2.2.2⟩
      have nC : H5 s3.heap.objs.size = none := by
        have z : H5 ce.locals = none := I6.free
        rw [cL] at z
        exact z
      obtain ⟨m, hn, _⟩ := I6.loc
      have hn : s6.heap.Ns ce.locals m := hn
      rw [cL] at hn
      exact hRR D s3.heap.objs.size s6 m H5 I7 qq hn (I3.fpOk (Nat.le_refl _) nC)
    · have ti := T.item (X.blk s3 H3 scope ce fp) rfl rfl rfl hc i [] s5 _ H5 (fun _ _ => False) I5 (stat I5 n5) st5 go
      refine thnF ti fun r s6 ⟨u, hr, h6⟩ => ?_
      subst hr
      refine thnF h6 fun _ s7 ⟨x, H7, I7, r7, y7, st7, n7⟩ => ?_
      have I7' := I7.pinned (stat I7 n7) (T.obj _ _ st7)
      refine thnF (pg _ s7 _ H7 x u _ I7' r7 (step x H7 y7)) fun _ s8 ⟨σ8, H8, I8, hw8, q8⟩ => ?_
      refine thnF (pt _ s8 σ8 H8 _ I8 q8) fun b s9 ⟨H9, I9, q9⟩ => ?_
      -- the turn's end
      have fin : ∀ {s' : Shared} {H' : Hp}, Inv (X.blk s3 H3 scope ce fp) ([] ++ pinsAt fp s7.heap) σ8 H' s' → Nx H' → ∃ m, m < n ∧ ∃ i H', Inv (X.blk s3 H3 scope ce fp) [] (wipe σ (own.map (·.2))) H' s' ∧ tn i s'.heap ∧ (∀ b ∈ fp, H' b = none) ∧ W i m H' := fun {s' H'} I' nx => by
        obtain ⟨m', hm, w'⟩ := hNx H' nx
        have pin' : ∀ b ∈ fp, ∀ o, s7.heap.get? b = some o → s'.heap.get? b = some o ∧ H' b = none := fun b hb o e =>
          let z := I'.pin (b, o) (List.mem_append_right _ (List.mem_append_right _ (mem_pinsAt hb e)))
          ⟨z.1, z.2.1⟩
        have hl : (wipe σ (own.map (·.2))).length = σ8.length := by rw [← hw8, wipe_length]
        refine ⟨m', hm, i + 1, H', (I'.unpinned (pins := [])).weak hl (fun j v e => ?_), T.keep _ _ _ st7 fun b hb o e => (pin' b hb o e).1, fun b hb => ?_, w'⟩
        · rw [← hw8] at e
          exact (wipe_some e).1
        · obtain ⟨o, e, _⟩ := T.obj _ _ st7 b hb
          exact (pin' b hb o e).2
      cases b with
      | false =>
        simp only [Bool.false_eq_true, if_false] at q9 ⊢
        exact fin I9 q9
      | true =>
        simp only [if_true] at q9 ⊢
        refine thnF (pe _ s9 σ8 H9 _ I9 q9) fun z s10 ⟨yv, H10, I10, r10, acc, hD10, hz10, nx⟩ => ?_
        exact app_ok (X := X.blk s3 H3 scope ce fp) I10 hD10 hz10 r10 fun s11 I11 => fin I11 nx
  exact codeAny_compStart_list loop (T.self X.A 0 _ _ _ st4 loop)
theorem pe_lc {elt tg iter : Expr} {ifs : List Expr} {scope : Scope} {own : List (Str × Nat)} {pos : Pos} {wi : TI} {g : TG} {tt : TT} {te : TE} (hc : X.calm = true) (hN : X.N.Nodup) (hi : PI X tg iter wi) (ok : BlkOk X.N X.env.scope scope own)
    (hg : ∀ (s : Shared) (H : Hp) (C : Addr) (cl : List (Str × Addr)) (fp : List Addr), PG (X.blk s H scope (compEnvC scope cl C X.env) fp) tg g) (ht : ∀ (s : Shared) (H : Hp) (C : Addr) (cl : List (Str × Addr)) (fp : List Addr), PTs (X.blk s H scope (compEnvC scope cl C X.env) fp) ifs tt)
    (he : ∀ (s : Shared) (H : Hp) (C : Addr) (cl : List (Str × Addr)) (fp : List Addr), PE (X.blk s H scope (compEnvC scope cl C X.env) fp) elt te) (hs : ∀ x, foldedSetIterable iter X.env x = pure x := by intro _; rfl) :
    PE X (.ListComp elt [⟨tg, iter, ifs, 0⟩] scope pos) (tLc wi g tt te (own.map (·.2))) := by
  intro pins s σ H Q I h
  rw [eval_ListComp]
  refine lc_core hc hN I hi ok hg ht he hs h fun D C s' m H' I' q hn f => ⟨m, hn, fun h'' sb => ?_⟩
  obtain ⟨f0, f1, f2, f3, f4, f5⟩ := f
  exact ⟨.ref D, H', I'.turned (t' := s'.toks) (fun b o hb e => (sb.2 b hb).trans e) f0 f1 f3 f4 f5, rfl, q⟩
theorem ps_setLc {i : Nat} {y : Str} {py : Pos} {elt tg iter : Expr} {ifs : List Expr} {scope : Scope} {own : List (Str × Nat)} {pos spos : Pos} {wi : TI} {g : TG} {tt : TT} {te : TE} (hc : X.calm = true) (hN : X.N.Nodup) (hy : X.N[i]? = some y) (hyl : X.env.scope.names.lookup y = some .local)
    (hsw : swapsWith (.ListComp elt [⟨tg, iter, ifs, 0⟩] scope pos) (some (.Name y py)) spos.line X.env = pure true) (hi : PI X tg iter wi) (ok : BlkOk X.N X.env.scope scope own)
    (hg : ∀ (s : Shared) (H : Hp) (C : Addr) (cl : List (Str × Addr)) (fp : List Addr), PG (X.blk s H scope (compEnvC scope cl C X.env) fp) tg g) (ht : ∀ (s : Shared) (H : Hp) (C : Addr) (cl : List (Str × Addr)) (fp : List Addr), PTs (X.blk s H scope (compEnvC scope cl C X.env) fp) ifs tt)
    (he : ∀ (s : Shared) (H : Hp) (C : Addr) (cl : List (Str × Addr)) (fp : List Addr), PE (X.blk s H scope (compEnvC scope cl C X.env) fp) elt te) (hs : ∀ x, foldedSetIterable iter X.env x = pure x := by intro _; rfl) :
    PS X (.Assign [.Name y py] (.ListComp elt [⟨tg, iter, ifs, 0⟩] scope pos) spos) (tAsg (tLc wi g tt te (own.map (·.2))) (gName i)) := by
  intro pins s σ H D I h
  rw [exec_Assign_Name_used _ _ _ _ hsw]
  refine wpAny_bind (wpAny_standAt (wpAny_bind ?_))
  show wpAny _ X.A (do let _ ← comprehension (.ListComp elt [⟨tg, iter, ifs, 0⟩] scope pos) scope X.env (firstIterPos [⟨tg, iter, ifs, 0⟩] pos) (newList []) false (eval iter X.env) (some (assign (.Name y py) X.env))) _ _ s
  have h : tLc wi g tt te (own.map (·.2)) σ H (fun x H1 => gName i x σ H1 D.nx) := h
  refine wpAny_bind (thn (lc_core (Qf := fun _ s' => SP X pins D .next s') hc hN I hi ok hg ht he hs h fun L C s' m H' I' q hn f => ?_) fun _ s' hq => wpAny_pure (wpAny_pure hq))
  show wpAny _ _ (assign (.Name y py) X.env (.ref L)) _ _ _
  refine wpAny_assign_Name (store_ok2 (v := V.ref L) I' hN hy (.inl hyl) rfl (fun s2 I2 ⟨a, sb, ha⟩ => ?_) (.inr hyl))
  obtain ⟨f0, f1, f2, f3, f4, f5⟩ := f
  have haC : C ≠ a := by
    rcases ha with z | z
    · rw [z]; exact f1
    · exact fun e => f4 y a z e.symm
  refine ⟨m, hn.sameBut sb haC, fun h3 sb3 => ?_⟩
  exact ⟨_, H', I2.turned (t' := s2.toks) (fun b o hb e => (sb3.2 b hb).trans e) f0 f1 f3 f4 f5, q⟩
theorem sw_true {elt : Expr} {gs : List Comprehension} {scope : Scope} {pos py : Pos} {y : Str} {l : Nat} {env : Env} (hk : env.scope.kind = .function) (hy : env.scope.names.lookup y = some .local) (hl : (py.line == pos.line) = true)
    (ha : (scope.names.any fun (n, k) => n == y && (k == .local || k == .cell)) = false) : swapsWith (.ListComp elt gs scope pos) (some (.Name y py)) l env = pure true := by
  have ky : env.kindOf y = some .local := hy
  have hb : env.blockKind = .function := by unfold Env.blockKind; rw [hk]; rfl
  unfold swapsWith
  simp only [hb, ky, ha, Expr.pos, hl]
  rfl
end
theorem lc_list {K : PySem.W.Frag} {a : Addr} {xs : List V} {g : TG} {tt : TT} {te : TE} {vs : List Nat} {σ : St} {H1 : Hp} {D : Addr} {Qd : Hp → Prop} (Pv : Nat → Hp → Prop) (h0 : Pv 0 (upd H1 D (.lst []))) (hl : ∀ i H, i ≤ xs.length → Pv i H → SqL K H a xs)
    (hs : ∀ i x H, xs[i]? = some x → Pv i H → g x (wipe σ vs) H fun σ2 H2 => wipe σ2 vs = wipe σ vs ∧ tt σ2 H2 fun b H3 =>
      if b = true then te σ2 H3 fun y H4 => ∃ acc, H4 D = some (.lst acc) ∧ acc.length < sizeLine ∧ Pv (i + 1) (upd H4 D (.lst (acc ++ [y]))) else Pv (i + 1) H3) (hd : ∀ H, Pv xs.length H → Qd H) :
    ∃ W : Nat → Nat → Hp → Prop, (∃ m, W 0 m (upd H1 D (.lst []))) ∧ ∀ i m H, W i m H →
      ((Itl K a).stop i H ∧ Qd H) ∨ ((Itl K a).go i H ∧ ∃ Nx : Hp → Prop, (∀ H', Nx H' → ∃ m', m' < m ∧ W (i + 1) m' H') ∧ ∀ x H', (Itl K a).yld i H x H' → g x (wipe σ vs) H' fun σ2 H2 => wipe σ2 vs = wipe σ vs ∧ tt σ2 H2 fun b H3 =>
        if b = true then te σ2 H3 fun y H4 => ∃ acc, H4 D = some (.lst acc) ∧ acc.length < sizeLine ∧ Nx (upd H4 D (.lst (acc ++ [y]))) else Nx H3) := by
  refine ⟨fun i m H => m = xs.length - i ∧ i ≤ xs.length ∧ Pv i H, ⟨xs.length, by simp, Nat.zero_le _, h0⟩, ?_⟩
  rintro i m H ⟨rfl, hi, p⟩
  have q := hl i H hi p
  by_cases hlt : i < xs.length
  · refine .inr ⟨⟨xs, xs[i], q, by simp [hlt]⟩, Pv (i + 1), fun H' p' => ⟨xs.length - (i + 1), by omega, rfl, hlt, p'⟩, fun x H' y => ?_⟩
    obtain ⟨e, y⟩ := y
    subst e
    exact hs i x _ (y xs q) p
  · have e : i = xs.length := by omega
    subst e
    exact .inl ⟨⟨xs, q, Nat.le_refl _⟩, hd H p⟩
def blkC (N : List Str) (sc scope : Scope) (own : List (Str × Nat)) : Bool :=
  (match scope.kind with | .function => true | _ => false) && (scope.names.all fun y => decide (scope.names.lookup y.1 = some y.2)) && (own.all fun p => decide (N[p.2]? = some p.1)) &&
    (scope.names.all fun y => match y.2 with
      | .free => (match sc.names.lookup y.1 with | some .cell => true | some .free => true | _ => false)
      | .local => decide (y.1 ∈ own.map (·.1)) || decide (y.1 ∉ N)
      | .cell => decide (y.1 ∈ own.map (·.1)) || decide (y.1 ∉ N)
      | _ => true)
theorem blkOk_by {N : List Str} {sc scope : Scope} {own : List (Str × Nat)} (h : blkC N sc scope own = true) : BlkOk N sc scope own := by
  unfold blkC at h
  simp only [Bool.and_eq_true, List.all_eq_true, decide_eq_true_eq] at h
  obtain ⟨⟨⟨h1, h2⟩, h3⟩, h4⟩ := h
  refine ⟨?_, h2, h3, fun y hy e => ?_, fun y hy e => ?_⟩
  · split at h1
    · assumption
    · cases h1
  · have q := h4 y hy
    simp only [e] at q
    split at q <;> first | exact .inl (by assumption) | exact .inr (by assumption) | cases q
  · have q := h4 y hy
    rcases e with e | e <;> (simp only [e, Bool.or_eq_true, decide_eq_true_eq] at q; exact q)
end L2
namespace L2
open PySem PySem.Spec PyProof.Rows
section
variable {prog : Program} {w : World} {A : Around} {R : Result → Shared → Prop} {s : Shared} {elt t0 i0 t1 i1 : Expr} {ifs0 ifs1 : List Expr} {scope : Scope} {pos : Pos} {it acc : Value} {env : Env}
end
section
variable {X : Cx}
end
end L2
namespace L2
open PySem PySem.Spec PyProof.Rows
section
variable {κ : Type} [DecidableEq κ]
def valV (kvs : List (κ × V)) (k : κ) : Option V := (kvs.find? fun kv => decide (kv.1 = k)).map (·.2)
/-- in its place, or at the end -/
def putK (kvs : List (κ × V)) (k : κ) (v : V) : List (κ × V) :=
  if (kvs.any fun kv => decide (kv.1 = k)) = true then kvs.map (fun kv => if kv.1 = k then (kv.1, v) else kv) else kvs ++ [(k, v)]
theorem valV_pos {p : κ × V} {r : List (κ × V)} {k : κ} (e : p.1 = k) : valV (p :: r) k = some p.2 := by simp [valV, List.find?_cons, e]
theorem valV_neg {p : κ × V} {r : List (κ × V)} {k : κ} (e : ¬ p.1 = k) : valV (p :: r) k = valV r k := by simp [valV, List.find?_cons, e]
theorem valV_any (k : κ) : ∀ kvs : List (κ × V), (kvs.any fun kv => decide (kv.1 = k)) = (valV kvs k).isSome
  | [] => rfl
  | p :: r => by
    rw [List.any_cons]
    by_cases e : p.1 = k
    · simp only [valV_pos e, decide_eq_true e, Bool.true_or, Option.isSome_some]
    · rw [valV_neg e, decide_eq_false e, Bool.false_or]; exact valV_any k r
theorem length_putK (kvs : List (κ × V)) (k : κ) (v : V) : (putK kvs k v).length ≤ kvs.length + 1 := by
  unfold putK
  split
  · rw [List.length_map]; omega
  · rw [List.length_append, List.length_cons, List.length_nil]; omega
theorem putK_new {kvs : List (κ × V)} {k : κ} (v : V) (h : valV kvs k = none) : putK kvs k v = kvs ++ [(k, v)] := by
  unfold putK
  rw [valV_any, h]
  exact if_neg (by decide)
theorem RelO.isSome_eq {o : Option V} {u : Option Value} (r : RelO o u) : o.isSome = u.isSome := by
  cases o with
  | none => cases u with
    | none => rfl
    | some _ => exact (show False from r).elim
  | some _ => cases u with
    | none => exact (show False from r).elim
    | some _ => rfl
theorem KV.val {kvs : List (κ × V)} {vs : List (κ × Value)} (r : KV kvs vs) (k : κ) : RelO (valV kvs k) (valueAt vs k) := by
  unfold KV at r
  induction r with
  | nil => exact True.intro
  | @cons p q ps qs h t ih =>
    obtain ⟨h1, h2⟩ := h
    by_cases e : p.1 = k
    · have e' : q.1 = k := h1.symm.trans e
      have b : valueAt (q :: qs) k = some q.2 := by simp [valueAt, List.find?_cons, e']
      rw [valV_pos e, b]; exact h2
    · have e' : ¬ q.1 = k := fun z => e (h1.trans z)
      have b : valueAt (q :: qs) k = valueAt qs k := by simp [valueAt, List.find?_cons, e']
      rw [valV_neg e, b]; exact ih
theorem KV.any {kvs : List (κ × V)} {vs : List (κ × Value)} (r : KV kvs vs) (k : κ) : (kvs.any fun kv => decide (kv.1 = k)) = vs.any fun kv => decide (kv.1 = k) := by
  unfold KV at r
  induction r with
  | nil => rfl
  | cons h t ih => rw [List.any_cons, List.any_cons, ih, h.1]
theorem KV.repl {kvs : List (κ × V)} {vs : List (κ × Value)} (r : KV kvs vs) (k : κ) {y : V} {u : Value} (ry : RelV y u) :
    KV (kvs.map fun kv => if kv.1 = k then (kv.1, y) else kv) (vs.map fun kv => if kv.1 = k then (kv.1, u) else kv) := by
  unfold KV at r ⊢
  induction r with
  | nil => exact .nil
  | @cons p q ps qs h t ih =>
    rw [List.map_cons, List.map_cons]
    refine .cons ?_ ih
    obtain ⟨h1, h2⟩ := h
    by_cases e : p.1 = k
    · rw [if_pos e, if_pos (h1.symm.trans e)]; exact ⟨h1, ry⟩
    · rw [if_neg e, if_neg (fun z => e (h1.trans z))]; exact ⟨h1, h2⟩
theorem KV.put {kvs : List (κ × V)} {vs : List (κ × Value)} (r : KV kvs vs) (k : κ) {y : V} {u : Value} (ry : RelV y u) : KV (putK kvs k y) (stored vs k u) := by
  unfold putK stored
  rw [r.any k]
  by_cases e : (vs.any fun kv => decide (kv.1 = k)) = true
  · rw [if_pos e, if_pos e]; exact r.repl k ry
  · rw [if_neg e, if_neg e]; exact Paired.snoc r ⟨rfl, ry⟩
theorem KV.length {kvs : List (κ × V)} {vs : List (κ × Value)} (r : KV kvs vs) : kvs.length = vs.length := Paired.length r
end
theorem kV_is {P : Program} {w : World} {k : Key} {u : Value} (r : RelV (kV k) u) : (mixKind P w).is k u = true := by
  cases k with
  | inl i => obtain ⟨t, e⟩ := (show ∃ t, u = Value.int i t from r); subst e; exact mixKind_int P w i t
  | inr x => obtain ⟨t, e⟩ := (show ∃ t, u = Value.str x t from r); subst e; exact mixKind_str P w x t
theorem items_are {P : Program} {w : World} : ∀ {ks : List Key} {us : List Value}, Vals (ks.map kV) us → ItemsAre (mixKind P w) ks us
  | [], _, r => by rw [List.map_nil] at r; cases r; exact .nil
  | k :: ks, _, r => by
    rw [List.map_cons] at r
    cases r with
    | cons h t => exact .cons (kV_is h) (items_are t)
/-- raw entries of a dict with tuple keys -/
abbrev KT (H : Hp) : List (List Key × V) → List (List Key × Addr × Value) → Prop := Paired fun p q => p.1 = q.1 ∧ H q.2.1 = some (.tup (p.1.map kV)) ∧ RelV p.2 q.2.2
theorem KT.val {H : Hp} {kvs : List (List Key × V)} {xs : List (List Key × Addr × Value)} (r : KT H kvs xs) (k : List Key) : RelO (valV kvs k) ((atKey xs k).map (·.2)) := by
  induction r with
  | nil => exact True.intro
  | @cons p q ps qs h t ih =>
    obtain ⟨h1, _, h2⟩ := h
    by_cases e : p.1 = k
    · have e' : q.1 = k := h1.symm.trans e
      have b : atKey (q :: qs) k = some q.2 := by simp [atKey, List.find?_cons, e']
      rw [valV_pos e, b]; exact h2
    · have e' : ¬ q.1 = k := fun z => e (h1.trans z)
      have b : atKey (q :: qs) k = atKey qs k := by simp [atKey, List.find?_cons, e']
      rw [valV_neg e, b]; exact ih
theorem KT.repl {H : Hp} {kvs : List (List Key × V)} {xs : List (List Key × Addr × Value)} (r : KT H kvs xs) (k : List Key) {y : V} {u : Value} (ry : RelV y u) :
    KT H (kvs.map fun kv => if kv.1 = k then (kv.1, y) else kv) (xs.map (putAt k u)) := by
  induction r with
  | nil => exact .nil
  | @cons p q ps qs h t ih =>
    rw [List.map_cons, List.map_cons]
    refine .cons ?_ ih
    obtain ⟨h1, h2, h3⟩ := h
    unfold putAt
    by_cases e : p.1 = k
    · rw [if_pos e, if_pos (h1.symm.trans e)]; exact ⟨h1, h2, ry⟩
    · rw [if_neg e, if_neg (fun z => e (h1.trans z))]; exact ⟨h1, h2, h3⟩
theorem KT.put {H : Hp} {kvs : List (List Key × V)} {xs : List (List Key × Addr × Value)} (r : KT H kvs xs) (k : List Key) {b : Addr} {y : V} {u : Value} (hb : H b = some (.tup (k.map kV))) (ry : RelV y u) :
    KT H (putK kvs k y) (storedH xs k b u) := by
  have e : (kvs.any fun kv => decide (kv.1 = k)) = (atKey xs k).isSome := by
    rw [valV_any, (r.val k).isSome_eq, Option.isSome_map]
  unfold putK storedH
  rw [e]
  by_cases q : (atKey xs k).isSome = true
  · rw [if_pos q, if_pos q]; exact r.repl k ry
  · rw [if_neg q, if_neg q]; exact Paired.snoc r ⟨rfl, hb, ry⟩
theorem KT.keeps {H H' : Hp} {kvs : List (List Key × V)} {xs : List (List Key × Addr × Value)} (r : KT H kvs xs) (ht : ∀ b ys, H b = some (.tup ys) → H' b = some (.tup ys)) : KT H' kvs xs :=
  Paired.mapP r fun _ _ z => ⟨z.1, ht _ _ z.2.1, z.2.2⟩
section
variable {P : Program} {w : World} {H : Hp} {h : Heap} {a : Addr}
theorem rd_of {u : HO} (ok : HOk P w H h) (e : Rd H a u) : ObjOk P w H h a u := e.ok ok
theorem dk_rd {kvs : List (Key × V)} (ok : HOk P w H h) (e : Rd H a (.dK kvs)) : kvs.length ≤ sizeLine ∧ (a == sysModules) = false ∧ ∃ vs, KV kvs vs ∧ h.DictOf (mixKind P w) a vs :=
  show ObjOk P w H h a (.dK kvs) from rd_of ok e
theorem dk_of {kvs : List (Key × V)} (ok : HOk P w H h) (e : H a = some (.dK kvs)) : kvs.length ≤ sizeLine ∧ (a == sysModules) = false ∧ ∃ vs, KV kvs vs ∧ h.DictOf (mixKind P w) a vs := dk_rd ok (.inl e)
theorem key_of {ks : List Key} (ok : HOk P w H h) (e : H a = some (.tup (ks.map kV))) : (tupleKind (mixKind P w)).is h ks a := by
  obtain ⟨_, its, r, o, h1, h2, n, h3⟩ := (show ObjOk P w H h a (.tup (ks.map kV)) from ok a _ e)
  exact ⟨o, its.toArray, n, h1, h2, h3, by simpa using items_are r⟩
theorem dt_rd {kvs : List (List Key × V)} (ok : HOk P w H h) (e : Rd H a (.dT kvs)) : kvs.length ≤ sizeLine ∧ (a == sysModules) = false ∧
    ∃ xs, KT H kvs xs ∧ h.DictOfH (tupleKind (mixKind P w)) a xs := by
  obtain ⟨z, y, xs, r, o, es, ep, h1, h2, h3, h4, h5⟩ := (show ObjOk P w H h a (.dT kvs) from rd_of ok e)
  refine ⟨z, y, xs, r, o, es, ep, h1, h2, h3, h4, fun x hx => ?_, h5⟩
  have all : ∀ {l : List (List Key × V)} {m : List (List Key × Addr × Value)}, KT H l m → ∀ x ∈ m, (tupleKind (mixKind P w)).is h x.1 x.2.1 := by
    intro l m q
    induction q with
    | nil => intro x hx; exact nomatch hx
    | @cons p q ps qs hq t ih =>
      intro x hx
      rcases List.mem_cons.mp hx with e | hx
      · subst e
        exact key_of ok (by rw [← hq.1]; exact hq.2.1)
      · exact ih x hx
  exact all r x hx
theorem dt_of {kvs : List (List Key × V)} (ok : HOk P w H h) (e : H a = some (.dT kvs)) : kvs.length ≤ sizeLine ∧ (a == sysModules) = false ∧
    ∃ xs, KT H kvs xs ∧ h.DictOfH (tupleKind (mixKind P w)) a xs := dt_rd ok (.inl e)
end
/-- what the dict at a holds at the key y -/
def DGet (H : Hp) (a : Addr) (y : V) (r : Option V) : Prop :=
  (∃ kvs k, Rd H a (.dK kvs) ∧ y = kV k ∧ r = valV kvs k) ∨ ∃ kvs k b, Rd H a (.dT kvs) ∧ y = .ref b ∧ H b = some (.tup (k.map kV)) ∧ r = valV kvs k
/-- the heap behind a[y] = v -/
def DPut (H : Hp) (a : Addr) (y v : V) (H' : Hp) : Prop :=
  (∃ kvs k, H a = some (.dK kvs) ∧ y = kV k ∧ kvs.length < sizeLine ∧ H' = upd H a (.dK (putK kvs k v))) ∨
  ∃ kvs k b, H a = some (.dT kvs) ∧ y = .ref b ∧ H b = some (.tup (k.map kV)) ∧ kvs.length < sizeLine ∧ H' = upd H a (.dT (putK kvs k v))
theorem DPut.k {H : Hp} {a : Addr} {kvs : List (Key × V)} {k : Key} {v : V} (e : H a = some (.dK kvs)) (hl : kvs.length < sizeLine) : DPut H a (kV k) v (upd H a (.dK (putK kvs k v))) := .inl ⟨kvs, k, e, rfl, hl, rfl⟩
section
variable {X : Cx} {pins : List (Addr × Obj)} {σ : St} {H : Hp} {s : Shared} {a : Addr} {y v : V} {u r : Value} {o : Option V} {A : Around} {E : Value → Shared → Prop}
theorem Inv.big (I : Inv X pins σ H s) : sysModules < s.heap.objs.size := by
  have h : mainGlobals < s.heap.objs.size := (I.mod.glob.keeps I.bk).lt
  exact Nat.lt_trans (by decide) h
theorem d_getItem {Q : Value → Shared → Prop} (hu : A.units + 1 < cLine) (I : Inv X pins σ H s) (g : DGet H a y (some v)) (ry : RelV y u) (h : ∀ w' s', Inv X pins σ H s' → RelV v w' → Q w' s') :
    wpAny (model X.prog X.w) A (getItem (.ref a) u) Q E s := by
  rcases g with ⟨kvs, k, e, ey, l⟩ | ⟨kvs, k, b, e, ey, eb, l⟩
  · subst ey
    obtain ⟨z, hd, vs, rel, dd⟩ := dk_rd I.hok e
    obtain ⟨w', hw, rw'⟩ := RelO.some_of (v := v) (o := valueAt vs k) (by rw [l]; exact rel.val k)
    exact wpAny_getItem_of (kV_is ry) dd.mapOf hw (h w' _ (I.tok _) rw')
  · subst ey
    cases (show u = Value.ref b from ry)
    obtain ⟨z, hd, xs, rel, dd⟩ := dt_rd I.hok e
    obtain ⟨w', hw, rw'⟩ := RelO.some_of (v := v) (o := (atKey xs k).map (·.2)) (by rw [l]; exact rel.val k)
    obtain ⟨p, hp, hp2⟩ := Option.map_eq_some_iff.mp hw
    refine wpAny_getItem_heap (tupleKind_room_in1 hu) (key_of I.hok eb) dd hp ?_
    rw [hp2]
    exact h w' _ (I.tok _) rw'
theorem d_write {h' : Heap} {t' : Nat} {ob : HO} (I : Inv X pins σ H s) (mu : Mut (H a)) (hs : Heap.SameBut a s.heap h') (he : ∃ q, h'.get? a = some q) (new : ObjOk X.prog X.w (upd H a ob) h' a ob) :
    Inv X pins σ (upd H a ob) { s with heap := h', toks := t' } :=
  I.write (x := a) (e := a) mu (.inl rfl) (fun b q hb z => (hs.2 b hb).trans z) he new
theorem dk_new {P : Program} {w : World} {H' : Hp} {h' : Heap} {kvs : List (Key × V)} {vs : List (Key × Value)} (z : kvs.length ≤ sizeLine) (hd : (a == sysModules) = false) (rel : KV kvs vs) (dd : h'.DictOf (mixKind P w) a vs) :
    ObjOk P w H' h' a (.dK kvs) := ⟨z, hd, vs, rel, dd⟩
theorem d_setItem {H' : Hp} {Q : Unit → Shared → Prop} (hu : A.units + 1 < cLine) (I : Inv X pins σ H s) (g : DPut H a y v H') (ry : RelV y u) (rv : RelV v r) (h : ∀ s', Inv X pins σ H' s' → Q () s') :
    wpAny (model X.prog X.w) A (setItem (.ref a) u r) Q E s := by
  rcases g with ⟨kvs, k, e, ey, l, eH⟩ | ⟨kvs, k, b, e, ey, eb, l, eH⟩
  · subst ey eH
    obtain ⟨z, hd, vs, rel, dd⟩ := dk_of I.hok e
    have hz : vs.length ≤ sizeLine := by rw [← rel.length]; exact z
    have hl : (putK kvs k v).length ≤ sizeLine := by have := length_putK kvs k v; omega
    refine wpAny_setItem_pairs (hsz := hz) (kV_is ry) dd fun h' dd' hs => h _ ?_
    have he : ∃ q, h'.get? a = some q := let ⟨q, _, _, hq, _⟩ := dd'; ⟨q, hq⟩
    exact d_write I (by rw [e]; exact True.intro) hs he (dk_new hl hd (rel.put k rv) dd')
  · subst ey eH
    cases (show u = Value.ref b from ry)
    obtain ⟨z, hd, xs, rel, dd⟩ := dt_of I.hok e
    have hz : xs.length ≤ sizeLine := by rw [← Paired.length rel]; exact z
    have hl : (putK kvs k v).length ≤ sizeLine := by have := length_putK kvs k v; omega
    refine wpAny_setItem_heap (hsz := hz) (tupleKind_room_in1 hu) (key_of I.hok eb) dd fun h' dd' hs => h _ ?_
    obtain ⟨q, es, ep, hq, h2, h3, h4, _, h5⟩ := dd'
    refine d_write I (by rw [e]; exact True.intro) hs ⟨q, hq⟩ ⟨hl, hd, _, (rel.put k eb rv).keeps fun c ys ec => ?_, q, es, ep, hq, h2, h3, h4, h5⟩
    rw [upd_ne (ne_of ec e (fun z => nomatch z))]
    exact ec
end
section
variable {X : Cx} {pins : List (Addr × Obj)} {σ : St} {H : Hp} {s : Shared} {a : Addr} {kvs : List (Key × V)} {k : Key} {u : Value} {A : Around} {E : Value → Shared → Prop}
theorem d_len {Q : Value → Shared → Prop} (I : Inv X pins σ H s) (e : Rd H a (.dK kvs)) (h : ∀ t s', Inv X pins σ H s' → Q (.int kvs.length t) s') : wpAny (model X.prog X.w) A (call (.builtin "len") [.ref a]) Q E s := by
  obtain ⟨z, hd, vs, rel, dd⟩ := dk_rd I.hok e
  refine call_len_dict hd dd (by rw [← rel.length]; rw [sizeLine_eq] at z; omega) ?_
  rw [← rel.length]
  exact h _ _ (I.tok _)
end
/-- the element of a subscription, not a slice -/
def NoSl (i : Expr) : Prop := ∀ ov iv, subscripted i false ov iv = operate [ov, iv] (getItem ov iv)
theorem subD_of {prog : Program} {w : World} {A : Around} {E : Value → Shared → Prop} {s : Shared} {env : Env} {value slice : Expr} {pos : Pos} {T id : String} {Q : Value → Shared → Prop}
    (hl : typeLookup (.type T) "__getitem__" = pure (some (.builtin id))) (hs : NoSl slice)
    (h : wpAny (model prog w) A (eval value env) (fun o s₁ => wpAny (model prog w) A (eval slice env) (fun i s₂ => s₂.TypeIs o T ∧ wpAny (model prog w) A (getItem o i) Q E s₂) E s₁) E s) :
    wpAny (model prog w) A (eval (.Subscript value slice pos) env) Q E s := by
  refine Subscript_ (wpAny_mono h (fun o s₁ h₁ => wpAny_mono h₁ (fun i s₂ h₂ => ?_) fun _ _ x => x) fun _ _ x => x)
  obtain ⟨hT, h₂⟩ := h₂
  unfold subscriptTail
  refine wpAny_bind ?_
  rw [getitemInPython_of_ne hT.not_modules]
  refine wpAny_bind (wpAny_specialOf hT hl ?_)
  have fin : wpAny (model prog w) A (subscripted slice false o i) (fun r s₃ => wpAny (model prog w) A (letTemporaryGo value o r >>= fun _ => pure r) Q E s₃) E s₂ := by
    rw [hs o i]
    exact wpAny_operating (wpAny_mono h₂ (fun r s₃ h₃ => wpAny_bind (wpAny_letTemporaryGo (wpAny_pure h₃))) fun _ _ x => x)
  first
    | exact wpAny_pure (wpAny_bind fin)
    | exact wpAny_bind (wpAny_pure (wpAny_bind fin))
    | exact wpAny_bind fin
theorem dict_typeIs {X : Cx} {pins : List (Addr × Obj)} {σ : St} {H : Hp} {s : Shared} {a : Addr} {y : V} {o : Option V} (I : Inv X pins σ H s) (g : DGet H a y o) : s.TypeIs (.ref a) "dict" := by
  rcases g with ⟨kvs, k, e, _, _⟩ | ⟨kvs, k, b, e, _, _, _⟩
  · obtain ⟨_, _, vs, _, dd⟩ := dk_rd I.hok e
    exact dd.typeIs
  · obtain ⟨_, _, xs, _, dd⟩ := dt_rd I.hok e
    exact dd.typeIs
/-- d[y] -/
def tDGet (td ty : TE) : TE := fun σ H Q => td σ H fun x H1 => ty σ H1 fun y H2 => ∃ a v, x = .ref a ∧ DGet H2 a y (some v) ∧ Q v H2
/-- d[y] = v -/
def sDPut (td ty tv : TE) : TS := fun D σ H => tv σ H fun v H1 => td σ H1 fun x H2 => ty σ H2 fun y H3 => ∃ a H4, x = .ref a ∧ DPut H3 a y v H4 ∧ D.nx σ H4
section
variable {X : Cx} {o i e value : Expr} {pos pos' tpos : Pos} {td ty tv : TE}
theorem pe_dget (hu : X.A.units + 1 < cLine) (ho : PE X o td) (hi : PE X i ty) (hs : NoSl i) : PE X (.Subscript o i pos) (tDGet td ty) := by
  intro pins s σ H Q I h
  refine subD_of PySem.F.slot_dict_getitem.lookup hs (thn (ho pins s σ H _ I h) fun u s1 ⟨x, H1, I1, rx, q1⟩ => thn (hi pins s1 σ H1 _ I1 q1) fun iv s2 ⟨y, H2, I2, ry, a, v, ex, g, q2⟩ => ?_)
  subst ex
  obtain rfl : u = Value.ref a := rx
  exact ⟨dict_typeIs I2 g, d_getItem hu I2 g ry fun w' s3 I3 rw' => ⟨v, H2, I3, rw', q2⟩⟩
theorem ps_dput (hu : X.A.units + 1 < cLine) (ho : PE X o td) (hi : PE X i ty) (hv : PE X value tv) (hs : swapsWith value (some (.Subscript o i pos')) pos.line X.env = pure false) :
    PS X (.Assign [.Subscript o i pos'] value pos) (sDPut td ty tv) := by
  intro pins s σ H D I h
  refine wpAny_Assign_Subscript (thn (hv pins s σ H _ I h) fun r s1 ⟨v, H1, I1, rv, q1⟩ => thn (ho pins s1 σ H1 _ I1 q1) fun u s2 ⟨x, H2, I2, rx, q2⟩ => thn (hi pins s2 σ H2 _ I2 q2) fun iv s3 ⟨y, H3, I3, ry, a, H4, ex, g, q3⟩ => ?_) hs
  subst ex
  obtain rfl : u = Value.ref a := rx
  exact d_setItem hu I3 g ry rv fun s4 I4 => ⟨σ, H4, I4, q3⟩
end
theorem dk_empty {P : Program} {w : World} {H : Hp} (h : Heap) (hb : sysModules < h.objs.size) : ObjOk P w H (h.push { cls := .type "dict", data := .dict #[] }) h.objs.size (.dK []) :=
  ⟨Nat.zero_le _, beq_eq_false_iff_ne.mpr (Ne.symm (Nat.ne_of_lt hb)), [], .nil, Heap.DictOf.new h⟩
/-- {}, to be a dict of the kind that is wanted -/
def tDNewK : TE := fun _ H Q => ∀ p, H p = none → Q (.ref p) (upd H p (.dK []))
section
variable {X : Cx} {pos : Pos}
theorem pe_dnewK : PE X (.Dict [] [] pos) tDNewK := fun pins s σ H Q I h =>
  wpAny_Dict_empty ⟨.ref s.heap.objs.size, _, I.laid (a := s.heap.objs.size) (o := .dK []) (t' := s.toks) (fun _ _ q => Heap.get?_push_of_some _ q) (Nat.le_refl _) (dk_empty s.heap I.big), rfl, h _ (I.hok.fresh (Nat.le_refl _))⟩
end
section
variable {X : Cx} {pins : List (Addr × Obj)} {σ : St} {H : Hp} {s : Shared} {a : Addr} {y d : V} {u r : Value} {o : Option V} {A : Around} {E : Value → Shared → Prop}
end
section
variable {X : Cx} {o e f : Expr} {apos cpos : Pos} {td ty tx : TE}
end
section
variable {X : Cx} {pins : List (Addr × Obj)} {σ : St} {H : Hp} {s : Shared} {a : Addr} {kvs : List (Key × V)} {A : Around} {E : Value → Shared → Prop}
end
section
variable {X : Cx} {pins : List (Addr × Obj)} {σ : St} {H : Hp} {s : Shared} {a : Addr} {y : V} {u : Value} {A : Around} {E : Value → Shared → Prop}
end
end L2
namespace L2
open PySem PySem.Spec PyProof.Rows
section
variable {prog : Program} {w : World} {A : Around} {E : Value → Shared → Prop}
end
section
variable {X : Cx}
end
end L2
namespace L2
open PySem PySem.Spec PyProof.Rows
section
variable {X : Cx} {pins : List (Addr × Obj)} {σ : St} {H : Hp} {s : Shared} {h' : Heap}
theorem Inv.turnedL {t' : Nat} {ch : List Addr} (I : Inv X pins σ H s) (k : ∀ b o, b ∉ ch → s.heap.get? b = some o → h'.get? b = some o) (hf : ∀ b ∈ ch, FpOk X pins H b) : Inv X pins σ H { s with heap := h', toks := t' } := by
  have nit : ∀ b u, H b = some u → b ∉ ch := fun b u e z => by
    have q := (hf b z).1
    rw [q] at e; cases e
  refine I.step (g' := s.gens) (d' := s.drawn) (ch := ch) (fun b hb => ⟨(hf b hb).2.2.2.1, (hf b hb).2.1, (hf b hb).2.2.2.2.1, (hf b hb).2.2.2.2.2⟩) (fun b o _ _ hc e _ => k b o hc e) (fun b o _ _ hc e _ => ⟨o.slots, k b o hc e⟩)
    (fun _ _ _ _ n => n) (fun b o hc e => ⟨o, k b o hc e⟩) (fun _ _ e => e) (fun _ _ _ e => e) (fun b ps e => ⟨#[], by rw [e]; simp⟩) (fun m hm => ?_) (fun b u e => ?_) I.bare
  · obtain ⟨o, es, ep, ho, r⟩ := hm
    exact ⟨o, es, ep, k _ o (fun z => (hf _ z).2.1 rfl) ho, r⟩
  · refine (I.hok b u e).stay (fun c v hc q => k c v ?_ q) (fun _ q => q) fun _ _ q => q
    rcases hc with z | z
    · rw [z]; exact nit b u e
    · exact nit c _ z
theorem Inv.turnedNew {t' : Nat} {ch : List Addr} {T : Addr} {ob : HO} (I : Inv X pins σ H s) (k : ∀ b o, b ∉ ch → s.heap.get? b = some o → h'.get? b = some o) (hf : ∀ b ∈ ch, FpOk X pins H b) (hT : s.heap.objs.size ≤ T)
    (new : ObjOk X.prog X.w (upd H T ob) h' T ob) : Inv X pins σ (upd H T ob) { s with heap := h', toks := t' } := by
  have hn : H T = none := I.hok.fresh hT
  have nit : ∀ b u, H b = some u → b ∉ ch := fun b u e z => by
    have q := (hf b z).1
    rw [q] at e; cases e
  refine I.step (g' := s.gens) (d' := s.drawn) (ch := ch) (fun b hb => ⟨(hf b hb).2.2.2.1, (hf b hb).2.1, (hf b hb).2.2.2.2.1, (hf b hb).2.2.2.2.2⟩) (fun b o _ _ hc e _ => k b o hc e) (fun b o _ _ hc e _ => ⟨o.slots, k b o hc e⟩)
    (fun b o _ e n => ?_) (fun b o hc e => ⟨o, k b o hc e⟩) (fun b xs e => ?_) (fun b o u e => ?_) (fun b ps e => ⟨#[], ?_⟩) (fun m hm => ?_) (fun b u e => ?_) I.bare
  · rw [upd_ne (Nat.ne_of_lt (Nat.lt_of_lt_of_le (Heap.lt_size e) hT))]; exact n
  · rw [upd_ne (ne_of_none e hn)]; exact e
  · rw [upd_ne (ne_of_none e hn)]; exact e
  · rw [upd_ne (ne_of_none e hn), e]; simp
  · obtain ⟨o, es, ep, ho, r⟩ := hm
    exact ⟨o, es, ep, k _ o (fun z => (hf _ z).2.1 rfl) ho, r⟩
  · by_cases hb : b = T
    · subst hb
      rw [upd_same] at e
      cases e
      exact new
    · rw [upd_ne hb] at e
      refine (I.hok b u e).stay (fun c v hc q => k c v ?_ q) (fun c q => by rw [upd_ne (ne_of_none q hn)]; exact q) fun c xs q => by rw [upd_ne (ne_of_none q hn)]; exact q
      rcases hc with z | z
      · rw [z]; exact nit b u e
      · exact nit c _ z
theorem Inv.lock {d : Addr} {u : HO} (I : Inv X pins σ H s) (h : H d = some u) (mu : Mut (some u)) : ∃ od, Inv X pins σ (upd H d (.frz od u)) s := by
  have x := I.hok d u h
  have ex : ∃ od, s.heap.get? d = some od := by
    cases u with
    | lst xs => obtain ⟨_, _, _, _, e⟩ := x; exact ⟨_, e⟩
    | dK kvs => obtain ⟨_, _, _, _, o, _, _, e, _⟩ := x; exact ⟨o, e⟩
    | dT kvs => obtain ⟨_, _, _, _, o, _, _, e, _⟩ := x; exact ⟨o, e⟩
    | set S n => obtain ⟨o, _, _, _, e, _⟩ := x; exact ⟨o, e⟩
    | ins C dx fs => obtain ⟨_, _, _, e, _⟩ := x; exact ⟨_, e⟩
    | ext φ => obtain ⟨_, ⟨_, e⟩, _⟩ := x; exact ⟨_, e⟩
    | _ => exact False.elim mu
  obtain ⟨od, e⟩ := ex
  have new : ObjOk X.prog X.w (upd H d (.frz od u)) s.heap d (.frz od u) := by
    refine ⟨e, x.stay (fun b v _ q => q) (fun b q => ?_) fun b xs q => ?_⟩
    · rw [upd_ne (fun z => by rw [z, h] at q; cases q; exact mu)]; exact q
    · rw [upd_ne (fun z => by rw [z, h] at q; cases q; exact mu)]; exact q
  exact ⟨od, I.write (x := d) (e := d) (t' := s.toks) (h' := s.heap) (by rw [h]; exact mu) (.inl rfl) (fun b v _ q => q) ⟨od, e⟩ new⟩
theorem Inv.nofrz {d : Addr} {u : HO} (I : Inv X pins σ H s) (h : H d = some u) (mu : Mut (some u)) : ∀ o' u', X.H_0 d ≠ some (.frz o' u') := fun o' u' e => by
  have q := I.base.frzs d o' u' e
  rw [h] at q
  cases q
  exact mu
theorem Inv.unlock {d : Addr} {od : Obj} {u : HO} (I : Inv X pins σ H s) (h : H d = some (.frz od u)) (hn : ∀ o' u', X.H_0 d ≠ some (.frz o' u')) : Inv X pins σ (upd H d u) s := by
  have neH : ∀ b o, H b = some o → (∀ o' u', o ≠ .frz o' u') → b ≠ d := fun b o e hne z => by
    rw [z, h] at e
    cases e
    exact hne _ _ rfl
  have neN : ∀ b, H b = none → b ≠ d := fun b e z => by rw [z, h] at e; cases e
  refine ⟨I.ok, I.os, I.bare, ⟨I.base.keep, I.base.slot, fun b o e n hx => ?_, I.base.there, fun b xs e => ?_, fun b o x e => ?_, fun b ps e => ?_⟩, I.loc, I.cell, ?_, fun x c e => ?_, fun p hp => ?_, fun b o e => ?_, I.len⟩
  · rw [upd_ne (neN b (I.base.free b o e n hx))]; exact I.base.free b o e n hx
  · have q := I.base.tups b xs e
    rw [upd_ne (neH b _ q (fun _ _ z => nomatch z))]; exact q
  · have q := I.base.frzs b o x e
    rw [upd_ne (fun z => by rw [z] at e; exact hn _ _ e)]; exact q
  · obtain ⟨m, q⟩ := I.base.tbls b ps e
    exact ⟨m, by rw [upd_ne (neH b _ q (fun _ _ z => nomatch z))]; exact q⟩
  · rw [upd_ne (neN _ I.free)]; exact I.free
  · rw [upd_ne (neN c (I.freeC x c e))]; exact I.freeC x c e
  · obtain ⟨e, n, r⟩ := I.pin p hp
    exact ⟨e, by rw [upd_ne (neN _ n)]; exact n, r⟩
  · by_cases hb : b = d
    · rw [hb, upd_same] at e
      cases e
      rw [hb]
      obtain ⟨_, x⟩ := I.hok d _ h
      exact x.stay (fun c v _ q => q) (fun c q => by rw [upd_ne (neH c _ q (fun _ _ z => nomatch z))]; exact q) fun c xs q => by rw [upd_ne (neH c _ q (fun _ _ z => nomatch z))]; exact q
    · rw [upd_ne hb] at e
      exact (I.hok b o e).stay (fun c v _ q => q) (fun c q => by rw [upd_ne (neH c _ q (fun _ _ z => nomatch z))]; exact q) fun c xs q => by rw [upd_ne (neH c _ q (fun _ _ z => nomatch z))]; exact q
end
/-- the statement runs while the thing at d is locked (read, not written); d and what stands there are the reading's choice -/
def tLock (t : TS) : TS := fun D σ H => ∃ d u, H d = some u ∧ Mut (some u) ∧ ∀ od, t ⟨fun σ' H' => H' d = some (.frz od u) ∧ D.nx σ' (upd H' d u), fun v H' => H' d = some (.frz od u) ∧ D.rt v (upd H' d u), fun σ' H' => H' d = some (.frz od u) ∧ D.bk σ' (upd H' d u), fun σ' H' => H' d = some (.frz od u) ∧ D.ct σ' (upd H' d u)⟩ σ (upd H d (.frz od u))
section
variable {X : Cx}
theorem ps_lock {st : Stmt} {t : TS} (h : PS X st t) : PS X st (tLock t) := by
  intro pins s σ H D I hw
  obtain ⟨d, u, hd, mu, hw⟩ := hw
  obtain ⟨od, I1⟩ := I.lock hd mu
  refine thn (h pins s σ _ _ I1 (hw od)) fun f s1 q => ?_
  cases f with
  | next => obtain ⟨σ', H', I2, e, q⟩ := q; exact ⟨σ', _, I2.unlock e (I.nofrz hd mu), q⟩
  | brk => obtain ⟨σ', H', I2, e, q⟩ := q; exact ⟨σ', _, I2.unlock e (I.nofrz hd mu), q⟩
  | cont => obtain ⟨σ', H', I2, e, q⟩ := q; exact ⟨σ', _, I2.unlock e (I.nofrz hd mu), q⟩
  | ret v => obtain ⟨x, σ', H', I2, r, e, q⟩ := q; exact ⟨x, σ', _, I2.unlock e (I.nofrz hd mu), r, q⟩
theorem pi_one {tg : Expr} {pins : List (Addr × Obj)} {σ : St} {H : Hp} {s : Shared} {R : It → Hp → Prop} {J : It} {tn : Nat → Heap → Prop} {tk : Nat} (I : Inv X pins σ H s) (o : Obj)
    (T : Turn X.prog X.w X.K tg J [s.heap.objs.size] s.heap.objs.size tn) (st : tn 0 (s.heap.push o)) (q : R J H) : PIE X pins σ tg R (.ref s.heap.objs.size) { s with heap := s.heap.push o, toks := tk } := by
  refine ⟨s.heap.objs.size, [s.heap.objs.size], tn, J, H, rfl, I.kept fun b ob e => Heap.get?_push_of_some _ e, T, st, fun b hb => ?_, q⟩
  have e : b = s.heap.objs.size := by simpa using hb
  subst e
  exact I.fpOk (Nat.le_refl _) (I.hok.fresh (Nat.le_refl _))
end
section
variable {X : Cx} {tg : Expr}
end
section
variable {X : Cx} {tg : Expr}
end
section
variable {prog : Program} {w : World} {A : Around} {E : Value → Shared → Prop} {s : Shared}
theorem iter_keys {d : Addr} {o : Obj} {es : Array DictEntry} {ep : Nat} {Q : Value → Shared → Prop} (hd : (d == sysModules) = false) (ho : s.heap.get? d = some o) (hc : o.ExactDict) (hdat : o.data = .dict es ep)
    (hQ : Q (.ref s.heap.objs.size) { s with heap := s.heap.push { cls := .type "dict_keyiterator", data := .fields #[.ref d, .int 0 0, .int es.size 0, .int ep 0] } }) :
    wpAny (model prog w) A (pyIter (.ref d)) Q E s := by
  have hT : s.TypeIs (.ref d) "dict" := ⟨o, ho, hc.1⟩
  refine wpAny_pyIter_slot hT F.slot_dict_iter (wpAny_call_entry F.slot_dict_iter hT F.entry_dict_iter ?_ (F.args_dict_iter_1 _))
  unfold Builtin.«dict.__iter__»
  refine wpAny_bind ?_
  unfold Builtin.Dict.dictSlotNone
  refine wpAny_bind (wpAny_notOrdered_dict hT ?_)
  show wpAny _ _ (pure (Value.ref d)) _ _ s
  refine wpAny_pure ?_
  show wpAny _ _ (Builtin.Dict.showsAll d >>= _) _ _ s
  unfold Builtin.Dict.showsAll
  rw [if_neg (by rw [hd]; exact Bool.false_ne_true)]
  refine wpAny_bind (wpAny_pure ?_)
  refine wpAny_bind (wpAny_dictEntries ho hdat ?_)
  refine wpAny_bind (wpAny_dictEpoch ho hdat ?_)
  refine wpAny_bind (wpAny_newObj_type (wpAny_pure ⟨_, rfl, "dict_keyiterator", _, ⟨_, Heap.get?_push_size _ rfl, rfl⟩, F.slot_dict_keyiterator_next.lookup, ?_⟩))
  simpa [rawInt] using hQ
theorem next_key_item {it d : Addr} {i n ep : Nat} {od : Obj} {es : Array DictEntry} {en : DictEntry} {Q : Option Value → Shared → Prop} (hit : s.heap.IsKeyIter it d i n ep) (hod : s.heap.get? d = some od) (hdd : od.data = .dict es ep)
    (hsz : es.size = n) (hx : es[i]? = some en) (hQ : ∀ h', h'.IsKeyIter it d (i + 1) n ep → Heap.SameBut it s.heap h' → Q (some en.key) { s with heap := h' }) : wpAny (model prog w) A (pyNext (.ref it)) Q E s := by
  obtain ⟨o, ho, hc, hd⟩ := id hit
  unfold pyNext
  refine wpAny_bind (wpAny_attempt (wpAny_callSpecial?_slot (name := Str.ofString "__next__") hit.typeIs F.slot_dict_keyiterator_next
    (wpAny_call_entry F.slot_dict_keyiterator_next hit.typeIs F.entry_dict_keyiterator_next ?_ (F.args_dict_keyiterator_next_1 _))))
  refine wpAny_bind (wpAny_pure ?_)
  refine wpAny_bind ?_
  refine wpAny_bind ?_
  first | refine wpAny_bind (wpAny_typeNameOfWhole_keyiter hit.typeIs (wpAny_pure ?_)) | refine wpAny_bind (wpAny_typeNameOf_keyiter hit.typeIs (wpAny_pure ?_))
  refine wpAny_bind (wpAny_fieldsOf ho hd ?_)
  have hown : Builtin.Dict_items.ownsTuple "dict_keyiterator" = false := by decide
  simp only [hown, Bool.false_eq_true, if_false]
  show wpAny _ _ (if (Value.ref d == Value.none) = true then _ else _) _ _ s
  rw [if_neg (show ¬ ((Value.ref d == Value.none) = true) from Bool.false_ne_true)]
  refine wpAny_bind (wpAny_pure ?_)
  refine wpAny_bind (wpAny_dictEntries hod hdd ?_)
  rw [if_neg (by rw [hsz]; simp)]
  refine wpAny_bind (wpAny_pure ?_)
  refine wpAny_bind (wpAny_dictEpoch hod hdd ?_)
  rw [if_neg (by simp)]
  refine wpAny_pure ?_
  obtain ⟨hlt', hen⟩ := Array.getElem?_eq_some_iff.mp hx
  simp only [show ¬ ((i : Int) < 0) from by omega, if_false, Int.toNat_natCast, Array.getElem?_eq_getElem hlt']
  refine wpAny_bind ?_
  first | refine wpAny_bind (wpAny_typeNameOfWhole_keyiter hit.typeIs (wpAny_pure ?_)) | refine wpAny_bind (wpAny_typeNameOf_keyiter hit.typeIs (wpAny_pure ?_))
  refine wpAny_bind (wpAny_isOneOf_keyiter hit.typeIs ?_)
  show wpAny _ _ (setField (.ref it) 1 (rawInt ((i : Int) + 1)) >>= _) _ _ s
  refine wpAny_bind (wpAny_setField ho hd (by simp) ?_)
  have hit' : (s.heap.update it (Obj.mapFields (·.setIfInBounds 1 (rawInt ((i : Int) + 1))))).IsKeyIter it d (i + 1) n ep :=
    ⟨_, Heap.get?_update_self _ ho (Obj.isFreed_of_fields (Obj.data_mapFields hd _)), (Obj.cls_mapFields ..).trans hc, by rw [Obj.data_mapFields hd]; simp [rawInt]⟩
  refine wpAny_bind (wpAny_holding ?_)
  refine wpAny_bind (wpAny_isOneOf_keyiter (s := { s with heap := s.heap.update it (Obj.mapFields (·.setIfInBounds 1 (rawInt ((i : Int) + 1)))) }) hit'.typeIs ?_)
  show wpAny _ _ (pure es[i].key) _ _ _
  rw [hen]
  exact wpAny_pure (wpAny_pure ⟨_, rfl, wpAny_pure (hQ _ hit' (Heap.SameBut.update ..))⟩)
theorem next_key_end {it d : Addr} {i n ep : Nat} {od : Obj} {es : Array DictEntry} {Q : Option Value → Shared → Prop} (hh : A.handled = none) (hit : s.heap.IsKeyIter it d i n ep) (hod : s.heap.get? d = some od) (hdd : od.data = .dict es ep)
    (hsz : es.size = n) (hge : n ≤ i) (hQ : ∀ h', Heap.ExtBut it s.heap h' → Q none { s with heap := h' }) : wpAny (model prog w) A (pyNext (.ref it)) Q E s := by
  obtain ⟨o, ho, hc, hd⟩ := id hit
  unfold pyNext
  refine wpAny_bind (wpAny_attempt (wpAny_callSpecial?_slot (name := Str.ofString "__next__") hit.typeIs F.slot_dict_keyiterator_next
    (wpAny_call_entry F.slot_dict_keyiterator_next hit.typeIs F.entry_dict_keyiterator_next ?_ (F.args_dict_keyiterator_next_1 _))))
  refine wpAny_bind (wpAny_pure ?_)
  refine wpAny_bind ?_
  refine wpAny_bind ?_
  first | refine wpAny_bind (wpAny_typeNameOfWhole_keyiter hit.typeIs (wpAny_pure ?_)) | refine wpAny_bind (wpAny_typeNameOf_keyiter hit.typeIs (wpAny_pure ?_))
  refine wpAny_bind (wpAny_fieldsOf ho hd ?_)
  have hown : Builtin.Dict_items.ownsTuple "dict_keyiterator" = false := by decide
  simp only [hown, Bool.false_eq_true, if_false]
  show wpAny _ _ (if (Value.ref d == Value.none) = true then _ else _) _ _ s
  rw [if_neg (show ¬ ((Value.ref d == Value.none) = true) from Bool.false_ne_true)]
  refine wpAny_bind (wpAny_pure ?_)
  refine wpAny_bind (wpAny_dictEntries hod hdd ?_)
  rw [if_neg (by rw [hsz]; simp)]
  refine wpAny_bind (wpAny_pure ?_)
  refine wpAny_bind (wpAny_dictEpoch hod hdd ?_)
  rw [if_neg (by simp)]
  refine wpAny_pure ?_
  have hge' : es.size ≤ i := by rw [hsz]; exact hge
  simp only [show ¬ ((i : Int) < 0) from by omega, if_false, Int.toNat_natCast, Array.getElem?_eq_none hge']
  refine wpAny_bind ?_
  first | refine wpAny_bind (wpAny_typeNameOfWhole_keyiter hit.typeIs (wpAny_pure ?_)) | refine wpAny_bind (wpAny_typeNameOf_keyiter hit.typeIs (wpAny_pure ?_))
  show wpAny _ _ (setField (.ref it) 0 .none >>= _) _ _ s
  refine wpAny_bind (wpAny_setField ho hd (by simp) ?_)
  show wpAny _ _ (newExc (.type "StopIteration") [] >>= _) _ _ _
  refine wpAny_bind ?_
  simp only [newExc, newTuple]
  refine wpAny_bind (wpAny_newObj_type ?_ (by size_fits))
  refine wpAny_bind (m := firstArgMember _ _) (wpAny_of_eq (a := Value.none) (by first | rfl | (simp only [firstArgMember]; rfl)) ?_)
  refine wpAny_newObj_type ?_ (by size_fits)
  simp only [raiseNew]
  refine wpAny_bind (wpAny_handled ?_)
  rw [show A.in1.handled = none from hh]
  refine wpAny_bind (wpAny_pure (wpAny_throw ?_))
  refine wpAny_bind (wpAny_isInstance (T := "StopIteration") (b := true) ⟨_, Heap.get?_push_size _ rfl, rfl⟩ isSubtype_stop ?_)
  exact wpAny_pure (hQ _ (((Heap.SameBut.update ..).extBut.push _).push _))
end
theorem kv_get {κ : Type} {kvs : List (κ × V)} {vs : List (κ × Value)} (h : KV kvs vs) : ∀ {i : Nat} {k : κ} {v : V}, kvs[i]? = some (k, v) → ∃ u, vs[i]? = some (k, u) ∧ RelV v u := by
  unfold KV at h
  induction h with
  | nil => intro i k v e; simp at e
  | @cons a b l₁ l₂ r t ih =>
    intro i k v e
    cases i with
    | zero =>
      simp only [List.getElem?_cons_zero, Option.some.injEq] at e
      subst e
      refine ⟨b.2, ?_, r.2⟩
      simp only [List.getElem?_cons_zero]
      exact congrArg some (Prod.ext r.1.symm rfl)
    | succ j =>
      simp only [List.getElem?_cons_succ] at e ⊢
      exact ih e
theorem paired_get {α β : Type} {G : α → β → Prop} {l₁ : List α} {l₂ : List β} (h : Paired G l₁ l₂) : ∀ {i : Nat} {a : α}, l₁[i]? = some a → ∃ b, l₂[i]? = some b ∧ G a b := by
  induction h with
  | nil => intro i a e; simp at e
  | @cons a b l₁ l₂ r t ih =>
    intro i a' e
    cases i with
    | zero =>
      simp only [List.getElem?_cons_zero, Option.some.injEq] at e
      subst e
      exact ⟨b, rfl, r⟩
    | succ j =>
      simp only [List.getElem?_cons_succ] at e ⊢
      exact ih e
theorem relV_key {k : Key} {u : Value} (h : keyIs k u = true) : RelV (kV k) u := by
  rcases keyIs_shape h with ⟨i, t, rfl, rfl⟩ | ⟨x, t, rfl, rfl⟩
  · exact ⟨t, rfl⟩
  · exact ⟨t, rfl⟩
section
variable {X : Cx} {pins : List (Addr × Obj)} {σ : St} {H : Hp} {s : Shared} {d : Addr} {o : Obj}
theorem Inv.frzK {kvs : List (Key × V)} (I : Inv X pins σ H s) (h : H d = some (.frz o (.dK kvs))) :
    (d == sysModules) = false ∧ s.heap.get? d = some o ∧ o.ExactDict ∧ ∃ (es : Array DictEntry) (ep : Nat) (vs : List (Key × Value)), o.data = .dict es ep ∧ es.size = kvs.length ∧ KV kvs vs ∧ s.heap.DictAt (mixKind X.prog X.w) d vs ep := by
  obtain ⟨hd, z, hs, vs, kv, o', es, ep, ho, hx, hdt, r⟩ := I.hok d _ h
  rw [hd] at ho
  cases ho
  refine ⟨hs, hd, hx, es, ep, vs, hdt, ?_, kv, o, es, hd, hx, hdt, r⟩
  have l1 := r.2.1.length
  have l2 : kvs.length = vs.length := Paired.length kv
  rw [Array.length_toList] at l1
  omega
theorem Inv.frzT {kvs : List (List Key × V)} (I : Inv X pins σ H s) (h : H d = some (.frz o (.dT kvs))) :
    (d == sysModules) = false ∧ s.heap.get? d = some o ∧ o.ExactDict ∧ ∃ (es : Array DictEntry) (ep : Nat), o.data = .dict es ep ∧ es.size = kvs.length ∧
      ∀ (i : Nat) (k : List Key) (v : V), kvs[i]? = some (k, v) → ∃ (en : DictEntry) (q : Addr), es[i]? = some en ∧ en.key = .ref q ∧ H q = some (.tup (k.map kV)) := by
  obtain ⟨hd, z, hs, xs, pr, o', es, ep, ho, hx, hdt, he, _⟩ := I.hok d _ h
  rw [hd] at ho
  cases ho
  refine ⟨hs, hd, hx, es, ep, hdt, ?_, fun i k v e => ?_⟩
  · have l1 : es.size = xs.length := size_of_entries he
    have l2 : kvs.length = xs.length := Paired.length pr
    omega
  · obtain ⟨b, hb, e1, e2, _⟩ := paired_get pr e
    have q := entry_at he i
    rw [hb] at q
    exact ⟨_, b.2.1, q, rfl, e2⟩
end
/-- the keys of the locked dict at d, in their order -/
def Itk (d : Addr) (o : Obj) (kvs : List (Key × V)) : It :=
  ⟨fun i H => H d = some (.frz o (.dK kvs)) ∧ i < kvs.length, fun i H x H' => H' = H ∧ ∃ k v, kvs[i]? = some (k, v) ∧ x = kV k, fun i H => H d = some (.frz o (.dK kvs)) ∧ kvs.length ≤ i⟩
/-- .. of tuple keys: the key's own tuple -/
def Itkt (d : Addr) (o : Obj) (kvs : List (List Key × V)) : It :=
  ⟨fun i H => H d = some (.frz o (.dT kvs)) ∧ i < kvs.length, fun i H x H' => H' = H ∧ ∃ (k : List Key) (v : V) (q : Addr), kvs[i]? = some (k, v) ∧ x = .ref q ∧ H q = some (.tup (k.map kV)), fun i H => H d = some (.frz o (.dT kvs)) ∧ kvs.length ≤ i⟩
theorem dict_ep {o : Obj} {es es' : Array DictEntry} {ep ep' : Nat} (h : o.data = .dict es ep) (h' : o.data = .dict es' ep') : es' = es ∧ ep' = ep := by
  rw [h] at h'
  cases h'
  exact ⟨rfl, rfl⟩
section
variable {P : Program} {w : World} {K : PySem.W.Frag} {tg : Expr} {d : Addr} {o : Obj} {es : Array DictEntry} {ep : Nat}
theorem turn_keys {kvs : List (Key × V)} (it : Addr) (hod : o.data = .dict es ep) : Turn P w K tg (Itk d o kvs) [it] it (fun i h => h.IsKeyIter it d i kvs.length ep) where
  mem := by simp
  obj := fun i h st b hb => by
    have e : b = it := by simpa using hb
    subst e
    obtain ⟨oi, e, c, dd⟩ := st
    exact ⟨oi, e, fun v z => by rw [dd] at z; cases z⟩
  keep := fun i h h' st k => st.at fun oi e => k it (by simp) oi e
  item := by
    intro X hP hw hK hc i pins s σ H E I hf st hg
    subst hP hw hK
    obtain ⟨hd, hi⟩ := hg
    obtain ⟨f0, f1, f2, f3, f4, f5⟩ := hf it (by simp)
    obtain ⟨hs, hgd, hx, es', ep', vs, hdt, hsz, kv, hm⟩ := I.frzK hd
    obtain ⟨rfl, rfl⟩ := dict_ep hod hdt
    obtain ⟨⟨k, v⟩, hkv⟩ : ∃ p, kvs[i]? = some p := ⟨kvs[i], List.getElem?_eq_getElem hi⟩
    obtain ⟨u, hu, ru⟩ := kv_get kv hkv
    have hl : kvs.length = vs.length := Paired.length kv
    rw [hl] at st
    refine wpAny_pyNext_dict_item st hm hu fun key h' hkey st' sb => ?_
    have I1 : Inv X pins σ H { s with heap := h' } := I.turned (t' := s.toks) (fun b ob hb e => (sb.2 b hb).trans e) f0 f1 f3 f4 f5
    obtain ⟨oi, e, c, dd⟩ := id st'
    refine ⟨key, rfl, go_of (s := { s with heap := h' }) e c dd (by decide) ⟨kV k, H, I1, relV_key (show keyIs k key = true from hkey), ⟨rfl, k, v, hkv, rfl⟩, ?_, fun b hb => (hf b hb).1⟩⟩
    show h'.IsKeyIter it d (i + 1) kvs.length _
    rw [hl]
    exact st'
  done := by
    intro X hP hw hK hc i pins s σ H E I hf st hg
    subst hP hw hK
    obtain ⟨hd, hi⟩ := hg
    obtain ⟨f0, f1, f2, f3, f4, f5⟩ := hf it (by simp)
    obtain ⟨hs, hgd, hx, es', ep', vs, hdt, hsz, kv, hm⟩ := I.frzK hd
    obtain ⟨rfl, rfl⟩ := dict_ep hod hdt
    exact next_key_end (I.ok.hd hc) st hgd hdt hsz hi fun h' eb => ⟨rfl, I.turned (t' := s.toks) (fun b ob hb e => eb b ob hb e) f0 f1 f3 f4 f5⟩
  self := fun A i s Q E st h => wpAny_pyIter_keyiter st h
theorem turn_keysT {kvs : List (List Key × V)} (it : Addr) (hod : o.data = .dict es ep) : Turn P w K tg (Itkt d o kvs) [it] it (fun i h => h.IsKeyIter it d i kvs.length ep) where
  mem := by simp
  obj := fun i h st b hb => by
    have e : b = it := by simpa using hb
    subst e
    obtain ⟨oi, e, c, dd⟩ := st
    exact ⟨oi, e, fun v z => by rw [dd] at z; cases z⟩
  keep := fun i h h' st k => st.at fun oi e => k it (by simp) oi e
  item := by
    intro X hP hw hK hc i pins s σ H E I hf st hg
    subst hP hw hK
    obtain ⟨hd, hi⟩ := hg
    obtain ⟨f0, f1, f2, f3, f4, f5⟩ := hf it (by simp)
    obtain ⟨hs, hgd, hx, es', ep', hdt, hsz, ent⟩ := I.frzT hd
    obtain ⟨rfl, rfl⟩ := dict_ep hod hdt
    obtain ⟨⟨k, v⟩, hkv⟩ : ∃ p, kvs[i]? = some p := ⟨kvs[i], List.getElem?_eq_getElem hi⟩
    obtain ⟨en, q, hen, hkey, hq⟩ := ent i k v hkv
    refine next_key_item st hgd hdt hsz hen fun h' st' sb => ?_
    have I1 : Inv X pins σ H { s with heap := h' } := I.turned (t' := s.toks) (fun b ob hb e => (sb.2 b hb).trans e) f0 f1 f3 f4 f5
    obtain ⟨oi, e, c, dd⟩ := id st'
    exact ⟨en.key, rfl, go_of (s := { s with heap := h' }) e c dd (by decide) ⟨.ref q, H, I1, hkey, ⟨rfl, k, v, q, hkv, rfl, hq⟩, st', fun b hb => (hf b hb).1⟩⟩
  done := by
    intro X hP hw hK hc i pins s σ H E I hf st hg
    subst hP hw hK
    obtain ⟨hd, hi⟩ := hg
    obtain ⟨f0, f1, f2, f3, f4, f5⟩ := hf it (by simp)
    obtain ⟨hs, hgd, hx, es', ep', hdt, hsz, ent⟩ := I.frzT hd
    obtain ⟨rfl, rfl⟩ := dict_ep hod hdt
    exact next_key_end (I.ok.hd hc) st hgd hdt hsz hi fun h' eb => ⟨rfl, I.turned (t' := s.toks) (fun b ob hb e => eb b ob hb e) f0 f1 f3 f4 f5⟩
  self := fun A i s Q E st h => by
    refine wpAny_pyIter_slot st.typeIs F.slot_dict_keyiterator_iter (wpAny_call_entry F.slot_dict_keyiterator_iter st.typeIs F.entry_dict_keyiterator_iter ?_ (F.args_dict_keyiterator_iter_1 _))
    show wpAny _ _ (ret (.ref it)) _ _ s
    exact wpAny_pure ⟨_, rfl, "dict_keyiterator", _, st.typeIs, F.slot_dict_keyiterator_next.lookup, h⟩
end
/-- the dict is locked (tLock, or by the caller) -/
def iKeys (td : TE) : TI := fun σ H R => td σ H fun x H1 => ∃ d o, x = .ref d ∧ ((∃ kvs, H1 d = some (.frz o (.dK kvs)) ∧ R (Itk d o kvs) H1) ∨ ∃ kvs, H1 d = some (.frz o (.dT kvs)) ∧ R (Itkt d o kvs) H1)
section
variable {X : Cx} {tg e : Expr} {td : TE} {apos cpos : Pos}
theorem pi_keys (he : PE X e td) : PI X tg e (iKeys td) := by
  intro pins s σ H R I h
  refine thn (he pins s σ H _ I h) fun u s1 ⟨x, H1, I1, rx, d, o, ex, q⟩ => ?_
  subst ex
  obtain rfl : u = Value.ref d := rx
  rcases q with ⟨kvs, hd, q⟩ | ⟨kvs, hd, q⟩
  · obtain ⟨hs, hgd, hx, es, ep, vs, hdt, hsz, kv, hm⟩ := I1.frzK hd
    refine iter_keys hs hgd hx hdt (pi_one (tk := s1.toks) I1 _ (turn_keys _ hdt) ⟨_, Heap.get?_push_size _ rfl, rfl, ?_⟩ q)
    rw [hsz] <;> rfl
  · obtain ⟨hs, hgd, hx, es, ep, hdt, hsz, ent⟩ := I1.frzT hd
    refine iter_keys hs hgd hx hdt (pi_one (tk := s1.toks) I1 _ (turn_keysT _ hdt) ⟨_, Heap.get?_push_size _ rfl, rfl, ?_⟩ q)
    rw [hsz] <;> rfl
end
/-- the list at a as it stands at each turn, each item in a new pair -/
def Ite (K : PySem.W.Frag) (a : Addr) : It :=
  ⟨fun i H => ∃ (xs : List V) (x : V), SqL K H a xs ∧ xs[i]? = some x, fun i H v H' => ∃ T x, v = .ref T ∧ H T = none ∧ H' = upd H T (.tup [.int (i : Nat), x]) ∧ ∀ xs, SqL K H a xs → xs[i]? = some x, fun i H => ∃ xs : List V, SqL K H a xs ∧ xs.length ≤ i⟩
theorem turn_enum {P : Program} {w : World} {K : PySem.W.Frag} {elts : List Expr} {kk : Nat} {tpos : Pos} (a e it : Addr) :
    Turn P w K (.Tuple elts kk tpos) (Ite K a) [e, it] e (fun i h => (∃ old, IsEnum h e it ((i : Nat) : Int) old) ∧ h.IsListIter it a i ∧ e ≠ it) where
  mem := by simp
  obj := fun i h st b hb => by
    obtain ⟨⟨old, he⟩, ⟨o, ho, hc, hd⟩, _⟩ := st
    have e' : b = e ∨ b = it := by simpa using hb
    rcases e' with z | z
    · rw [z]; exact ⟨_, he, fun v q => nomatch q⟩
    · rw [z]; exact ⟨o, ho, fun v q => by rw [hd] at q; cases q⟩
  keep := fun i h h' st k => let ⟨⟨old, he⟩, hi, hne⟩ := st; ⟨⟨old, k e (by simp) _ he⟩, hi.at fun o q => k it (by simp) o q, hne⟩
  item := by
    intro X hP hw hK hc i pins s σ H E I hf st hg
    subst hP hw hK
    obtain ⟨⟨old, he⟩, hit, hne⟩ := st
    obtain ⟨xs, x, hq, hx⟩ := hg
    obtain ⟨its, rv, p, hz⟩ := I.list hq
    obtain ⟨u, hu, ru⟩ := rv.get hx
    have hel : e < s.heap.objs.size := Heap.lt_size he
    have hil : it < s.heap.objs.size := by obtain ⟨_, q, _⟩ := hit; exact Heap.lt_size q
    refine wpAny_pyNext_enum_item he hit p.isList (x := u) (by simpa using hu) hne fun h' ho hit' hT hsz hk => ?_
    refine ⟨_, rfl, wpAny_letOwnedTupleGo_enum (s := { s with heap := h', toks := s.toks + 1 }) ho fun h'' he' sb => ?_⟩
    have hT2 : h''.get? s.heap.objs.size = some { cls := .type "tuple", data := .seq #[.int i s.toks, u] } := (sb.2 _ (Nat.ne_of_gt hel)).trans hT
    have new : ObjOk X.prog X.w (upd H s.heap.objs.size (.tup [.int (i : Nat), x])) h'' s.heap.objs.size (.tup [.int (i : Nat), x]) :=
      ⟨by show 2 ≤ sizeLine; decide, [.int i s.toks, u], .cons ⟨_, rfl⟩ (.cons ru .nil), ⟨_, hT2, rfl, _, rfl⟩⟩
    have I1 : Inv X pins σ (upd H s.heap.objs.size (.tup [.int (i : Nat), x])) { s with heap := h'', toks := s.toks + 1 } :=
      I.turnedNew (ch := [e, it]) (fun b ob hb q => (sb.2 b (fun z => hb (by simp [z]))).trans (hk b ob (fun z => hb (by simp [z])) (fun z => hb (by simp [z])) q)) hf (Nat.le_refl _) new
    refine ⟨.ref s.heap.objs.size, _, I1, rfl, ⟨_, x, rfl, I.hok.fresh (Nat.le_refl _), rfl, fun ys hy => by rw [I.list_inj hy hq]; exact hx⟩, ⟨⟨u, ?_⟩, hit'.at fun o q => (sb.2 it (Ne.symm hne)).trans q, hne⟩, fun b hb => ?_⟩
    · have e1 : ((i + 1 : Nat) : Int) = (i : Int) + 1 := by omega
      rw [e1]; exact he'
    · have hb' : b < s.heap.objs.size := by
        have e' : b = e ∨ b = it := by simpa using hb
        rcases e' with z | z
        · rw [z]; exact hel
        · rw [z]; exact hil
      rw [upd_ne (Nat.ne_of_lt hb')]
      exact (hf b hb).1
  done := by
    intro X hP hw hK hc i pins s σ H E I hf st hg
    subst hP hw hK
    obtain ⟨⟨old, he⟩, hit, hne⟩ := st
    obtain ⟨xs, hq, hx⟩ := hg
    obtain ⟨its, rv, p, hz⟩ := I.list hq
    obtain ⟨f0, f1, f2, f3, f4, f5⟩ := hf it (by simp)
    have hl := rv.length
    exact wpAny_pyNext_enum_end (I.ok.hd hc) he hit p.isList (by simp; omega) fun h' eb => ⟨rfl, I.turned (t' := s.toks) (fun b o hb q => eb b o hb q) f0 f1 f3 f4 f5⟩
  self := fun A i s Q E st h => let ⟨⟨_, he⟩, _⟩ := st; wpAny_pyIter_enum he h
def iEnum (K : PySem.W.Frag) (ta : TA) : TI := fun σ H R => ta σ H fun vs H1 => ∃ a xs, vs = [.ref a] ∧ SqL K H1 a xs ∧ R (Ite K a) H1
theorem pi_enum {X : Cx} {e : Expr} {ta : TA} {p pos tpos : Pos} {elts : List Expr} {kk : Nat} (hg : Gl X "enumerate") (hm : X.mg "enumerate" = none) (ha : PA X [e] ta) (hs : starEach [e] X.env = [(false, eval e X.env)] := by rfl) :
    PI X (.Tuple elts kk tpos) (.Call (.Name "enumerate" p) [e] [] pos) (iEnum X.K ta) := by
  intro pins s σ H R I h
  refine Call_ (ld_blt I hg hm boot_enumerate (PyProof.Rows.callWith_type1 (thn (ha pos pins s σ H _ I h) fun us s1 ⟨vs, H1, I1, r1, q1⟩ => ?_) hs rfl))
  obtain ⟨a, xs, ex, hq, q⟩ := q1
  subst ex
  cases r1 with
  | cons r rr =>
    cases rr
    cases r
    obtain ⟨its, rv, p', hz⟩ := I1.list hq
    refine call_enumerate_list p'.isList fun h' he hit hsz hk => wpAny_pyIter_enum he ?_
    have I2 : Inv X pins σ H1 { s1 with heap := h' } := I1.kept (t' := s1.toks) hk
    refine ⟨s1.heap.objs.size + 1, [s1.heap.objs.size + 1, s1.heap.objs.size], _, _, H1, rfl, I2, turn_enum a (s1.heap.objs.size + 1) s1.heap.objs.size, ⟨⟨.none, he⟩, hit, Nat.succ_ne_self _⟩, fun b hb => ?_, q⟩
    have e' : b = s1.heap.objs.size + 1 ∨ b = s1.heap.objs.size := by simpa using hb
    have hle : s1.heap.objs.size ≤ b := by
      rcases e' with z | z
      · rw [z]; exact Nat.le_add_right _ _
      · rw [z]; exact Nat.le_refl _
    exact I1.fpOk hle (I1.hok.fresh hle)
theorem boot_zip5 : bootBuiltins "zip" = some (.type "zip") := by decide +kernel
/-- the lists at a and b as they stand at each turn, the items in new pairs -/
def Itz (K : PySem.W.Frag) (a b : Addr) : It :=
  ⟨fun i H => ∃ (xs ys : List V) (x y : V), SqL K H a xs ∧ SqL K H b ys ∧ xs[i]? = some x ∧ ys[i]? = some y,
    fun i H v H' => ∃ T x y, v = .ref T ∧ H T = none ∧ H' = upd H T (.tup [x, y]) ∧ (∀ xs, SqL K H a xs → xs[i]? = some x) ∧ ∀ ys, SqL K H b ys → ys[i]? = some y,
    fun i H => ∃ xs ys : List V, SqL K H a xs ∧ SqL K H b ys ∧ (xs.length ≤ i ∨ ys.length ≤ i)⟩
theorem turn_zip {P : Program} {w : World} {K : PySem.W.Frag} {elts : List Expr} {kk : Nat} {tpos : Pos} {a b z TI TO i1 i2 : Addr} (D : ZipApart z TI TO i1 i2 a b) :
    Turn P w K (.Tuple elts kk tpos) (Itz K a b) [z, TI, TO, i1, i2] z (fun i h => IsZip h z TI TO .none ∧ IsPair h TI (.ref i1) (.ref i2) ∧ (∃ x y, IsPair h TO x y) ∧ h.IsListIter i1 a i ∧ h.IsListIter i2 b i) where
  mem := by simp
  obj := fun i h st c hc => by
    obtain ⟨hz, hTI, ⟨x, y, hTO⟩, ⟨o1, e1, _, d1⟩, ⟨o2, e2, _, d2⟩⟩ := st
    have e' : c = z ∨ c = TI ∨ c = TO ∨ c = i1 ∨ c = i2 := by simpa using hc
    rcases e' with q | q | q | q | q
    · rw [q]; exact ⟨_, hz, fun v q => nomatch q⟩
    · rw [q]; exact ⟨_, hTI, fun v q => nomatch q⟩
    · rw [q]; exact ⟨_, hTO, fun v q => nomatch q⟩
    · rw [q]; exact ⟨o1, e1, fun v q => by rw [d1] at q; cases q⟩
    · rw [q]; exact ⟨o2, e2, fun v q => by rw [d2] at q; cases q⟩
  keep := fun i h h' st k => by
    obtain ⟨hz, hTI, ⟨x, y, hTO⟩, h1, h2⟩ := st
    exact ⟨k z (by simp) _ hz, k TI (by simp) _ hTI, ⟨x, y, k TO (by simp) _ hTO⟩, h1.at fun o q => k i1 (by simp) o q, h2.at fun o q => k i2 (by simp) o q⟩
  item := by
    intro X hP hw hK hc i pins s σ H E I hf st hg
    subst hP hw hK
    obtain ⟨hz, hTI, ⟨x0, y0, hTO⟩, h1, h2⟩ := st
    obtain ⟨xs, ys, x, y, hqx, hqy, hx, hy⟩ := hg
    obtain ⟨its, rv, p, _⟩ := I.list hqx
    obtain ⟨its2, rv2, p2, _⟩ := I.list hqy
    obtain ⟨u, hu, ru⟩ := rv.get hx
    obtain ⟨u2, hu2, ru2⟩ := rv2.get hy
    have hzl : z < s.heap.objs.size := Heap.lt_size hz
    refine wpAny_pyNext_zip_item D hz hTI hTO h1 h2 p.isList p2.isList (x := u) (y := u2) (by simpa using hu) (by simpa using hu2) fun h' z' TO' h1' h2' hT hsz hk => ?_
    refine ⟨_, rfl, wpAny_letOwnedTupleGo_zip (s := { s with heap := h' }) z' fun h'' z'' sb => ?_⟩
    have hT2 : h''.get? s.heap.objs.size = some { cls := .type "tuple", data := .seq #[u, u2] } := (sb.2 _ (Nat.ne_of_gt hzl)).trans hT
    have new : ObjOk X.prog X.w (upd H s.heap.objs.size (.tup [x, y])) h'' s.heap.objs.size (.tup [x, y]) :=
      ⟨by show 2 ≤ sizeLine; decide, [u, u2], .cons ru (.cons ru2 .nil), ⟨_, hT2, rfl, _, rfl⟩⟩
    have I1 : Inv X pins σ (upd H s.heap.objs.size (.tup [x, y])) { s with heap := h'' } :=
      I.turnedNew (t' := s.toks) (ch := [z, TI, TO, i1, i2]) (fun c o hb q => (sb.2 c (fun q' => hb (by simp [q']))).trans (hk c o (fun q' => hb (by simp [q'])) (fun q' => hb (by simp [q'])) (fun q' => hb (by simp [q'])) (fun q' => hb (by simp [q'])) q)) hf (Nat.le_refl _) new
    refine ⟨.ref s.heap.objs.size, _, I1, rfl, ⟨_, x, y, rfl, I.hok.fresh (Nat.le_refl _), rfl, fun l hl => by rw [I.list_inj hl hqx]; exact hx, fun l hl => by rw [I.list_inj hl hqy]; exact hy⟩, ⟨z'', ?_, ⟨u, u2, ?_⟩, ?_, ?_⟩, fun c hcm => ?_⟩
    · exact (sb.2 _ D.TIz).trans (hk _ _ D.TIz D.TITO D.TIi1 D.TIi2 hTI)
    · exact (sb.2 _ D.TOz).trans TO'
    · exact h1'.at fun o q => (sb.2 _ D.i1z).trans q
    · exact h2'.at fun o q => (sb.2 _ D.i2z).trans q
    · have hlt : c < s.heap.objs.size := by
        have e' : c = z ∨ c = TI ∨ c = TO ∨ c = i1 ∨ c = i2 := by simpa using hcm
        rcases e' with q | q | q | q | q
        · rw [q]; exact hzl
        · rw [q]; exact Heap.lt_size hTI
        · rw [q]; exact Heap.lt_size hTO
        · rw [q]; obtain ⟨_, e1, _⟩ := h1; exact Heap.lt_size e1
        · rw [q]; obtain ⟨_, e2, _⟩ := h2; exact Heap.lt_size e2
      rw [upd_ne (Nat.ne_of_lt hlt)]
      exact (hf c hcm).1
  done := by
    intro X hP hw hK hc i pins s σ H E I hf st hg
    subst hP hw hK
    obtain ⟨hz, hTI, ⟨x0, y0, hTO⟩, h1, h2⟩ := st
    obtain ⟨xs, ys, hqx, hqy, hend⟩ := hg
    obtain ⟨its, rv, p, _⟩ := I.list hqx
    obtain ⟨its2, rv2, p2, _⟩ := I.list hqy
    have l1 := rv.length
    have l2 := rv2.length
    have he : its.toArray[i]? = none ∨ its2.toArray[i]? = none := by
      rcases hend with q | q
      · exact .inl (by simp; omega)
      · exact .inr (by simp; omega)
    exact wpAny_pyNext_zip_end (I.ok.hd hc) D hz hTI hTO h1 h2 p.isList p2.isList he fun h' hk => ⟨rfl, I.turnedL (t' := s.toks) (ch := [z, TI, TO, i1, i2]) (fun c o hb q =>
      hk c o (fun q' => hb (by simp [q'])) (fun q' => hb (by simp [q'])) (fun q' => hb (by simp [q'])) (fun q' => hb (by simp [q'])) q) hf⟩
  self := fun A i s Q E st h => wpAny_pyIter_zip st.1 h
def iZip (K : PySem.W.Frag) (ta : TA) : TI := fun σ H R => ta σ H fun vs H1 => ∃ a b xs ys, vs = [.ref a, .ref b] ∧ SqL K H1 a xs ∧ SqL K H1 b ys ∧ R (Itz K a b) H1
theorem pi_zip {X : Cx} {e e2 : Expr} {ta : TA} {p pos tpos : Pos} {elts : List Expr} {kk : Nat} (hg : Gl X "zip") (hm : X.mg "zip" = none) (ha : PA X [e, e2] ta)
    (hs : starEach [e, e2] X.env = (false, eval e X.env) :: starEach [e2] X.env := by rfl) (hpl : (backTo pos (starEach [e2] X.env)).any (·.1) = false := by rfl) :
    PI X (.Tuple elts kk tpos) (.Call (.Name "zip" p) [e, e2] [] pos) (iZip X.K ta) := by
  intro pins s σ H R I h
  refine Call_ (ld_blt I hg hm boot_zip5 (PyProof.Rows.callWith_type1 (thn (ha pos pins s σ H _ I h) fun us s1 ⟨vs, H1, I1, r1, q1⟩ => ?_) hs hpl))
  obtain ⟨a, b, xs, ys, ex, hqx, hqy, q⟩ := q1
  subst ex
  cases r1 with
  | cons r rr =>
    cases rr with
    | cons r' rr =>
      cases rr
      cases r
      cases r'
      obtain ⟨its, rv, p1, _⟩ := I1.list hqx
      obtain ⟨its2, rv2, p2, _⟩ := I1.list hqy
      have la : a < s1.heap.objs.size := p1.lt
      have lb : b < s1.heap.objs.size := p2.lt
      refine call_zip_2 p1.isList p2.isList fun h' hz hTI hTO h1 h2 hsz hk => wpAny_pyIter_zip hz ?_
      have I2 : Inv X pins σ H1 { s1 with heap := h' } := I1.kept (t' := s1.toks) hk
      refine ⟨s1.heap.objs.size + 4, [s1.heap.objs.size + 4, s1.heap.objs.size + 2, s1.heap.objs.size + 3, s1.heap.objs.size, s1.heap.objs.size + 1], _, _, H1, rfl, I2, turn_zip (PySem.W.ktu_apart s1.heap.objs.size a b la lb), ⟨hz, hTI, ⟨_, _, hTO⟩, h1, h2⟩, fun c hcm => ?_, q⟩
      have e' : c = s1.heap.objs.size + 4 ∨ c = s1.heap.objs.size + 2 ∨ c = s1.heap.objs.size + 3 ∨ c = s1.heap.objs.size ∨ c = s1.heap.objs.size + 1 := by simpa using hcm
      have hle : s1.heap.objs.size ≤ c := by
        rcases e' with z | z | z | z | z
        · rw [z]; exact Nat.le_add_right _ _
        · rw [z]; exact Nat.le_add_right _ _
        · rw [z]; exact Nat.le_add_right _ _
        · rw [z]; exact Nat.le_refl _
        · rw [z]; exact Nat.le_add_right _ _
      exact I1.fpOk hle (I1.hok.fresh hle)
end L2
section 
namespace Bits
open PySem PyProof.Rows
end Bits
end 
section 
namespace TL
open PySem PySem.Builtin PySem.Builtin.Str PySem.StrLaws
end TL
end 
namespace L2
open PySem PySem.Spec PyProof.Rows
section
variable {X : Cx} {pins : List (Addr × Obj)} {σ : St} {H : Hp} {s : Shared} {Q : VK}
end
section
variable {X : Cx}
end
section
variable {X : Cx} {o e : Expr} {to te : TE}
end
end L2
namespace L2
open PySem PySem.Spec PyProof.Rows
section
variable {X : Cx}
end
end L2
namespace Att
open PySem PySem.W PySem.Calls PyProof.Rows
section
variable {prog : Program} {w : World} {A : Around} {E : Value → Shared → Prop} {s : Shared} {K : Frag}
end
end Att
namespace L2
open PySem PySem.Spec PyProof.Rows
end L2
namespace L2
open PySem PySem.Spec PyProof.Rows
end L2
namespace L2
open PySem PySem.Spec PyProof.Rows
/-- the j-th statement of a class's body -/
def inClass (s : Stmt) (j : Nat) : Stmt := match s with
  | .ClassDef _ _ _ body _ _ _ _ _ _ _ => body.getD j (.Pass ⟨0, 0, 0, 0⟩)
  | _ => .Pass ⟨0, 0, 0, 0⟩
def defArgs (s : Stmt) : Arguments := match s with
  | .FunctionDef _ a _ _ _ _ _ _ _ _ => a
  | _ => { posonlyargs := [], args := [], vararg := none, kwonlyargs := [], kw_defaults := [], kwarg := none, defaults := [] }
def defBody (s : Stmt) : List Stmt := match s with
  | .FunctionDef _ _ b _ _ _ _ _ _ _ => b
  | _ => []
def defScope (s : Stmt) : Scope := match s with
  | .FunctionDef _ _ _ _ _ _ sc _ _ _ => sc
  | _ => { kind := .function, names := [], isGenerator := false, isCoroutine := false }
abbrev CX0 : CXT := fun _ _ _ _ _ _ => False
abbrev E0 : XK := fun _ _ _ => False
theorem pass0 {X : Cx} : Passes CX0 X E0 := fun _ _ _ _ _ _ _ h => h.elim
structure Fun (K : PySem.W.Frag) (x qual : Str) (st : Stmt) (f : Addr) (fd : FuncData) : Prop where
  ex : ∃ (oc : Value) (od : Option Addr) (kV doc pm : Value) (an : Option Addr) (cdv ct : Value) (osl : Array (Option Value)),
    fd = PySem.W.fnOf x qual (defArgs st) (defBody st) (defScope st) .none kV doc pm an cdv ct ∧ K.lookup f = some ⟨oc, od, .func fd, osl⟩ ∧ PySem.W.codeIn K cdv qual = true
  kp : PySem.W.keepIn K (.ref f) = true
section
variable {P : Program} {w : World} {K : PySem.W.Frag} {mg : Str → Option Value} {base : Heap}
theorem Fun.ok {x qual : Str} {st : Stmt} {f : Addr} {fd : FuncData} {N ps : List Str} {k : Nat} {sp : Sp} (F : Fun K x qual st f fd) (S : FnScope N ps (defScope st)) (len : ∀ vs H Q E, sp vs H Q E → vs.length = ps.length)
    (hbody : ∀ (cdv : Value) (A : Around) (outer : List Env) (s : Shared) (H : Hp) (vs : List V) (Q : VK) (E : XK), Room k (A.deeper (envOfC qual (defScope st) s.heap.objs.size f cdv)) → sp vs H Q E →
      ∃ t, PSs (cxOf CX0 P w K mg base N qual (defScope st) f cdv A outer s H E).nox (defBody st) t ∧ t { nx := fun _ H' => Q .non H', rt := Q } (start N vs) H) : FnOk P w K mg base CX0 (k + 1) f fd ps sp := by
  obtain ⟨oc, od, kV, doc, pm, an, cdv, ct, osl, rfl, lk, hcd⟩ := F.ex
  refine fn_of lk hcd S len fun A outer s H vs Q E hr hsp => ?_
  obtain ⟨t, h, q⟩ := hbody cdv A outer s H vs Q E hr hsp
  exact ⟨t, h.nox, q⟩
theorem Fun.binds {x qual : Str} {st : Stmt} {f : Addr} {fd : FuncData} {ps : List Str} (F : Fun K x qual st f fd)
    (h : ∀ (kV doc pm : Value) (an : Option Addr) (cdv ct : Value) (us : List Value), us.length = ps.length → bindArgs (PySem.W.fnOf x qual (defArgs st) (defBody st) (defScope st) .none kV doc pm an cdv ct) ⟨us, []⟩ = pure (ps.zip us)) : Binds K fd ps [] := by
  obtain ⟨oc, od, kV, doc, pm, an, cdv, ct, osl, rfl, lk, hcd⟩ := F.ex
  exact .all (h kV doc pm an cdv ct)
theorem fun_mk {x qual : Str} {st : Stmt} {f : Addr} {oc : Value} {od an : Option Addr} {osl : Array (Option Value)} {kV doc pm cdv ct : Value} (l : K.lookup f = some ⟨oc, od, .func (PySem.W.fnOf x qual (defArgs st) (defBody st) (defScope st) .none kV doc pm an cdv ct), osl⟩)
    (c : PySem.W.codeIn K cdv qual = true) (k : PySem.W.keepIn K (.ref f) = true) : Fun K x qual st f (PySem.W.fnOf x qual (defArgs st) (defBody st) (defScope st) .none kV doc pm an cdv ct) := ⟨⟨oc, od, kV, doc, pm, an, cdv, ct, osl, rfl, l, c⟩, k⟩
end
theorem hu_of {A : Around} {k : Nat} (hr : Room k A) : A.units + 1 < cLine := Nat.lt_of_le_of_lt (Nat.add_le_add_left (by decide : 1 ≤ 64) _) hr.units
section
variable {X : Cx}
theorem pv (i : Nat) {x : Str} {pos : Pos} (hN : X.N[i]? = some x := by rfl) (hv : Vis X.env.scope x := by first | exact Or.inl rfl | exact Or.inr (Or.inl rfl) | exact Or.inr (Or.inr rfl)) (hd : (x == ("__debug__" : Str)) = false := by decide)
    (hcd : (x == ("__classdict__" : Str)) = false := by decide) : PE X (.Name x pos) (tVar i) := pe_var hN hv hd hcd
end
theorem ite2 {c A B : Prop} [Decidable c] (h1 : c → A) (h2 : ¬ c → B) : if c then A else B := by
  by_cases h : c
  · rw [if_pos h]
    exact h1 h
  · rw [if_neg h]
    exact h2 h
/-- all that was tracked is as it was -/
def Same (H H' : Hp) : Prop := ∀ b o, H b = some o → H' b = some o
theorem Same.refl (H : Hp) : Same H H := fun _ _ h => h
theorem Same.trans {H H1 H2 : Hp} (a : Same H H1) (b : Same H1 H2) : Same H H2 := fun c o h => b c o (a c o h)
theorem Same.free {H H' : Hp} (e : Same H H') {l : Addr} (h : H' l = Option.none) : H l = Option.none := by
  cases q : H l with
  | none => rfl
  | some o =>
    rw [e l o q] at h
    cases h
theorem Same.seq {K : PySem.W.Frag} {H H' : Hp} {a : Addr} {xs : List V} (e : Same H H') (h : SqL K H a xs) : SqL K H' a xs := by
  rcases h with (h | ⟨o, h⟩) | h
  · exact .inl (.inl (e _ _ h))
  · exact .inl (.inr ⟨o, e _ _ h⟩)
  · exact .inr h
section
variable {κ : Type} [DecidableEq κ]
theorem nd_snoc : ∀ {l : List κ} {k : κ}, l.Nodup → ¬ k ∈ l → (l ++ [k]).Nodup
  | [], k, _, _ => by simp
  | a :: r, k, h, hk => by
    obtain ⟨h1, h2⟩ := List.nodup_cons.mp h
    show (a :: (r ++ [k])).Nodup
    refine List.nodup_cons.mpr ⟨fun m => ?_, nd_snoc h2 fun m => hk (List.mem_cons.mpr (Or.inr m))⟩
    rcases List.mem_append.mp m with q | q
    · exact h1 q
    · exact hk (List.mem_cons.mpr (Or.inl (List.mem_singleton.mp q).symm))
end
theorem at_of {xs : List V} {z : Int} {j : Nat} {v : V} (e : z = (j : Int)) (h : xs[j]? = some v) : atI xs z = some v := by
  rw [e]
  exact atI_nat h
theorem nd_ix {α : Type} {l : List α} (hN : l.Nodup) {i j : Nat} {x : α} (a : l[i]? = some x) (b : l[j]? = some x) : i = j := by
  obtain ⟨h1, e1⟩ := List.getElem?_eq_some_iff.mp a
  obtain ⟨h2, e2⟩ := List.getElem?_eq_some_iff.mp b
  exact (List.getElem_inj hN).mp (e1.trans e2.symm)
theorem Same.made {H H1 : Hp} {x dx C : Addr} (nx : H x = Option.none) (nd : H dx = Option.none) (k : ∀ b o, (upd (upd H dx (.own x)) x (.ins C dx [])) b = some o → b ≠ x → H1 b = some o) : Same H H1 := fun b o e =>
  k b o (by rw [upd_ne (ne_of_none e nx), upd_ne (ne_of_none e nd)]; exact e) (ne_of_none e nx)
end L2
section
set_option Elab.async false
set_option linter.all false
set_option maxRecDepth 100000
set_option maxHeartbeats 2000000
namespace L2
open PySem PySem.Spec PyProof.Rows
open PySem.W (WData Codec OpenSpec Well WellAll ReadsW ReadsAllW)
mutual
/-- x stands for the datum d, lists and tuples all the way -/
inductive Dw (K : PySem.W.Frag) (H : Hp) : V → WData → Prop
  | non : Dw K H .non .none
  | bl (b : Bool) : Dw K H (.bl b) (.bool b)
  | int (i : Int) : Dw K H (.int i) (.int i)
  | str (x : Str) : Dw K H (.str x) (.str x)
  | byt (b : Array UInt8) : Dw K H (.byt b) (.bytes b.toList)
  | lst {a : Addr} {xs : List V} {ds : List WData} : SqL K H a xs → DwAll K H xs ds → Dw K H (.ref a) (.list ds)
  | tup {a : Addr} {xs : List V} {ds : List WData} : SqT K H a xs → DwAll K H xs ds → Dw K H (.ref a) (.tuple ds)
inductive DwAll (K : PySem.W.Frag) (H : Hp) : List V → List WData → Prop
  | nil : DwAll K H [] []
  | cons {v : V} {vs : List V} {d : WData} {ds : List WData} : Dw K H v d → DwAll K H vs ds → DwAll K H (v :: vs) (d :: ds)
end
theorem dw_ints {K : PySem.W.Frag} {H : Hp} : ∀ ns : List Int, DwAll K H (ns.map V.int) (ns.map WData.int)
  | [] => .nil
  | n :: r => .cons (.int n) (dw_ints r)
theorem ints_dw {K : PySem.W.Frag} {H : Hp} : ∀ (ns : List Int) (xs : List V), DwAll K H xs (ns.map WData.int) → xs = ns.map V.int
  | [], xs, h => by
    cases h
    rfl
  | n :: r, xs, h => by
    cases h with
    | cons h1 h2 =>
      cases h1
      rw [ints_dw r _ h2] <;> rfl
section
variable {P : Program} {w : World} {K : PySem.W.Frag} {H : Hp} {h : Heap} {R : PySem.W.WRecords} {cl : Str → Option Addr}
theorem sqL_at {a : Addr} {xs : List V} (hok : HOk P w H h) (KX : K.In h) (q : SqL K H a xs) : ∃ (its : List Value) (o : Obj) (n : Nat), Vals xs its ∧ h.get? a = some o ∧ o.cls = .type "list" ∧ o.data = .seq its.toArray n := by
  rcases q with q | ⟨o, its, n, e, hc, _, hd, _, hv⟩
  · obtain ⟨_, its, n, hv, e⟩ := (show ObjOk P w H h a (.lst xs) from q.ok hok)
    exact ⟨its, _, n, hv, e, rfl, rfl⟩
  · exact ⟨its.toList, o, n, hv, KX _ _ e, hc, by simp [hd]⟩
theorem sqT_at {a : Addr} {xs : List V} (hok : HOk P w H h) (KX : K.In h) (q : SqT K H a xs) : ∃ (its : List Value) (o : Obj) (n : Nat), Vals xs its ∧ h.get? a = some o ∧ o.cls = .type "tuple" ∧ o.data = .seq its.toArray n := by
  rcases q with q | ⟨o, its, n, e, hc, hd, _, hv⟩
  · obtain ⟨_, its, hv, o, e, hc, n, hd⟩ := (show ObjOk P w H h a (.tup xs) from q.ok hok)
    exact ⟨its, o, n, hv, e, hc, hd⟩
  · exact ⟨its.toList, o, n, hv, KX _ _ e, hc, by simp [hd]⟩
mutual
theorem Dw.reads (hok : HOk P w H h) (KX : K.In h) : ∀ (d : WData) (v : V) (u : Value), Dw K H v d → RelV v u → ∃ as, ReadsW R cl h u d as
  | .none, _, _, x, r => by
    cases x
    cases r
    exact ⟨_, ReadsW.none⟩
  | .bool b, _, _, x, r => by
    cases x
    cases r
    exact ⟨_, ReadsW.bool b⟩
  | .int i, _, _, x, r => by
    cases x
    obtain ⟨t, rfl⟩ := r
    exact ⟨_, ReadsW.int i t⟩
  | .str s, _, _, x, r => by
    cases x
    obtain ⟨t, rfl⟩ := r
    exact ⟨_, ReadsW.str s t⟩
  | .bytes b, _, _, x, r => by
    cases x
    obtain ⟨t, rfl⟩ := r
    exact ⟨_, ReadsW.bytes _ t⟩
  | .list ds, _, _, x, r => by
    cases x with
    | lst hs ha =>
      cases r
      obtain ⟨its, o, n, rv, ho, hc, hd⟩ := sqL_at hok KX hs
      obtain ⟨as, hr⟩ := Dw.readsAll hok KX ds _ its ha rv
      exact ⟨_, ReadsW.list ho hc hd hr⟩
  | .tuple ds, _, _, x, r => by
    cases x with
    | tup hs ha =>
      cases r
      obtain ⟨its, o, n, rv, ho, hc, hd⟩ := sqT_at hok KX hs
      obtain ⟨as, hr⟩ := Dw.readsAll hok KX ds _ its ha rv
      exact ⟨_, ReadsW.tuple ho hc hd hr⟩
  | .float _, _, _, x, _ => by cases x
  | .dict _, _, _, x, _ => by cases x
  | .bytearray _, _, _, x, _ => by cases x
  | .set _, _, _, x, _ => by cases x
  | .frozenset _, _, _, x, _ => by cases x
  | .obj _ _, _, _, x, _ => by cases x
theorem Dw.readsAll (hok : HOk P w H h) (KX : K.In h) : ∀ (ds : List WData) (vs : List V) (us : List Value), DwAll K H vs ds → Vals vs us → ∃ as, ReadsAllW R cl h us ds as
  | [], _, _, x, r => by
    cases x
    cases r
    exact ⟨_, ReadsAllW.nil⟩
  | d :: ds, _, _, x, r => by
    cases x with
    | cons h1 h2 =>
      cases r with
      | cons r1 r2 =>
        obtain ⟨as, q1⟩ := Dw.reads hok KX d _ _ h1 r1
        obtain ⟨bs, q2⟩ := Dw.readsAll hok KX ds _ _ h2 r2
        exact ⟨_, ReadsAllW.cons q1 q2⟩
end
end
mutual
/-- data that a codec tells -/
def plW : WData → Bool
  | .none => true
  | .bool _ => true
  | .int _ => true
  | .str _ => true
  | .bytes _ => true
  | .list xs => plWs xs
  | .tuple xs => plWs xs
  | _ => false
def plWs : List WData → Bool
  | [] => true
  | x :: r => plW x && plWs r
end
theorem plWs_map {α : Type} {f : α → WData} (h : ∀ a, plW (f a) = true) : ∀ l : List α, plWs (l.map f) = true
  | [] => rfl
  | x :: r => by
    show (plW (f x) && plWs (r.map f)) = true
    rw [h x, plWs_map h r] <;> rfl
theorem pl_enc : ∀ (c : Codec) (a : c.denote), plW (c.enc a) = true
  | .unit, _ => rfl
  | .bool, _ => rfl
  | .int _ _, _ => rfl
  | .nat _ _, _ => rfl
  | .u8, _ => rfl
  | .bytes _ _, _ => rfl
  | .text _ _ _ _, _ => rfl
  | .list _ _ c, a => plWs_map (fun x => pl_enc c x) a
  | .pair c d, a => by
    show (plW (c.enc a.1) && (plW (d.enc a.2) && true)) = true
    rw [pl_enc c a.1, pl_enc d a.2] <;> rfl
  | .triple c d e, a => by
    show (plW (c.enc a.1) && (plW (d.enc a.2.1) && (plW (e.enc a.2.2) && true))) = true
    rw [pl_enc c a.1, pl_enc d a.2.1, pl_enc e a.2.2] <;> rfl
  | .option c, none => rfl
  | .option c, some x => pl_enc c x
theorem pl_encAll : ∀ (cs : List Codec) (a : Codec.denoteAll cs), plWs (Codec.encAll cs a) = true
  | [], _ => rfl
  | c :: cs, a => by
    show (plW (c.enc a.1) && plWs (Codec.encAll cs a.2)) = true
    rw [pl_enc c a.1, pl_encAll cs a.2] <;> rfl
theorem weight_mem : ∀ {xs : List WData} {d : WData}, d ∈ xs → d.weight ≤ WData.weightAll xs
  | [], d, h => absurd h (by simp)
  | x :: r, d, h => by
    show d.weight ≤ x.weight + 1 + WData.weightAll r
    rcases List.mem_cons.mp h with e | m
    · rw [e]
      omega
    · have z := weight_mem m
      omega
def toV : Value → V
  | .none => .non
  | .bool b => .bl b
  | .int i _ => .int i
  | .str x _ => .str x
  | .bytes b _ => .byt b
  | .ref a => .ref a
  | _ => .non
/-- a value of the arguments, its objects among A -/
def OkU (A : List Addr) : Value → Prop
  | .none => True
  | .bool _ => True
  | .int _ _ => True
  | .str _ _ => True
  | .bytes _ _ => True
  | .ref a => a ∈ A
  | _ => False
theorem OkU.mono {A B : List Addr} (h : ∀ a ∈ A, a ∈ B) : ∀ {u : Value}, OkU A u → OkU B u := fun {u} x => by
  cases u with
  | ref a => exact h a x
  | none => trivial
  | bool b => trivial
  | int i t => trivial
  | str s t => trivial
  | bytes b t => trivial
  | _ => exact False.elim x
theorem relV_toV {A : List Addr} {u : Value} (x : OkU A u) : RelV (toV u) u := by
  cases u with
  | ref a => rfl
  | none => rfl
  | bool b => rfl
  | int i t => exact ⟨t, rfl⟩
  | str s t => exact ⟨t, rfl⟩
  | bytes b t => exact ⟨t, rfl⟩
  | _ => exact False.elim x
theorem vals_toV {A : List Addr} : ∀ {vs : List Value}, (∀ u ∈ vs, OkU A u) → Vals (vs.map toV) vs
  | [], _ => .nil
  | u :: r, h => .cons (relV_toV (h u (List.mem_cons_self ..))) (vals_toV fun x hx => h x (List.mem_cons_of_mem _ hx))
/-- an object of the arguments -/
def ArgOb (h : Heap) (A : List Addr) (a : Addr) : Prop := ∃ vs : List Value, vs.length ≤ sizeLine ∧ (∀ u ∈ vs, OkU A u) ∧
  (h.get? a = some { cls := .type "list", data := .seq vs.toArray } ∨ h.get? a = some { cls := .type "tuple", data := .seq vs.toArray })
theorem ArgOb.mono {h : Heap} {A B : List Addr} {a : Addr} (k : ∀ a ∈ A, a ∈ B) (x : ArgOb h A a) : ArgOb h B a := by
  obtain ⟨vs, h1, h2, h3⟩ := x
  exact ⟨vs, h1, fun u hu => (h2 u hu).mono k, h3⟩
theorem wellAll_len {P : Params} {h : Heap} : ∀ {vs : List Value} {ds : List WData}, WellAll P h vs ds → vs.length = ds.length
  | _, _, .nil => rfl
  | _, _, .cons _ b => by
    show _ + 1 = _ + 1
    rw [wellAll_len b]
theorem well_list {P : Params} {h : Heap} {v : Value} {ds : List WData} (x : Well P h v (.list ds)) : ∃ (a : Addr) (vs : List Value), v = .ref a ∧ h.get? a = some { cls := .type "list", data := .seq vs.toArray } ∧ WellAll P h vs ds := by
  cases x with
  | list ho hall => exact ⟨_, _, rfl, ho, hall⟩
theorem well_tuple {P : Params} {h : Heap} {v : Value} {ds : List WData} (x : Well P h v (.tuple ds)) : ∃ (a : Addr) (vs : List Value), v = .ref a ∧ h.get? a = some { cls := .type "tuple", data := .seq vs.toArray } ∧ WellAll P h vs ds := by
  cases x with
  | tuple ho hall => exact ⟨_, _, rfl, ho, hall⟩
theorem well_cons {P : Params} {h : Heap} {us : List Value} {d : WData} {ds : List WData} (x : WellAll P h us (d :: ds)) : ∃ (v : Value) (vs : List Value), us = v :: vs ∧ Well P h v d ∧ WellAll P h vs ds := by
  cases x with
  | cons a b => exact ⟨_, _, rfl, a, b⟩
theorem line_of {n : Nat} (h : n ≤ 1048576) : n ≤ sizeLine := Nat.le_trans h (by decide)
section
variable {P : Params} {h : Heap}
mutual
theorem area_one : ∀ (d : WData) (v : Value), Well P h v d → plW d = true → d.weight ≤ 1048576 → ∃ A : List Addr, OkU A v ∧ ∀ a ∈ A, ArgOb h A a
  | .none, _, x, _, _ => by
    cases x
    exact ⟨[], trivial, fun a m => absurd m (by simp)⟩
  | .bool b, _, x, _, _ => by
    cases x
    exact ⟨[], trivial, fun a m => absurd m (by simp)⟩
  | .int i, _, x, _, _ => by
    cases x
    exact ⟨[], trivial, fun a m => absurd m (by simp)⟩
  | .str s, _, x, _, _ => by
    cases x
    exact ⟨[], trivial, fun a m => absurd m (by simp)⟩
  | .bytes b, _, x, _, _ => by
    cases x
    exact ⟨[], trivial, fun a m => absurd m (by simp)⟩
  | .list ds, _, x, p, z => by
    obtain ⟨a, vs, rfl, ho, hall⟩ := well_list x
    have z2 : WData.weightAll ds ≤ 1048576 := z
    obtain ⟨A, h1, h2⟩ := area_all ds _ hall p fun d hd => Nat.le_trans (weight_mem hd) z2
    have k : ∀ b ∈ A, b ∈ a :: A := fun b hb => List.mem_cons_of_mem _ hb
    refine ⟨a :: A, List.mem_cons_self .., fun b hb => ?_⟩
    rcases List.mem_cons.mp hb with e | m
    · rw [e]
      exact ⟨vs, line_of (by rw [wellAll_len hall]; exact Nat.le_trans (PySem.W.length_le_weightAllW ds) z2), fun u hu => (h1 u hu).mono k, .inl ho⟩
    · exact (h2 b m).mono k
  | .tuple ds, _, x, p, z => by
    obtain ⟨a, vs, rfl, ho, hall⟩ := well_tuple x
    have z2 : WData.weightAll ds ≤ 1048576 := z
    obtain ⟨A, h1, h2⟩ := area_all ds _ hall p fun d hd => Nat.le_trans (weight_mem hd) z2
    have k : ∀ b ∈ A, b ∈ a :: A := fun b hb => List.mem_cons_of_mem _ hb
    refine ⟨a :: A, List.mem_cons_self .., fun b hb => ?_⟩
    rcases List.mem_cons.mp hb with e | m
    · rw [e]
      exact ⟨vs, line_of (by rw [wellAll_len hall]; exact Nat.le_trans (PySem.W.length_le_weightAllW ds) z2), fun u hu => (h1 u hu).mono k, .inr ho⟩
    · exact (h2 b m).mono k
  | .float _, _, _, p, _ => Bool.noConfusion (show false = true from p)
  | .dict _, _, _, p, _ => Bool.noConfusion (show false = true from p)
  | .bytearray _, _, _, p, _ => Bool.noConfusion (show false = true from p)
  | .set _, _, _, p, _ => Bool.noConfusion (show false = true from p)
  | .frozenset _, _, _, p, _ => Bool.noConfusion (show false = true from p)
  | .obj _ _, _, _, p, _ => Bool.noConfusion (show false = true from p)
theorem area_all : ∀ (ds : List WData) (vs : List Value), WellAll P h vs ds → plWs ds = true → (∀ d ∈ ds, d.weight ≤ 1048576) → ∃ A : List Addr, (∀ u ∈ vs, OkU A u) ∧ ∀ a ∈ A, ArgOb h A a
  | [], _, x, _, _ => by
    cases x
    exact ⟨[], fun u m => absurd m (by simp), fun a m => absurd m (by simp)⟩
  | d :: ds, _, x, p, z => by
    obtain ⟨v, vs, rfl, x1, x2⟩ := well_cons x
    have q : plW d = true ∧ plWs ds = true := Bool.and_eq_true_iff.mp p
    obtain ⟨A, a1, a2⟩ := area_one d v x1 q.1 (z d (List.mem_cons_self ..))
    obtain ⟨B, b1, b2⟩ := area_all ds vs x2 q.2 fun e he => z e (List.mem_cons_of_mem _ he)
    have kA : ∀ b ∈ A, b ∈ A ++ B := fun b hb => List.mem_append.mpr (.inl hb)
    have kB : ∀ b ∈ B, b ∈ A ++ B := fun b hb => List.mem_append.mpr (.inr hb)
    refine ⟨A ++ B, fun u hu => ?_, fun b hb => ?_⟩
    · rcases List.mem_cons.mp hu with e | m
      · rw [e]
        exact a1.mono kA
      · exact (b1 u m).mono kB
    · rcases List.mem_append.mp hb with m | m
      · exact (a2 b m).mono kA
      · exact (b2 b m).mono kB
end
end
/-- what is tracked of an argument's object -/
def hoOf (o : Obj) : Option HO := match o.data with
  | .seq vs _ => if (o.cls == Value.type "list") = true then some (.frz o (.lst (vs.toList.map toV))) else some (.frz o (.tup (vs.toList.map toV)))
  | _ => none
def argH (K : PySem.W.Frag) (h : Heap) (A : List Addr) : Hp := fun b => if b ∈ A then (if (K.lookup b).isNone = true then (h.get? b).bind hoOf else none) else none
/-- nothing is tracked but what is known to the object -/
def OnlyF (H : Hp) : Prop := ∀ b, H b = none ∨ ∃ o u, H b = some (.frz o u)
theorem hoOf_lst (vs : List Value) : hoOf { cls := .type "list", data := .seq vs.toArray } = some (.frz { cls := .type "list", data := .seq vs.toArray } (.lst (vs.map toV))) := by
  show (if (Value.type "list" == Value.type "list") = true then some (HO.frz { cls := .type "list", data := .seq vs.toArray } (.lst (vs.toArray.toList.map toV))) else some (HO.frz { cls := .type "list", data := .seq vs.toArray } (.tup (vs.toArray.toList.map toV)))) = _
  rw [if_pos (beq_self_eq_true _)]
theorem hoOf_tup (vs : List Value) : hoOf { cls := .type "tuple", data := .seq vs.toArray } = some (.frz { cls := .type "tuple", data := .seq vs.toArray } (.tup (vs.map toV))) := by
  show (if (Value.type "tuple" == Value.type "list") = true then some (HO.frz { cls := .type "tuple", data := .seq vs.toArray } (.lst (vs.toArray.toList.map toV))) else some (HO.frz { cls := .type "tuple", data := .seq vs.toArray } (.tup (vs.toArray.toList.map toV)))) = _
  rw [if_neg (by decide)]
section
variable {P : Program} {w : World} {K : PySem.W.Frag} {h : Heap} {A : List Addr}
theorem argH_at {b : Addr} {o : Obj} (hb : b ∈ A) (hk : K.lookup b = none) (e : h.get? b = some o) : argH K h A b = hoOf o := by
  unfold argH
  rw [if_pos hb, hk, if_pos (show (none : Option Obj).isNone = true from rfl), e] <;> rfl
theorem of_argH {b : Addr} {u : HO} (q : argH K h A b = some u) : b ∈ A ∧ K.lookup b = none := by
  unfold argH at q
  by_cases hb : b ∈ A
  · rw [if_pos hb] at q
    cases hk : K.lookup b with
    | none => exact ⟨hb, rfl⟩
    | some o =>
      rw [hk, if_neg (by simp)] at q
      cases q
  · rw [if_neg hb] at q
    cases q
theorem argH_is (ar : ∀ a ∈ A, ArgOb h A a) {b : Addr} {u : HO} (q : argH K h A b = some u) : K.lookup b = none ∧ ∃ vs : List Value, vs.length ≤ sizeLine ∧ (∀ u ∈ vs, OkU A u) ∧
    ((h.get? b = some { cls := .type "list", data := .seq vs.toArray } ∧ u = .frz { cls := .type "list", data := .seq vs.toArray } (.lst (vs.map toV))) ∨
     (h.get? b = some { cls := .type "tuple", data := .seq vs.toArray } ∧ u = .frz { cls := .type "tuple", data := .seq vs.toArray } (.tup (vs.map toV)))) := by
  obtain ⟨hb, hk⟩ := of_argH q
  obtain ⟨vs, h1, h2, h3⟩ := ar b hb
  refine ⟨hk, vs, h1, h2, ?_⟩
  rcases h3 with e | e
  · rw [argH_at hb hk e, hoOf_lst] at q
    exact .inl ⟨e, (Option.some.inj q).symm⟩
  · rw [argH_at hb hk e, hoOf_tup] at q
    exact .inr ⟨e, (Option.some.inj q).symm⟩
theorem argH_only (ar : ∀ a ∈ A, ArgOb h A a) : OnlyF (argH K h A) := fun b => by
  cases q : argH K h A b with
  | none => exact .inl rfl
  | some u =>
    obtain ⟨_, vs, _, _, ⟨_, e⟩ | ⟨_, e⟩⟩ := argH_is ar q
    · exact .inr ⟨_, _, by rw [e]⟩
    · exact .inr ⟨_, _, by rw [e]⟩
theorem argH_ok (ar : ∀ a ∈ A, ArgOb h A a) : HOk P w (argH K h A) h := fun b u q => by
  obtain ⟨_, vs, h1, h2, ⟨e, rfl⟩ | ⟨e, rfl⟩⟩ := argH_is ar q
  · exact ⟨e, by rw [List.length_map]; exact h1, vs, _, vals_toV h2, e⟩
  · exact ⟨e, by rw [List.length_map]; exact h1, vs, vals_toV h2, _, e, rfl, _, rfl⟩
theorem seq_inj {c c' : Value} {vs us : List Value} (e : (some { cls := c, data := .seq vs.toArray } : Option Obj) = some { cls := c', data := .seq us.toArray }) : c = c' ∧ vs = us := by
  have e1 := Option.some.inj e
  have e2 : c = c' := congrArg Obj.cls e1
  have e3 : Data.seq vs.toArray = Data.seq us.toArray := congrArg Obj.data e1
  injection e3 with e4
  refine ⟨e2, ?_⟩
  have e5 := congrArg Array.toList e4
  simpa using e5
theorem argL (KX : K.In h) (ar : ∀ a ∈ A, ArgOb h A a) {a : Addr} {vs : List Value} (ha : a ∈ A) (e : h.get? a = some { cls := .type "list", data := .seq vs.toArray }) : (∀ u ∈ vs, OkU A u) ∧ SqL K (argH K h A) a (vs.map toV) := by
  obtain ⟨us, h1, h2, h3⟩ := ar a ha
  have hu : us = vs := by
    rcases h3 with q | q
    · rw [e] at q
      exact (seq_inj q).2.symm
    · rw [e] at q
      exact absurd (Value.type.inj (seq_inj q).1) (by decide)
  subst hu
  refine ⟨h2, ?_⟩
  cases hk : K.lookup a with
  | none => exact .inl (.inr ⟨_, by rw [argH_at ha hk e, hoOf_lst]⟩)
  | some o =>
    have e2 := KX a o hk
    rw [e] at e2
    obtain rfl := Option.some.inj e2
    exact .inr ⟨_, us.toArray, _, hk, rfl, rfl, rfl, by rw [List.size_toArray]; exact h1, by simpa using vals_toV h2⟩
theorem argT (KX : K.In h) (ar : ∀ a ∈ A, ArgOb h A a) {a : Addr} {vs : List Value} (ha : a ∈ A) (e : h.get? a = some { cls := .type "tuple", data := .seq vs.toArray }) : (∀ u ∈ vs, OkU A u) ∧ SqT K (argH K h A) a (vs.map toV) := by
  obtain ⟨us, h1, h2, h3⟩ := ar a ha
  have hu : us = vs := by
    rcases h3 with q | q
    · rw [e] at q
      exact absurd (Value.type.inj (seq_inj q).1) (by decide)
    · rw [e] at q
      exact (seq_inj q).2.symm
  subst hu
  refine ⟨h2, ?_⟩
  cases hk : K.lookup a with
  | none => exact .inl (.inr ⟨_, by rw [argH_at ha hk e, hoOf_tup]⟩)
  | some o =>
    have e2 := KX a o hk
    rw [e] at e2
    obtain rfl := Option.some.inj e2
    exact .inr ⟨_, us.toArray, _, hk, rfl, rfl, by rw [List.size_toArray]; exact h1, by simpa using vals_toV h2⟩
mutual
theorem dw_one {Pm : Params} (KX : K.In h) (ar : ∀ a ∈ A, ArgOb h A a) : ∀ (d : WData) (v : Value), Well Pm h v d → plW d = true → OkU A v → Dw K (argH K h A) (toV v) d
  | .none, _, x, _, _ => by
    cases x
    exact .non
  | .bool b, _, x, _, _ => by
    cases x
    exact .bl b
  | .int i, _, x, _, _ => by
    cases x
    exact .int i
  | .str s, _, x, _, _ => by
    cases x
    exact .str s
  | .bytes b, _, x, _, _ => by
    cases x
    have z := Dw.byt (K := K) (H := argH K h A) b.toArray
    exact z
  | .list ds, _, x, p, hu => by
    obtain ⟨a, vs, rfl, ho, hall⟩ := well_list x
    obtain ⟨h2, hs⟩ := argL KX ar hu ho
    exact .lst hs (dw_all KX ar ds _ hall p h2)
  | .tuple ds, _, x, p, hu => by
    obtain ⟨a, vs, rfl, ho, hall⟩ := well_tuple x
    obtain ⟨h2, hs⟩ := argT KX ar hu ho
    exact .tup hs (dw_all KX ar ds _ hall p h2)
  | .float _, _, _, p, _ => Bool.noConfusion (show false = true from p)
  | .dict _, _, _, p, _ => Bool.noConfusion (show false = true from p)
  | .bytearray _, _, _, p, _ => Bool.noConfusion (show false = true from p)
  | .set _, _, _, p, _ => Bool.noConfusion (show false = true from p)
  | .frozenset _, _, _, p, _ => Bool.noConfusion (show false = true from p)
  | .obj _ _, _, _, p, _ => Bool.noConfusion (show false = true from p)
theorem dw_all {Pm : Params} (KX : K.In h) (ar : ∀ a ∈ A, ArgOb h A a) : ∀ (ds : List WData) (vs : List Value), WellAll Pm h vs ds → plWs ds = true → (∀ u ∈ vs, OkU A u) → DwAll K (argH K h A) (vs.map toV) ds
  | [], _, x, _, _ => by
    cases x
    exact .nil
  | d :: ds, _, x, p, hu => by
    obtain ⟨v, vs, rfl, x1, x2⟩ := well_cons x
    have q : plW d = true ∧ plWs ds = true := Bool.and_eq_true_iff.mp p
    exact .cons (dw_one KX ar d v x1 q.1 (hu _ (List.mem_cons_self ..))) (dw_all KX ar ds vs x2 q.2 fun u m => hu u (List.mem_cons_of_mem _ m))
end
end
theorem spec_call {P : Program} {w : World} {K : PySem.W.Frag} {mg mb : Str → Option Value} {CX : CXT} {k : Nat} {fa : Addr} {fd : FuncData} {ps : List Str} {sp : Sp} {s₁ : Shared} {vals : List Value} {ds : List WData} {R : PySem.W.WRecords} {cl : Str → Option Addr} {d0 : WData}
    (KX : K.In s₁.heap) (hns : s₁.heap.Ns mainGlobals mg) (hb : s₁.heap.Ns builtinsNs mb) (hbb : ∀ x : Str, x ≠ "__name__" → mb x = bootBuiltins x) (hlim : s₁.heap.NoLimit) (hg : s₁.gens = #[])
    (hwl : WellAll w.params s₁.heap vals ds) (hpl : plWs ds = true) (hwt : ∀ d ∈ ds, d.weight ≤ 1048576) (hr : Room k callerA)
    (F : ∀ base : Heap, K.In base → base.Ns mainGlobals mg → FnOk P w K mg base CX k fa fd ps sp) (hbind : ∀ (s : Shared) (us : List Value), us.length = ps.length → BindsTo s fd ⟨us, []⟩ (ps.zip us)) (hlen : ds.length = ps.length)
    (hsp : ∀ (H : Hp) (xs : List V), OnlyF H → DwAll K H xs ds → sp xs H (fun v H' => Dw K H' v d0) fun _ _ _ => False)
    (hCX : ∀ H e s', CX [] H s₁ (fun _ _ _ => False) e s' → False) :
    codeAny (model P w) callerA (.call (.ref fa) ⟨vals, []⟩) (fun r s' => ∃ u as, r = .ok (.ret u) ∧ ReadsW R cl s'.heap u d0 as ∧ OldK s₁.heap s'.heap ∧ s'.os = s₁.os ∧ AllBare s'.gens) s₁ := by
  obtain ⟨A, ho, ar⟩ := area_all ds vals hwl hpl hwt
  have hO : OnlyF (argH K s₁.heap A) := argH_only ar
  have hok : HOk P w (argH K s₁.heap A) s₁.heap := argH_ok ar
  have hS := dw_all KX ar ds vals hwl hpl ho
  have hV := vals_toV ho
  have hK : ∀ b u, argH K s₁.heap A b = some u → K.lookup b = none := fun b u q => (argH_is ar q).1
  have noA : ∀ {b : Addr} {o : Obj} {es : Array DictEntry} {ep : Nat}, s₁.heap.get? b = some o → o.data = .dict es ep → argH K s₁.heap A b = none := fun {b o es ep} e d => by
    cases q : argH K s₁.heap A b with
    | none => rfl
    | some u =>
      obtain ⟨_, vs, _, _, ⟨e2, _⟩ | ⟨e2, _⟩⟩ := argH_is ar q
      · rw [e2] at e
        cases e
        have d' : Data.seq vs.toArray _ = Data.dict es ep := d
        cases d'
      · rw [e2] at e
        cases e
        have d' : Data.seq vs.toArray _ = Data.dict es ep := d
        cases d'
  generalize argH K s₁.heap A = H at hO hok hS hK noA
  have base_of : ∀ {b : Addr} {o : Obj}, s₁.heap.get? b = some o → H b = none → (hidT s₁.heap H).get? b = some o := fun e n => hidT_get e n
  have nsK : ∀ {b : Addr} {m : Str → Option Value}, s₁.heap.Ns b m → (hidT s₁.heap H).Ns b m := fun {b m} ⟨o, es, ep, e, d, r⟩ => ⟨o, es, ep, base_of e (noA e d), d, r⟩
  have nK : ∀ b o, K.lookup b = some o → H b = none := fun b o e => by
    cases q : H b with
    | none => rfl
    | some u =>
      rw [hK b u q] at e
      cases e
  have hKb : K.In (hidT s₁.heap H) := fun b o e => base_of (KX b o e) (nK b o e)
  have hM : Mod K mg (hidT s₁.heap H) := ⟨hKb, nsK hns, ⟨mb, nsK hb, hbb⟩, let ⟨mc, h1, h2⟩ := hlim; ⟨mc, nsK h1, h2⟩⟩
  have e0 : Env0 P w K mg (hidT s₁.heap H) callerA [] s₁ H := ⟨rfl, hM, fun b o e => of_hidT e, Nat.le_of_eq (hidT_size _ _), trivial, fun b hb => absurd (show b ∈ ([] : List Addr) from hb) (by simp), hok, .of_eq hg⟩
  have hl : vals.length = ps.length := by rw [wellAll_len hwl]; exact hlen
  refine codeAny_mono ((F _ hKb (nsK hns)).run callerA [] s₁ H ⟨vals, []⟩ vals (vals.map toV) _ _ hr e0 (hbind s₁ vals hl) hV (hsp H _ hO hS)) fun r s' x => ?_
  cases r with
  | error e => exact (hCX H e s' x).elim
  | ok fl =>
    cases fl with
    | next => exact False.elim x
    | brk => exact False.elim x
    | cont => exact False.elim x
    | ret u =>
      obtain ⟨v, H', os, bare, un, hok', r', q⟩ := x
      have kept : ∀ b o, s₁.heap.get? b = some o → s'.heap.get? b = some o := fun b o e => by
        cases q2 : H b with
        | none => exact un.keep b o e q2 (by intro z; exact absurd (show b ∈ ([] : List Addr) from z) (by simp)) (by simp)
        | some u2 =>
          rcases hO b with z | ⟨ob, u3, z⟩
          · rw [q2] at z
            cases z
          · have z2 := un.frzs b ob _ z
            obtain ⟨e1, _⟩ := hok b _ z
            obtain ⟨e2, _⟩ := hok' b _ z2
            rw [e] at e1
            cases e1
            exact e2
      have KX' : K.In s'.heap := fun b o e => kept b o (KX b o e)
      obtain ⟨as, hrd⟩ := Dw.reads (R := R) (cl := cl) hok' KX' d0 v u q r'
      exact ⟨u, as, rfl, hrd, OldK.of_keep kept, os, bare⟩
theorem layable_weight {ds : List WData} (h : WData.layableAll ds = true) : ∀ d ∈ ds, d.weight ≤ 1048576 := fun d hd =>
  (PySem.W.layableW_iff.mp (List.all_eq_true.mp h d hd)).2.2
theorem encAll_len : ∀ (cs : List Codec) (a : Codec.denoteAll cs), (Codec.encAll cs a).length = cs.length
  | [], _ => rfl
  | c :: cs, a => by
    show (Codec.encAll cs a.2).length + 1 = cs.length + 1
    rw [encAll_len cs a.2]
theorem walk_spec {r : OpenSpec} {k : Nat} {q : Program} {loose : List Str} {XP : (Str → Option Value) → Heap → Prop} {YP : World → Heap → Prop} {d : DefRec} {K : Params → PySem.W.Frag} {CX : World → CXT} {ps : List Str} {sp : World → Sp}
    (hwell : r.wellSaid = true) (hdf : d.params.defaults = []) (hlen : r.args.length = ps.length) (hr : Room k callerA)
    (hY : ∀ (w : World) (h : Heap), YP w h → (K w.params).In h)
    (F : ∀ (w : World) (mg : Str → Option Value) (fa : Addr) (h : Heap), YP w h → (K w.params).In h → h.Ns mainGlobals mg → mg d.name = some (.ref fa) →
      ∃ fd : FuncData, (∀ (s : Shared) (us : List Value), us.length = ps.length → BindsTo s fd ⟨us, []⟩ (ps.zip us)) ∧
        ∀ base : Heap, (K w.params).In base → base.Ns mainGlobals mg → FnOk r.prog w (K w.params) mg base (CX w) k fa fd ps (sp w))
    (hsp : ∀ (w : World) (H : Hp) (xs : List V) (a : Codec.denoteAll r.args), OnlyF H → Codec.withinAll r.args a = true → Codec.app r.args r.asked a = true → DwAll (K w.params) H xs (Codec.encAll r.args a) →
      sp w xs H (fun v H' => Dw (K w.params) H' v (r.ret.enc (Codec.app r.args r.f a))) fun _ _ _ => False)
    (hCX : ∀ (w : World) (H : Hp) (s : Shared) (e : Value) (s' : Shared), CX w [] H s (fun _ _ _ => False) e s' → False) :
    PySem.W.WalkOS q loose XP YP r d [] (fun f vs => PySem.call f vs) := by
  intro w s_0 s₁ mg mb G Y fa o pm cd doc dV kV ho hd hcd hD hmg hg args vals as hpre hlay hrd hwl hlo
  obtain ⟨a, e1, e2⟩ := PySem.W.os_pre_some hpre
  obtain ⟨e3, hwi⟩ := Codec.encAll_of_decAll r.args args a e1
  subst e3
  have KX := hY w _ Y
  obtain ⟨fd, hb, hF⟩ := F w mg fa _ Y KX G.T.g hmg
  refine PySem.W.enter_call (codeAny_mono (spec_call (R := []) (cl := classAt s_0.heap) (d0 := r.ret.enc (Codec.app r.args r.f a)) KX G.T.g G.T.b G.T.builtins G.T.nolimit hg hwl (pl_encAll _ _) (layable_weight hlay) hr hF hb (by rw [encAll_len]; exact hlen)
    (fun H xs hO hS => hsp w H xs a hO hwi e2 hS) fun H e s' => hCX w H s₁ e s') fun r' s' hq => ?_)
  obtain ⟨u, as', rfl, h1, h2, h3, h4⟩ := hq
  exact ⟨.inl ⟨u, _, as', rfl, fun _ => rfl, h1, (OpenSpec.post_iff hwell hwi _ _).mpr rfl, fun z => Bool.noConfusion (show false = true from z)⟩, h2, h3, h4⟩
theorem walk_specK {r : OpenSpec} {k : Nat} {q : Program} {loose : List Str} {XP : (Str → Option Value) → Heap → Prop} {YP : World → Heap → Prop} {d : DefRec} {K : Params → PySem.W.Frag} {CX : CXT} {ps : List Str} {sp : PySem.W.Frag → Sp}
    (hwell : r.wellSaid = true) (hdf : d.params.defaults = []) (hlen : r.args.length = ps.length) (hr : Room k callerA)
    (hY : ∀ (w : World) (h : Heap), YP w h → (K w.params).In h)
    (F : ∀ (w : World) (mg : Str → Option Value) (fa : Addr) (h : Heap), YP w h → (K w.params).In h → h.Ns mainGlobals mg → mg d.name = some (.ref fa) →
      ∃ fd : FuncData, (∀ (s : Shared) (us : List Value), us.length = ps.length → BindsTo s fd ⟨us, []⟩ (ps.zip us)) ∧
        ∀ base : Heap, (K w.params).In base → base.Ns mainGlobals mg → FnOk r.prog w (K w.params) mg base CX k fa fd ps (sp (K w.params)))
    (hsp : ∀ (K : PySem.W.Frag) (H : Hp) (xs : List V) (a : Codec.denoteAll r.args), OnlyF H → Codec.withinAll r.args a = true → Codec.app r.args r.asked a = true → DwAll K H xs (Codec.encAll r.args a) →
      sp K xs H (fun v H' => Dw K H' v (r.ret.enc (Codec.app r.args r.f a))) fun _ _ _ => False)
    (hCX : ∀ (H : Hp) (s : Shared) (e : Value) (s' : Shared), CX [] H s (fun _ _ _ => False) e s' → False) :
    PySem.W.WalkOS q loose XP YP r d [] (fun f vs => PySem.call f vs) :=
  walk_spec (K := K) (CX := fun _ => CX) (sp := fun w => sp (K w.params)) hwell hdf hlen hr hY F (fun w H xs a h1 h2 h3 h4 => hsp (K w.params) H xs a h1 h2 h3 h4) fun _ H s e s' => hCX H s e s'
end L2
-- rests on (row put in by the clerk, for the bench that shows a file only what it spells): KE.SpHead KE.OsShapes
end
/-! Sums, rows, and what the elimination of the specification tells. -/
namespace Rn
open Rc43
/-- the sum of f 0 .. f (n - 1) -/
def sm : Nat → (Nat → Rat) → Rat
  | 0, _ => 0
  | n + 1, f => sm n f + f n
theorem sm_congr {f g : Nat → Rat} : ∀ {n : Nat}, (∀ j, j < n → f j = g j) → sm n f = sm n g
  | 0, _ => rfl
  | n + 1, h => by
    show sm n f + f n = sm n g + g n
    rw [sm_congr (n := n) fun j hj => h j (by omega), h n (by omega)]
theorem sm_zero {f : Nat → Rat} : ∀ {n : Nat}, (∀ j, j < n → f j = 0) → sm n f = 0
  | 0, _ => rfl
  | n + 1, h => by
    show sm n f + f n = 0
    rw [sm_zero (n := n) fun j hj => h j (by omega), h n (by omega)]
    grind
theorem sm_add (f g : Nat → Rat) : ∀ n : Nat, sm n (fun j => f j + g j) = sm n f + sm n g
  | 0 => by show (0 : Rat) = 0 + 0; grind
  | n + 1 => by
    show sm n _ + _ = (sm n f + f n) + (sm n g + g n)
    rw [sm_add f g n]; grind
theorem sm_mul (c : Rat) (f : Nat → Rat) : ∀ n : Nat, sm n (fun j => c * f j) = c * sm n f
  | 0 => by show (0 : Rat) = c * 0; grind
  | n + 1 => by
    show sm n _ + _ = c * (sm n f + f n)
    rw [sm_mul c f n]; grind
theorem sm_sub (f g : Nat → Rat) (n : Nat) : sm n (fun j => f j - g j) = sm n f - sm n g := by
  have h := sm_add f (fun j => (-1) * g j) n
  rw [sm_mul] at h
  rw [sm_congr (g := fun j => f j + (-1) * g j) fun j _ => by grind, h]
  grind
/-- only one is not 0 -/
theorem sm_one {f : Nat → Rat} {i : Nat} : ∀ {n : Nat}, i < n → (∀ j, j < n → j ≠ i → f j = 0) → sm n f = f i
  | 0, h, _ => absurd h (by omega)
  | n + 1, h, z => by
    show sm n f + f n = f i
    by_cases e : i = n
    · subst e
      rw [sm_zero fun j hj => z j (by omega) (by omega)]; grind
    · rw [sm_one (n := n) (by omega) fun j hj => z j (by omega), z n (by omega) (by omega)]; grind
/-- only two are not 0 -/
theorem sm_two {f : Nat → Rat} {i k : Nat} : ∀ {n : Nat}, i < k → k < n → (∀ j, j < n → j ≠ i → j ≠ k → f j = 0) → sm n f = f i + f k
  | 0, _, h, _ => absurd h (by omega)
  | n + 1, hik, h, z => by
    show sm n f + f n = f i + f k
    by_cases e : k = n
    · subst e
      rw [sm_one hik fun j hj hne => z j (by omega) hne (by omega)]
    · rw [sm_two (n := n) hik (by omega) fun j hj => z j (by omega), z n (by omega) (by omega) (by omega)]; grind
theorem sm_swap (f : Nat → Nat → Rat) (m : Nat) : ∀ n : Nat, sm n (fun x => sm m (fun k => f x k)) = sm m (fun k => sm n (fun x => f x k))
  | 0 => by show (0 : Rat) = _; rw [sm_zero]; intro _ _; rfl
  | n + 1 => by
    show sm n _ + sm m (fun k => f n k) = _
    rw [sm_swap f m n, ← sm_add]
    rfl
theorem sm_nonneg {f : Nat → Rat} : ∀ {n : Nat}, (∀ j, j < n → 0 ≤ f j) → 0 ≤ sm n f
  | 0, _ => by show (0 : Rat) ≤ 0; grind
  | n + 1, h => by
    have h1 := sm_nonneg (n := n) fun j hj => h j (by omega)
    have h2 := h n (by omega)
    show 0 ≤ sm n f + f n
    grind
theorem sm_nonneg_zero {f : Nat → Rat} : ∀ {n : Nat}, (∀ j, j < n → 0 ≤ f j) → sm n f = 0 → ∀ j, j < n → f j = 0
  | 0, _, _, j, hj => absurd hj (by omega)
  | n + 1, h, e, j, hj => by
    have h1 := sm_nonneg (n := n) (f := f) fun j hj => h j (by omega)
    have h2 := h n (by omega)
    have e' : sm n f + f n = 0 := e
    by_cases q : j = n
    · subst q; grind
    · exact sm_nonneg_zero (n := n) (fun j hj => h j (by omega)) (by grind) j (by omega)
theorem sm_split (f : Nat → Rat) (n : Nat) : ∀ m : Nat, sm (n + m) f = sm n f + sm m (fun k => f (n + k))
  | 0 => by show sm n f = sm n f + 0; grind
  | m + 1 => by
    show sm (n + m) f + f (n + m) = sm n f + (sm m _ + f (n + m))
    rw [sm_split f n m]; grind
/-! ### Rows -/
abbrev at_ (r : Row) (k : Nat) : Rat := r.getD k 0
/-- a row's word of the unknowns y 0 .. y (N - 1), and of y N for what it comes to -/
def val (N : Nat) (r : Row) (y : Nat → Rat) : Rat := sm (N + 1) fun j => r.getD j 0 * y j
theorem clear_len {p q : Row} {j L : Nat} (hp : p.length = L) (hq : q.length = L) : (clear p q j).length = L := by
  unfold clear
  simp [List.length_zipWith, hp, hq]
theorem clear_at {p q : Row} {j : Nat} (h : p.length = q.length) (k : Nat) : (clear p q j).getD k 0 = q.getD k 0 - q.getD j 0 / p.getD j 0 * p.getD k 0 := by
  unfold clear
  simp only [List.getD_eq_getElem?_getD, List.getElem?_zipWith]
  by_cases hk : k < p.length
  · rw [List.getElem?_eq_getElem hk, List.getElem?_eq_getElem (by omega : k < q.length)]
    rfl
  · rw [List.getElem?_eq_none (by omega : p.length ≤ k), List.getElem?_eq_none (by omega : q.length ≤ k)]
    simp only [Option.getD_none]
    grind
theorem clear_val {p q : Row} {j : Nat} (N : Nat) (h : p.length = q.length) (y : Nat → Rat) : val N (clear p q j) y = val N q y - q.getD j 0 / p.getD j 0 * val N p y := by
  unfold val
  rw [← sm_mul, ← sm_sub]
  exact sm_congr fun k _ => by rw [clear_at h]; grind
/-- where the elimination stands before column j -/
structure Inv (N j : Nat) (used left : List Row) : Prop where
  lenU : ∀ r ∈ used, r.length = N + 1
  lenL : ∀ r ∈ left, r.length = N + 1
  many : used.length = j
  le : j ≤ N
  diag : ∀ i, i < j → (used.getD i []).getD i 0 ≠ 0
  off : ∀ i k, i < j → k < j → k ≠ i → (used.getD i []).getD k 0 = 0
  zero : ∀ r ∈ left, ∀ k, k < j → r.getD k 0 = 0
theorem mem_erase_iff {α : Type} {l : List α} {i : Nat} (h : i < l.length) (d : α) (r : α) : r ∈ l ↔ r = l.getD i d ∨ r ∈ l.eraseIdx i := by
  have e : l = l.take i ++ l[i] :: l.drop (i + 1) := by
    rw [← List.drop_eq_getElem_cons h, List.take_append_drop]
  have e3 : l.getD i d = l[i] := by simp [List.getD_eq_getElem?_getD, h]
  rw [List.eraseIdx_eq_take_drop_succ, e3]
  constructor
  · intro m
    rw [e] at m
    simp only [List.mem_append, List.mem_cons] at m ⊢
    rcases m with m | m | m
    · exact .inr (.inl m)
    · exact .inl m
    · exact .inr (.inr m)
  · intro m
    rw [e]
    simp only [List.mem_append, List.mem_cons] at m ⊢
    rcases m with m | m | m
    · exact .inr (.inl m)
    · exact .inl m
    · exact .inr (.inr m)
theorem getD_mem {α : Type} {l : List α} {i : Nat} (h : i < l.length) (d : α) : l.getD i d ∈ l := by
  simp [List.getD_eq_getElem?_getD, h]
theorem getD_app {α : Type} (l : List α) (p d : α) (k : Nat) (h : k < l.length) : (l ++ [p]).getD k d = l.getD k d := by
  simp [List.getD_eq_getElem?_getD, List.getElem?_append_left h]
theorem getD_app_end {α : Type} (l : List α) (p d : α) (k : Nat) (h : k = l.length) : (l ++ [p]).getD k d = p := by
  subst h
  simp [List.getD_eq_getElem?_getD]
theorem step_inv {N j i : Nat} {used left : List Row} (I : Inv N j used left) (hj : j < N) (hi : i < left.length) (hp : (left.getD i []).getD j 0 ≠ 0) :
    Inv N (j + 1) (used.map (fun (q : Row) => clear (left.getD i []) q j) ++ [left.getD i []]) ((left.eraseIdx i).map fun (q : Row) => clear (left.getD i []) q j) := by
  have pm : left.getD i [] ∈ left := getD_mem hi _
  generalize left.getD i [] = p at *
  have pl : p.length = N + 1 := I.lenL p pm
  have el : ∀ r ∈ left.eraseIdx i, r ∈ left := fun r hr => List.mem_of_mem_eraseIdx hr
  refine ⟨?_, ?_, ?_, by omega, ?_, ?_, ?_⟩
  · intro r hr
    simp only [List.mem_append, List.mem_map, List.mem_singleton] at hr
    rcases hr with ⟨q, hq, rfl⟩ | rfl
    · exact clear_len pl (I.lenU q hq)
    · exact pl
  · intro r hr
    simp only [List.mem_map] at hr
    obtain ⟨q, hq, rfl⟩ := hr
    exact clear_len pl (I.lenL q (el q hq))
  · simp [I.many]
  · intro k hk
    by_cases e : k = j
    · subst e
      rw [getD_app_end _ _ _ _ (by simp [I.many])]
      exact hp
    · have hk' : k < used.length := by rw [I.many]; omega
      rw [getD_app _ _ _ _ (by simpa using hk'), show (used.map (fun (q : Row) => clear p q j)).getD k [] = clear p (used.getD k []) j by simp [List.getD_eq_getElem?_getD, hk'], clear_at (by rw [pl, I.lenU _ (getD_mem hk' _)]), I.zero p pm k (by omega)]
      have := I.diag k (by omega)
      grind
  · intro k c hk hc hne
    by_cases e : k = j
    · subst e
      rw [getD_app_end _ _ _ _ (by simp [I.many])]
      exact I.zero p pm c (by omega)
    · have hk' : k < used.length := by rw [I.many]; omega
      rw [getD_app _ _ _ _ (by simpa using hk'), show (used.map (fun (q : Row) => clear p q j)).getD k [] = clear p (used.getD k []) j by simp [List.getD_eq_getElem?_getD, hk'], clear_at (by rw [pl, I.lenU _ (getD_mem hk' _)])]
      by_cases q : c = j
      · subst q
        grind
      · rw [I.zero p pm c (by omega), I.off k c (by omega) (by omega) hne]
        grind
  · intro r hr c hc
    simp only [List.mem_map] at hr
    obtain ⟨q, hq, rfl⟩ := hr
    rw [clear_at (by rw [pl, I.lenL _ (el q hq)])]
    by_cases e : c = j
    · subst e
      grind
    · rw [I.zero p pm c (by omega), I.zero q (el q hq) c (by omega)]
      grind
theorem step_same {N j i : Nat} {used left : List Row} (I : Inv N j used left) (hi : i < left.length) (y : Nat → Rat) :
    (∀ r ∈ used.map (fun (q : Row) => clear (left.getD i []) q j) ++ [left.getD i []] ++ (left.eraseIdx i).map (fun (q : Row) => clear (left.getD i []) q j), val N r y = 0) ↔ ∀ r ∈ used ++ left, val N r y = 0 := by
  have pm : left.getD i [] ∈ left := getD_mem hi _
  have me := fun r => mem_erase_iff (l := left) hi [] r
  generalize left.getD i [] = p at *
  have pl : p.length = N + 1 := I.lenL p pm
  have cv : ∀ q : Row, q.length = N + 1 → val N p y = 0 → val N (clear p q j) y = val N q y := fun q hq hp => by
    rw [clear_val N (by rw [pl, hq]), hp]; grind
  constructor
  · intro h r hr
    have hp : val N p y = 0 := h p (by simp)
    rcases List.mem_append.mp hr with m | m
    · rw [← cv r (I.lenU r m) hp]
      exact h _ (by simp only [List.mem_append, List.mem_map]; exact .inl (.inl ⟨r, m, rfl⟩))
    · rcases (me r).mp m with rfl | m'
      · exact hp
      · rw [← cv r (I.lenL r m) hp]
        exact h _ (by simp only [List.mem_append, List.mem_map]; exact .inr ⟨r, m', rfl⟩)
  · intro h r hr
    have hp : val N p y = 0 := h p (by simp [pm])
    simp only [List.mem_append, List.mem_map, List.mem_singleton] at hr
    rcases hr with (⟨q, hq, rfl⟩ | rfl) | ⟨q, hq, rfl⟩
    · rw [cv q (I.lenU q hq) hp]; exact h q (by simp [hq])
    · exact hp
    · have hq' := (me q).mpr (.inr hq)
      rw [cv q (I.lenL q hq') hp]; exact h q (by simp [hq'])
/-- a column that all rows left have 0 in: one unknown is free -/
theorem free_col {N j : Nat} {used left : List Row} (I : Inv N j used left) (hj : j < N) (h : ∀ r ∈ left, r.getD j 0 = 0) :
    ∃ y : Nat → Rat, y j ≠ 0 ∧ y N = 0 ∧ ∀ r ∈ used ++ left, val N r y = 0 := by
  refine ⟨fun i => if i < j then -((used.getD i []).getD j 0) / (used.getD i []).getD i 0 else if i = j then 1 else 0, ?_, ?_, ?_⟩
  · simp only [Nat.lt_irrefl, if_false, if_true]
    decide
  · show (if N < j then _ else if N = j then (1 : Rat) else 0) = 0
    rw [if_neg (by omega), if_neg (by omega)]
  · intro r hr
    rcases List.mem_append.mp hr with m | m
    · obtain ⟨i, hi, rfl⟩ := List.getElem_of_mem m
      have hij : i < j := by rw [← I.many]; exact hi
      have ei : used.getD i [] = used[i] := by simp [List.getD_eq_getElem?_getD, hi]
      have d := I.diag i hij
      rw [ei] at d
      unfold val
      rw [sm_two (i := i) (k := j) hij (by omega)]
      · simp only [hij, if_true, Nat.lt_irrefl, if_false, ei]
        grind
      · intro k hk h1 h2
        by_cases q : k < j
        · have := I.off i k hij q h1
          rw [ei] at this
          rw [this]; grind
        · simp only [q, if_false, h2]
          grind
    · unfold val
      refine sm_zero fun k hk => ?_
      by_cases q : k < j
      · rw [I.zero r m k q]; grind
      · by_cases q2 : k = j
        · subst q2; rw [h r m]; grind
        · simp only [q, if_false, q2]; grind
theorem solveBy_spec (N : Nat) : ∀ (k : Nat) (used left : List Row), k ≤ N → Inv N (N - k) used left →
    match solveBy N k used left with
    | none => ∃ y : Nat → Rat, (∃ j, j < N ∧ y j ≠ 0) ∧ y N = 0 ∧ ∀ r ∈ used ++ left, val N r y = 0
    | some (u, l) => Inv N N u l ∧ u.length + l.length = used.length + left.length ∧ ∀ y : Nat → Rat, (∀ r ∈ u ++ l, val N r y = 0) ↔ ∀ r ∈ used ++ left, val N r y = 0
  | 0, used, left, _, I => ⟨I, rfl, fun _ => Iff.rfl⟩
  | k + 1, used, left, hk, I => by
    unfold solveBy
    have hj : N - (k + 1) < N := by omega
    generalize ej : N - (k + 1) = j at *
    simp only
    cases e : left.findIdx? fun (r : Row) => r.getD j 0 != 0 with
    | none =>
      simp only
      rw [List.findIdx?_eq_none_iff] at e
      obtain ⟨y, h1, h2, h3⟩ := free_col I hj fun r hr => by simpa using e r hr
      exact ⟨y, ⟨j, hj, h1⟩, h2, h3⟩
    | some i =>
      simp only
      rw [List.findIdx?_eq_some_iff_getElem] at e
      obtain ⟨hi, hp, _⟩ := e
      have hp' : (left.getD i []).getD j 0 ≠ 0 := by
        simpa [List.getD_eq_getElem?_getD, hi] using hp
      have I2 := step_inv I hj hi hp'
      have S := step_same (i := i) I hi
      rw [show j + 1 = N - k by omega] at I2
      have H := solveBy_spec N k _ _ (by omega) I2
      revert H
      cases solveBy N k (used.map (fun (q : Row) => clear (left.getD i []) q j) ++ [left.getD i []]) ((left.eraseIdx i).map fun (q : Row) => clear (left.getD i []) q j) with
      | none =>
        rintro ⟨y, a, b, c⟩
        exact ⟨y, a, b, (S y).mp c⟩
      | some ul =>
        obtain ⟨u, l⟩ := ul
        rintro ⟨a, b, c⟩
        refine ⟨a, ?_, fun y => (c y).trans (S y)⟩
        rw [b]
        simp only [List.length_append, List.length_map, List.length_singleton, List.length_eraseIdx, hi, if_true]
        omega
theorem inv_start {N : Nat} {rows : List Row} (h : ∀ r ∈ rows, r.length = N + 1) : Inv N (N - N) [] rows where
  lenU := fun r hr => by simp at hr
  lenL := h
  many := by simp
  le := by omega
  diag := fun i hi => by omega
  off := fun i k hi => by omega
  zero := fun r hr k hk => by omega
/-- a row of the end: its unknown alone -/
theorem used_val {N : Nat} {u l : List Row} (I : Inv N N u l) (y : Nat → Rat) {j : Nat} (hj : j < N) :
    val N (u.getD j []) y = (u.getD j []).getD j 0 * y j + (u.getD j []).getD N 0 * y N := by
  unfold val
  exact sm_two hj (by omega) fun k hk h1 h2 => by rw [I.off j k hj (by omega) h1]; grind
theorem left_val {N : Nat} {u l : List Row} (I : Inv N N u l) (y : Nat → Rat) {r : Row} (hr : r ∈ l) : val N r y = r.getD N 0 * y N := by
  unfold val
  exact sm_one (by omega) fun k hk h1 => by rw [I.zero r hr k (by omega)]; grind
/-- nothing but zeros keeps to the rows with nothing to come to -/
def TrivRows (N : Nat) (rows : List Row) : Prop := ∀ y : Nat → Rat, y N = 0 → (∀ r ∈ rows, val N r y = 0) → ∀ j, j < N → y j = 0
theorem end_triv {N : Nat} {u l rows : List Row} (I : Inv N N u l) (S : ∀ y : Nat → Rat, (∀ r ∈ u ++ l, val N r y = 0) ↔ ∀ r ∈ rows, val N r y = 0) : TrivRows N rows := by
  intro y h0 hz j hj
  have h := (S y).mpr hz (u.getD j []) (List.mem_append_left _ (getD_mem (by rw [I.many]; exact hj) _))
  rw [used_val I y hj, h0] at h
  have d := I.diag j hj
  grind
theorem solve_some {N : Nat} {rows : List Row} (hl : ∀ r ∈ rows, r.length = N + 1) {x : List Rat} (h : solve N rows = some x) :
    x.length = N ∧ TrivRows N rows ∧ ∀ y : Nat → Rat, y N = -1 → (∀ j, j < N → y j = x.getD j 0) → ∀ r ∈ rows, val N r y = 0 := by
  unfold solve at h
  have H := solveBy_spec N N [] rows (Nat.le_refl _) (inv_start hl)
  revert h H
  cases solveBy N N [] rows with
  | none => intro h; cases h
  | some ul =>
    obtain ⟨u, l⟩ := ul
    simp only
    intro h ⟨I, _, S⟩
    rw [List.nil_append] at S
    split at h
    · rename_i hz
      have hz' : ∀ r ∈ l, r.getD N 0 = 0 := fun r hr => by
        have := List.all_eq_true.mp hz r hr
        simpa using this
      have e := Option.some.inj h
      refine ⟨by rw [← e]; simp, end_triv I S, fun y h1 h2 => (S y).mp fun r hr => ?_⟩
      rcases List.mem_append.mp hr with m | m
      · obtain ⟨i, hi, rfl⟩ := List.getElem_of_mem m
        have hiN : i < N := by rw [← I.many]; exact hi
        have ei : u.getD i [] = u[i] := by simp [List.getD_eq_getElem?_getD, hi]
        have d := I.diag i hiN
        rw [← ei, used_val I y hiN, h1, h2 i hiN, ← e]
        have e2 : ((List.range N).map fun (j : Nat) => (u.getD j []).getD N 0 / (u.getD j []).getD j 1).getD i 0 = (u.getD i []).getD N 0 / (u.getD i []).getD i 1 := by
          simp [List.getD_eq_getElem?_getD, hiN]
        have e3 : (u.getD i []).getD i 1 = (u.getD i []).getD i 0 := by
          have : i < (u.getD i []).length := by rw [I.lenU _ (getD_mem hi _)]; omega
          generalize u.getD i [] = q at *
          simp [List.getD_eq_getElem?_getD, this]
        rw [e2, e3]
        grind
      · rw [left_val I y m, hz' r m]; grind
    · cases h
theorem solve_none {N : Nat} {rows : List Row} (hl : ∀ r ∈ rows, r.length = N + 1) (h : solve N rows = none) (T : TrivRows N rows) :
    ∀ y : Nat → Rat, y N = -1 → ¬ ∀ r ∈ rows, val N r y = 0 := by
  unfold solve at h
  have H := solveBy_spec N N [] rows (Nat.le_refl _) (inv_start hl)
  revert h H
  cases solveBy N N [] rows with
  | none =>
    simp only
    rintro _ ⟨y, ⟨j, hj, hne⟩, h0, hz⟩
    exact absurd (T y h0 (by simpa using hz) j hj) hne
  | some ul =>
    obtain ⟨u, l⟩ := ul
    simp only
    intro h ⟨I, _, S⟩ y h1 hz
    rw [List.nil_append] at S
    split at h
    · cases h
    · rename_i hn
      refine hn (List.all_eq_true.mpr fun r hr => ?_)
      have := (S y).mpr hz r (List.mem_append_right _ hr)
      rw [left_val I y hr, h1] at this
      have e : r.getD N 0 = 0 := by grind
      simpa using e
/-- as many rows as unknowns, and only zeros: there's one that keeps to them -/
theorem square {N : Nat} {rows : List Row} (hl : ∀ r ∈ rows, r.length = N + 1) (hn : rows.length = N) (T : TrivRows N rows) :
    ∃ y : Nat → Rat, y N = -1 ∧ ∀ r ∈ rows, val N r y = 0 := by
  have H := solveBy_spec N N [] rows (Nat.le_refl _) (inv_start hl)
  revert H
  cases solveBy N N [] rows with
  | none =>
    rintro ⟨y, ⟨j, hj, hne⟩, h0, hz⟩
    exact absurd (T y h0 (by simpa using hz) j hj) hne
  | some ul =>
    obtain ⟨u, l⟩ := ul
    rintro ⟨I, c, S⟩
    rw [List.nil_append] at S
    have hl0 : l = [] := by
      have := I.many
      simp only [List.length_nil] at c
      exact List.length_eq_zero_iff.mp (by omega)
    subst hl0
    refine ⟨fun j => if j = N then -1 else (u.getD j []).getD N 0 / (u.getD j []).getD j 0, by simp, (S _).mp fun r hr => ?_⟩
    rw [List.append_nil] at hr
    obtain ⟨i, hi, rfl⟩ := List.getElem_of_mem hr
    have hiN : i < N := by rw [← I.many]; exact hi
    have ei : u.getD i [] = u[i] := by simp [List.getD_eq_getElem?_getD, hi]
    have d := I.diag i hiN
    rw [← ei, used_val I _ hiN]
    simp only [if_true, show i ≠ N by omega, if_false]
    grind
end Rn
/-! The rows of a net, what they say, and when there is just one solution. -/
namespace Rn
open Rc43
def pt (n : Net) (k : Nat) : Part := n.parts.getD k ⟨0, 0, 0, 0⟩
def ends (n : Net) (k x : Nat) : Rat := (if (pt n k).a = x then 1 else 0) - (if (pt n k).b = x then 1 else 0)
/-- what flows out of a node -/
def out (n : Net) (i : Nat → Rat) (x : Nat) : Rat := sm n.parts.length fun k => ends n k x * i k
/-- volts v and amperes i keep to the laws of the net, its sources' much taken c times -/
structure Sol (n : Net) (c : Rat) (v i : Nat → Rat) : Prop where
  ground : v 0 = 0
  res : ∀ k, k < n.parts.length → (pt n k).kind = 0 → v (pt n k).a - v (pt n k).b = ((pt n k).much : Rat) * i k
  vol : ∀ k, k < n.parts.length → (pt n k).kind = 1 → v (pt n k).a - v (pt n k).b = c * ((pt n k).much : Rat)
  amp : ∀ k, k < n.parts.length → (pt n k).kind ≠ 0 → (pt n k).kind ≠ 1 → i k = -(c * ((pt n k).much : Rat))
  node : ∀ x, x < n.nodes → out n i x = 0
/-- nets whose parts stand between two of its nodes -/
def Ok (n : Net) : Prop := 0 < n.nodes ∧ ∀ k, k < n.parts.length → (pt n k).a < n.nodes ∧ (pt n k).b < n.nodes
def Triv (n : Net) : Prop := ∀ v i : Nat → Rat, Sol n 0 v i → (∀ x, x < n.nodes → v x = 0) ∧ ∀ k, k < n.parts.length → i k = 0
def rowOf (N : Nat) (f : Nat → Rat) (c : Rat) : Row := (List.range N).map f ++ [c]
theorem rowOf_len (N : Nat) (f : Nat → Rat) (c : Rat) : (rowOf N f c).length = N + 1 := by simp [rowOf]
theorem rowOf_val (N : Nat) (f : Nat → Rat) (c : Rat) (y : Nat → Rat) : val N (rowOf N f c) y = sm N (fun j => f j * y j) + c * y N := by
  unfold val
  show sm N (fun j => (rowOf N f c).getD j 0 * y j) + (rowOf N f c).getD N 0 * y N = _
  have e1 : (rowOf N f c).getD N 0 = c := getD_app_end _ _ _ _ (by simp)
  rw [e1]
  congr 1
  refine sm_congr fun j hj => ?_
  have e2 : (rowOf N f c).getD j 0 = f j := by
    unfold rowOf
    rw [getD_app _ _ _ _ (by simpa using hj)]
    simp [List.getD_eq_getElem?_getD, hj]
  rw [e2]
def groundRow (n : Net) : Row := rowOf (n.nodes + n.parts.length) (fun x => if x = 0 then 1 else 0) 0
def voltAt (a b x : Nat) : Rat := (if x = a then 1 else 0) - (if x = b then 1 else 0)
def partRow (n : Net) (k : Nat) : Row := if (pt n k).kind = 0 then rowOf (n.nodes + n.parts.length) (fun x => voltAt (pt n k).a (pt n k).b x - (if x = n.nodes + k then ((pt n k).much : Rat) else 0)) 0
    else if (pt n k).kind = 1 then rowOf (n.nodes + n.parts.length) (voltAt (pt n k).a (pt n k).b) ((pt n k).much : Rat) else rowOf (n.nodes + n.parts.length) (fun x => if x = n.nodes + k then 1 else 0) (-((pt n k).much : Rat))
def nodeRow (n : Net) (y : Nat) : Row := rowOf (n.nodes + n.parts.length) (fun x => if x < n.nodes then 0 else ends n (x - n.nodes) y) 0
theorem equations_eq (n : Net) : equations n = [groundRow n] ++ (List.range n.parts.length).map (partRow n) ++ (List.range n.nodes).map (nodeRow n) := rfl
theorem one_at (N : Nat) (y : Nat → Rat) {a : Nat} (h : a < N) (c : Rat) : sm N (fun j => (if j = a then c else 0) * y j) = c * y a := by
  rw [sm_one h fun j _ hne => by rw [if_neg hne]; grind]
  simp
theorem volt_at (N : Nat) (y : Nat → Rat) {a b : Nat} (ha : a < N) (hb : b < N) : sm N (fun j => voltAt a b j * y j) = y a - y b := by
  have e : ∀ j, voltAt a b j * y j = (if j = a then 1 else 0) * y j - (if j = b then 1 else 0) * y j := fun j => by unfold voltAt; grind
  rw [sm_congr fun j _ => e j, sm_sub, one_at N y ha, one_at N y hb]
  grind
theorem ground_val (n : Net) (h : 0 < n.nodes) (y : Nat → Rat) : val (n.nodes + n.parts.length) (groundRow n) y = y 0 := by
  unfold groundRow
  rw [rowOf_val, one_at _ y (by omega)]
  grind
theorem res_val (n : Net) (h : Ok n) {k : Nat} (hk : k < n.parts.length) (e : (pt n k).kind = 0) (y : Nat → Rat) :
    val (n.nodes + n.parts.length) (partRow n k) y = y (pt n k).a - y (pt n k).b - ((pt n k).much : Rat) * y (n.nodes + k) := by
  have hh := h.2 k hk
  unfold partRow
  rw [if_pos e, rowOf_val]
  have e : ∀ j, (voltAt (pt n k).a (pt n k).b j - (if j = n.nodes + k then ((pt n k).much : Rat) else 0)) * y j = voltAt (pt n k).a (pt n k).b j * y j - (if j = n.nodes + k then ((pt n k).much : Rat) else 0) * y j := fun j => by grind
  rw [sm_congr fun j _ => e j, sm_sub, volt_at _ y (by omega) (by omega), one_at _ y (by omega)]
  grind
theorem vol_val (n : Net) (h : Ok n) {k : Nat} (hk : k < n.parts.length) (e : (pt n k).kind = 1) (y : Nat → Rat) :
    val (n.nodes + n.parts.length) (partRow n k) y = y (pt n k).a - y (pt n k).b + ((pt n k).much : Rat) * y (n.nodes + n.parts.length) := by
  have hh := h.2 k hk
  unfold partRow
  rw [if_neg (by omega), if_pos e, rowOf_val, volt_at _ y (by omega) (by omega)]
theorem amp_val (n : Net) {k : Nat} (hk : k < n.parts.length) (e : (pt n k).kind ≠ 0) (e' : (pt n k).kind ≠ 1) (y : Nat → Rat) :
    val (n.nodes + n.parts.length) (partRow n k) y = y (n.nodes + k) - ((pt n k).much : Rat) * y (n.nodes + n.parts.length) := by
  unfold partRow
  rw [if_neg e, if_neg e', rowOf_val, one_at _ y (by omega)]
  grind
theorem node_val (n : Net) (x : Nat) (y : Nat → Rat) : val (n.nodes + n.parts.length) (nodeRow n x) y = out n (fun k => y (n.nodes + k)) x := by
  unfold nodeRow
  rw [rowOf_val, sm_split, sm_zero fun j hj => by rw [if_pos hj]; grind]
  unfold out
  rw [sm_congr (g := fun k => ends n k x * y (n.nodes + k)) fun k _ => by rw [if_neg (by omega), show n.nodes + k - n.nodes = k by omega]]
  grind
theorem partRow_len (n : Net) (k : Nat) : (partRow n k).length = n.nodes + n.parts.length + 1 := by
  unfold partRow
  split
  · exact rowOf_len ..
  · split <;> exact rowOf_len ..
theorem part_iff (n : Net) (h : Ok n) (c : Rat) (y : Nat → Rat) (hc : y (n.nodes + n.parts.length) = -c) :
    (∀ r ∈ (List.range n.parts.length).map (partRow n), val (n.nodes + n.parts.length) r y = 0) ↔
    (∀ k, k < n.parts.length → (pt n k).kind = 0 → y (pt n k).a - y (pt n k).b = ((pt n k).much : Rat) * y (n.nodes + k)) ∧
    (∀ k, k < n.parts.length → (pt n k).kind = 1 → y (pt n k).a - y (pt n k).b = c * ((pt n k).much : Rat)) ∧
    (∀ k, k < n.parts.length → (pt n k).kind ≠ 0 → (pt n k).kind ≠ 1 → y (n.nodes + k) = -(c * ((pt n k).much : Rat))) := by
  constructor
  · intro H
    have H' : ∀ k, k < n.parts.length → val (n.nodes + n.parts.length) (partRow n k) y = 0 := fun k hk => H _ (List.mem_map.mpr ⟨k, List.mem_range.mpr hk, rfl⟩)
    refine ⟨fun k hk e => ?_, fun k hk e => ?_, fun k hk e e' => ?_⟩
    · have := H' k hk; rw [res_val n h hk e] at this; grind
    · have := H' k hk; rw [vol_val n h hk e, hc] at this; grind
    · have := H' k hk; rw [amp_val n hk e e', hc] at this; grind
  · rintro ⟨h1, h2, h3⟩ r hr
    obtain ⟨k, hk, rfl⟩ := List.mem_map.mp hr
    have hk := List.mem_range.mp hk
    by_cases e : (pt n k).kind = 0
    · rw [res_val n h hk e, h1 k hk e]; grind
    · by_cases e' : (pt n k).kind = 1
      · rw [vol_val n h hk e', h2 k hk e', hc]; grind
      · rw [amp_val n hk e e', h3 k hk e e', hc]; grind
theorem rows_sol (n : Net) (h : Ok n) (c : Rat) (y : Nat → Rat) (hc : y (n.nodes + n.parts.length) = -c) :
    (∀ r ∈ equations n, val (n.nodes + n.parts.length) r y = 0) ↔ Sol n c y (fun k => y (n.nodes + k)) := by
  rw [equations_eq]
  constructor
  · intro H
    have P := (part_iff n h c y hc).mp fun r hr => H r (List.mem_append_left _ (List.mem_append_right _ hr))
    have g := H (groundRow n) (by simp)
    rw [ground_val n h.1] at g
    refine ⟨g, P.1, P.2.1, P.2.2, fun x hx => ?_⟩
    rw [← node_val]
    exact H _ (List.mem_append_right _ (List.mem_map.mpr ⟨x, List.mem_range.mpr hx, rfl⟩))
  · intro S r hr
    rcases List.mem_append.mp hr with m | m
    · rcases List.mem_append.mp m with m | m
      · rw [List.mem_singleton.mp m, ground_val n h.1]; exact S.ground
      · exact (part_iff n h c y hc).mpr ⟨S.res, S.vol, S.amp⟩ r m
    · obtain ⟨x, hx, rfl⟩ := List.mem_map.mp m
      rw [node_val]
      exact S.node x (List.mem_range.mp hx)
theorem eq_len (n : Net) : ∀ r ∈ equations n, r.length = n.nodes + n.parts.length + 1 := by
  rw [equations_eq]
  intro r hr
  simp only [List.mem_append, List.mem_singleton, List.mem_map] at hr
  rcases hr with (rfl | ⟨k, _, rfl⟩) | ⟨k, _, rfl⟩
  · exact rowOf_len ..
  · exact partRow_len ..
  · exact rowOf_len ..
/-- the unknowns in one row, and what they come to -/
def joinY (n : Net) (c : Rat) (v i : Nat → Rat) : Nat → Rat := fun j => if j < n.nodes then v j else if j < n.nodes + n.parts.length then i (j - n.nodes) else -c
theorem Sol.congr {n : Net} (h : Ok n) {c : Rat} {v i v' i' : Nat → Rat} (S : Sol n c v i) (hv : ∀ x, x < n.nodes → v' x = v x) (hi : ∀ k, k < n.parts.length → i' k = i k) : Sol n c v' i' where
  ground := by rw [hv 0 h.1]; exact S.ground
  res := fun k hk e => by rw [hv _ (h.2 k hk).1, hv _ (h.2 k hk).2, hi k hk]; exact S.res k hk e
  vol := fun k hk e => by rw [hv _ (h.2 k hk).1, hv _ (h.2 k hk).2]; exact S.vol k hk e
  amp := fun k hk e e' => by rw [hi k hk]; exact S.amp k hk e e'
  node := fun x hx => by
    rw [← S.node x hx]
    exact sm_congr fun k hk => by rw [hi k hk]
theorem join_sol {n : Net} (h : Ok n) {c : Rat} {v i : Nat → Rat} (S : Sol n c v i) : ∀ r ∈ equations n, val (n.nodes + n.parts.length) r (joinY n c v i) = 0 := by
  refine (rows_sol n h c _ ?_).mpr (S.congr h (fun x hx => ?_) fun k hk => ?_)
  · unfold joinY; rw [if_neg (by omega), if_neg (by omega)]
  · unfold joinY; rw [if_pos hx]
  · show joinY n c v i (n.nodes + k) = i k
    unfold joinY; rw [if_neg (by omega), if_pos (by omega), show n.nodes + k - n.nodes = k by omega]
theorem triv_rows {n : Net} (h : Ok n) : Triv n ↔ TrivRows (n.nodes + n.parts.length) (equations n) := by
  constructor
  · intro T y h0 hz j hj
    have S := (rows_sol n h 0 y (by rw [h0]; grind)).mp hz
    have t := T _ _ S
    by_cases q : j < n.nodes
    · exact t.1 j q
    · have := t.2 (j - n.nodes) (by omega)
      simp only [show n.nodes + (j - n.nodes) = j by omega] at this
      exact this
  · intro T v i S
    have t := T (joinY n 0 v i) (by unfold joinY; rw [if_neg (by omega), if_neg (by omega)]; grind) (join_sol h S)
    refine ⟨fun x hx => ?_, fun k hk => ?_⟩
    · have := t x (by omega)
      unfold joinY at this; rw [if_pos hx] at this; exact this
    · have := t (n.nodes + k) (by omega)
      unfold joinY at this; rw [if_neg (by omega), if_pos (by omega), show n.nodes + k - n.nodes = k by omega] at this; exact this
/-- **What the specification's word is**, if there is one. -/
theorem solved_some {n : Net} (h : Ok n) {l : List Rat} (e : solved n = some l) :
    l.length = n.nodes + n.parts.length ∧ Triv n ∧ Sol n 1 (fun x => l.getD x 0) (fun k => l.getD (n.nodes + k) 0) := by
  obtain ⟨a, b, c⟩ := solve_some (eq_len n) e
  refine ⟨a, (triv_rows h).mpr b, ?_⟩
  have H := c (fun j => if j < n.nodes + n.parts.length then l.getD j 0 else -1) (by simp) fun j hj => by simp only [hj, if_true]
  refine ((rows_sol n h 1 _ (by simp)).mp H).congr h (fun x hx => ?_) fun k hk => ?_
  · simp only [show x < n.nodes + n.parts.length by omega, if_true]
  · simp only [show n.nodes + k < n.nodes + n.parts.length by omega, if_true]
theorem Sol.sub {n : Net} {c d : Rat} {v i w j : Nat → Rat} (S : Sol n c v i) (T : Sol n d w j) : Sol n (c - d) (fun x => v x - w x) (fun k => i k - j k) where
  ground := by rw [S.ground, T.ground]; grind
  res := fun k hk e => by have := S.res k hk e; have := T.res k hk e; grind
  vol := fun k hk e => by have := S.vol k hk e; have := T.vol k hk e; grind
  amp := fun k hk e e' => by have := S.amp k hk e e'; have := T.amp k hk e e'; grind
  node := fun x hx => by
    have h1 := S.node x hx
    have h2 := T.node x hx
    unfold out at *
    rw [sm_congr (g := fun k => ends n k x * i k - ends n k x * j k) fun k _ => by grind, sm_sub, h1, h2]
    grind
theorem triv_same {n : Net} (T : Triv n) {c : Rat} {v i w j : Nat → Rat} (S : Sol n c v i) (R : Sol n c w j) : (∀ x, x < n.nodes → v x = w x) ∧ ∀ k, k < n.parts.length → i k = j k := by
  have D := S.sub R
  rw [show c - c = 0 by grind] at D
  have t := T _ _ D
  exact ⟨fun x hx => by have := t.1 x hx; grind, fun k hk => by have := t.2 k hk; grind⟩
/-- what flows out of all nodes together is nothing -/
theorem out_all (n : Net) (h : Ok n) (i : Nat → Rat) : sm n.nodes (fun x => out n i x) = 0 := by
  unfold out
  rw [sm_swap]
  refine sm_zero fun k hk => ?_
  have hh := h.2 k hk
  have e : ∀ x, ends n k x * i k = (if x = (pt n k).a then 1 else 0) * i k - (if x = (pt n k).b then 1 else 0) * i k := fun x => by
    unfold ends
    rw [show (if (pt n k).a = x then (1 : Rat) else 0) = (if x = (pt n k).a then 1 else 0) by simp only [eq_comm], show (if (pt n k).b = x then (1 : Rat) else 0) = (if x = (pt n k).b then 1 else 0) by simp only [eq_comm]]
    grind
  rw [sm_congr fun x _ => e x, sm_sub, one_at n.nodes (fun _ => i k) hh.1, one_at n.nodes (fun _ => i k) hh.2]
  grind
/-- **Only zeros without sources: then there's a solution.** -/
theorem triv_sol {n : Net} (h : Ok n) (T : Triv n) : ∃ v i, Sol n 1 v i := by
  obtain ⟨p, hp⟩ : ∃ p, n.nodes = p + 1 := ⟨n.nodes - 1, by have := h.1; omega⟩
  let rows : List Row := [groundRow n] ++ (List.range n.parts.length).map (partRow n) ++ (List.range p).map (fun x => nodeRow n (x + 1))
  have full : ∀ y : Nat → Rat, (∀ r ∈ rows, val (n.nodes + n.parts.length) r y = 0) → ∀ r ∈ equations n, val (n.nodes + n.parts.length) r y = 0 := by
    intro y H r hr
    rw [equations_eq] at hr
    rcases List.mem_append.mp hr with m | m
    · exact H r (List.mem_append_left _ m)
    · obtain ⟨x, hx, rfl⟩ := List.mem_map.mp m
      have hx := List.mem_range.mp hx
      have H1 : ∀ x, 0 < x → x < n.nodes → val (n.nodes + n.parts.length) (nodeRow n x) y = 0 := fun x h0 h1 =>
        H _ (List.mem_append_right _ (List.mem_map.mpr ⟨x - 1, List.mem_range.mpr (by omega), by rw [show x - 1 + 1 = x by omega]⟩))
      by_cases q : x = 0
      · subst q
        have A := out_all n h (fun k => y (n.nodes + k))
        rw [sm_one (i := 0) h.1 fun x hx hne => by rw [← node_val]; exact H1 x (by omega) hx] at A
        rw [node_val]; exact A
      · exact H1 x (by omega) hx
  obtain ⟨y, h1, h2⟩ := square (N := n.nodes + n.parts.length) (rows := rows)
    (fun r hr => by
      simp only [rows, List.mem_append, List.mem_singleton, List.mem_map] at hr
      rcases hr with (rfl | ⟨k, _, rfl⟩) | ⟨k, _, rfl⟩
      · exact rowOf_len ..
      · exact partRow_len ..
      · exact rowOf_len ..)
    (by simp only [rows, List.length_append, List.length_map, List.length_range, List.length_singleton]; omega)
    (fun y h0 hz => (triv_rows h).mp T y h0 (full y hz))
  exact ⟨_, _, (rows_sol n h 1 y h1).mp (full y h2)⟩
theorem solved_isSome {n : Net} (h : Ok n) : (solved n).isSome = true ↔ Triv n := by
  constructor
  · intro e
    obtain ⟨l, hl⟩ := Option.isSome_iff_exists.mp e
    exact (solved_some h hl).2.1
  · intro T
    cases e : solved n with
    | some _ => rfl
    | none =>
      obtain ⟨v, i, S⟩ := triv_sol h T
      refine absurd (join_sol h S) (solve_none (eq_len n) e ((triv_rows h).mp T) _ ?_)
      unfold joinY; rw [if_neg (by omega), if_neg (by omega)]
/-- **One that keeps to the laws is the specification's word.** -/
theorem solved_of {n : Net} (h : Ok n) (T : Triv n) {v i : Nat → Rat} (S : Sol n 1 v i) :
    ∃ l, solved n = some l ∧ (∀ x, x < n.nodes → l.getD x 0 = v x) ∧ ∀ k, k < n.parts.length → l.getD (n.nodes + k) 0 = i k := by
  obtain ⟨l, hl⟩ := Option.isSome_iff_exists.mp ((solved_isSome h).mpr T)
  obtain ⟨_, _, R⟩ := solved_some h hl
  have := triv_same T R S
  exact ⟨l, hl, this.1, this.2⟩
end Rn
/-! When a net has just one solution, told by how its parts join its nodes. -/
namespace Rn
open Rc43
theorem cut (n : Net) (h : Ok n) (i : Nat → Rat) (f : Nat → Rat) : sm n.nodes (fun x => f x * out n i x) = sm n.parts.length (fun k => (f (pt n k).a - f (pt n k).b) * i k) := by
  have e : ∀ x, f x * out n i x = sm n.parts.length (fun k => f x * (ends n k x * i k)) := fun x => by
    unfold out; rw [sm_mul]
  rw [sm_congr fun x _ => e x, sm_swap]
  refine sm_congr fun k hk => ?_
  have hh := h.2 k hk
  have e2 : ∀ x, f x * (ends n k x * i k) = (if x = (pt n k).a then i k else 0) * f x - (if x = (pt n k).b then i k else 0) * f x := fun x => by
    unfold ends
    rw [show (if (pt n k).a = x then (1 : Rat) else 0) = (if x = (pt n k).a then 1 else 0) by simp only [eq_comm], show (if (pt n k).b = x then (1 : Rat) else 0) = (if x = (pt n k).b then 1 else 0) by simp only [eq_comm]]
    split <;> split <;> grind
  rw [sm_congr fun x _ => e2 x, sm_sub, one_at n.nodes f hh.1, one_at n.nodes f hh.2]
  grind
/-! ### The program's own way -/
def gAt (g : List Int) (x : Nat) : Int := g.getD x 0
def joinG (g : List Int) (a b : Nat) : List Int := g.map fun x => if x = gAt g b then gAt g a else x
def volG : List Part → List Int → Option (List Int)
  | [], g => some g
  | p :: r, g => if gAt g p.a = gAt g p.b then none else volG r (joinG g p.a p.b)
def resG : List Part → List Int → List Int
  | [], g => g
  | p :: r, g => resG r (joinG g p.a p.b)
def startG (n : Nat) : List Int := (List.range n).map fun (x : Nat) => (x : Int)
def oneG (n : Net) : Bool := match volG (n.parts.filter fun p => p.kind == 1) (startG n.nodes) with
  | none => false
  | some g => (resG (n.parts.filter fun p => p.kind == 0) g).all fun x => x == gAt (resG (n.parts.filter fun p => p.kind == 0) g) 0
theorem joinG_len (g : List Int) (a b : Nat) : (joinG g a b).length = g.length := by simp [joinG]
theorem joinG_at {g : List Int} {a b x : Nat} (h : x < g.length) : gAt (joinG g a b) x = if gAt g x = gAt g b then gAt g a else gAt g x := by
  simp [gAt, joinG, List.getD_eq_getElem?_getD, h]
/-- the places of the parts of a kind -/
def ofKind (n : Net) (c : Nat) : List Nat := (List.range n.parts.length).filter fun k => (pt n k).kind == c
theorem ofKind_mem {n : Net} {c k : Nat} : k ∈ ofKind n c ↔ k < n.parts.length ∧ (pt n k).kind = c := by
  simp [ofKind]
theorem ofKind_nodup (n : Net) (c : Nat) : (ofKind n c).Nodup := List.Pairwise.filter _ List.nodup_range
theorem range_getD {α : Type} (l : List α) (d : α) : (List.range l.length).map (fun k => l.getD k d) = l := by
  apply List.ext_getElem
  · simp
  · intro k h1 h2
    simp [List.getD_eq_getElem?_getD, List.getElem?_eq_getElem h2]
theorem ofKind_parts (n : Net) (c : Nat) : n.parts.filter (fun p => p.kind == c) = (ofKind n c).map (pt n) := by
  have e : n.parts = (List.range n.parts.length).map (pt n) := (range_getD n.parts ⟨0, 0, 0, 0⟩).symm
  conv => lhs; rw [e]
  rw [List.filter_map]
  rfl
/-- volts that parts of the loop keep equal are equal where the groups are -/
theorem join_keeps {n : Net} {v : Nat → Rat} {g : List Int} {a b : Nat} (hg : g.length = n.nodes) (ha : a < n.nodes) (hb : b < n.nodes) (e : v a = v b)
    (I : ∀ x y, x < n.nodes → y < n.nodes → gAt g x = gAt g y → v x = v y) : ∀ x y, x < n.nodes → y < n.nodes → gAt (joinG g a b) x = gAt (joinG g a b) y → v x = v y := by
  intro x y hx hy h
  rw [joinG_at (by omega), joinG_at (by omega)] at h
  split at h <;> split at h
  · rename_i h1 h2; rw [I x b hx hb h1, I y b hy hb h2]
  · rename_i h1 h2; rw [I x b hx hb h1, ← e]; exact I a y ha hy h
  · rename_i h1 h2; rw [I y b hy hb h2, ← e]; exact I x a hx ha h
  · exact I x y hx hy h
theorem resG_len : ∀ (ps : List Part) (g : List Int), (resG ps g).length = g.length
  | [], _ => rfl
  | p :: r, g => by
    show (resG r (joinG g p.a p.b)).length = _
    rw [resG_len r, joinG_len]
theorem volG_len : ∀ (ps : List Part) (g g' : List Int), volG ps g = some g' → g'.length = g.length
  | [], g, g', h => by cases h; rfl
  | p :: r, g, g', h => by
    unfold volG at h
    split at h
    · cases h
    · rw [volG_len r _ _ h, joinG_len]
theorem res_keeps {n : Net} {v : Nat → Rat} : ∀ (ps : List Part) (g : List Int), g.length = n.nodes → (∀ p ∈ ps, p.a < n.nodes ∧ p.b < n.nodes ∧ v p.a = v p.b) →
    (∀ x y, x < n.nodes → y < n.nodes → gAt g x = gAt g y → v x = v y) → ∀ x y, x < n.nodes → y < n.nodes → gAt (resG ps g) x = gAt (resG ps g) y → v x = v y
  | [], g, _, _, I => I
  | p :: r, g, hg, hp, I => by
    have h0 := hp p (List.mem_cons_self ..)
    exact res_keeps r (joinG g p.a p.b) (by rw [joinG_len, hg]) (fun q hq => hp q (List.mem_cons_of_mem _ hq)) (join_keeps hg h0.1 h0.2.1 h0.2.2 I)
theorem vol_keeps {n : Net} {v : Nat → Rat} : ∀ (ps : List Part) (g g' : List Int), volG ps g = some g' → g.length = n.nodes → (∀ p ∈ ps, p.a < n.nodes ∧ p.b < n.nodes ∧ v p.a = v p.b) →
    (∀ x y, x < n.nodes → y < n.nodes → gAt g x = gAt g y → v x = v y) → ∀ x y, x < n.nodes → y < n.nodes → gAt g' x = gAt g' y → v x = v y
  | [], g, g', h, _, _, I => by cases h; exact I
  | p :: r, g, g', h, hg, hp, I => by
    unfold volG at h
    split at h
    · cases h
    · have h0 := hp p (List.mem_cons_self ..)
      exact vol_keeps r (joinG g p.a p.b) g' h (by rw [joinG_len, hg]) (fun q hq => hp q (List.mem_cons_of_mem _ hq)) (join_keeps hg h0.1 h0.2.1 h0.2.2 I)
theorem startG_len (n : Nat) : (startG n).length = n := by simp [startG]
theorem startG_at {n x : Nat} (h : x < n) : gAt (startG n) x = (x : Int) := by
  simp [gAt, startG, List.getD_eq_getElem?_getD, h]
/-- two nodes joined stay joined -/
theorem join_stays {g : List Int} {a b x y : Nat} (hx : x < g.length) (hy : y < g.length) (h : gAt g x = gAt g y) : gAt (joinG g a b) x = gAt (joinG g a b) y := by
  rw [joinG_at hx, joinG_at hy, h]
theorem join_joins {g : List Int} {a b : Nat} (ha : a < g.length) (hb : b < g.length) : gAt (joinG g a b) a = gAt (joinG g a b) b := by
  rw [joinG_at ha, joinG_at hb]
  split <;> simp
theorem res_stays {x y : Nat} : ∀ (ps : List Part) (g : List Int), x < g.length → y < g.length → gAt g x = gAt g y → gAt (resG ps g) x = gAt (resG ps g) y
  | [], _, _, _, h => h
  | p :: r, g, hx, hy, h => res_stays r (joinG g p.a p.b) (by rw [joinG_len]; exact hx) (by rw [joinG_len]; exact hy) (join_stays hx hy h)
theorem vol_stays {x y : Nat} : ∀ (ps : List Part) (g g' : List Int), volG ps g = some g' → x < g.length → y < g.length → gAt g x = gAt g y → gAt g' x = gAt g' y
  | [], g, g', e, _, _, h => by cases e; exact h
  | p :: r, g, g', e, hx, hy, h => by
    unfold volG at e
    split at e
    · cases e
    · exact vol_stays r (joinG g p.a p.b) g' e (by rw [joinG_len]; exact hx) (by rw [joinG_len]; exact hy) (join_stays hx hy h)
theorem res_joins : ∀ (ps : List Part) (g : List Int), (∀ p ∈ ps, p.a < g.length ∧ p.b < g.length) → ∀ p ∈ ps, gAt (resG ps g) p.a = gAt (resG ps g) p.b
  | [], _, _, p, hp => by simp at hp
  | q :: r, g, h, p, hp => by
    have hq := h q (List.mem_cons_self ..)
    show gAt (resG r (joinG g q.a q.b)) p.a = gAt (resG r (joinG g q.a q.b)) p.b
    rcases List.mem_cons.mp hp with rfl | m
    · exact res_stays r _ (by rw [joinG_len]; exact hq.1) (by rw [joinG_len]; exact hq.2) (join_joins hq.1 hq.2)
    · exact res_joins r _ (fun p hp => by rw [joinG_len]; exact h p (List.mem_cons_of_mem _ hp)) p m
theorem vol_joins : ∀ (ps : List Part) (g g' : List Int), volG ps g = some g' → (∀ p ∈ ps, p.a < g.length ∧ p.b < g.length) → ∀ p ∈ ps, gAt g' p.a = gAt g' p.b
  | [], _, _, _, _, p, hp => by simp at hp
  | q :: r, g, g', e, h, p, hp => by
    have hq := h q (List.mem_cons_self ..)
    unfold volG at e
    split at e
    · cases e
    · rcases List.mem_cons.mp hp with rfl | m
      · exact vol_stays r _ g' e (by rw [joinG_len]; exact hq.1) (by rw [joinG_len]; exact hq.2) (join_joins hq.1 hq.2)
      · exact vol_joins r _ g' e (fun p hp => by rw [joinG_len]; exact h p (List.mem_cons_of_mem _ hp)) p m
/-- no current goes round in sources of volts that make no ring -/
theorem vol_zero {n : Net} (h : Ok n) {i : Nat → Rat} (hz : ∀ x, x < n.nodes → out n i x = 0) : ∀ (ks : List Nat) (g g' : List Int), volG (ks.map (pt n)) g = some g' → g.length = n.nodes → ks.Nodup →
    (∀ k ∈ ks, k < n.parts.length) → (∀ k, k < n.parts.length → k ∉ ks → i k = 0 ∨ gAt g (pt n k).a = gAt g (pt n k).b) → ∀ k ∈ ks, i k = 0
  | [], _, _, _, _, _, _, _, k, hk => by simp at hk
  | c :: r, g, g', e, hg, hd, hm, hi, k, hk => by
    have hc : c < n.parts.length := hm c (List.mem_cons_self ..)
    have hcc := h.2 c hc
    have hd' := List.nodup_cons.mp hd
    rw [List.map_cons] at e
    unfold volG at e
    split at e
    · cases e
    · rename_i hne
      have IH := vol_zero h hz r (joinG g (pt n c).a (pt n c).b) g' e (by rw [joinG_len, hg]) hd'.2 (fun k hk => hm k (List.mem_cons_of_mem _ hk)) fun k hk hnr => by
        by_cases q : k = c
        · subst q
          exact .inr (join_joins (by omega) (by omega))
        · rcases hi k hk (fun m => (List.mem_cons.mp m).elim q hnr) with z | z
          · exact .inl z
          · have := h.2 k hk
            exact .inr (join_stays (by omega) (by omega) z)
      rcases List.mem_cons.mp hk with rfl | m
      · have C := cut n h i fun x => if gAt g x = gAt g (pt n k).a then 1 else 0
        rw [sm_zero fun x hx => by rw [hz x hx]; grind] at C
        rw [sm_one (i := k) hc] at C
        · simp only [if_true] at C
          rw [if_neg fun q => hne q.symm] at C
          grind
        · intro j hj hne'
          by_cases q : j ∈ r
          · rw [IH j q]; grind
          · rcases hi j hj (fun m => (List.mem_cons.mp m).elim hne' q) with z | z
            · rw [z]; grind
            · rw [z]; grind
      · exact IH k m
/-- **Joined, and no ring: only zeros.** -/
theorem one_triv {n : Net} (h : Ok n) (pos : ∀ k, k < n.parts.length → (pt n k).kind = 0 → 0 < (pt n k).much) (e : oneG n = true) : Triv n := by
  intro v i S
  have noI : ∀ k, k < n.parts.length → (pt n k).kind ≠ 1 → i k = 0 := by
    have C := cut n h i v
    rw [sm_zero fun x hx => by rw [S.node x hx]; grind] at C
    have nn : ∀ k, k < n.parts.length → (v (pt n k).a - v (pt n k).b) * i k = (if (pt n k).kind = 0 then ((pt n k).much : Rat) * (i k * i k) else 0) := fun k hk => by
      by_cases q : (pt n k).kind = 0
      · rw [if_pos q, S.res k hk q]; grind
      · rw [if_neg q]
        by_cases q' : (pt n k).kind = 1
        · rw [S.vol k hk q']; grind
        · rw [S.amp k hk q q']; grind
    rw [sm_congr nn] at C
    have mp : ∀ k, k < n.parts.length → (pt n k).kind = 0 → (0 : Rat) < ((pt n k).much : Rat) := fun k hk q => by
      have := pos k hk q
      exact Rat.intCast_pos.mpr this
    have sq : ∀ x : Rat, 0 ≤ x * x := fun x => by
      by_cases q : 0 ≤ x
      · exact Rat.mul_nonneg q q
      · have : 0 ≤ (-x) * (-x) := Rat.mul_nonneg (by grind) (by grind)
        grind
    have Z := sm_nonneg_zero (n := n.parts.length) (f := fun k => if (pt n k).kind = 0 then ((pt n k).much : Rat) * (i k * i k) else 0) (fun k hk => by
      by_cases q : (pt n k).kind = 0
      · simp only [q, if_true]
        exact Rat.mul_nonneg (Rat.le_of_lt (mp k hk q)) (sq _)
      · simp only [q, if_false]
        grind) C.symm
    intro k hk hk1
    by_cases q : (pt n k).kind = 0
    · have := Z k hk
      simp only [q, if_true] at this
      have p := mp k hk q
      rcases Rat.mul_eq_zero.mp this with z | z
      · rw [z] at p; exact absurd p (by decide)
      · rcases Rat.mul_eq_zero.mp z with z | z <;> exact z
    · rw [S.amp k hk q hk1]; grind
  have eqV : ∀ k, k < n.parts.length → (pt n k).kind = 0 ∨ (pt n k).kind = 1 → v (pt n k).a = v (pt n k).b := fun k hk q => by
    rcases q with q | q
    · have := S.res k hk q
      rw [noI k hk (by omega)] at this
      grind
    · have := S.vol k hk q
      grind
  unfold oneG at e
  cases eg : volG (n.parts.filter fun p => p.kind == 1) (startG n.nodes) with
  | none => rw [eg] at e; cases e
  | some g =>
    rw [eg] at e
    simp only [List.all_eq_true, beq_iff_eq] at e
    have mem : ∀ c, c = 0 ∨ c = 1 → ∀ p ∈ n.parts.filter (fun p => p.kind == c), p.a < n.nodes ∧ p.b < n.nodes ∧ v p.a = v p.b := by
      intro c hc p hp
      rw [ofKind_parts] at hp
      obtain ⟨k, hk, rfl⟩ := List.mem_map.mp hp
      have hk := ofKind_mem.mp hk
      have := h.2 k hk.1
      exact ⟨this.1, this.2, eqV k hk.1 (by omega)⟩
    have gl : g.length = n.nodes := by rw [volG_len _ _ _ eg, startG_len]
    have K1 := vol_keeps (n := n) (v := v) _ _ _ eg (startG_len _) (mem 1 (.inr rfl)) fun x y hx hy q => by
      rw [startG_at hx, startG_at hy] at q
      rw [Int.ofNat.inj q]
    have K2 := res_keeps (n := n) (v := v) _ g gl (mem 0 (.inl rfl)) K1
    have len2 : (resG (n.parts.filter fun p => p.kind == 0) g).length = n.nodes := by rw [resG_len, gl]
    refine ⟨fun x hx => ?_, fun k hk => ?_⟩
    · rw [← S.ground]
      refine K2 x 0 hx h.1 (e _ ?_)
      unfold gAt
      exact getD_mem (by omega) _
    · by_cases q : (pt n k).kind = 1
      · refine vol_zero h S.node (ofKind n 1) (startG n.nodes) g ?_ (startG_len _) (ofKind_nodup ..) (fun k hk => (ofKind_mem.mp hk).1) (fun k hk hn => .inl (noI k hk fun q => hn (ofKind_mem.mpr ⟨hk, q⟩))) k (ofKind_mem.mpr ⟨hk, q⟩)
        rw [← ofKind_parts]; exact eg
      · exact noI k hk q
/-! ### And back -/
/-- a flow through some parts alone, from one node to another -/
def Flow (n : Net) (done : List Nat) (x y : Nat) : Prop := ∃ f : Nat → Rat, (∀ k, k ∉ done → f k = 0) ∧ ∀ z, z < n.nodes → out n f z = (if z = x then 1 else 0) - (if z = y then 1 else 0)
theorem out_add (n : Net) (f g : Nat → Rat) (z : Nat) : out n (fun k => f k + g k) z = out n f z + out n g z := by
  unfold out
  rw [← sm_add]
  exact sm_congr fun k _ => by grind
theorem out_mul (n : Net) (c : Rat) (f : Nat → Rat) (z : Nat) : out n (fun k => c * f k) z = c * out n f z := by
  unfold out
  rw [← sm_mul]
  exact sm_congr fun k _ => by grind
theorem out_one (n : Net) {c : Nat} (hc : c < n.parts.length) (z : Nat) : out n (fun k => if k = c then 1 else 0) z = ends n c z := by
  unfold out
  rw [sm_one hc fun j _ hne => by simp only [hne, if_false]; grind]
  simp only [if_true]
  grind
theorem Flow.mono {n : Net} {d e : List Nat} {x y : Nat} (h : ∀ k ∈ d, k ∈ e) : Flow n d x y → Flow n e x y
  | ⟨f, a, b⟩ => ⟨f, fun k hk => a k fun m => hk (h k m), b⟩
theorem Flow.trans {n : Net} {d : List Nat} {x y z : Nat} : Flow n d x y → Flow n d y z → Flow n d x z
  | ⟨f, a, b⟩, ⟨f', a', b'⟩ => ⟨fun k => f k + f' k, fun k hk => by simp only [a k hk, a' k hk]; grind, fun w hw => by rw [out_add, b w hw, b' w hw]; grind⟩
theorem Flow.symm {n : Net} {d : List Nat} {x y : Nat} : Flow n d x y → Flow n d y x
  | ⟨f, a, b⟩ => ⟨fun k => (-1) * f k, fun k hk => by simp only [a k hk]; grind, fun w hw => by rw [out_mul, b w hw]; grind⟩
theorem Flow.part {n : Net} {d : List Nat} {c : Nat} (hc : c < n.parts.length) (m : c ∈ d) : Flow n d (pt n c).a (pt n c).b := by
  refine ⟨fun k => if k = c then 1 else 0, fun k hk => if_neg fun q => hk (by rw [q]; exact m), fun z _ => ?_⟩
  rw [out_one n hc]
  unfold ends
  simp only [eq_comm]
theorem Flow.refl (n : Net) (d : List Nat) (x : Nat) : Flow n d x x := by
  refine ⟨fun _ => 0, fun _ _ => rfl, fun z _ => ?_⟩
  unfold out
  rw [sm_zero fun k _ => by grind]
  grind
theorem join_flow {n : Net} (h : Ok n) {done : List Nat} {g : List Int} (hg : g.length = n.nodes) {c : Nat} (hc : c < n.parts.length)
    (I : ∀ x y, x < n.nodes → y < n.nodes → gAt g x = gAt g y → Flow n done x y) :
    ∀ x y, x < n.nodes → y < n.nodes → gAt (joinG g (pt n c).a (pt n c).b) x = gAt (joinG g (pt n c).a (pt n c).b) y → Flow n (c :: done) x y := by
  intro x y hx hy e
  have hh := h.2 c hc
  have I' : ∀ x y, x < n.nodes → y < n.nodes → gAt g x = gAt g y → Flow n (c :: done) x y := fun x y hx hy e => (I x y hx hy e).mono fun k hk => List.mem_cons_of_mem _ hk
  have P : Flow n (c :: done) (pt n c).a (pt n c).b := Flow.part hc (List.mem_cons_self ..)
  rw [joinG_at (by omega), joinG_at (by omega)] at e
  split at e <;> split at e
  · rename_i h1 h2; exact I' x y hx hy (h1.trans h2.symm)
  · rename_i h1 h2; exact (I' x _ hx hh.2 h1).trans (P.symm.trans (I' _ y hh.1 hy e))
  · rename_i h1 h2; exact (I' x _ hx hh.1 e).trans (P.trans (I' _ y hh.2 hy h2.symm))
  · exact I' x y hx hy e
/-- a ring of sources of volts: something goes round -/
theorem vol_ring {n : Net} (h : Ok n) : ∀ (ks done : List Nat) (g : List Int), volG (ks.map (pt n)) g = none → g.length = n.nodes → (∀ k ∈ ks, k ∉ done ∧ k < n.parts.length ∧ (pt n k).kind = 1) → ks.Nodup → (∀ k ∈ done, (pt n k).kind = 1) →
    (∀ x y, x < n.nodes → y < n.nodes → gAt g x = gAt g y → Flow n done x y) → ∃ (i : Nat → Rat) (c : Nat), c < n.parts.length ∧ i c = 1 ∧ (∀ k, i k ≠ 0 → (pt n k).kind = 1) ∧ ∀ z, z < n.nodes → out n i z = 0
  | [], _, _, e, _, _, _, _, _ => by cases e
  | c :: r, done, g, e, hg, hk, hd, hdone, I => by
    have hc := hk c (List.mem_cons_self ..)
    have hh := h.2 c hc.2.1
    have hd' := List.nodup_cons.mp hd
    rw [List.map_cons] at e
    unfold volG at e
    split at e
    · rename_i q
      obtain ⟨f, f1, f2⟩ := I _ _ hh.2 hh.1 q.symm
      refine ⟨fun k => f k + (if k = c then 1 else 0), c, hc.2.1, by simp only [f1 c hc.1, if_true]; grind, fun k hne => ?_, fun z hz => ?_⟩
      · by_cases q : k = c
        · subst q; exact hc.2.2
        · by_cases q' : k ∈ done
          · exact hdone k q'
          · simp only [f1 k q', q, if_false] at hne
            exact absurd (by grind) hne
      · rw [out_add, f2 z hz, out_one n hc.2.1]
        unfold ends
        rw [show (if (pt n c).a = z then (1 : Rat) else 0) = (if z = (pt n c).a then 1 else 0) by simp only [eq_comm], show (if (pt n c).b = z then (1 : Rat) else 0) = (if z = (pt n c).b then 1 else 0) by simp only [eq_comm]]
        grind
    · refine vol_ring h r (c :: done) _ e (by rw [joinG_len, hg]) (fun k hk' => ⟨fun m => ?_, (hk k (List.mem_cons_of_mem _ hk')).2⟩) hd'.2 (fun k hk' => ?_) (join_flow h hg hc.2.1 I)
      · rcases List.mem_cons.mp m with rfl | m
        · exact hd'.1 hk'
        · exact (hk k (List.mem_cons_of_mem _ hk')).1 m
      · rcases List.mem_cons.mp hk' with rfl | m
        · exact hc.2.2
        · exact hdone k m
theorem triv_one {n : Net} (h : Ok n) (T : Triv n) : oneG n = true := by
  unfold oneG
  cases eg : volG (n.parts.filter fun p => p.kind == 1) (startG n.nodes) with
  | none =>
    exfalso
    rw [ofKind_parts] at eg
    obtain ⟨i, c, hc, h1, h2, h3⟩ := vol_ring h (ofKind n 1) [] _ eg (startG_len _) (fun k hk => ⟨by simp, ofKind_mem.mp hk⟩) (ofKind_nodup ..) (fun k hk => by simp at hk) fun x y hx hy q => by
      rw [startG_at hx, startG_at hy] at q
      rw [Int.ofNat.inj q]
      exact Flow.refl ..
    have := (T (fun _ => 0) i ⟨rfl, fun k hk e => ?_, fun k hk e => ?_, fun k hk e e' => ?_, h3⟩).2 c hc
    · rw [h1] at this; exact absurd this (by decide)
    · by_cases q : i k = 0
      · rw [q]; grind
      · exact absurd (h2 k q) (by omega)
    · grind
    · by_cases q : i k = 0
      · rw [q]; grind
      · exact absurd (h2 k q) e'
  | some g =>
    simp only [List.all_eq_true, beq_iff_eq]
    have gl : g.length = n.nodes := by rw [volG_len _ _ _ eg, startG_len]
    have mem : ∀ c, ∀ p ∈ n.parts.filter (fun p => p.kind == c), p.a < n.nodes ∧ p.b < n.nodes := by
      intro c p hp
      rw [ofKind_parts] at hp
      obtain ⟨k, hk, rfl⟩ := List.mem_map.mp hp
      exact h.2 k (ofKind_mem.mp hk).1
    have len2 : (resG (n.parts.filter fun p => p.kind == 0) g).length = n.nodes := by rw [resG_len, gl]
    have J0 := res_joins (n.parts.filter fun p => p.kind == 0) g (by rw [gl]; exact mem 0)
    have J1 : ∀ p ∈ n.parts.filter (fun p => p.kind == 1), gAt (resG (n.parts.filter fun p => p.kind == 0) g) p.a = gAt (resG (n.parts.filter fun p => p.kind == 0) g) p.b := fun p hp => by
      have m := mem 1 p hp
      exact res_stays _ g (by omega) (by omega) (vol_joins _ _ g eg (by rw [startG_len]; exact mem 1) p hp)
    generalize resG (n.parts.filter fun p => p.kind == 0) g = G at *
    have inK : ∀ k, k < n.parts.length → ∀ c, (pt n k).kind = c → pt n k ∈ n.parts.filter (fun p => p.kind == c) := fun k hk c e => by
      rw [ofKind_parts]; exact List.mem_map.mpr ⟨k, ofKind_mem.mpr ⟨hk, e⟩, rfl⟩
    have t := (T (fun x => if gAt G x = gAt G 0 then 0 else 1) (fun _ => 0) ⟨by simp, fun k hk e => ?_, fun k hk e => ?_, fun k hk e e' => by grind, fun x hx => ?_⟩).1
    · intro x hx
      obtain ⟨j, hj, rfl⟩ := List.getElem_of_mem hx
      have := t j (by omega)
      have ej : gAt G j = G[j] := by simp [gAt, List.getD_eq_getElem?_getD, hj]
      rw [ej] at this
      by_cases q : G[j] = gAt G 0
      · exact q
      · rw [if_neg q] at this; exact absurd this (by decide)
    · rw [J0 _ (inK k hk 0 e)]; grind
    · rw [J1 _ (inK k hk 1 e)]; grind
    · unfold out
      exact sm_zero fun k _ => by grind
/-- **solve**: the program's word is the specification's. -/
theorem one_iff {n : Net} (h : Ok n) (pos : ∀ k, k < n.parts.length → (pt n k).kind = 0 → 0 < (pt n k).much) : (solved n).isSome = oneG n := by
  rw [Bool.eq_iff_iff, solved_isSome h]
  exact ⟨triv_one h, one_triv h pos⟩
end Rn
/-! Alternating forms of whole numbers, and what an elimination without fractions keeps. Core Lean alone. -/
namespace Rn
def si : Nat → (Nat → Int) → Int
  | 0, _ => 0
  | n + 1, f => si n f + f n
theorem si_congr {n : Nat} {f g : Nat → Int} (h : ∀ i, i < n → f i = g i) : si n f = si n g := by
  induction n with
  | zero => rfl
  | succ n ih => unfold si; rw [ih fun i hi => h i (by omega), h n (by omega)]
theorem si_add (n : Nat) (f g : Nat → Int) : si n (fun i => f i + g i) = si n f + si n g := by
  induction n with
  | zero => rfl
  | succ n ih => unfold si; rw [ih]; dsimp only; omega
theorem si_sub (n : Nat) (f g : Nat → Int) : si n (fun i => f i - g i) = si n f - si n g := by
  induction n with
  | zero => rfl
  | succ n ih => unfold si; rw [ih]; dsimp only; omega
theorem si_mul (n : Nat) (c : Int) (f : Nat → Int) : si n (fun i => c * f i) = c * si n f := by
  induction n with
  | zero => show (0 : Int) = c * 0; omega
  | succ n ih => unfold si; rw [ih]; grind
theorem si_zero {n : Nat} {f : Nat → Int} (h : ∀ i, i < n → f i = 0) : si n f = 0 := by
  induction n with
  | zero => rfl
  | succ n ih => unfold si; rw [ih fun i hi => h i (by omega), h n (by omega)]; rfl
theorem si_one {n k : Nat} {f : Nat → Int} (hk : k < n) (h : ∀ i, i < n → i ≠ k → f i = 0) : si n f = f k := by
  induction n with
  | zero => omega
  | succ n ih =>
    unfold si
    by_cases e : k = n
    · subst e
      rw [si_zero fun i hi => h i (by omega) (by omega)]; omega
    · rw [ih (by omega) fun i hi hne => h i (by omega) hne, h n (by omega) (by omega)]; omega
theorem si_two {n k l : Nat} {f : Nat → Int} (hk : k < n) (hl : l < n) (hkl : k ≠ l) (h : ∀ i, i < n → i ≠ k → i ≠ l → f i = 0) : si n f = f k + f l := by
  induction n with
  | zero => omega
  | succ n ih =>
    unfold si
    by_cases e : k = n
    · subst e
      rw [si_one (k := l) (by omega) fun i hi hne => h i (by omega) (by omega) hne]; omega
    · by_cases e' : l = n
      · subst e'
        rw [si_one (k := k) (by omega) fun i hi hne => h i (by omega) hne (by omega)]
      · rw [ih (by omega) (by omega) fun i hi h1 h2 => h i (by omega) h1 h2, h n (by omega) (by omega) (by omega)]; omega
abbrev Vc := Nat → Int
def skip (i : Nat) (b : Nat → Vc) : Nat → Vc := fun k => if k < i then b k else b (k + 1)
def put (b : Nat → Vc) (i : Nat) (x : Vc) : Nat → Vc := fun k => if k = i then x else b k
def sg : Nat → Int
  | 0 => 1
  | n + 1 => -sg n
theorem sg_add (n : Nat) : sg (n + n) = 1 := by
  induction n with
  | zero => rfl
  | succ n ih => rw [show n + 1 + (n + 1) = (n + n) + 1 + 1 by omega]; unfold sg; unfold sg; rw [ih]; rfl
def det : Nat → (Nat → Vc) → Int
  | 0, _ => 1
  | n + 1, b => si (n + 1) fun i => sg (n + i) * (b i n * det n (skip i b))
theorem put_at (b : Nat → Vc) (i : Nat) (x : Vc) : put b i x i = x := by simp [put]
theorem put_ne (b : Nat → Vc) {i k : Nat} (x : Vc) (h : k ≠ i) : put b i x k = b k := by simp [put, h]
theorem put_put (b : Nat → Vc) (i : Nat) (x y : Vc) : put (put b i x) i y = put b i y := by
  funext k; unfold put; split <;> rfl
theorem put_self (b : Nat → Vc) (i : Nat) : put b i (b i) = b := by
  funext k; unfold put; split
  · rename_i h; rw [h]
  · rfl
theorem put_comm (b : Nat → Vc) {i j : Nat} (h : i ≠ j) (x y : Vc) : put (put b i x) j y = put (put b j y) i x := by
  funext k; unfold put; split <;> split <;> first | rfl | omega
theorem skip_at (b : Nat → Vc) (i : Nat) (x : Vc) : skip i (put b i x) = skip i b := by
  funext k; unfold skip put; split
  · rw [if_neg (by omega)]
  · rw [if_neg (by omega)]
theorem skip_lt (b : Nat → Vc) {i k : Nat} (x : Vc) (h : k < i) : skip k (put b i x) = put (skip k b) (i - 1) x := by
  funext l; unfold skip put
  by_cases e : l < k
  · simp only [if_pos e]; rw [if_neg (by omega), if_neg (by omega)]
  · simp only [if_neg e]
    by_cases e2 : l + 1 = i
    · rw [if_pos e2, if_pos (by omega)]
    · rw [if_neg e2, if_neg (by omega)]
theorem skip_gt (b : Nat → Vc) {i k : Nat} (x : Vc) (h : i < k) : skip k (put b i x) = put (skip k b) i x := by
  funext l; unfold skip put
  by_cases e : l < k
  · simp only [if_pos e]
  · simp only [if_neg e]; rw [if_neg (by omega), if_neg (by omega)]
theorem det_congr : ∀ {n : Nat} {b c : Nat → Vc}, (∀ i, i < n → ∀ r, r < n → b i r = c i r) → det n b = det n c
  | 0, _, _, _ => rfl
  | n + 1, b, c, h => by
    unfold det
    refine si_congr fun i hi => ?_
    rw [h i hi n (by omega), det_congr (n := n) (b := skip i b) (c := skip i c) fun k hk r hr => ?_]
    unfold skip
    split
    · exact h k (by omega) r (by omega)
    · exact h (k + 1) (by omega) r (by omega)
theorem det_lin : ∀ {n : Nat} (b : Nat → Vc) {i : Nat}, i < n → ∀ (s t : Int) (x y : Vc), det n (put b i fun r => s * x r + t * y r) = s * det n (put b i x) + t * det n (put b i y)
  | 0, _, _, h, _, _, _, _ => by omega
  | n + 1, b, i, h, s, t, x, y => by
    unfold det
    rw [← si_mul, ← si_mul, ← si_add]
    refine si_congr fun k hk => ?_
    by_cases e : k = i
    · subst e
      simp only [put_at, skip_at]
      grind
    · simp only [put_ne _ _ e]
      by_cases e2 : k < i
      · simp only [skip_lt _ _ e2]
        rw [det_lin (skip k b) (i := i - 1) (by omega)]
        grind
      · have e3 : i < k := by omega
        simp only [skip_gt _ _ e3]
        rw [det_lin (skip k b) (i := i) (by omega)]
        grind
theorem det_adj : ∀ {n : Nat} (b : Nat → Vc) {i : Nat}, i + 1 < n → b i = b (i + 1) → det n b = 0
  | 0, _, _, h, _ => by omega
  | n + 1, b, i, h, e => by
    unfold det
    rw [si_two (k := i) (l := i + 1) (by omega) (by omega) (by omega) fun k hk h1 h2 => ?_]
    · have : skip i b = skip (i + 1) b := by
        funext k; unfold skip
        by_cases q : k < i
        · rw [if_pos q, if_pos (by omega)]
        · rw [if_neg q]
          by_cases q2 : k = i
          · subst q2; rw [if_pos (by omega), e]
          · rw [if_neg (by omega)]
      rw [this, e, show n + (i + 1) = (n + i) + 1 by omega]
      show sg (n + i) * _ + -sg (n + i) * _ = 0
      grind
    · have z : det n (skip k b) = 0 := by
        by_cases q : k < i
        · refine det_adj (skip k b) (i := i - 1) (by omega) ?_
          unfold skip
          rw [if_neg (by omega), if_neg (by omega), show i - 1 + 1 = i by omega, e]
        · refine det_adj (skip k b) (i := i) (by omega) ?_
          unfold skip
          rw [if_pos (by omega), if_pos (by omega), e]
      rw [z]; grind
theorem det_add {n : Nat} (b : Nat → Vc) {i : Nat} (h : i < n) (x y : Vc) : det n (put b i fun r => x r + y r) = det n (put b i x) + det n (put b i y) := by
  have := det_lin b h 1 1 x y
  rw [show (fun r => x r + y r) = fun r => 1 * x r + 1 * y r by funext r; omega, this]; omega
theorem det_smul {n : Nat} (b : Nat → Vc) {i : Nat} (h : i < n) (s : Int) (x : Vc) : det n (put b i fun r => s * x r) = s * det n (put b i x) := by
  have := det_lin b h s 0 x x
  rw [show (fun r => s * x r) = fun r => s * x r + 0 * x r by funext r; omega, this]; omega
theorem swap_of {n : Nat} (b : Nat → Vc) {i j : Nat} (hi : i < n) (hj : j < n) (h : i ≠ j)
    (alt : ∀ x, det n (put (put b i x) j x) = 0) (x y : Vc) : det n (put (put b i x) j y) = -det n (put (put b i y) j x) := by
  have a := alt (fun r => x r + y r)
  have sp : ∀ z, det n (put (put b i fun r => x r + y r) j z) = det n (put (put b i x) j z) + det n (put (put b i y) j z) := fun z => by
    rw [put_comm _ h, det_add _ hi, put_comm _ (Ne.symm h), put_comm _ (Ne.symm h)]
  rw [det_add _ hj, sp, sp, alt, alt] at a
  omega
theorem det_swap1 {n : Nat} (b : Nat → Vc) {i : Nat} (h : i + 1 < n) (x y : Vc) : det n (put (put b i x) (i + 1) y) = -det n (put (put b i y) (i + 1) x) :=
  swap_of b (by omega) h (by omega) (fun x => det_adj _ h (by rw [put_ne _ _ (by omega), put_at, put_at])) x y
theorem det_lt {n : Nat} : ∀ (d : Nat) (b : Nat → Vc) {i j : Nat}, j = i + 1 + d → j < n → b i = b j → det n b = 0
  | 0, b, i, j, e, h, q => by
    have e' : j = i + 1 := e
    subst e'
    exact det_adj b h q
  | d + 1, b, i, j, e, h, q => by
    obtain ⟨m, rfl⟩ : ∃ m, j = m + 1 := ⟨i + 1 + d, by omega⟩
    have w : b = put (put b m (b m)) (m + 1) (b (m + 1)) := by rw [put_self, put_self]
    rw [w, det_swap1 b h, det_lt d (put (put b m (b (m + 1))) (m + 1) (b m)) (i := i) (j := m) (by omega) (by omega)]
    · rfl
    · rw [put_ne _ _ (by omega), put_ne _ _ (by omega), put_ne _ _ (by omega), put_at, q]
theorem det_alt {n : Nat} (b : Nat → Vc) {i j : Nat} (hi : i < n) (hj : j < n) (h : i ≠ j) (q : b i = b j) : det n b = 0 := by
  by_cases e : i < j
  · exact det_lt (j - i - 1) b (by omega) hj q
  · exact det_lt (i - j - 1) b (by omega) hi q.symm
theorem det_swap {n : Nat} (b : Nat → Vc) {i j : Nat} (hi : i < n) (hj : j < n) (h : i ≠ j) (x y : Vc) : det n (put (put b i x) j y) = -det n (put (put b i y) j x) :=
  swap_of b hi hj h (fun x => det_alt _ hi hj h (by rw [put_ne _ _ h, put_at, put_at])) x y
theorem det_sum {n : Nat} (b : Nat → Vc) {i : Nat} (h : i < n) (m : Nat) (c : Nat → Int) (x : Nat → Vc) :
    det n (put b i fun r => si m fun k => c k * x k r) = si m fun k => c k * det n (put b i (x k)) := by
  induction m with
  | zero =>
    have := det_smul b h 0 (fun _ => 0)
    rw [show (fun r : Nat => si 0 fun k => c k * x k r) = fun r => 0 * (fun _ => (0 : Int)) r from rfl, this]
    show 0 * _ = (0 : Int)
    omega
  | succ m ih =>
    have e : (fun r => si (m + 1) fun k => c k * x k r) = fun r => (fun r => si m fun k => c k * x k r) r + (fun r => c m * x m r) r := rfl
    rw [e, det_add b h, ih, det_smul b h]
    rfl
def unitC : Nat → Vc := fun k r => if k = r then 1 else 0
theorem det_unit : ∀ n : Nat, det n unitC = 1
  | 0 => rfl
  | n + 1 => by
    unfold det
    rw [si_one (k := n) (by omega) fun i hi h => by rw [show unitC i n = 0 by simp [unitC, h]]; grind]
    rw [sg_add, show unitC n n = 1 by simp [unitC], det_congr (c := unitC), det_unit n]
    · rfl
    · intro i hi r hr
      unfold skip; rw [if_pos hi]
theorem det_unit_put {n : Nat} {i : Nat} (h : i < n) (v : Vc) : det n (put unitC i v) = v i := by
  have e : det n (put unitC i v) = det n (put unitC i fun r => si n fun k => v k * unitC k r) := by
    refine det_congr fun k hk r hr => ?_
    by_cases q : k = i
    · subst q
      rw [put_at, put_at, si_one hr fun l hl hne => by simp [unitC, hne]]
      simp [unitC]
    · rw [put_ne _ _ q, put_ne _ _ q]
  rw [e, det_sum unitC h, si_one h fun l hl hne => ?_]
  · rw [put_self, det_unit]; omega
  · rw [det_alt (put unitC i (unitC l)) h hl (Ne.symm hne) (by rw [put_at, put_ne _ _ hne])]; omega
/-! ### How large -/
def fac : Nat → Nat
  | 0 => 1
  | n + 1 => (n + 1) * fac n
def prodN : Nat → (Nat → Nat) → Nat
  | 0, _ => 1
  | n + 1, f => prodN n f * f n
theorem si_abs {n : Nat} {f : Nat → Int} {M : Nat} (h : ∀ i, i < n → (f i).natAbs ≤ M) : (si n f).natAbs ≤ n * M := by
  induction n with
  | zero => show (0 : Int).natAbs ≤ _; simp
  | succ n ih =>
    unfold si
    have h1 := ih fun i hi => h i (by omega)
    have h2 := h n (by omega)
    have := Int.natAbs_add_le (si n f) (f n)
    rw [Nat.succ_mul]; omega
theorem sg_abs (n : Nat) : (sg n).natAbs = 1 := by
  induction n with
  | zero => rfl
  | succ n ih => unfold sg; omega
theorem det_abs : ∀ {n : Nat} {b : Nat → Vc} {m : Nat → Nat}, (∀ i, i < n → ∀ r, r < n → (b i r).natAbs ≤ m r) → (det n b).natAbs ≤ fac n * prodN n m
  | 0, _, _, _ => by show (1 : Int).natAbs ≤ 1 * 1; decide
  | n + 1, b, m, h => by
    unfold det fac prodN
    have := si_abs (n := n + 1) (f := fun i => sg (n + i) * (b i n * det n (skip i b))) (M := m n * (fac n * prodN n m)) fun i hi => by
      rw [Int.natAbs_mul, Int.natAbs_mul, sg_abs, Nat.one_mul]
      refine Nat.mul_le_mul (h i hi n (by omega)) (det_abs fun k hk r hr => ?_)
      unfold skip
      split
      · exact h k (by omega) r (by omega)
      · exact h (k + 1) (by omega) r (by omega)
    refine Nat.le_trans this (Nat.le_of_eq ?_)
    rw [Nat.mul_assoc, Nat.mul_comm (m n), Nat.mul_assoc]
/-! ### Cramer, kept through a change of one column -/
def Cram (n : Nat) (b : Nat → Vc) : Prop := ∀ (v : Vc) (r : Nat), r < n → det n b * v r = si n fun i => det n (put b i v) * b i r
theorem cram_unit (n : Nat) : Cram n unitC := by
  intro v r hr
  rw [det_unit, si_one hr fun i hi h => by simp [unitC, h], det_unit_put hr]
  simp [unitC]
theorem cram_key {n : Nat} {b : Nat → Vc} (C : Cram n b) {i k : Nat} (hi : i < n) (hk : k < n) (h : i ≠ k) (w v : Vc) :
    det n b * det n (put (put b k w) i v) = det n (put b k w) * det n (put b i v) - det n (put b i w) * det n (put b k v) := by
  rw [← det_smul _ hi]
  have e : det n (put (put b k w) i fun r => det n b * v r) = det n (put (put b k w) i fun r => si n fun l => det n (put b l v) * b l r) := by
    refine det_congr fun l hl r hr => ?_
    by_cases q : l = i
    · subst q; rw [put_at, put_at]; exact C v r hr
    · rw [put_ne _ _ q, put_ne _ _ q]
  rw [e, det_sum _ hi, si_two hi hk h fun l hl h1 h2 => ?_]
  · have e1 : put (put b k w) i (b i) = put b k w := by
      have := put_self (put b k w) i
      rwa [put_ne _ _ h] at this
    have e2 : det n (put (put b k w) i (b k)) = -det n (put b i w) := by
      rw [det_swap b hk hi (Ne.symm h), put_self]
    rw [e1, e2]; grind
  · rw [det_alt (put (put b k w) i (b l)) hi hl (Ne.symm h1) (by rw [put_at, put_ne _ _ h1, put_ne _ _ h2])]; omega
theorem cram_put {n : Nat} {b : Nat → Vc} (C : Cram n b) (hd : det n b ≠ 0) {k : Nat} (hk : k < n) (w : Vc) : Cram n (put b k w) := by
  intro v r hr
  refine Int.eq_of_mul_eq_mul_left hd ?_
  rw [← si_mul]
  have t : ∀ i, i < n → det n b * (det n (put (put b k w) i v) * put b k w i r) =
      (det n (put b k w) * (det n (put b i v) * b i r) - det n (put b k v) * (det n (put b i w) * b i r)) + (if i = k then det n (put b k v) * (det n b * w r) else 0) := by
    intro i hi
    by_cases q : i = k
    · subst q
      rw [put_put, put_at, if_pos rfl]; grind
    · rw [put_ne _ _ q, if_neg q]
      have := cram_key C hi hk q w v
      grind
  rw [si_congr t, si_add, si_sub, si_mul, si_mul, ← C v r hr, ← C w r hr, si_one hk fun i hi q => by rw [if_neg q], if_pos rfl]
  grind
theorem cram_swap {n : Nat} {b : Nat → Vc} (C : Cram n b) {k a : Nat} (hk : k < n) (ha : a < n) (h : k ≠ a) :
    Cram n (put (put b k (b a)) a (b k)) ∧ det n (put (put b k (b a)) a (b k)) = -det n b ∧
    (∀ v, det n (put (put (put b k (b a)) a (b k)) k v) = -det n (put b a v)) ∧ (∀ v, det n (put (put (put b k (b a)) a (b k)) a v) = -det n (put b k v)) ∧
    ∀ i, i < n → i ≠ k → i ≠ a → ∀ v, det n (put (put (put b k (b a)) a (b k)) i v) = -det n (put b i v) := by
  have h0 : det n (put (put b k (b a)) a (b k)) = -det n b := by rw [det_swap b hk ha h, put_self, put_self]
  have h1 : ∀ v, det n (put (put (put b k (b a)) a (b k)) k v) = -det n (put b a v) := fun v => by
    rw [put_comm _ (Ne.symm h), put_put, det_swap b hk ha h, put_self]
  have h2 : ∀ v, det n (put (put (put b k (b a)) a (b k)) a v) = -det n (put b k v) := fun v => by
    rw [put_put, det_swap b hk ha h]
    congr 2
    rw [put_comm _ h, put_self]
  have h3 : ∀ i, i < n → i ≠ k → i ≠ a → ∀ v, det n (put (put (put b k (b a)) a (b k)) i v) = -det n (put b i v) := fun i hi e1 e2 v => by
    rw [put_comm _ (Ne.symm e2), put_comm b (Ne.symm e1), det_swap _ hk ha h]
    congr 2
    rw [show b k = put b i v k by rw [put_ne _ _ (Ne.symm e1)], put_self, show b a = put b i v a by rw [put_ne _ _ (Ne.symm e2)], put_self]
  refine ⟨?_, h0, h1, h2, h3⟩
  intro v r hr
  rw [h0]
  have c := C v r hr
  have d : si n (fun i => det n (put (put (put b k (b a)) a (b k)) i v) * put (put b k (b a)) a (b k) i r + det n (put b i v) * b i r) = 0 := by
    rw [si_two hk ha h fun i hi e1 e2 => by rw [h3 i hi e1 e2, put_ne _ _ e2, put_ne _ _ e1]; grind]
    rw [h1, h2, put_at, put_ne _ _ h, put_at]; grind
  rw [si_add] at d
  grind
end Rn
/-! Rows of whole numbers solved together without fractions: what comes out keeps to the rows. -/
namespace Rn
abbrev Rws := List (List Int)
def ent (rows : Rws) (i j : Nat) : Int := (rows.getD i []).getD j 0
def leadAt (rows : Rws) (c : Nat) : Nat := c + (rows.drop c).findIdx fun r => r.getD c 0 != 0
def swapR (rows : Rws) (c a : Nat) : Rws := (rows.set c (rows.getD a [])).set a (rows.getD c [])
def withLead (rows : Rws) (c : Nat) : Rws := swapR rows c (leadAt rows c)
def clearedG (row lead : List Int) (c : Nat) (last : Int) : List Int := List.zipWith (fun x y => (lead.getD c 0 * x - row.getD c 0 * y).fdiv last) row lead
def clearAll (rows : Rws) (c : Nat) (last : Int) : Rws := rows.mapIdx fun at_ row => if at_ = c then row else clearedG row (rows.getD c []) c last
def elim (rows : Rws) : Nat → Rws × Int
  | 0 => (rows, 1)
  | k + 1 => let e := elim rows k
    (clearAll (withLead e.1 k) k e.2, ent (withLead e.1 k) k k)
def Shp (N : Nat) (rows : Rws) : Prop := rows.length = N ∧ ∀ i, i < N → (rows.getD i []).length = N + 1
def col (A : Rws) (j : Nat) : Vc := fun r => ent A r j
theorem getD_get {α : Type} {l : List α} {i : Nat} {d : α} (h : i < l.length) : l.getD i d = l[i] := by simp [List.getD_eq_getElem?_getD, h]
theorem shp_swap {N : Nat} {rows : Rws} (S : Shp N rows) {c a : Nat} (hc : c < N) (ha : a < N) : Shp N (swapR rows c a) ∧
    ∀ i, i < N → (swapR rows c a).getD i [] = if i = a then rows.getD c [] else if i = c then rows.getD a [] else rows.getD i [] := by
  have key : ∀ i, i < N → (swapR rows c a).getD i [] = if i = a then rows.getD c [] else if i = c then rows.getD a [] else rows.getD i [] := by
    intro i hi
    unfold swapR
    rw [List.getD_eq_getElem?_getD, List.getElem?_set, List.getElem?_set]
    by_cases e : a = i
    · subst e
      simp [S.1, ha]
    · rw [if_neg e, if_neg (by omega : ¬ i = a)]
      by_cases e2 : c = i
      · subst e2; simp [S.1, hc]
      · rw [if_neg e2, if_neg (by omega : ¬ i = c), List.getD_eq_getElem?_getD]
  refine ⟨⟨by simp [swapR, S.1], fun i hi => ?_⟩, key⟩
  rw [key i hi]
  split
  · exact S.2 c hc
  · split
    · exact S.2 a ha
    · exact S.2 i hi
theorem clear_get {N : Nat} {rows : Rws} (S : Shp N rows) {c : Nat} (last : Int) {i : Nat} (hi : i < N) :
    (clearAll rows c last).getD i [] = if i = c then rows.getD i [] else clearedG (rows.getD i []) (rows.getD c []) c last := by
  unfold clearAll
  rw [List.getD_eq_getElem?_getD, List.getElem?_mapIdx, List.getElem?_eq_getElem (by rw [S.1]; exact hi), getD_get (l := rows) (i := i) (by rw [S.1]; exact hi)]
  rfl
theorem cleared_get {N : Nat} {row lead : List Int} (h1 : row.length = N + 1) (h2 : lead.length = N + 1) (c : Nat) (last : Int) : (clearedG row lead c last).length = N + 1 ∧
    ∀ j, j ≤ N → (clearedG row lead c last).getD j 0 = (lead.getD c 0 * row.getD j 0 - row.getD c 0 * lead.getD j 0).fdiv last := by
  refine ⟨by simp [clearedG, h1, h2], fun j hj => ?_⟩
  unfold clearedG
  rw [getD_get (by simp [h1, h2]; omega), List.getElem_zipWith, getD_get (l := row) (i := j) (by omega), getD_get (l := lead) (i := j) (by omega)]
theorem shp_clear {N : Nat} {rows : Rws} (S : Shp N rows) {c : Nat} (hc : c < N) (last : Int) : Shp N (clearAll rows c last) ∧
    ∀ i, i < N → ∀ j, j ≤ N → ent (clearAll rows c last) i j = if i = c then ent rows i j else (ent rows c c * ent rows i j - ent rows i c * ent rows c j).fdiv last := by
  refine ⟨⟨by simp [clearAll, S.1], fun i hi => ?_⟩, fun i hi j hj => ?_⟩
  · rw [clear_get S last hi]
    split
    · exact S.2 i hi
    · exact (cleared_get (S.2 i hi) (S.2 c hc) c last).1
  · unfold ent
    rw [clear_get S last hi]
    split
    · rfl
    · exact (cleared_get (S.2 i hi) (S.2 c hc) c last).2 j hj
structure EInv (N : Nat) (A : Rws) (k : Nat) (rows : Rws) (last : Int) : Prop where
  shp : Shp N rows
  ex : ∃ (s : Int) (b : Nat → Vc), (s = 1 ∨ s = -1) ∧ Cram N b ∧ det N b ≠ 0 ∧ last = s * det N b ∧ (∀ i, i < k → b i = col A i) ∧
    (∀ i, i < N → k ≤ i → ∃ l, b i = unitC l) ∧ ∀ i, i < N → ∀ j, j ≤ N → ent rows i j = s * det N (put b i (col A j))
theorem einv0 {N : Nat} {A : Rws} (S : Shp N A) : EInv N A 0 A 1 :=
  ⟨S, 1, unitC, .inl rfl, cram_unit N, by rw [det_unit]; decide, by rw [det_unit]; rfl, fun i hi => by omega, fun i _ _ => ⟨i, rfl⟩, fun i hi j hj => by
    rw [det_unit_put hi]; unfold col; omega⟩
theorem einv_last {N : Nat} {A : Rws} {k : Nat} {rows : Rws} {last : Int} (I : EInv N A k rows last) : last ≠ 0 := by
  obtain ⟨s, b, hs, _, hd, hl, _⟩ := I.ex
  intro e
  rcases hs with rfl | rfl <;> omega
theorem einv_swap {N : Nat} {A : Rws} {k : Nat} {rows : Rws} {last : Int} (I : EInv N A k rows last) {a : Nat} (hk : k < N) (ha : a < N) (hka : k ≤ a) : EInv N A k (swapR rows k a) last := by
  obtain ⟨sh, gt⟩ := shp_swap I.shp hk ha
  obtain ⟨s, b, hs, C, hd, hl, hb, hu, he⟩ := I.ex
  by_cases e : k = a
  · subst e
    refine ⟨sh, s, b, hs, C, hd, hl, hb, hu, fun i hi j hj => ?_⟩
    rw [← he i hi j hj]
    unfold ent
    rw [gt i hi]
    split
    · rename_i q; rw [q]
    · rfl
  · obtain ⟨C', d', h1, h2, h3⟩ := cram_swap C hk ha e
    refine ⟨sh, -s, put (put b k (b a)) a (b k), by omega, C', by omega, by rw [d', hl]; grind, fun i hi => ?_, fun i hi hki => ?_, fun i hi j hj => ?_⟩
    · rw [put_ne _ _ (by omega), put_ne _ _ (by omega)]; exact hb i hi
    · by_cases q : i = a
      · subst q; rw [put_at]; exact hu k hk (by omega)
      · rw [put_ne _ _ q]
        by_cases q2 : i = k
        · subst q2; rw [put_at]; exact hu a ha (by omega)
        · rw [put_ne _ _ q2]; exact hu i hi hki
    · have g := gt i hi
      unfold ent
      rw [g]
      by_cases q : i = a
      · subst q
        rw [if_pos rfl, h2]
        have := he k hk j hj
        unfold ent at this
        rw [this]; grind
      · rw [if_neg q]
        by_cases q2 : i = k
        · subst q2
          rw [if_pos rfl, h1]
          have := he a ha j hj
          unfold ent at this
          rw [this]; grind
        · rw [if_neg q2, h3 i hi q2 q]
          have := he i hi j hj
          unfold ent at this
          rw [this]; grind
theorem einv_clear {N : Nat} {A : Rws} {k : Nat} {rows : Rws} {last : Int} (I : EInv N A k rows last) (hk : k < N) (hp : ent rows k k ≠ 0) : EInv N A (k + 1) (clearAll rows k last) (ent rows k k) := by
  obtain ⟨sh, gt⟩ := shp_clear I.shp hk last
  have hl0 := einv_last I
  obtain ⟨s, b, hs, C, hd, hl, hb, hu, he⟩ := I.ex
  have ss : s * s = 1 := by rcases hs with rfl | rfl <;> rfl
  have hk' := he k hk k (by omega)
  have hd' : det N (put b k (col A k)) ≠ 0 := fun z => hp (by rw [hk', z]; omega)
  refine ⟨sh, s, put b k (col A k), hs, cram_put C hd hk _, hd', hk', fun i hi => ?_, fun i hi hki => ?_, fun i hi j hj => ?_⟩
  · by_cases q : i = k
    · subst q; rw [put_at]
    · rw [put_ne _ _ q]; exact hb i (by omega)
  · rw [put_ne _ _ (by omega)]; exact hu i hi (by omega)
  · rw [gt i hi j hj]
    by_cases q : i = k
    · subst q; rw [if_pos rfl, put_put]; exact he i hi j hj
    · rw [if_neg q, he k hk k (by omega), he i hi j hj, he i hi k (by omega), he k hk j hj]
      have key := cram_key C hi hk q (col A k) (col A j)
      have e : s * det N (put b k (col A k)) * (s * det N (put b i (col A j))) - s * det N (put b i (col A k)) * (s * det N (put b k (col A j))) = last * (s * det N (put (put b k (col A k)) i (col A j))) := by
        rw [hl]
        grind
      rw [e, Int.mul_fdiv_cancel_left _ hl0]
/-- just one choice of the unknowns keeps to the rows -/
def TrivI (N : Nat) (A : Rws) : Prop := ∀ x : Nat → Int, (∀ r, r < N → si N (fun j => ent A r j * x j) = 0) → ∀ j, j < N → x j = 0
theorem einv_lead {N : Nat} {A : Rws} {k : Nat} {rows : Rws} {last : Int} (I : EInv N A k rows last) (hk : k < N) (T : TrivI N A) : ∃ a, k ≤ a ∧ a < N ∧ ent rows a k ≠ 0 := by
  apply Classical.byContradiction
  intro no
  have z : ∀ i, i < N → k ≤ i → ent rows i k = 0 := fun i hi hki => Classical.byContradiction fun h => no ⟨i, hki, hi, h⟩
  have hl0 := einv_last I
  obtain ⟨s, b, hs, C, hd, hl, hb, hu, he⟩ := I.ex
  refine hl0 ?_
  have := T (fun i => if i < k then ent rows i k else if i = k then -last else 0) (fun r hr => ?_) k hk
  · simp at this; omega
  · have c := C (col A k) r hr
    have t : ∀ j, j < N → ent A r j * (if j < k then ent rows j k else if j = k then -last else 0) = s * (det N (put b j (col A k)) * b j r) + (if j = k then -last * ent A r k else 0) := by
      intro j hj
      by_cases q : j < k
      · rw [if_pos q, if_neg (by omega), he j hj k (by omega), hb j q]
        show ent A r j * _ = s * (_ * ent A r j) + 0
        grind
      · have zz := z j hj (by omega)
        rw [he j hj k (by omega)] at zz
        rw [if_neg q]
        have zz' : s * (det N (put b j (col A k)) * b j r) = 0 := by rw [← Int.mul_assoc, zz]; omega
        rw [zz']
        by_cases q2 : j = k
        · subst q2; rw [if_pos rfl, if_pos rfl]; grind
        · rw [if_neg q2, if_neg q2]; omega
    rw [si_congr t, si_add, si_mul, ← c, si_one hk fun i hi q => by rw [if_neg q], if_pos rfl, hl]
    show s * (det N b * ent A r k) + _ = 0
    grind
theorem findIdx_at {α : Type} (p : α → Bool) : ∀ (l : List α) (d : α) (i : Nat), i < l.length → p (l.getD i d) = true → l.findIdx p ≤ i ∧ p (l.getD (l.findIdx p) d) = true ∧ ∀ j, j < l.findIdx p → p (l.getD j d) = false
  | [], _, _, h, _ => by simp at h
  | x :: l, d, i, h, e => by
    rw [List.findIdx_cons]
    cases q : p x with
    | true => exact ⟨by simp, by simpa using q, fun j hj => by simp at hj⟩
    | false =>
      cases i with
      | zero => simp [q] at e
      | succ i =>
        obtain ⟨h1, h2, h3⟩ := findIdx_at p l d i (by simpa using h) (by simpa using e)
        refine ⟨by simpa using h1, by simpa using h2, fun j hj => ?_⟩
        cases j with
        | zero => simpa using q
        | succ j => simpa using h3 j (by simpa using hj)
theorem leadAt_spec {N : Nat} {rows : Rws} (S : Shp N rows) {k : Nat} (h : ∃ a, k ≤ a ∧ a < N ∧ ent rows a k ≠ 0) :
    k ≤ leadAt rows k ∧ leadAt rows k < N ∧ ent rows (leadAt rows k) k ≠ 0 ∧ ∀ i, k ≤ i → i < leadAt rows k → ent rows i k = 0 := by
  obtain ⟨a, h1, h2, h3⟩ := h
  have dr : ∀ j, (rows.drop k).getD j [] = rows.getD (k + j) [] := fun j => by simp [List.getD_eq_getElem?_getD]
  obtain ⟨g1, g2, g3⟩ := findIdx_at (fun r : List Int => r.getD k 0 != 0) (rows.drop k) [] (a - k) (by rw [List.length_drop, S.1]; omega) (by
    rw [dr, show k + (a - k) = a by omega]
    exact bne_iff_ne.mpr h3)
  unfold leadAt
  rw [dr] at g2
  refine ⟨by omega, by omega, bne_iff_ne.mp g2, fun i hi hlt => ?_⟩
  have := g3 (i - k) (by omega)
  rw [dr, show k + (i - k) = i by omega] at this
  unfold ent
  exact Classical.byContradiction fun q => by rw [bne_iff_ne.mpr q] at this; cases this
theorem ent_swap_lead {N : Nat} {rows : Rws} (S : Shp N rows) {k : Nat} (hk : k < N) (ha : leadAt rows k < N) : ent (withLead rows k) k k = ent rows (leadAt rows k) k := by
  unfold withLead ent
  rw [(shp_swap S hk ha).2 k hk]
  by_cases q : k = leadAt rows k
  · rw [if_pos q, ← q]
  · rw [if_neg q, if_pos rfl]
theorem elim_inv {N : Nat} {A : Rws} (S : Shp N A) (T : TrivI N A) : ∀ k, k ≤ N → EInv N A k (elim A k).1 (elim A k).2
  | 0, _ => einv0 S
  | k + 1, h => by
    have I := elim_inv S T k (by omega)
    obtain ⟨h1, h2, h3, h4⟩ := leadAt_spec I.shp (einv_lead I (by omega) T)
    have I2 := einv_swap I (by omega) h2 h1
    refine einv_clear (rows := withLead (elim A k).1 k) I2 (by omega) ?_
    rw [ent_swap_lead I.shp (by omega) h2]
    exact h3
theorem elim_lead {N : Nat} {A : Rws} (S : Shp N A) (T : TrivI N A) {k : Nat} (h : k < N) :
    k ≤ leadAt (elim A k).1 k ∧ leadAt (elim A k).1 k < N ∧ ent (elim A k).1 (leadAt (elim A k).1 k) k ≠ 0 ∧ ∀ i, k ≤ i → i < leadAt (elim A k).1 k → ent (elim A k).1 i k = 0 :=
  leadAt_spec (elim_inv S T k (by omega)).shp (einv_lead (elim_inv S T k (by omega)) h T)
theorem elim_shp2 {N : Nat} {A : Rws} (S : Shp N A) (T : TrivI N A) {k : Nat} (h : k < N) : Shp N (withLead (elim A k).1 k) :=
  (shp_swap (elim_inv S T k (by omega)).shp h (elim_lead S T h).2.1).1
/-- **What comes out keeps to the rows.** -/
theorem elim_done {N : Nat} {A : Rws} (S : Shp N A) (T : TrivI N A) : (elim A N).2 ≠ 0 ∧ ∀ r, r < N → (elim A N).2 * ent A r N = si N fun j => ent (elim A N).1 j N * ent A r j := by
  have I := elim_inv S T N (by omega)
  refine ⟨einv_last I, fun r hr => ?_⟩
  obtain ⟨s, b, hs, C, hd, hl, hb, hu, he⟩ := I.ex
  have c := C (col A N) r hr
  rw [hl, show s * det N b * ent A r N = s * (det N b * col A N r) from Int.mul_assoc _ _ _, c, ← si_mul]
  refine si_congr fun j hj => ?_
  rw [he j hj N (by omega), hb j hj]
  show s * (_ * ent A r j) = _ * ent A r j
  grind
/-- **How large the numbers get.** -/
theorem elim_abs {N : Nat} {A : Rws} (S : Shp N A) (T : TrivI N A) {m : Nat → Nat} (hm : ∀ r, r < N → 1 ≤ m r ∧ ∀ j, j ≤ N → (ent A r j).natAbs ≤ m r) {k : Nat} (h : k ≤ N) :
    (elim A k).2.natAbs ≤ fac N * prodN N m ∧ ∀ i, i < N → ∀ j, j ≤ N → (ent (elim A k).1 i j).natAbs ≤ fac N * prodN N m := by
  obtain ⟨s, b, hs, C, hd, hl, hb, hu, he⟩ := (elim_inv S T k h).ex
  have bb : ∀ i, i < N → ∀ r, r < N → (b i r).natAbs ≤ m r := by
    intro i hi r hr
    by_cases q : i < k
    · rw [hb i q]; exact (hm r hr).2 i (by omega)
    · obtain ⟨l, e⟩ := hu i hi (by omega)
      rw [e]
      have := (hm r hr).1
      unfold unitC
      split <;> simp <;> omega
  have sa : ∀ z : Int, (s * z).natAbs = z.natAbs := fun z => by rcases hs with rfl | rfl <;> omega
  refine ⟨by rw [hl, sa]; exact det_abs bb, fun i hi j hj => ?_⟩
  rw [he i hi j hj, sa]
  refine det_abs fun l hl r hr => ?_
  by_cases q : l = i
  · subst q; rw [put_at]; exact (hm r hr).2 j hj
  · rw [put_ne _ _ q]; exact bb l hl r hr
end Rn
/-! The laws of a net as rows of whole numbers, as the program lays them: what keeps to them keeps to the net's laws. -/
namespace Rn
open Rc43
structure GoodN (n : Net) : Prop where
  lo : 2 ≤ n.nodes
  hi : n.nodes ≤ 12
  few : n.parts.length ≤ 25
  part : ∀ k, k < n.parts.length → (pt n k).kind ≤ 2 ∧ (pt n k).a < n.nodes ∧ (pt n k).b < n.nodes ∧ (pt n k).a ≠ (pt n k).b ∧ -1000000 ≤ (pt n k).much ∧ (pt n k).much ≤ 1000000 ∧ ((pt n k).kind = 0 → 1 ≤ (pt n k).much)
theorem GoodN.ok {n : Net} (G : GoodN n) : Ok n := ⟨by have := G.lo; omega, fun k hk => ⟨(G.part k hk).2.1, (G.part k hk).2.2.1⟩⟩
/-- how many of the first k parts are sources of volts -/
def numS (n : Net) : Nat → Nat
  | 0 => 0
  | k + 1 => if (pt n k).kind = 1 then numS n k + 1 else numS n k
/-- these parts' numbers -/
def srcs (n : Net) : Nat → List Nat
  | 0 => []
  | k + 1 => if (pt n k).kind = 1 then srcs n k ++ [k] else srcs n k
def dimN (n : Net) : Nat := n.nodes + numS n n.parts.length
def place (n : Net) (k : Nat) : Nat := n.nodes + numS n k
theorem srcs_len (n : Net) : ∀ k, (srcs n k).length = numS n k
  | 0 => rfl
  | k + 1 => by unfold srcs numS; split <;> simp [srcs_len n k]
theorem numS_mono (n : Net) {k : Nat} : ∀ {l : Nat}, k ≤ l → numS n k ≤ numS n l
  | 0, h => by rw [Nat.le_zero.mp h]; exact Nat.le_refl _
  | l + 1, h => by
    by_cases e : k = l + 1
    · rw [e]; exact Nat.le_refl _
    · have := numS_mono n (k := k) (l := l) (by omega)
      have q : numS n (l + 1) = if (pt n l).kind = 1 then numS n l + 1 else numS n l := rfl
      rw [q]; split <;> omega
theorem numS_le (n : Net) : ∀ k, numS n k ≤ k
  | 0 => Nat.le_refl _
  | k + 1 => by
    have := numS_le n k
    have q : numS n (k + 1) = if (pt n k).kind = 1 then numS n k + 1 else numS n k := rfl
    rw [q]; split <;> omega
theorem numS_lt (n : Net) {k l : Nat} (h : k < l) (e : (pt n k).kind = 1) : numS n k < numS n l := by
  have := numS_mono n (k := k + 1) (l := l) h
  have q : numS n (k + 1) = numS n k + 1 := by show (if _ then _ else _) = _; rw [if_pos e]
  omega
theorem srcs_at (n : Net) : ∀ (k i : Nat), i < numS n k → (srcs n k).getD i 0 < k ∧ (pt n ((srcs n k).getD i 0)).kind = 1 ∧ numS n ((srcs n k).getD i 0) = i
  | 0, i, h => by simp [numS] at h
  | k + 1, i, h => by
    unfold srcs
    unfold numS at h
    by_cases e : (pt n k).kind = 1
    · rw [if_pos e] at h ⊢
      by_cases q : i = numS n k
      · rw [getD_app_end _ _ _ _ (by rw [srcs_len, q])]
        exact ⟨by omega, e, q.symm⟩
      · rw [getD_app _ _ _ _ (by rw [srcs_len]; omega)]
        have := srcs_at n k i (by omega)
        exact ⟨by omega, this.2⟩
    · rw [if_neg e] at h ⊢
      have := srcs_at n k i h
      exact ⟨by omega, this.2⟩
theorem place_lt (n : Net) {k : Nat} (h : k < n.parts.length) (e : (pt n k).kind = 1) : place n k < dimN n := by
  have := numS_lt n h e
  unfold place dimN; omega
theorem srcs_mem (n : Net) : ∀ {k l : Nat}, l ∈ srcs n k ↔ l < k ∧ (pt n l).kind = 1
  | 0, l => by simp [srcs]
  | k + 1, l => by
    unfold srcs
    by_cases e : (pt n k).kind = 1
    · rw [if_pos e, List.mem_append, srcs_mem, List.mem_singleton]
      constructor
      · rintro (h | h)
        · exact ⟨by omega, h.2⟩
        · rw [h]; exact ⟨by omega, e⟩
      · rintro ⟨h1, h2⟩
        by_cases q : l = k
        · exact .inr q
        · exact .inl ⟨by omega, h2⟩
    · rw [if_neg e, srcs_mem]
      constructor
      · rintro ⟨h1, h2⟩; exact ⟨by omega, h2⟩
      · rintro ⟨h1, h2⟩
        refine ⟨?_, h2⟩
        by_cases q : l = k
        · subst q; exact absurd h2 e
        · omega
/-! ### Rows -/
def zeroR (n : Net) : List Int := List.replicate (dimN n + 1) 0
def addAt (r : List Int) (j : Nat) (t : Int) : List Int := r.set j (r.getD j 0 + t)
def groundG (n : Net) : List Int := (zeroR n).set 0 1
def srcG (n : Net) (k : Nat) : List Int := (((zeroR n).set (pt n k).a 1).set (pt n k).b (-1)).set (dimN n) (pt n k).much
def touches (n : Net) (node k : Nat) : Bool := decide (node = (pt n k).a ∨ node = (pt n k).b)
def ohmsG (n : Net) (node : Nat) : Nat → Int
  | 0 => 1
  | k + 1 => if (pt n k).kind = 0 ∧ touches n node k = true then ohmsG n node k * (pt n k).much else ohmsG n node k
def timesG (n : Net) (node k : Nat) : Int := if node = (pt n k).a then ohmsG n node n.parts.length else -ohmsG n node n.parts.length
def nodeG (n : Net) (node : Nat) : Nat → List Int
  | 0 => zeroR n
  | k + 1 => if touches n node k = true then
      if (pt n k).kind = 0 then addAt (addAt (nodeG n node k) (pt n k).a ((timesG n node k).fdiv (pt n k).much)) (pt n k).b (-((timesG n node k).fdiv (pt n k).much))
      else if (pt n k).kind = 1 then addAt (nodeG n node k) (place n k) (timesG n node k)
      else addAt (nodeG n node k) (dimN n) (timesG n node k * (pt n k).much)
    else nodeG n node k
def lawRows (n : Net) : Rws := [groundG n] ++ (List.range (n.nodes - 1)).map (fun i => nodeG n (i + 1) n.parts.length) ++ (srcs n n.parts.length).map (srcG n)
theorem addAt_len (r : List Int) (j : Nat) (t : Int) : (addAt r j t).length = r.length := by simp [addAt]
theorem addAt_get (r : List Int) {j : Nat} (t : Int) (h : j < r.length) (i : Nat) : (addAt r j t).getD i 0 = r.getD i 0 + if i = j then t else 0 := by
  unfold addAt
  rw [List.getD_eq_getElem?_getD, List.getElem?_set]
  by_cases e : j = i
  · subst e; simp [h]
  · rw [if_neg e, if_neg (by omega), List.getD_eq_getElem?_getD]; omega
theorem zeroR_len (n : Net) : (zeroR n).length = dimN n + 1 := by simp [zeroR]
theorem zeroR_get (n : Net) (i : Nat) : (zeroR n).getD i 0 = 0 := by
  unfold zeroR
  rw [List.getD_eq_getElem?_getD, List.getElem?_replicate]
  split <;> rfl
theorem set_get (r : List Int) {j : Nat} (t : Int) (h : j < r.length) (i : Nat) : (r.set j t).getD i 0 = if i = j then t else r.getD i 0 := by
  rw [List.getD_eq_getElem?_getD, List.getElem?_set]
  by_cases e : j = i
  · subst e; simp [h]
  · rw [if_neg e, if_neg (by omega), List.getD_eq_getElem?_getD]
theorem nodeG_len (n : Net) (node : Nat) : ∀ k, (nodeG n node k).length = dimN n + 1
  | 0 => zeroR_len n
  | k + 1 => by
    unfold nodeG
    split
    · split
      · rw [addAt_len, addAt_len]; exact nodeG_len n node k
      · split
        · rw [addAt_len]; exact nodeG_len n node k
        · rw [addAt_len]; exact nodeG_len n node k
    · exact nodeG_len n node k
/-- what a row comes to, its last taken -c times -/
def vl (N : Nat) (r : List Int) (x : Nat → Rat) (c : Rat) : Rat := sm N (fun j => (r.getD j 0 : Rat) * x j) - c * (r.getD N 0 : Rat)
theorem vl_zero (n : Net) (x : Nat → Rat) (c : Rat) : vl (dimN n) (zeroR n) x c = 0 := by
  unfold vl
  rw [sm_zero fun j _ => by rw [zeroR_get]; grind, zeroR_get]
  grind
theorem vl_add {N : Nat} {r : List Int} (hr : r.length = N + 1) {j : Nat} (hj : j < N) (t : Int) (x : Nat → Rat) (c : Rat) : vl N (addAt r j t) x c = vl N r x c + (t : Rat) * x j := by
  unfold vl
  rw [addAt_get r t (by omega), if_neg (by omega)]
  have e : ∀ i, i < N → ((addAt r j t).getD i 0 : Rat) * x i = (r.getD i 0 : Rat) * x i + (if i = j then (t : Rat) else 0) * x i := by
    intro i hi
    rw [addAt_get r t (by omega), Rat.intCast_add]
    split <;> grind
  rw [sm_congr e, sm_add, one_at N x hj]
  grind
theorem vl_add_end {N : Nat} {r : List Int} (hr : r.length = N + 1) (t : Int) (x : Nat → Rat) (c : Rat) : vl N (addAt r N t) x c = vl N r x c - c * (t : Rat) := by
  unfold vl
  rw [addAt_get r t (by omega), if_pos rfl, Rat.intCast_add]
  have e : ∀ i, i < N → ((addAt r N t).getD i 0 : Rat) * x i = (r.getD i 0 : Rat) * x i := by
    intro i hi
    rw [addAt_get r t (by omega), if_neg (by omega), Int.add_zero]
  rw [sm_congr e]
  grind
/-- what flows through a part, by what is unknown -/
def curr (n : Net) (x : Nat → Rat) (c : Rat) (k : Nat) : Rat := if (pt n k).kind = 0 then (x (pt n k).a - x (pt n k).b) / ((pt n k).much : Rat) else if (pt n k).kind = 1 then x (place n k) else -(c * ((pt n k).much : Rat))
theorem ohms_pos {n : Net} (G : GoodN n) (node : Nat) : ∀ k, k ≤ n.parts.length → 1 ≤ ohmsG n node k
  | 0, _ => by show (1 : Int) ≤ 1; omega
  | k + 1, h => by
    have ih := ohms_pos G node k (by omega)
    unfold ohmsG
    split
    · rename_i q
      have := (G.part k (by omega)).2.2.2.2.2.2 q.1
      exact Int.le_trans this (by have := Int.mul_le_mul_of_nonneg_right ih (show 0 ≤ (pt n k).much by omega); omega)
    · exact ih
theorem ohms_dvd (n : Net) (node : Nat) {k : Nat} (e : (pt n k).kind = 0) (t : touches n node k = true) : ∀ {l : Nat}, k < l → (pt n k).much ∣ ohmsG n node l
  | 0, h => by omega
  | l + 1, h => by
    unfold ohmsG
    by_cases q : k = l
    · subst q
      rw [if_pos ⟨e, t⟩]
      exact Int.dvd_mul_left _ _
    · have := ohms_dvd n node e t (l := l) (by omega)
      split
      · exact Int.dvd_mul_of_dvd_left this
      · exact this
theorem nodeG_vl {n : Net} (G : GoodN n) (node : Nat) (x : Nat → Rat) (c : Rat) : ∀ k, k ≤ n.parts.length →
    vl (dimN n) (nodeG n node k) x c = (ohmsG n node n.parts.length : Rat) * sm k fun l => ends n l node * curr n x c l
  | 0, _ => by show vl _ (zeroR n) x c = _ * (0 : Rat); rw [vl_zero]; grind
  | k + 1, h => by
    have ih := nodeG_vl G node x c k (by omega)
    have hp := G.part k (by omega)
    have len := nodeG_len n node k
    have dm : n.nodes ≤ dimN n := by unfold dimN; omega
    have hs : sm (k + 1) (fun l => ends n l node * curr n x c l) = sm k (fun l => ends n l node * curr n x c l) + ends n k node * curr n x c k := rfl
    rw [hs]
    unfold nodeG
    by_cases t : touches n node k = true
    · rw [if_pos t]
      have t' : node = (pt n k).a ∨ node = (pt n k).b := of_decide_eq_true t
      have tm : (timesG n node k : Rat) = ends n k node * (ohmsG n node n.parts.length : Rat) := by
        unfold timesG ends
        rcases t' with q | q
        · rw [if_pos q, if_pos q.symm, if_neg (by rw [q]; exact Ne.symm hp.2.2.2.1)]; grind
        · rw [if_neg (by rw [q]; exact Ne.symm hp.2.2.2.1), if_neg (by rw [q]; exact hp.2.2.2.1), if_pos q.symm, Rat.intCast_neg]; grind
      by_cases e : (pt n k).kind = 0
      · rw [if_pos e, vl_add (by rw [addAt_len, len]) (by omega), vl_add len (by omega), ih]
        have hm := hp.2.2.2.2.2.2 e
        have dv : (pt n k).much ∣ timesG n node k := by
          unfold timesG
          have := ohms_dvd n node e t (l := n.parts.length) (by omega)
          split
          · exact this
          · exact Int.dvd_neg.mpr this
        have q : ((timesG n node k).fdiv (pt n k).much : Rat) * ((pt n k).much : Rat) = (timesG n node k : Rat) := by
          rw [← Rat.intCast_mul, Int.fdiv_mul_cancel dv]
        have m0 : ((pt n k).much : Rat) ≠ 0 := by
          intro z
          have : (pt n k).much = 0 := by exact_mod_cast z
          omega
        rw [tm] at q
        have cu : curr n x c k * ((pt n k).much : Rat) = x (pt n k).a - x (pt n k).b := by
          unfold curr; rw [if_pos e]; grind
        rw [Rat.intCast_neg]
        have : ((timesG n node k).fdiv (pt n k).much : Rat) = ends n k node * (ohmsG n node n.parts.length : Rat) / ((pt n k).much : Rat) := by grind
        rw [this]
        unfold curr
        rw [if_pos e]
        grind
      · rw [if_neg e]
        by_cases e1 : (pt n k).kind = 1
        · rw [if_pos e1, vl_add len (place_lt n (by omega) e1), ih, tm]
          unfold curr; rw [if_neg e, if_pos e1]; grind
        · rw [if_neg e1, vl_add_end len, ih, Rat.intCast_mul, tm]
          unfold curr; rw [if_neg e, if_neg e1]; grind
    · rw [if_neg t, ih]
      have t' : ¬ (node = (pt n k).a ∨ node = (pt n k).b) := fun w => t (decide_eq_true w)
      have : ends n k node = 0 := by
        unfold ends
        rw [if_neg (fun q => t' (.inl q.symm)), if_neg (fun q => t' (.inr q.symm))]; grind
      rw [this]; grind
/-! ### The rows together -/
theorem law_len (n : Net) (h : 2 ≤ n.nodes) : (lawRows n).length = dimN n := by
  unfold lawRows dimN
  simp [srcs_len]; omega
theorem law_at {n : Net} (h : 2 ≤ n.nodes) : (lawRows n).getD 0 [] = groundG n ∧ (∀ r, 1 ≤ r → r < n.nodes → (lawRows n).getD r [] = nodeG n r n.parts.length) ∧
    ∀ i, i < numS n n.parts.length → (lawRows n).getD (n.nodes + i) [] = srcG n ((srcs n n.parts.length).getD i 0) := by
  refine ⟨rfl, fun r h1 h2 => ?_, fun i hi => ?_⟩
  · unfold lawRows
    rw [List.getD_eq_getElem?_getD, List.getElem?_append_left (by simp; omega), List.getElem?_append_right (by simp; omega)]
    simp only [List.length_singleton, List.getElem?_map]
    rw [List.getElem?_range (by omega)]
    simp only [Option.map_some, Option.getD_some]
    rw [show r - 1 + 1 = r by omega]
  · unfold lawRows
    rw [List.getD_eq_getElem?_getD, List.getElem?_append_right (by simp; omega)]
    simp only [List.length_append, List.length_singleton, List.length_map, List.length_range, List.getElem?_map]
    rw [show n.nodes + i - (1 + (n.nodes - 1)) = i by omega, List.getElem?_eq_getElem (by rw [srcs_len]; exact hi), getD_get (by rw [srcs_len]; exact hi)]
    rfl
theorem srcG_len (n : Net) (k : Nat) : (srcG n k).length = dimN n + 1 := by simp [srcG, zeroR_len]
theorem law_shp {n : Net} (G : GoodN n) : Shp (dimN n) (lawRows n) := by
  obtain ⟨g, nd, sr⟩ := law_at G.lo
  refine ⟨law_len n G.lo, fun i hi => ?_⟩
  by_cases e : i = 0
  · subst e; rw [g]; simp [groundG, zeroR_len]
  · by_cases q : i < n.nodes
    · rw [nd i (by omega) q]; exact nodeG_len ..
    · have := sr (i - n.nodes) (by unfold dimN at hi; omega)
      rw [show n.nodes + (i - n.nodes) = i by omega] at this
      rw [this]; exact srcG_len ..
theorem ground_vl {n : Net} (h : 2 ≤ n.nodes) (x : Nat → Rat) (c : Rat) : vl (dimN n) (groundG n) x c = x 0 := by
  have dm : n.nodes ≤ dimN n := by unfold dimN; omega
  have e : groundG n = addAt (zeroR n) 0 1 := by unfold groundG addAt; rw [zeroR_get]; rfl
  rw [e, vl_add (zeroR_len n) (by omega), vl_zero]
  grind
theorem src_vl {n : Net} (G : GoodN n) {k : Nat} (hk : k < n.parts.length) (x : Nat → Rat) (c : Rat) : vl (dimN n) (srcG n k) x c = x (pt n k).a - x (pt n k).b - c * ((pt n k).much : Rat) := by
  have dm : n.nodes ≤ dimN n := by unfold dimN; omega
  have hp := G.part k hk
  have e : srcG n k = addAt (addAt (addAt (zeroR n) (pt n k).a 1) (pt n k).b (-1)) (dimN n) (pt n k).much := by
    unfold srcG
    rw [show (zeroR n).set (pt n k).a 1 = addAt (zeroR n) (pt n k).a 1 by unfold addAt; rw [zeroR_get]; rfl]
    have e1 : (addAt (zeroR n) (pt n k).a 1).getD (pt n k).b 0 = 0 := by
      rw [addAt_get _ _ (by rw [zeroR_len]; omega), zeroR_get, if_neg (Ne.symm hp.2.2.2.1)]; rfl
    rw [show (addAt (zeroR n) (pt n k).a 1).set (pt n k).b (-1) = addAt (addAt (zeroR n) (pt n k).a 1) (pt n k).b (-1) by rw [addAt.eq_1 (addAt _ _ _), e1]; rfl]
    rw [addAt.eq_1 (addAt (addAt _ _ _) _ _), addAt_get _ _ (by rw [addAt_len, zeroR_len]; omega), addAt_get _ _ (by rw [zeroR_len]; omega), zeroR_get, if_neg (by omega), if_neg (by omega)]
    congr 1; omega
  rw [e, vl_add_end (by rw [addAt_len, addAt_len, zeroR_len]), vl_add (by rw [addAt_len, zeroR_len]) (by omega), vl_add (zeroR_len n) (by omega), vl_zero]
  rw [Rat.intCast_neg]
  grind
/-- **Who keeps to the rows keeps to the laws.** -/
theorem rows_laws {n : Net} (G : GoodN n) (x : Nat → Rat) (c : Rat) (H : ∀ r, r < dimN n → vl (dimN n) ((lawRows n).getD r []) x c = 0) : Sol n c x (curr n x c) := by
  obtain ⟨g, nd, sr⟩ := law_at G.lo
  have dm : n.nodes ≤ dimN n := by unfold dimN; omega
  have node1 : ∀ r, 1 ≤ r → r < n.nodes → out n (curr n x c) r = 0 := by
    intro r h1 h2
    have := H r (by omega)
    rw [nd r h1 h2, nodeG_vl G r x c _ (Nat.le_refl _)] at this
    have p := ohms_pos G r n.parts.length (Nat.le_refl _)
    have z : (ohmsG n r n.parts.length : Rat) ≠ 0 := by
      intro z
      have : ohmsG n r n.parts.length = 0 := by exact_mod_cast z
      omega
    unfold out
    rcases Rat.mul_eq_zero.mp this with w | w
    · exact absurd w z
    · exact w
  refine ⟨?_, fun k hk e => ?_, fun k hk e => ?_, fun k hk e e' => ?_, fun y hy => ?_⟩
  · have := H 0 (by have := G.lo; omega)
    rw [g, ground_vl G.lo] at this
    exact this
  · have hm := (G.part k hk).2.2.2.2.2.2 e
    have m0 : ((pt n k).much : Rat) ≠ 0 := by
      intro z
      have : (pt n k).much = 0 := by exact_mod_cast z
      omega
    unfold curr
    rw [if_pos e]
    grind
  · have lt := numS_lt n hk e
    -- the row of this source
    have key : ∀ i, i < numS n n.parts.length → x (pt n ((srcs n n.parts.length).getD i 0)).a - x (pt n ((srcs n n.parts.length).getD i 0)).b - c * ((pt n ((srcs n n.parts.length).getD i 0)).much : Rat) = 0 := by
      intro i hi
      have := H (n.nodes + i) (by unfold dimN; omega)
      rw [sr i hi, src_vl G (srcs_at n _ i hi).1] at this
      exact this
    obtain ⟨i, hi, hk'⟩ : ∃ i, i < numS n n.parts.length ∧ (srcs n n.parts.length).getD i 0 = k := by
      have := (srcs_mem n (k := n.parts.length) (l := k)).mpr ⟨hk, e⟩
      obtain ⟨i, hi, q⟩ := List.getElem_of_mem this
      exact ⟨i, by rw [← srcs_len]; exact hi, by rw [getD_get hi]; exact q⟩
    have := key i hi
    rw [hk'] at this
    grind
  · unfold curr; rw [if_neg e, if_neg e']
  · by_cases q : y = 0
    · subst q
      have A := out_all n G.ok (curr n x c)
      rw [sm_one (i := 0) (by have := G.lo; omega) fun z hz hne => node1 z (by omega) hz] at A
      exact A
    · exact node1 y (by omega) hy
theorem cast_si (N : Nat) (f : Nat → Int) : (si N f : Rat) = sm N fun j => (f j : Rat) := by
  induction N with
  | zero => rfl
  | succ N ih => unfold si sm; rw [Rat.intCast_add, ih]
theorem law_triv {n : Net} (G : GoodN n) (T : Triv n) : TrivI (dimN n) (lawRows n) := by
  intro x hx j hj
  have S := rows_laws G (fun j => (x j : Rat)) 0 fun r hr => by
    unfold vl
    have e : ∀ j, (((lawRows n).getD r []).getD j 0 : Rat) * (x j : Rat) = ((ent (lawRows n) r j * x j : Int) : Rat) := fun j => by rw [Rat.intCast_mul]; rfl
    rw [sm_congr fun j _ => e j, ← cast_si, hx r hr]
    grind
  have t := T _ _ S
  by_cases q : j < n.nodes
  · have : ((x j : Int) : Rat) = 0 := t.1 j q
    exact_mod_cast this
  · have hi : j - n.nodes < numS n n.parts.length := by unfold dimN at hj; omega
    obtain ⟨h1, h2, h3⟩ := srcs_at n _ _ hi
    have := t.2 _ h1
    unfold curr place at this
    rw [if_neg (by omega), if_pos h2, h3, show n.nodes + (j - n.nodes) = j by omega] at this
    have this : ((x j : Int) : Rat) = 0 := this
    exact_mod_cast this
/-- what the program holds for an unknown, by the number that comes last -/
def xOf (n : Net) (j : Nat) : Rat := (ent (elim (lawRows n) (dimN n)).1 j (dimN n) : Rat) / ((elim (lawRows n) (dimN n)).2 : Rat)
theorem law_solved {n : Net} (G : GoodN n) (T : Triv n) : (elim (lawRows n) (dimN n)).2 ≠ 0 ∧
    ∃ l, solved n = some l ∧ (∀ x, x < n.nodes → l.getD x 0 = xOf n x) ∧ ∀ k, k < n.parts.length → l.getD (n.nodes + k) 0 = curr n (xOf n) 1 k := by
  obtain ⟨h0, h1⟩ := elim_done (law_shp G) (law_triv G T)
  refine ⟨h0, ?_⟩
  have c0 : ((elim (lawRows n) (dimN n)).2 : Rat) ≠ 0 := by
    intro z
    exact h0 (by exact_mod_cast z)
  refine solved_of G.ok T (rows_laws G (xOf n) 1 fun r hr => ?_)
  have := h1 r hr
  have e : ((elim (lawRows n) (dimN n)).2 : Rat) * (ent (lawRows n) r (dimN n) : Rat) = sm (dimN n) fun j => (ent (elim (lawRows n) (dimN n)).1 j (dimN n) : Rat) * (ent (lawRows n) r j : Rat) := by
    rw [← Rat.intCast_mul, this, cast_si]
    exact sm_congr fun j _ => by rw [Rat.intCast_mul]
  unfold vl
  have q : ∀ j, (((lawRows n).getD r []).getD j 0 : Rat) * xOf n j = 1 / ((elim (lawRows n) (dimN n)).2 : Rat) * ((ent (elim (lawRows n) (dimN n)).1 j (dimN n) : Rat) * (ent (lawRows n) r j : Rat)) := fun j => by
    unfold xOf ent; grind
  rw [sm_congr fun j _ => q j, sm_mul, ← e]
  show _ - 1 * (ent (lawRows n) r (dimN n) : Rat) = 0
  grind
end Rn
/-! How large the numbers get. -/
namespace Rn
open Rc43
def sN : Nat → (Nat → Nat) → Nat
  | 0, _ => 0
  | n + 1, f => sN n f + f n
theorem sN_add (f g : Nat → Nat) : ∀ n, sN n (fun i => f i + g i) = sN n f + sN n g
  | 0 => rfl
  | n + 1 => by unfold sN; rw [sN_add f g n]; dsimp only; omega
theorem sN_mul (c : Nat) (f : Nat → Nat) : ∀ n, sN n (fun i => c * f i) = c * sN n f
  | 0 => rfl
  | n + 1 => by unfold sN; rw [sN_mul c f n, Nat.mul_add]
theorem sN_const (c : Nat) : ∀ n, sN n (fun _ => c) = n * c
  | 0 => by simp [sN]
  | n + 1 => by unfold sN; rw [sN_const c n, Nat.succ_mul]
theorem sN_le {f g : Nat → Nat} : ∀ {n}, (∀ i, i < n → f i ≤ g i) → sN n f ≤ sN n g
  | 0, _ => Nat.le_refl _
  | n + 1, h => by
    have := sN_le (n := n) fun i hi => h i (by omega)
    have := h n (by omega)
    unfold sN; omega
theorem sN_split (f : Nat → Nat) (n : Nat) : ∀ m, sN (n + m) f = sN n f + sN m (fun k => f (n + k))
  | 0 => rfl
  | m + 1 => by
    have := sN_split f n m
    show sN (n + m) f + f (n + m) = sN n f + (sN m (fun k => f (n + k)) + f (n + m))
    omega
theorem sN_hit (a : Nat) : ∀ n, sN n (fun i => if i = a then 1 else 0) ≤ if a < n then 1 else 0
  | 0 => by simp [sN]
  | n + 1 => by
    have := sN_hit a n
    unfold sN
    dsimp only
    by_cases q : n = a
    · subst q
      rw [if_neg (by omega)] at this
      rw [if_pos rfl, if_pos (by omega)]; omega
    · rw [if_neg q]
      by_cases q2 : a < n
      · rw [if_pos q2] at this; rw [if_pos (by omega)]; omega
      · rw [if_neg q2] at this; rw [if_neg (by omega)]; omega
theorem prod_pow (e : Nat → Nat) : ∀ n, prodN n (fun r => 2 ^ e r) = 2 ^ sN n e
  | 0 => rfl
  | n + 1 => by unfold prodN sN; rw [prod_pow e n, Nat.pow_add]
def deg (n : Net) (r : Nat) : Nat → Nat
  | 0 => 0
  | k + 1 => deg n r k + if touches n r k = true then 1 else 0
theorem deg_sum (n : Net) (M : Nat) : ∀ k, sN M (fun r => deg n r k) ≤ 2 * k
  | 0 => by show sN M (fun _ => 0) ≤ 0; rw [sN_const]; omega
  | k + 1 => by
    have ih := deg_sum n M k
    have e : (fun r => deg n r (k + 1)) = fun r => deg n r k + if touches n r k = true then 1 else 0 := rfl
    rw [e, sN_add]
    have h1 : sN M (fun r => if touches n r k = true then 1 else 0) ≤ sN M (fun r => (if r = (pt n k).a then 1 else 0) + (if r = (pt n k).b then 1 else 0)) := by
      refine sN_le fun r hr => ?_
      split
      · rename_i t
        rcases (of_decide_eq_true t : r = (pt n k).a ∨ r = (pt n k).b) with q | q
        · rw [if_pos q]; omega
        · rw [if_pos q]; omega
      · omega
    rw [sN_add] at h1
    have h2 := sN_hit (pt n k).a M
    have h3 := sN_hit (pt n k).b M
    split at h2 <;> split at h3 <;> omega
theorem ohms_le {n : Net} (G : GoodN n) (r : Nat) : ∀ k, k ≤ n.parts.length → (ohmsG n r k).natAbs ≤ 2 ^ (20 * deg n r k)
  | 0, _ => by show (1 : Int).natAbs ≤ 2 ^ 0; decide
  | k + 1, h => by
    have ih := ohms_le G r k (by omega)
    have hp := G.part k (by omega)
    unfold ohmsG deg
    by_cases q : (pt n k).kind = 0 ∧ touches n r k = true
    · rw [if_pos q, if_pos q.2, Int.natAbs_mul, Nat.mul_add, Nat.pow_add]
      exact Nat.mul_le_mul ih (Nat.le_trans (by omega : (pt n k).much.natAbs ≤ 1000000) (by decide))
    · rw [if_neg q]
      refine Nat.le_trans ih (Nat.pow_le_pow_right (by decide) ?_)
      split <;> omega
theorem times_abs (n : Net) (r k : Nat) : (timesG n r k).natAbs = (ohmsG n r n.parts.length).natAbs := by
  unfold timesG; split <;> omega
theorem node_abs {n : Net} (G : GoodN n) (r : Nat) : ∀ k, k ≤ n.parts.length → ∀ j, ((nodeG n r k).getD j 0).natAbs ≤ k * ((ohmsG n r n.parts.length).natAbs * 1000000)
  | 0, _, j => by show ((zeroR n).getD j 0).natAbs ≤ _; rw [zeroR_get]; simp
  | k + 1, h, j => by
    have ih := node_abs G r k (by omega) j
    have hp := G.part k (by omega)
    have len := nodeG_len n r k
    have dm : n.nodes ≤ dimN n := by unfold dimN; omega
    have ta := times_abs n r k
    rw [Nat.succ_mul]
    unfold nodeG
    by_cases t : touches n r k = true
    · rw [if_pos t]
      have big : ∀ d : Int, d.natAbs ≤ (ohmsG n r n.parts.length).natAbs * 1000000 → ((nodeG n r k).getD j 0 + d).natAbs ≤ k * ((ohmsG n r n.parts.length).natAbs * 1000000) + (ohmsG n r n.parts.length).natAbs * 1000000 := fun d hd => by
        have := Int.natAbs_add_le ((nodeG n r k).getD j 0) d
        omega
      by_cases e : (pt n k).kind = 0
      · rw [if_pos e, addAt_get _ _ (by rw [addAt_len, len]; omega), addAt_get _ _ (by rw [len]; omega)]
        have hm := hp.2.2.2.2.2.2 e
        have dv : (pt n k).much ∣ timesG n r k := by
          unfold timesG
          have := ohms_dvd n r e t (l := n.parts.length) (by omega)
          split
          · exact this
          · exact Int.dvd_neg.mpr this
        have qa : ((timesG n r k).fdiv (pt n k).much).natAbs ≤ (ohmsG n r n.parts.length).natAbs := by
          have q : (timesG n r k).fdiv (pt n k).much * (pt n k).much = timesG n r k := Int.fdiv_mul_cancel dv
          have q2 := congrArg Int.natAbs q
          rw [Int.natAbs_mul, ta] at q2
          rw [← q2]
          exact Nat.le_mul_of_pos_right _ (by omega)
        by_cases ja : j = (pt n k).a
        · rw [if_pos ja, if_neg (by rw [ja]; exact hp.2.2.2.1), Int.add_zero]
          exact big _ (by omega)
        · rw [if_neg ja, Int.add_zero]
          refine big _ ?_
          split <;> omega
      · rw [if_neg e]
        by_cases e1 : (pt n k).kind = 1
        · rw [if_pos e1, addAt_get _ _ (by rw [len]; have := place_lt n (show k < n.parts.length by omega) e1; omega)]
          refine big _ ?_
          split
          · rw [ta]; omega
          · omega
        · rw [if_neg e1, addAt_get _ _ (by rw [len]; omega)]
          refine big _ ?_
          split
          · rw [Int.natAbs_mul, ta]
            exact Nat.mul_le_mul (Nat.le_refl _) (by omega)
          · omega
    · rw [if_neg t]; omega
def expo (n : Net) (r : Nat) : Nat := if r < n.nodes then 25 + 20 * deg n r n.parts.length else 20
theorem law_abs {n : Net} (G : GoodN n) {r : Nat} (hr : r < dimN n) (j : Nat) : (ent (lawRows n) r j).natAbs ≤ 2 ^ expo n r := by
  obtain ⟨g, nd, sr⟩ := law_at G.lo
  have dm : n.nodes ≤ dimN n := by unfold dimN; omega
  unfold ent
  by_cases q : r < n.nodes
  · by_cases e : r = 0
    · subst e
      rw [g]
      unfold groundG
      rw [set_get _ _ (by rw [zeroR_len]; omega), zeroR_get]
      have := Nat.one_le_two_pow (n := expo n 0)
      split <;> omega
    · rw [nd r (by omega) q]
      have h1 := node_abs G r n.parts.length (Nat.le_refl _) j
      have h2 := ohms_le G r n.parts.length (Nat.le_refl _)
      unfold expo
      rw [if_pos q, Nat.pow_add]
      have h3 : n.parts.length * ((ohmsG n r n.parts.length).natAbs * 1000000) ≤ 25 * (2 ^ (20 * deg n r n.parts.length) * 1000000) :=
        Nat.mul_le_mul G.few (Nat.mul_le_mul h2 (Nat.le_refl _))
      have h4 : 25 * (2 ^ (20 * deg n r n.parts.length) * 1000000) ≤ 2 ^ 25 * 2 ^ (20 * deg n r n.parts.length) := by
        have : 25 * (2 ^ (20 * deg n r n.parts.length) * 1000000) = 25000000 * 2 ^ (20 * deg n r n.parts.length) := by omega
        rw [this]
        exact Nat.mul_le_mul (by decide) (Nat.le_refl _)
      omega
  · have hi : r - n.nodes < numS n n.parts.length := by unfold dimN at hr; omega
    have e := sr (r - n.nodes) hi
    rw [show n.nodes + (r - n.nodes) = r by omega] at e
    rw [e]
    have hp := G.part _ (srcs_at n _ _ hi).1
    unfold srcG expo
    rw [if_neg q, set_get _ _ (by rw [List.length_set, List.length_set, zeroR_len]; omega), set_get _ _ (by rw [List.length_set, zeroR_len]; omega), set_get _ _ (by rw [zeroR_len]; omega), zeroR_get]
    have : (2 : Nat) ^ 20 = 1048576 := by decide
    rw [this]
    split
    · omega
    · split
      · omega
      · split <;> omega
theorem fac_le {N : Nat} (h : N < 38) : fac N ≤ 2 ^ 200 := by
  have : ∀ N, N < 38 → fac N ≤ 2 ^ 200 := by decide
  exact this N h
theorem expo_sum {n : Net} (G : GoodN n) : sN (dimN n) (expo n) ≤ 1800 := by
  unfold dimN
  rw [sN_split]
  have h1 : sN n.nodes (expo n) ≤ sN n.nodes (fun r => 25 + 20 * deg n r n.parts.length) := sN_le fun r hr => by unfold expo; rw [if_pos hr]; omega
  have h2 : sN (numS n n.parts.length) (fun k => expo n (n.nodes + k)) ≤ sN (numS n n.parts.length) (fun _ => 20) := sN_le fun r hr => by unfold expo; rw [if_neg (by omega)]; omega
  rw [sN_const] at h2
  rw [sN_add, sN_const, sN_mul] at h1
  have h3 := deg_sum n n.nodes n.parts.length
  have h4 := numS_le n n.parts.length
  have := G.few
  have := G.hi
  omega
theorem dim_le {n : Net} (G : GoodN n) : dimN n < 38 := by
  have := numS_le n n.parts.length
  have := G.few
  have := G.hi
  unfold dimN; omega
/-- **No number of the elimination has more than 2000 bits.** -/
theorem elim_size {n : Net} (G : GoodN n) (T : Triv n) {k : Nat} (h : k ≤ dimN n) :
    (elim (lawRows n) k).2.natAbs ≤ 2 ^ 2000 ∧ ∀ i, i < dimN n → ∀ j, j ≤ dimN n → (ent (elim (lawRows n) k).1 i j).natAbs ≤ 2 ^ 2000 := by
  have b : fac (dimN n) * prodN (dimN n) (fun r => 2 ^ expo n r) ≤ 2 ^ 2000 := by
    rw [prod_pow, show (2 : Nat) ^ 2000 = 2 ^ 200 * 2 ^ 1800 from Nat.pow_add 2 200 1800]
    exact Nat.mul_le_mul (fac_le (dim_le G)) (Nat.pow_le_pow_right (by decide) (expo_sum G))
  obtain ⟨h1, h2⟩ := elim_abs (law_shp G) (law_triv G T) (m := fun r => 2 ^ expo n r) (fun r hr => ⟨Nat.one_le_two_pow, fun j _ => law_abs G hr j⟩) h
  exact ⟨Nat.le_trans h1 b, fun i hi j hj => Nat.le_trans (h2 i hi j hj) b⟩
end Rn
/-! How a fraction is told, and what each call answers. -/
namespace Rn
open Rc43
def bytesG (k n : Nat) : List Int := (List.range k).map fun i => ((n / 256 ^ i % 256 : Nat) : Int)
/-- what the program tells of a fraction -/
def toldG (p q : Int) : List Int := (if p * q < 0 then 1 else 0) :: (bytesG 160 (p.natAbs / Nat.gcd p.natAbs q.natAbs) ++ bytesG 160 (q.natAbs / Nat.gcd p.natAbs q.natAbs))
def nat2 (l : List Nat) : List Int := l.map fun (b : Nat) => (b : Int)
theorem bytes_nat (k n : Nat) : nat2 (bytes k n) = bytesG k n := by
  unfold nat2 bytes bytesG
  rw [List.map_map]; rfl
theorem low {p q : Int} (hq : q ≠ 0) : ((p : Rat) / (q : Rat)).num.natAbs = p.natAbs / Nat.gcd p.natAbs q.natAbs ∧ ((p : Rat) / (q : Rat)).den = q.natAbs / Nat.gcd p.natAbs q.natAbs ∧ (((p : Rat) / (q : Rat)).num < 0 ↔ p * q < 0) := by
  have e : Rat.divInt p q = (p : Rat) / (q : Rat) := Rat.divInt_eq_div p q
  rw [← e]
  generalize hx : Rat.divInt p q = x
  obtain ⟨m, m0, h1, h2⟩ := Rat.divInt_num_den (n' := x.num) (d' := x.den) (z' := x.den_nz) (c := x.reduced) hq hx
  have g : Nat.gcd p.natAbs q.natAbs = m.natAbs := by
    rw [h1, h2, Int.natAbs_mul, Int.natAbs_mul, Nat.gcd_mul_right, Int.natAbs_natCast, show x.num.natAbs.gcd x.den = 1 from x.reduced, Nat.one_mul]
  have mp : 0 < m.natAbs := by omega
  refine ⟨?_, ?_, ?_⟩
  · rw [g, h1, Int.natAbs_mul, Nat.mul_div_cancel _ mp]
  · rw [g, h2, Int.natAbs_mul, Int.natAbs_natCast, Nat.mul_div_cancel _ mp]
  · have dp : 0 < (x.den : Int) := by have := x.den_nz; omega
    have mm : 0 < m * m := by
      rcases Int.lt_or_lt_of_ne m0 with w | w
      · exact Int.mul_pos_of_neg_of_neg w w
      · exact Int.mul_pos w w
    have : p * q = x.num * (x.den * (m * m)) := by rw [h1, h2]; grind
    rw [this]
    have k := Int.mul_pos dp mm
    constructor
    · intro w; exact Int.mul_neg_of_neg_of_pos w k
    · intro w
      apply Int.not_le.mp
      intro w2
      have := Int.mul_nonneg w2 (Int.le_of_lt k)
      omega
theorem tell_eq {p q : Int} (hq : q ≠ 0) {x : Rat} (hx : x = (p : Rat) / (q : Rat)) : nat2 (tellFrac x).numbers = toldG p q := by
  obtain ⟨h1, h2, h3⟩ := low (p := p) hq
  subst hx
  show nat2 (toldFrac _) = _
  unfold toldFrac toldG
  show ((if _ then 1 else 0 : Nat) : Int) :: nat2 (bytes 160 _ ++ bytes 160 _) = _
  rw [show nat2 (bytes 160 (((p : Rat) / (q : Rat)).num.natAbs) ++ bytes 160 ((p : Rat) / (q : Rat)).den) = nat2 (bytes 160 (((p : Rat) / (q : Rat)).num.natAbs)) ++ nat2 (bytes 160 ((p : Rat) / (q : Rat)).den) from List.map_append, bytes_nat, bytes_nat, h1, h2]
  congr 1
  by_cases w : p * q < 0
  · rw [if_pos w]
    have := h3.mpr w
    simp [this]
  · rw [if_neg w]
    have : ¬ ((p : Rat) / (q : Rat)).num < 0 := fun z => w (h3.mp z)
    simp [this]
/-! ### What the program reckons of a net with one solution -/
def uG (n : Net) (j : Nat) : Int := ent (elim (lawRows n) (dimN n)).1 j (dimN n)
def dG (n : Net) : Int := (elim (lawRows n) (dimN n)).2
/-- amperes as the program's pair -/
def ampG (n : Net) (k : Nat) : Int × Int := if (pt n k).kind = 0 then (uG n (pt n k).a - uG n (pt n k).b, dG n * (pt n k).much) else if (pt n k).kind = 1 then (uG n (place n k), dG n) else (-(pt n k).much, 1)
theorem good_triv {n : Net} (G : GoodN n) (h : oneG n = true) : Triv n := by
  rw [← one_iff G.ok fun k hk e => by have := (G.part k hk).2.2.2.2.2.2 e; omega] at h
  exact (solved_isSome G.ok).mp h
theorem good_none {n : Net} (G : GoodN n) (h : oneG n = false) : solved n = none := by
  rw [← one_iff G.ok fun k hk e => by have := (G.part k hk).2.2.2.2.2.2 e; omega] at h
  cases e : solved n with
  | none => rfl
  | some l => rw [e] at h; cases h
theorem cast_ne {z : Int} (h : z ≠ 0) : (z : Rat) ≠ 0 := fun e => h (by exact_mod_cast e)
theorem volts_told {n : Net} (G : GoodN n) (h : oneG n = true) : ∃ l, solved n = some l ∧ dG n ≠ 0 ∧
    (∀ x, x < n.nodes → nat2 (tellFrac (l.getD x 0)).numbers = toldG (uG n x) (dG n)) ∧
    (∀ a b, a < n.nodes → b < n.nodes → nat2 (tellFrac (l.getD a 0 - l.getD b 0)).numbers = toldG (uG n a - uG n b) (dG n)) ∧
    (∀ k, k < n.parts.length → nat2 (tellFrac (l.getD (n.nodes + k) 0)).numbers = toldG (ampG n k).1 (ampG n k).2) ∧
    ∀ k, k < n.parts.length → nat2 (tellFrac ((l.getD (pt n k).a 0 - l.getD (pt n k).b 0) * l.getD (n.nodes + k) 0)).numbers = toldG ((uG n (pt n k).a - uG n (pt n k).b) * (ampG n k).1) (dG n * (ampG n k).2) := by
  obtain ⟨h0, l, hl, hv, ha⟩ := law_solved G (good_triv G h)
  have h0 : dG n ≠ 0 := h0
  have c0 : (dG n : Rat) ≠ 0 := cast_ne h0
  have x0 : ∀ j, xOf n j = (uG n j : Rat) / (dG n : Rat) := fun j => rfl
  have amp : ∀ k, k < n.parts.length → (ampG n k).2 ≠ 0 ∧ curr n (xOf n) 1 k = ((ampG n k).1 : Rat) / ((ampG n k).2 : Rat) := by
    intro k hk
    unfold ampG curr
    by_cases e : (pt n k).kind = 0
    · have hm := (G.part k hk).2.2.2.2.2.2 e
      rw [if_pos e, if_pos e]
      have m0 : (pt n k).much ≠ 0 := by omega
      have m1 := cast_ne m0
      refine ⟨Int.mul_ne_zero h0 m0, ?_⟩
      dsimp only
      rw [Rat.intCast_sub, Rat.intCast_mul, x0, x0]
      grind
    · rw [if_neg e, if_neg e]
      by_cases e1 : (pt n k).kind = 1
      · rw [if_pos e1, if_pos e1]
        exact ⟨h0, x0 _⟩
      · rw [if_neg e1, if_neg e1]
        refine ⟨by show (1 : Int) ≠ 0; decide, ?_⟩
        dsimp only
        rw [Rat.intCast_neg]
        grind
  refine ⟨l, hl, h0, fun x hx => tell_eq h0 (by rw [hv x hx, x0]), fun a b hx hy => tell_eq h0 (by rw [hv a hx, hv b hy, x0, x0, Rat.intCast_sub]; grind), fun k hk => tell_eq (amp k hk).1 (by rw [ha k hk, (amp k hk).2]), fun k hk => tell_eq (Int.mul_ne_zero h0 (amp k hk).1) ?_⟩
  have hp := G.part k hk
  have a0 := cast_ne (amp k hk).1
  rw [hv _ hp.2.1, hv _ hp.2.2.1, ha k hk, (amp k hk).2, x0, x0, Rat.intCast_mul, Rat.intCast_mul, Rat.intCast_sub]
  grind
end Rn
/-! What each call answers, as the program reckons it, is what the specification's machine answers. -/
namespace Rn
open Rc43
def leastM (k : Int) : Int := if k = 0 then 1 else -1000000
def NodeP (n : Net) (x : Int) : Prop := 0 ≤ x ∧ x < (n.nodes : Int)
def PartP (n : Net) (k : Int) : Prop := 0 ≤ k ∧ k < (n.parts.length : Int)
instance (n : Net) (x : Int) : Decidable (NodeP n x) := inferInstanceAs (Decidable (_ ∧ _))
instance (n : Net) (x : Int) : Decidable (PartP n x) := inferInstanceAs (Decidable (_ ∧ _))
def MuchP (k m : Int) : Prop := leastM k ≤ m ∧ m ≤ 1000000
instance (k m : Int) : Decidable (MuchP k m) := inferInstanceAs (Decidable (_ ∧ _))
def TwoP (n : Net) (a b : Int) : Prop := NodeP n a ∧ NodeP n b ∧ a ≠ b
instance (n : Net) (a b : Int) : Decidable (TwoP n a b) := inferInstanceAs (Decidable (_ ∧ _ ∧ _))
def addN (n : Net) (k a b m : Int) : Net := { n with parts := n.parts ++ [⟨k.toNat, a.toNat, b.toNat, m⟩] }
def addG (n : Net) (k a b m : Int) : Net × Int :=
  if (0 ≤ k ∧ k < 3) ∧ TwoP n a b ∧ MuchP k m then if n.parts.length = 24 then (n, -2) else (addN n k a b m, (n.parts.length : Int)) else (n, -1)
def chgN (n : Net) (k m : Int) : Net := { n with parts := n.parts.set k.toNat { pt n k.toNat with much := m } }
def changeG (n : Net) (k m : Int) : Net × Int := if PartP n k ∧ MuchP (pt n k.toNat).kind m then (chgN n k m, 0) else (n, -1)
def voltsA (n : Net) (x : Int) : List Int := if NodeP n x then if oneG n = true then 0 :: toldG (uG n x.toNat) (dG n) else [-3] else [-1]
def ampsA (n : Net) (k : Int) : List Int := if PartP n k then if oneG n = true then 0 :: toldG (ampG n k.toNat).1 (ampG n k.toNat).2 else [-3] else [-1]
def wattsA (n : Net) (k : Int) : List Int := if PartP n k then if oneG n = true then 0 :: toldG ((uG n (pt n k.toNat).a - uG n (pt n k.toNat).b) * (ampG n k.toNat).1) (dG n * (ampG n k.toNat).2) else [-3] else [-1]
def betwA (n : Net) (a b : Int) : List Int := if TwoP n a b then
    if oneG (probed n a.toNat b.toNat) = true then 0 :: toldG (uG (probed n a.toNat b.toNat) a.toNat - uG (probed n a.toNat b.toNat) b.toNat) (dG (probed n a.toNat b.toNat)) else [-3]
  else [-1]
/-- a call's answer, in a net -/
def inNet (n : Net) (p : Int) (L : List Int) : Net × List Int :=
  if p = 2 then ((addG n (L.getD 0 0) (L.getD 1 0) (L.getD 2 0) (L.getD 3 0)).1, [(addG n (L.getD 0 0) (L.getD 1 0) (L.getD 2 0) (L.getD 3 0)).2])
  else if p = 3 then ((changeG n (L.getD 0 0) (L.getD 1 0)).1, [(changeG n (L.getD 0 0) (L.getD 1 0)).2])
  else if p = 4 then (n, [if oneG n = true then 1 else 0])
  else if p = 5 then (n, voltsA n (L.getD 0 0))
  else if p = 6 then (n, ampsA n (L.getD 0 0))
  else if p = 7 then (n, wattsA n (L.getD 0 0))
  else (n, betwA n (L.getD 0 0) (L.getD 1 0))
def layG (s : Option Net) (x : Int) : Option Net × Int := if 2 ≤ x ∧ x ≤ 12 then (some ⟨x.toNat, []⟩, 0) else (s, -1)
def ansG (s : Option Net) (p : Int) (L : List Int) : Option Net × List Int :=
  if p = 0 then (none, [0])
  else if p = 1 then ((layG s (L.getD 0 0)).1, [(layG s (L.getD 0 0)).2])
  else match s with
    | none => (none, [-4])
    | some n => (some (inNet n p L).1, (inNet n p L).2)
structure GoodM (n : Net) : Prop extends GoodN n where
  room : n.parts.length ≤ 24
def GoodO (s : Option Net) : Prop := ∀ n, s = some n → GoodM n
theorem pt_mem {n : Net} {k : Nat} (h : k < n.parts.length) : n.parts[k]? = some (pt n k) := by
  unfold pt
  rw [List.getElem?_eq_getElem h, getD_get h]
theorem good_new {x : Int} (h : 2 ≤ x ∧ x ≤ 12) : GoodM ⟨x.toNat, []⟩ where
  lo := by show 2 ≤ x.toNat; omega
  hi := by show x.toNat ≤ 12; omega
  few := by show 0 ≤ 25; omega
  part := fun k hk => by simp at hk
  room := by show 0 ≤ 24; omega
theorem pt_add_lt {n : Net} {p : Part} {k : Nat} (h : k < n.parts.length) : pt { n with parts := n.parts ++ [p] } k = pt n k := by
  unfold pt; exact getD_app _ _ _ _ h
theorem pt_add_eq {n : Net} {p : Part} : pt { n with parts := n.parts ++ [p] } n.parts.length = p := by
  unfold pt; exact getD_app_end _ _ _ _ rfl
theorem good_add {n : Net} (G : GoodM n) {k a b m : Int} (hk : 0 ≤ k ∧ k < 3) (ht : TwoP n a b) (hm : MuchP k m) (hr : n.parts.length ≠ 24) : GoodM (addN n k a b m) := by
  have r := G.room
  obtain ⟨⟨a1, a2⟩, ⟨b1, b2⟩, ne⟩ := ht
  refine { lo := G.lo, hi := G.hi, few := by show (n.parts ++ [_]).length ≤ 25; simp; omega, part := fun i hi => ?_, room := by show (n.parts ++ [_]).length ≤ 24; simp; omega }
  have hi' : i < n.parts.length + 1 := by simpa [addN] using hi
  unfold addN
  by_cases q : i < n.parts.length
  · rw [pt_add_lt q]; exact G.part i q
  · rw [show i = n.parts.length by omega, pt_add_eq]
    unfold MuchP leastM at hm
    refine ⟨by show k.toNat ≤ 2; omega, by show a.toNat < n.nodes; omega, by show b.toNat < n.nodes; omega, by show a.toNat ≠ b.toNat; omega, ?_, hm.2, fun e => ?_⟩
    · show -1000000 ≤ m
      have := hm.1; split at this <;> omega
    · have e : k.toNat = 0 := e
      have := hm.1; rw [if_pos (by omega)] at this; exact this
theorem pt_chg {n : Net} {k : Nat} (h : k < n.parts.length) (p : Part) (i : Nat) : pt { n with parts := n.parts.set k p } i = if i = k then p else pt n i := by
  unfold pt
  dsimp only
  rw [List.getD_eq_getElem?_getD, List.getElem?_set]
  by_cases e : k = i
  · subst e; simp [h]
  · rw [if_neg e, if_neg (by omega), List.getD_eq_getElem?_getD]
theorem good_chg {n : Net} (G : GoodM n) {k m : Int} (hk : PartP n k) (hm : MuchP (pt n k.toNat).kind m) : GoodM (chgN n k m) := by
  obtain ⟨k1, k2⟩ := hk
  have len : (chgN n k m).parts.length = n.parts.length := by simp [chgN]
  refine { lo := G.lo, hi := G.hi, few := by rw [len]; exact G.few, part := fun i hi => ?_, room := by rw [len]; exact G.room }
  rw [len] at hi
  unfold chgN
  rw [pt_chg (by omega)]
  by_cases q : i = k.toNat
  · subst q
    rw [if_pos rfl]
    obtain ⟨h1, h2, h3, h4, _⟩ := G.part _ hi
    unfold MuchP leastM at hm
    refine ⟨h1, h2, h3, h4, ?_, hm.2, fun e => ?_⟩
    · show -1000000 ≤ m
      have := hm.1; split at this <;> omega
    · have e : (pt n k.toNat).kind = 0 := e
      have := hm.1; rw [if_pos (by omega)] at this; exact this
  · rw [if_neg q]; exact G.part i hi
theorem pt_probed {n : Net} {a b k : Nat} (h : k < n.parts.length) : pt (probed n a b) k = if (pt n k).kind = 0 then pt n k else { pt n k with much := 0 } := by
  unfold probed
  unfold pt
  dsimp only
  rw [getD_app _ _ _ _ (by simpa using h), List.getD_eq_getElem?_getD, List.getElem?_map, List.getElem?_eq_getElem h, getD_get h]
  rfl
theorem pt_probed_end {n : Net} {a b : Nat} : pt (probed n a b) n.parts.length = ⟨2, a, b, 1⟩ := by
  unfold probed pt
  exact getD_app_end _ _ _ _ (by simp)
theorem probed_len (n : Net) (a b : Nat) : (probed n a b).parts.length = n.parts.length + 1 := by simp [probed]
theorem good_probed {n : Net} (G : GoodM n) {a b : Int} (ht : TwoP n a b) : GoodN (probed n a.toNat b.toNat) := by
  have r := G.room
  obtain ⟨⟨a1, a2⟩, ⟨b1, b2⟩, ne⟩ := ht
  refine { lo := G.lo, hi := G.hi, few := by rw [probed_len]; omega, part := fun i hi => ?_ }
  rw [probed_len] at hi
  by_cases q : i < n.parts.length
  · rw [pt_probed q]
    obtain ⟨h1, h2, h3, h4, h5, h6, h7⟩ := G.part i q
    split
    · exact ⟨h1, h2, h3, h4, h5, h6, h7⟩
    · rename_i e
      exact ⟨h1, h2, h3, h4, by show (-1000000 : Int) ≤ 0; omega, by show (0 : Int) ≤ 1000000; omega, fun e' => absurd e' e⟩
  · rw [show i = n.parts.length by omega, pt_probed_end]
    exact ⟨by show 2 ≤ 2; omega, by show a.toNat < n.nodes; omega, by show b.toNat < n.nodes; omega, by show a.toNat ≠ b.toNat; omega, by show (-1000000 : Int) ≤ 1; omega, by show (1 : Int) ≤ 1000000; omega, fun e => by cases e⟩
theorem much_iff (k m : Int) : isMuch k m = true ↔ MuchP k m := by
  unfold isMuch MuchP leastM
  split <;> simp
theorem node_iff (n : Net) (x : Int) : isNode n x = true ↔ NodeP n x := by unfold isNode NodeP; simp
def toI (a : Ans) : List Int := a.value :: nat2 a.numbers
theorem step_eq (s : Option Net) (p : Int) (L : List Int) {c : Call} (h : Rc43Neutral.callOf [p :: L] = some c) : Rc43Neutral.step ⟨s⟩ [p :: L] = ((does ⟨s⟩ c).1, toI (does ⟨s⟩ c).2) := by
  unfold Rc43Neutral.step; rw [h]; rfl
theorem does_part {n : Net} (G : GoodM n) (k a b m : Int) : ((does ⟨some n⟩ (.part k a b m)).1, toI (does ⟨some n⟩ (.part k a b m)).2) = (⟨some (addG n k a b m).1⟩, [(addG n k a b m).2]) := by
  have r := G.room
  show ((if _ then _ else _ : Abs × Ans).1, toI (if _ then _ else _ : Abs × Ans).2) = _
  by_cases q : (0 ≤ k ∧ k < 3) ∧ TwoP n a b ∧ MuchP k m
  · have w : ¬ (k < 0 ∨ 2 < k ∨ (isNode n a && isNode n b) = false ∨ a = b ∨ isMuch k m = false) := by
      obtain ⟨q1, ⟨q2, q3, q4⟩, q5⟩ := q
      rw [(node_iff n a).mpr q2, (node_iff n b).mpr q3, (much_iff k m).mpr q5]
      simp; omega
    rw [if_neg w]
    unfold addG
    rw [if_pos q]
    by_cases e : n.parts.length = 24
    · rw [if_pos (by omega), if_pos e]; rfl
    · rw [if_neg (by omega), if_neg e]; rfl
  · have w : k < 0 ∨ 2 < k ∨ (isNode n a && isNode n b) = false ∨ a = b ∨ isMuch k m = false := by
      apply Classical.byContradiction
      intro no
      refine q ⟨by omega, ⟨(node_iff n a).mp ?_, (node_iff n b).mp ?_, by omega⟩, (much_iff k m).mp ?_⟩
      · cases e : isNode n a
        · exact absurd (by simp [e]) no
        · rfl
      · cases e : isNode n b
        · exact absurd (by simp [e]) no
        · rfl
      · cases e : isMuch k m
        · exact absurd (by simp [e]) no
        · rfl
    rw [if_pos w]
    unfold addG
    rw [if_neg q]; rfl
theorem does_change (n : Net) (k m : Int) : ((does ⟨some n⟩ (.change k m)).1, toI (does ⟨some n⟩ (.change k m)).2) = (⟨some (changeG n k m).1⟩, [(changeG n k m).2]) := by
  show ((if _ then _ else _ : Abs × Ans).1, toI (if _ then _ else _ : Abs × Ans).2) = _
  unfold changeG PartP
  by_cases q : k < 0
  · rw [if_pos q, if_neg (by omega)]; rfl
  · rw [if_neg q]
    by_cases q2 : k.toNat < n.parts.length
    · rw [pt_mem q2]
      show ((if _ then _ else _ : Abs × Ans).1, toI (if _ then _ else _ : Abs × Ans).2) = _
      by_cases w : MuchP (pt n k.toNat).kind m
      · rw [if_neg (by rw [(much_iff _ m).mpr w]; decide), if_pos ⟨by omega, w⟩]; rfl
      · have : isMuch (pt n k.toNat).kind m = false := by
          cases e : isMuch (pt n k.toNat).kind m
          · rfl
          · exact absurd ((much_iff _ m).mp e) w
        rw [if_pos this, if_neg (fun z => w z.2)]; rfl
    · rw [List.getElem?_eq_none (by omega), if_neg (by omega)]; rfl
theorem does_solve {n : Net} (G : GoodM n) : ((does ⟨some n⟩ .solve).1, toI (does ⟨some n⟩ .solve).2) = (⟨some n⟩, [if oneG n = true then 1 else 0]) := by
  show ((⟨some n⟩ : Abs), [if (solved n).isSome = true then (1 : Int) else 0]) = _
  rw [one_iff G.ok fun k hk e => by have := (G.part k hk).2.2.2.2.2.2 e; omega]
theorem does_volts {n : Net} (G : GoodM n) (x : Int) : ((does ⟨some n⟩ (.volts x)).1, toI (does ⟨some n⟩ (.volts x)).2) = (⟨some n⟩, voltsA n x) := by
  show ((⟨some n⟩ : Abs), toI (if _ then _ else _)) = _
  unfold voltsA
  by_cases q : NodeP n x
  · rw [if_neg (by rw [(node_iff n x).mpr q]; decide), if_pos q]
    obtain ⟨q1, q2⟩ := q
    by_cases o : oneG n = true
    · obtain ⟨l, hl, _, h1, _⟩ := volts_told G.toGoodN o
      rw [hl, if_pos o, ← h1 x.toNat (by omega)]; rfl
    · rw [good_none G.toGoodN (by simpa using o), if_neg o]; rfl
  · have : isNode n x = false := by
      cases e : isNode n x
      · rfl
      · exact absurd ((node_iff n x).mp e) q
    rw [if_pos this, if_neg q]; rfl
theorem does_amps {n : Net} (G : GoodM n) (k : Int) : ((does ⟨some n⟩ (.amperes k)).1, toI (does ⟨some n⟩ (.amperes k)).2) = (⟨some n⟩, ampsA n k) := by
  show ((⟨some n⟩ : Abs), toI (if _ then _ else _)) = _
  unfold ampsA
  by_cases q : PartP n k
  · obtain ⟨q1, q2⟩ := q
    rw [if_neg (by omega), if_pos ⟨q1, q2⟩]
    by_cases o : oneG n = true
    · obtain ⟨l, hl, _, _, _, h1, _⟩ := volts_told G.toGoodN o
      rw [hl, if_pos o, ← h1 k.toNat (by omega)]; rfl
    · rw [good_none G.toGoodN (by simpa using o), if_neg o]; rfl
  · rw [if_pos (by unfold PartP at q; omega), if_neg q]; rfl
theorem does_watts {n : Net} (G : GoodM n) (k : Int) : ((does ⟨some n⟩ (.watts k)).1, toI (does ⟨some n⟩ (.watts k)).2) = (⟨some n⟩, wattsA n k) := by
  show ((⟨some n⟩ : Abs), toI (if _ then _ else _)) = _
  unfold wattsA
  by_cases q : PartP n k
  · obtain ⟨q1, q2⟩ := q
    rw [if_neg (by omega), if_pos ⟨q1, q2⟩]
    by_cases o : oneG n = true
    · obtain ⟨l, hl, _, _, _, _, h1⟩ := volts_told G.toGoodN o
      rw [hl, if_pos o, ← h1 k.toNat (by omega)]; rfl
    · rw [good_none G.toGoodN (by simpa using o), if_neg o]; rfl
  · rw [if_pos (by unfold PartP at q; omega), if_neg q]; rfl
theorem does_between {n : Net} (G : GoodM n) (a b : Int) : ((does ⟨some n⟩ (.between a b)).1, toI (does ⟨some n⟩ (.between a b)).2) = (⟨some n⟩, betwA n a b) := by
  show ((⟨some n⟩ : Abs), toI (if _ then _ else _)) = _
  unfold betwA
  by_cases q : TwoP n a b
  · have G' := good_probed G q
    obtain ⟨q1, q2, q3⟩ := q
    rw [if_neg (by rw [(node_iff n a).mpr q1, (node_iff n b).mpr q2]; simp [q3]), if_pos ⟨q1, q2, q3⟩]
    by_cases o : oneG (probed n a.toNat b.toNat) = true
    · obtain ⟨l, hl, _, _, h1, _⟩ := volts_told G' o
      rw [hl, if_pos o, ← h1 a.toNat b.toNat (by show _ < n.nodes; have := q1.1; have := q1.2; omega) (by show _ < n.nodes; have := q2.1; have := q2.2; omega)]; rfl
    · rw [good_none G' (by simpa using o), if_neg o]; rfl
  · have w : (isNode n a && isNode n b) = false ∨ a = b := by
      apply Classical.byContradiction
      intro no
      refine q ⟨(node_iff n a).mp ?_, (node_iff n b).mp ?_, by omega⟩
      · cases e : isNode n a
        · exact absurd (by simp [e]) no
        · rfl
      · cases e : isNode n b
        · exact absurd (by simp [e]) no
        · rfl
    rw [if_pos w, if_neg q]; rfl
/-- how many numbers stand behind a call's own -/
def behindN (p : Int) : Nat := if p = 1 ∨ p = 5 ∨ p = 6 ∨ p = 7 then 1 else if p = 2 then 4 else if p = 3 ∨ p = 8 then 2 else 0
theorem shape_iff {p : Int} {k j : Nat} (h : PyRc43.shape p = some (k, j)) : 0 ≤ p ∧ p ≤ 8 ∧ k = behindN p ∧ j = 0 := by
  unfold PyRc43.shape at h
  unfold behindN
  repeat' split at h
  all_goals first | (injection h with h; injection h with h1 h2; subst h1 h2; simp_all) | cases h
theorem ansG_eq {s : Option Net} (G : GoodO s) {p : Int} (h0 : 0 ≤ p) (h8 : p ≤ 8) {L : List Int} (hL : L.length = behindN p) :
    Rc43Neutral.step ⟨s⟩ [p :: L] = (⟨(ansG s p L).1⟩, (ansG s p L).2) := by
  have cs : p = 0 ∨ p = 1 ∨ p = 2 ∨ p = 3 ∨ p = 4 ∨ p = 5 ∨ p = 6 ∨ p = 7 ∨ p = 8 := by omega
  have l0 : ∀ {L : List Int}, L.length = 0 → L = [] := fun h => List.eq_nil_of_length_eq_zero h
  have l1 : ∀ {L : List Int}, L.length = 1 → ∃ a, L = [a] := fun h => List.length_eq_one_iff.mp h
  have l2 : ∀ {L : List Int}, L.length = 2 → ∃ a b, L = [a, b] := fun {L} h => by
    match L, h with
    | [a, b], _ => exact ⟨a, b, rfl⟩
  have l4 : ∀ {L : List Int}, L.length = 4 → ∃ a b c d, L = [a, b, c, d] := fun {L} h => by
    match L, h with
    | [a, b, c, d], _ => exact ⟨a, b, c, d, rfl⟩
  rcases cs with rfl | rfl | rfl | rfl | rfl | rfl | rfl | rfl | rfl
  · obtain rfl := l0 hL; rfl
  · obtain ⟨x, rfl⟩ := l1 hL
    rw [step_eq s 1 [x] (c := .nodes x) rfl]
    show ((if _ then _ else _ : Abs × Ans).1, toI (if _ then _ else _ : Abs × Ans).2) = ((⟨(layG s x).1⟩ : Abs), [(layG s x).2])
    unfold layG
    by_cases q : 2 ≤ x ∧ x ≤ 12
    · rw [if_neg (by omega), if_pos q]; rfl
    · rw [if_pos (by omega), if_neg q]; rfl
  · obtain ⟨a, b, c, d, rfl⟩ := l4 hL
    cases s with
    | none => rfl
    | some n => rw [step_eq _ 2 [a, b, c, d] (c := .part a b c d) rfl]; exact does_part (G n rfl) a b c d
  · obtain ⟨a, b, rfl⟩ := l2 hL
    cases s with
    | none => rfl
    | some n => rw [step_eq _ 3 [a, b] (c := .change a b) rfl]; exact does_change n a b
  · obtain rfl := l0 hL
    cases s with
    | none => rfl
    | some n => rw [step_eq _ 4 [] (c := .solve) rfl]; exact does_solve (G n rfl)
  · obtain ⟨x, rfl⟩ := l1 hL
    cases s with
    | none => rfl
    | some n => rw [step_eq _ 5 [x] (c := .volts x) rfl]; exact does_volts (G n rfl) x
  · obtain ⟨x, rfl⟩ := l1 hL
    cases s with
    | none => rfl
    | some n => rw [step_eq _ 6 [x] (c := .amperes x) rfl]; exact does_amps (G n rfl) x
  · obtain ⟨x, rfl⟩ := l1 hL
    cases s with
    | none => rfl
    | some n => rw [step_eq _ 7 [x] (c := .watts x) rfl]; exact does_watts (G n rfl) x
  · obtain ⟨a, b, rfl⟩ := l2 hL
    cases s with
    | none => rfl
    | some n => rw [step_eq _ 8 [a, b] (c := .between a b) rfl]; exact does_between (G n rfl) a b
theorem good_next {s : Option Net} (G : GoodO s) (p : Int) (L : List Int) : GoodO (ansG s p L).1 := by
  unfold ansG
  split
  · intro n h; cases h
  · split
    · intro n h
      unfold layG at h
      by_cases q : 2 ≤ L.getD 0 0 ∧ L.getD 0 0 ≤ 12
      · rw [if_pos q] at h; cases h; exact good_new q
      · rw [if_neg q] at h; exact G n h
    · cases s with
      | none => intro n h; cases h
      | some m =>
        intro n h
        have Gm := G m rfl
        have e : n = (inNet m p L).1 := by cases h; rfl
        subst e
        unfold inNet
        split
        · unfold addG
          by_cases q : (0 ≤ L.getD 0 0 ∧ L.getD 0 0 < 3) ∧ TwoP m (L.getD 1 0) (L.getD 2 0) ∧ MuchP (L.getD 0 0) (L.getD 3 0)
          · rw [if_pos q]
            by_cases r : m.parts.length = 24
            · rw [if_pos r]; exact Gm
            · rw [if_neg r]; exact good_add Gm q.1 q.2.1 q.2.2 r
          · rw [if_neg q]; exact Gm
        · split
          · unfold changeG
            by_cases q : PartP m (L.getD 0 0) ∧ MuchP (pt m (L.getD 0 0).toNat).kind (L.getD 1 0)
            · rw [if_pos q]; exact good_chg Gm q.1 q.2
            · rw [if_neg q]; exact Gm
          · split
            · exact Gm
            · split
              · exact Gm
              · split
                · exact Gm
                · split <;> exact Gm
/-! ### The line of calls -/
theorem whole_eq (c : List (List Int)) : PyRc43.whole c = c := by
  unfold PyRc43.whole
  split <;> rfl
theorem wholes_eq (cs : List (List (List Int))) : cs.map PyRc43.whole = cs := by
  rw [show PyRc43.whole = id from funext whole_eq, List.map_id]
/-- one call of a line that is in form -/
theorem calls_step {f : Nat} {p : Int} {r : List Int} {cs : List (List (List Int))} (h : PyFlat.calls PyRc43.shape (f + 1) (p :: r) = some cs) :
    0 ≤ p ∧ p ≤ 8 ∧ behindN p ≤ r.length ∧ ∃ t, PyFlat.calls PyRc43.shape f (r.drop (behindN p)) = some t ∧ cs = [p :: r.take (behindN p)] :: t := by
  unfold PyFlat.calls at h
  split at h
  · cases h
  · rename_i c t e
    rw [PyFlat.call.eq_def] at e
    dsimp only at e
    split at e
    · cases e
    · rename_i k j sh
      obtain ⟨h0, h8, rfl, rfl⟩ := shape_iff sh
      split at e
      · cases e
      · rename_i len
        have e : some ([p :: r.take (behindN p)], r.drop (behindN p)) = some (c, t) := e
        injection e with e
        injection e with e1 e2
        subst e1 e2
        split at h
        · cases h
        · rename_i u hu
          injection h with h
          exact ⟨h0, h8, by omega, u, hu, h.symm⟩
/-- what is answered from a state on -/
def restG (s : Option Net) (f : Nat) (l : List Int) : List Int := match PyFlat.calls PyRc43.shape f l with
  | none => []
  | some cs => PyFlat.told (PyFlat.played Rc43Neutral.step ⟨s⟩ cs)
theorem rest_nil (s : Option Net) (f : Nat) : restG s f [] = [] := by
  unfold restG
  cases f <;> rfl
theorem rest_cons {s : Option Net} (G : GoodO s) {f : Nat} {p : Int} {r : List Int} {cs : List (List (List Int))} (h : PyFlat.calls PyRc43.shape (f + 1) (p :: r) = some cs) :
    restG s (f + 1) (p :: r) = ((ansG s p (r.take (behindN p))).2.length : Int) :: (ansG s p (r.take (behindN p))).2 ++ restG (ansG s p (r.take (behindN p))).1 f (r.drop (behindN p)) := by
  obtain ⟨h0, h8, hl, t, ht, rfl⟩ := calls_step h
  unfold restG
  rw [h, ht]
  have := ansG_eq G h0 h8 (L := r.take (behindN p)) (by rw [List.length_take]; omega)
  simp only [PyFlat.played, PyFlat.told, this, List.flatMap_cons]
theorem answers_rest (l : List Int) (h : PyRc43.answers_asked l = true) : (∃ cs, PyFlat.calls PyRc43.shape l.length l = some cs) ∧ PyRc43.answers l = restG none l.length l := by
  unfold PyRc43.answers_asked PyRc43.calls at h
  cases e : PyFlat.calls PyRc43.shape l.length l with
  | none => rw [e] at h; cases h
  | some cs =>
    refine ⟨⟨cs, rfl⟩, ?_⟩
    unfold PyRc43.answers PyRc43.calls restG
    rw [e]
    simp only [wholes_eq]
    rfl
theorem told_len (p q : Int) : (toldG p q).length = 321 := by simp [toldG, bytesG]
theorem ans_len (s : Option Net) (p : Int) (L : List Int) : 1 ≤ (ansG s p L).2.length ∧ (ansG s p L).2.length ≤ 322 := by
  have one : ∀ x : Int, 1 ≤ [x].length ∧ [x].length ≤ 322 := fun x => ⟨by simp, by simp⟩
  have tl : ∀ p q : Int, 1 ≤ (0 :: toldG p q).length ∧ (0 :: toldG p q).length ≤ 322 := fun p q => by rw [List.length_cons, told_len]; omega
  unfold ansG
  split
  · exact one _
  · split
    · exact one _
    · cases s with
      | none => exact one _
      | some n =>
        show 1 ≤ (inNet n p L).2.length ∧ (inNet n p L).2.length ≤ 322
        unfold inNet
        split
        · exact one _
        split
        · exact one _
        split
        · exact one _
        split
        · unfold voltsA; split
          · split
            · exact tl _ _
            · exact one _
          · exact one _
        split
        · unfold ampsA; split
          · split
            · exact tl _ _
            · exact one _
          · exact one _
        split
        · unfold wattsA; split
          · split
            · exact tl _ _
            · exact one _
          · exact one _
        · unfold betwA; split
          · split
            · exact tl _ _
            · exact one _
          · exact one _
end Rn
set_option Elab.async false
set_option linter.all false
set_option maxRecDepth 100000
set_option maxHeartbeats 2000000
/-! The program by the hand layer: rules of one's own, places of the text, what of the text is used. -/
namespace Rp
open PySem PySem.Spec PyProof.Rows L2 Rn
/-! ### rules -/
theorem ifT {c : Bool} {A B : Prop} (h : c = true) (a : A) : if c = true then A else B := by rw [if_pos h]; exact a
theorem ifN {c : Bool} {A B : Prop} (h : ¬ c = true) (b : B) : if c = true then A else B := by rw [if_neg h]; exact b
def big : Nat := 2 ^ 8000
theorem big_bits {i : Int} (h : i.natAbs ≤ big) : Builtin.Int.intBits i ≤ 2 ^ 20 := by
  unfold Builtin.Int.intBits
  split
  · exact Nat.zero_le _
  · rename_i h0
    have hne : i.natAbs ≠ 0 := by
      intro e
      have : i = 0 := by omega
      rw [this] at h0
      exact h0 rfl
    have : i.natAbs.log2 < 8001 := (Nat.log2_lt hne).mpr (Nat.lt_of_le_of_lt h (by unfold big; exact Nat.pow_lt_pow_right (by decide) (by decide)))
    have e : (2 : Nat) ^ 20 = 1048576 := by decide
    rw [e]; omega
def CMulB (i j : Int) : Prop := i.natAbs ≤ big ∧ j.natAbs ≤ big
def CDivB (_ j : Int) : Prop := j ≠ 0 ∧ j.natAbs ≤ big
theorem CDivB.log {i j : Int} (h : CDivB i j) : j.natAbs.log2 < 9000 := by
  have hne : j.natAbs ≠ 0 := by have := h.1; omega
  exact (Nat.log2_lt hne).mpr (Nat.lt_of_le_of_lt h.2 (by unfold big; exact Nat.pow_lt_pow_right (by decide) (by decide)))
section
variable {X : Cx}
theorem op_mulB : OpR X (binaryOp .Mult) (rI CMulB fun i j => .int (i * j)) := opI fun _ _ _ _ _ _ _ hc q => mul_int q (.of_bits (big_bits hc.1) (big_bits hc.2))
theorem op_fdivB : OpR X (binaryOp .FloorDiv) (rI CDivB fun i j => .int (i.fdiv j)) := opI fun _ _ _ _ _ _ _ hc q => floordiv_int hc.1 q (.inl (PyProof.noPylong_of_log2 hc.log))
/-- range(n) as a value -/
theorem call_rng : CallR X (.type "range") (fun xs H Q => ∃ n : Nat, xs = [.int n] ∧ ∀ p, H p = none → Q (.ref p) (upd H p (.rng 0 n))) := by
  intro pins s σ H xs us Q I r h
  obtain ⟨n, rfl, q⟩ := h
  obtain ⟨u, rfl, ru⟩ := vals1 r
  obtain ⟨t, rfl⟩ := ru
  refine call_range_1 ⟨.ref s.heap.objs.size, _, I.laid (o := .rng 0 n) (fun b ob q => Heap.get?_push_of_some _ q) (Nat.le_refl _) ?_, rfl, q _ (I.hok.fresh (Nat.le_refl _))⟩
  exact ⟨_, _, _, Heap.get?_push_size _ rfl⟩
/-- list(range) -/
theorem call_list_rng : CallR X (.type "list") (fun xs H Q => X.calm = true ∧ ∃ (p : Addr) (n : Nat), xs = [.ref p] ∧ H p = some (.rng 0 n) ∧ n ≤ 1000 ∧ ∀ l, H l = none → Q (.ref l) (upd H l (.lst ((startG n).map V.int)))) := by
  intro pins s σ H xs us Q I r h
  obtain ⟨hc, p, n, rfl, hp, hn, q⟩ := h
  obtain ⟨u, rfl, ru⟩ := vals1 r
  cases ru
  obtain ⟨t, u, v, e⟩ := I.hok p _ hp
  refine call_list_range (n := n) (I.ok.hd hc) e (small_one (by omega) (by omega) (by omega) (by omega)) (by rw [rangeSize_one]; split <;> omega) (Nat.le_trans hn (by decide)) fun h' tk acc c' hk hS hacc => ?_
  refine ⟨.ref s.heap.objs.size, _, I.laid (t' := tk) (o := .lst ((startG n).map V.int)) hk (Nat.le_refl _) ?_, rfl, q _ (I.hok.fresh (Nat.le_refl _))⟩
  obtain ⟨h1, h2⟩ := hacc
  refine ⟨?_, acc.toList, c', ?_, by simpa using hS⟩
  · unfold startG
    rw [List.length_map, List.length_map, List.length_range]
    exact Nat.le_trans hn (by decide)
  · have key : ∀ (ys : List Value) (k : Nat), (∀ i v, ys[i]? = some v → ∃ t, v = Value.int ((k + i : Nat) : Int) t) → Vals (((List.range' k ys.length).map fun (x : Nat) => (x : Int)).map V.int) ys := by
      intro ys
      induction ys with
      | nil => intro k _; exact .nil
      | cons y ys ih =>
        intro k hy
        rw [List.length_cons, List.range'_succ, List.map_cons, List.map_cons]
        refine .cons ?_ (ih (k + 1) fun i v hv => ?_)
        · obtain ⟨t, rfl⟩ := hy 0 y rfl
          exact ⟨t, rfl⟩
        · obtain ⟨t, e⟩ := hy (i + 1) v (by simpa using hv)
          exact ⟨t, by rw [e, show k + (i + 1) = k + 1 + i by omega]⟩
    have h3 := key acc.toList 0 fun i v hv => by
      obtain ⟨t, e⟩ := h2 i v (by simpa using hv)
      exact ⟨t, by rw [e]; congr 1; omega⟩
    unfold startG
    rw [List.range_eq_range']
    rw [show acc.toList.length = n by simpa using h1] at h3
    exact h3
end
/-- an int constant of the module -/
def IntC (mg : Str → Option Value) (x : Str) (i : Int) : Prop := ∃ t, mg x = some (Value.int i t)
/-- a def of the module: its text, its arguments -/
structure FnT (K : PySem.W.Frag) (mg : Str → Option Value) (x : Str) (st : Stmt) (ps : List Str) : Prop where
  ex : ∃ f fd, mg x = some (.ref f) ∧ Fun K x x st f fd ∧ Binds K fd ps []
structure MtT (K : PySem.W.Frag) (C : Addr) (x q : Str) (st : Stmt) (ps : List Str) : Prop where
  ex : ∃ f fd, Meth K C x f ∧ Fun K x q st f fd ∧ Binds K fd ps []
structure IniT (K : PySem.W.Frag) (mg : Str → Option Value) (C : Addr) (c q : Str) (st : Stmt) (ps : List Str) : Prop where
  ex : ∃ f fd, Mk K C f ∧ Fun K "__init__" q st f fd ∧ Binds K fd ps []
  mg : mg c = some (.ref C)
/-- .. with what it promises -/
structure CallOk (P : Program) (w : World) (K : PySem.W.Frag) (mg : Str → Option Value) (base : Heap) (k : Nat) (x : Str) (ps : List Str) (sp : Sp) : Prop where
  ex : ∃ f fd, mg x = some (.ref f) ∧ PySem.W.keepIn K (.ref f) = true ∧ Binds K fd ps [] ∧ FnOk P w K mg base CX0 k f fd ps sp
structure MethOk (P : Program) (w : World) (K : PySem.W.Frag) (mg : Str → Option Value) (base : Heap) (k : Nat) (C : Addr) (x : Str) (ps : List Str) (sp : Sp) : Prop where
  ex : ∃ f fd, Meth K C x f ∧ Binds K fd ps [] ∧ FnOk P w K mg base CX0 k f fd ps sp
structure MakeOk (P : Program) (w : World) (K : PySem.W.Frag) (mg : Str → Option Value) (base : Heap) (k : Nat) (C : Addr) (c : Str) (ps : List Str) (sp : Sp) : Prop where
  ex : ∃ f fd, Mk K C f ∧ Binds K fd ps [] ∧ FnOk P w K mg base CX0 k f fd ps sp
  mg : mg c = some (.ref C)
def tFn (sp : Sp) (t : TA) : TE := fun σ H Q => t σ H fun vs H1 => sp vs H1 Q E0
def tMt (C : Addr) (m : Str) (sp : Sp) (ta : TE) (t : TA) : TE := fun σ H Q => ta σ H fun x H1 => ∃ a dx fs, x = .ref a ∧ H1 a = some (.ins C dx fs) ∧ fs.lookup m = none ∧ t σ H1 fun vs H2 => sp (x :: vs) H2 Q E0
def tMk (C : Addr) (sp : Sp) (t : TA) : TE := fun σ H Q => t σ H fun vs H1 => ∀ x dx, H1 x = none → H1 dx = none → dx ≠ x →
  sp (.ref x :: vs) (upd (upd H1 dx (.own x)) x (.ins C dx [])) (fun v H2 => v = .non ∧ Q (.ref x) H2) E0
theorem tFn_eq (sp : Sp) (t : TA) : tCall sp [] E0 t = tFn sp t := by unfold tCall tFn; simp only [List.append_nil]
theorem tMt_eq (C : Addr) (m : Str) (sp : Sp) (ta : TE) (t : TA) : tMeth C m sp [] E0 ta t = tMt C m sp ta t := by unfold tMeth tMt; simp only [List.append_nil]
theorem tMk_eq (C : Addr) (sp : Sp) (t : TA) : tMake C sp [] E0 t = tMk C sp t := by unfold tMake tMk; simp only [List.append_nil]
section
variable {X : Cx} {j k : Nat} {x m : Str} {ps : List Str} {sp : Sp} {p pos apos : Pos} {e o : Expr} {es : List Expr} {ta : TE} {t : TA} {C : Addr}
theorem pe_cst {i : Int} (h : IntC X.mg x i) (hg : Gl X x := by rfl) (hd : (x == ("__debug__" : Str)) = false := by decide) : PE X (.Name x pos) (tC (.int i)) := by
  obtain ⟨t, ht⟩ := h
  exact pe_glob hg ht ⟨t, rfl⟩ hd
theorem pe_fn (F : CallOk X.prog X.w X.K X.mg X.base k x ps sp) (hr : Room j X.A) (ha : PA X (e :: es) t) (hj : k ≤ j := by decide) (hg : Gl X x := by rfl) (hdb : (x == ("__debug__" : Str)) = false := by decide)
    (he : starEach (e :: es) X.env = (false, eval e X.env) :: starEach es X.env := by rfl) (hpl : (backTo pos (starEach es X.env)).any (·.1) = false := by rfl) : PE X (.Call (.Name x p) (e :: es) [] pos) (tFn sp t) := by
  obtain ⟨f, fd, hm, hk, hb, F⟩ := F.ex
  rw [← tFn_eq]
  exact pe_call F (hr.mono hj) hg hm hk hb .nil pass0 ha hdb he hpl
theorem pe_mt {pl : Sem Bool} (F : MethOk X.prog X.w X.K X.mg X.base k C m ps sp) (c : Cls X.K C) (hr : Room j X.A) (ho : PE X o ta) (ha : PA X (e :: es) t) (hj : k ≤ j := by decide)
    (hst : starEach (e :: es) X.env = (false, eval e X.env) :: starEach es X.env := by rfl) (hpl : (backTo pos (starEach es X.env)).any (·.1) = false := by rfl)
    (ht : eval (.Call (.Attribute o m apos) (e :: es) [] pos) X.env = (do
      let ov ← eval o X.env
      standAt apos.atName
      let (f, first) ← holding [ov] (getMethod ov m pl)
      callWith pos f first (backTo pos (starEach (e :: es) X.env)) (backToKw pos (keywordEach [] X.env))) := by rfl) : PE X (.Call (.Attribute o m apos) (e :: es) [] pos) (tMt C m sp ta t) := by
  obtain ⟨f, fd, hm, hb, F⟩ := F.ex
  rw [← tMt_eq]
  exact pe_meth ho c hm F (hr.mono hj) hb .nil pass0 ha hst hpl ht
theorem pe_mk (F : MakeOk X.prog X.w X.K X.mg X.base k C x ps sp) (hr : Room j X.A) (ha : PA X (e :: es) t) (hj : k + 1 ≤ j := by decide) (hg : Gl X x := by rfl) (hdb : (x == ("__debug__" : Str)) = false := by decide)
    (he : starEach (e :: es) X.env = (false, eval e X.env) :: starEach es X.env := by rfl) (hpl : (backTo pos (starEach es X.env)).any (·.1) = false := by rfl) : PE X (.Call (.Name x p) (e :: es) [] pos) (tMk C sp t) := by
  obtain ⟨f, fd, hm, hb, F'⟩ := F.ex
  rw [← tMk_eq]
  exact pe_make hm F' (hr.mono hj) hg F.mg hb .nil pass0 ha hdb he hpl
theorem pe_mk0 (F : MakeOk X.prog X.w X.K X.mg X.base k C x ps sp) (hr : Room j X.A) (hj : k + 1 ≤ j := by decide) (hg : Gl X x := by rfl) (hdb : (x == ("__debug__" : Str)) = false := by decide) :
    PE X (.Call (.Name x p) [] [] pos) (tMk C sp tNil) := by
  obtain ⟨f, fd, hm, hb, F'⟩ := F.ex
  rw [← tMk_eq]
  exact pe_make0 hm F' (hr.mono hj) hg F.mg hb .nil pass0 hdb
end
section
variable {P : Program} {w : World} {K : PySem.W.Frag} {mg : Str → Option Value} {base : Heap}
theorem FnT.ok {x : Str} {st : Stmt} {N ps : List Str} {k : Nat} {sp : Sp} (T : FnT K mg x st ps) (S : FnScope N ps (defScope st)) (len : ∀ vs H Q E, sp vs H Q E → vs.length = ps.length)
    (hbody : ∀ (f : Addr) (cdv : Value) (A : Around) (outer : List Env) (s : Shared) (H : Hp) (vs : List V) (Q : VK) (E : XK), Room k (A.deeper (envOfC x (defScope st) s.heap.objs.size f cdv)) → sp vs H Q E →
      ∃ t, PSs (cxOf CX0 P w K mg base N x (defScope st) f cdv A outer s H E).nox (defBody st) t ∧ t { nx := fun _ H' => Q .non H', rt := Q } (start N vs) H) : CallOk P w K mg base (k + 1) x ps sp := by
  obtain ⟨f, fd, hm, F, b⟩ := T.ex
  exact ⟨f, fd, hm, F.kp, b, F.ok S len (hbody f)⟩
theorem MtT.ok {C : Addr} {x q : Str} {st : Stmt} {N ps : List Str} {k : Nat} {sp : Sp} (T : MtT K C x q st ps) (S : FnScope N ps (defScope st)) (len : ∀ vs H Q E, sp vs H Q E → vs.length = ps.length)
    (hbody : ∀ (f : Addr) (cdv : Value) (A : Around) (outer : List Env) (s : Shared) (H : Hp) (vs : List V) (Q : VK) (E : XK), Room k (A.deeper (envOfC q (defScope st) s.heap.objs.size f cdv)) → sp vs H Q E →
      ∃ t, PSs (cxOf CX0 P w K mg base N q (defScope st) f cdv A outer s H E).nox (defBody st) t ∧ t { nx := fun _ H' => Q .non H', rt := Q } (start N vs) H) : MethOk P w K mg base (k + 1) C x ps sp := by
  obtain ⟨f, fd, hm, F, b⟩ := T.ex
  exact ⟨f, fd, hm, b, F.ok S len (hbody f)⟩
theorem IniT.ok {C : Addr} {c q : Str} {st : Stmt} {N ps : List Str} {k : Nat} {sp : Sp} (T : IniT K mg C c q st ps) (S : FnScope N ps (defScope st)) (len : ∀ vs H Q E, sp vs H Q E → vs.length = ps.length)
    (hbody : ∀ (f : Addr) (cdv : Value) (A : Around) (outer : List Env) (s : Shared) (H : Hp) (vs : List V) (Q : VK) (E : XK), Room k (A.deeper (envOfC q (defScope st) s.heap.objs.size f cdv)) → sp vs H Q E →
      ∃ t, PSs (cxOf CX0 P w K mg base N q (defScope st) f cdv A outer s H E).nox (defBody st) t ∧ t { nx := fun _ H' => Q .non H', rt := Q } (start N vs) H) : MakeOk P w K mg base (k + 1) C c ps sp := by
  obtain ⟨f, fd, hm, F, b⟩ := T.ex
  exact ⟨⟨f, fd, hm, b, F.ok S len (hbody f)⟩, T.mg⟩
end
/-! ### places of the text -/
def top (i : Nat) : Stmt := PySem.Challenge.pw_resistornets_s01_answers.main.body.getD i (.Pass ⟨0, 0, 0, 0⟩)
abbrev dIsNC : Stmt := top 13
abbrev dIsKind : Stmt := top 14
abbrev dIsMuch : Stmt := top 15
abbrev dPartI : Stmt := inClass (top 16) 0
abbrev dNetI : Stmt := inClass (top 17) 0
abbrev dHasNode : Stmt := inClass (top 17) 1
abbrev dHasPart : Stmt := inClass (top 17) 2
abbrev dHasTwo : Stmt := inClass (top 17) 3
abbrev dAddPart : Stmt := inClass (top 17) 4
abbrev dChange : Stmt := inClass (top 17) 5
abbrev dOfKind : Stmt := top 19
abbrev dJoined : Stmt := top 20
abbrev dOne : Stmt := top 21
abbrev dLead : Stmt := top 23
abbrev dCleared : Stmt := top 24
abbrev dSolved : Stmt := top 25
abbrev dPlaces : Stmt := top 27
abbrev dEmpty : Stmt := top 28
abbrev dGround : Stmt := top 29
abbrev dSource : Stmt := top 30
abbrev dOhms : Stmt := top 31
abbrev dNode : Stmt := top 32
abbrev dRows : Stmt := top 33
abbrev dSolI : Stmt := inClass (top 35) 0
abbrev dSolV : Stmt := inClass (top 35) 1
abbrev dSolB : Stmt := inClass (top 35) 2
abbrev dSolA : Stmt := inClass (top 35) 3
abbrev dSolW : Stmt := inClass (top 35) 4
abbrev dGcd : Stmt := top 38
abbrev dBytes : Stmt := top 39
abbrev dTold : Stmt := top 40
abbrev dVoltsA : Stmt := top 42
abbrev dAmpsA : Stmt := top 43
abbrev dWattsA : Stmt := top 44
abbrev dBetNet : Stmt := top 45
abbrev dBetA : Stmt := top 46
abbrev dLineI : Stmt := inClass (top 57) 0
abbrev dAnswer : Stmt := inClass (top 57) 1
abbrev dLay : Stmt := inClass (top 57) 2
abbrev dInNet : Stmt := inClass (top 57) 3
abbrev dMeasure : Stmt := inClass (top 57) 4
abbrev dAnswers : Stmt := top 58
/-- addresses of the module's objects -/
structure Adr where
  cPart : Addr
  cNet : Addr
  cSol : Addr
  cLine : Addr
  tLM : Addr
  tNB : Addr
/-- what of the text is used -/
structure Txt (K : PySem.W.Frag) (mg : Str → Option Value) (A : Adr) : Prop where
  WN : IntC mg "WRONG_NUMBER" (-1)
  NR : IntC mg "NO_ROOM" (-2)
  NO : IntC mg "NOT_ONE_SOLUTION" (-3)
  NN : IntC mg "NO_NET" (-4)
  RE : IntC mg "RESISTOR" 0
  SV : IntC mg "SOURCE_OF_VOLTS" 1
  SA : IntC mg "SOURCE_OF_AMPERES" 2
  MM : IntC mg "MOST_MUCH" 1000000
  LN : IntC mg "LEAST_NODES" 2
  MN : IntC mg "MOST_NODES" 12
  MP : IntC mg "MOST_PARTS" 24
  BY : IntC mg "BYTES" 160
  BEGIN : IntC mg "BEGIN" 0
  NODES : IntC mg "NODES" 1
  PART : IntC mg "PART" 2
  CHANGE : IntC mg "CHANGE" 3
  SOLVE : IntC mg "SOLVE" 4
  VOLTS : IntC mg "VOLTS" 5
  AMPERES : IntC mg "AMPERES" 6
  WATTS : IntC mg "WATTS" 7
  LM : mg "LEAST_MUCH" = some (.ref A.tLM)
  LMt : ∀ H, SqT K H A.tLM [.int 1, .int (-1000000), .int (-1000000)]
  NB : mg "NUMBERS_BEHIND" = some (.ref A.tNB)
  NBt : ∀ H, SqT K H A.tNB [.int 0, .int 1, .int 4, .int 2, .int 0, .int 1, .int 1, .int 1, .int 2]
  len : mg "len" = none
  range : mg "range" = none
  list : mg "list" = none
  enum : mg "enumerate" = none
  zip : mg "zip" = none
  all : mg "all" = none
  abs : mg "abs" = none
  kPart : Cls K A.cPart
  nKind : NoAttr K A.cPart "kind"
  nA : NoAttr K A.cPart "a"
  nB : NoAttr K A.cPart "b"
  nMuch : NoAttr K A.cPart "much"
  kNet : Cls K A.cNet
  nNC : NoAttr K A.cNet "node_count"
  nParts : NoAttr K A.cNet "parts"
  kSol : Cls K A.cSol
  nNet : NoAttr K A.cSol "net"
  nDivided : NoAttr K A.cSol "divided"
  nDivisor : NoAttr K A.cSol "divisor"
  kLine : Cls K A.cLine
  lNet : NoAttr K A.cLine "net"
  isNC : FnT K mg "is_node_count" dIsNC ["number"]
  isKind : FnT K mg "is_kind" dIsKind ["number"]
  isMuch : FnT K mg "is_much" dIsMuch ["kind", "number"]
  partI : IniT K mg A.cPart "Part" "Part.__init__" dPartI ["self", "kind", "a", "b", "much"]
  netI : IniT K mg A.cNet "Net" "Net.__init__" dNetI ["self", "node_count"]
  hasNode : MtT K A.cNet "has_node" "Net.has_node" dHasNode ["self", "number"]
  hasPart : MtT K A.cNet "has_part" "Net.has_part" dHasPart ["self", "number"]
  hasTwo : MtT K A.cNet "has_two_nodes" "Net.has_two_nodes" dHasTwo ["self", "a", "b"]
  addPart : MtT K A.cNet "add_part" "Net.add_part" dAddPart ["self", "kind", "a", "b", "much"]
  change : MtT K A.cNet "change_part" "Net.change_part" dChange ["self", "number", "much"]
  ofKind : FnT K mg "parts_of_kind" dOfKind ["net", "kind"]
  joined : FnT K mg "joined" dJoined ["groups", "a", "b"]
  one : FnT K mg "has_one_solution" dOne ["net"]
  lead : FnT K mg "with_lead" dLead ["rows", "column"]
  cleared : FnT K mg "cleared" dCleared ["row", "lead", "column", "last"]
  solved : FnT K mg "solved" dSolved ["rows"]
  places : FnT K mg "places_of_amperes" dPlaces ["net"]
  empty : FnT K mg "empty_row" dEmpty ["net", "places"]
  ground : FnT K mg "law_of_ground" dGround ["net", "places"]
  source : FnT K mg "law_of_source" dSource ["net", "places", "number"]
  ohms : FnT K mg "ohms_at" dOhms ["net", "node"]
  node : FnT K mg "law_of_node" dNode ["net", "places", "node"]
  rows : FnT K mg "law_rows" dRows ["net"]
  solI : IniT K mg A.cSol "Solution" "Solution.__init__" dSolI ["self", "net"]
  solV : MtT K A.cSol "volts" "Solution.volts" dSolV ["self", "node"]
  solB : MtT K A.cSol "volts_between" "Solution.volts_between" dSolB ["self", "a", "b"]
  solA : MtT K A.cSol "amperes" "Solution.amperes" dSolA ["self", "number"]
  solW : MtT K A.cSol "watts" "Solution.watts" dSolW ["self", "number"]
  gcd : FnT K mg "greatest_common_divisor" dGcd ["x", "y"]
  bytes : FnT K mg "bytes_of" dBytes ["number"]
  told : FnT K mg "told" dTold ["fraction"]
  voltsA : FnT K mg "volts_answer" dVoltsA ["net", "node"]
  ampsA : FnT K mg "amperes_answer" dAmpsA ["net", "number"]
  wattsA : FnT K mg "watts_answer" dWattsA ["net", "number"]
  betNet : FnT K mg "net_for_between" dBetNet ["net", "a", "b"]
  betA : FnT K mg "between_answer" dBetA ["net", "a", "b"]
  lineI : IniT K mg A.cLine "Line" "Line.__init__" dLineI ["self"]
  answer : MtT K A.cLine "answer" "Line.answer" dAnswer ["self", "call", "numbers"]
  lay : MtT K A.cLine "lay_nodes" "Line.lay_nodes" dLay ["self", "node_count"]
  inNet : MtT K A.cLine "answer_in_net" "Line.answer_in_net" dInNet ["self", "call", "numbers"]
  measure : MtT K A.cLine "measure" "Line.measure" dMeasure ["self", "call", "numbers"]
end Rp
set_option Elab.async false
set_option linter.all false
set_option maxRecDepth 100000
set_option maxHeartbeats 2000000
/-! wiring.py -/
namespace Rp
open PySem PySem.Spec PyProof.Rows L2 Rn
open Rc43 (Net Part)
theorem lk_eq {f : Str} {v : V} {r : List (Str × V)} : List.lookup f ((f, v) :: r) = some v := by simp [List.lookup]
theorem lk_ne {f g : Str} {v : V} {r : List (Str × V)} (h : ¬ f = g) : List.lookup f ((g, v) :: r) = List.lookup f r := by
  have : (f == g) = false := beq_eq_false_iff_ne.mpr h
  simp [List.lookup, this]
theorem pF_ne {f g : Str} {v x : V} {r : List (Str × V)} (h : ¬ g = f) : putF f v ((g, x) :: r) = (g, x) :: putF f v r := by
  show (if g = f then _ else _) = _
  rw [if_neg h]
theorem pF_eq {f : Str} {v x : V} {r : List (Str × V)} : putF f v ((f, x) :: r) = (f, v) :: r := by
  show (if f = f then _ else _) = _
  rw [if_pos rfl]
theorem pF_nil {f : Str} {v : V} : putF f v [] = [(f, v)] := rfl
/-! ### the data -/
def pfI (k a b m : Int) : List (Str × V) := [("kind", .int k), ("a", .int a), ("b", .int b), ("much", .int m)]
theorem pf_new (k a b m : Int) : putF "much" (.int m) (putF "b" (.int b) (putF "a" (.int a) (putF "kind" (.int k) []))) = pfI k a b m := by
  have h1 : putF "a" (.int a) (putF "kind" (.int k) []) = ([("kind", .int k), ("a", .int a)] : List (Str × V)) := by rw [pF_nil, pF_ne (by decide +kernel), pF_nil]
  have h2 : putF "b" (.int b) [("kind", .int k), ("a", .int a)] = ([("kind", .int k), ("a", .int a), ("b", .int b)] : List (Str × V)) := by rw [pF_ne (by decide +kernel), pF_ne (by decide +kernel), pF_nil]
  have h3 : putF "much" (.int m) [("kind", .int k), ("a", .int a), ("b", .int b)] = pfI k a b m := by rw [pF_ne (by decide +kernel), pF_ne (by decide +kernel), pF_ne (by decide +kernel), pF_nil]; rfl
  rw [h1, h2, h3]
theorem putF_len (f : Str) (v : V) : ∀ fs : List (Str × V), (putF f v fs).length ≤ fs.length + 1
  | [] => Nat.le_refl _
  | (g, x) :: r => by
    have := putF_len f v r
    show (if g = f then (g, v) :: r else (g, x) :: putF f v r).length ≤ _
    split <;> simp <;> omega
theorem pl1 {f : Str} {v : V} : (putF f v []).length < 1000 := by show 1 < 1000; decide
theorem pl2 {f g : Str} {v u : V} : (putF g u (putF f v [])).length < 1000 := by have := putF_len g u (putF f v []); have := putF_len f v []; simp at *; omega
theorem pl3 {f g h : Str} {v u x : V} : (putF h x (putF g u (putF f v []))).length < 1000 := by have := putF_len h x (putF g u (putF f v [])); have := putF_len g u (putF f v []); have := putF_len f v []; simp at *; omega
theorem pf_put (k a b m z : Int) : putF "much" (.int z) (pfI k a b m) = pfI k a b z := by
  unfold pfI
  rw [pF_ne (by decide +kernel), pF_ne (by decide +kernel), pF_ne (by decide +kernel), pF_eq]
theorem pf_kind (k a b m : Int) : (pfI k a b m).lookup ("kind" : Str) = some (.int k) := lk_eq
theorem pf_a (k a b m : Int) : (pfI k a b m).lookup ("a" : Str) = some (.int a) := by unfold pfI; rw [lk_ne (by decide +kernel), lk_eq]
theorem pf_b (k a b m : Int) : (pfI k a b m).lookup ("b" : Str) = some (.int b) := by unfold pfI; rw [lk_ne (by decide +kernel), lk_ne (by decide +kernel), lk_eq]
theorem pf_much (k a b m : Int) : (pfI k a b m).lookup ("much" : Str) = some (.int m) := by unfold pfI; rw [lk_ne (by decide +kernel), lk_ne (by decide +kernel), lk_ne (by decide +kernel), lk_eq]
def pf (p : Part) : List (Str × V) := pfI p.kind p.a p.b p.much
def PartAt (A : Adr) (H : Hp) (x : Addr) (p : Part) : Prop := ∃ dx, H x = some (.ins A.cPart dx (pf p))
def nf (n : Nat) (l : Addr) : List (Str × V) := [("node_count", .int n), ("parts", .ref l)]
theorem nf_new (n : Nat) (l : Addr) : putF "parts" (.ref l) (putF "node_count" (.int n) []) = nf n l := by
  rw [pF_nil, pF_ne (by decide +kernel), pF_nil]; rfl
theorem nf_nc (n : Nat) (l : Addr) : (nf n l).lookup ("node_count" : Str) = some (.int n) := lk_eq
theorem nf_parts (n : Nat) (l : Addr) : (nf n l).lookup ("parts" : Str) = some (.ref l) := by unfold nf; rw [lk_ne (by decide +kernel), lk_eq]
theorem nf_no (n : Nat) (l : Addr) {m : Str} (h1 : ¬ m = "node_count") (h2 : ¬ m = "parts") : (nf n l).lookup m = none := by
  unfold nf; rw [lk_ne h1, lk_ne h2]; rfl
/-- the parts ps stand at as -/
structure PartsAt (A : Adr) (H : Hp) (as : List Addr) (ps : List Part) : Prop where
  len : as.length = ps.length
  at_ : ∀ (j : Nat) (x : Addr), as[j]? = some x → PartAt A H x (ps.getD j ⟨0, 0, 0, 0⟩)
/-- a net stands at x, its list of parts at l, these at as -/
structure NetAt (A : Adr) (H : Hp) (x : Addr) (n : Net) (l : Addr) (as : List Addr) : Prop where
  obj : ∃ dx, H x = some (.ins A.cNet dx (nf n.nodes l))
  lst : H l = some (.lst (as.map V.ref))
  nd : as.Nodup
  parts : PartsAt A H as n.parts
theorem PartAt.same {A : Adr} {H H' : Hp} {x : Addr} {p : Part} (h : PartAt A H x p) (s : Same H H') : PartAt A H' x p := let ⟨dx, e⟩ := h; ⟨dx, s _ _ e⟩
theorem PartsAt.same {A : Adr} {H H' : Hp} {as : List Addr} {ps : List Part} (h : PartsAt A H as ps) (s : Same H H') : PartsAt A H' as ps := ⟨h.len, fun j x e => (h.at_ j x e).same s⟩
theorem NetAt.same {A : Adr} {H H' : Hp} {x l : Addr} {n : Net} {as : List Addr} (h : NetAt A H x n l as) (s : Same H H') : NetAt A H' x n l as :=
  ⟨let ⟨dx, e⟩ := h.obj; ⟨dx, s _ _ e⟩, s _ _ h.lst, h.nd, h.parts.same s⟩
theorem same_new {H : Hp} {p : Addr} {o : HO} (h : H p = none) : Same H (upd H p o) := fun b o' e => by rw [upd_ne (ne_of_none e h)]; exact e
theorem NetAt.get {A : Adr} {H : Hp} {x l : Addr} {n : Net} {as : List Addr} (h : NetAt A H x n l as) {k : Nat} (hk : k < n.parts.length) : ∃ c, as[k]? = some c ∧ PartAt A H c (pt n k) := by
  have hk' : k < as.length := by rw [h.parts.len]; exact hk
  exact ⟨as[k], List.getElem?_eq_getElem hk', h.parts.at_ k _ (List.getElem?_eq_getElem hk')⟩
/-! ### promises -/
def spB1 (f : Int → Bool) : Sp := fun vs H Q _ => ∃ x : Int, vs = [.int x] ∧ Q (.bl (f x)) H
def spIsMuch : Sp := fun vs H Q _ => ∃ (k m : Int), vs = [.int k, .int m] ∧ 0 ≤ k ∧ k < 3 ∧ Q (.bl (decide (MuchP k m))) H
def spPartI (A : Adr) : Sp := fun vs H Q _ => ∃ (p dx : Addr) (k a b m : Int), vs = [.ref p, .int k, .int a, .int b, .int m] ∧ H p = some (.ins A.cPart dx []) ∧ Q .non (upd H p (.ins A.cPart dx (pfI k a b m)))
def spNetI (A : Adr) : Sp := fun vs H Q _ => ∃ (p dx : Addr) (n : Nat), vs = [.ref p, .int n] ∧ H p = some (.ins A.cNet dx []) ∧ ∀ l, H l = none → Q .non (upd (upd H l (.lst [])) p (.ins A.cNet dx (nf n l)))
def spHasNode (A : Adr) : Sp := fun vs H Q _ => ∃ (x : Addr) (n : Net) (l : Addr) (as : List Addr) (z : Int), vs = [.ref x, .int z] ∧ NetAt A H x n l as ∧ Q (.bl (decide (NodeP n z))) H
def spHasPart (A : Adr) : Sp := fun vs H Q _ => ∃ (x : Addr) (n : Net) (l : Addr) (as : List Addr) (z : Int), vs = [.ref x, .int z] ∧ NetAt A H x n l as ∧ Q (.bl (decide (PartP n z))) H
def spHasTwo (A : Adr) : Sp := fun vs H Q _ => ∃ (x : Addr) (n : Net) (l : Addr) (as : List Addr) (a b : Int), vs = [.ref x, .int a, .int b] ∧ NetAt A H x n l as ∧ Q (.bl (decide (TwoP n a b))) H
/-- what a change of the net at x leaves as it was -/
def KeepN (H H' : Hp) (l : Addr) (as : List Addr) : Prop := ∀ b o, H b = some o → b ≠ l → b ∉ as → H' b = some o
def spAdd (A : Adr) : Sp := fun vs H Q _ => ∃ (x : Addr) (n : Net) (l : Addr) (as : List Addr) (k a b m : Int), vs = [.ref x, .int k, .int a, .int b, .int m] ∧ NetAt A H x n l as ∧ GoodM n ∧
  ∀ (H' : Hp) (as' : List Addr), NetAt A H' x (addG n k a b m).1 l as' → KeepN H H' l as → (∀ c ∈ as', c ∈ as ∨ H c = none) → Q (.int (addG n k a b m).2) H'
def spChange (A : Adr) : Sp := fun vs H Q _ => ∃ (x : Addr) (n : Net) (l : Addr) (as : List Addr) (k m : Int), vs = [.ref x, .int k, .int m] ∧ NetAt A H x n l as ∧ GoodM n ∧
  ∀ (H' : Hp), NetAt A H' x (changeG n k m).1 l as → KeepN H H' l as → Q (.int (changeG n k m).2) H'
section
variable {P : Program} {w : World} {K : PySem.W.Frag} {mg : Str → Option Value} {base : Heap} {A : Adr}
theorem sc_isNC : FnScope ["number"] ["number"] (defScope dIsNC) := ⟨rfl, rfl, rfl, by decide +kernel, rfl, by decide +kernel, by decide +kernel⟩
theorem ok_isNC (T : Txt K mg A) : CallOk P w K mg base 1 "is_node_count" ["number"] (spB1 fun x => decide (2 ≤ x ∧ x ≤ 12)) := by
  refine T.isNC.ok sc_isNC (fun vs H Q E h => ?_) (fun f cdv Ar outer s H vs Q E hr h => ?_)
  · obtain ⟨x, rfl, _⟩ := h
    rfl
  · obtain ⟨x, rfl, q⟩ := h
    have q : Q (.bl (decide (2 ≤ x ∧ x ≤ 12))) H := q
    refine ⟨_, pss_one (ps_ret (pe_chain op_le op_le (pe_cst T.LN) (pv 0) (pe_cst T.MN))), ?_⟩
    refine ⟨_, rfl, _, _, rfl, rfl, _, rfl, ite2 (fun hc => ⟨_, _, rfl, rfl, ?_⟩) fun hc => ?_⟩
    · have hc := of_decide_eq_true hc
      rw [show decide (2 ≤ x ∧ x ≤ 12) = decide (x ≤ 12) by simp [hc]] at q
      exact q
    · have hc : ¬ 2 ≤ x := fun z => hc (decide_eq_true z)
      rw [show decide (2 ≤ x ∧ x ≤ 12) = false by simp [hc]] at q
      exact q
theorem sc_isKind : FnScope ["number"] ["number"] (defScope dIsKind) := ⟨rfl, rfl, rfl, by decide +kernel, rfl, by decide +kernel, by decide +kernel⟩
theorem ok_isKind (T : Txt K mg A) : CallOk P w K mg base 1 "is_kind" ["number"] (spB1 fun x => decide (0 ≤ x ∧ x < 3)) := by
  refine T.isKind.ok sc_isKind (fun vs H Q E h => ?_) (fun f cdv Ar outer s H vs Q E hr h => ?_)
  · obtain ⟨x, rfl, _⟩ := h
    rfl
  · obtain ⟨x, rfl, q⟩ := h
    have q : Q (.bl (decide (0 ≤ x ∧ x < 3))) H := q
    refine ⟨_, pss_one (ps_ret (pe_chain op_le op_lt pe_int (pv 0) (pe_callB call_len_seq (by rfl) T.len PySem.boot_len (pa_cons (pe_glob (v := .ref A.tLM) (by rfl) T.LM rfl) pa_nil)))), ?_⟩
    refine ⟨_, rfl, _, _, rfl, rfl, _, rfl, ite2 (fun hc => ⟨_, _, rfl, .inr (T.LMt H), _, _, rfl, rfl, ?_⟩) fun hc => ?_⟩
    · have hc := of_decide_eq_true hc
      rw [show decide (0 ≤ x ∧ x < 3) = decide (x < 3) by simp [hc]] at q
      exact q
    · have hc : ¬ 0 ≤ x := fun z => hc (decide_eq_true z)
      rw [show decide (0 ≤ x ∧ x < 3) = false by simp [hc]] at q
      exact q
theorem sc_isMuch : FnScope ["kind", "number"] ["kind", "number"] (defScope dIsMuch) := ⟨rfl, rfl, rfl, by decide +kernel, rfl, by decide +kernel, by decide +kernel⟩
theorem least_at {k : Int} (h0 : 0 ≤ k) (h3 : k < 3) : atI ([.int 1, .int (-1000000), .int (-1000000)] : List V) k = some (.int (leastM k)) := by
  have cs : k = 0 ∨ k = 1 ∨ k = 2 := by omega
  rcases cs with rfl | rfl | rfl <;> rfl
theorem ok_isMuch (T : Txt K mg A) : CallOk P w K mg base 1 "is_much" ["kind", "number"] spIsMuch := by
  refine T.isMuch.ok sc_isMuch (fun vs H Q E h => ?_) (fun f cdv Ar outer s H vs Q E hr h => ?_)
  · obtain ⟨k, m, rfl, _⟩ := h
    rfl
  · obtain ⟨k, m, rfl, h0, h3, q⟩ := h
    refine ⟨_, pss_one (ps_ret (pe_chain op_le op_le (pe_ix ix_tup (pe_glob (v := .ref A.tLM) (by rfl) T.LM rfl) (pv 0) (fun _ _ => rfl)) (pv 1) (pe_cst T.MM))), ?_⟩
    refine ⟨_, rfl, _, _, _, _, rfl, rfl, T.LMt H, least_at h0 h3, _, rfl, _, _, rfl, rfl, _, rfl, ite2 (fun hc => ⟨_, _, rfl, rfl, ?_⟩) fun hc => ?_⟩
    · have hc := of_decide_eq_true hc
      rw [show decide (MuchP k m) = decide (m ≤ 1000000) by simp [MuchP, hc]] at q
      exact q
    · have hc : ¬ leastM k ≤ m := fun z => hc (decide_eq_true z)
      rw [show decide (MuchP k m) = false by simp [MuchP, hc]] at q
      exact q
theorem sc_partI : FnScope ["self", "kind", "a", "b", "much"] ["self", "kind", "a", "b", "much"] (defScope dPartI) := ⟨rfl, rfl, rfl, by decide +kernel, rfl, by decide +kernel, by decide +kernel⟩
theorem ok_partI (T : Txt K mg A) : MakeOk P w K mg base 1 A.cPart "Part" ["self", "kind", "a", "b", "much"] (spPartI A) := by
  refine T.partI.ok sc_partI (fun vs H Q E h => ?_) (fun f cdv Ar outer s H vs Q E hr h => ?_)
  · obtain ⟨p, dx, k, a, b, m, rfl, _⟩ := h
    rfl
  · obtain ⟨p, dx, k, a, b, m, rfl, hp, q⟩ := h
    refine ⟨_, pss_cons (ps_fld (pv 0) (pv 1) rfl) (pss_cons (ps_fld (pv 0) (pv 2) rfl) (pss_cons (ps_fld (pv 0) (pv 3) rfl) (pss_one (ps_fld (pv 0) (pv 4) rfl)))), ?_⟩
    refine ⟨_, rfl, _, rfl, p, _, dx, _, rfl, hp, T.kPart, T.nKind, (by decide), ?_⟩
    refine ⟨_, rfl, _, rfl, p, _, dx, _, rfl, upd_same, T.kPart, T.nA, pl1, ?_⟩
    refine ⟨_, rfl, _, rfl, p, _, dx, _, rfl, upd_same, T.kPart, T.nB, pl2, ?_⟩
    refine ⟨_, rfl, _, rfl, p, _, dx, _, rfl, upd_same, T.kPart, T.nMuch, pl3, ?_⟩
    show Q .non (upd (upd (upd (upd H p _) p _) p _) p _)
    rw [upd_upd, upd_upd, upd_upd, pf_new]
    exact q
theorem sc_netI : FnScope ["self", "node_count"] ["self", "node_count"] (defScope dNetI) := ⟨rfl, rfl, rfl, by decide +kernel, rfl, by decide +kernel, by decide +kernel⟩
theorem ok_netI (T : Txt K mg A) : MakeOk P w K mg base 1 A.cNet "Net" ["self", "node_count"] (spNetI A) := by
  refine T.netI.ok sc_netI (fun vs H Q E h => ?_) (fun f cdv Ar outer s H vs Q E hr h => ?_)
  · obtain ⟨p, dx, n, rfl, _⟩ := h
    rfl
  · obtain ⟨p, dx, n, rfl, hp, q⟩ := h
    refine ⟨_, pss_cons (ps_fld (pv 0) (pv 1) rfl) (pss_one (ps_fld (pv 0) (pe_lst pa_nil) rfl)), ?_⟩
    refine ⟨_, rfl, _, rfl, p, _, dx, _, rfl, hp, T.kNet, T.nNC, (by decide), ?_⟩
    refine ⟨Nat.zero_le _, fun l hl => ?_⟩
    have npl : p ≠ l := ne_of_none upd_same hl
    refine ⟨_, rfl, p, _, dx, _, rfl, (by rw [upd_ne npl, upd_same]), T.kNet, T.nParts, pl1, ?_⟩
    have hl' : H l = none := by rw [upd_ne (Ne.symm npl)] at hl; exact hl
    have e : upd (upd (upd H p (.ins A.cNet dx (putF "node_count" (.int n) []))) l (.lst [])) p (.ins A.cNet dx (putF "parts" (.ref l) (putF "node_count" (.int n) []))) = upd (upd H l (.lst [])) p (.ins A.cNet dx (nf n l)) := by
      rw [nf_new]
      funext b
      unfold upd
      by_cases e1 : b = p
      · rw [if_pos e1, if_pos e1]
      · rw [if_neg e1, if_neg e1, if_neg e1]
    show Q .non _
    rw [e]
    exact q l hl'
theorem sc_hasNode : FnScope ["self", "number"] ["self", "number"] (defScope dHasNode) := ⟨rfl, rfl, rfl, by decide +kernel, rfl, by decide +kernel, by decide +kernel⟩
theorem ok_hasNode (T : Txt K mg A) : MethOk P w K mg base 1 A.cNet "has_node" ["self", "number"] (spHasNode A) := by
  refine T.hasNode.ok sc_hasNode (fun vs H Q E h => ?_) (fun f cdv Ar outer s H vs Q E hr h => ?_)
  · obtain ⟨x, n, l, as, z, rfl, _⟩ := h
    rfl
  · obtain ⟨x, n, l, as, z, rfl, N, q⟩ := h
    obtain ⟨dx, hx⟩ := N.obj
    refine ⟨_, pss_one (ps_ret (pe_chain op_le op_lt pe_int (pv 1) (pe_fld (pv 0) rfl))), ?_⟩
    refine ⟨_, rfl, _, _, rfl, rfl, _, rfl, ite2 (fun hc => ⟨_, rfl, x, _, dx, _, _, rfl, hx, T.kNet, T.nNC, nf_nc _ _, _, _, rfl, rfl, ?_⟩) fun hc => ?_⟩
    · have hc := of_decide_eq_true hc
      rw [show decide (NodeP n z) = decide (z < (n.nodes : Int)) by simp [NodeP, hc]] at q
      exact q
    · have hc : ¬ 0 ≤ z := fun h => hc (decide_eq_true h)
      rw [show decide (NodeP n z) = false by simp [NodeP, hc]] at q
      exact q
theorem sc_hasPart : FnScope ["self", "number"] ["self", "number"] (defScope dHasPart) := ⟨rfl, rfl, rfl, by decide +kernel, rfl, by decide +kernel, by decide +kernel⟩
theorem NetAt.plen {H : Hp} {x l : Addr} {n : Net} {as : List Addr} (N : NetAt A H x n l as) : ((as.map V.ref).length : Int) = (n.parts.length : Int) := by rw [List.length_map, N.parts.len]
theorem ok_hasPart (T : Txt K mg A) : MethOk P w K mg base 1 A.cNet "has_part" ["self", "number"] (spHasPart A) := by
  refine T.hasPart.ok sc_hasPart (fun vs H Q E h => ?_) (fun f cdv Ar outer s H vs Q E hr h => ?_)
  · obtain ⟨x, n, l, as, z, rfl, _⟩ := h
    rfl
  · obtain ⟨x, n, l, as, z, rfl, N, q⟩ := h
    obtain ⟨dx, hx⟩ := N.obj
    refine ⟨_, pss_one (ps_ret (pe_chain op_le op_lt pe_int (pv 1) (pe_callB call_len_seq (by rfl) T.len PySem.boot_len (pa_cons (pe_fld (pv 0) rfl) pa_nil)))), ?_⟩
    refine ⟨_, rfl, _, _, rfl, rfl, _, rfl, ite2 (fun hc => ⟨_, rfl, x, _, dx, _, _, rfl, hx, T.kNet, T.nParts, nf_parts _ _, l, _, rfl, .inl (SqL.of N.lst), _, _, rfl, rfl, ?_⟩) fun hc => ?_⟩
    · have hc := of_decide_eq_true hc
      rw [N.plen]
      rw [show decide (PartP n z) = decide (z < (n.parts.length : Int)) by simp [PartP, hc]] at q
      exact q
    · have hc : ¬ 0 ≤ z := fun h => hc (decide_eq_true h)
      rw [show decide (PartP n z) = false by simp [PartP, hc]] at q
      exact q
theorem sc_hasTwo : FnScope ["self", "a", "b"] ["self", "a", "b"] (defScope dHasTwo) := ⟨rfl, rfl, rfl, by decide +kernel, rfl, by decide +kernel, by decide +kernel⟩
theorem ok_hasTwo (T : Txt K mg A) : MethOk P w K mg base 2 A.cNet "has_two_nodes" ["self", "a", "b"] (spHasTwo A) := by
  have G : MethOk P w K mg base 1 A.cNet "has_node" ["self", "number"] (spHasNode A) := ok_hasNode T
  refine T.hasTwo.ok sc_hasTwo (fun vs H Q E h => ?_) (fun f cdv Ar outer s H vs Q E hr h => ?_)
  · obtain ⟨x, n, l, as, a, b, rfl, _⟩ := h
    rfl
  · obtain ⟨x, n, l, as, a, b, rfl, N, q⟩ := h
    obtain ⟨dx, hx⟩ := N.obj
    refine ⟨_, pss_one (ps_ret (pe_and (pe_mt G T.kNet hr (pv 0) (pa_cons (pv 1) pa_nil)) (pe_and (pe_mt G T.kNet hr (pv 0) (pa_cons (pv 2) pa_nil)) (pe_one (pe_cmpR op_ne (pv 1) (pv 2) (nomark _)))))), ?_⟩
    refine ⟨_, rfl, x, dx, _, rfl, hx, nf_no _ _ (by decide +kernel) (by decide +kernel), _, rfl, x, n, l, as, a, rfl, N, _, rfl, ?_⟩
    by_cases h1 : NodeP n a
    · rw [if_pos (decide_eq_true h1)]
      refine ⟨_, rfl, x, dx, _, rfl, hx, nf_no _ _ (by decide +kernel) (by decide +kernel), _, rfl, x, n, l, as, b, rfl, N, _, rfl, ?_⟩
      by_cases h2 : NodeP n b
      · rw [if_pos (decide_eq_true h2)]
        refine ⟨_, rfl, _, rfl, rfl, ?_⟩
        rw [show decide (TwoP n a b) = !decide (a = b) by simp [TwoP, h1, h2]] at q
        have e : (decide (V.int a = V.int b)) = decide (a = b) := by simp
        show Q (.bl (!decide (V.int a = V.int b))) H
        rw [e]
        exact q
      · rw [if_neg (fun z => h2 (of_decide_eq_true z))]
        rw [show decide (TwoP n a b) = false by simp [TwoP, h2]] at q
        exact q
    · rw [if_neg (fun z => h1 (of_decide_eq_true z))]
      rw [show decide (TwoP n a b) = false by simp [TwoP, h1]] at q
      exact q
end
end Rp
set_option Elab.async false
set_option linter.all false
set_option maxRecDepth 100000
set_option maxHeartbeats 2000000
/-! wiring.py: add_part, change_part -/
namespace Rp
open PySem PySem.Spec PyProof.Rows L2 Rn
open Rc43 (Net Part)
section
variable {P : Program} {w : World} {K : PySem.W.Frag} {mg : Str → Option Value} {base : Heap} {A : Adr}
theorem ge_get {α : Type} {l : List α} {i : Nat} {d x : α} (h : l[i]? = some x) : l.getD i d = x := by rw [List.getD_eq_getElem?_getD, h]; rfl
theorem KeepN.of_same {H H' : Hp} {l : Addr} {as : List Addr} (s : Same H H') : KeepN H H' l as := fun b o e _ _ => s b o e
theorem sc_add : FnScope ["self", "kind", "a", "b", "much"] ["self", "kind", "a", "b", "much"] (defScope dAddPart) := ⟨rfl, rfl, rfl, by decide +kernel, rfl, by decide +kernel, by decide +kernel⟩
theorem ok_add (T : Txt K mg A) : MethOk P w K mg base 3 A.cNet "add_part" ["self", "kind", "a", "b", "much"] (spAdd A) := by
  have G1 : CallOk P w K mg base 1 "is_kind" ["number"] (spB1 fun x => decide (0 ≤ x ∧ x < 3)) := ok_isKind T
  have G2 : MethOk P w K mg base 2 A.cNet "has_two_nodes" ["self", "a", "b"] (spHasTwo A) := ok_hasTwo T
  have G3 : CallOk P w K mg base 1 "is_much" ["kind", "number"] spIsMuch := ok_isMuch T
  have G4 : MakeOk P w K mg base 1 A.cPart "Part" ["self", "kind", "a", "b", "much"] (spPartI A) := ok_partI T
  refine T.addPart.ok sc_add (fun vs H Q E h => ?_) (fun f cdv Ar outer s H vs Q E hr h => ?_)
  · obtain ⟨x, n, l, as, k, a, b, m, rfl, _⟩ := h
    rfl
  · obtain ⟨x, n, l, as, k, a, b, m, rfl, N, G, q⟩ := h
    obtain ⟨dx, hx⟩ := N.obj
    refine ⟨_, pss_cons (ps_if (pw_or (pt_not (pt_val (pe_fn G1 hr (pa_cons (pv 1) pa_nil)))) (pw_or (pt_not (pt_val (pe_mt G2 T.kNet hr (pv 0) (pa_cons (pv 2) (pa_cons (pv 3) pa_nil))))) (pw_or1 (pt_not (pt_val (pe_fn G3 hr (pa_cons (pv 1) (pa_cons (pv 4) pa_nil)))))))).pt
          (pss_one (ps_ret (pe_cst T.WN))) pss_nil)
      (pss_cons (ps_if (pt_cmpR op_eq (pe_callB call_len_seq (by rfl) T.len PySem.boot_len (pa_cons (pe_fld (pv 0) rfl) pa_nil)) (pe_cst T.MP) (nomark _)) (pss_one (ps_ret (pe_cst T.NR))) pss_nil)
      (pss_cons (ps_expr (pe_bm PySem.F.plainAttrs_list PySem.F.slot_list_append PySem.F.type_list_append mt_append (pe_fld (pv 0) rfl) (pa_cons (pe_mk G4 hr (pa_cons (pv 1) (pa_cons (pv 2) (pa_cons (pv 3) (pa_cons (pv 4) pa_nil))))) pa_nil)))
      (pss_one (ps_ret (pe_op op_sub (pe_callB call_len_seq (by rfl) T.len PySem.boot_len (pa_cons (pe_fld (pv 0) rfl) pa_nil)) pe_int))))), ?_⟩
    have wrong : ¬ ((0 ≤ k ∧ k < 3) ∧ TwoP n a b ∧ MuchP k m) → Q (.int (-1)) H := fun no => by
      have q' := q H as
      rw [show addG n k a b m = (n, -1) by unfold addG; rw [if_neg no]] at q'
      exact q' N (.of_same (Same.refl H)) fun c hc => .inl hc
    refine ⟨_, rfl, k, rfl, _, rfl, ?_⟩
    by_cases h1 : 0 ≤ k ∧ k < 3
    · refine ifN (by simp [h1]) ?_
      refine ⟨_, rfl, x, dx, _, rfl, hx, nf_no _ _ (by decide +kernel) (by decide +kernel), _, rfl, _, rfl, x, n, l, as, a, b, rfl, N, _, rfl, ?_⟩
      by_cases h2 : TwoP n a b
      · refine ifN (by simp [h2]) ?_
        refine ⟨_, rfl, _, rfl, k, m, rfl, h1.1, h1.2, _, rfl, ?_⟩
        by_cases h3 : MuchP k m
        · refine ifN (by simp [h3]) ?_
          -- room?
          refine ⟨_, rfl, x, _, dx, _, _, rfl, hx, T.kNet, T.nParts, nf_parts _ _, l, _, rfl, .inl (SqL.of N.lst), rfl, _, rfl, ?_⟩
          rw [N.plen]
          by_cases h4 : n.parts.length = 24
          · refine ifT (by rw [h4]; rfl) ?_
            have q' := q H as
            rw [show addG n k a b m = (n, -2) by unfold addG; rw [if_pos ⟨h1, h2, h3⟩, if_pos h4]] at q'
            exact q' N (.of_same (Same.refl H)) fun c hc => .inl hc
          · refine ifN (by intro z; have z := of_decide_eq_true z; injection z with z; omega) ?_
            refine ⟨_, rfl, x, _, dx, _, _, rfl, hx, T.kNet, T.nParts, nf_parts _ _, .inl ⟨rfl, _, SqL.of N.lst⟩, ?_⟩
            refine ⟨_, rfl, _, rfl, _, rfl, _, rfl, fun y dy ny ndy ne => ⟨y, dy, k, a, b, m, rfl, upd_same, rfl, ?_⟩⟩
            have hly : l ≠ y := ne_of_none N.lst ny
            have hld : l ≠ dy := ne_of_none N.lst ndy
            have hxy : x ≠ y := ne_of_none hx ny
            have hxd : x ≠ dy := ne_of_none hx ndy
            have hxl : x ≠ l := ne_of hx N.lst (by intro z; cases z)
            have e1 : (upd (upd (upd H dy (.own y)) y (.ins A.cPart dy [])) y (.ins A.cPart dy (pfI k a b m))) l = some (.lst (as.map V.ref)) := by rw [upd_ne hly, upd_ne hly, upd_ne hld]; exact N.lst
            have room := G.room
            refine ⟨l, _, _, rfl, rfl, e1, (by rw [List.length_map, N.parts.len]; exact Nat.lt_of_le_of_lt room (by decide)), ?_⟩
            generalize hH1 : upd (upd (upd H dy (.own y)) y (.ins A.cPart dy [])) y (.ins A.cPart dy (pfI k a b m)) = H1 at e1
            have k1 : ∀ c o, H c = some o → H1 c = some o := fun c o e => by
              rw [← hH1, upd_ne (ne_of_none e ny), upd_ne (ne_of_none e ny), upd_ne (ne_of_none e ndy)]; exact e
            have hy1 : H1 y = some (.ins A.cPart dy (pfI k a b m)) := by rw [← hH1, upd_same]
            have hyl : y ≠ l := Ne.symm hly
            have hx2 : (upd H1 l (.lst (as.map V.ref ++ [V.ref y]))) x = some (.ins A.cNet dx (nf n.nodes l)) := by rw [upd_ne hxl]; exact k1 _ _ hx
            refine ⟨_, rfl, x, _, dx, _, _, rfl, hx2, T.kNet, T.nParts, nf_parts _ _, l, _, rfl, .inl (SqL.of upd_same), _, _, rfl, rfl, ?_⟩
            have q' := q (upd H1 l (.lst (as.map V.ref ++ [V.ref y]))) (as ++ [y])
            have ea : addG n k a b m = (addN n k a b m, (n.parts.length : Int)) := by unfold addG; rw [if_pos ⟨h1, h2, h3⟩, if_neg h4]
            rw [ea] at q'
            have el : (((as.map V.ref ++ [V.ref y]).length : Nat) : Int) - 1 = (n.parts.length : Int) := by
              rw [List.length_append, List.length_map, N.parts.len, List.length_singleton]; omega
            show Q (V.int ((((as.map V.ref ++ [V.ref y]).length : Nat) : Int) - 1)) _
            rw [el]
            refine q' ⟨⟨dx, hx2⟩, by rw [upd_same, List.map_append]; rfl, ?_, ?_, ?_⟩ ?_ ?_
            · refine nd_snoc N.nd fun hm => ?_
              obtain ⟨j, hj⟩ := List.getElem?_of_mem hm
              obtain ⟨d, e⟩ := N.parts.at_ j y hj
              rw [ny] at e; cases e
            · show (as ++ [y]).length = (n.parts ++ [_]).length
              rw [List.length_append, List.length_append, N.parts.len]; rfl
            · intro j c hj
              show PartAt A _ c ((n.parts ++ [_]).getD j _)
              by_cases hjn : j < as.length
              · rw [List.getElem?_append_left hjn] at hj
                rw [getD_app _ _ _ _ (by rw [← N.parts.len]; exact hjn)]
                obtain ⟨d, e⟩ := N.parts.at_ j c hj
                exact ⟨d, by rw [upd_ne (ne_of e N.lst (by intro z; cases z))]; exact k1 _ _ e⟩
              · have hj2 : j < (as ++ [y]).length := (List.getElem?_eq_some_iff.mp hj).1
                have ej : j = as.length := by rw [List.length_append, List.length_singleton] at hj2; omega
                subst ej
                rw [List.getElem?_append_right (Nat.le_refl _), Nat.sub_self] at hj
                have ec : y = c := Option.some.inj hj
                subst ec
                rw [getD_app_end _ _ _ _ N.parts.len]
                refine ⟨dy, ?_⟩
                rw [upd_ne hyl, hy1]
                have e3 : ((k.toNat : Nat) : Int) = k := Int.toNat_of_nonneg h1.1
                have e4 : ((a.toNat : Nat) : Int) = a := Int.toNat_of_nonneg h2.1.1
                have e5 : ((b.toNat : Nat) : Int) = b := Int.toNat_of_nonneg h2.2.1.1
                show some (HO.ins A.cPart dy (pfI k a b m)) = some (HO.ins A.cPart dy (pfI ((k.toNat : Nat) : Int) ((a.toNat : Nat) : Int) ((b.toNat : Nat) : Int) m))
                rw [e3, e4, e5]
            · intro c o e hc _
              rw [upd_ne hc]; exact k1 c o e
            · intro c hc
              rcases List.mem_append.mp hc with z | z
              · exact .inl z
              · rw [List.mem_singleton.mp z]; exact .inr ny
        · refine ifT (by simp [h3]) ?_
          exact wrong fun z => h3 z.2.2
      · refine ifT (by simp [h2]) ?_
        exact wrong fun z => h2 z.2.1
    · refine ifT (by simp [h1]) ?_
      exact wrong fun z => h1 z.1
theorem sc_change : FnScope ["self", "number", "much", "part"] ["self", "number", "much"] (defScope dChange) := ⟨rfl, rfl, rfl, by decide +kernel, rfl, by decide +kernel, by decide +kernel⟩
theorem ok_change (T : Txt K mg A) : MethOk P w K mg base 2 A.cNet "change_part" ["self", "number", "much"] (spChange A) := by
  have G1 : MethOk P w K mg base 1 A.cNet "has_part" ["self", "number"] (spHasPart A) := ok_hasPart T
  have G3 : CallOk P w K mg base 1 "is_much" ["kind", "number"] spIsMuch := ok_isMuch T
  refine T.change.ok sc_change (fun vs H Q E h => ?_) (fun f cdv Ar outer s H vs Q E hr h => ?_)
  · obtain ⟨x, n, l, as, k, m, rfl, _⟩ := h
    rfl
  · obtain ⟨x, n, l, as, k, m, rfl, N, G, q⟩ := h
    obtain ⟨dx, hx⟩ := N.obj
    refine ⟨_, pss_cons (ps_if (pw_or (pt_not (pt_val (pe_mt G1 T.kNet hr (pv 0) (pa_cons (pv 1) pa_nil)))) (pw_or1 (pt_not (pt_val (pe_fn G3 hr (pa_cons (pe_fld (pe_ix ix_list (pe_fld (pv 0) rfl) (pv 1) (fun _ _ => rfl)) rfl) (pa_cons (pv 2) pa_nil))))))).pt
          (pss_one (ps_ret (pe_cst T.WN))) pss_nil)
      (pss_cons (ps_set (i := 3) sc_change.nd rfl (Or.inl rfl) (pe_ix ix_list (pe_fld (pv 0) rfl) (pv 1) (fun _ _ => rfl)))
      (pss_cons (ps_fld (pv 3) (pv 2) rfl) (pss_one (ps_ret pe_int)))), ?_⟩
    have wrong : ¬ (PartP n k ∧ MuchP (pt n k.toNat).kind m) → Q (.int (-1)) H := fun no => by
      have q' := q H
      rw [show changeG n k m = (n, -1) by unfold changeG; rw [if_neg no]] at q'
      exact q' N (.of_same (Same.refl H))
    refine ⟨_, rfl, x, dx, _, rfl, hx, nf_no _ _ (by decide +kernel) (by decide +kernel), _, rfl, x, n, l, as, k, rfl, N, _, rfl, ?_⟩
    by_cases h1 : PartP n k
    · refine ifN (by simp [h1]) ?_
      obtain ⟨c, hc, dc, hcc⟩ := N.get (k := k.toNat) (by have := h1.1; have := h1.2; omega)
      have ek : k = ((k.toNat : Nat) : Int) := (Int.toNat_of_nonneg h1.1).symm
      have hat : atI (as.map V.ref) k = some (V.ref c) := at_of ek (by rw [List.getElem?_map, hc]; rfl)
      have kb := (G.part k.toNat (by have := h1.1; have := h1.2; omega)).1
      refine ⟨_, rfl, x, _, dx, _, _, rfl, hx, T.kNet, T.nParts, nf_parts _ _, _, rfl, l, _, _, _, rfl, rfl, SqL.of N.lst, hat, c, _, dc, _, _, rfl, hcc, T.kPart, T.nKind, pf_kind _ _ _ _, _, rfl, _, m, rfl, (by omega), (by omega), _, rfl, ?_⟩
      by_cases h2 : MuchP (pt n k.toNat).kind m
      · refine ifN (by simp [h2]) ?_
        refine ⟨_, rfl, x, _, dx, _, _, rfl, hx, T.kNet, T.nParts, nf_parts _ _, _, rfl, l, _, _, _, rfl, rfl, SqL.of N.lst, hat, ?_⟩
        refine ⟨_, rfl, _, rfl, c, _, dc, _, rfl, hcc, T.kPart, T.nMuch, (by show 4 < 1000; decide), ?_⟩
        have q' := q (upd H c (.ins A.cPart dc (putF "much" (.int m) (pf (pt n k.toNat)))))
        rw [show changeG n k m = (chgN n k m, 0) by unfold changeG; rw [if_pos ⟨h1, h2⟩]] at q'
        have hxc : x ≠ c := ne_of hx hcc (by
          intro z
          injection z with z1 z2 z3
          unfold nf pf pfI at z3
          injection z3 with z4 z5
          injection z4 with z6 z7
          exact absurd z6 (by decide +kernel))
        have hlc : l ≠ c := ne_of N.lst hcc (by intro z; cases z)
        refine q' ⟨⟨dx, by rw [upd_ne hxc]; exact hx⟩, by rw [upd_ne hlc]; exact N.lst, N.nd, ?_, ?_⟩ ?_
        · show as.length = (n.parts.set _ _).length
          rw [List.length_set]; exact N.parts.len
        · intro j d hj
          show PartAt A _ d (pt (chgN n k m) j)
          unfold chgN
          rw [pt_chg (by have := h1.1; have := h1.2; omega)]
          by_cases ej : j = k.toNat
          · subst ej
            rw [if_pos rfl]
            have ed : c = d := Option.some.inj (hc.symm.trans hj)
            subst ed
            refine ⟨dc, ?_⟩
            rw [upd_same]
            show some (HO.ins A.cPart dc (putF "much" (.int m) (pfI _ _ _ _))) = some (HO.ins A.cPart dc (pfI _ _ _ m))
            rw [pf_put]
          · rw [if_neg ej]
            obtain ⟨dd, e⟩ := N.parts.at_ j d hj
            exact ⟨dd, by rw [upd_ne (fun z => ej (nd_ix N.nd hj (by rw [z]; exact hc)))]; exact e⟩
        · intro b o e _ hb
          rw [upd_ne (fun z => hb (by rw [z]; exact List.mem_of_getElem? hc))]; exact e
      · refine ifT (by simp [h2]) ?_
        exact wrong fun z => h2 z.2
    · refine ifT (by simp [h1]) ?_
      exact wrong fun z => h1 z.1
end
end Rp
set_option Elab.async false
set_option linter.all false
set_option maxRecDepth 100000
set_option maxHeartbeats 2000000
/-! joining.py -/
namespace Rp
open PySem PySem.Spec PyProof.Rows L2 Rn
open Rc43 (Net Part)
/-- a list of ints stands at g -/
def IntsAt (H : Hp) (g : Addr) (gs : List Int) : Prop := H g = some (.lst (gs.map V.int))
theorem IntsAt.same {H H' : Hp} {g : Addr} {gs : List Int} (h : IntsAt H g gs) (s : Same H H') : IntsAt H' g gs := s _ _ h
theorem ints_at {gs : List Int} {j : Nat} (h : j < gs.length) : atI (gs.map V.int) (j : Int) = some (.int (gs.getD j 0)) := by
  refine atI_nat ?_
  rw [List.getElem?_map, List.getElem?_eq_getElem h, getD_get h]; rfl
theorem take_succ_filter (ps : List Part) (p : Part → Bool) {i : Nat} {x : Part} (h : ps[i]? = some x) : (ps.take (i + 1)).filter p = (ps.take i).filter p ++ if p x = true then [x] else [] := by
  rw [List.take_add_one, h, List.filter_append]
  congr 1
  show List.filter p [x] = _
  rw [List.filter_cons]
  split <;> simp_all
theorem parts_snoc {A : Adr} {H : Hp} {bs : List Addr} {ps : List Part} {c : Addr} {p : Part} (h : PartsAt A H bs ps) (hc : PartAt A H c p) : PartsAt A H (bs ++ [c]) (ps ++ [p]) := by
  refine ⟨by rw [List.length_append, List.length_append, h.len]; rfl, fun j x e => ?_⟩
  by_cases q : j < bs.length
  · rw [List.getElem?_append_left q] at e
    rw [getD_app _ _ _ _ (by rw [← h.len]; exact q)]
    exact h.at_ j x e
  · have hj2 : j < (bs ++ [c]).length := (List.getElem?_eq_some_iff.mp e).1
    have ej : j = bs.length := by rw [List.length_append, List.length_singleton] at hj2; omega
    subst ej
    rw [List.getElem?_append_right (Nat.le_refl _), Nat.sub_self] at e
    have ec : c = x := Option.some.inj e
    subst ec
    rw [getD_app_end _ _ _ _ h.len]
    exact hc
theorem parts_same_upd {A : Adr} {H : Hp} {bs : List Addr} {ps : List Part} {D : Addr} {ys zs : List V} (h : PartsAt A H bs ps) (hD : H D = some (.lst ys)) : PartsAt A (upd H D (.lst zs)) bs ps :=
  ⟨h.len, fun j x e => let ⟨dx, q⟩ := h.at_ j x e; ⟨dx, by rw [upd_ne (ne_of q hD (by intro z; cases z))]; exact q⟩⟩
theorem part_same_upd {A : Adr} {H : Hp} {c : Addr} {p : Part} {D : Addr} {ys zs : List V} (h : PartAt A H c p) (hD : H D = some (.lst ys)) : PartAt A (upd H D (.lst zs)) c p :=
  let ⟨dx, q⟩ := h; ⟨dx, by rw [upd_ne (ne_of q hD (by intro z; cases z))]; exact q⟩
def spOfKind (A : Adr) : Sp := fun vs H Q _ => ∃ (x : Addr) (n : Net) (l : Addr) (as : List Addr) (c : Nat), vs = [.ref x, .int c] ∧ NetAt A H x n l as ∧ n.parts.length ≤ 1000 ∧
  ∀ (H' : Hp) (D : Addr) (bs : List Addr), Same H H' → H' D = some (.lst (bs.map V.ref)) → PartsAt A H' bs (n.parts.filter fun p => p.kind == c) → Q (.ref D) H'
def spJoined : Sp := fun vs H Q _ => ∃ (g : Addr) (gs : List Int) (a b : Nat), vs = [.ref g, .int a, .int b] ∧ IntsAt H g gs ∧ a < gs.length ∧ b < gs.length ∧ gs.length ≤ 1000 ∧
  ∀ (H' : Hp) (D : Addr), Same H H' → IntsAt H' D (joinG gs a b) → Q (.ref D) H'
def spOne (A : Adr) : Sp := fun vs H Q _ => ∃ (x : Addr) (n : Net) (l : Addr) (as : List Addr), vs = [.ref x] ∧ NetAt A H x n l as ∧ GoodN n ∧ ∀ (H' : Hp), Same H H' → Q (.bl (oneG n)) H'
section
variable {P : Program} {w : World} {K : PySem.W.Frag} {mg : Str → Option Value} {base : Heap} {A : Adr}
theorem sc_ofKind : FnScope ["net", "kind", "part"] ["net", "kind"] (defScope dOfKind) := ⟨rfl, rfl, rfl, by decide +kernel, rfl, by decide +kernel, by decide +kernel⟩
theorem ok_ofKind (T : Txt K mg A) : CallOk P w K mg base 1 "parts_of_kind" ["net", "kind"] (spOfKind A) := by
  refine T.ofKind.ok sc_ofKind (fun vs H Q E h => ?_) (fun f cdv Ar outer s H vs Q E hr h => ?_)
  · obtain ⟨x, n, l, as, c, rfl, _⟩ := h
    rfl
  · obtain ⟨x, n, l, as, c, rfl, N, few, q⟩ := h
    obtain ⟨dx, hx⟩ := N.obj
    refine ⟨_, pss_one (ps_ret (pe_lc (own := [("part", 2)]) (g := gName 2) (tt := tTest (tOp rEq (tFld K (tVar 2) "kind") (tVar 1))) (te := tVar 2) rfl sc_ofKind.nd (pi_list (pe_fld (pv 0) rfl)) (blkOk_by (by rfl)) (fun _ _ _ _ _ => pg_name (i := 2) sc_ofKind.nd rfl (Or.inl rfl))
      (fun _ _ _ _ _ => pts_one (pt_cmpR op_eq (pe_fld (pv 2) rfl) (pv 1) (nomark _))) (fun _ _ _ _ _ => pv 2))), ?_⟩
    refine ⟨_, rfl, x, _, dx, _, _, rfl, hx, T.kNet, T.nParts, nf_parts _ _, l, rfl, ⟨_, SqL.of N.lst⟩, fun D hD => ?_⟩
    refine lc_list (K := K) (a := l) (xs := as.map V.ref) (fun i H' => Same H H' ∧ ∃ bs : List Addr, H' D = some (.lst (bs.map V.ref)) ∧ PartsAt A H' bs ((n.parts.take i).filter fun p => p.kind == c)) ?_ ?_ ?_ ?_
    · exact ⟨same_new hD, [], upd_same, rfl, fun j y e => by simp at e⟩
    · intro i H' _ ⟨s1, _⟩
      exact SqL.of (s1 _ _ N.lst)
    · rintro i y H' hi ⟨s1, bs, hb, pb⟩
      obtain ⟨d, hd, rfl⟩ : ∃ d, as[i]? = some d ∧ y = V.ref d := by
        rw [List.getElem?_map] at hi
        obtain ⟨d, h1, h2⟩ := Option.map_eq_some_iff.mp hi
        exact ⟨d, h1, h2.symm⟩
      obtain ⟨dd, hdd⟩ := (N.parts.at_ i d hd).same s1
      have hin : i < n.parts.length := by rw [← N.parts.len]; exact (List.getElem?_eq_some_iff.mp hd).1
      have hp : n.parts[i]? = some (n.parts.getD i ⟨0, 0, 0, 0⟩) := by rw [List.getElem?_eq_getElem hin, getD_get hin]
      refine ⟨rfl, ?_⟩
      refine ⟨_, rfl, d, _, dd, _, _, rfl, hdd, T.kPart, T.nKind, pf_kind _ _ _ _, _, rfl, rfl, _, rfl, ?_⟩
      have blen : bs.length ≤ i := by
        rw [pb.len]
        refine Nat.le_trans (List.length_filter_le _ _) ?_
        rw [List.length_take]; omega
      by_cases hk : (n.parts.getD i ⟨0, 0, 0, 0⟩).kind = c
      · refine ifT (decide_eq_true (by rw [hk])) ?_
        refine ⟨_, rfl, _, hb, (by rw [List.length_map]; exact Nat.lt_of_le_of_lt (Nat.le_trans blen (Nat.le_of_lt (Nat.lt_of_lt_of_le hin few))) (by decide)), ?_, bs ++ [d], ?_, ?_⟩
        · intro b o e
          rw [upd_ne (ne_of_none e hD)]; exact s1 b o e
        · rw [upd_same, List.map_append]; rfl
        · rw [take_succ_filter _ _ hp, if_pos (by rw [hk]; exact beq_self_eq_true c)]
          exact parts_snoc (parts_same_upd pb hb) (part_same_upd ⟨dd, hdd⟩ hb)
      · refine ifN (by intro z; have z := of_decide_eq_true z; injection z with z; exact hk (by omega)) ?_
        refine ⟨s1, bs, hb, ?_⟩
        rw [take_succ_filter _ _ hp, if_neg (by intro z; exact hk (eq_of_beq z)), List.append_nil]
        exact pb
    · rintro H' ⟨s1, bs, hb, pb⟩
      rw [List.length_map, N.parts.len, List.take_length] at pb
      exact q H' D bs s1 hb pb
theorem sc_joined : FnScope ["groups", "a", "b", "group"] ["groups", "a", "b"] (defScope dJoined) := ⟨rfl, rfl, rfl, by decide +kernel, rfl, by decide +kernel, by decide +kernel⟩
theorem ok_joined (T : Txt K mg A) : CallOk P w K mg base 1 "joined" ["groups", "a", "b"] spJoined := by
  refine T.joined.ok sc_joined (fun vs H Q E h => ?_) (fun f cdv Ar outer s H vs Q E hr h => ?_)
  · obtain ⟨g, gs, a, b, rfl, _⟩ := h
    rfl
  · obtain ⟨g, gs, a, b, rfl, hg, ha, hb, few, q⟩ := h
    refine ⟨_, pss_one (ps_ret (pe_lc (own := [("group", 3)]) (g := gName 3) (tt := tYes) (te := tIf (tTest (tOp rEq (tVar 3) (tOp (rIxL K) (tVar 0) (tVar 2)))) (tOp (rIxL K) (tVar 0) (tVar 1)) (tVar 3)) rfl sc_joined.nd (pi_list (pv 0)) (blkOk_by (by rfl)) (fun _ _ _ _ _ => pg_name (i := 3) sc_joined.nd rfl (Or.inl rfl))
      (fun _ _ _ _ _ => pts_nil) (fun _ _ _ _ _ => pe_ifExp (pt_cmpR op_eq (pv 3) (pe_ix ix_list (pv 0) (pv 2) (fun _ _ => rfl)) (nomark _)) (pe_ix ix_list (pv 0) (pv 1) (fun _ _ => rfl)) (pv 3)))), ?_⟩
    refine ⟨_, rfl, g, rfl, ⟨_, SqL.of hg⟩, fun D hD => ?_⟩
    have hgD : g ≠ D := ne_of_none hg hD
    refine lc_list (K := K) (a := g) (xs := gs.map V.int) (fun i H' => Same H H' ∧ IntsAt H' D ((gs.take i).map fun x => if x = gAt gs b then gAt gs a else x)) ?_ ?_ ?_ ?_
    · exact ⟨same_new hD, upd_same⟩
    · intro i H' _ ⟨s1, _⟩
      exact SqL.of (s1 _ _ hg)
    · rintro i y H' hi ⟨s1, hd⟩
      obtain ⟨z, hz, rfl⟩ : ∃ z, gs[i]? = some z ∧ y = V.int z := by
        rw [List.getElem?_map] at hi
        obtain ⟨d, h1, h2⟩ := Option.map_eq_some_iff.mp hi
        exact ⟨d, h1, h2.symm⟩
      have hin : i < gs.length := (List.getElem?_eq_some_iff.mp hz).1
      have small : (((gs.take i).map fun x => if x = gAt gs b then gAt gs a else x).map V.int).length < sizeLine := by
        rw [List.length_map, List.length_map, List.length_take]
        exact Nat.lt_of_le_of_lt (Nat.le_trans (Nat.min_le_left _ _) (Nat.le_of_lt (Nat.lt_of_lt_of_le hin few))) (by decide)
      have fin : ∀ v, v = (if z = gAt gs b then gAt gs a else z) → Same H (upd H' D (.lst (((gs.take i).map fun x => if x = gAt gs b then gAt gs a else x).map V.int ++ [V.int v]))) ∧
          IntsAt (upd H' D (.lst (((gs.take i).map fun x => if x = gAt gs b then gAt gs a else x).map V.int ++ [V.int v]))) D ((gs.take (i + 1)).map fun x => if x = gAt gs b then gAt gs a else x) := by
        intro v ev
        refine ⟨fun c o e => by rw [upd_ne (ne_of_none e hD)]; exact s1 c o e, ?_⟩
        unfold IntsAt
        rw [upd_same, List.take_add_one, hz, List.map_append, List.map_append, ev]; rfl
      refine ⟨rfl, ?_⟩
      refine ⟨_, rfl, _, rfl, _, rfl, g, _, _, _, rfl, rfl, SqL.of (s1 _ _ hg), ints_at hb, rfl, _, rfl, ?_⟩
      by_cases e : z = gAt gs b
      · refine ifT (decide_eq_true (by rw [e]; rfl)) ?_
        refine ⟨_, rfl, _, rfl, g, _, _, _, rfl, rfl, SqL.of (s1 _ _ hg), ints_at ha, _, hd, small, ?_⟩
        exact fin _ (by rw [if_pos e]; rfl)
      · refine ifN (by intro q; have q := of_decide_eq_true q; injection q with q; exact e q) ?_
        refine ⟨_, rfl, _, hd, small, ?_⟩
        exact fin _ (by rw [if_neg e])
    · rintro H' ⟨s1, hd⟩
      rw [List.length_map, List.take_length] at hd
      exact q H' D s1 hd
theorem joinG_length (g : List Int) (a b : Nat) : (joinG g a b).length = g.length := by simp [joinG]
theorem filt_mem {n : Net} (G : GoodN n) {f : Part → Bool} {p : Part} (h : p ∈ n.parts.filter f) : p.a < n.nodes ∧ p.b < n.nodes := by
  obtain ⟨h1, _⟩ := List.mem_filter.mp h
  obtain ⟨k, hk, e⟩ := List.getElem_of_mem h1
  have := G.part k hk
  have e' : pt n k = p := by unfold pt; rw [getD_get hk]; exact e
  rw [e'] at this
  exact ⟨this.2.1, this.2.2.1⟩
theorem sc_one : FnScope ["net", "groups", "part", "group"] ["net"] (defScope dOne) := ⟨rfl, rfl, rfl, by decide +kernel, rfl, by decide +kernel, by decide +kernel⟩
theorem ok_one (T : Txt K mg A) : CallOk P w K mg base 2 "has_one_solution" ["net"] (spOne A) := by
  have G1 : CallOk P w K mg base 1 "parts_of_kind" ["net", "kind"] (spOfKind A) := ok_ofKind T
  have G2 : CallOk P w K mg base 1 "joined" ["groups", "a", "b"] spJoined := ok_joined T
  refine T.one.ok sc_one (fun vs H Q E h => ?_) (fun f cdv Ar outer s H vs Q E hr h => ?_)
  · obtain ⟨x, n, l, as, rfl, _⟩ := h
    rfl
  · obtain ⟨x, n, l, as, rfl, N, G, q⟩ := h
    obtain ⟨dx, hx⟩ := N.obj
    have fewN : n.parts.length ≤ 1000 := Nat.le_trans G.few (by decide)
    refine ⟨_, pss_cons (ps_set (i := 1) sc_one.nd rfl (Or.inr rfl) (pe_callTy call_list_rng (by rfl) T.list (by decide +kernel) (pa_cons (pe_callTy call_rng (by rfl) T.range (by decide +kernel) (pa_cons (pe_fld (pv 0) rfl) pa_nil)) pa_nil)))
      (pss_cons (ps_for PassesOwn.never rfl (pi_list (pe_fn G1 hr (pa_cons (pv 0) (pa_cons (pe_cst T.SV) pa_nil)))) (pg_name (i := 2) sc_one.nd rfl (Or.inl rfl))
        (pss_cons (ps_if (pt_cmpR op_eq (pe_ix ix_list (pv 1) (pe_fld (pv 2) rfl) (fun _ _ => rfl)) (pe_ix ix_list (pv 1) (pe_fld (pv 2) rfl) (fun _ _ => rfl)) (nomark _)) (pss_one (ps_ret pe_bl)) pss_nil)
          (pss_one (ps_set (i := 1) sc_one.nd rfl (Or.inr rfl) (pe_fn G2 hr (pa_cons (pv 1) (pa_cons (pe_fld (pv 2) rfl) (pa_cons (pe_fld (pv 2) rfl) pa_nil))))))))
      (pss_cons (ps_for PassesOwn.never rfl (pi_list (pe_fn G1 hr (pa_cons (pv 0) (pa_cons (pe_cst T.RE) pa_nil)))) (pg_name (i := 2) sc_one.nd rfl (Or.inl rfl))
        (pss_one (ps_set (i := 1) sc_one.nd rfl (Or.inr rfl) (pe_fn G2 hr (pa_cons (pv 1) (pa_cons (pe_fld (pv 2) rfl) (pa_cons (pe_fld (pv 2) rfl) pa_nil)))))))
      (pss_one (ps_ret (pe_callB (cr_all rfl) (by rfl) T.all (by decide +kernel) (pa_cons (pe_lc (own := [("group", 3)]) (g := gName 3) (tt := tYes) (te := tOp rEq (tVar 3) (tOp (rIxL K) (tVar 1) (tC (.int 0)))) rfl sc_one.nd (pi_list (pv 1)) (blkOk_by (by rfl)) (fun _ _ _ _ _ => pg_name (i := 3) sc_one.nd rfl (Or.inl rfl))
        (fun _ _ _ _ _ => pts_nil) (fun _ _ _ _ _ => pe_cmpR op_eq (pv 3) (pe_ix ix_list (pv 1) pe_int (fun _ _ => rfl)) (nomark _))) pa_nil)))))), ?_⟩
    -- groups = list(range(net.node_count))
    refine ⟨_, rfl, x, _, dx, _, _, rfl, hx, T.kNet, T.nNC, nf_nc _ _, n.nodes, rfl, fun r hr0 => ⟨rfl, r, n.nodes, rfl, upd_same, Nat.le_trans G.hi (by decide), fun g0 hg0 => ?_⟩⟩
    have s0 : Same H (upd (upd H r (.rng 0 n.nodes)) g0 (.lst ((startG n.nodes).map V.int))) := (same_new hr0).trans (same_new hg0)
    have hg : IntsAt (upd (upd H r (.rng 0 n.nodes)) g0 (.lst ((startG n.nodes).map V.int))) g0 (startG n.nodes) := upd_same
    generalize upd (upd H r (.rng 0 n.nodes)) g0 (.lst ((startG n.nodes).map V.int)) = H0 at s0 hg
    have slen : (startG n.nodes).length = n.nodes := by simp [startG]
    -- sources of volts
    refine ⟨_, rfl, x, n, l, as, 1, rfl, N.same s0, fewN, fun H1 D1 bs1 s1 hD1 pb1 => ?_⟩
    refine ⟨D1, rfl, ⟨_, SqL.of hD1⟩, for_list (K := K) (a := D1) (xs := bs1.map V.ref) (fun i σ H' => ∃ (g : Addr) (gs : List Int) (v : Option V), σ = [some (.ref x), some (.ref g), v, none] ∧ Same H H' ∧ Same H1 H' ∧ IntsAt H' g gs ∧ gs.length = n.nodes ∧
      volG ((n.parts.filter fun p => p.kind == 1).drop i) gs = volG (n.parts.filter fun p => p.kind == 1) (startG n.nodes)) ?_ ?_ ?_ ?_⟩
    · exact ⟨g0, _, none, rfl, s0.trans s1, Same.refl _, hg.same s1, slen, rfl⟩
    · rintro i σ H' _ ⟨g, gs, v, rfl, _, s2, _⟩
      exact SqL.of (s2 _ _ hD1)
    · rintro i y σ H' hi ⟨g, gs, v, rfl, sH, s2, hgs, gl, hv⟩
      obtain ⟨d, hd, rfl⟩ : ∃ d, bs1[i]? = some d ∧ y = V.ref d := by
        rw [List.getElem?_map] at hi
        obtain ⟨d, h1, h2⟩ := Option.map_eq_some_iff.mp hi
        exact ⟨d, h1, h2.symm⟩
      obtain ⟨dd, hdd⟩ := (pb1.at_ i d hd).same s2
      have hin : i < (n.parts.filter fun p => p.kind == 1).length := by rw [← pb1.len]; exact (List.getElem?_eq_some_iff.mp hd).1
      have hmem : (n.parts.filter fun p => p.kind == 1).getD i ⟨0, 0, 0, 0⟩ ∈ n.parts.filter fun p => p.kind == 1 := getD_mem hin _
      have hdr : (n.parts.filter fun p => p.kind == 1).drop i = (n.parts.filter fun p => p.kind == 1).getD i ⟨0, 0, 0, 0⟩ :: (n.parts.filter fun p => p.kind == 1).drop (i + 1) := by
        rw [getD_get hin]; exact List.drop_eq_getElem_cons hin
      obtain ⟨pa, pb⟩ := filt_mem G hmem
      rw [hdr] at hv
      generalize (n.parts.filter fun p => p.kind == 1).getD i ⟨0, 0, 0, 0⟩ = p at hdd hv pa pb
      refine ⟨_, rfl, _, rfl, d, _, dd, _, _, rfl, hdd, T.kPart, T.nA, pf_a _ _ _ _, g, _, _, _, rfl, rfl, SqL.of hgs, ints_at (by omega), ?_⟩
      refine ⟨_, rfl, _, rfl, d, _, dd, _, _, rfl, hdd, T.kPart, T.nB, pf_b _ _ _ _, g, _, _, _, rfl, rfl, SqL.of hgs, ints_at (by omega), rfl, _, rfl, ?_⟩
      have hv' : (if gAt gs p.a = gAt gs p.b then Option.none else volG ((n.parts.filter fun p => p.kind == 1).drop (i + 1)) (joinG gs p.a p.b)) = volG (n.parts.filter fun p => p.kind == 1) (startG n.nodes) := hv
      by_cases e : gAt gs p.a = gAt gs p.b
      · refine ifT (decide_eq_true (by rw [show gs.getD p.a 0 = gs.getD p.b 0 from e])) ?_
        rw [if_pos e] at hv'
        have := q H' sH
        rw [show oneG n = false by unfold oneG; rw [← hv']] at this
        exact this
      · refine ifN (by intro z; have z := of_decide_eq_true z; injection z with z; exact e z) ?_
        rw [if_neg e] at hv'
        refine ⟨_, rfl, _, rfl, d, _, dd, _, _, rfl, hdd, T.kPart, T.nA, pf_a _ _ _ _, _, rfl, d, _, dd, _, _, rfl, hdd, T.kPart, T.nB, pf_b _ _ _ _, g, gs, p.a, p.b, rfl, hgs, (by omega), (by omega), (by have := G.hi; omega), fun H3 D3 s3 hD3 => ?_⟩
        exact ⟨D3, _, _, rfl, sH.trans s3, s2.trans s3, hD3, by rw [joinG_length]; exact gl, hv'⟩
    · rintro σ H2 ⟨g, gs, v, rfl, sH, s2, hgs, gl, hv⟩
      rw [List.length_map, pb1.len, List.drop_length] at hv
      have hv : some gs = volG (n.parts.filter fun p => p.kind == 1) (startG n.nodes) := hv
      -- resistors
      refine ⟨_, rfl, x, n, l, as, 0, rfl, N.same sH, fewN, fun H3 D3 bs3 s3 hD3 pb3 => ?_⟩
      refine ⟨D3, rfl, ⟨_, SqL.of hD3⟩, for_list (K := K) (a := D3) (xs := bs3.map V.ref) (fun i σ H' => ∃ (g' : Addr) (gs' : List Int) (v : Option V), σ = [some (.ref x), some (.ref g'), v, none] ∧ Same H H' ∧ Same H3 H' ∧ IntsAt H' g' gs' ∧ gs'.length = n.nodes ∧
        resG ((n.parts.filter fun p => p.kind == 0).drop i) gs' = resG (n.parts.filter fun p => p.kind == 0) gs) ?_ ?_ ?_ ?_⟩
      · exact ⟨g, _, v, rfl, sH.trans s3, Same.refl _, hgs.same s3, gl, rfl⟩
      · rintro i σ H' _ ⟨g, gs, v, rfl, _, s2, _⟩
        exact SqL.of (s2 _ _ hD3)
      · rintro i y σ H' hi ⟨g', gs', v, rfl, sH', s4, hgs', gl', hv'⟩
        obtain ⟨d, hd, rfl⟩ : ∃ d, bs3[i]? = some d ∧ y = V.ref d := by
          rw [List.getElem?_map] at hi
          obtain ⟨d, h1, h2⟩ := Option.map_eq_some_iff.mp hi
          exact ⟨d, h1, h2.symm⟩
        obtain ⟨dd, hdd⟩ := (pb3.at_ i d hd).same s4
        have hin : i < (n.parts.filter fun p => p.kind == 0).length := by rw [← pb3.len]; exact (List.getElem?_eq_some_iff.mp hd).1
        have hmem : (n.parts.filter fun p => p.kind == 0).getD i ⟨0, 0, 0, 0⟩ ∈ n.parts.filter fun p => p.kind == 0 := getD_mem hin _
        have hdr : (n.parts.filter fun p => p.kind == 0).drop i = (n.parts.filter fun p => p.kind == 0).getD i ⟨0, 0, 0, 0⟩ :: (n.parts.filter fun p => p.kind == 0).drop (i + 1) := by
          rw [getD_get hin]; exact List.drop_eq_getElem_cons hin
        obtain ⟨pa, pb⟩ := filt_mem G hmem
        rw [hdr] at hv'
        generalize (n.parts.filter fun p => p.kind == 0).getD i ⟨0, 0, 0, 0⟩ = p at hdd hv' pa pb
        refine ⟨_, rfl, _, rfl, d, _, dd, _, _, rfl, hdd, T.kPart, T.nA, pf_a _ _ _ _, _, rfl, d, _, dd, _, _, rfl, hdd, T.kPart, T.nB, pf_b _ _ _ _, g', gs', p.a, p.b, rfl, hgs', (by omega), (by omega), (by have := G.hi; omega), fun H5 D5 s5 hD5 => ?_⟩
        exact ⟨D5, _, _, rfl, sH'.trans s5, s4.trans s5, hD5, by rw [joinG_length]; exact gl', hv'⟩
      · rintro σ H4 ⟨g', gs', v, rfl, sH', s4, hgs', gl', hv'⟩
        rw [List.length_map, pb3.len, List.drop_length] at hv'
        have hv' : gs' = resG (n.parts.filter fun p => p.kind == 0) gs := hv'
        have one : oneG n = gs'.all fun z => z == gAt gs' 0 := by
          unfold oneG; rw [← hv]; dsimp only; rw [← hv']
        -- all([..])
        refine ⟨_, rfl, g', rfl, ⟨_, SqL.of hgs'⟩, fun D hD => ?_⟩
        refine lc_list (K := K) (a := g') (xs := gs'.map V.int) (fun i H' => Same H4 H' ∧ H' D = some (.lst (((gs'.take i).map fun z => z == gAt gs' 0).map V.bl))) ?_ ?_ ?_ ?_
        · exact ⟨same_new hD, upd_same⟩
        · intro i H' _ ⟨s1, _⟩
          exact SqL.of (s1 _ _ hgs')
        · rintro i y H' hi ⟨s6, hd⟩
          obtain ⟨z, hz, rfl⟩ : ∃ z, gs'[i]? = some z ∧ y = V.int z := by
            rw [List.getElem?_map] at hi
            obtain ⟨d, h1, h2⟩ := Option.map_eq_some_iff.mp hi
            exact ⟨d, h1, h2.symm⟩
          refine ⟨rfl, ?_⟩
          refine ⟨_, rfl, _, rfl, g', _, _, _, rfl, rfl, SqL.of (s6 _ _ hgs'), ints_at (j := 0) (by have := G.lo; omega), rfl, _, hd, ?_, ?_, ?_⟩
          · rw [List.length_map, List.length_map, List.length_take]
            exact Nat.lt_of_le_of_lt (Nat.min_le_right _ _) (by rw [gl']; exact Nat.lt_of_le_of_lt G.hi (by decide))
          · intro c o e
            rw [upd_ne (ne_of_none e hD)]; exact s6 c o e
          · rw [upd_same, List.take_add_one, hz, List.map_append, List.map_append, show decide (V.int z = V.int (gs'.getD 0 0)) = (z == gAt gs' 0) from dec_int]; rfl
        · rintro H' ⟨s6, hd⟩
          rw [List.length_map, List.take_length] at hd
          refine ⟨D, _, rfl, SqL.of hd, ?_⟩
          have := q H' (sH'.trans s6)
          rw [one] at this
          have e : (gs'.map fun z => z == gAt gs' 0).all id = gs'.all fun z => z == gAt gs' 0 := by
            rw [List.all_map]; rfl
          rw [e]; exact this
end
end Rp
set_option Elab.async false
set_option linter.all false
set_option maxRecDepth 100000
set_option maxHeartbeats 2000000
/-! elimination.py -/
namespace Rp
open PySem PySem.Spec PyProof.Rows L2 Rn
open Rc43 (Net Part)
/-! ### loops over enumerate and zip -/
theorem lc_zip {K : PySem.W.Frag} {a b : Addr} {xs ys : List V} {g : TG} {tt : TT} {te : TE} {vs : List Nat} {σ : L2.St} {H1 : Hp} {D : Addr} {Qd : Hp → Prop} (hlen : xs.length = ys.length) (Pv : Nat → Hp → Prop) (h0 : Pv 0 (upd H1 D (.lst [])))
    (hl : ∀ i H, i ≤ xs.length → Pv i H → SqL K H a xs ∧ SqL K H b ys)
    (hs : ∀ i x y T H, xs[i]? = some x → ys[i]? = some y → H T = none → Pv i H → g (.ref T) (wipe σ vs) (upd H T (.tup [x, y])) fun σ2 H2 => wipe σ2 vs = wipe σ vs ∧ tt σ2 H2 fun b H3 =>
      if b = true then te σ2 H3 fun y H4 => ∃ acc, H4 D = some (.lst acc) ∧ acc.length < sizeLine ∧ Pv (i + 1) (upd H4 D (.lst (acc ++ [y]))) else Pv (i + 1) H3) (hd : ∀ H, Pv xs.length H → Qd H) :
    ∃ W : Nat → Nat → Hp → Prop, (∃ m, W 0 m (upd H1 D (.lst []))) ∧ ∀ i m H, W i m H →
      ((Itz K a b).stop i H ∧ Qd H) ∨ ((Itz K a b).go i H ∧ ∃ Nx : Hp → Prop, (∀ H', Nx H' → ∃ m', m' < m ∧ W (i + 1) m' H') ∧ ∀ x H', (Itz K a b).yld i H x H' → g x (wipe σ vs) H' fun σ2 H2 => wipe σ2 vs = wipe σ vs ∧ tt σ2 H2 fun b H3 =>
        if b = true then te σ2 H3 fun y H4 => ∃ acc, H4 D = some (.lst acc) ∧ acc.length < sizeLine ∧ Nx (upd H4 D (.lst (acc ++ [y]))) else Nx H3) := by
  refine ⟨fun i m H => m = xs.length - i ∧ i ≤ xs.length ∧ Pv i H, ⟨xs.length, by simp, Nat.zero_le _, h0⟩, ?_⟩
  rintro i m H ⟨rfl, hi, p⟩
  obtain ⟨q1, q2⟩ := hl i H hi p
  by_cases hlt : i < xs.length
  · have hlt2 : i < ys.length := by omega
    refine .inr ⟨⟨xs, ys, xs[i], ys[i], q1, q2, by simp [hlt], by simp [hlt2]⟩, Pv (i + 1), fun H' p' => ⟨xs.length - (i + 1), by omega, rfl, hlt, p'⟩, fun x H' y => ?_⟩
    obtain ⟨T, x', y', rfl, hT, rfl, h1, h2⟩ := y
    exact hs i x' y' T H (h1 xs q1) (h2 ys q2) hT p
  · have e : i = xs.length := by omega
    subst e
    exact .inl ⟨⟨xs, ys, q1, q2, .inl (Nat.le_refl _)⟩, hd H p⟩
theorem lc_enum {K : PySem.W.Frag} {a : Addr} {xs : List V} {g : TG} {tt : TT} {te : TE} {vs : List Nat} {σ : L2.St} {H1 : Hp} {D : Addr} {Qd : Hp → Prop} (Pv : Nat → Hp → Prop) (h0 : Pv 0 (upd H1 D (.lst [])))
    (hl : ∀ i H, i ≤ xs.length → Pv i H → SqL K H a xs)
    (hs : ∀ i x T H, xs[i]? = some x → H T = none → Pv i H → g (.ref T) (wipe σ vs) (upd H T (.tup [.int (i : Nat), x])) fun σ2 H2 => wipe σ2 vs = wipe σ vs ∧ tt σ2 H2 fun b H3 =>
      if b = true then te σ2 H3 fun y H4 => ∃ acc, H4 D = some (.lst acc) ∧ acc.length < sizeLine ∧ Pv (i + 1) (upd H4 D (.lst (acc ++ [y]))) else Pv (i + 1) H3) (hd : ∀ H, Pv xs.length H → Qd H) :
    ∃ W : Nat → Nat → Hp → Prop, (∃ m, W 0 m (upd H1 D (.lst []))) ∧ ∀ i m H, W i m H →
      ((Ite K a).stop i H ∧ Qd H) ∨ ((Ite K a).go i H ∧ ∃ Nx : Hp → Prop, (∀ H', Nx H' → ∃ m', m' < m ∧ W (i + 1) m' H') ∧ ∀ x H', (Ite K a).yld i H x H' → g x (wipe σ vs) H' fun σ2 H2 => wipe σ2 vs = wipe σ vs ∧ tt σ2 H2 fun b H3 =>
        if b = true then te σ2 H3 fun y H4 => ∃ acc, H4 D = some (.lst acc) ∧ acc.length < sizeLine ∧ Nx (upd H4 D (.lst (acc ++ [y]))) else Nx H3) := by
  refine ⟨fun i m H => m = xs.length - i ∧ i ≤ xs.length ∧ Pv i H, ⟨xs.length, by simp, Nat.zero_le _, h0⟩, ?_⟩
  rintro i m H ⟨rfl, hi, p⟩
  have q := hl i H hi p
  by_cases hlt : i < xs.length
  · refine .inr ⟨⟨xs, xs[i], q, by simp [hlt]⟩, Pv (i + 1), fun H' p' => ⟨xs.length - (i + 1), by omega, rfl, hlt, p'⟩, fun x H' y => ?_⟩
    obtain ⟨T, x', rfl, hT, rfl, h1⟩ := y
    exact hs i x' T H (h1 xs q) hT p
  · have e : i = xs.length := by omega
    subst e
    exact .inl ⟨⟨xs, q, Nat.le_refl _⟩, hd H p⟩
theorem for_enum {K : PySem.W.Frag} {a : Addr} {xs : List V} {g : TG} {tb : TS} {D : Ends} {σ : L2.St} {H : Hp} (Pv : Nat → L2.St → Hp → Prop) (h0 : Pv 0 σ H) (hl : ∀ i σ H, i ≤ xs.length → Pv i σ H → SqL K H a xs)
    (hs : ∀ i x T σ H, xs[i]? = some x → H T = none → Pv i σ H → g (.ref T) σ (upd H T (.tup [.int (i : Nat), x])) fun σ2 H2 => tb { D with nx := Pv (i + 1), ct := Pv (i + 1), bk := D.nx } σ2 H2) (hd : ∀ σ H, Pv xs.length σ H → D.nx σ H) :
    ∃ W : Nat → Nat → L2.St → Hp → Prop, (∃ m, W 0 m σ H) ∧ ∀ i m σ H, W i m σ H →
      ((Ite K a).stop i H ∧ D.nx σ H) ∨ ((Ite K a).go i H ∧ ∃ N : L2.St → Hp → Prop, (∀ σ' H', N σ' H' → ∃ m', m' < m ∧ W (i + 1) m' σ' H') ∧ ∀ x H', (Ite K a).yld i H x H' → g x σ H' fun σ2 H2 => tb { D with nx := N, ct := N, bk := D.nx } σ2 H2) := by
  refine ⟨fun i m σ H => m = xs.length - i ∧ i ≤ xs.length ∧ Pv i σ H, ⟨xs.length, by simp, Nat.zero_le _, h0⟩, ?_⟩
  rintro i m σ H ⟨rfl, hi, p⟩
  have q := hl i σ H hi p
  by_cases hlt : i < xs.length
  · refine .inr ⟨⟨xs, xs[i], q, by simp [hlt]⟩, Pv (i + 1), fun σ' H' p' => ⟨xs.length - (i + 1), by omega, rfl, hlt, p'⟩, fun x H' y => ?_⟩
    obtain ⟨T, x', rfl, hT, rfl, h1⟩ := y
    exact hs i x' T σ H (h1 xs q) hT p
  · have e : i = xs.length := by omega
    subst e
    exact .inl ⟨⟨xs, q, Nat.le_refl _⟩, hd σ H p⟩
/-! ### rows in the heap -/
structure RowsL (H : Hp) (rs : List Addr) (R : Rws) : Prop where
  len : rs.length = R.length
  at_ : ∀ (j : Nat) (x : Addr), rs[j]? = some x → IntsAt H x (R.getD j [])
theorem RowsL.same {H H' : Hp} {rs : List Addr} {R : Rws} (h : RowsL H rs R) (s : Same H H') : RowsL H' rs R := ⟨h.len, fun j x e => (h.at_ j x e).same s⟩
theorem RowsL.upd {H : Hp} {rs : List Addr} {R : Rws} (h : RowsL H rs R) {D : Addr} {o : HO} (ne : ∀ d ∈ rs, d ≠ D) : RowsL (upd H D o) rs R :=
  ⟨h.len, fun j x e => by unfold IntsAt; rw [upd_ne (ne x (List.mem_of_getElem? e))]; exact h.at_ j x e⟩
theorem RowsL.snoc {H : Hp} {rs : List Addr} {R : Rws} {c : Addr} {r : List Int} (h : RowsL H rs R) (hc : IntsAt H c r) : RowsL H (rs ++ [c]) (R ++ [r]) := by
  refine ⟨by rw [List.length_append, List.length_append, h.len]; rfl, fun j x e => ?_⟩
  by_cases q : j < rs.length
  · rw [List.getElem?_append_left q] at e
    rw [getD_app _ _ _ _ (by rw [← h.len]; exact q)]
    exact h.at_ j x e
  · have hj2 : j < (rs ++ [c]).length := (List.getElem?_eq_some_iff.mp e).1
    have ej : j = rs.length := by rw [List.length_append, List.length_singleton] at hj2; omega
    subst ej
    rw [List.getElem?_append_right (Nat.le_refl _), Nat.sub_self] at e
    have ec : c = x := Option.some.inj e
    subst ec
    rw [getD_app_end _ _ _ _ h.len]
    exact hc
theorem RowsL.get {H : Hp} {rs : List Addr} {R : Rws} (h : RowsL H rs R) {k : Nat} (hk : k < R.length) : ∃ c, rs[k]? = some c ∧ IntsAt H c (R.getD k []) := by
  have hk' : k < rs.length := by rw [h.len]; exact hk
  exact ⟨rs[k], List.getElem?_eq_getElem hk', h.at_ k _ (List.getElem?_eq_getElem hk')⟩
theorem refs_at {rs : List Addr} {k : Nat} {c : Addr} (h : rs[k]? = some c) : atI (rs.map V.ref) (k : Int) = some (.ref c) := atI_nat (by rw [List.getElem?_map, h]; rfl)
theorem ixN_nat {n j : Nat} (h : j < n) : ixN n (j : Int) = some j := by
  unfold ixN
  rw [if_pos (by omega), if_pos (by omega)]; simp
theorem RowsL.set {H : Hp} {rs : List Addr} {R : Rws} {c : Addr} {r : List Int} (h : RowsL H rs R) {k : Nat} (hk : k < R.length) (hc : IntsAt H c r) : RowsL H (rs.set k c) (R.set k r) := by
  refine ⟨by rw [List.length_set, List.length_set, h.len], fun j x e => ?_⟩
  rw [List.getElem?_set] at e
  by_cases q : k = j
  · subst q
    rw [if_pos rfl] at e
    rw [h.len, if_pos hk] at e
    have e' : c = x := Option.some.inj e
    subst e'
    rw [List.getD_eq_getElem?_getD, List.getElem?_set_self hk]
    exact hc
  · rw [if_neg q] at e
    rw [List.getD_eq_getElem?_getD, List.getElem?_set_ne q, ← List.getD_eq_getElem?_getD]
    exact h.at_ j x e
def spLead : Sp := fun vs H Q _ => ∃ (r : Addr) (rs : List Addr) (R : Rws) (c N : Nat), vs = [.ref r, .int c] ∧ H r = some (.lst (rs.map V.ref)) ∧ RowsL H rs R ∧ Shp N R ∧ c < N ∧ (∃ a, c ≤ a ∧ a < N ∧ ent R a c ≠ 0) ∧
  ∀ (H' : Hp) (D : Addr) (rs' : List Addr), Same H H' → H D = none → H' D = some (.lst (rs'.map V.ref)) → (∀ d ∈ rs', d ∈ rs) → RowsL H' rs' (withLead R c) → Q (.ref D) H'
def spCleared : Sp := fun vs H Q _ => ∃ (r ld : Addr) (row lead : List Int) (c N : Nat) (last : Int), vs = [.ref r, .ref ld, .int c, .int last] ∧ IntsAt H r row ∧ IntsAt H ld lead ∧ row.length = N + 1 ∧ lead.length = N + 1 ∧ c ≤ N ∧ N ≤ 1000 ∧
  (∀ j, j ≤ N → (row.getD j 0).natAbs ≤ big) ∧ (∀ j, j ≤ N → (lead.getD j 0).natAbs ≤ big) ∧ last ≠ 0 ∧ last.natAbs ≤ big ∧
  ∀ (H' : Hp) (D : Addr), Same H H' → H D = none → IntsAt H' D (clearedG row lead c last) → Q (.ref D) H'
theorem int_of {as : List Int} {i : Nat} {y : V} (hi : (as.map V.int)[i]? = some y) : ∃ d, as[i]? = some d ∧ y = V.int d := by
  rw [List.getElem?_map] at hi
  obtain ⟨d, h1, h2⟩ := Option.map_eq_some_iff.mp hi
  exact ⟨d, h1, h2.symm⟩
section
variable {P : Program} {w : World} {K : PySem.W.Frag} {mg : Str → Option Value} {base : Heap} {A : Adr}
theorem sc_lead : FnScope ["rows", "column", "at", "brought"] ["rows", "column"] (defScope dLead) := ⟨rfl, rfl, rfl, by decide +kernel, rfl, by decide +kernel, by decide +kernel⟩
theorem ok_lead (T : Txt K mg A) : CallOk P w K mg base 1 "with_lead" ["rows", "column"] spLead := by
  refine T.lead.ok sc_lead (fun vs H Q E h => ?_) (fun f cdv Ar outer s H vs Q E hr h => ?_)
  · obtain ⟨r, rs, R, c, N, rfl, _⟩ := h
    rfl
  · obtain ⟨r, rs, R, c, N, rfl, hr0, hR, S, hc, ex, q⟩ := h
    obtain ⟨l1, l2, l3, l4⟩ := leadAt_spec S ex
    have hRl : R.length = N := S.1
    refine ⟨_, pss_cons (ps_set (i := 2) sc_lead.nd rfl (Or.inl rfl) (pv 1))
      (pss_cons (ps_while PassesOwn.never (pt_cmpR op_eq (pe_ix ix_list (pe_ix ix_list (pv 0) (pv 2) (fun _ _ => rfl)) (pv 1) (fun _ _ => rfl)) pe_int (nomark _)) (pss_one (ps_aug (i := 2) sc_lead.nd rfl (Or.inl rfl) pe_int iop_add)))
      (pss_cons (ps_set (i := 3) sc_lead.nd rfl (Or.inl rfl) (pe_callTy call_list_of (by rfl) T.list (by decide +kernel) (pa_cons (pv 0) pa_nil)))
      (pss_cons (ps_asg (pe_ix ix_list (pv 0) (pv 2) (fun _ _ => rfl)) (pg_sub (pv 3) (pv 1) set_list))
      (pss_cons (ps_asg (pe_ix ix_list (pv 0) (pv 1) (fun _ _ => rfl)) (pg_sub (pv 3) (pv 2) set_list))
      (pss_one (ps_ret (pv 3))))))), ?_⟩
    refine ⟨_, rfl, ?_⟩
    refine ⟨fun m σ H' => H = H' ∧ ∃ a : Nat, m = N - a ∧ c ≤ a ∧ a ≤ leadAt R c ∧ σ = [some (.ref r), some (.int c), some (.int a), none], ⟨_, rfl, c, rfl, Nat.le_refl _, l1, rfl⟩, ?_⟩
    rintro m σ H' ⟨rfl, a, rfl, h1, h2, rfl⟩
    obtain ⟨x, hx, hxi⟩ := hR.get (k := a) (by omega)
    have hxl : c < (R.getD a []).length := by rw [S.2 a (by omega)]; omega
    refine ⟨_, rfl, _, rfl, r, _, _, _, rfl, rfl, SqL.of hr0, refs_at hx, _, rfl, x, _, _, _, rfl, rfl, SqL.of hxi, ints_at hxl, rfl, _, rfl, ?_⟩
    by_cases e : ent R a c = 0
    · refine ifT (decide_eq_true (by rw [show (R.getD a []).getD c 0 = 0 from e])) ?_
      have hlt : a < leadAt R c := by
        rcases Nat.lt_or_ge a (leadAt R c) with z | z
        · exact z
        · have : a = leadAt R c := by omega
          rw [this] at e; exact absurd e l3
      refine ⟨fun σ' H' => H = H' ∧ σ' = [some (.ref r), some (.int c), some (.int (a + 1 : Nat)), none], ?_, ?_⟩
      · rintro σ' H' ⟨rfl, rfl⟩
        exact ⟨N - (a + 1), by omega, rfl, a + 1, rfl, by omega, by omega, rfl⟩
      · exact ⟨_, rfl, _, _, rfl, rfl, rfl, rfl⟩
    · refine ifN (by intro z; have z := of_decide_eq_true z; injection z with z; exact e z) ?_
      have ea : a = leadAt R c := by
        rcases Nat.lt_or_ge a (leadAt R c) with z | z
        · exact absurd (l4 a h1 z) e
        · omega
      subst ea
      obtain ⟨y, hy, hyi⟩ := hR.get (k := c) (by omega)
      refine ⟨_, rfl, r, _, rfl, .inl (SqL.of hr0), fun D hD => ?_⟩
      have s1 : Same H (upd H D (.lst (rs.map V.ref))) := same_new hD
      have nD : ∀ d ∈ rs, d ≠ D := fun d hd => by
        obtain ⟨j, hj⟩ := List.getElem?_of_mem hd
        exact ne_of_none (hR.at_ j d hj) hD
      have hrD : r ≠ D := ne_of_none hr0 hD
      refine ⟨_, rfl, _, rfl, r, _, _, _, rfl, rfl, SqL.of (s1 _ _ hr0), refs_at hx, ?_⟩
      refine ⟨_, rfl, _, rfl, D, _, _, c, rfl, rfl, upd_same, ixN_nat (by rw [List.length_map, hR.len]; omega), ?_⟩
      refine ⟨_, rfl, _, rfl, r, _, _, _, rfl, rfl, SqL.of (by rw [upd_ne hrD, upd_ne hrD]; exact hr0), refs_at hy, ?_⟩
      refine ⟨_, rfl, _, rfl, D, _, _, leadAt R c, rfl, rfl, upd_same, ixN_nat (by rw [List.length_set, List.length_map, hR.len]; omega), ?_⟩
      refine ⟨_, rfl, ?_⟩
      have eD : upd (upd (upd H D (.lst (rs.map V.ref))) D (.lst ((rs.map V.ref).set c (V.ref x)))) D (.lst (((rs.map V.ref).set c (V.ref x)).set (leadAt R c) (V.ref y))) = upd H D (.lst (((rs.set c x).set (leadAt R c) y).map V.ref)) := by
        rw [upd_upd, upd_upd, List.map_set, List.map_set]
      show Q (.ref D) (upd (upd (upd H D _) D _) D _)
      rw [eD]
      refine q _ D ((rs.set c x).set (leadAt R c) y) (same_new hD) hD upd_same (fun d hd => ?_) ?_
      · rcases List.mem_or_eq_of_mem_set hd with z | z
        · rcases List.mem_or_eq_of_mem_set z with z | z
          · exact z
          · rw [z]; exact List.mem_of_getElem? hx
        · rw [z]; exact List.mem_of_getElem? hy
      · have hR' : RowsL (upd H D (.lst (((rs.set c x).set (leadAt R c) y).map V.ref))) rs R := hR.upd nD
        have hx' : IntsAt (upd H D (.lst (((rs.set c x).set (leadAt R c) y).map V.ref))) x (R.getD (leadAt R c) []) := hR'.at_ _ x hx
        have hy' : IntsAt (upd H D (.lst (((rs.set c x).set (leadAt R c) y).map V.ref))) y (R.getD c []) := hR'.at_ _ y hy
        exact (hR'.set (by omega) hx').set (by rw [List.length_set]; omega) hy'
theorem sc_cleared : FnScope ["row", "lead", "column", "last", "factor", "x", "y"] ["row", "lead", "column", "last"] (defScope dCleared) := ⟨rfl, rfl, rfl, by decide +kernel, rfl, by decide +kernel, by decide +kernel⟩
theorem ok_cleared (T : Txt K mg A) : CallOk P w K mg base 1 "cleared" ["row", "lead", "column", "last"] spCleared := by
  refine T.cleared.ok sc_cleared (fun vs H Q E h => ?_) (fun f cdv Ar outer s H vs Q E hr h => ?_)
  · obtain ⟨r, ld, row, lead, c, N, last, rfl, _⟩ := h
    rfl
  · obtain ⟨r, ld, row, lead, c, N, last, rfl, hrow, hlead, rl, ll, hc, hN, b1, b2, l0, lb, q⟩ := h
    refine ⟨_, pss_cons (ps_set (i := 4) sc_cleared.nd rfl (Or.inr rfl) (pe_ix ix_list (pv 0) (pv 2) (fun _ _ => rfl)))
      (pss_one (ps_ret (pe_lc (own := [("x", 5), ("y", 6)]) (g := gTup K 2 (gCons (gName 5) (gCons (gName 6) gNil))) (tt := tYes) (te := tOp (rI CDivB fun i j => .int (i.fdiv j)) (tOp (rI0 fun i j => .int (i - j)) (tOp (rI CMulB fun i j => .int (i * j)) (tOp (rIxL K) (tVar 1) (tVar 2)) (tVar 5)) (tOp (rI CMulB fun i j => .int (i * j)) (tVar 4) (tVar 6))) (tVar 3)) rfl sc_cleared.nd (pi_zip (by rfl) T.zip (pa_cons (pv 0) (pa_cons (pv 1) pa_nil))) (blkOk_by (by rfl))
        (fun _ _ _ _ _ => pg_tup rfl (pgs_cons (pg_name (i := 5) sc_cleared.nd rfl (Or.inl rfl)) (pgs_cons (pg_name (i := 6) sc_cleared.nd rfl (Or.inl rfl)) pgs_nil))) (fun _ _ _ _ _ => pts_nil)
        (fun _ _ _ _ _ => pe_op op_fdivB (pe_op op_sub (pe_op op_mulB (pe_ix ix_list (pv 1) (pv 2) (fun _ _ => rfl)) (pv 5)) (pe_op op_mulB (pv 4) (pv 6))) (pv 3))))), ?_⟩
    refine ⟨_, rfl, _, rfl, r, _, _, _, rfl, rfl, SqL.of hrow, ints_at (by omega), ?_⟩
    refine ⟨_, rfl, _, rfl, r, ld, _, _, rfl, SqL.of hrow, SqL.of hlead, fun D hD => ?_⟩
    refine lc_zip (K := K) (a := r) (b := ld) (xs := row.map V.int) (ys := lead.map V.int) (by rw [List.length_map, List.length_map]; omega)
      (fun i H' => Same H H' ∧ IntsAt H' D (List.zipWith (fun x y => (lead.getD c 0 * x - row.getD c 0 * y).fdiv last) (row.take i) (lead.take i))) ?_ ?_ ?_ ?_
    · exact ⟨same_new hD, upd_same⟩
    · intro i H' _ ⟨s1, _⟩
      exact ⟨SqL.of (s1 _ _ hrow), SqL.of (s1 _ _ hlead)⟩
    · rintro i x0 y0 Tp H' hx0 hy0 hTp ⟨s1, hd⟩
      obtain ⟨x, hx, rfl⟩ := int_of hx0
      obtain ⟨y, hy, rfl⟩ := int_of hy0
      have hin : i < row.length := (List.getElem?_eq_some_iff.mp hx).1
      have ex : row.getD i 0 = x := ge_get hx
      have ey : lead.getD i 0 = y := ge_get hy
      have s2 : Same H (upd H' Tp (.tup [.int x, .int y])) := s1.trans (same_new hTp)
      have hdT : D ≠ Tp := ne_of_none hd hTp
      refine ⟨Tp, _, rfl, SqT.of upd_same, rfl, _, _, rfl, _, _, rfl, rfl, rfl, ?_⟩
      refine ⟨_, rfl, _, rfl, ld, _, _, _, rfl, rfl, SqL.of (s2 _ _ hlead), ints_at (by omega), _, rfl, _, _, rfl, rfl, ⟨b2 c hc, by rw [← ex]; exact b1 i (by omega)⟩, ?_⟩
      refine ⟨_, rfl, _, rfl, _, _, rfl, rfl, ⟨b1 c hc, by rw [← ey]; exact b2 i (by omega)⟩, _, _, rfl, rfl, ?_⟩
      refine ⟨_, rfl, _, _, rfl, rfl, ⟨l0, lb⟩, _, (by rw [upd_ne hdT]; exact hd), ?_, ?_, ?_⟩
      · rw [List.length_map, List.length_zipWith, List.length_take, List.length_take]
        exact Nat.lt_of_le_of_lt (by omega : _ ≤ 1001) (by decide)
      · intro b o e
        rw [upd_ne (ne_of_none e hD)]; exact s2 b o e
      · unfold IntsAt
        rw [upd_same, List.take_add_one, List.take_add_one, hx, hy, List.zipWith_append (by rw [List.length_take, List.length_take]; omega), List.map_append]; rfl
    · rintro H' ⟨s1, hd⟩
      rw [List.length_map, List.take_length, show lead.take row.length = lead by rw [rl, ← ll, List.take_length]] at hd
      exact q H' D s1 hD hd
end
end Rp
set_option Elab.async false
set_option linter.all false
set_option maxRecDepth 100000
set_option maxHeartbeats 2000000
/-! elimination.py: solved -/
namespace Rp
open PySem PySem.Spec PyProof.Rows L2 Rn
open Rc43 (Net Part)
theorem pow_big {k : Nat} (h : k ≤ 8000) : 2 ^ k ≤ big := by unfold big; exact Nat.pow_le_pow_right (by decide) h
theorem lead_size {N B : Nat} {R : Rws} (S : Shp N R) {k : Nat} (hk : k < N) (ha : leadAt R k < N) (h : ∀ i, i < N → ∀ j, j ≤ N → (ent R i j).natAbs ≤ B) : ∀ i, i < N → ∀ j, j ≤ N → (ent (withLead R k) i j).natAbs ≤ B := by
  intro i hi j hj
  unfold withLead ent
  rw [(shp_swap S hk ha).2 i hi]
  split
  · exact h k hk j hj
  · split
    · exact h _ ha j hj
    · exact h i hi j hj
theorem atI_end {xs : List Int} {N : Nat} (h : xs.length = N + 1) : atI (xs.map V.int) (-1) = some (.int (xs.getD N 0)) := by
  unfold atI
  rw [show ixN (xs.map V.int).length (-1) = some N by
    unfold ixN
    rw [List.length_map, h, if_neg (by decide), if_pos (by omega)]
    congr 1
    omega]
  show (xs.map V.int)[N]? = _
  rw [List.getElem?_map, List.getElem?_eq_getElem (by omega), getD_get (by omega)]; rfl
def unkG (n : Net) : List Int := (List.range (dimN n)).map (uG n) ++ [dG n]
def spSolved : Sp := fun vs H Q _ => ∃ (r : Addr) (rs : List Addr) (n : Net), vs = [.ref r] ∧ H r = some (.lst (rs.map V.ref)) ∧ RowsL H rs (lawRows n) ∧ GoodN n ∧ oneG n = true ∧
  ∀ (H' : Hp) (D : Addr), Same H H' → IntsAt H' D (unkG n) → Q (.ref D) H'
section
variable {P : Program} {w : World} {K : PySem.W.Frag} {mg : Str → Option Value} {base : Heap} {A : Adr}
theorem sc_solved : FnScope ["rows", "unknowns", "last", "column", "lead", "at", "row"] ["rows"] (defScope dSolved) := ⟨rfl, rfl, rfl, by decide +kernel, rfl, by decide +kernel, by decide +kernel⟩
theorem ok_solved (T : Txt K mg A) : CallOk P w K mg base 2 "solved" ["rows"] spSolved := by
  have G1 : CallOk P w K mg base 1 "with_lead" ["rows", "column"] spLead := ok_lead T
  have G2 : CallOk P w K mg base 1 "cleared" ["row", "lead", "column", "last"] spCleared := ok_cleared T
  refine T.solved.ok sc_solved (fun vs H Q E h => ?_) (fun f cdv Ar outer s H vs Q E hr h => ?_)
  · obtain ⟨r, rs, n, rfl, _⟩ := h
    rfl
  · obtain ⟨r, rs, n, rfl, hr0, hR, G, one, q⟩ := h
    have Tv := good_triv G one
    have S0 := law_shp G
    have TI := law_triv G Tv
    have dl := dim_le G
    have ln : (lawRows n).length = dimN n := S0.1
    refine ⟨_, pss_cons (ps_set (i := 1) sc_solved.nd rfl (Or.inl rfl) (pe_callB call_len_seq (by rfl) T.len PySem.boot_len (pa_cons (pv 0) pa_nil)))
      (pss_cons (ps_set (i := 2) sc_solved.nd rfl (Or.inr rfl) pe_int)
      (pss_cons (ps_for PassesOwn.never rfl (pi_range1 (by rfl) T.range (pa_cons (pv 1) pa_nil)) (pg_name (i := 3) sc_solved.nd rfl (Or.inr rfl))
        (pss_cons (ps_set (i := 0) sc_solved.nd rfl (Or.inl rfl) (pe_fn G1 hr (pa_cons (pv 0) (pa_cons (pv 3) pa_nil))))
        (pss_cons (ps_set (i := 4) sc_solved.nd rfl (Or.inr rfl) (pe_ix ix_list (pv 0) (pv 3) (fun _ _ => rfl)))
        (pss_cons (ps_setLc (i := 0) (own := [("at", 5), ("row", 6)]) (g := gTup K 2 (gCons (gName 5) (gCons (gName 6) gNil))) (tt := tYes) (te := tIf (tTest (tOp rEq (tVar 5) (tVar 3))) (tVar 6) (tFn spCleared (tCons (tVar 6) (tCons (tVar 4) (tCons (tVar 3) (tCons (tVar 2) tNil)))))) rfl sc_solved.nd rfl rfl (sw_true rfl rfl rfl (by decide +kernel)) (pi_enum (by rfl) T.enum (pa_cons (pv 0) pa_nil)) (blkOk_by (by rfl))
          (fun _ _ _ _ _ => pg_tup rfl (pgs_cons (pg_name (i := 5) sc_solved.nd rfl (Or.inl rfl)) (pgs_cons (pg_name (i := 6) sc_solved.nd rfl (Or.inl rfl)) pgs_nil))) (fun _ _ _ _ _ => pts_nil)
          (fun _ _ _ _ _ => pe_ifExp (pt_cmpR op_eq (pv 5) (pv 3) (nomark _)) (pv 6) (pe_fn G2 hr (pa_cons (pv 6) (pa_cons (pv 4) (pa_cons (pv 3) (pa_cons (pv 2) pa_nil)))))))
        (pss_one (ps_set (i := 2) sc_solved.nd rfl (Or.inr rfl) (pe_ix ix_list (pv 4) (pv 3) (fun _ _ => rfl))))))))
      (pss_one (ps_ret (pe_op op_cat (pe_lc (own := [("row", 6)]) (g := gName 6) (tt := tYes) (te := tOp (rIxL K) (tVar 6) (tUn (rU fun i => .int (-i)) (tC (.int 1)))) rfl sc_solved.nd (pi_list (pv 0)) (blkOk_by (by rfl)) (fun _ _ _ _ _ => pg_name (i := 6) sc_solved.nd rfl (Or.inl rfl))
        (fun _ _ _ _ _ => pts_nil) (fun _ _ _ _ _ => pe_ix ix_list (pv 6) (pe_un un_neg pe_int) (fun _ _ => rfl))) (pe_lst (pa_cons (pv 2) pa_nil))))))), ?_⟩
    refine ⟨_, rfl, r, _, rfl, .inl (SqL.of hr0), ?_⟩
    have elen : (((rs.map V.ref).length : Nat) : Int) = ((dimN n : Nat) : Int) := by rw [List.length_map, hR.len, ln]
    refine ⟨_, rfl, _, rfl, (by rw [elen]; omega), (by rw [elen]; omega), ?_⟩
    have en : (((rs.map V.ref).length : Nat) : Int).toNat = dimN n := by rw [elen]; exact Int.toNat_natCast _
    rw [en]
    refine for_range (lo := 0) (n := dimN n) (fun k σ H' => ∃ (r' : Addr) (rs' : List Addr) (v3 v4 : Option V), σ = [some (.ref r'), some (.int ((rs.map V.ref).length : Nat)), some (.int (elim (lawRows n) k).2), v3, v4, none, none] ∧ Same H H' ∧
      H' r' = some (.lst (rs'.map V.ref)) ∧ RowsL H' rs' (elim (lawRows n) k).1) ?_ ?_ ?_
    · exact ⟨r, rs, none, none, rfl, Same.refl H, hr0, hR⟩
    · rintro k σ H1 hk ⟨r1, rs1, v3, v4, rfl, s1, hr1, hR1⟩
      have I := elim_inv S0 TI k (by omega)
      have lead := elim_lead S0 TI hk
      have S2 := elim_shp2 S0 TI hk
      have sz := elim_size G Tv (k := k) (by omega)
      have sz2 := lead_size I.shp hk lead.2.1 sz.2
      have ek : (0 : Int) + (k : Int) = ((k : Nat) : Int) := Int.zero_add _
      rw [ek]
      -- rows = with_lead(rows, column)
      refine ⟨_, rfl, _, rfl, r1, rs1, _, k, dimN n, rfl, hr1, hR1, I.shp, hk, ⟨_, lead.1, lead.2.1, lead.2.2.1⟩, fun H2 r2 rs2 s2 nr2 hr2 sub2 hR2 => ?_⟩
      -- lead = rows[column]
      obtain ⟨ld, hld, hldi⟩ := hR2.get (k := k) (by rw [S2.1]; exact hk)
      refine ⟨_, rfl, _, rfl, r2, _, _, _, rfl, rfl, SqL.of hr2, refs_at hld, ?_⟩
      -- rows = [..]
      refine ⟨_, rfl, r2, _, rfl, SqL.of hr2, fun D hD => ?_⟩
      have nD : ∀ d ∈ rs2, d ≠ D := fun d hd => by
        obtain ⟨j, hj⟩ := List.getElem?_of_mem hd
        exact ne_of_none (hR2.at_ j d hj) hD
      refine lc_enum (K := K) (a := r2) (xs := rs2.map V.ref) (fun i H' => Same H2 H' ∧ ∃ ds : List Addr, H' D = some (.lst (ds.map V.ref)) ∧ (∀ d ∈ ds, d ≠ D) ∧ RowsL H' ds ((clearAll (withLead (elim (lawRows n) k).1 k) k (elim (lawRows n) k).2).take i)) ?_ ?_ ?_ ?_
      · exact ⟨same_new hD, [], upd_same, fun d hd => by simp at hd, rfl, fun j y e => by simp at e⟩
      · intro i H' _ ⟨s3, _⟩
        exact SqL.of (s3 _ _ hr2)
      · rintro i y Tp H3 hi hTp ⟨s3, ds, hds, nds, hRd⟩
        obtain ⟨d, hd, rfl⟩ : ∃ d, rs2[i]? = some d ∧ y = V.ref d := by
          rw [List.getElem?_map] at hi
          obtain ⟨d, h1, h2⟩ := Option.map_eq_some_iff.mp hi
          exact ⟨d, h1, h2.symm⟩
        have hin : i < dimN n := by rw [← S2.1, ← hR2.len]; exact (List.getElem?_eq_some_iff.mp hd).1
        have s4 : Same H2 (upd H3 Tp (.tup [.int (i : Nat), .ref d])) := s3.trans (same_new hTp)
        have hDT : D ≠ Tp := ne_of_none hds hTp
        have ndT : ∀ d ∈ ds, d ≠ Tp := fun d hd => by
          obtain ⟨j, hj⟩ := List.getElem?_of_mem hd
          exact ne_of_none (hRd.at_ j d hj) hTp
        have hds4 : (upd H3 Tp (.tup [.int (i : Nat), .ref d])) D = some (.lst (ds.map V.ref)) := by rw [upd_ne hDT]; exact hds
        have hRd4 : RowsL (upd H3 Tp (.tup [.int (i : Nat), .ref d])) ds ((clearAll (withLead (elim (lawRows n) k).1 k) k (elim (lawRows n) k).2).take i) := hRd.upd ndT
        have hdi : IntsAt H2 d ((withLead (elim (lawRows n) k).1 k).getD i []) := hR2.at_ i d hd
        have few : (ds.map V.ref).length < sizeLine := by
          rw [List.length_map, hRd.len, List.length_take]
          exact Nat.lt_of_le_of_lt (Nat.le_trans (Nat.min_le_left _ _) (by omega : i ≤ 1000)) (by decide)
        have cl := clear_get S2 (c := k) (elim (lawRows n) k).2 hin
        have clen : i < (clearAll (withLead (elim (lawRows n) k).1 k) k (elim (lawRows n) k).2).length := by rw [(shp_clear S2 hk (elim (lawRows n) k).2).1.1]; exact hin
        have tk : (clearAll (withLead (elim (lawRows n) k).1 k) k (elim (lawRows n) k).2).take (i + 1) = (clearAll (withLead (elim (lawRows n) k).1 k) k (elim (lawRows n) k).2).take i ++ [(clearAll (withLead (elim (lawRows n) k).1 k) k (elim (lawRows n) k).2).getD i []] := by
          rw [List.take_add_one, List.getElem?_eq_getElem clen, getD_get clen]; rfl
        -- a row is added
        have fin : ∀ (H5 : Hp) (e : Addr) (row : List Int), Same (upd H3 Tp (.tup [.int (i : Nat), .ref d])) H5 → e ≠ D → IntsAt H5 e row → row = (clearAll (withLead (elim (lawRows n) k).1 k) k (elim (lawRows n) k).2).getD i [] →
            ∃ acc, H5 D = some (.lst acc) ∧ acc.length < sizeLine ∧ (Same H2 (upd H5 D (.lst (acc ++ [V.ref e]))) ∧ ∃ ds : List Addr, (upd H5 D (.lst (acc ++ [V.ref e]))) D = some (.lst (ds.map V.ref)) ∧ (∀ d ∈ ds, d ≠ D) ∧ RowsL (upd H5 D (.lst (acc ++ [V.ref e]))) ds ((clearAll (withLead (elim (lawRows n) k).1 k) k (elim (lawRows n) k).2).take (i + 1))) := by
          intro H5 e row s5 eD hrow er
          refine ⟨_, s5 _ _ hds4, few, fun b o eb => ?_, ds ++ [e], ?_, ?_, ?_⟩
          · rw [upd_ne (ne_of_none eb hD)]; exact s5 _ _ (s4 _ _ eb)
          · rw [upd_same, List.map_append]; rfl
          · intro d' hd'
            rcases List.mem_append.mp hd' with z | z
            · exact nds d' z
            · rw [List.mem_singleton.mp z]; exact eD
          · rw [tk, ← er]
            exact ((hRd4.same s5).snoc hrow).upd (D := D) fun d' hd' => by
              rcases List.mem_append.mp hd' with z | z
              · exact nds d' z
              · rw [List.mem_singleton.mp z]; exact eD
        refine ⟨Tp, _, rfl, SqT.of upd_same, rfl, _, _, rfl, _, _, rfl, rfl, rfl, ?_⟩
        refine ⟨_, rfl, _, rfl, rfl, _, rfl, ?_⟩
        by_cases e : i = k
        · refine ifT (decide_eq_true (by rw [e])) ?_
          refine ⟨_, rfl, ?_⟩
          refine fin _ d _ (Same.refl _) (nD d (List.mem_of_getElem? hd)) (hdi.same s4) ?_
          rw [cl, if_pos e]
        · refine ifN (by intro z; have z := of_decide_eq_true z; injection z with z; omega) ?_
          refine ⟨_, rfl, _, rfl, _, rfl, _, rfl, d, ld, _, _, k, dimN n, _, rfl, hdi.same s4, hldi.same s4, S2.2 i hin, S2.2 k hk, (by omega), (by omega), ?_, ?_, einv_last I, ?_, fun H5 e5 s5 ne5 h5 => ?_⟩
          · exact fun j hj => Nat.le_trans (sz2 i hin j hj) (pow_big (by decide))
          · exact fun j hj => Nat.le_trans (sz2 k hk j hj) (pow_big (by decide))
          · exact Nat.le_trans sz.1 (pow_big (by decide))
          · refine fin H5 e5 _ s5 (fun z => ?_) h5 ?_
            · rw [z, hds4] at ne5; cases ne5
            · rw [cl, if_neg e]
      · rintro H3 ⟨s3, ds, hds, nds, hRd⟩
        have e : (rs2.map V.ref).length = (clearAll (withLead (elim (lawRows n) k).1 k) k (elim (lawRows n) k).2).length := by
          rw [List.length_map, hR2.len, S2.1, (shp_clear S2 hk (elim (lawRows n) k).2).1.1]
        rw [e, List.take_length] at hRd
        -- last = lead[column]
        refine ⟨_, rfl, _, rfl, ld, _, _, _, rfl, rfl, SqL.of (s3 _ _ hldi), ints_at (by rw [S2.2 k hk]; omega), ?_⟩
        exact ⟨D, ds, _, _, rfl, (s1.trans s2).trans s3, hds, hRd⟩
    · rintro σ H1 ⟨r1, rs1, v3, v4, rfl, s1, hr1, hR1⟩
      have I := elim_inv S0 TI (dimN n) (Nat.le_refl _)
      refine ⟨_, rfl, r1, rfl, ⟨_, SqL.of hr1⟩, fun D hD => ?_⟩
      refine lc_list (K := K) (a := r1) (xs := rs1.map V.ref) (fun i H' => Same H1 H' ∧ IntsAt H' D ((List.range i).map (uG n))) ?_ ?_ ?_ ?_
      · exact ⟨same_new hD, upd_same⟩
      · intro i H' _ ⟨s3, _⟩
        exact SqL.of (s3 _ _ hr1)
      · rintro i y H3 hi ⟨s3, hd3⟩
        obtain ⟨d, hd, rfl⟩ : ∃ d, rs1[i]? = some d ∧ y = V.ref d := by
          rw [List.getElem?_map] at hi
          obtain ⟨d, h1, h2⟩ := Option.map_eq_some_iff.mp hi
          exact ⟨d, h1, h2.symm⟩
        have hin : i < dimN n := by rw [← I.shp.1, ← hR1.len]; exact (List.getElem?_eq_some_iff.mp hd).1
        have hdi := hR1.at_ i d hd
        refine ⟨rfl, ?_⟩
        refine ⟨_, rfl, _, rfl, d, _, _, _, rfl, rfl, SqL.of (s3 _ _ hdi), atI_end (I.shp.2 i hin), _, hd3, ?_, ?_, ?_⟩
        · rw [List.length_map, List.length_map, List.length_range]
          exact Nat.lt_of_le_of_lt (by omega : i ≤ 1000) (by decide)
        · intro b o e
          rw [upd_ne (ne_of_none e hD)]; exact s3 b o e
        · unfold IntsAt
          rw [upd_same, List.range_succ, List.map_append, List.map_append]; rfl
      · rintro H3 ⟨s3, hd3⟩
        rw [List.length_map, hR1.len, I.shp.1] at hd3
        refine ⟨_, rfl, (by show 1 ≤ sizeLine; decide), fun z hz => ?_⟩
        have hDz : D ≠ z := ne_of_none hd3 hz
        refine ⟨D, z, _, _, rfl, rfl, (by rw [upd_ne hDz]; exact hd3), upd_same, ?_, fun p hp => ?_⟩
        · rw [List.length_map, List.length_map, List.length_range]
          exact Nat.le_trans (by omega : dimN n + 1 ≤ 1000) (by decide)
        · refine q _ p ?_ ?_
          · exact (s1.trans s3).trans ((same_new hz).trans (same_new hp))
          · unfold IntsAt unkG
            rw [upd_same, List.map_append]; rfl
end
end Rp
set_option Elab.async false
set_option linter.all false
set_option maxRecDepth 100000
set_option maxHeartbeats 2000000
/-! laws.py -/
namespace Rp
open PySem PySem.Spec PyProof.Rows L2 Rn
open Rc43 (Net Part)
section
variable {X : Cx}
theorem get_list : PGet X (rIxL X.K) := by
  intro pins s σ H o i ov iv Q I ro ri h
  obtain ⟨p, xs, i, z, rfl, rfl, hq, he, q⟩ := h
  cases ro
  obtain ⟨t, rfl⟩ := ri
  obtain ⟨its, r, pl, hz⟩ := I.list hq
  obtain ⟨j, h1, h2, h3, h4, h5⟩ := atI_get he
  obtain ⟨w, ew, rw'⟩ := r.get h2
  have hl := r.length
  have hn := line63
  have fin : EP X pins σ Q w s := ⟨z, H, I, rw', q⟩
  by_cases h0 : 0 ≤ i
  · have hj : i.toNat = j := by
      rw [seqIndex_of h0 h5] at h1
      exact Option.some.inj h1
    exact wpAny_getItem_list pl.isList h0 (by omega) (by rw [hj]; simpa using ew) fin
  · have hj : (i + (its.toArray.size : Int)).toNat = j := by
      rw [seqIndex_neg (by omega) h4] at h1
      rw [List.size_toArray, ← hl]
      exact Option.some.inj h1
    exact wpAny_getItem_list_neg pl.isList (by omega) (by rw [List.size_toArray] <;> omega) (by omega) (by rw [hj]; simpa using ew) fin
theorem call_lenRd : CallR X (.builtin "len") (fun xs H Q => ∃ a kvs, xs = [V.ref a] ∧ Rd H a (.dK kvs) ∧ Q (.int kvs.length) H) := by
  intro pins s σ H xs us Q I r h
  obtain ⟨a, kvs, rfl, ha, q⟩ := h
  obtain ⟨u, rfl, ru⟩ := vals1 r
  cases ru
  exact d_len I ha fun t s' I' => ⟨.int kvs.length, H, I', ⟨t, rfl⟩, q⟩
end
theorem for_keys {d : Addr} {o : Obj} {kvs : List (Key × V)} {g : TG} {tb : TS} {D : Ends} {σ : L2.St} {H : Hp} (Pv : Nat → L2.St → Hp → Prop) (h0 : Pv 0 σ H) (hl : ∀ i σ H, i ≤ kvs.length → Pv i σ H → H d = some (.frz o (.dK kvs)))
    (hs : ∀ i k v σ H, kvs[i]? = some (k, v) → Pv i σ H → g (kV k) σ H fun σ2 H2 => tb { D with nx := Pv (i + 1), ct := Pv (i + 1), bk := D.nx } σ2 H2) (hd : ∀ σ H, Pv kvs.length σ H → D.nx σ H) :
    ∃ W : Nat → Nat → L2.St → Hp → Prop, (∃ m, W 0 m σ H) ∧ ∀ i m σ H, W i m σ H →
      ((Itk d o kvs).stop i H ∧ D.nx σ H) ∨ ((Itk d o kvs).go i H ∧ ∃ N : L2.St → Hp → Prop, (∀ σ' H', N σ' H' → ∃ m', m' < m ∧ W (i + 1) m' σ' H') ∧ ∀ x H', (Itk d o kvs).yld i H x H' → g x σ H' fun σ2 H2 => tb { D with nx := N, ct := N, bk := D.nx } σ2 H2) := by
  refine ⟨fun i m σ H => m = kvs.length - i ∧ i ≤ kvs.length ∧ Pv i σ H, ⟨kvs.length, by simp, Nat.zero_le _, h0⟩, ?_⟩
  rintro i m σ H ⟨rfl, hi, p⟩
  have q := hl i σ H hi p
  by_cases hlt : i < kvs.length
  · refine .inr ⟨⟨q, hlt⟩, Pv (i + 1), fun σ' H' p' => ⟨kvs.length - (i + 1), by omega, rfl, hlt, p'⟩, fun x H' y => ?_⟩
    obtain ⟨rfl, k, v, hk, rfl⟩ := y
    exact hs i k v σ _ hk p
  · have e : i = kvs.length := by omega
    subst e
    exact .inl ⟨⟨q, Nat.le_refl _⟩, hd σ H p⟩
def plcK (n : Net) (L : List Nat) : List (Key × V) := L.map fun (j : Nat) => ((Sum.inl (j : Int) : Key), V.int (place n j))
theorem plc_val (n : Net) (j : Nat) : ∀ L : List Nat, valV (plcK n L) (Sum.inl (j : Int)) = if j ∈ L then some (V.int (place n j)) else none
  | [] => rfl
  | i :: L => by
    have ih := plc_val n j L
    show valV (((Sum.inl (i : Int) : Key), V.int (place n i)) :: plcK n L) _ = _
    by_cases e : i = j
    · subst e
      rw [valV_pos rfl, if_pos (by simp)]
    · rw [valV_neg (by intro z; injection z with z; omega), ih]
      by_cases m : j ∈ L
      · rw [if_pos m, if_pos (List.mem_cons_of_mem _ m)]
      · rw [if_neg m, if_neg (by intro z; rcases List.mem_cons.mp z with z | z; exact e z.symm; exact m z)]
theorem plc_len (n : Net) (k : Nat) : (plcK n (srcs n k)).length = numS n k := by unfold plcK; rw [List.length_map, srcs_len]
def spPlaces (A : Adr) : Sp := fun vs H Q _ => ∃ (x : Addr) (n : Net) (l : Addr) (as : List Addr), vs = [.ref x] ∧ NetAt A H x n l as ∧ GoodN n ∧
  ∀ (H' : Hp) (D : Addr), Same H H' → H D = none → H' D = some (.dK (plcK n (srcs n n.parts.length))) → Q (.ref D) H'
def spRow (A : Adr) (more : List V → Net → Prop) (row : List V → Net → List Int) : Sp := fun vs H Q _ => ∃ (x d : Addr) (n : Net) (l : Addr) (as : List Addr) (r : List V), vs = .ref x :: .ref d :: r ∧ NetAt A H x n l as ∧ GoodN n ∧ Rd H d (.dK (plcK n (srcs n n.parts.length))) ∧ more r n ∧
  ∀ (H' : Hp) (D : Addr), Same H H' → H D = none → IntsAt H' D (row r n) → Q (.ref D) H'
def intOf (v : V) : Int := match v with
  | .int i => i
  | _ => 0
def spEmpty (A : Adr) : Sp := spRow A (fun r _ => r = []) (fun _ n => zeroR n)
def spGround (A : Adr) : Sp := spRow A (fun r _ => r = []) (fun _ n => groundG n)
def spSource (A : Adr) : Sp := spRow A (fun r n => ∃ k : Nat, r = [.int k] ∧ k < n.parts.length) (fun r n => srcG n (intOf (r.getD 0 .non)).toNat)
def spNode (A : Adr) : Sp := spRow A (fun r n => ∃ k : Nat, r = [.int k]) (fun r n => nodeG n (intOf (r.getD 0 .non)).toNat n.parts.length)
def spOhms (A : Adr) : Sp := fun vs H Q _ => ∃ (x : Addr) (n : Net) (l : Addr) (as : List Addr) (v : Nat), vs = [.ref x, .int v] ∧ NetAt A H x n l as ∧ GoodN n ∧ ∀ (H' : Hp), Same H H' → Q (.int (ohmsG n v n.parts.length)) H'
theorem Rd.same {H H' : Hp} {d : Addr} {u : HO} (h : Rd H d u) (s : Same H H') : Rd H' d u := by
  rcases h with h | ⟨o, h⟩
  · exact .inl (s _ _ h)
  · exact .inr ⟨o, s _ _ h⟩
theorem in_two (v a b : Nat) : inV (V.int v) [V.int a, V.int b] = decide (v = a ∨ v = b) := by
  show ((((a : Int) == (v : Int)) || (((b : Int) == (v : Int)) || false)) : Bool) = _
  rw [Bool.or_false, Bool.eq_iff_iff]
  simp only [Bool.or_eq_true, beq_iff_eq, decide_eq_true_eq]
  omega
theorem touch_eq (n : Net) (v k : Nat) : inV (V.int v) [V.int (pt n k).a, V.int (pt n k).b] = touches n v k := in_two v _ _
section
variable {P : Program} {w : World} {K : PySem.W.Frag} {mg : Str → Option Value} {base : Heap} {A : Adr}
theorem sc_places : FnScope ["net", "places", "number", "part"] ["net"] (defScope dPlaces) := ⟨rfl, rfl, rfl, by decide +kernel, rfl, by decide +kernel, by decide +kernel⟩
theorem ref_of {as : List Addr} {i : Nat} {y : V} (hi : (as.map V.ref)[i]? = some y) : ∃ d, as[i]? = some d ∧ y = V.ref d := by
  rw [List.getElem?_map] at hi
  obtain ⟨d, h1, h2⟩ := Option.map_eq_some_iff.mp hi
  exact ⟨d, h1, h2.symm⟩
theorem ok_places (T : Txt K mg A) : CallOk P w K mg base 1 "places_of_amperes" ["net"] (spPlaces A) := by
  refine T.places.ok sc_places (fun vs H Q E h => ?_) (fun f cdv Ar outer s H vs Q E hr h => ?_)
  · obtain ⟨x, n, l, as, rfl, _⟩ := h
    rfl
  · obtain ⟨x, n, l, as, rfl, N, G, q⟩ := h
    obtain ⟨dx, hx⟩ := N.obj
    refine ⟨_, pss_cons (ps_set (i := 1) sc_places.nd rfl (Or.inl rfl) pe_dnewK)
      (pss_cons (ps_for PassesOwn.never rfl (pi_enum (by rfl) T.enum (pa_cons (pe_fld (pv 0) rfl) pa_nil)) (pg_tup rfl (pgs_cons (pg_name (i := 2) sc_places.nd rfl (Or.inl rfl)) (pgs_cons (pg_name (i := 3) sc_places.nd rfl (Or.inl rfl)) pgs_nil)))
        (pss_one (ps_if (pt_cmpR op_eq (pe_fld (pv 3) rfl) (pe_cst T.SV) (nomark _))
          (pss_one (ps_dput (hu_of hr) (pv 1) (pv 2) (pe_op op_add (pe_fld (pv 0) rfl) (pe_callB call_lenRd (by rfl) T.len PySem.boot_len (pa_cons (pv 1) pa_nil))) rfl)) pss_nil)))
      (pss_one (ps_ret (pv 1)))), ?_⟩
    intro D hD
    have s0 : Same H (upd H D (.dK [])) := same_new hD
    refine ⟨_, rfl, x, _, dx, _, _, rfl, s0 _ _ hx, T.kNet, T.nParts, nf_parts _ _, l, _, rfl, SqL.of (s0 _ _ N.lst), ?_⟩
    refine for_enum (K := K) (a := l) (xs := as.map V.ref) (fun i σ H' => ∃ v2 v3 : Option V, σ = [some (.ref x), some (.ref D), v2, v3] ∧ Same H H' ∧ H' D = some (.dK (plcK n (srcs n i)))) ?_ ?_ ?_ ?_
    · exact ⟨none, none, rfl, s0, upd_same⟩
    · rintro i σ H' _ ⟨v2, v3, _, s1, _⟩
      exact SqL.of (s1 _ _ N.lst)
    · rintro i y Tp σ H1 hi hTp ⟨v2, v3, rfl, s1, hd1⟩
      obtain ⟨d, hd, rfl⟩ := ref_of hi
      have s2 : Same H (upd H1 Tp (.tup [.int (i : Nat), .ref d])) := s1.trans (same_new hTp)
      have hd2 : (upd H1 Tp (.tup [.int (i : Nat), .ref d])) D = some (.dK (plcK n (srcs n i))) := by rw [upd_ne (ne_of_none hd1 hTp)]; exact hd1
      obtain ⟨dd, hdd⟩ := (N.parts.at_ i d hd).same s2
      refine ⟨Tp, _, rfl, SqT.of upd_same, rfl, _, _, rfl, _, _, rfl, rfl, ?_⟩
      generalize upd H1 Tp (.tup [.int (i : Nat), .ref d]) = H2 at s2 hd2 hdd
      refine ⟨_, rfl, d, _, dd, _, _, rfl, hdd, T.kPart, T.nKind, pf_kind _ _ _ _, rfl, _, rfl, ?_⟩
      have sr : srcs n (i + 1) = if (pt n i).kind = 1 then srcs n i ++ [i] else srcs n i := rfl
      by_cases e : (pt n i).kind = 1
      · refine ifT (decide_eq_true (by show V.int (((pt n i).kind : Nat) : Int) = V.int 1; rw [e]; rfl)) ?_
        refine ⟨_, rfl, x, _, dx, _, _, rfl, s2 _ _ hx, T.kNet, T.nNC, nf_nc _ _, _, rfl, D, _, rfl, .inl hd2, _, _, rfl, rfl, _, rfl, _, rfl, D, _, rfl, DPut.k (k := Sum.inl ((i : Nat) : Int)) hd2 ?_, ?_⟩
        · rw [plc_len]
          have := numS_le n i
          have := (List.getElem?_eq_some_iff.mp hd).1
          have := N.parts.len
          have := G.few
          exact Nat.lt_of_le_of_lt (by omega : numS n i ≤ 25) (by decide)
        · refine ⟨_, _, rfl, fun b o eb => by rw [upd_ne (ne_of_none eb hD)]; exact s2 b o eb, ?_⟩
          have no : valV (plcK n (srcs n i)) (Sum.inl ((i : Nat) : Int)) = none := by
            rw [plc_val, if_neg (by intro z; have := (srcs_mem n).mp z; omega)]
          rw [upd_same, putK_new _ no, sr, if_pos e, plc_len]
          show some (HO.dK (plcK n (srcs n i) ++ [(Sum.inl ((i : Nat) : Int), V.int ((n.nodes : Int) + ((numS n i : Nat) : Int)))])) = some (HO.dK (plcK n (srcs n i ++ [i])))
          unfold plcK
          rw [List.map_append]
          have ep : (((place n i : Nat)) : Int) = (n.nodes : Int) + ((numS n i : Nat) : Int) := by unfold place; omega
          show _ = some (HO.dK (_ ++ [(Sum.inl ((i : Nat) : Int), V.int ((place n i : Nat) : Int))]))
          rw [ep]
      · refine ifN (by intro z; have z : V.int (((pt n i).kind : Nat) : Int) = V.int 1 := of_decide_eq_true z; injection z with z; exact e (by omega)) ?_
        refine ⟨_, _, rfl, s2, ?_⟩
        rw [sr, if_neg e]; exact hd2
    · rintro σ H1 ⟨v2, v3, rfl, s1, hd1⟩
      rw [List.length_map, N.parts.len] at hd1
      exact ⟨_, rfl, q H1 D s1 hD hd1⟩
theorem sc_empty : FnScope ["net", "places"] ["net", "places"] (defScope dEmpty) := ⟨rfl, rfl, rfl, by decide +kernel, rfl, by decide +kernel, by decide +kernel⟩
theorem ok_empty (T : Txt K mg A) : CallOk P w K mg base 1 "empty_row" ["net", "places"] (spEmpty A) := by
  refine T.empty.ok sc_empty (fun vs H Q E h => ?_) (fun f cdv Ar outer s H vs Q E hr h => ?_)
  · obtain ⟨x, d, n, l, as, r, rfl, _, _, _, rfl, _⟩ := h
    rfl
  · obtain ⟨x, d, n, l, as, r, rfl, N, G, hd, rfl, q⟩ := h
    obtain ⟨dx, hx⟩ := N.obj
    refine ⟨_, pss_one (ps_ret (pe_op op_rep (pe_lst (pa_cons pe_int pa_nil)) (pe_op op_add (pe_op op_add (pe_fld (pv 0) rfl) (pe_callB call_lenRd (by rfl) T.len PySem.boot_len (pa_cons (pv 1) pa_nil))) pe_int))), ?_⟩
    refine ⟨(by show 1 ≤ sizeLine; decide), fun z hz => ?_⟩
    have s1 : Same H (upd H z (.lst [.int 0])) := same_new hz
    have en : ((n.nodes : Int) + (((plcK n (srcs n n.parts.length)).length : Nat) : Int) + 1).toNat = dimN n + 1 := by rw [plc_len]; unfold dimN; omega
    have dl := dim_le G
    refine ⟨_, rfl, x, _, dx, _, _, rfl, s1 _ _ hx, T.kNet, T.nNC, nf_nc _ _, _, rfl, d, _, rfl, Rd.same hd s1, _, _, rfl, rfl, _, _, rfl, rfl, z, _, _, rfl, rfl, upd_same, ?_, ?_, ?_, fun D hD => ?_⟩
    · rw [plc_len]; omega
    · rw [plc_len]
      have := numS_le n n.parts.length
      have := G.few
      have := G.hi
      omega
    · show 1 * _ ≤ _
      rw [en]
      exact Nat.le_trans (by omega : 1 * (dimN n + 1) ≤ 1000) (by decide)
    · refine q _ D (s1.trans (same_new hD)) (s1.free hD) ?_
      unfold IntsAt zeroR
      rw [upd_same, en, List.map_replicate]
      have : ∀ k : Nat, (List.replicate k [V.int 0]).flatten = List.replicate k (V.int 0) := fun k => by
        induction k with
        | zero => rfl
        | succ k ih => rw [List.replicate_succ, List.flatten_cons, ih]; rfl
      rw [this]
theorem sc_ground : FnScope ["net", "places", "row"] ["net", "places"] (defScope dGround) := ⟨rfl, rfl, rfl, by decide +kernel, rfl, by decide +kernel, by decide +kernel⟩
theorem ok_ground (T : Txt K mg A) : CallOk P w K mg base 2 "law_of_ground" ["net", "places"] (spGround A) := by
  have G1 : CallOk P w K mg base 1 "empty_row" ["net", "places"] (spEmpty A) := ok_empty T
  refine T.ground.ok sc_ground (fun vs H Q E h => ?_) (fun f cdv Ar outer s H vs Q E hr h => ?_)
  · obtain ⟨x, d, n, l, as, r, rfl, _, _, _, rfl, _⟩ := h
    rfl
  · obtain ⟨x, d, n, l, as, r, rfl, N, G, hd, rfl, q⟩ := h
    refine ⟨_, pss_cons (ps_set (i := 2) sc_ground.nd rfl (Or.inl rfl) (pe_fn G1 hr (pa_cons (pv 0) (pa_cons (pv 1) pa_nil)))) (pss_cons (ps_asg pe_int (pg_sub (pv 2) pe_int set_list)) (pss_one (ps_ret (pv 2)))), ?_⟩
    refine ⟨_, rfl, _, rfl, x, d, n, l, as, [], rfl, N, G, hd, rfl, fun H1 D s1 nD h1 => ?_⟩
    refine ⟨_, rfl, D, _, _, 0, rfl, rfl, h1, ixN_nat (j := 0) (by rw [List.length_map, zeroR_len]; omega), ?_⟩
    refine ⟨_, rfl, q _ D (fun b o e => by rw [upd_ne (ne_of_none e nD)]; exact s1 b o e) nD ?_⟩
    unfold IntsAt groundG
    rw [upd_same, List.map_set]
theorem set_end {N : Nat} {xs : List V} (h : xs.length = N + 1) : ixN xs.length (-1) = some N := by
  unfold ixN
  rw [h, if_neg (by decide), if_pos (by omega)]
  congr 1
  omega
theorem sc_source : FnScope ["net", "places", "number", "part", "row"] ["net", "places", "number"] (defScope dSource) := ⟨rfl, rfl, rfl, by decide +kernel, rfl, by decide +kernel, by decide +kernel⟩
theorem ok_source (T : Txt K mg A) : CallOk P w K mg base 2 "law_of_source" ["net", "places", "number"] (spSource A) := by
  have G1 : CallOk P w K mg base 1 "empty_row" ["net", "places"] (spEmpty A) := ok_empty T
  refine T.source.ok sc_source (fun vs H Q E h => ?_) (fun f cdv Ar outer s H vs Q E hr h => ?_)
  · obtain ⟨x, d, n, l, as, r, rfl, _, _, _, ⟨k, rfl, _⟩, _⟩ := h
    rfl
  · obtain ⟨x, d, n, l, as, r, rfl, N, G, hd, ⟨k, rfl, hk⟩, q⟩ := h
    obtain ⟨dx, hx⟩ := N.obj
    obtain ⟨c, hc, hcp⟩ := N.get hk
    have hp := G.part k hk
    have dm : n.nodes ≤ dimN n := by unfold dimN; omega
    refine ⟨_, pss_cons (ps_set (i := 3) sc_source.nd rfl (Or.inl rfl) (pe_ix ix_list (pe_fld (pv 0) rfl) (pv 2) (fun _ _ => rfl)))
      (pss_cons (ps_set (i := 4) sc_source.nd rfl (Or.inl rfl) (pe_fn G1 hr (pa_cons (pv 0) (pa_cons (pv 1) pa_nil))))
      (pss_cons (ps_asg pe_int (pg_sub (pv 4) (pe_fld (pv 3) rfl) set_list))
      (pss_cons (ps_asg (pe_un un_neg pe_int) (pg_sub (pv 4) (pe_fld (pv 3) rfl) set_list))
      (pss_cons (ps_asg (pe_fld (pv 3) rfl) (pg_sub (pv 4) (pe_un un_neg pe_int) set_list))
      (pss_one (ps_ret (pv 4))))))), ?_⟩
    refine ⟨_, rfl, x, _, dx, _, _, rfl, hx, T.kNet, T.nParts, nf_parts _ _, _, rfl, l, _, _, _, rfl, rfl, SqL.of N.lst, refs_at hc, ?_⟩
    refine ⟨_, rfl, _, rfl, x, d, n, l, as, [], rfl, N, G, hd, rfl, fun H1 D s1 nD h1 => ?_⟩
    have hcD : ∀ {dd : Addr} {fs : List (Str × V)}, H c = some (.ins A.cPart dd fs) → c ≠ D := fun e => ne_of_none e nD
    obtain ⟨dc, hcc⟩ := hcp
    have cD : c ≠ D := hcD hcc
    have hc1 := s1 _ _ hcc
    refine ⟨_, rfl, _, rfl, c, _, dc, _, _, rfl, hc1, T.kPart, T.nA, pf_a _ _ _ _, D, _, _, (pt n k).a, rfl, rfl, h1, ixN_nat (by rw [List.length_map, zeroR_len]; omega), ?_⟩
    refine ⟨_, rfl, _, rfl, _, rfl, c, _, dc, _, _, rfl, (by rw [upd_ne cD]; exact hc1), T.kPart, T.nB, pf_b _ _ _ _, D, _, _, (pt n k).b, rfl, rfl, upd_same, ixN_nat (by rw [List.length_set, List.length_map, zeroR_len]; omega), ?_⟩
    refine ⟨_, rfl, c, _, dc, _, _, rfl, (by rw [upd_ne cD, upd_ne cD]; exact hc1), T.kPart, T.nMuch, pf_much _ _ _ _, _, rfl, _, rfl, D, _, _, dimN n, rfl, rfl, upd_same, set_end (by rw [List.length_set, List.length_set, List.length_map, zeroR_len]), ?_⟩
    refine ⟨_, rfl, q _ D (fun b o e => ?_) nD ?_⟩
    · have bD : b ≠ D := ne_of_none e nD
      rw [upd_ne bD, upd_ne bD, upd_ne bD]; exact s1 b o e
    · unfold IntsAt srcG
      rw [upd_same, List.map_set, List.map_set, List.map_set]
      rfl
theorem sc_ohms : FnScope ["net", "node", "ohms", "part"] ["net", "node"] (defScope dOhms) := ⟨rfl, rfl, rfl, by decide +kernel, rfl, by decide +kernel, by decide +kernel⟩
theorem ok_ohms (T : Txt K mg A) : CallOk P w K mg base 1 "ohms_at" ["net", "node"] (spOhms A) := by
  refine T.ohms.ok sc_ohms (fun vs H Q E h => ?_) (fun f cdv Ar outer s H vs Q E hr h => ?_)
  · obtain ⟨x, n, l, as, v, rfl, _⟩ := h
    rfl
  · obtain ⟨x, n, l, as, v, rfl, N, G, q⟩ := h
    obtain ⟨dx, hx⟩ := N.obj
    refine ⟨_, pss_cons (ps_set (i := 2) sc_ohms.nd rfl (Or.inl rfl) pe_int)
      (pss_cons (ps_for PassesOwn.never rfl (pi_list (pe_fld (pv 0) rfl)) (pg_name (i := 3) sc_ohms.nd rfl (Or.inl rfl))
        (pss_one (ps_if (pw_and (pt_cmpR op_eq (pe_fld (pv 3) rfl) (pe_cst T.RE) (nomark _)) (pw_and1 (pt_cmpR op_in_seq (pv 1) (pe_tup (pa_cons (pe_fld (pv 3) rfl) (pa_cons (pe_fld (pv 3) rfl) pa_nil))) rfl))).pt
          (pss_one (ps_aug (i := 2) sc_ohms.nd rfl (Or.inl rfl) (pe_fld (pv 3) rfl) iop_mul)) pss_nil)))
      (pss_one (ps_ret (pv 2)))), ?_⟩
    refine ⟨_, rfl, x, _, dx, _, _, rfl, hx, T.kNet, T.nParts, nf_parts _ _, l, rfl, ⟨_, SqL.of N.lst⟩, ?_⟩
    refine for_list (K := K) (a := l) (xs := as.map V.ref) (fun i σ H' => ∃ v3 : Option V, σ = [some (.ref x), some (.int v), some (.int (ohmsG n v i)), v3] ∧ Same H H') ?_ ?_ ?_ ?_
    · exact ⟨none, rfl, Same.refl H⟩
    · rintro i σ H' _ ⟨_, _, s1⟩
      exact SqL.of (s1 _ _ N.lst)
    · rintro i y σ H1 hi ⟨v3, rfl, s1⟩
      obtain ⟨d, hd, rfl⟩ := ref_of hi
      obtain ⟨dd, hdd⟩ := (N.parts.at_ i d hd).same s1
      have hdd : H1 d = some (.ins A.cPart dd (pf (pt n i))) := hdd
      have hin : i < n.parts.length := by rw [← N.parts.len]; exact (List.getElem?_eq_some_iff.mp hd).1
      have hp := G.part i hin
      have eo : ohmsG n v (i + 1) = if (pt n i).kind = 0 ∧ touches n v i = true then ohmsG n v i * (pt n i).much else ohmsG n v i := rfl
      refine ⟨_, rfl, d, _, dd, _, _, rfl, hdd, T.kPart, T.nKind, pf_kind _ _ _ _, rfl, _, rfl, ?_⟩
      by_cases e : (pt n i).kind = 0
      · refine ifT (decide_eq_true (by show V.int (((pt n i).kind : Nat) : Int) = V.int 0; rw [e]; rfl)) ?_
        refine ⟨_, rfl, _, rfl, d, _, dd, _, _, rfl, hdd, T.kPart, T.nA, pf_a _ _ _ _, _, rfl, d, _, dd, _, _, rfl, hdd, T.kPart, T.nB, pf_b _ _ _ _, (by show 2 ≤ sizeLine; decide), fun t ht => ?_⟩
        have hdd2 : (upd H1 t (.tup [.int (((pt n i).a : Nat) : Int), .int (((pt n i).b : Nat) : Int)])) d = some (.ins A.cPart dd (pf (pt n i))) := by rw [upd_ne (ne_of_none hdd ht)]; exact hdd
        refine ⟨t, _, rfl, .inr (SqT.of upd_same), rfl, rfl, _, rfl, ?_⟩
        have s2 : Same H (upd H1 t (.tup [.int (((pt n i).a : Nat) : Int), .int (((pt n i).b : Nat) : Int)])) := s1.trans (same_new ht)
        show if (inV (V.int v) [V.int (pt n i).a, V.int (pt n i).b]) = true then _ else _
        rw [touch_eq]
        by_cases t2 : touches n v i = true
        · rw [if_pos t2]
          refine ⟨_, rfl, _, rfl, d, _, dd, _, _, rfl, hdd2, T.kPart, T.nMuch, pf_much _ _ _ _, _, _, rfl, rfl, .inr ⟨by omega, by omega⟩, ?_⟩
          refine ⟨some (.ref d), ?_, s2⟩
          rw [eo, if_pos ⟨e, t2⟩]
          rfl
        · rw [if_neg t2]
          refine ⟨some (.ref d), ?_, s2⟩
          rw [eo, if_neg (fun z => t2 z.2)]
          rfl
      · refine ifN (by intro z; have z := of_decide_eq_true z; injection z with z; exact e (by omega)) ?_
        refine ⟨some (.ref d), ?_, s1⟩
        rw [eo, if_neg (fun z => e z.1)]
        rfl
    · rintro σ H1 ⟨v3, rfl, s1⟩
      rw [List.length_map, N.parts.len]
      exact ⟨_, rfl, q H1 s1⟩
end
end Rp
set_option Elab.async false
set_option linter.all false
set_option maxRecDepth 100000
set_option maxHeartbeats 2000000
/-! laws.py: law_of_node, law_rows -/
namespace Rp
open PySem PySem.Spec PyProof.Rows L2 Rn
open Rc43 (Net Part)
theorem map_addAt (r : List Int) (j : Nat) (t : Int) : (r.map V.int).set j (V.int (r.getD j 0 + t)) = (addAt r j t).map V.int := by
  unfold addAt; rw [List.map_set]
section
variable {P : Program} {w : World} {K : PySem.W.Frag} {mg : Str → Option Value} {base : Heap} {A : Adr}
theorem sc_node : FnScope ["net", "places", "node", "row", "ohms", "number", "part", "times"] ["net", "places", "node"] (defScope dNode) := ⟨rfl, rfl, rfl, by decide +kernel, rfl, by decide +kernel, by decide +kernel⟩
theorem ok_node (T : Txt K mg A) : CallOk P w K mg base 2 "law_of_node" ["net", "places", "node"] (spNode A) := by
  have G1 : CallOk P w K mg base 1 "empty_row" ["net", "places"] (spEmpty A) := ok_empty T
  have G2 : CallOk P w K mg base 1 "ohms_at" ["net", "node"] (spOhms A) := ok_ohms T
  refine T.node.ok sc_node (fun vs H Q E h => ?_) (fun f cdv Ar outer s H vs Q E hr h => ?_)
  · obtain ⟨x, d, n, l, as, r, rfl, _, _, _, ⟨k, rfl⟩, _⟩ := h
    rfl
  · obtain ⟨x, d, n, l, as, r, rfl, N, G, hd, ⟨v, rfl⟩, q⟩ := h
    obtain ⟨dx, hx⟩ := N.obj
    have dm : n.nodes ≤ dimN n := by unfold dimN; omega
    refine ⟨_, pss_cons (ps_set (i := 3) sc_node.nd rfl (Or.inl rfl) (pe_fn G1 hr (pa_cons (pv 0) (pa_cons (pv 1) pa_nil))))
      (pss_cons (ps_set (i := 4) sc_node.nd rfl (Or.inl rfl) (pe_fn G2 hr (pa_cons (pv 0) (pa_cons (pv 2) pa_nil))))
      (pss_cons (ps_for PassesOwn.never rfl (pi_enum (by rfl) T.enum (pa_cons (pe_fld (pv 0) rfl) pa_nil)) (pg_tup rfl (pgs_cons (pg_name (i := 5) sc_node.nd rfl (Or.inl rfl)) (pgs_cons (pg_name (i := 6) sc_node.nd rfl (Or.inl rfl)) pgs_nil)))
        (pss_one (ps_if (pt_cmpR op_in_seq (pv 2) (pe_tup (pa_cons (pe_fld (pv 6) rfl) (pa_cons (pe_fld (pv 6) rfl) pa_nil))) rfl)
          (pss_cons (ps_set (i := 7) sc_node.nd rfl (Or.inl rfl) (pe_ifExp (pt_cmpR op_eq (pv 2) (pe_fld (pv 6) rfl) (nomark _)) (pv 4) (pe_un un_neg (pv 4))))
          (pss_one (ps_if (pt_cmpR op_eq (pe_fld (pv 6) rfl) (pe_cst T.RE) (nomark _))
            (pss_cons (ps_augS (pv 3) (pe_fld (pv 6) rfl) get_list (pe_op op_fdivN (pv 7) (pe_fld (pv 6) rfl)) ip_add set_list) (pss_one (ps_augS (pv 3) (pe_fld (pv 6) rfl) get_list (pe_op op_fdivN (pv 7) (pe_fld (pv 6) rfl)) ip_sub set_list)))
            (pss_one (ps_if (pt_cmpR op_eq (pe_fld (pv 6) rfl) (pe_cst T.SV) (nomark _))
              (pss_one (ps_augS (pv 3) (pe_dget (hu_of hr) (pv 1) (pv 5) (fun _ _ => rfl)) get_list (pv 7) ip_add set_list))
              (pss_one (ps_augS (pv 3) (pe_un un_neg pe_int) get_list (pe_op op_mul (pv 7) (pe_fld (pv 6) rfl)) ip_add set_list)))))))
          pss_nil)))
      (pss_one (ps_ret (pv 3))))), ?_⟩
    refine ⟨_, rfl, _, rfl, x, d, n, l, as, [], rfl, N, G, hd, rfl, fun H1 D s1 nD h1 => ?_⟩
    refine ⟨_, rfl, _, rfl, x, n, l, as, v, rfl, N.same s1, G, fun H2 s2 => ?_⟩
    refine ⟨_, rfl, x, _, dx, _, _, rfl, s2 _ _ (s1 _ _ hx), T.kNet, T.nParts, nf_parts _ _, l, _, rfl, SqL.of (s2 _ _ (s1 _ _ N.lst)), ?_⟩
    refine for_enum (K := K) (a := l) (xs := as.map V.ref) (fun i σ H' => ∃ v5 v6 v7 : Option V, σ = [some (.ref x), some (.ref d), some (.int v), some (.ref D), some (.int (ohmsG n v n.parts.length)), v5, v6, v7] ∧ Same H H' ∧ IntsAt H' D (nodeG n v i)) ?_ ?_ ?_ ?_
    · exact ⟨none, none, none, rfl, s1.trans s2, h1.same s2⟩
    · rintro i σ H' _ ⟨_, _, _, _, s3, _⟩
      exact SqL.of (s3 _ _ N.lst)
    · rintro i y Tp σ H3 hi hTp ⟨v5, v6, v7, rfl, s3, hD3⟩
      obtain ⟨c, hc, rfl⟩ := ref_of hi
      have hin : i < n.parts.length := by rw [← N.parts.len]; exact (List.getElem?_eq_some_iff.mp hc).1
      have hp := G.part i hin
      have len := nodeG_len n v i
      have s4 : Same H (upd H3 Tp (.tup [.int (i : Nat), .ref c])) := s3.trans (same_new hTp)
      have hD4 : IntsAt (upd H3 Tp (.tup [.int (i : Nat), .ref c])) D (nodeG n v i) := by unfold IntsAt; rw [upd_ne (ne_of_none hD3 hTp)]; exact hD3
      obtain ⟨dc, hcc0⟩ := N.parts.at_ i c hc
      have hcc0 : H c = some (.ins A.cPart dc (pf (pt n i))) := hcc0
      have cD : c ≠ D := ne_of_none hcc0 nD
      have hcc := s4 _ _ hcc0
      refine ⟨Tp, _, rfl, SqT.of upd_same, rfl, _, _, rfl, _, _, rfl, rfl, ?_⟩
      generalize upd H3 Tp (.tup [.int (i : Nat), .ref c]) = H4 at s4 hD4 hcc
      refine ⟨_, rfl, _, rfl, c, _, dc, _, _, rfl, hcc, T.kPart, T.nA, pf_a _ _ _ _, _, rfl, c, _, dc, _, _, rfl, hcc, T.kPart, T.nB, pf_b _ _ _ _, (by show 2 ≤ sizeLine; decide), fun t ht => ?_⟩
      refine ⟨t, _, rfl, .inr (SqT.of upd_same), rfl, rfl, _, rfl, ?_⟩
      have s5 : Same H (upd H4 t (.tup [.int (((pt n i).a : Nat) : Int), .int (((pt n i).b : Nat) : Int)])) := s4.trans (same_new ht)
      have hD5 : IntsAt (upd H4 t (.tup [.int (((pt n i).a : Nat) : Int), .int (((pt n i).b : Nat) : Int)])) D (nodeG n v i) := by unfold IntsAt; rw [upd_ne (ne_of_none hD4 ht)]; exact hD4
      have hcc5 := s5 _ _ hcc0
      show if (inV (V.int v) [V.int (pt n i).a, V.int (pt n i).b]) = true then _ else _
      rw [touch_eq]
      generalize upd H4 t (.tup [.int (((pt n i).a : Nat) : Int), .int (((pt n i).b : Nat) : Int)]) = H5 at s5 hD5 hcc5
      have en : nodeG n v (i + 1) = if touches n v i = true then
          if (pt n i).kind = 0 then addAt (addAt (nodeG n v i) (pt n i).a ((timesG n v i).fdiv (pt n i).much)) (pt n i).b (-((timesG n v i).fdiv (pt n i).much))
          else if (pt n i).kind = 1 then addAt (nodeG n v i) (place n i) (timesG n v i)
          else addAt (nodeG n v i) (dimN n) (timesG n v i * (pt n i).much)
        else nodeG n v i := rfl
      have keep : ∀ (ys : List V), Same H (upd H5 D (.lst ys)) := fun ys b o e => by rw [upd_ne (ne_of_none e nD)]; exact s5 b o e
      by_cases tt : touches n v i = true
      · rw [if_pos tt]
        rw [if_pos tt] at en
        have t' : v = (pt n i).a ∨ v = (pt n i).b := of_decide_eq_true tt
        -- times
        refine ⟨_, rfl, _, rfl, c, _, dc, _, _, rfl, hcc5, T.kPart, T.nA, pf_a _ _ _ _, rfl, _, rfl, ?_⟩
        have times : ∀ {X Y : Prop}, (timesG n v i = ohmsG n v n.parts.length → X) → (timesG n v i = -ohmsG n v n.parts.length → Y) → if decide (V.int ((v : Nat) : Int) = V.int (((pt n i).a : Nat) : Int)) = true then X else Y := by
          intro X Y hX hY
          by_cases e : v = (pt n i).a
          · refine ifT (decide_eq_true (by rw [← e])) ?_
            exact hX (by unfold timesG; rw [if_pos e])
          · refine ifN (by intro z; have z := of_decide_eq_true z; injection z with z; omega) ?_
            exact hY (by unfold timesG; rw [if_neg e])
        refine times (fun e => ⟨_, rfl, ?_⟩) (fun e => ⟨_, rfl, _, rfl, ?_⟩)
        all_goals
          rw [e] at en
          refine ⟨_, rfl, c, _, dc, _, _, rfl, hcc5, T.kPart, T.nKind, pf_kind _ _ _ _, rfl, _, rfl, ?_⟩
          by_cases k0 : (pt n i).kind = 0
          · refine ifT (decide_eq_true (by show V.int (((pt n i).kind : Nat) : Int) = V.int 0; rw [k0]; rfl)) ?_
            rw [if_pos k0] at en
            have m1 := hp.2.2.2.2.2.2 k0
            have hD6 : ∀ q : Int, IntsAt (upd H5 D (.lst (((nodeG n v i).map V.int).set (pt n i).a (V.int ((nodeG n v i).getD (pt n i).a 0 + q))))) D (addAt (nodeG n v i) (pt n i).a q) := fun q => by
              unfold IntsAt; rw [upd_same, map_addAt]
            refine ⟨_, rfl, _, rfl, c, _, dc, _, _, rfl, hcc5, T.kPart, T.nA, pf_a _ _ _ _, D, _, _, _, rfl, rfl, SqL.of hD5, ints_at (by omega), _, rfl, _, rfl, c, _, dc, _, _, rfl, hcc5, T.kPart, T.nMuch, pf_much _ _ _ _, _, _, rfl, rfl, ⟨by omega, by omega⟩, _, _, rfl, rfl,
              D, _, _, (pt n i).a, rfl, rfl, hD5, ixN_nat (by rw [List.length_map]; omega), ?_⟩
            refine ⟨_, rfl, _, rfl, c, _, dc, _, _, rfl, (by rw [upd_ne cD]; exact hcc5), T.kPart, T.nB, pf_b _ _ _ _, D, _, _, _, rfl, rfl, SqL.of (hD6 _), ints_at (by rw [addAt_len]; omega), _, rfl, _, rfl, c, _, dc, _, _, rfl, (by rw [upd_ne cD]; exact hcc5), T.kPart, T.nMuch, pf_much _ _ _ _, _, _, rfl, rfl, ⟨by omega, by omega⟩, _, _, rfl, rfl,
              D, _, _, (pt n i).b, rfl, rfl, hD6 _, ixN_nat (by rw [List.length_map, addAt_len]; omega), ?_⟩
            refine ⟨_, _, _, rfl, fun b o eb => ?_, ?_⟩
            · rw [upd_ne (ne_of_none eb nD), upd_ne (ne_of_none eb nD)]; exact s5 b o eb
            · unfold IntsAt
              rw [upd_same, en]; dsimp only; rw [Int.sub_eq_add_neg, map_addAt]
          · refine ifN (by intro z; have z := of_decide_eq_true z; injection z with z; exact k0 (by omega)) ?_
            rw [if_neg k0] at en
            refine ⟨_, rfl, c, _, dc, _, _, rfl, hcc5, T.kPart, T.nKind, pf_kind _ _ _ _, rfl, _, rfl, ?_⟩
            by_cases k1 : (pt n i).kind = 1
            · refine ifT (decide_eq_true (by show V.int (((pt n i).kind : Nat) : Int) = V.int 1; rw [k1]; rfl)) ?_
              rw [if_pos k1] at en
              have pl := place_lt n hin k1
              have val : valV (plcK n (srcs n n.parts.length)) (Sum.inl ((i : Nat) : Int)) = some (V.int (place n i)) := by rw [plc_val, if_pos ((srcs_mem n).mpr ⟨hin, k1⟩)]
              refine ⟨_, rfl, _, rfl, _, rfl, d, _, rfl, .inl ⟨_, Sum.inl ((i : Nat) : Int), Rd.same hd s5, rfl, val.symm⟩, D, _, _, _, rfl, rfl, SqL.of hD5, ints_at (by omega), _, rfl, _, _, rfl, rfl,
                D, _, _, place n i, rfl, rfl, hD5, ixN_nat (by rw [List.length_map]; omega), ?_⟩
              refine ⟨_, _, _, rfl, keep _, ?_⟩
              unfold IntsAt
              rw [upd_same, en]; dsimp only; rw [map_addAt]
            · refine ifN (by intro z; have z := of_decide_eq_true z; injection z with z; exact k1 (by omega)) ?_
              rw [if_neg k1] at en
              refine ⟨_, rfl, _, rfl, D, _, _, _, rfl, rfl, SqL.of hD5, atI_end len, _, rfl, _, rfl, c, _, dc, _, _, rfl, hcc5, T.kPart, T.nMuch, pf_much _ _ _ _, _, _, rfl, rfl, .inr ⟨by omega, by omega⟩, _, _, rfl, rfl,
                D, _, _, dimN n, rfl, rfl, hD5, set_end (by rw [List.length_map]; exact len), ?_⟩
              refine ⟨_, _, _, rfl, keep _, ?_⟩
              unfold IntsAt
              rw [upd_same, en]; dsimp only; rw [map_addAt]
      · rw [if_neg tt]
        rw [if_neg tt] at en
        exact ⟨_, _, _, rfl, s5, by rw [en]; exact hD5⟩
    · rintro σ H3 ⟨v5, v6, v7, rfl, s3, hD3⟩
      rw [List.length_map, N.parts.len] at hD3
      refine ⟨_, rfl, q H3 D s3 nD ?_⟩
      show IntsAt H3 D (nodeG n ((v : Nat) : Int).toNat n.parts.length)
      rw [Int.toNat_natCast]; exact hD3
def spRows (A : Adr) : Sp := fun vs H Q _ => ∃ (x : Addr) (n : Net) (l : Addr) (as : List Addr), vs = [.ref x] ∧ NetAt A H x n l as ∧ GoodN n ∧
  ∀ (H' : Hp) (R : Addr) (rs : List Addr), Same H H' → H' R = some (.lst (rs.map V.ref)) → RowsL H' rs (lawRows n) → Q (.ref R) H'
theorem sc_rows : FnScope ["net", "places", "rows", "node", "number"] ["net"] (defScope dRows) := ⟨rfl, rfl, rfl, by decide +kernel, rfl, by decide +kernel, by decide +kernel⟩
theorem ok_rows (T : Txt K mg A) : CallOk P w K mg base 3 "law_rows" ["net"] (spRows A) := by
  have G1 : CallOk P w K mg base 1 "places_of_amperes" ["net"] (spPlaces A) := ok_places T
  have G2 : CallOk P w K mg base 2 "law_of_ground" ["net", "places"] (spGround A) := ok_ground T
  have G3 : CallOk P w K mg base 2 "law_of_node" ["net", "places", "node"] (spNode A) := ok_node T
  have G4 : CallOk P w K mg base 2 "law_of_source" ["net", "places", "number"] (spSource A) := ok_source T
  refine T.rows.ok sc_rows (fun vs H Q E h => ?_) (fun f cdv Ar outer s H vs Q E hr h => ?_)
  · obtain ⟨x, n, l, as, rfl, _⟩ := h
    rfl
  · obtain ⟨x, n, l, as, rfl, N, G, q⟩ := h
    obtain ⟨dx, hx⟩ := N.obj
    have lo := G.lo
    have hi := G.hi
    refine ⟨_, pss_cons (ps_set (i := 1) sc_rows.nd rfl (Or.inl rfl) (pe_fn G1 hr (pa_cons (pv 0) pa_nil)))
      (pss_cons (ps_set (i := 2) sc_rows.nd rfl (Or.inl rfl) (pe_lst (pa_cons (pe_fn G2 hr (pa_cons (pv 0) (pa_cons (pv 1) pa_nil))) pa_nil)))
      (pss_cons (ps_for PassesOwn.never rfl (pi_range2 (by rfl) T.range (pa_cons pe_int (pa_cons (pe_fld (pv 0) rfl) pa_nil))) (pg_name (i := 3) sc_rows.nd rfl (Or.inl rfl))
        (pss_one (ps_expr (pe_bm PySem.F.plainAttrs_list PySem.F.slot_list_append PySem.F.type_list_append mt_append (pv 2) (pa_cons (pe_fn G3 hr (pa_cons (pv 0) (pa_cons (pv 1) (pa_cons (pv 3) pa_nil)))) pa_nil)))))
      (pss_cons (ps_lock (ps_for PassesOwn.never rfl (pi_keys (pv 1)) (pg_name (i := 4) sc_rows.nd rfl (Or.inl rfl))
        (pss_one (ps_expr (pe_bm PySem.F.plainAttrs_list PySem.F.slot_list_append PySem.F.type_list_append mt_append (pv 2) (pa_cons (pe_fn G4 hr (pa_cons (pv 0) (pa_cons (pv 1) (pa_cons (pv 4) pa_nil)))) pa_nil))))))
      (pss_one (ps_ret (pv 2)))))), ?_⟩
    refine ⟨_, rfl, x, n, l, as, rfl, N, G, fun H1 d s1 nd h1 => ?_⟩
    refine ⟨_, rfl, _, rfl, x, d, n, l, as, [], rfl, N.same s1, G, .inl h1, rfl, fun H2 g s2 ng h2 => ?_⟩
    refine ⟨(by show 1 ≤ sizeLine; decide), fun R hR => ?_⟩
    have hdR : d ≠ R := ne_of_none (s2 _ _ h1) hR
    have hgR : g ≠ R := ne_of_none h2 hR
    have s3 : Same H (upd H2 R (.lst [.ref g])) := (s1.trans s2).trans (same_new hR)
    have nR : H R = none := (s1.trans s2).free hR
    have hd3 : (upd H2 R (.lst [.ref g])) d = some (.dK (plcK n (srcs n n.parts.length))) := by rw [upd_ne hdR]; exact s2 _ _ h1
    have hg3 : IntsAt (upd H2 R (.lst [.ref g])) g (groundG n) := by unfold IntsAt; rw [upd_ne hgR]; exact h2
    have hR3 : (upd H2 R (.lst [.ref g])) R = some (.lst (([g] : List Addr).map V.ref)) := upd_same
    generalize upd H2 R (.lst [.ref g]) = H3 at s3 hd3 hg3 hR3
    -- a law for each node
    refine ⟨_, rfl, x, _, dx, _, _, rfl, s3 _ _ hx, T.kNet, T.nNC, nf_nc _ _, _, _, rfl, ⟨by omega, by omega, by omega, by omega⟩, ?_⟩
    have e1 : ((n.nodes : Int) - 1).toNat = n.nodes - 1 := by omega
    rw [e1]
    refine for_range (lo := 1) (n := n.nodes - 1) (fun k σ H' => ∃ (v3 : Option V) (rs : List Addr), σ = [some (.ref x), some (.ref d), some (.ref R), v3, none] ∧ Same H H' ∧ H' d = some (.dK (plcK n (srcs n n.parts.length))) ∧ H' R = some (.lst (rs.map V.ref)) ∧ (∀ c ∈ rs, c ≠ R) ∧
      RowsL H' rs ([groundG n] ++ (List.range k).map (fun i => nodeG n (i + 1) n.parts.length))) ?_ ?_ ?_
    · refine ⟨none, [g], rfl, s3, hd3, hR3, fun c hc => by rw [List.mem_singleton.mp hc]; exact hgR, rfl, fun j c hj => ?_⟩
      have : j < 1 := (List.getElem?_eq_some_iff.mp hj).1
      have ej : j = 0 := by omega
      subst ej
      have ec : g = c := Option.some.inj hj
      subst ec
      exact hg3
    · rintro k σ H4 hk ⟨v3, rs, rfl, s4, hd4, hR4, nR4, hL4⟩
      refine ⟨_, rfl, .inl ⟨rfl, _, SqL.of hR4⟩, ?_⟩
      have ek : (1 : Int) + (k : Int) = ((k + 1 : Nat) : Int) := by omega
      rw [ek]
      refine ⟨_, rfl, _, rfl, _, rfl, x, d, n, l, as, [.int ((k + 1 : Nat) : Int)], rfl, N.same s4, G, .inl hd4, ⟨k + 1, rfl⟩, fun H5 c s5 nc h5 => ?_⟩
      have hcR : c ≠ R := fun z => by rw [z, hR4] at nc; cases nc
      refine ⟨R, _, _, rfl, rfl, s5 _ _ hR4, ?_, ?_⟩
      · rw [List.length_map, hL4.len]
        simp only [List.length_append, List.length_singleton, List.length_map, List.length_range]
        exact Nat.lt_of_le_of_lt (by omega : 1 + k ≤ 1000) (by decide)
      · refine ⟨_, rs ++ [c], rfl, fun b o e => ?_, ?_, ?_, fun b hb => ?_, ?_⟩
        · rw [upd_ne (ne_of_none e nR)]; exact s5 _ _ (s4 _ _ e)
        · rw [upd_ne hdR]; exact s5 _ _ hd4
        · rw [upd_same, List.map_append]; rfl
        · rcases List.mem_append.mp hb with z | z
          · exact nR4 b z
          · rw [List.mem_singleton.mp z]; exact hcR
        · rw [List.range_succ, List.map_append, ← List.append_assoc]
          refine RowsL.upd ((hL4.same s5).snoc h5) fun b hb => ?_
          rcases List.mem_append.mp hb with z | z
          · exact nR4 b z
          · rw [List.mem_singleton.mp z]; exact hcR
    · rintro σ H4 ⟨v3, rs, rfl, s4, hd4, hR4, nR4, hL4⟩
      -- a law for each source
      refine ⟨d, _, hd4, trivial, fun od => ?_⟩
      have s5 : Same H (upd H4 d (.frz od (.dK (plcK n (srcs n n.parts.length))))) := fun b o e => by rw [upd_ne (ne_of_none e nd)]; exact s4 b o e
      have nd4 : ∀ c ∈ rs, c ≠ d := fun c hc => by
        obtain ⟨j, hj⟩ := List.getElem?_of_mem hc
        exact ne_of (hL4.at_ j c hj) hd4 (by intro z; cases z)
      have hR5 : (upd H4 d (.frz od (.dK (plcK n (srcs n n.parts.length))))) R = some (.lst (rs.map V.ref)) := by rw [upd_ne (Ne.symm hdR)]; exact hR4
      have hL5 : RowsL (upd H4 d (.frz od (.dK (plcK n (srcs n n.parts.length))))) rs ([groundG n] ++ (List.range (n.nodes - 1)).map (fun i => nodeG n (i + 1) n.parts.length)) := hL4.upd nd4
      have hd5 : (upd H4 d (.frz od (.dK (plcK n (srcs n n.parts.length))))) d = some (.frz od (.dK (plcK n (srcs n n.parts.length)))) := upd_same
      generalize upd H4 d (.frz od (.dK (plcK n (srcs n n.parts.length)))) = H5 at s5 hR5 hL5 hd5
      refine ⟨_, rfl, d, od, rfl, .inl ⟨_, hd5, ?_⟩⟩
      refine for_keys (d := d) (o := od) (kvs := plcK n (srcs n n.parts.length)) (fun i σ H' => ∃ (v4 : Option V) (rs : List Addr), σ = [some (.ref x), some (.ref d), some (.ref R), v3, v4] ∧ Same H H' ∧ H' d = some (.frz od (.dK (plcK n (srcs n n.parts.length)))) ∧ H' R = some (.lst (rs.map V.ref)) ∧ (∀ c ∈ rs, c ≠ R) ∧
        RowsL H' rs ([groundG n] ++ (List.range (n.nodes - 1)).map (fun i => nodeG n (i + 1) n.parts.length) ++ ((srcs n n.parts.length).take i).map (srcG n))) ?_ ?_ ?_ ?_
      · exact ⟨none, rs, rfl, s5, hd5, hR5, nR4, by rw [List.take_zero, List.map_nil, List.append_nil]; exact hL5⟩
      · rintro i σ H' _ ⟨_, _, _, _, h, _⟩
        exact h
      · rintro i key vv σ H6 hkey ⟨v4, rs6, rfl, s6, hd6, hR6, nR6, hL6⟩
        obtain ⟨j, hj, ekv⟩ : ∃ j, (srcs n n.parts.length)[i]? = some j ∧ ((Sum.inl (j : Int) : Key), V.int (place n j)) = (key, vv) := by
          unfold plcK at hkey
          rw [List.getElem?_map] at hkey
          exact Option.map_eq_some_iff.mp hkey
        have ek : key = Sum.inl (j : Int) := (congrArg Prod.fst ekv).symm
        subst ek
        have hjn : j < n.parts.length := ((srcs_mem n).mp (List.mem_of_getElem? hj)).1
        refine ⟨_, rfl, .inl ⟨rfl, _, SqL.of hR6⟩, ?_⟩
        refine ⟨_, rfl, _, rfl, _, rfl, x, d, n, l, as, [.int (j : Int)], rfl, N.same s6, G, .inr ⟨od, hd6⟩, ⟨j, rfl, hjn⟩, fun H7 c s7 nc h7 => ?_⟩
        have hcR : c ≠ R := fun z => by rw [z, hR6] at nc; cases nc
        have il : i < (srcs n n.parts.length).length := (List.getElem?_eq_some_iff.mp hj).1
        rw [srcs_len] at il
        have nl := numS_le n n.parts.length
        have fw := G.few
        refine ⟨R, _, _, rfl, rfl, s7 _ _ hR6, ?_, ?_⟩
        · rw [List.length_map, hL6.len]
          simp only [List.length_append, List.length_singleton, List.length_map, List.length_range, List.length_take]
          exact Nat.lt_of_le_of_lt (by omega : _ ≤ 1000) (by decide)
        · refine ⟨_, rs6 ++ [c], rfl, fun b o e => ?_, ?_, ?_, fun b hb => ?_, ?_⟩
          · rw [upd_ne (ne_of_none e nR)]; exact s7 _ _ (s6 _ _ e)
          · rw [upd_ne hdR]; exact s7 _ _ hd6
          · rw [upd_same, List.map_append]; rfl
          · rcases List.mem_append.mp hb with z | z
            · exact nR6 b z
            · rw [List.mem_singleton.mp z]; exact hcR
          · rw [List.take_add_one, hj, List.map_append, ← List.append_assoc]
            refine RowsL.upd ((hL6.same s7).snoc h7) fun b hb => ?_
            rcases List.mem_append.mp hb with z | z
            · exact nR6 b z
            · rw [List.mem_singleton.mp z]; exact hcR
      · rintro σ H6 ⟨v4, rs6, rfl, s6, hd6, hR6, nR6, hL6⟩
        have el : (plcK n (srcs n n.parts.length)).length = (srcs n n.parts.length).length := by unfold plcK; rw [List.length_map]
        rw [el, List.take_length] at hL6
        refine ⟨hd6, _, rfl, ?_⟩
        refine q _ R rs6 (fun b o e => by rw [upd_ne (ne_of_none e nd)]; exact s6 b o e) (by rw [upd_ne (Ne.symm hdR)]; exact hR6) ?_
        refine RowsL.upd hL6 fun c hc => ?_
        obtain ⟨j, hj⟩ := List.getElem?_of_mem hc
        exact ne_of (hL6.at_ j c hj) hd6 (by intro z; cases z)
end
end Rp
set_option Elab.async false
set_option linter.all false
set_option maxRecDepth 100000
set_option maxHeartbeats 2000000
/-! telling.py -/
namespace Rp
open PySem PySem.Spec PyProof.Rows L2 Rn
open Rc43 (Net Part)
def spGcd : Sp := fun vs H Q _ => ∃ (x y : Nat), vs = [.int x, .int y] ∧ Q (.int (Nat.gcd x y : Nat)) H
def spBytes : Sp := fun vs H Q _ => ∃ (m : Nat), vs = [.int m] ∧ ∀ (H' : Hp) (D : Addr), Same H H' → H D = none → IntsAt H' D (bytesG 160 m) → Q (.ref D) H'
def spTold (K : PySem.W.Frag) : Sp := fun vs H Q _ => ∃ (t : Addr) (p q : Int), vs = [.ref t] ∧ H t = some (.tup [.int p, .int q]) ∧ q ≠ 0 ∧ p.natAbs ≤ big ∧ q.natAbs ≤ big ∧ ∀ (H' : Hp) (D : Addr), Same H H' → H D = none → IntsAt H' D (toldG p q) → Q (.ref D) H'
section
variable {P : Program} {w : World} {K : PySem.W.Frag} {mg : Str → Option Value} {base : Heap} {A : Adr}
theorem sc_gcd : FnScope ["x", "y", "rest"] ["x", "y"] (defScope dGcd) := ⟨rfl, rfl, rfl, by decide +kernel, rfl, by decide +kernel, by decide +kernel⟩
theorem ok_gcd (T : Txt K mg A) : CallOk P w K mg base 1 "greatest_common_divisor" ["x", "y"] spGcd := by
  refine T.gcd.ok sc_gcd (fun vs H Q E h => ?_) (fun f cdv Ar outer s H vs Q E hr h => ?_)
  · obtain ⟨x, y, rfl, _⟩ := h
    rfl
  · obtain ⟨x, y, rfl, q⟩ := h
    refine ⟨_, pss_cons (ps_while PassesOwn.never (pt_cmpR op_ne (pv 1) pe_int (nomark _))
        (pss_cons (ps_set (i := 2) sc_gcd.nd rfl (Or.inl rfl) (pe_op op_mod (pv 0) (pv 1))) (pss_cons (ps_set (i := 0) sc_gcd.nd rfl (Or.inl rfl) (pv 1)) (pss_one (ps_set (i := 1) sc_gcd.nd rfl (Or.inl rfl) (pv 2))))))
      (pss_one (ps_ret (pv 0))), ?_⟩
    refine ⟨fun m σ H' => H = H' ∧ ∃ (a b : Nat) (v : Option V), b = m ∧ σ = [some (.int a), some (.int b), v] ∧ Nat.gcd a b = Nat.gcd x y, ⟨_, rfl, x, y, none, rfl, rfl, rfl⟩, ?_⟩
    rintro m σ H' ⟨rfl, a, b, v, rfl, rfl, hg⟩
    refine ⟨_, rfl, rfl, _, rfl, ?_⟩
    by_cases e : b = 0
    · subst e
      refine ifN (by rw [show decide (V.int ((0 : Nat) : Int) = V.int 0) = true by decide]; decide) ?_
      refine ⟨_, rfl, ?_⟩
      rw [Nat.gcd_zero_right] at hg
      rw [hg]; exact q
    · refine ifT (by rw [decide_eq_false (fun z : V.int ((b : Nat) : Int) = V.int 0 => by injection z with z; omega)]; rfl) ?_
      refine ⟨fun σ' H' => H = H' ∧ ∃ v : Option V, σ' = [some (.int b), some (.int ((a % b : Nat) : Int)), v], ?_, ?_⟩
      · rintro σ' H' ⟨rfl, v', rfl⟩
        refine ⟨a % b, Nat.mod_lt _ (by omega), rfl, b, a % b, v', rfl, rfl, ?_⟩
        rw [← hg, Nat.gcd_comm a b, Nat.gcd_rec b a, Nat.gcd_comm]
      · refine ⟨_, rfl, _, rfl, _, _, rfl, rfl, (by show (0 : Int) < ((b : Nat) : Int); omega), ?_⟩
        exact ⟨_, rfl, _, rfl, rfl, _, rfl⟩
theorem sc_bytes : FnScope ["number", "row", "place"] ["number"] (defScope dBytes) := ⟨rfl, rfl, rfl, by decide +kernel, rfl, by decide +kernel, by decide +kernel⟩
theorem ok_bytes (T : Txt K mg A) : CallOk P w K mg base 1 "bytes_of" ["number"] spBytes := by
  refine T.bytes.ok sc_bytes (fun vs H Q E h => ?_) (fun f cdv Ar outer s H vs Q E hr h => ?_)
  · obtain ⟨m, rfl, _⟩ := h
    rfl
  · obtain ⟨m, rfl, q⟩ := h
    refine ⟨_, pss_cons (ps_set (i := 1) sc_bytes.nd rfl (Or.inl rfl) (pe_lst pa_nil))
      (pss_cons (ps_for PassesOwn.never rfl (pi_range1 (by rfl) T.range (pa_cons (pe_cst T.BY) pa_nil)) (pg_name (i := 2) sc_bytes.nd rfl (Or.inl rfl))
        (pss_cons (ps_expr (pe_bm PySem.F.plainAttrs_list PySem.F.slot_list_append PySem.F.type_list_append mt_append (pv 1) (pa_cons (pe_op op_mod (pv 0) pe_int) pa_nil)))
          (pss_one (ps_aug (i := 0) sc_bytes.nd rfl (Or.inl rfl) pe_int iop_fdiv))))
      (pss_one (ps_ret (pv 1)))), ?_⟩
    refine ⟨Nat.zero_le _, fun D hD => ?_⟩
    refine ⟨160, rfl, (by decide), (by decide), ?_⟩
    refine for_range (lo := 0) (n := 160) (fun i σ H' => ∃ v : Option V, σ = [some (.int ((m / 256 ^ i : Nat) : Int)), some (.ref D), v] ∧ Same H H' ∧ IntsAt H' D (bytesG i m)) ?_ ?_ ?_
    · exact ⟨none, by rw [Nat.pow_zero, Nat.div_one]; rfl, same_new hD, upd_same⟩
    · rintro i σ H1 hi ⟨v, rfl, s1, h1⟩
      refine ⟨_, rfl, .inl ⟨rfl, _, SqL.of h1⟩, _, rfl, _, _, rfl, rfl, (by show (0 : Int) < 256; decide), D, _, _, rfl, rfl, h1, ?_, ?_⟩
      · unfold bytesG
        rw [List.length_map, List.length_map, List.length_range]
        exact Nat.lt_of_le_of_lt (by omega : i ≤ 1000) (by decide)
      · refine ⟨_, rfl, _, _, rfl, rfl, ⟨by decide, by decide⟩, ?_⟩
        refine ⟨some (.int (0 + (i : Int))), ?_, fun b o e => by rw [upd_ne (ne_of_none e hD)]; exact s1 b o e, ?_⟩
        · show [some (V.int (((m / 256 ^ i : Nat) : Int) / 256)), some (V.ref D), some (V.int (0 + (i : Int)))] = _
          rw [Nat.pow_succ, ← Nat.div_div_eq_div_mul]
          rfl
        · unfold IntsAt
          rw [upd_same]
          unfold bytesG
          rw [List.range_succ, List.map_append, List.map_append]
          rfl
    · rintro σ H1 ⟨v, rfl, s1, h1⟩
      exact ⟨_, rfl, q H1 D s1 hD h1⟩
theorem abs_eq (p : Int) : (if p < 0 then -p else p) = ((p.natAbs : Nat) : Int) := by split <;> omega
theorem fdiv_nat (a b : Nat) : ((a : Nat) : Int).fdiv ((b : Nat) : Int) = ((a / b : Nat) : Int) := by
  rw [Int.fdiv_eq_ediv_of_nonneg _ (by omega)]; rfl
theorem sc_told : FnScope ["fraction", "divided", "divisor", "common", "sign"] ["fraction"] (defScope dTold) := ⟨rfl, rfl, rfl, by decide +kernel, rfl, by decide +kernel, by decide +kernel⟩
theorem ok_told (T : Txt K mg A) : CallOk P w K mg base 2 "told" ["fraction"] (spTold K) := by
  have G1 : CallOk P w K mg base 1 "greatest_common_divisor" ["x", "y"] spGcd := ok_gcd T
  have G2 : CallOk P w K mg base 1 "bytes_of" ["number"] spBytes := ok_bytes T
  refine T.told.ok sc_told (fun vs H Q E h => ?_) (fun f cdv Ar outer s H vs Q E hr h => ?_)
  · obtain ⟨t, p, q, rfl, _⟩ := h
    rfl
  · obtain ⟨t, p, q, rfl, ht, q0, pb, qb, k⟩ := h
    have T0 : ∀ {H' : Hp}, Same H H' → SqT K H' t [.int p, .int q] := fun s => SqT.of (s _ _ ht)
    refine ⟨_, pss_cons (ps_set (i := 1) sc_told.nd rfl (Or.inl rfl) (pe_callB call_abs (by rfl) T.abs (by decide +kernel) (pa_cons (pe_ix ix_tup (pv 0) pe_int (fun _ _ => rfl)) pa_nil)))
      (pss_cons (ps_set (i := 2) sc_told.nd rfl (Or.inl rfl) (pe_callB call_abs (by rfl) T.abs (by decide +kernel) (pa_cons (pe_ix ix_tup (pv 0) pe_int (fun _ _ => rfl)) pa_nil)))
      (pss_cons (ps_set (i := 3) sc_told.nd rfl (Or.inl rfl) (pe_fn G1 hr (pa_cons (pv 1) (pa_cons (pv 2) pa_nil))))
      (pss_cons (ps_set (i := 4) sc_told.nd rfl (Or.inl rfl) (pe_ifExp (pt_cmpR op_lt (pe_op op_mulB (pe_ix ix_tup (pv 0) pe_int (fun _ _ => rfl)) (pe_ix ix_tup (pv 0) pe_int (fun _ _ => rfl))) pe_int (nomark _)) pe_int pe_int))
      (pss_one (ps_ret (pe_op op_cat (pe_op op_cat (pe_lst (pa_cons (pv 4) pa_nil)) (pe_fn G2 hr (pa_cons (pe_op op_fdivB (pv 1) (pv 3)) pa_nil))) (pe_fn G2 hr (pa_cons (pe_op op_fdivB (pv 2) (pv 3)) pa_nil)))))))), ?_⟩
    refine ⟨_, rfl, t, _, _, _, rfl, rfl, T0 (Same.refl H), rfl, _, rfl, ?_⟩
    refine ⟨_, rfl, t, _, _, _, rfl, rfl, T0 (Same.refl H), rfl, _, rfl, ?_⟩
    refine ⟨_, rfl, _, rfl, p.natAbs, q.natAbs, (by rw [abs_eq, abs_eq]), ?_⟩
    have g0 : Nat.gcd p.natAbs q.natAbs ≠ 0 := by
      have := Nat.gcd_pos_of_pos_right p.natAbs (show 0 < q.natAbs by omega)
      omega
    have gb : Nat.gcd p.natAbs q.natAbs ≤ big := Nat.le_trans (Nat.le_of_dvd (by omega) (Nat.gcd_dvd_right _ _)) qb
    have dv : ∀ i : Int, CDivB i ((Nat.gcd p.natAbs q.natAbs : Nat) : Int) := fun i => ⟨by omega, by rw [Int.natAbs_natCast]; exact gb⟩
    refine ⟨_, rfl, t, _, _, _, rfl, rfl, T0 (Same.refl H), rfl, _, rfl, t, _, _, _, rfl, rfl, T0 (Same.refl H), rfl, _, _, rfl, rfl, ⟨pb, qb⟩, _, _, rfl, rfl, _, rfl, ?_⟩
    -- behind the sign
    have rest : ∀ sg : Int, sg = (if p * q < 0 then 1 else 0) → tRet (tOp rCat (tOp rCat (tLst (tCons (tVar 4) tNil)) (tFn spBytes (tCons (tOp (rI CDivB fun i j => .int (i.fdiv j)) (tVar 1) (tVar 3)) tNil))) (tFn spBytes (tCons (tOp (rI CDivB fun i j => .int (i.fdiv j)) (tVar 2) (tVar 3)) tNil)))
        { nx := fun _ H' => Q .non H', rt := Q } [some (.ref t), some (.int (if p < 0 then -p else p)), some (.int (if q < 0 then -q else q)), some (.int ((Nat.gcd p.natAbs q.natAbs : Nat) : Int)), some (.int sg)] H := by
      intro sg es
      refine ⟨_, rfl, (by show 1 ≤ sizeLine; decide), fun z hz => ?_⟩
      have s1 : Same H (upd H z (.lst [.int sg])) := same_new hz
      have hz1 : (upd H z (.lst [.int sg])) z = some (.lst [.int sg]) := upd_same
      generalize upd H z (.lst [.int sg]) = H1 at s1 hz1
      refine ⟨_, rfl, _, rfl, _, _, rfl, rfl, dv _, p.natAbs / Nat.gcd p.natAbs q.natAbs, (by rw [abs_eq]; show [V.int (((p.natAbs : Nat) : Int).fdiv ((Nat.gcd p.natAbs q.natAbs : Nat) : Int))] = _; rw [fdiv_nat]), fun H2 b1 s2 nb1 h2 => ?_⟩
      have bl : ∀ m : Nat, ((bytesG 160 m).map V.int).length = 160 := fun m => by unfold bytesG; rw [List.length_map, List.length_map, List.length_range]
      refine ⟨z, b1, _, _, rfl, rfl, s2 _ _ hz1, h2, (by rw [bl]; show 1 + 160 ≤ sizeLine; decide), fun c hc => ?_⟩
      have s3 : Same H (upd H2 c (.lst ([V.int sg] ++ (bytesG 160 (p.natAbs / Nat.gcd p.natAbs q.natAbs)).map V.int))) := (s1.trans s2).trans (same_new hc)
      have nc : H c = none := (s1.trans s2).free hc
      have hc3 : (upd H2 c (.lst ([V.int sg] ++ (bytesG 160 (p.natAbs / Nat.gcd p.natAbs q.natAbs)).map V.int))) c = some (.lst ([V.int sg] ++ (bytesG 160 (p.natAbs / Nat.gcd p.natAbs q.natAbs)).map V.int)) := upd_same
      generalize upd H2 c (.lst ([V.int sg] ++ (bytesG 160 (p.natAbs / Nat.gcd p.natAbs q.natAbs)).map V.int)) = H3 at s3 hc3
      refine ⟨_, rfl, _, rfl, _, _, rfl, rfl, dv _, q.natAbs / Nat.gcd p.natAbs q.natAbs, (by rw [abs_eq]; show [V.int (((q.natAbs : Nat) : Int).fdiv ((Nat.gcd p.natAbs q.natAbs : Nat) : Int))] = _; rw [fdiv_nat]), fun H4 b2 s4 nb2 h4 => ?_⟩
      refine ⟨c, b2, _, _, rfl, rfl, s4 _ _ hc3, h4, (by rw [List.length_append, bl, bl]; show 1 + 160 + 160 ≤ sizeLine; decide), fun D hD => ?_⟩
      refine k _ D ((s3.trans s4).trans (same_new hD)) ((s3.trans s4).free hD) ?_
      unfold IntsAt toldG
      rw [upd_same, es, List.map_cons, List.map_append]
      rfl
    refine ite2 (fun hc => ?_) (fun hc => ?_)
    · exact rest 1 (by rw [if_pos (of_decide_eq_true hc)])
    · exact rest 0 (by rw [if_neg (fun z => hc (decide_eq_true z))])
end
end Rp
set_option Elab.async false
set_option linter.all false
set_option maxRecDepth 100000
set_option maxHeartbeats 2000000
/-! solution.py -/
namespace Rp
open PySem PySem.Spec PyProof.Rows L2 Rn
open Rc43 (Net Part)
def sf (x d : Addr) (v : Int) : List (Str × V) := [("net", .ref x), ("divided", .ref d), ("divisor", .int v)]
theorem sf_new (x d : Addr) (v : Int) : putF "divisor" (.int v) (putF "divided" (.ref d) (putF "net" (.ref x) [])) = sf x d v := by
  have h1 : putF "divided" (.ref d) (putF "net" (.ref x) []) = ([("net", .ref x), ("divided", .ref d)] : List (Str × V)) := by rw [pF_nil, pF_ne (by decide +kernel), pF_nil]
  rw [h1, pF_ne (by decide +kernel), pF_ne (by decide +kernel), pF_nil]; rfl
theorem sf_net (x d : Addr) (v : Int) : (sf x d v).lookup ("net" : Str) = some (.ref x) := lk_eq
theorem sf_divided (x d : Addr) (v : Int) : (sf x d v).lookup ("divided" : Str) = some (.ref d) := by unfold sf; rw [lk_ne (by decide +kernel), lk_eq]
theorem sf_divisor (x d : Addr) (v : Int) : (sf x d v).lookup ("divisor" : Str) = some (.int v) := by unfold sf; rw [lk_ne (by decide +kernel), lk_ne (by decide +kernel), lk_eq]
theorem sf_no (x d : Addr) (v : Int) {m : Str} (h1 : ¬ m = "net") (h2 : ¬ m = "divided") (h3 : ¬ m = "divisor") : (sf x d v).lookup m = none := by
  unfold sf; rw [lk_ne h1, lk_ne h2, lk_ne h3]; rfl
def unk1 (n : Net) : List Int := (List.range (dimN n)).map (uG n)
theorem unk1_len (n : Net) : (unk1 n).length = dimN n := by unfold unk1; rw [List.length_map, List.length_range]
theorem unk1_get (n : Net) {j : Nat} (h : j < dimN n) : (unk1 n).getD j 0 = uG n j := by
  unfold unk1
  rw [List.getD_eq_getElem?_getD, List.getElem?_map, List.getElem?_range h]; rfl
/-- a Solution of the net n, which stands at x -/
structure SolAt (A : Adr) (H : Hp) (p : Addr) (n : Net) (x : Addr) : Prop where
  ex : ∃ dx d, H p = some (.ins A.cSol dx (sf x d (dG n))) ∧ IntsAt H d (unk1 n)
theorem SolAt.same {A : Adr} {H H' : Hp} {p x : Addr} {n : Net} (h : SolAt A H p n x) (s : Same H H') : SolAt A H' p n x := by
  obtain ⟨dx, d, h1, h2⟩ := h.ex
  exact ⟨dx, d, s _ _ h1, h2.same s⟩
theorem cut_last (xs : List V) (v : V) : cutV (xs ++ [v]) none (some (-1)) = xs := by
  have e : HT.sIx (xs ++ [v]).length (xs ++ [v]).length (some (-1)) = xs.length := by
    unfold HT.sIx
    dsimp only
    rw [if_pos (by decide), List.length_append, List.length_singleton]; omega
  unfold cutV
  rw [e]
  show ((xs ++ [v]).drop 0).take (xs.length - 0) = xs
  rw [List.drop_zero, Nat.sub_zero, List.take_left]
def spSolI (A : Adr) : Sp := fun vs H Q _ => ∃ (p dx x : Addr) (n : Net) (l : Addr) (as : List Addr), vs = [.ref p, .ref x] ∧ H p = some (.ins A.cSol dx []) ∧ NetAt A H x n l as ∧ GoodN n ∧ oneG n = true ∧
  ∀ H' : Hp, SolAt A H' p n x → (∀ b o, H b = some o → b ≠ p → H' b = some o) → Q .non H'
/-- a method of a Solution: the pair that it gives -/
def spSol (A : Adr) (ok : List V → Net → Prop) (pr : List V → Net → Int × Int) : Sp := fun vs H Q _ => ∃ (p x : Addr) (n : Net) (l : Addr) (as : List Addr) (r : List V), vs = .ref p :: r ∧ SolAt A H p n x ∧ NetAt A H x n l as ∧ GoodN n ∧ oneG n = true ∧ ok r n ∧
  ∀ (H' : Hp) (t : Addr), Same H H' → H t = none → H' t = some (.tup [.int (pr r n).1, .int (pr r n).2]) → Q (.ref t) H'
def natAt (r : List V) (i : Nat) : Nat := (intOf (r.getD i .non)).toNat
def spSolV (A : Adr) : Sp := spSol A (fun r n => ∃ j : Nat, r = [.int j] ∧ j < n.nodes) (fun r n => (uG n (natAt r 0), dG n))
def spSolB (A : Adr) : Sp := spSol A (fun r n => ∃ a b : Nat, r = [.int a, .int b] ∧ a < n.nodes ∧ b < n.nodes) (fun r n => (uG n (natAt r 0) - uG n (natAt r 1), dG n))
def spSolA (A : Adr) : Sp := spSol A (fun r n => ∃ k : Nat, r = [.int k] ∧ k < n.parts.length) (fun r n => ampG n (natAt r 0))
def wattG (n : Net) (k : Nat) : Int × Int := ((uG n (pt n k).a - uG n (pt n k).b) * (ampG n k).1, dG n * (ampG n k).2)
def spSolW (A : Adr) : Sp := spSol A (fun r n => ∃ k : Nat, r = [.int k] ∧ k < n.parts.length) (fun r n => wattG n (natAt r 0))
theorem u_size {n : Net} (G : GoodN n) (h : oneG n = true) : (dG n).natAbs ≤ 2 ^ 2000 ∧ ∀ j, j < dimN n → (uG n j).natAbs ≤ 2 ^ 2000 := by
  obtain ⟨h1, h2⟩ := elim_size G (good_triv G h) (k := dimN n) (Nat.le_refl _)
  exact ⟨h1, fun j hj => h2 j hj _ (Nat.le_refl _)⟩
theorem pow_dbl (k : Nat) : 2 ^ k + 2 ^ k = 2 ^ (k + 1) := by rw [Nat.pow_succ]; omega
theorem b_size {n : Net} (G : GoodN n) (h : oneG n = true) {a b : Nat} (ha : a < n.nodes) (hb : b < n.nodes) : (uG n a - uG n b).natAbs ≤ 2 ^ 2001 := by
  have dm : n.nodes ≤ dimN n := by unfold dimN; omega
  have h1 := (u_size G h).2 a (by omega)
  have h2 := (u_size G h).2 b (by omega)
  have := pow_dbl 2000
  rw [← this]
  have := Int.natAbs_sub_le (uG n a) (uG n b)
  exact Nat.le_trans this (Nat.add_le_add h1 h2)
theorem amp_size {n : Net} (G : GoodN n) (h : oneG n = true) {k : Nat} (hk : k < n.parts.length) : (ampG n k).1.natAbs ≤ 2 ^ 2001 ∧ (ampG n k).2.natAbs ≤ 2 ^ 2020 ∧ (ampG n k).2 ≠ 0 := by
  have hp := G.part k hk
  have mono : ∀ {i j : Nat}, i ≤ j → (2 : Nat) ^ i ≤ 2 ^ j := fun h => Nat.pow_le_pow_right (by decide) h
  obtain ⟨hd, hu⟩ := u_size G h
  have d0 : dG n ≠ 0 := (law_solved G (good_triv G h)).1
  unfold ampG
  by_cases e : (pt n k).kind = 0
  · rw [if_pos e]
    have hm := hp.2.2.2.2.2.2 e
    refine ⟨b_size G h hp.2.1 hp.2.2.1, ?_, Int.mul_ne_zero d0 (by omega)⟩
    show (dG n * (pt n k).much).natAbs ≤ _
    rw [Int.natAbs_mul, show (2 : Nat) ^ 2020 = 2 ^ 2000 * 2 ^ 20 from Nat.pow_add 2 2000 20]
    exact Nat.mul_le_mul hd (Nat.le_trans (by omega : (pt n k).much.natAbs ≤ 1000000) (by decide))
  · rw [if_neg e]
    by_cases e1 : (pt n k).kind = 1
    · rw [if_pos e1]
      exact ⟨Nat.le_trans (hu _ (place_lt n hk e1)) (mono (by decide)), Nat.le_trans hd (mono (by decide)), d0⟩
    · rw [if_neg e1]
      refine ⟨?_, ?_, by show (1 : Int) ≠ 0; decide⟩
      · show (-(pt n k).much).natAbs ≤ _
        refine Nat.le_trans (by omega : (-(pt n k).much).natAbs ≤ 1000000) (Nat.le_trans (by decide : 1000000 ≤ 2 ^ 20) (mono (by decide)))
      · show (1 : Int).natAbs ≤ _
        exact Nat.one_le_two_pow
theorem watt_size {n : Net} (G : GoodN n) (h : oneG n = true) {k : Nat} (hk : k < n.parts.length) : (wattG n k).1.natAbs ≤ 2 ^ 5000 ∧ (wattG n k).2.natAbs ≤ 2 ^ 5000 ∧ (wattG n k).2 ≠ 0 := by
  have hp := G.part k hk
  obtain ⟨a1, a2, a3⟩ := amp_size G h hk
  obtain ⟨hd, _⟩ := u_size G h
  have d0 : dG n ≠ 0 := (law_solved G (good_triv G h)).1
  have mono : ∀ {i j : Nat}, i ≤ j → (2 : Nat) ^ i ≤ 2 ^ j := fun h => Nat.pow_le_pow_right (by decide) h
  unfold wattG
  refine ⟨?_, ?_, Int.mul_ne_zero d0 a3⟩
  · show (_ * _ : Int).natAbs ≤ _
    rw [Int.natAbs_mul]
    refine Nat.le_trans (Nat.mul_le_mul (b_size G h hp.2.1 hp.2.2.1) a1) ?_
    rw [← Nat.pow_add]; exact mono (by decide)
  · show (_ * _ : Int).natAbs ≤ _
    rw [Int.natAbs_mul]
    refine Nat.le_trans (Nat.mul_le_mul hd a2) ?_
    rw [← Nat.pow_add]; exact mono (by decide)
section
variable {P : Program} {w : World} {K : PySem.W.Frag} {mg : Str → Option Value} {base : Heap} {A : Adr}
theorem sc_solI : FnScope ["self", "net", "unknowns"] ["self", "net"] (defScope dSolI) := ⟨rfl, rfl, rfl, by decide +kernel, rfl, by decide +kernel, by decide +kernel⟩
theorem ok_solI (T : Txt K mg A) : MakeOk P w K mg base 4 A.cSol "Solution" ["self", "net"] (spSolI A) := by
  have G1 : CallOk P w K mg base 3 "law_rows" ["net"] (spRows A) := ok_rows T
  have G2 : CallOk P w K mg base 2 "solved" ["rows"] spSolved := ok_solved T
  refine T.solI.ok sc_solI (fun vs H Q E h => ?_) (fun f cdv Ar outer s H vs Q E hr h => ?_)
  · obtain ⟨p, dx, x, n, l, as, rfl, _⟩ := h
    rfl
  · obtain ⟨p, dx, x, n, l, as, rfl, hp, N, G, one, q⟩ := h
    refine ⟨_, pss_cons (ps_set (i := 2) sc_solI.nd rfl (Or.inl rfl) (pe_fn G2 hr (pa_cons (pe_fn G1 hr (pa_cons (pv 1) pa_nil)) pa_nil)))
      (pss_cons (ps_fld (pv 0) (pv 1) rfl)
      (pss_cons (ps_fld (pv 0) (pe_slice sl_list (pv 2) po_none (po_some (pe_un un_neg pe_int))) rfl)
      (pss_one (ps_fld (pv 0) (pe_ix ix_list (pv 2) (pe_un un_neg pe_int) (fun _ _ => rfl)) rfl)))), ?_⟩
    refine ⟨_, rfl, x, n, l, as, rfl, N, G, fun H1 R rs s1 hR hL => ?_⟩
    refine ⟨R, rs, n, rfl, hR, hL, G, one, fun H2 D s2 h2 => ?_⟩
    have hp2 := s2 _ _ (s1 _ _ hp)
    have s12 := s1.trans s2
    have hDp : D ≠ p := ne_of h2 hp2 (by intro z; cases z)
    have un : unkG n = unk1 n ++ [dG n] := rfl
    refine ⟨_, rfl, _, rfl, p, _, dx, _, rfl, hp2, T.kSol, T.nNet, (by decide), ?_⟩
    refine ⟨_, rfl, _, rfl, _, rfl, D, _, rfl, SqL.of (by rw [upd_ne hDp]; exact h2), fun d hd => ?_⟩
    have hpd : p ≠ d := ne_of_none upd_same hd
    have hDd : D ≠ d := ne_of_none (by rw [upd_ne hDp]; exact h2) hd
    have ec : cutV ((unkG n).map V.int) none (some (-1)) = (unk1 n).map V.int := by
      rw [un, List.map_append]; exact cut_last _ _
    refine ⟨_, rfl, p, _, dx, _, rfl, (by rw [upd_ne hpd, upd_same]), T.kSol, T.nDivided, pl1, ?_⟩
    refine ⟨_, rfl, _, rfl, D, _, _, _, rfl, rfl, SqL.of (by rw [upd_ne hDp, upd_ne hDd, upd_ne hDp]; exact h2), (by rw [un, List.map_append]; exact atI_last _ _), _, rfl, p, _, dx, _, rfl, upd_same, T.kSol, T.nDivisor, pl2, ?_⟩
    refine q _ ⟨dx, d, ?_, ?_⟩ (fun b o e hb => ?_)
    · rw [upd_same]
      show some (HO.ins A.cSol dx (putF "divisor" (.int (dG n)) (putF "divided" (.ref d) (putF "net" (.ref x) [])))) = _
      rw [sf_new]
    · unfold IntsAt
      rw [upd_ne (Ne.symm hpd), upd_ne (Ne.symm hpd), upd_same]
      show some (HO.lst (cutV ((unkG n).map V.int) none (some (-1)))) = _
      rw [ec]
    · have hbd : b ≠ d := by
        refine ne_of_none (H := upd H2 p (.ins A.cSol dx (putF "net" (.ref x) []))) (o := o) ?_ hd
        rw [upd_ne hb]; exact s12 _ _ e
      rw [upd_ne hb, upd_ne hb, upd_ne hbd, upd_ne hb]; exact s12 _ _ e
theorem sc_solV : FnScope ["self", "node"] ["self", "node"] (defScope dSolV) := ⟨rfl, rfl, rfl, by decide +kernel, rfl, by decide +kernel, by decide +kernel⟩
theorem ok_solV (T : Txt K mg A) : MethOk P w K mg base 1 A.cSol "volts" ["self", "node"] (spSolV A) := by
  refine T.solV.ok sc_solV (fun vs H Q E h => ?_) (fun f cdv Ar outer s H vs Q E hr h => ?_)
  · obtain ⟨p, x, n, l, as, r, rfl, _, _, _, _, ⟨j, rfl, _⟩, _⟩ := h
    rfl
  · obtain ⟨p, x, n, l, as, r, rfl, S, N, G, one, ⟨j, rfl, hj⟩, q⟩ := h
    obtain ⟨dx, d, hp, hd⟩ := S.ex
    have dm : n.nodes ≤ dimN n := by unfold dimN; omega
    refine ⟨_, pss_one (ps_ret (pe_tup (pa_cons (pe_ix ix_list (pe_fld (pv 0) rfl) (pv 1) (fun _ _ => rfl)) (pa_cons (pe_fld (pv 0) rfl) pa_nil)))), ?_⟩
    refine ⟨_, rfl, p, _, dx, _, _, rfl, hp, T.kSol, T.nDivided, sf_divided _ _ _, _, rfl, d, _, _, _, rfl, rfl, SqL.of hd, ints_at (by rw [unk1_len]; omega), _, rfl, p, _, dx, _, _, rfl, hp, T.kSol, T.nDivisor, sf_divisor _ _ _, (by show 2 ≤ sizeLine; decide), fun t ht => ?_⟩
    refine q _ t (same_new ht) ht ?_
    rw [upd_same, unk1_get n (by omega)]
    rfl
theorem sc_solB : FnScope ["self", "a", "b"] ["self", "a", "b"] (defScope dSolB) := ⟨rfl, rfl, rfl, by decide +kernel, rfl, by decide +kernel, by decide +kernel⟩
theorem ok_solB (T : Txt K mg A) : MethOk P w K mg base 1 A.cSol "volts_between" ["self", "a", "b"] (spSolB A) := by
  refine T.solB.ok sc_solB (fun vs H Q E h => ?_) (fun f cdv Ar outer s H vs Q E hr h => ?_)
  · obtain ⟨p, x, n, l, as, r, rfl, _, _, _, _, ⟨a, b, rfl, _⟩, _⟩ := h
    rfl
  · obtain ⟨p, x, n, l, as, r, rfl, S, N, G, one, ⟨a, b, rfl, ha, hb⟩, q⟩ := h
    obtain ⟨dx, d, hp, hd⟩ := S.ex
    have dm : n.nodes ≤ dimN n := by unfold dimN; omega
    refine ⟨_, pss_one (ps_ret (pe_tup (pa_cons (pe_op op_sub (pe_ix ix_list (pe_fld (pv 0) rfl) (pv 1) (fun _ _ => rfl)) (pe_ix ix_list (pe_fld (pv 0) rfl) (pv 2) (fun _ _ => rfl))) (pa_cons (pe_fld (pv 0) rfl) pa_nil)))), ?_⟩
    refine ⟨_, rfl, p, _, dx, _, _, rfl, hp, T.kSol, T.nDivided, sf_divided _ _ _, _, rfl, d, _, _, _, rfl, rfl, SqL.of hd, ints_at (by rw [unk1_len]; omega), ?_⟩
    refine ⟨_, rfl, p, _, dx, _, _, rfl, hp, T.kSol, T.nDivided, sf_divided _ _ _, _, rfl, d, _, _, _, rfl, rfl, SqL.of hd, ints_at (by rw [unk1_len]; omega), _, _, rfl, rfl, _, rfl, p, _, dx, _, _, rfl, hp, T.kSol, T.nDivisor, sf_divisor _ _ _, (by show 2 ≤ sizeLine; decide), fun t ht => ?_⟩
    refine q _ t (same_new ht) ht ?_
    rw [upd_same, unk1_get n (by omega), unk1_get n (by omega)]
    rfl
theorem sc_solA : FnScope ["self", "number", "part", "volts", "places"] ["self", "number"] (defScope dSolA) := ⟨rfl, rfl, rfl, by decide +kernel, rfl, by decide +kernel, by decide +kernel⟩
theorem ok_solA (T : Txt K mg A) : MethOk P w K mg base 2 A.cSol "amperes" ["self", "number"] (spSolA A) := by
  have G1 : MethOk P w K mg base 1 A.cSol "volts_between" ["self", "a", "b"] (spSolB A) := ok_solB T
  have G2 : CallOk P w K mg base 1 "places_of_amperes" ["net"] (spPlaces A) := ok_places T
  refine T.solA.ok sc_solA (fun vs H Q E h => ?_) (fun f cdv Ar outer s H vs Q E hr h => ?_)
  · obtain ⟨p, x, n, l, as, r, rfl, _, _, _, _, ⟨k, rfl, _⟩, _⟩ := h
    rfl
  · obtain ⟨p, x, n, l, as, r, rfl, S, N, G, one, ⟨k, rfl, hk⟩, q⟩ := h
    have q : ∀ (H' : Hp) (t : Addr), Same H H' → H t = none → H' t = some (.tup [.int (ampG n k).1, .int (ampG n k).2]) → Q (.ref t) H' := q
    obtain ⟨dx, d, hp, hd⟩ := S.ex
    obtain ⟨dn, hx⟩ := N.obj
    obtain ⟨c, hc, dc, hcc⟩ := N.get hk
    have hpt := G.part k hk
    refine ⟨_, pss_cons (ps_set (i := 2) sc_solA.nd rfl (Or.inl rfl) (pe_ix ix_list (pe_fld (pe_fld (pv 0) rfl) rfl) (pv 1) (fun _ _ => rfl)))
      (pss_cons (ps_if (pt_cmpR op_eq (pe_fld (pv 2) rfl) (pe_cst T.RE) (nomark _))
        (pss_cons (ps_set (i := 3) sc_solA.nd rfl (Or.inl rfl) (pe_mt G1 T.kSol hr (pv 0) (pa_cons (pe_fld (pv 2) rfl) (pa_cons (pe_fld (pv 2) rfl) pa_nil))))
          (pss_one (ps_ret (pe_tup (pa_cons (pe_ix ix_tup (pv 3) pe_int (fun _ _ => rfl)) (pa_cons (pe_op op_mul (pe_ix ix_tup (pv 3) pe_int (fun _ _ => rfl)) (pe_fld (pv 2) rfl)) pa_nil)))))) pss_nil)
      (pss_cons (ps_if (pt_cmpR op_eq (pe_fld (pv 2) rfl) (pe_cst T.SV) (nomark _))
        (pss_cons (ps_set (i := 4) sc_solA.nd rfl (Or.inl rfl) (pe_fn G2 hr (pa_cons (pe_fld (pv 0) rfl) pa_nil)))
          (pss_one (ps_ret (pe_tup (pa_cons (pe_ix ix_list (pe_fld (pv 0) rfl) (pe_dget (hu_of hr) (pv 4) (pv 1) (fun _ _ => rfl)) (fun _ _ => rfl)) (pa_cons (pe_fld (pv 0) rfl) pa_nil)))))) pss_nil)
      (pss_one (ps_ret (pe_tup (pa_cons (pe_un un_neg (pe_fld (pv 2) rfl)) (pa_cons pe_int pa_nil))))))), ?_⟩
    refine ⟨_, rfl, p, _, dx, _, _, rfl, hp, T.kSol, T.nNet, sf_net _ _ _, x, _, dn, _, _, rfl, hx, T.kNet, T.nParts, nf_parts _ _, _, rfl, l, _, _, _, rfl, rfl, SqL.of N.lst, refs_at hc, ?_⟩
    refine ⟨_, rfl, c, _, dc, _, _, rfl, hcc, T.kPart, T.nKind, pf_kind _ _ _ _, rfl, _, rfl, ?_⟩
    by_cases k0 : (pt n k).kind = 0
    · refine ifT (decide_eq_true (by show V.int (((pt n k).kind : Nat) : Int) = V.int 0; rw [k0]; rfl)) ?_
      have ea : ampG n k = (uG n (pt n k).a - uG n (pt n k).b, dG n * (pt n k).much) := by unfold ampG; rw [if_pos k0]
      rw [ea] at q
      refine ⟨_, rfl, p, dx, _, rfl, hp, sf_no _ _ _ (by decide +kernel) (by decide +kernel) (by decide +kernel), _, rfl, c, _, dc, _, _, rfl, hcc, T.kPart, T.nA, pf_a _ _ _ _, _, rfl, c, _, dc, _, _, rfl, hcc, T.kPart, T.nB, pf_b _ _ _ _,
        p, x, n, l, as, _, rfl, S, N, G, one, ⟨(pt n k).a, (pt n k).b, rfl, hpt.2.1, hpt.2.2.1⟩, fun H1 t s1 nt h1 => ?_⟩
      refine ⟨_, rfl, t, _, _, _, rfl, rfl, SqT.of h1, rfl, _, rfl, t, _, _, _, rfl, rfl, SqT.of h1, rfl, _, rfl, c, _, dc, _, _, rfl, s1 _ _ hcc, T.kPart, T.nMuch, pf_much _ _ _ _, _, _, rfl, rfl, .inr ⟨by omega, by omega⟩, (by show 2 ≤ sizeLine; decide), fun u hu => ?_⟩
      refine q _ u (s1.trans (same_new hu)) (s1.free hu) ?_
      rw [upd_same]
      rfl
    · refine ifN (by intro z; have z : V.int (((pt n k).kind : Nat) : Int) = V.int 0 := of_decide_eq_true z; injection z with z; exact k0 (by omega)) ?_
      refine ⟨_, rfl, c, _, dc, _, _, rfl, hcc, T.kPart, T.nKind, pf_kind _ _ _ _, rfl, _, rfl, ?_⟩
      by_cases k1 : (pt n k).kind = 1
      · refine ifT (decide_eq_true (by show V.int (((pt n k).kind : Nat) : Int) = V.int 1; rw [k1]; rfl)) ?_
        have ea : ampG n k = (uG n (place n k), dG n) := by unfold ampG; rw [if_neg k0, if_pos k1]
        rw [ea] at q
        refine ⟨_, rfl, p, _, dx, _, _, rfl, hp, T.kSol, T.nNet, sf_net _ _ _, x, n, l, as, rfl, N, G, fun H1 D s1 nD h1 => ?_⟩
        have val : valV (plcK n (srcs n n.parts.length)) (Sum.inl ((k : Nat) : Int)) = some (V.int (place n k)) := by rw [plc_val, if_pos ((srcs_mem n).mpr ⟨hk, k1⟩)]
        have pl := place_lt n hk k1
        refine ⟨_, rfl, p, _, dx, _, _, rfl, s1 _ _ hp, T.kSol, T.nDivided, sf_divided _ _ _, _, rfl, _, rfl, D, _, rfl, .inl ⟨_, Sum.inl ((k : Nat) : Int), .inl h1, rfl, val.symm⟩, d, _, _, _, rfl, rfl, SqL.of (s1 _ _ hd), ints_at (by rw [unk1_len]; exact pl),
          _, rfl, p, _, dx, _, _, rfl, s1 _ _ hp, T.kSol, T.nDivisor, sf_divisor _ _ _, (by show 2 ≤ sizeLine; decide), fun u hu => ?_⟩
        refine q _ u (s1.trans (same_new hu)) (s1.free hu) ?_
        rw [upd_same, unk1_get n pl]
      · refine ifN (by intro z; have z : V.int (((pt n k).kind : Nat) : Int) = V.int 1 := of_decide_eq_true z; injection z with z; exact k1 (by omega)) ?_
        have ea : ampG n k = (-(pt n k).much, 1) := by unfold ampG; rw [if_neg k0, if_neg k1]
        rw [ea] at q
        refine ⟨_, rfl, c, _, dc, _, _, rfl, hcc, T.kPart, T.nMuch, pf_much _ _ _ _, _, rfl, (by show 2 ≤ sizeLine; decide), fun u hu => ?_⟩
        exact q _ u (same_new hu) hu upd_same
theorem sc_solW : FnScope ["self", "number", "part", "volts", "amperes"] ["self", "number"] (defScope dSolW) := ⟨rfl, rfl, rfl, by decide +kernel, rfl, by decide +kernel, by decide +kernel⟩
theorem ok_solW (T : Txt K mg A) : MethOk P w K mg base 3 A.cSol "watts" ["self", "number"] (spSolW A) := by
  have G1 : MethOk P w K mg base 1 A.cSol "volts_between" ["self", "a", "b"] (spSolB A) := ok_solB T
  have G2 : MethOk P w K mg base 2 A.cSol "amperes" ["self", "number"] (spSolA A) := ok_solA T
  refine T.solW.ok sc_solW (fun vs H Q E h => ?_) (fun f cdv Ar outer s H vs Q E hr h => ?_)
  · obtain ⟨p, x, n, l, as, r, rfl, _, _, _, _, ⟨k, rfl, _⟩, _⟩ := h
    rfl
  · obtain ⟨p, x, n, l, as, r, rfl, S, N, G, one, ⟨k, rfl, hk⟩, q⟩ := h
    have q : ∀ (H' : Hp) (t : Addr), Same H H' → H t = none → H' t = some (.tup [.int (wattG n k).1, .int (wattG n k).2]) → Q (.ref t) H' := q
    obtain ⟨dx, d, hp, hd⟩ := S.ex
    obtain ⟨dn, hx⟩ := N.obj
    obtain ⟨c, hc, dc, hcc⟩ := N.get hk
    have hpt := G.part k hk
    obtain ⟨a1, a2, a3⟩ := amp_size G one hk
    have bs := b_size G one hpt.2.1 hpt.2.2.1
    have ds := (u_size G one).1
    refine ⟨_, pss_cons (ps_set (i := 2) sc_solW.nd rfl (Or.inl rfl) (pe_ix ix_list (pe_fld (pe_fld (pv 0) rfl) rfl) (pv 1) (fun _ _ => rfl)))
      (pss_cons (ps_set (i := 3) sc_solW.nd rfl (Or.inl rfl) (pe_mt G1 T.kSol hr (pv 0) (pa_cons (pe_fld (pv 2) rfl) (pa_cons (pe_fld (pv 2) rfl) pa_nil))))
      (pss_cons (ps_set (i := 4) sc_solW.nd rfl (Or.inl rfl) (pe_mt G2 T.kSol hr (pv 0) (pa_cons (pv 1) pa_nil)))
      (pss_one (ps_ret (pe_tup (pa_cons (pe_op op_mulB (pe_ix ix_tup (pv 3) pe_int (fun _ _ => rfl)) (pe_ix ix_tup (pv 4) pe_int (fun _ _ => rfl))) (pa_cons (pe_op op_mulB (pe_ix ix_tup (pv 3) pe_int (fun _ _ => rfl)) (pe_ix ix_tup (pv 4) pe_int (fun _ _ => rfl))) pa_nil))))))), ?_⟩
    refine ⟨_, rfl, p, _, dx, _, _, rfl, hp, T.kSol, T.nNet, sf_net _ _ _, x, _, dn, _, _, rfl, hx, T.kNet, T.nParts, nf_parts _ _, _, rfl, l, _, _, _, rfl, rfl, SqL.of N.lst, refs_at hc, ?_⟩
    refine ⟨_, rfl, p, dx, _, rfl, hp, sf_no _ _ _ (by decide +kernel) (by decide +kernel) (by decide +kernel), _, rfl, c, _, dc, _, _, rfl, hcc, T.kPart, T.nA, pf_a _ _ _ _, _, rfl, c, _, dc, _, _, rfl, hcc, T.kPart, T.nB, pf_b _ _ _ _,
      p, x, n, l, as, _, rfl, S, N, G, one, ⟨(pt n k).a, (pt n k).b, rfl, hpt.2.1, hpt.2.2.1⟩, fun H1 t s1 nt h1 => ?_⟩
    refine ⟨_, rfl, p, dx, _, rfl, s1 _ _ hp, sf_no _ _ _ (by decide +kernel) (by decide +kernel) (by decide +kernel), _, rfl, p, x, n, l, as, _, rfl, S.same s1, N.same s1, G, one, ⟨k, rfl, hk⟩, fun H2 u s2 nu h2 => ?_⟩
    have h1' : H2 t = some (.tup [.int (uG n (pt n k).a - uG n (pt n k).b), .int (dG n)]) := s2 _ _ h1
    have h2' : H2 u = some (.tup [.int (ampG n k).1, .int (ampG n k).2]) := h2
    refine ⟨_, rfl, t, _, _, _, rfl, rfl, SqT.of h1', rfl, _, rfl, u, _, _, _, rfl, rfl, SqT.of h2', rfl, _, _, rfl, rfl, ⟨Nat.le_trans bs (pow_big (by decide)), Nat.le_trans a1 (pow_big (by decide))⟩, ?_⟩
    refine ⟨_, rfl, t, _, _, _, rfl, rfl, SqT.of h1', rfl, _, rfl, u, _, _, _, rfl, rfl, SqT.of h2', rfl, _, _, rfl, rfl, ⟨Nat.le_trans ds (pow_big (by decide)), Nat.le_trans a2 (pow_big (by decide))⟩, (by show 2 ≤ sizeLine; decide), fun v hv => ?_⟩
    exact q _ v ((s1.trans s2).trans (same_new hv)) ((s1.trans s2).free hv) upd_same
end
end Rp
set_option Elab.async false
set_option linter.all false
set_option maxRecDepth 100000
set_option maxHeartbeats 2000000
/-! measuring.py -/
namespace Rp
open PySem PySem.Spec PyProof.Rows L2 Rn
open Rc43 (Net Part probed)
/-- an answer of a net: a new list -/
def spAns1 (A : Adr) (ans : Net → Int → List Int) : Sp := fun vs H Q _ => ∃ (x : Addr) (n : Net) (l : Addr) (as : List Addr) (z : Int), vs = [.ref x, .int z] ∧ NetAt A H x n l as ∧ GoodM n ∧ ∀ (H' : Hp) (D : Addr), Same H H' → H D = none → IntsAt H' D (ans n z) → Q (.ref D) H'
def spAns2 (A : Adr) (ans : Net → Int → Int → List Int) : Sp := fun vs H Q _ => ∃ (x : Addr) (n : Net) (l : Addr) (as : List Addr) (y z : Int), vs = [.ref x, .int y, .int z] ∧ NetAt A H x n l as ∧ GoodM n ∧ ∀ (H' : Hp) (D : Addr), Same H H' → H D = none → IntsAt H' D (ans n y z) → Q (.ref D) H'
/-- a net grows by a part -/
theorem net_snoc {A : Adr} {H H1 : Hp} {y l c : Addr} {m : Net} {as : List Addr} {p : Part} (N : NetAt A H y m l as) (k1 : Same H H1) (hp : PartAt A H1 c p) (nc : H c = none) :
    NetAt A (upd H1 l (.lst (as.map V.ref ++ [V.ref c]))) y { m with parts := m.parts ++ [p] } l (as ++ [c]) := by
  obtain ⟨dy, hy⟩ := N.obj
  have hyl : y ≠ l := ne_of hy N.lst (by intro z; cases z)
  have hl1 := k1 _ _ N.lst
  refine ⟨⟨dy, by rw [upd_ne hyl]; exact k1 _ _ hy⟩, by rw [upd_same, List.map_append]; rfl, ?_, ?_⟩
  · refine nd_snoc N.nd fun hm => ?_
    obtain ⟨j, hj⟩ := List.getElem?_of_mem hm
    obtain ⟨d, e⟩ := N.parts.at_ j c hj
    rw [nc] at e; cases e
  · exact parts_snoc (parts_same_upd (N.parts.same k1) hl1) (part_same_upd hp hl1)
section
variable {P : Program} {w : World} {K : PySem.W.Frag} {mg : Str → Option Value} {base : Heap} {A : Adr}
/-- [0] + told(..), read -/
theorem zero_told {H : Hp} {Q : VK} {p q : Int} {te : TE} {σ : L2.St} (q0 : q ≠ 0) (pb : p.natAbs ≤ big) (qb : q.natAbs ≤ big)
    (k : ∀ (H' : Hp) (D : Addr), Same H H' → H D = none → IntsAt H' D (0 :: toldG p q) → Q (.ref D) H')
    (h : ∀ (H1 : Hp) (R : VK), Same H H1 → (∀ (H2 : Hp) (t : Addr), Same H1 H2 → H2 t = some (.tup [.int p, .int q]) → R (.ref t) H2) → te σ H1 R) :
    tOp rCat (tLst (tCons (tC (.int 0)) tNil)) (tFn (spTold K) (tCons te tNil)) σ H Q := by
  refine ⟨(by show 1 ≤ sizeLine; decide), fun z hz => ?_⟩
  have s1 : Same H (upd H z (.lst [.int 0])) := same_new hz
  have hz1 : (upd H z (.lst [.int 0])) z = some (.lst [.int 0]) := upd_same
  generalize upd H z (.lst [.int 0]) = H1 at s1 hz1
  refine h H1 _ s1 fun H2 t s2 h2 => ⟨t, p, q, rfl, h2, q0, pb, qb, fun H3 D s3 nD h3 => ?_⟩
  refine ⟨z, D, _, _, rfl, rfl, s3 _ _ (s2 _ _ hz1), h3, (by rw [List.length_map, told_len]; show 1 + 321 ≤ sizeLine; decide), fun c hc => ?_⟩
  have s4 := (s1.trans s2).trans s3
  refine k _ c (s4.trans (same_new hc)) (s4.free hc) ?_
  unfold IntsAt
  rw [upd_same]; rfl
theorem one_list {H : Hp} {Q : VK} {i : Int} (k : ∀ (H' : Hp) (D : Addr), Same H H' → H D = none → IntsAt H' D [i] → Q (.ref D) H') : [V.int i].length ≤ sizeLine ∧ ∀ p, H p = none → Q (.ref p) (upd H p (.lst [.int i])) :=
  ⟨by show 1 ≤ sizeLine; decide, fun z hz => k _ z (same_new hz) hz upd_same⟩
theorem nat_of {n : Net} {z : Int} (h : NodeP n z) : z = ((z.toNat : Nat) : Int) ∧ z.toNat < n.nodes := ⟨(Int.toNat_of_nonneg h.1).symm, by have := h.1; have := h.2; omega⟩
theorem nat_ofP {n : Net} {z : Int} (h : PartP n z) : z = ((z.toNat : Nat) : Int) ∧ z.toNat < n.parts.length := ⟨(Int.toNat_of_nonneg h.1).symm, by have := h.1; have := h.2; omega⟩
/-- Solution(net), read: the new one, all else as it was -/
theorem made_sol {H : Hp} {R : VK} {x l y dy : Addr} {n : Net} {as : List Addr} (ny : H y = none) (ndy : H dy = none) (N : NetAt A H x n l as) (G : GoodN n) (one : oneG n = true)
    (k : ∀ (H' : Hp) (dx d : Addr), Same H H' → SolAt A H' y n x → H' y = some (.ins A.cSol dx (sf x d (dG n))) → R .non H') :
    spSolI A [.ref y, .ref x] (upd (upd H dy (.own y)) y (.ins A.cSol dy [])) R E0 := by
  have s1 : Same H (upd (upd H dy (.own y)) y (.ins A.cSol dy [])) := fun b o e => by rw [upd_ne (ne_of_none e ny), upd_ne (ne_of_none e ndy)]; exact e
  refine ⟨y, dy, x, n, l, as, rfl, upd_same, N.same s1, G, one, fun H2 S2 k2 => ?_⟩
  obtain ⟨dx, d, h1, h2⟩ := S2.ex
  exact k H2 dx d (Same.made ny ndy k2) S2 h1
/-- Part(..), read -/
theorem made_part {H : Hp} {R : VK} {c dc : Addr} {k z1 z2 mu : Int} {p : Part} (nc : H c = none) (ndc : H dc = none) (ep : pfI k z1 z2 mu = pf p) (h : ∀ H2 : Hp, Same H H2 → PartAt A H2 c p → R .non H2) :
    spPartI A [.ref c, .int k, .int z1, .int z2, .int mu] (upd (upd H dc (.own c)) c (.ins A.cPart dc [])) R E0 := by
  refine ⟨c, dc, k, z1, z2, mu, rfl, upd_same, h _ (fun b o e => ?_) ⟨dc, by rw [upd_same, ep]⟩⟩
  rw [upd_ne (ne_of_none e nc), upd_ne (ne_of_none e nc), upd_ne (ne_of_none e ndc)]; exact e
theorem sc_voltsA : FnScope ["net", "node"] ["net", "node"] (defScope dVoltsA) := ⟨rfl, rfl, rfl, by decide +kernel, rfl, by decide +kernel, by decide +kernel⟩
theorem ok_voltsA (T : Txt K mg A) : CallOk P w K mg base 6 "volts_answer" ["net", "node"] (spAns1 A voltsA) := by
  have G1 : MethOk P w K mg base 1 A.cNet "has_node" ["self", "number"] (spHasNode A) := ok_hasNode T
  have G2 : CallOk P w K mg base 2 "has_one_solution" ["net"] (spOne A) := ok_one T
  have G3 : CallOk P w K mg base 2 "told" ["fraction"] (spTold K) := ok_told T
  have G4 : MethOk P w K mg base 1 A.cSol "volts" ["self", "node"] (spSolV A) := ok_solV T
  have G5 : MakeOk P w K mg base 4 A.cSol "Solution" ["self", "net"] (spSolI A) := ok_solI T
  refine T.voltsA.ok sc_voltsA (fun vs H Q E h => ?_) (fun f cdv Ar outer s H vs Q E hr h => ?_)
  · obtain ⟨x, n, l, as, z, rfl, _⟩ := h
    rfl
  · obtain ⟨x, n, l, as, z, rfl, N, G, q⟩ := h
    obtain ⟨dx, hx⟩ := N.obj
    refine ⟨_, pss_cons (ps_if (pt_not (pt_val (pe_mt G1 T.kNet hr (pv 0) (pa_cons (pv 1) pa_nil)))) (pss_one (ps_ret (pe_lst (pa_cons (pe_cst T.WN) pa_nil)))) pss_nil)
      (pss_cons (ps_if (pt_not (pt_val (pe_fn G2 hr (pa_cons (pv 0) pa_nil)))) (pss_one (ps_ret (pe_lst (pa_cons (pe_cst T.NO) pa_nil)))) pss_nil)
      (pss_one (ps_ret (pe_op op_cat (pe_lst (pa_cons pe_int pa_nil)) (pe_fn G3 hr (pa_cons (pe_mt G4 T.kSol hr (pe_mk G5 hr (pa_cons (pv 0) pa_nil)) (pa_cons (pv 1) pa_nil)) pa_nil)))))), ?_⟩
    refine ⟨_, rfl, x, dx, _, rfl, hx, nf_no _ _ (by decide +kernel) (by decide +kernel), _, rfl, x, n, l, as, z, rfl, N, _, rfl, ?_⟩
    by_cases h1 : NodeP n z
    · refine ifN (by simp [h1]) ?_
      obtain ⟨ez, hz⟩ := nat_of h1
      refine ⟨_, rfl, x, n, l, as, rfl, N, G.toGoodN, fun H1 s1 => ⟨_, rfl, ?_⟩⟩
      by_cases h2 : oneG n = true
      · refine ifN (by simp [h2]) ?_
        have e : voltsA n z = 0 :: toldG (uG n z.toNat) (dG n) := by unfold voltsA; rw [if_pos h1, if_pos h2]
        rw [e] at q
        have dm : n.nodes ≤ dimN n := by unfold dimN; omega
        have us := u_size G.toGoodN h2
        refine zero_told (p := uG n z.toNat) (q := dG n) (law_solved G.toGoodN (good_triv G.toGoodN h2)).1 (Nat.le_trans (us.2 _ (by omega)) (pow_big (by decide))) (Nat.le_trans us.1 (pow_big (by decide))) (fun H' D s nD h => q H' D (s1.trans s) (s1.free nD) h) ?_
        intro H2 R s2 k2
        have N2 := N.same (s1.trans s2)
        refine ⟨_, rfl, fun p dy ny ndy ne => made_sol ny ndy N2 G.toGoodN h2 fun H3 dp d s3 S3 h3 => ⟨rfl, ?_⟩⟩
        refine ⟨p, dp, _, rfl, h3, sf_no _ _ _ (by decide +kernel) (by decide +kernel) (by decide +kernel), _, rfl, p, x, n, l, as, _, rfl, S3, N2.same s3, G.toGoodN, h2, ⟨z.toNat, by rw [← ez], hz⟩, fun H4 t s4 nt h4 => ?_⟩
        exact k2 H4 t (s3.trans s4) h4
      · refine ifT (by simp [h2]) ?_
        have e : voltsA n z = [-3] := by unfold voltsA; rw [if_pos h1, if_neg h2]
        rw [e] at q
        exact one_list fun H' D s nD h => q H' D (s1.trans s) (s1.free nD) h
    · refine ifT (by simp [h1]) ?_
      have e : voltsA n z = [-1] := by unfold voltsA; rw [if_neg h1]
      rw [e] at q
      exact one_list q
theorem sc_ampsA : FnScope ["net", "number"] ["net", "number"] (defScope dAmpsA) := ⟨rfl, rfl, rfl, by decide +kernel, rfl, by decide +kernel, by decide +kernel⟩
theorem ok_ampsA (T : Txt K mg A) : CallOk P w K mg base 6 "amperes_answer" ["net", "number"] (spAns1 A ampsA) := by
  have G1 : MethOk P w K mg base 1 A.cNet "has_part" ["self", "number"] (spHasPart A) := ok_hasPart T
  have G2 : CallOk P w K mg base 2 "has_one_solution" ["net"] (spOne A) := ok_one T
  have G3 : CallOk P w K mg base 2 "told" ["fraction"] (spTold K) := ok_told T
  have G4 : MethOk P w K mg base 2 A.cSol "amperes" ["self", "number"] (spSolA A) := ok_solA T
  have G5 : MakeOk P w K mg base 4 A.cSol "Solution" ["self", "net"] (spSolI A) := ok_solI T
  refine T.ampsA.ok sc_ampsA (fun vs H Q E h => ?_) (fun f cdv Ar outer s H vs Q E hr h => ?_)
  · obtain ⟨x, n, l, as, z, rfl, _⟩ := h
    rfl
  · obtain ⟨x, n, l, as, z, rfl, N, G, q⟩ := h
    obtain ⟨dx, hx⟩ := N.obj
    refine ⟨_, pss_cons (ps_if (pt_not (pt_val (pe_mt G1 T.kNet hr (pv 0) (pa_cons (pv 1) pa_nil)))) (pss_one (ps_ret (pe_lst (pa_cons (pe_cst T.WN) pa_nil)))) pss_nil)
      (pss_cons (ps_if (pt_not (pt_val (pe_fn G2 hr (pa_cons (pv 0) pa_nil)))) (pss_one (ps_ret (pe_lst (pa_cons (pe_cst T.NO) pa_nil)))) pss_nil)
      (pss_one (ps_ret (pe_op op_cat (pe_lst (pa_cons pe_int pa_nil)) (pe_fn G3 hr (pa_cons (pe_mt G4 T.kSol hr (pe_mk G5 hr (pa_cons (pv 0) pa_nil)) (pa_cons (pv 1) pa_nil)) pa_nil)))))), ?_⟩
    refine ⟨_, rfl, x, dx, _, rfl, hx, nf_no _ _ (by decide +kernel) (by decide +kernel), _, rfl, x, n, l, as, z, rfl, N, _, rfl, ?_⟩
    by_cases h1 : PartP n z
    · refine ifN (by simp [h1]) ?_
      obtain ⟨ez, hz⟩ := nat_ofP h1
      refine ⟨_, rfl, x, n, l, as, rfl, N, G.toGoodN, fun H1 s1 => ⟨_, rfl, ?_⟩⟩
      by_cases h2 : oneG n = true
      · refine ifN (by simp [h2]) ?_
        have e : ampsA n z = 0 :: toldG (ampG n z.toNat).1 (ampG n z.toNat).2 := by unfold ampsA; rw [if_pos h1, if_pos h2]
        rw [e] at q
        obtain ⟨a1, a2, a3⟩ := amp_size G.toGoodN h2 hz
        refine zero_told (p := (ampG n z.toNat).1) (q := (ampG n z.toNat).2) a3 (Nat.le_trans a1 (pow_big (by decide))) (Nat.le_trans a2 (pow_big (by decide))) (fun H' D s nD h => q H' D (s1.trans s) (s1.free nD) h) ?_
        intro H2 R s2 k2
        have N2 := N.same (s1.trans s2)
        refine ⟨_, rfl, fun p dy ny ndy ne => made_sol ny ndy N2 G.toGoodN h2 fun H3 dp d s3 S3 h3 => ⟨rfl, ?_⟩⟩
        refine ⟨p, dp, _, rfl, h3, sf_no _ _ _ (by decide +kernel) (by decide +kernel) (by decide +kernel), _, rfl, p, x, n, l, as, _, rfl, S3, N2.same s3, G.toGoodN, h2, ⟨z.toNat, by rw [← ez], hz⟩, fun H4 t s4 nt h4 => ?_⟩
        exact k2 H4 t (s3.trans s4) h4
      · refine ifT (by simp [h2]) ?_
        have e : ampsA n z = [-3] := by unfold ampsA; rw [if_pos h1, if_neg h2]
        rw [e] at q
        exact one_list fun H' D s nD h => q H' D (s1.trans s) (s1.free nD) h
    · refine ifT (by simp [h1]) ?_
      have e : ampsA n z = [-1] := by unfold ampsA; rw [if_neg h1]
      rw [e] at q
      exact one_list q
theorem sc_wattsA : FnScope ["net", "number"] ["net", "number"] (defScope dWattsA) := ⟨rfl, rfl, rfl, by decide +kernel, rfl, by decide +kernel, by decide +kernel⟩
theorem ok_wattsA (T : Txt K mg A) : CallOk P w K mg base 6 "watts_answer" ["net", "number"] (spAns1 A wattsA) := by
  have G1 : MethOk P w K mg base 1 A.cNet "has_part" ["self", "number"] (spHasPart A) := ok_hasPart T
  have G2 : CallOk P w K mg base 2 "has_one_solution" ["net"] (spOne A) := ok_one T
  have G3 : CallOk P w K mg base 2 "told" ["fraction"] (spTold K) := ok_told T
  have G4 : MethOk P w K mg base 3 A.cSol "watts" ["self", "number"] (spSolW A) := ok_solW T
  have G5 : MakeOk P w K mg base 4 A.cSol "Solution" ["self", "net"] (spSolI A) := ok_solI T
  refine T.wattsA.ok sc_wattsA (fun vs H Q E h => ?_) (fun f cdv Ar outer s H vs Q E hr h => ?_)
  · obtain ⟨x, n, l, as, z, rfl, _⟩ := h
    rfl
  · obtain ⟨x, n, l, as, z, rfl, N, G, q⟩ := h
    obtain ⟨dx, hx⟩ := N.obj
    refine ⟨_, pss_cons (ps_if (pt_not (pt_val (pe_mt G1 T.kNet hr (pv 0) (pa_cons (pv 1) pa_nil)))) (pss_one (ps_ret (pe_lst (pa_cons (pe_cst T.WN) pa_nil)))) pss_nil)
      (pss_cons (ps_if (pt_not (pt_val (pe_fn G2 hr (pa_cons (pv 0) pa_nil)))) (pss_one (ps_ret (pe_lst (pa_cons (pe_cst T.NO) pa_nil)))) pss_nil)
      (pss_one (ps_ret (pe_op op_cat (pe_lst (pa_cons pe_int pa_nil)) (pe_fn G3 hr (pa_cons (pe_mt G4 T.kSol hr (pe_mk G5 hr (pa_cons (pv 0) pa_nil)) (pa_cons (pv 1) pa_nil)) pa_nil)))))), ?_⟩
    refine ⟨_, rfl, x, dx, _, rfl, hx, nf_no _ _ (by decide +kernel) (by decide +kernel), _, rfl, x, n, l, as, z, rfl, N, _, rfl, ?_⟩
    by_cases h1 : PartP n z
    · refine ifN (by simp [h1]) ?_
      obtain ⟨ez, hz⟩ := nat_ofP h1
      refine ⟨_, rfl, x, n, l, as, rfl, N, G.toGoodN, fun H1 s1 => ⟨_, rfl, ?_⟩⟩
      by_cases h2 : oneG n = true
      · refine ifN (by simp [h2]) ?_
        have e : wattsA n z = 0 :: toldG (wattG n z.toNat).1 (wattG n z.toNat).2 := by unfold wattsA; rw [if_pos h1, if_pos h2]; rfl
        rw [e] at q
        obtain ⟨a1, a2, a3⟩ := watt_size G.toGoodN h2 hz
        refine zero_told (p := (wattG n z.toNat).1) (q := (wattG n z.toNat).2) a3 (Nat.le_trans a1 (pow_big (by decide))) (Nat.le_trans a2 (pow_big (by decide))) (fun H' D s nD h => q H' D (s1.trans s) (s1.free nD) h) ?_
        intro H2 R s2 k2
        have N2 := N.same (s1.trans s2)
        refine ⟨_, rfl, fun p dy ny ndy ne => made_sol ny ndy N2 G.toGoodN h2 fun H3 dp d s3 S3 h3 => ⟨rfl, ?_⟩⟩
        refine ⟨p, dp, _, rfl, h3, sf_no _ _ _ (by decide +kernel) (by decide +kernel) (by decide +kernel), _, rfl, p, x, n, l, as, _, rfl, S3, N2.same s3, G.toGoodN, h2, ⟨z.toNat, by rw [← ez], hz⟩, fun H4 t s4 nt h4 => ?_⟩
        exact k2 H4 t (s3.trans s4) h4
      · refine ifT (by simp [h2]) ?_
        have e : wattsA n z = [-3] := by unfold wattsA; rw [if_pos h1, if_neg h2]
        rw [e] at q
        exact one_list fun H' D s nD h => q H' D (s1.trans s) (s1.free nD) h
    · refine ifT (by simp [h1]) ?_
      have e : wattsA n z = [-1] := by unfold wattsA; rw [if_neg h1]
      rw [e] at q
      exact one_list q
def spBetNet (A : Adr) : Sp := fun vs H Q _ => ∃ (x : Addr) (n : Net) (l : Addr) (as : List Addr) (a b : Int), vs = [.ref x, .int a, .int b] ∧ NetAt A H x n l as ∧ GoodM n ∧ TwoP n a b ∧
  ∀ (H' : Hp) (y l' : Addr) (as' : List Addr), Same H H' → NetAt A H' y (probed n a.toNat b.toNat) l' as' → Q (.ref y) H'
theorem sc_betNet : FnScope ["net", "a", "b", "tried", "part", "much"] ["net", "a", "b"] (defScope dBetNet) := ⟨rfl, rfl, rfl, by decide +kernel, rfl, by decide +kernel, by decide +kernel⟩
def dead (p : Part) : Part := if p.kind = 0 then p else { p with much := 0 }
theorem ok_betNet (T : Txt K mg A) : CallOk P w K mg base 3 "net_for_between" ["net", "a", "b"] (spBetNet A) := by
  have G1 : MakeOk P w K mg base 1 A.cNet "Net" ["self", "node_count"] (spNetI A) := ok_netI T
  have G2 : MakeOk P w K mg base 1 A.cPart "Part" ["self", "kind", "a", "b", "much"] (spPartI A) := ok_partI T
  refine T.betNet.ok sc_betNet (fun vs H Q E h => ?_) (fun f cdv Ar outer s H vs Q E hr h => ?_)
  · obtain ⟨x, n, l, as, a, b, rfl, _⟩ := h
    rfl
  · obtain ⟨x, n, l, as, a, b, rfl, N, G, tw, q⟩ := h
    obtain ⟨dx, hx⟩ := N.obj
    have room := G.room
    refine ⟨_, pss_cons (ps_set (i := 3) sc_betNet.nd rfl (Or.inl rfl) (pe_mk G1 hr (pa_cons (pe_fld (pv 0) rfl) pa_nil)))
      (pss_cons (ps_for PassesOwn.never rfl (pi_list (pe_fld (pv 0) rfl)) (pg_name (i := 4) sc_betNet.nd rfl (Or.inl rfl))
        (pss_cons (ps_set (i := 5) sc_betNet.nd rfl (Or.inl rfl) (pe_ifExp (pt_cmpR op_eq (pe_fld (pv 4) rfl) (pe_cst T.RE) (nomark _)) (pe_fld (pv 4) rfl) pe_int))
          (pss_one (ps_expr (pe_bm PySem.F.plainAttrs_list PySem.F.slot_list_append PySem.F.type_list_append mt_append (pe_fld (pv 3) rfl) (pa_cons (pe_mk G2 hr (pa_cons (pe_fld (pv 4) rfl) (pa_cons (pe_fld (pv 4) rfl) (pa_cons (pe_fld (pv 4) rfl) (pa_cons (pv 5) pa_nil))))) pa_nil))))))
      (pss_cons (ps_expr (pe_bm PySem.F.plainAttrs_list PySem.F.slot_list_append PySem.F.type_list_append mt_append (pe_fld (pv 3) rfl) (pa_cons (pe_mk G2 hr (pa_cons (pe_cst T.SA) (pa_cons (pv 1) (pa_cons (pv 2) (pa_cons pe_int pa_nil))))) pa_nil)))
      (pss_one (ps_ret (pv 3))))), ?_⟩
    -- tried = Net(net.node_count)
    refine ⟨_, rfl, x, _, dx, _, _, rfl, hx, T.kNet, T.nNC, nf_nc _ _, fun y dy ny ndy ne => ⟨y, dy, n.nodes, rfl, upd_same, fun l' hl' => ⟨rfl, ?_⟩⟩⟩
    have yl : y ≠ l' := ne_of_none upd_same hl'
    have nl' : H l' = none := by
      have s : Same H (upd (upd H dy (.own y)) y (.ins A.cNet dy [])) := fun b o e => by rw [upd_ne (ne_of_none e ny), upd_ne (ne_of_none e ndy)]; exact e
      exact s.free hl'
    have s0 : Same H (upd (upd (upd (upd H dy (.own y)) y (.ins A.cNet dy [])) l' (.lst [])) y (.ins A.cNet dy (nf n.nodes l'))) := fun b o e => by
      rw [upd_ne (ne_of_none e ny), upd_ne (ne_of_none e nl'), upd_ne (ne_of_none e ny), upd_ne (ne_of_none e ndy)]; exact e
    have N0 : NetAt A (upd (upd (upd (upd H dy (.own y)) y (.ins A.cNet dy [])) l' (.lst [])) y (.ins A.cNet dy (nf n.nodes l'))) y ⟨n.nodes, []⟩ l' [] :=
      ⟨⟨dy, upd_same⟩, by rw [upd_ne (Ne.symm yl), upd_same]; rfl, List.nodup_nil, rfl, fun j c e => by simp at e⟩
    generalize upd (upd (upd (upd H dy (.own y)) y (.ins A.cNet dy [])) l' (.lst [])) y (.ins A.cNet dy (nf n.nodes l')) = H0 at s0 N0
    refine ⟨_, rfl, x, _, dx, _, _, rfl, s0 _ _ hx, T.kNet, T.nParts, nf_parts _ _, l, rfl, ⟨_, SqL.of (s0 _ _ N.lst)⟩, ?_⟩
    refine for_list (K := K) (a := l) (xs := as.map V.ref) (fun i σ H' => ∃ (v4 v5 : Option V) (bs : List Addr), σ = [some (.ref x), some (.int a), some (.int b), some (.ref y), v4, v5] ∧ Same H H' ∧ NetAt A H' y ⟨n.nodes, (n.parts.map dead).take i⟩ l' bs) ?_ ?_ ?_ ?_
    · exact ⟨none, none, [], rfl, s0, N0⟩
    · rintro i σ H' _ ⟨_, _, _, _, s1, _⟩
      exact SqL.of (s1 _ _ N.lst)
    · rintro i yv σ H1 hi ⟨v4, v5, bs, rfl, s1, N1⟩
      obtain ⟨d, hd, rfl⟩ := ref_of hi
      obtain ⟨dd, hdd⟩ := (N.parts.at_ i d hd).same s1
      have hdd : H1 d = some (.ins A.cPart dd (pf (pt n i))) := hdd
      have hin : i < n.parts.length := by rw [← N.parts.len]; exact (List.getElem?_eq_some_iff.mp hd).1
      have tk : (n.parts.map dead).take (i + 1) = (n.parts.map dead).take i ++ [dead (pt n i)] := by
        rw [List.take_add_one, List.getElem?_map, pt_mem hin]; rfl
      obtain ⟨dn, hy1⟩ := N1.obj
      have few : (⟨n.nodes, (n.parts.map dead).take i⟩ : Net).parts.length ≤ 30 := by
        show ((n.parts.map dead).take i).length ≤ 30
        rw [List.length_take, List.length_map]; omega
      refine ⟨_, rfl, d, _, dd, _, _, rfl, hdd, T.kPart, T.nKind, pf_kind _ _ _ _, rfl, _, rfl, ?_⟩
      by_cases k0 : (pt n i).kind = 0
      · refine ifT (decide_eq_true (by show V.int (((pt n i).kind : Nat) : Int) = V.int 0; rw [k0]; rfl)) ?_
        refine ⟨_, rfl, d, _, dd, _, _, rfl, hdd, T.kPart, T.nMuch, pf_much _ _ _ _, ?_⟩
        refine ⟨_, rfl, y, _, dn, _, _, rfl, hy1, T.kNet, T.nParts, nf_parts _ _, .inl ⟨rfl, _, SqL.of N1.lst⟩, ?_⟩
        refine ⟨_, rfl, d, _, dd, _, _, rfl, hdd, T.kPart, T.nKind, pf_kind _ _ _ _, _, rfl, d, _, dd, _, _, rfl, hdd, T.kPart, T.nA, pf_a _ _ _ _, _, rfl, d, _, dd, _, _, rfl, hdd, T.kPart, T.nB, pf_b _ _ _ _, _, rfl, ?_⟩
        refine fun c dc nc ndc nedc => made_part (p := dead (pt n i)) nc ndc (by unfold dead; rw [if_pos k0]; rfl) fun H2 s2 hp2 => ⟨rfl, l', _, _, rfl, rfl, s2 _ _ N1.lst, (by rw [List.length_map, N1.parts.len]; exact Nat.lt_of_le_of_lt few (by decide)), ?_⟩
        exact ⟨_, _, bs ++ [c], rfl, fun b o e => by rw [upd_ne (ne_of_none e nl')]; exact s2 _ _ (s1 _ _ e), by rw [tk]; exact net_snoc N1 s2 hp2 nc⟩
      · refine ifN (by intro z; have z : V.int (((pt n i).kind : Nat) : Int) = V.int 0 := of_decide_eq_true z; injection z with z; exact k0 (by omega)) ?_
        refine ⟨_, rfl, y, _, dn, _, _, rfl, hy1, T.kNet, T.nParts, nf_parts _ _, .inl ⟨rfl, _, SqL.of N1.lst⟩, ?_⟩
        refine ⟨_, rfl, d, _, dd, _, _, rfl, hdd, T.kPart, T.nKind, pf_kind _ _ _ _, _, rfl, d, _, dd, _, _, rfl, hdd, T.kPart, T.nA, pf_a _ _ _ _, _, rfl, d, _, dd, _, _, rfl, hdd, T.kPart, T.nB, pf_b _ _ _ _, _, rfl, ?_⟩
        refine fun c dc nc ndc nedc => made_part (p := dead (pt n i)) nc ndc (by unfold dead; rw [if_neg k0]; rfl) fun H2 s2 hp2 => ⟨rfl, l', _, _, rfl, rfl, s2 _ _ N1.lst, (by rw [List.length_map, N1.parts.len]; exact Nat.lt_of_le_of_lt few (by decide)), ?_⟩
        exact ⟨_, _, bs ++ [c], rfl, fun b o e => by rw [upd_ne (ne_of_none e nl')]; exact s2 _ _ (s1 _ _ e), by rw [tk]; exact net_snoc N1 s2 hp2 nc⟩
    · rintro σ H1 ⟨v4, v5, bs, rfl, s1, N1⟩
      have e : (as.map V.ref).length = (n.parts.map dead).length := by rw [List.length_map, List.length_map, N.parts.len]
      rw [e, List.take_length] at N1
      obtain ⟨dn, hy1⟩ := N1.obj
      have few : (⟨n.nodes, n.parts.map dead⟩ : Net).parts.length ≤ 30 := by
        show (n.parts.map dead).length ≤ 30
        rw [List.length_map]; omega
      refine ⟨_, rfl, y, _, dn, _, _, rfl, hy1, T.kNet, T.nParts, nf_parts _ _, .inl ⟨rfl, _, SqL.of N1.lst⟩, ?_⟩
      refine ⟨_, rfl, _, rfl, ?_⟩
      refine fun c dc nc ndc nedc => made_part (p := ⟨2, a.toNat, b.toNat, 1⟩) nc ndc ?_ fun H2 s2 hp2 => ⟨rfl, l', _, _, rfl, rfl, s2 _ _ N1.lst, (by rw [List.length_map, N1.parts.len]; exact Nat.lt_of_le_of_lt few (by decide)), ?_⟩
      · show pfI 2 a b 1 = pfI 2 ((a.toNat : Nat) : Int) ((b.toNat : Nat) : Int) 1
        rw [Int.toNat_of_nonneg tw.1.1, Int.toNat_of_nonneg tw.2.1.1]
      · exact ⟨_, rfl, q _ y l' (bs ++ [c]) (fun b o e => by rw [upd_ne (ne_of_none e nl')]; exact s2 _ _ (s1 _ _ e)) (net_snoc N1 s2 hp2 nc)⟩
theorem sc_betA : FnScope ["net", "a", "b", "tried"] ["net", "a", "b"] (defScope dBetA) := ⟨rfl, rfl, rfl, by decide +kernel, rfl, by decide +kernel, by decide +kernel⟩
theorem ok_betA (T : Txt K mg A) : CallOk P w K mg base 6 "between_answer" ["net", "a", "b"] (spAns2 A betwA) := by
  have G1 : MethOk P w K mg base 2 A.cNet "has_two_nodes" ["self", "a", "b"] (spHasTwo A) := ok_hasTwo T
  have G2 : CallOk P w K mg base 2 "has_one_solution" ["net"] (spOne A) := ok_one T
  have G3 : CallOk P w K mg base 2 "told" ["fraction"] (spTold K) := ok_told T
  have G4 : MethOk P w K mg base 1 A.cSol "volts_between" ["self", "a", "b"] (spSolB A) := ok_solB T
  have G5 : MakeOk P w K mg base 4 A.cSol "Solution" ["self", "net"] (spSolI A) := ok_solI T
  have G6 : CallOk P w K mg base 3 "net_for_between" ["net", "a", "b"] (spBetNet A) := ok_betNet T
  refine T.betA.ok sc_betA (fun vs H Q E h => ?_) (fun f cdv Ar outer s H vs Q E hr h => ?_)
  · obtain ⟨x, n, l, as, a, b, rfl, _⟩ := h
    rfl
  · obtain ⟨x, n, l, as, a, b, rfl, N, G, q⟩ := h
    obtain ⟨dx, hx⟩ := N.obj
    refine ⟨_, pss_cons (ps_if (pt_not (pt_val (pe_mt G1 T.kNet hr (pv 0) (pa_cons (pv 1) (pa_cons (pv 2) pa_nil))))) (pss_one (ps_ret (pe_lst (pa_cons (pe_cst T.WN) pa_nil)))) pss_nil)
      (pss_cons (ps_set (i := 3) sc_betA.nd rfl (Or.inl rfl) (pe_fn G6 hr (pa_cons (pv 0) (pa_cons (pv 1) (pa_cons (pv 2) pa_nil)))))
      (pss_cons (ps_if (pt_not (pt_val (pe_fn G2 hr (pa_cons (pv 3) pa_nil)))) (pss_one (ps_ret (pe_lst (pa_cons (pe_cst T.NO) pa_nil)))) pss_nil)
      (pss_one (ps_ret (pe_op op_cat (pe_lst (pa_cons pe_int pa_nil)) (pe_fn G3 hr (pa_cons (pe_mt G4 T.kSol hr (pe_mk G5 hr (pa_cons (pv 3) pa_nil)) (pa_cons (pv 1) (pa_cons (pv 2) pa_nil))) pa_nil))))))), ?_⟩
    refine ⟨_, rfl, x, dx, _, rfl, hx, nf_no _ _ (by decide +kernel) (by decide +kernel), _, rfl, _, rfl, x, n, l, as, a, b, rfl, N, _, rfl, ?_⟩
    by_cases h1 : TwoP n a b
    · refine ifN (by simp [h1]) ?_
      obtain ⟨ea, ha⟩ := nat_of h1.1
      obtain ⟨eb, hb⟩ := nat_of h1.2.1
      have G' := good_probed G h1
      refine ⟨_, rfl, _, rfl, _, rfl, x, n, l, as, a, b, rfl, N, G, h1, fun H1 y l1 as1 s1 N1 => ?_⟩
      refine ⟨_, rfl, y, _, l1, as1, rfl, N1, G', fun H2 s2 => ⟨_, rfl, ?_⟩⟩
      have s12 := s1.trans s2
      by_cases h2 : oneG (probed n a.toNat b.toNat) = true
      · refine ifN (by simp [h2]) ?_
        have e : betwA n a b = 0 :: toldG (uG (probed n a.toNat b.toNat) a.toNat - uG (probed n a.toNat b.toNat) b.toNat) (dG (probed n a.toNat b.toNat)) := by unfold betwA; rw [if_pos h1, if_pos h2]
        rw [e] at q
        have us := u_size G' h2
        have bs := b_size G' h2 (a := a.toNat) (b := b.toNat) ha hb
        refine zero_told (p := uG (probed n a.toNat b.toNat) a.toNat - uG (probed n a.toNat b.toNat) b.toNat) (q := dG (probed n a.toNat b.toNat)) (law_solved G' (good_triv G' h2)).1 (Nat.le_trans bs (pow_big (by decide))) (Nat.le_trans us.1 (pow_big (by decide))) (fun H' D s nD h => q H' D (s12.trans s) (s12.free nD) h) ?_
        intro H3 R s3 k3
        have N3 := N1.same (s2.trans s3)
        refine ⟨_, rfl, fun p dy ny ndy ne => made_sol ny ndy N3 G' h2 fun H4 dp d s4 S4 h4 => ⟨rfl, ?_⟩⟩
        refine ⟨p, dp, _, rfl, h4, sf_no _ _ _ (by decide +kernel) (by decide +kernel) (by decide +kernel), _, rfl, _, rfl, p, y, _, l1, as1, _, rfl, S4, N3.same s4, G', h2, ⟨a.toNat, b.toNat, by rw [← ea, ← eb], ha, hb⟩, fun H5 t s5 nt h5 => ?_⟩
        exact k3 H5 t (s4.trans s5) h5
      · refine ifT (by simp [h2]) ?_
        have e : betwA n a b = [-3] := by unfold betwA; rw [if_pos h1, if_neg h2]
        rw [e] at q
        exact one_list fun H' D s nD h => q H' D (s12.trans s) (s12.free nD) h
    · refine ifT (by simp [h1]) ?_
      have e : betwA n a b = [-1] := by unfold betwA; rw [if_neg h1]
      rw [e] at q
      exact one_list q
end
end Rp
set_option Elab.async false
set_option linter.all false
set_option maxRecDepth 100000
set_option maxHeartbeats 2000000
/-! nets.py -/
namespace Rp
open PySem PySem.Spec PyProof.Rows L2 Rn
open Rc43 (Net Part probed)
def isIns : HO → Bool
  | .ins _ _ _ => true
  | _ => false
def lf (v : V) : List (Str × V) := [("net", v)]
theorem lf_new (v : V) : putF "net" v [] = lf v := rfl
theorem lf_put (v u : V) : putF "net" u (lf v) = lf u := by unfold lf; exact pF_eq
theorem lf_net (v : V) : (lf v).lookup ("net" : Str) = some v := lk_eq
theorem lf_no (v : V) {m : Str} (h : ¬ m = "net") : (lf v).lookup m = none := by unfold lf; rw [lk_ne h]; rfl
/-- the line stands at x with the net s; F: its list of parts -/
def LineAt (A : Adr) (H : Hp) (x : Addr) (s : Option Net) (F : List Addr) : Prop := match s with
  | none => (∃ dx, H x = some (.ins A.cLine dx (lf .non))) ∧ F = []
  | some n => ∃ dx y l as, H x = some (.ins A.cLine dx (lf (.ref y))) ∧ NetAt A H y n l as ∧ F = [l]
theorem LineAt.same {A : Adr} {H H' : Hp} {x : Addr} {s : Option Net} {F : List Addr} (h : LineAt A H x s F) (k : Same H H') : LineAt A H' x s F := by
  cases s with
  | none => obtain ⟨⟨dx, e⟩, hF⟩ := h; exact ⟨⟨dx, k _ _ e⟩, hF⟩
  | some n => obtain ⟨dx, y, l, as, e, N, hF⟩ := h; exact ⟨dx, y, l, as, k _ _ e, N.same k, hF⟩
theorem LineAt.obj {A : Adr} {H : Hp} {x : Addr} {s : Option Net} {F : List Addr} (h : LineAt A H x s F) : ∃ dx v, H x = some (.ins A.cLine dx (lf v)) := by
  cases s with
  | none => obtain ⟨⟨dx, e⟩, _⟩ := h; exact ⟨dx, _, e⟩
  | some n => obtain ⟨dx, y, l, as, e, _⟩ := h; exact ⟨dx, _, e⟩
/-- what a call leaves as it was -/
def Frm (H H' : Hp) (F : List Addr) : Prop := ∀ b o, H b = some o → isIns o = false → b ∉ F → H' b = some o
theorem Frm.of_same {H H' : Hp} {F : List Addr} (s : Same H H') : Frm H H' F := fun b o e _ _ => s b o e
def Apart (H : Hp) (F : List Addr) (D : Addr) : Prop := ∀ b o, H b = some o → isIns o = false → b ∉ F → b ≠ D
def New (H : Hp) (F F' : List Addr) : Prop := ∀ c ∈ F', c ∈ F ∨ H c = none
theorem New.refl (H : Hp) (F : List Addr) : New H F F := fun c h => .inl h
theorem apart_of {H H' : Hp} {F : List Addr} {D : Addr} (f : Frm H H' F) (h : H' D = none) : Apart H F D := fun b o e i n => ne_of_none (f b o e i n) h
def spLineI (A : Adr) : Sp := fun vs H Q _ => ∃ (p dx : Addr), vs = [.ref p] ∧ H p = some (.ins A.cLine dx []) ∧ Q .non (upd H p (.ins A.cLine dx (lf .non)))
def spLay (A : Adr) : Sp := fun vs H Q _ => ∃ (x : Addr) (s : Option Net) (F : List Addr) (z : Int), vs = [.ref x, .int z] ∧ LineAt A H x s F ∧ ∀ (H' : Hp) (F' : List Addr), LineAt A H' x (layG s z).1 F' → Frm H H' F → New H F F' → Q (.int (layG s z).2) H'
def spMeasure (A : Adr) : Sp := fun vs H Q _ => ∃ (x : Addr) (n : Net) (F : List Addr) (p : Int) (nb : Addr) (L : List Int), vs = [.ref x, .int p, .ref nb] ∧ LineAt A H x (some n) F ∧ GoodM n ∧ IntsAt H nb L ∧ 5 ≤ p ∧ p ≤ 8 ∧ L.length = behindN p ∧
  ∀ (H' : Hp) (D : Addr), Same H H' → H D = none → IntsAt H' D (inNet n p L).2 → Q (.ref D) H'
def spInNet (A : Adr) : Sp := fun vs H Q _ => ∃ (x : Addr) (n : Net) (F : List Addr) (p : Int) (nb : Addr) (L : List Int), vs = [.ref x, .int p, .ref nb] ∧ LineAt A H x (some n) F ∧ GoodM n ∧ IntsAt H nb L ∧ 2 ≤ p ∧ p ≤ 8 ∧ L.length = behindN p ∧
  ∀ (H' : Hp) (D : Addr) (F' : List Addr), LineAt A H' x (some (inNet n p L).1) F' → Frm H H' F → New H F F' → Apart H F D → IntsAt H' D (inNet n p L).2 → Q (.ref D) H'
def spAnswer (A : Adr) : Sp := fun vs H Q _ => ∃ (x : Addr) (s : Option Net) (F : List Addr) (p : Int) (nb : Addr) (L : List Int), vs = [.ref x, .int p, .ref nb] ∧ LineAt A H x s F ∧ GoodO s ∧ IntsAt H nb L ∧ 0 ≤ p ∧ p ≤ 8 ∧ L.length = behindN p ∧
  ∀ (H' : Hp) (D : Addr) (F' : List Addr), LineAt A H' x (ansG s p L).1 F' → Frm H H' F → New H F F' → Apart H F D → IntsAt H' D (ansG s p L).2 → Q (.ref D) H'
theorem upd_frm {H : Hp} {x C dx : Addr} {fs : List (Str × V)} {o : HO} {F : List Addr} (hx : H x = some (.ins C dx fs)) : Frm H (upd H x o) F := fun b u e i _ => by
  rw [upd_ne (fun z => by rw [z, hx] at e; cases e; cases i)]; exact e
theorem Frm.trans {H H1 H2 : Hp} {F : List Addr} (a : Frm H H1 F) (b : Frm H1 H2 F) : Frm H H2 F := fun c o e i n => b c o (a c o e i n) i n
section
variable {P : Program} {w : World} {K : PySem.W.Frag} {mg : Str → Option Value} {base : Heap} {A : Adr}
theorem sc_lineI : FnScope ["self"] ["self"] (defScope dLineI) := ⟨rfl, rfl, rfl, by decide +kernel, rfl, by decide +kernel, by decide +kernel⟩
theorem ok_lineI (T : Txt K mg A) : MakeOk P w K mg base 1 A.cLine "Line" ["self"] (spLineI A) := by
  refine T.lineI.ok sc_lineI (fun vs H Q E h => ?_) (fun f cdv Ar outer s H vs Q E hr h => ?_)
  · obtain ⟨p, dx, rfl, _⟩ := h
    rfl
  · obtain ⟨p, dx, rfl, hp, q⟩ := h
    refine ⟨_, pss_one (ps_fld (pv 0) pe_non rfl), ?_⟩
    exact ⟨_, rfl, p, _, dx, _, rfl, hp, T.kLine, T.lNet, (by decide), q⟩
theorem sc_lay : FnScope ["self", "node_count"] ["self", "node_count"] (defScope dLay) := ⟨rfl, rfl, rfl, by decide +kernel, rfl, by decide +kernel, by decide +kernel⟩
theorem ok_lay (T : Txt K mg A) : MethOk P w K mg base 3 A.cLine "lay_nodes" ["self", "node_count"] (spLay A) := by
  have G1 : CallOk P w K mg base 1 "is_node_count" ["number"] (spB1 fun x => decide (2 ≤ x ∧ x ≤ 12)) := ok_isNC T
  have G2 : MakeOk P w K mg base 1 A.cNet "Net" ["self", "node_count"] (spNetI A) := ok_netI T
  refine T.lay.ok sc_lay (fun vs H Q E h => ?_) (fun f cdv Ar outer s H vs Q E hr h => ?_)
  · obtain ⟨x, s, F, z, rfl, _⟩ := h
    rfl
  · obtain ⟨x, st, F, z, rfl, hL, q⟩ := h
    obtain ⟨dx, v, hx⟩ := hL.obj
    refine ⟨_, pss_cons (ps_if (pt_not (pt_val (pe_fn G1 hr (pa_cons (pv 1) pa_nil)))) (pss_one (ps_ret (pe_cst T.WN))) pss_nil)
      (pss_cons (ps_fld (pv 0) (pe_mk G2 hr (pa_cons (pv 1) pa_nil)) rfl) (pss_one (ps_ret pe_int))), ?_⟩
    refine ⟨_, rfl, z, rfl, _, rfl, ?_⟩
    by_cases h : 2 ≤ z ∧ z ≤ 12
    · refine ifN (by simp [h]) ?_
      have e : layG st z = (some ⟨z.toNat, []⟩, 0) := by unfold layG; rw [if_pos h]
      rw [e] at q
      have ez : z = ((z.toNat : Nat) : Int) := (Int.toNat_of_nonneg (by omega)).symm
      refine ⟨_, rfl, fun y dy ny ndy ne => ⟨y, dy, z.toNat, by rw [← ez], upd_same, fun l hl => ⟨rfl, ?_⟩⟩⟩
      have yl : y ≠ l := ne_of_none upd_same hl
      have s1 : Same H (upd (upd H dy (.own y)) y (.ins A.cNet dy [])) := fun b o e => by rw [upd_ne (ne_of_none e ny), upd_ne (ne_of_none e ndy)]; exact e
      have nl : H l = none := s1.free hl
      have s0 : Same H (upd (upd (upd (upd H dy (.own y)) y (.ins A.cNet dy [])) l (.lst [])) y (.ins A.cNet dy (nf z.toNat l))) := fun b o e => by
        rw [upd_ne (ne_of_none e ny), upd_ne (ne_of_none e nl), upd_ne (ne_of_none e ny), upd_ne (ne_of_none e ndy)]; exact e
      have N0 : NetAt A (upd (upd (upd (upd H dy (.own y)) y (.ins A.cNet dy [])) l (.lst [])) y (.ins A.cNet dy (nf z.toNat l))) y ⟨z.toNat, []⟩ l [] :=
        ⟨⟨dy, upd_same⟩, by rw [upd_ne (Ne.symm yl), upd_same]; rfl, List.nodup_nil, rfl, fun j c e => by simp at e⟩
      generalize upd (upd (upd (upd H dy (.own y)) y (.ins A.cNet dy [])) l (.lst [])) y (.ins A.cNet dy (nf z.toNat l)) = H0 at s0 N0
      have hx0 := s0 _ _ hx
      refine ⟨_, rfl, x, _, dx, _, rfl, hx0, T.kLine, T.lNet, (by show 1 < 1000; decide), ?_⟩
      have hyx : y ≠ x := fun z => by rw [z, hx] at ny; cases ny
      have hlx : l ≠ x := fun z => by rw [z, hx] at nl; cases nl
      refine q (upd H0 x (.ins A.cLine dx (putF "net" (.ref y) (lf v)))) [l] ⟨dx, y, l, [], ?_, ⟨?_, ?_, List.nodup_nil, rfl, fun j c e => by simp at e⟩, rfl⟩ ((Frm.of_same s0).trans (upd_frm hx0)) (fun c hc => .inr (by rw [List.mem_singleton.mp hc]; exact nl))
      · rw [upd_same, lf_put]
      · obtain ⟨d, e⟩ := N0.obj
        exact ⟨d, by rw [upd_ne hyx]; exact e⟩
      · rw [upd_ne hlx]; exact N0.lst
    · refine ifT (by simp [h]) ?_
      have e : layG st z = (st, -1) := by unfold layG; rw [if_neg h]
      rw [e] at q
      exact q H F hL (.of_same (Same.refl H)) (New.refl H F)
theorem num_at {L : List Int} {j : Nat} (h : j < L.length) : atI (L.map V.int) (j : Int) = some (.int (L.getD j 0)) := ints_at h
theorem sc_measure : FnScope ["self", "call", "numbers"] ["self", "call", "numbers"] (defScope dMeasure) := ⟨rfl, rfl, rfl, by decide +kernel, rfl, by decide +kernel, by decide +kernel⟩
theorem eqC {p c : Int} {X Y : Prop} (h1 : p = c → X) (h2 : ¬ p = c → Y) : if decide (V.int p = V.int c) = true then X else Y := by
  by_cases e : p = c
  · rw [if_pos (decide_eq_true (by rw [e]))]; exact h1 e
  · rw [if_neg (fun z => e (by have z := of_decide_eq_true z; injection z))]; exact h2 e
theorem ok_measure (T : Txt K mg A) : MethOk P w K mg base 7 A.cLine "measure" ["self", "call", "numbers"] (spMeasure A) := by
  have G1 : CallOk P w K mg base 6 "volts_answer" ["net", "node"] (spAns1 A voltsA) := ok_voltsA T
  have G2 : CallOk P w K mg base 6 "amperes_answer" ["net", "number"] (spAns1 A ampsA) := ok_ampsA T
  have G3 : CallOk P w K mg base 6 "watts_answer" ["net", "number"] (spAns1 A wattsA) := ok_wattsA T
  have G4 : CallOk P w K mg base 6 "between_answer" ["net", "a", "b"] (spAns2 A betwA) := ok_betA T
  refine T.measure.ok sc_measure (fun vs H Q E h => ?_) (fun f cdv Ar outer s H vs Q E hr h => ?_)
  · obtain ⟨x, n, F, p, nb, L, rfl, _⟩ := h
    rfl
  · obtain ⟨x, n, F, p, nb, L, rfl, hL, G, hnb, p5, p8, len, q⟩ := h
    obtain ⟨dx, y, l, as, hx, N, rfl⟩ := hL
    refine ⟨_, pss_cons (ps_if (pt_cmpR op_eq (pv 1) (pe_cst T.VOLTS) (nomark _)) (pss_one (ps_ret (pe_fn G1 hr (pa_cons (pe_fld (pv 0) rfl) (pa_cons (pe_ix ix_list (pv 2) pe_int (fun _ _ => rfl)) pa_nil))))) pss_nil)
      (pss_cons (ps_if (pt_cmpR op_eq (pv 1) (pe_cst T.AMPERES) (nomark _)) (pss_one (ps_ret (pe_fn G2 hr (pa_cons (pe_fld (pv 0) rfl) (pa_cons (pe_ix ix_list (pv 2) pe_int (fun _ _ => rfl)) pa_nil))))) pss_nil)
      (pss_cons (ps_if (pt_cmpR op_eq (pv 1) (pe_cst T.WATTS) (nomark _)) (pss_one (ps_ret (pe_fn G3 hr (pa_cons (pe_fld (pv 0) rfl) (pa_cons (pe_ix ix_list (pv 2) pe_int (fun _ _ => rfl)) pa_nil))))) pss_nil)
      (pss_one (ps_ret (pe_fn G4 hr (pa_cons (pe_fld (pv 0) rfl) (pa_cons (pe_ix ix_list (pv 2) pe_int (fun _ _ => rfl)) (pa_cons (pe_ix ix_list (pv 2) pe_int (fun _ _ => rfl)) pa_nil)))))))), ?_⟩
    refine ⟨_, rfl, rfl, _, rfl, eqC (fun e => ?_) fun e5 => ?_⟩
    · subst e
      refine ⟨_, rfl, x, _, dx, _, _, rfl, hx, T.kLine, T.lNet, lf_net _, _, rfl, nb, _, _, _, rfl, rfl, SqL.of hnb, num_at (j := 0) (by rw [len]; decide), y, n, l, as, _, rfl, N, G, q⟩
    refine ⟨_, rfl, rfl, _, rfl, eqC (fun e => ?_) fun e6 => ?_⟩
    · subst e
      refine ⟨_, rfl, x, _, dx, _, _, rfl, hx, T.kLine, T.lNet, lf_net _, _, rfl, nb, _, _, _, rfl, rfl, SqL.of hnb, num_at (j := 0) (by rw [len]; decide), y, n, l, as, _, rfl, N, G, q⟩
    refine ⟨_, rfl, rfl, _, rfl, eqC (fun e => ?_) fun e7 => ?_⟩
    · subst e
      refine ⟨_, rfl, x, _, dx, _, _, rfl, hx, T.kLine, T.lNet, lf_net _, _, rfl, nb, _, _, _, rfl, rfl, SqL.of hnb, num_at (j := 0) (by rw [len]; decide), y, n, l, as, _, rfl, N, G, q⟩
    have e : p = 8 := by omega
    subst e
    refine ⟨_, rfl, x, _, dx, _, _, rfl, hx, T.kLine, T.lNet, lf_net _, _, rfl, nb, _, _, _, rfl, rfl, SqL.of hnb, num_at (j := 0) (by rw [len]; decide), _, rfl, nb, _, _, _, rfl, rfl, SqL.of hnb, num_at (j := 1) (by rw [len]; decide), y, n, l, as, _, _, rfl, N, G, q⟩
theorem sc_inNet : FnScope ["self", "call", "numbers"] ["self", "call", "numbers"] (defScope dInNet) := ⟨rfl, rfl, rfl, by decide +kernel, rfl, by decide +kernel, by decide +kernel⟩
theorem ok_inNet (T : Txt K mg A) : MethOk P w K mg base 8 A.cLine "answer_in_net" ["self", "call", "numbers"] (spInNet A) := by
  have G1 : MethOk P w K mg base 3 A.cNet "add_part" ["self", "kind", "a", "b", "much"] (spAdd A) := ok_add T
  have G2 : MethOk P w K mg base 2 A.cNet "change_part" ["self", "number", "much"] (spChange A) := ok_change T
  have G3 : CallOk P w K mg base 2 "has_one_solution" ["net"] (spOne A) := ok_one T
  have G4 : MethOk P w K mg base 7 A.cLine "measure" ["self", "call", "numbers"] (spMeasure A) := ok_measure T
  refine T.inNet.ok sc_inNet (fun vs H Q E h => ?_) (fun f cdv Ar outer s H vs Q E hr h => ?_)
  · obtain ⟨x, n, F, p, nb, L, rfl, _⟩ := h
    rfl
  · obtain ⟨x, n, F, p, nb, L, rfl, hL, G, hnb, p2, p8, len, q⟩ := h
    obtain ⟨dx, y, l, as, hx, N, hF⟩ := id hL
    obtain ⟨dy, hy⟩ := N.obj
    refine ⟨_, pss_cons (ps_if (pt_cmpR op_eq (pv 1) (pe_cst T.PART) (nomark _)) (pss_one (ps_ret (pe_lst (pa_cons (pe_mt G1 T.kNet hr (pe_fld (pv 0) rfl) (pa_cons (pe_ix ix_list (pv 2) pe_int (fun _ _ => rfl)) (pa_cons (pe_ix ix_list (pv 2) pe_int (fun _ _ => rfl)) (pa_cons (pe_ix ix_list (pv 2) pe_int (fun _ _ => rfl)) (pa_cons (pe_ix ix_list (pv 2) pe_int (fun _ _ => rfl)) pa_nil))))) pa_nil)))) pss_nil)
      (pss_cons (ps_if (pt_cmpR op_eq (pv 1) (pe_cst T.CHANGE) (nomark _)) (pss_one (ps_ret (pe_lst (pa_cons (pe_mt G2 T.kNet hr (pe_fld (pv 0) rfl) (pa_cons (pe_ix ix_list (pv 2) pe_int (fun _ _ => rfl)) (pa_cons (pe_ix ix_list (pv 2) pe_int (fun _ _ => rfl)) pa_nil))) pa_nil)))) pss_nil)
      (pss_cons (ps_if (pt_cmpR op_eq (pv 1) (pe_cst T.SOLVE) (nomark _)) (pss_one (ps_ret (pe_lst (pa_cons (pe_ifExp (pt_val (pe_fn G3 hr (pa_cons (pe_fld (pv 0) rfl) pa_nil))) pe_int pe_int) pa_nil)))) pss_nil)
      (pss_one (ps_ret (pe_mt G4 T.kLine hr (pv 0) (pa_cons (pv 1) (pa_cons (pv 2) pa_nil))))))), ?_⟩
    -- a change of the net: the line and the frame behind it
    have chg : ∀ (H1 : Hp) (n1 : Net) (as1 : List Addr), NetAt A H1 y n1 l as1 → KeepN H H1 l as → LineAt A H1 x (some n1) [l] ∧ Frm H H1 F := by
      intro H1 n1 as1 N1 kp
      have nas : ∀ b o, H b = some o → (∀ dd k, o ≠ .ins A.cPart dd (pf k)) → b ∉ as := fun b o e no hb => by
        obtain ⟨j, hj⟩ := List.getElem?_of_mem hb
        obtain ⟨d, e2⟩ := N.parts.at_ j b hj
        rw [e] at e2
        exact no _ _ (Option.some.inj e2)
      refine ⟨⟨dx, y, l, as1, kp x _ hx (ne_of hx N.lst (by intro z; cases z)) (nas x _ hx fun dd k z => ?_), N1, rfl⟩, fun b o e i nb => kp b o e (fun z => nb (by rw [hF, z]; exact List.mem_singleton.mpr rfl)) (nas b o e fun dd k z => by rw [z] at i; cases i)⟩
      injection z with z1 z2 z3
      unfold lf pf pfI at z3
      injection z3 with z4 z5
      cases z5
    refine ⟨_, rfl, rfl, _, rfl, eqC (fun e => ?_) fun e2 => ?_⟩
    · subst e
      have l4 : L.length = 4 := len
      refine ⟨_, rfl, x, _, dx, _, _, rfl, hx, T.kLine, T.lNet, lf_net _, y, dy, _, rfl, hy, nf_no _ _ (by decide +kernel) (by decide +kernel),
        _, rfl, nb, _, _, _, rfl, rfl, SqL.of hnb, num_at (j := 0) (by omega), _, rfl, nb, _, _, _, rfl, rfl, SqL.of hnb, num_at (j := 1) (by omega), _, rfl, nb, _, _, _, rfl, rfl, SqL.of hnb, num_at (j := 2) (by omega), _, rfl, nb, _, _, _, rfl, rfl, SqL.of hnb, num_at (j := 3) (by omega),
        y, n, l, as, _, _, _, _, rfl, N, G, fun H1 as1 N1 kp nw => ?_⟩
      obtain ⟨c1, c2⟩ := chg H1 _ as1 N1 kp
      refine ⟨(by show 1 ≤ sizeLine; decide), fun D hD => ?_⟩
      refine q _ D [l] (c1.same (same_new hD)) (c2.trans (.of_same (same_new hD))) (by rw [hF]; exact New.refl _ _) (apart_of c2 hD) upd_same
    refine ⟨_, rfl, rfl, _, rfl, eqC (fun e => ?_) fun e3 => ?_⟩
    · subst e
      have l2 : L.length = 2 := len
      refine ⟨_, rfl, x, _, dx, _, _, rfl, hx, T.kLine, T.lNet, lf_net _, y, dy, _, rfl, hy, nf_no _ _ (by decide +kernel) (by decide +kernel),
        _, rfl, nb, _, _, _, rfl, rfl, SqL.of hnb, num_at (j := 0) (by omega), _, rfl, nb, _, _, _, rfl, rfl, SqL.of hnb, num_at (j := 1) (by omega), y, n, l, as, _, _, rfl, N, G, fun H1 N1 kp => ?_⟩
      obtain ⟨c1, c2⟩ := chg H1 _ as N1 kp
      refine ⟨(by show 1 ≤ sizeLine; decide), fun D hD => ?_⟩
      refine q _ D [l] (c1.same (same_new hD)) (c2.trans (.of_same (same_new hD))) (by rw [hF]; exact New.refl _ _) (apart_of c2 hD) upd_same
    refine ⟨_, rfl, rfl, _, rfl, eqC (fun e => ?_) fun e4 => ?_⟩
    · subst e
      refine ⟨_, rfl, x, _, dx, _, _, rfl, hx, T.kLine, T.lNet, lf_net _, y, n, l, as, rfl, N, G.toGoodN, fun H1 s1 => ⟨_, rfl, ?_⟩⟩
      have fin : ∀ i : Int, i = (if oneG n = true then 1 else 0) → [V.int i].length ≤ sizeLine ∧ ∀ D, H1 D = none → Q (.ref D) (upd H1 D (.lst [V.int i])) := by
        intro i ei
        refine ⟨(by show 1 ≤ sizeLine; decide), fun D hD => ?_⟩
        refine q _ D F (hL.same (s1.trans (same_new hD))) (.of_same (s1.trans (same_new hD))) (New.refl _ _) (apart_of (.of_same s1) hD) ?_
        show (upd H1 D (.lst [V.int i])) D = some (.lst [V.int (if oneG n = true then 1 else 0)])
        rw [upd_same, ei]
      by_cases o : oneG n = true
      · refine ifT o ?_
        exact fin 1 (by rw [if_pos o])
      · refine ifN o ?_
        exact fin 0 (by rw [if_neg o])
    · refine ⟨_, rfl, x, dx, _, rfl, hx, lf_no _ (by decide +kernel), _, rfl, _, rfl, x, n, F, p, nb, L, rfl, hL, G, hnb, (by omega), p8, len, fun H1 D s1 nD h1 => ?_⟩
      have en : (inNet n p L).1 = n := by
        unfold inNet
        rw [if_neg e2, if_neg e3, if_neg e4]
        split
        · rfl
        · split
          · rfl
          · split <;> rfl
      refine q H1 D F (by rw [en]; exact hL.same s1) (.of_same s1) (New.refl _ _) (fun b o e _ _ => ne_of_none e nD) h1
theorem sc_answer : FnScope ["self", "call", "numbers"] ["self", "call", "numbers"] (defScope dAnswer) := ⟨rfl, rfl, rfl, by decide +kernel, rfl, by decide +kernel, by decide +kernel⟩
theorem ok_answer (T : Txt K mg A) : MethOk P w K mg base 9 A.cLine "answer" ["self", "call", "numbers"] (spAnswer A) := by
  have G1 : MethOk P w K mg base 3 A.cLine "lay_nodes" ["self", "node_count"] (spLay A) := ok_lay T
  have G2 : MethOk P w K mg base 8 A.cLine "answer_in_net" ["self", "call", "numbers"] (spInNet A) := ok_inNet T
  refine T.answer.ok sc_answer (fun vs H Q E h => ?_) (fun f cdv Ar outer s H vs Q E hr h => ?_)
  · obtain ⟨x, st, F, p, nb, L, rfl, _⟩ := h
    rfl
  · obtain ⟨x, st, F, p, nb, L, rfl, hL, G, hnb, p0, p8, len, q⟩ := h
    obtain ⟨dx, v, hx⟩ := hL.obj
    refine ⟨_, pss_cons (ps_if (pt_cmpR op_eq (pv 1) (pe_cst T.BEGIN) (nomark _)) (pss_cons (ps_fld (pv 0) pe_non rfl) (pss_one (ps_ret (pe_lst (pa_cons pe_int pa_nil))))) pss_nil)
      (pss_cons (ps_if (pt_cmpR op_eq (pv 1) (pe_cst T.NODES) (nomark _)) (pss_one (ps_ret (pe_lst (pa_cons (pe_mt G1 T.kLine hr (pv 0) (pa_cons (pe_ix ix_list (pv 2) pe_int (fun _ _ => rfl)) pa_nil)) pa_nil)))) pss_nil)
      (pss_cons (ps_if (pt_cmp (pc_isN (pe_fld (pv 0) rfl))) (pss_one (ps_ret (pe_lst (pa_cons (pe_cst T.NN) pa_nil)))) pss_nil)
      (pss_one (ps_ret (pe_mt G2 T.kLine hr (pv 0) (pa_cons (pv 1) (pa_cons (pv 2) pa_nil))))))), ?_⟩
    refine ⟨_, rfl, rfl, _, rfl, eqC (fun e => ?_) fun e0 => ?_⟩
    · subst e
      refine ⟨_, rfl, x, _, dx, _, rfl, hx, T.kLine, T.lNet, (by show 1 < 1000; decide), ?_⟩
      refine ⟨(by show 1 ≤ sizeLine; decide), fun D hD => ?_⟩
      have f1 : Frm H (upd H x (.ins A.cLine dx (putF "net" .non (lf v)))) F := upd_frm hx
      refine q _ D [] ⟨⟨dx, ?_⟩, rfl⟩ (f1.trans (.of_same (same_new hD))) (fun c hc => by simp at hc) (apart_of f1 hD) upd_same
      rw [upd_ne (ne_of_none upd_same hD), upd_same, lf_put]
    refine ⟨_, rfl, rfl, _, rfl, eqC (fun e => ?_) fun e1 => ?_⟩
    · subst e
      refine ⟨_, rfl, x, dx, _, rfl, hx, lf_no _ (by decide +kernel), _, rfl, nb, _, _, _, rfl, rfl, SqL.of hnb, num_at (j := 0) (by rw [len]; decide), x, st, F, _, rfl, hL, fun H1 F1 h1 f1 n1 => ?_⟩
      refine ⟨(by show 1 ≤ sizeLine; decide), fun D hD => ?_⟩
      exact q _ D F1 (h1.same (same_new hD)) (f1.trans (.of_same (same_new hD))) n1 (apart_of f1 hD) upd_same
    cases st with
    | none =>
      obtain ⟨⟨dx', hx'⟩, hF⟩ := id hL
      refine ⟨_, rfl, x, _, dx', _, _, rfl, hx', T.kLine, T.lNet, lf_net _, _, rfl, ?_⟩
      refine ifT rfl ?_
      refine ⟨(by show 1 ≤ sizeLine; decide), fun D hD => ?_⟩
      have e : ansG none p L = (none, [-4]) := by unfold ansG; rw [if_neg e0, if_neg e1]
      rw [e] at q
      exact q _ D F (hL.same (same_new hD)) (.of_same (same_new hD)) (New.refl _ _) (fun b o e _ _ => ne_of_none e hD) upd_same
    | some n =>
      obtain ⟨dx', y, l, as, hx', N, hF⟩ := id hL
      refine ⟨_, rfl, x, _, dx', _, _, rfl, hx', T.kLine, T.lNet, lf_net _, _, rfl, ?_⟩
      refine ifN (by intro z; have z := of_decide_eq_true z; cases z) ?_
      have e : ansG (some n) p L = (some (inNet n p L).1, (inNet n p L).2) := by unfold ansG; rw [if_neg e0, if_neg e1]
      rw [e] at q
      exact ⟨_, rfl, x, dx', _, rfl, hx', lf_no _ (by decide +kernel), _, rfl, _, rfl, x, n, F, p, nb, L, rfl, hL, G n rfl, hnb, by omega, p8, len, q⟩
end
end Rp
set_option Elab.async false
set_option linter.all false
set_option maxRecDepth 100000
set_option maxHeartbeats 2000000
/-! nets.py: answers -/
namespace Rp
open PySem PySem.Spec PyProof.Rows L2 Rn
open Rc43 (Net Part probed)
def spAnswers (K : PySem.W.Frag) : Sp := fun vs H Q _ => ∃ (c : Addr) (l : List Int), vs = [.ref c] ∧ OnlyF H ∧ SqL K H c (l.map V.int) ∧ l.length ≤ 30000 ∧ PyRc43.answers_asked l = true ∧
  ∀ (H' : Hp) (p : Addr), H' p = some (.lst ((PyRc43.answers l).map V.int)) → Q (.ref p) H'
theorem behind_at {p : Int} (h0 : 0 ≤ p) (h8 : p ≤ 8) : atI ([.int 0, .int 1, .int 4, .int 2, .int 0, .int 1, .int 1, .int 1, .int 2] : List V) p = some (.int ((behindN p : Nat) : Int)) := by
  have cs : p = 0 ∨ p = 1 ∨ p = 2 ∨ p = 3 ∨ p = 4 ∨ p = 5 ∨ p = 6 ∨ p = 7 ∨ p = 8 := by omega
  rcases cs with rfl | rfl | rfl | rfl | rfl | rfl | rfl | rfl | rfl <;> rfl
theorem cut_mid (l : List Int) {a b : Nat} (hab : a + 1 ≤ b) (hb : b ≤ l.length) : cutV (l.map V.int) (some ((a : Int) + 1)) (some (b : Int)) = ((l.drop (a + 1)).take (b - (a + 1))).map V.int := by
  have e1 : HT.sIx (l.map V.int).length 0 (some ((a : Int) + 1)) = a + 1 := by
    rw [show (a : Int) + 1 = ((a + 1 : Nat) : Int) by omega, HT.sIx_nat, List.length_map]; omega
  have e2 : HT.sIx (l.map V.int).length (l.map V.int).length (some (b : Int)) = b := by
    rw [HT.sIx_nat, List.length_map]; omega
  unfold cutV
  rw [e1, e2, ← List.map_drop, ← List.map_take]
section
variable {P : Program} {w : World} {K : PySem.W.Frag} {mg : Str → Option Value} {base : Heap} {A : Adr}
theorem sc_answers : FnScope ["calls", "line", "told", "at", "call", "behind", "answer"] ["calls"] (defScope dAnswers) := ⟨rfl, rfl, rfl, by decide +kernel, rfl, by decide +kernel, by decide +kernel⟩
theorem ok_answersF (T : Txt K mg A) {f : Addr} {fd : FuncData} (F : Fun K "answers" "answers" dAnswers f fd) : FnOk P w K mg base CX0 10 f fd ["calls"] (spAnswers K) := by
  have G1 : MakeOk P w K mg base 1 A.cLine "Line" ["self"] (spLineI A) := ok_lineI T
  have G2 : MethOk P w K mg base 9 A.cLine "answer" ["self", "call", "numbers"] (spAnswer A) := ok_answer T
  refine F.ok sc_answers (fun vs H Q E h => ?_) (fun cdv Ar outer s H vs Q E hr h => ?_)
  · obtain ⟨c, l, rfl, _⟩ := h
    rfl
  · obtain ⟨c, l, rfl, hO, hS, len, ask, q⟩ := h
    obtain ⟨⟨cs0, hcs0⟩, ans⟩ := answers_rest l ask
    refine ⟨_, pss_cons (ps_set (i := 1) sc_answers.nd rfl (Or.inl rfl) (pe_mk0 G1 hr))
      (pss_cons (ps_set (i := 2) sc_answers.nd rfl (Or.inl rfl) (pe_lst pa_nil))
      (pss_cons (ps_set (i := 3) sc_answers.nd rfl (Or.inl rfl) pe_int)
      (pss_cons (ps_while PassesOwn.never (pt_cmpR op_lt (pv 3) (pe_callB call_len_seq (by rfl) T.len PySem.boot_len (pa_cons (pv 0) pa_nil)) (nomark _))
        (pss_cons (ps_set (i := 4) sc_answers.nd rfl (Or.inl rfl) (pe_ix ix_list (pv 0) (pv 3) (fun _ _ => rfl)))
        (pss_cons (ps_set (i := 5) sc_answers.nd rfl (Or.inl rfl) (pe_op op_add (pe_op op_add (pv 3) pe_int) (pe_ix ix_tup (pe_glob (v := .ref A.tNB) (by rfl) T.NB rfl) (pv 4) (fun _ _ => rfl))))
        (pss_cons (ps_set (i := 6) sc_answers.nd rfl (Or.inl rfl) (pe_mt G2 T.kLine hr (pv 1) (pa_cons (pv 4) (pa_cons (pe_slice sl_list (pv 0) (po_some (pe_op op_add (pv 3) pe_int)) (po_some (pv 5))) pa_nil))))
        (pss_cons (ps_expr (pe_bm PySem.F.plainAttrs_list PySem.F.slot_list_append PySem.F.type_list_append mt_append (pv 2) (pa_cons (pe_callB call_len_seq (by rfl) T.len PySem.boot_len (pa_cons (pv 6) pa_nil)) pa_nil)))
        (pss_cons (ps_expr (pe_bm PySem.F.plainAttrs_list PySem.F.slot_list_extend PySem.F.type_list_extend mt_extend (pv 2) (pa_cons (pv 6) pa_nil)))
        (pss_one (ps_set (i := 3) sc_answers.nd rfl (Or.inl rfl) (pv 5)))))))))
      (pss_one (ps_ret (pv 2)))))), ?_⟩
    -- line = Line(); told = []; at = 0
    intro x dx nx ndx ne
    refine ⟨x, dx, rfl, upd_same, rfl, ?_⟩
    refine ⟨Nat.zero_le _, fun t ht => ?_⟩
    have s0 : Same H (upd (upd (upd (upd H dx (.own x)) x (.ins A.cLine dx [])) x (.ins A.cLine dx (lf .non))) t (.lst [])) := fun b o e => by
      have s1 : (upd (upd (upd H dx (.own x)) x (.ins A.cLine dx [])) x (.ins A.cLine dx (lf .non))) b = some o := by
        rw [upd_ne (ne_of_none e nx), upd_ne (ne_of_none e nx), upd_ne (ne_of_none e ndx)]; exact e
      rw [upd_ne (ne_of_none s1 ht)]; exact s1
    have hx0 : (upd (upd (upd (upd H dx (.own x)) x (.ins A.cLine dx [])) x (.ins A.cLine dx (lf .non))) t (.lst [])) x = some (.ins A.cLine dx (lf .non)) := by
      rw [upd_ne (ne_of_none upd_same ht), upd_same]
    have ht0 : IntsAt (upd (upd (upd (upd H dx (.own x)) x (.ins A.cLine dx [])) x (.ins A.cLine dx (lf .non))) t (.lst [])) t [] := upd_same
    generalize upd (upd (upd (upd H dx (.own x)) x (.ins A.cLine dx [])) x (.ins A.cLine dx (lf .non))) t (.lst []) = H0 at s0 hx0 ht0
    refine ⟨fun m σ H' => ∃ (a : Nat) (st : Option Net) (Fo : List Addr) (To : List Int) (fu : Nat) (v4 v5 v6 : Option V), m = l.length - a ∧ σ = [some (.ref c), some (.ref x), some (.ref t), some (.int a), v4, v5, v6] ∧ Same H H' ∧ LineAt A H' x st Fo ∧ GoodO st ∧
      IntsAt H' t To ∧ t ∉ Fo ∧ (∀ b ∈ Fo, H b = none) ∧ a ≤ l.length ∧ To.length ≤ 323 * a ∧ (∃ cs, PyFlat.calls PyRc43.shape fu (l.drop a) = some cs) ∧ To ++ restG st fu (l.drop a) = PyRc43.answers l, ?_, ?_⟩
    · exact ⟨_, 0, none, [], [], l.length, none, none, none, rfl, rfl, s0, ⟨⟨dx, hx0⟩, rfl⟩, (fun n h => by cases h), ht0, (by simp), (fun b hb => by simp at hb), Nat.zero_le _, Nat.zero_le _, ⟨cs0, hcs0⟩, ans.symm⟩
    · rintro m σ H1 ⟨a, st, Fo, To, fu, v4, v5, v6, rfl, rfl, s1, hL, G, hT, tF, fF, ha, hTl, ⟨cs, hcs⟩, hA⟩
      refine ⟨_, rfl, _, rfl, c, _, rfl, .inl (s1.seq hS), _, _, rfl, rfl, _, rfl, ?_⟩
      by_cases hlt : a < l.length
      · refine ifT (decide_eq_true (by rw [List.length_map]; omega)) ?_
        -- the next call
        obtain ⟨fu', rfl⟩ : ∃ fu', fu = fu' + 1 := by
          cases fu with
          | zero =>
            rw [List.drop_eq_getElem_cons hlt] at hcs
            cases hcs
          | succ k => exact ⟨k, rfl⟩
        have hdr : l.drop a = l.getD a 0 :: l.drop (a + 1) := by rw [getD_get hlt]; exact List.drop_eq_getElem_cons hlt
        rw [hdr] at hcs hA
        obtain ⟨p0, p8, bl, cs', hcs', _⟩ := calls_step hcs
        rw [rest_cons G hcs] at hA
        rw [List.length_drop] at bl
        rw [List.drop_drop] at hcs' hA
        generalize hp : l.getD a 0 = p at *
        generalize hb : behindN p = nb at *
        have eb : (((a : Int) + 1) + (nb : Int)) = ((a + 1 + nb : Nat) : Int) := by omega
        have alen := ans_len st p ((l.drop (a + 1)).take nb)
        have llen : ((l.drop (a + 1)).take nb).length = behindN p := by rw [List.length_take, List.length_drop, hb]; omega
        refine ⟨fun σ' H' => ∃ (st : Option Net) (Fo : List Addr) (To : List Int) (v4 v5 v6 : Option V), σ' = [some (.ref c), some (.ref x), some (.ref t), some (.int (a + 1 + nb : Nat)), v4, v5, v6] ∧ Same H H' ∧ LineAt A H' x st Fo ∧ GoodO st ∧
          IntsAt H' t To ∧ t ∉ Fo ∧ (∀ b ∈ Fo, H b = none) ∧ To.length ≤ 323 * (a + 1 + nb) ∧ To ++ restG st fu' (l.drop (a + 1 + nb)) = PyRc43.answers l, ?_, ?_⟩
        · rintro σ' H' ⟨st', Fo', To', w4, w5, w6, rfl, h2, h3, h4, h5, h6, h7, h8, h9⟩
          exact ⟨l.length - (a + 1 + nb), by omega, a + 1 + nb, st', Fo', To', fu', w4, w5, w6, rfl, rfl, h2, h3, h4, h5, h6, h7, by omega, h8, ⟨cs', hcs'⟩, h9⟩
        · refine ⟨_, rfl, _, rfl, c, _, _, _, rfl, rfl, s1.seq hS, ints_at hlt, ?_⟩
          rw [hp]
          refine ⟨_, rfl, _, _, rfl, rfl, _, rfl, A.tNB, _, _, _, rfl, rfl, T.NBt _, behind_at p0 p8, _, _, rfl, rfl, ?_⟩
          obtain ⟨dl, vl, hx1⟩ := hL.obj
          have e5 : ((fun i j : Int => V.int (i + j)) ((a : Int) + 1) ((behindN p : Nat) : Int)) = V.int ((a + 1 + nb : Nat) : Int) := by show V.int _ = V.int _; rw [hb, eb]
          rw [e5]
          refine ⟨_, rfl, x, dl, _, rfl, hx1, lf_no _ (by decide +kernel), _, rfl, _, rfl, _, rfl, _, _, rfl, rfl, _, rfl, _, rfl, _, rfl, c, _, rfl, s1.seq hS, fun g hg => ?_⟩
          have s2 : Same H1 (upd H1 g (.lst (cutV (l.map V.int) (some ((a : Int) + 1)) (some ((a + 1 + nb : Nat) : Int))))) := same_new hg
          have hg2 : IntsAt (upd H1 g (.lst (cutV (l.map V.int) (some ((a : Int) + 1)) (some ((a + 1 + nb : Nat) : Int))))) g ((l.drop (a + 1)).take nb) := by
            unfold IntsAt
            rw [upd_same, cut_mid l (by omega) (by omega), show a + 1 + nb - (a + 1) = nb by omega]
          generalize upd H1 g (.lst (cutV (l.map V.int) (some ((a : Int) + 1)) (some ((a + 1 + nb : Nat) : Int)))) = H2 at s2 hg2
          refine ⟨x, st, Fo, p, g, _, rfl, hL.same s2, G, hg2, p0, p8, llen, fun H3 D F3 h3 f3 n3 ap3 hD3 => ?_⟩
          have ht2 : H2 t = some (.lst (To.map V.int)) := s2 _ _ hT
          have ht3 : H3 t = some (.lst (To.map V.int)) := f3 t _ ht2 rfl tF
          have htD : t ≠ D := ap3 t _ ht2 rfl tF
          have s3 : Same H H3 := fun b o e => f3 b o (s2 _ _ (s1 _ _ e)) (by
            rcases hO b with z | ⟨ob, u, z⟩
            · rw [e] at z; cases z
            · rw [e] at z; cases z; rfl) (fun hb' => by rw [fF b hb'] at e; cases e)
          have F3H : ∀ b ∈ F3, H b = none := fun b hb' => by
            rcases n3 b hb' with z | z
            · exact fF b z
            · exact (s1.trans s2).free z
          have tF3 : t ∉ F3 := fun hb' => by
            rcases n3 t hb' with z | z
            · exact tF z
            · rw [ht2] at z; cases z
          -- told.append(len(answer)); told.extend(answer); at = behind
          have small : ∀ k : Nat, k ≤ 323 * 30000 + 400 → k ≤ sizeLine := fun k hk => Nat.le_trans hk (by decide)
          have tb : To.length ≤ 323 * 30000 := Nat.le_trans hTl (Nat.mul_le_mul (Nat.le_refl _) (by omega))
          refine ⟨_, rfl, .inl ⟨rfl, _, SqL.of ht3⟩, _, rfl, D, _, rfl, .inl (SqL.of hD3), t, _, _, rfl, rfl, ht3, (by rw [List.length_map]; exact Nat.lt_of_le_of_lt tb (by decide)), ?_⟩
          have hD4 : ∀ ys, (upd H3 t (.lst ys)) D = some (.lst ((ansG st p ((l.drop (a + 1)).take nb)).2.map V.int)) := fun ys => by rw [upd_ne (Ne.symm htD)]; exact hD3
          refine ⟨_, rfl, .inl ⟨rfl, _, SqL.of upd_same⟩, _, rfl, t, D, _, _, rfl, rfl, upd_same, hD4 _, small _ (by rw [List.length_append, List.length_map, List.length_map, List.length_singleton]; omega), ?_⟩
          refine ⟨_, rfl, ?_⟩
          have nt : H t = none := by
            cases e : H t with
            | none => rfl
            | some o =>
              rcases hO t with z | ⟨ob, u, z⟩
              · rw [e] at z; cases z
              · have z2 := s3 _ _ z
                rw [ht3] at z2; cases z2
          refine ⟨(ansG st p ((l.drop (a + 1)).take nb)).1, F3, To ++ (((ansG st p ((l.drop (a + 1)).take nb)).2.length : Int) :: (ansG st p ((l.drop (a + 1)).take nb)).2), _, _, _, rfl, fun b o e => ?_, ?_, good_next G _ _, ?_, tF3, F3H, ?_, ?_⟩
          · rw [upd_ne (ne_of_none e nt), upd_ne (ne_of_none e nt)]; exact s3 b o e
          · -- the line is not the told list
            rw [upd_upd]
            have keep : ∀ b o, H3 b = some o → b ≠ t → ∀ ys, (upd H3 t (.lst ys)) b = some o := fun b o e hb' ys => by rw [upd_ne hb']; exact e
            revert h3 tF3
            generalize (ansG st p ((l.drop (a + 1)).take nb)).1 = st3
            intro h3 tF3
            cases st3 with
            | none =>
              obtain ⟨⟨d3, e3⟩, hF3⟩ := h3
              exact ⟨⟨d3, keep _ _ e3 (ne_of e3 ht3 (by intro z; cases z)) _⟩, hF3⟩
            | some n3 =>
              obtain ⟨d3, y3, l3, as3, e3, N3, hF3⟩ := h3
              obtain ⟨dy3, hy3⟩ := N3.obj
              refine ⟨d3, y3, l3, as3, keep _ _ e3 (ne_of e3 ht3 (by intro z; cases z)) _, ⟨⟨dy3, keep _ _ hy3 (ne_of hy3 ht3 (by intro z; cases z)) _⟩, keep _ _ N3.lst (fun z => tF3 (by rw [hF3, z]; exact List.mem_singleton.mpr rfl)) _, N3.nd, N3.parts.len, fun j b hj => ?_⟩, hF3⟩
              obtain ⟨db, eb3⟩ := N3.parts.at_ j b hj
              exact ⟨db, keep _ _ eb3 (ne_of eb3 ht3 (by intro z; cases z)) _⟩
          · unfold IntsAt
            rw [upd_same, List.map_append, List.map_cons, List.append_assoc, List.length_map]
            rfl
          · rw [List.length_append, List.length_cons]; omega
          · rw [List.append_assoc]; exact hA
      · refine ifN (by intro z; have z := of_decide_eq_true z; rw [List.length_map] at z; omega) ?_
        have ea : a = l.length := by omega
        refine ⟨_, rfl, ?_⟩
        rw [ea, List.drop_length, rest_nil, List.append_nil] at hA
        refine q H1 t ?_
        rw [← hA]; exact hT
end
end Rp
set_option Elab.async false
set_option linter.all false
set_option maxRecDepth 100000
set_option maxHeartbeats 2000000
/-! what the top has written, and the row's head -/
namespace Rp
open PySem PySem.Spec PyProof.Rows L2 Rn
theorem all_mk {P : Program} {w : World} {K : PySem.W.Frag} {h : Heap} {mg : Str → Option Value} {fa : Addr} (X : K.In h) (G : h.Ns mainGlobals mg) (hfa : mg "answers" = some (.ref fa))
    {cPart cNet cSol cLine tLM tNB : Addr}
    {t_WN : Tok}
    {t_NR : Tok}
    {t_NO : Tok}
    {t_NN : Tok}
    {t_RE : Tok}
    {t_SV : Tok}
    {t_SA : Tok}
    {t_MM : Tok}
    {t_LN : Tok}
    {t_MN : Tok}
    {t_MP : Tok}
    {t_BY : Tok}
    {t_BEGIN : Tok}
    {t_NODES : Tok}
    {t_PART : Tok}
    {t_CHANGE : Tok}
    {t_SOLVE : Tok}
    {t_VOLTS : Tok}
    {t_AMPERES : Tok}
    {t_WATTS : Tok}
    {x_LM_0 x_LM_1 x_LM_2 : Tok} {od_LM : Option Addr} {n_LM : Nat} {sl_LM : Array (Option Value)}
    {x_NB_0 x_NB_1 x_NB_2 x_NB_3 x_NB_4 x_NB_5 x_NB_6 x_NB_7 x_NB_8 : Tok} {od_NB : Option Addr} {n_NB : Nat} {sl_NB : Array (Option Value)}
    {f_isNC : Addr} {oc_isNC kV_isNC dc_isNC pm_isNC cd_isNC ct_isNC : Value} {od_isNC an_isNC : Option Addr} {sl_isNC : Array (Option Value)}
    {f_isKind : Addr} {oc_isKind kV_isKind dc_isKind pm_isKind cd_isKind ct_isKind : Value} {od_isKind an_isKind : Option Addr} {sl_isKind : Array (Option Value)}
    {f_isMuch : Addr} {oc_isMuch kV_isMuch dc_isMuch pm_isMuch cd_isMuch ct_isMuch : Value} {od_isMuch an_isMuch : Option Addr} {sl_isMuch : Array (Option Value)}
    {f_ofKind : Addr} {oc_ofKind kV_ofKind dc_ofKind pm_ofKind cd_ofKind ct_ofKind : Value} {od_ofKind an_ofKind : Option Addr} {sl_ofKind : Array (Option Value)}
    {f_joined : Addr} {oc_joined kV_joined dc_joined pm_joined cd_joined ct_joined : Value} {od_joined an_joined : Option Addr} {sl_joined : Array (Option Value)}
    {f_one : Addr} {oc_one kV_one dc_one pm_one cd_one ct_one : Value} {od_one an_one : Option Addr} {sl_one : Array (Option Value)}
    {f_lead : Addr} {oc_lead kV_lead dc_lead pm_lead cd_lead ct_lead : Value} {od_lead an_lead : Option Addr} {sl_lead : Array (Option Value)}
    {f_cleared : Addr} {oc_cleared kV_cleared dc_cleared pm_cleared cd_cleared ct_cleared : Value} {od_cleared an_cleared : Option Addr} {sl_cleared : Array (Option Value)}
    {f_solved : Addr} {oc_solved kV_solved dc_solved pm_solved cd_solved ct_solved : Value} {od_solved an_solved : Option Addr} {sl_solved : Array (Option Value)}
    {f_places : Addr} {oc_places kV_places dc_places pm_places cd_places ct_places : Value} {od_places an_places : Option Addr} {sl_places : Array (Option Value)}
    {f_empty : Addr} {oc_empty kV_empty dc_empty pm_empty cd_empty ct_empty : Value} {od_empty an_empty : Option Addr} {sl_empty : Array (Option Value)}
    {f_ground : Addr} {oc_ground kV_ground dc_ground pm_ground cd_ground ct_ground : Value} {od_ground an_ground : Option Addr} {sl_ground : Array (Option Value)}
    {f_source : Addr} {oc_source kV_source dc_source pm_source cd_source ct_source : Value} {od_source an_source : Option Addr} {sl_source : Array (Option Value)}
    {f_ohms : Addr} {oc_ohms kV_ohms dc_ohms pm_ohms cd_ohms ct_ohms : Value} {od_ohms an_ohms : Option Addr} {sl_ohms : Array (Option Value)}
    {f_node : Addr} {oc_node kV_node dc_node pm_node cd_node ct_node : Value} {od_node an_node : Option Addr} {sl_node : Array (Option Value)}
    {f_rows : Addr} {oc_rows kV_rows dc_rows pm_rows cd_rows ct_rows : Value} {od_rows an_rows : Option Addr} {sl_rows : Array (Option Value)}
    {f_gcd : Addr} {oc_gcd kV_gcd dc_gcd pm_gcd cd_gcd ct_gcd : Value} {od_gcd an_gcd : Option Addr} {sl_gcd : Array (Option Value)}
    {f_bytes : Addr} {oc_bytes kV_bytes dc_bytes pm_bytes cd_bytes ct_bytes : Value} {od_bytes an_bytes : Option Addr} {sl_bytes : Array (Option Value)}
    {f_told : Addr} {oc_told kV_told dc_told pm_told cd_told ct_told : Value} {od_told an_told : Option Addr} {sl_told : Array (Option Value)}
    {f_voltsA : Addr} {oc_voltsA kV_voltsA dc_voltsA pm_voltsA cd_voltsA ct_voltsA : Value} {od_voltsA an_voltsA : Option Addr} {sl_voltsA : Array (Option Value)}
    {f_ampsA : Addr} {oc_ampsA kV_ampsA dc_ampsA pm_ampsA cd_ampsA ct_ampsA : Value} {od_ampsA an_ampsA : Option Addr} {sl_ampsA : Array (Option Value)}
    {f_wattsA : Addr} {oc_wattsA kV_wattsA dc_wattsA pm_wattsA cd_wattsA ct_wattsA : Value} {od_wattsA an_wattsA : Option Addr} {sl_wattsA : Array (Option Value)}
    {f_betNet : Addr} {oc_betNet kV_betNet dc_betNet pm_betNet cd_betNet ct_betNet : Value} {od_betNet an_betNet : Option Addr} {sl_betNet : Array (Option Value)}
    {f_betA : Addr} {oc_betA kV_betA dc_betA pm_betA cd_betA ct_betA : Value} {od_betA an_betA : Option Addr} {sl_betA : Array (Option Value)}
    {f_hasNode : Addr} {oc_hasNode kV_hasNode dc_hasNode pm_hasNode cd_hasNode ct_hasNode : Value} {od_hasNode an_hasNode : Option Addr} {sl_hasNode : Array (Option Value)}
    {f_hasPart : Addr} {oc_hasPart kV_hasPart dc_hasPart pm_hasPart cd_hasPart ct_hasPart : Value} {od_hasPart an_hasPart : Option Addr} {sl_hasPart : Array (Option Value)}
    {f_hasTwo : Addr} {oc_hasTwo kV_hasTwo dc_hasTwo pm_hasTwo cd_hasTwo ct_hasTwo : Value} {od_hasTwo an_hasTwo : Option Addr} {sl_hasTwo : Array (Option Value)}
    {f_addPart : Addr} {oc_addPart kV_addPart dc_addPart pm_addPart cd_addPart ct_addPart : Value} {od_addPart an_addPart : Option Addr} {sl_addPart : Array (Option Value)}
    {f_change : Addr} {oc_change kV_change dc_change pm_change cd_change ct_change : Value} {od_change an_change : Option Addr} {sl_change : Array (Option Value)}
    {f_solV : Addr} {oc_solV kV_solV dc_solV pm_solV cd_solV ct_solV : Value} {od_solV an_solV : Option Addr} {sl_solV : Array (Option Value)}
    {f_solB : Addr} {oc_solB kV_solB dc_solB pm_solB cd_solB ct_solB : Value} {od_solB an_solB : Option Addr} {sl_solB : Array (Option Value)}
    {f_solA : Addr} {oc_solA kV_solA dc_solA pm_solA cd_solA ct_solA : Value} {od_solA an_solA : Option Addr} {sl_solA : Array (Option Value)}
    {f_solW : Addr} {oc_solW kV_solW dc_solW pm_solW cd_solW ct_solW : Value} {od_solW an_solW : Option Addr} {sl_solW : Array (Option Value)}
    {f_answer : Addr} {oc_answer kV_answer dc_answer pm_answer cd_answer ct_answer : Value} {od_answer an_answer : Option Addr} {sl_answer : Array (Option Value)}
    {f_lay : Addr} {oc_lay kV_lay dc_lay pm_lay cd_lay ct_lay : Value} {od_lay an_lay : Option Addr} {sl_lay : Array (Option Value)}
    {f_inNet : Addr} {oc_inNet kV_inNet dc_inNet pm_inNet cd_inNet ct_inNet : Value} {od_inNet an_inNet : Option Addr} {sl_inNet : Array (Option Value)}
    {f_measure : Addr} {oc_measure kV_measure dc_measure pm_measure cd_measure ct_measure : Value} {od_measure an_measure : Option Addr} {sl_measure : Array (Option Value)}
    {f_partI : Addr} {oc_partI kV_partI dc_partI pm_partI cd_partI ct_partI : Value} {od_partI an_partI : Option Addr} {sl_partI : Array (Option Value)}
    {f_netI : Addr} {oc_netI kV_netI dc_netI pm_netI cd_netI ct_netI : Value} {od_netI an_netI : Option Addr} {sl_netI : Array (Option Value)}
    {f_solI : Addr} {oc_solI kV_solI dc_solI pm_solI cd_solI ct_solI : Value} {od_solI an_solI : Option Addr} {sl_solI : Array (Option Value)}
    {f_lineI : Addr} {oc_lineI kV_lineI dc_lineI pm_lineI cd_lineI ct_lineI : Value} {od_lineI an_lineI : Option Addr} {sl_lineI : Array (Option Value)}
    {f_ans : Addr} {oc_ans kV_ans dc_ans pm_ans cd_ans ct_ans : Value} {od_ans an_ans : Option Addr} {sl_ans : Array (Option Value)}
    (a_cPart : PySem.W.nsIn K mainGlobals "Part" = some (some (.ref cPart)))
    (a_cNet : PySem.W.nsIn K mainGlobals "Net" = some (some (.ref cNet)))
    (a_cSol : PySem.W.nsIn K mainGlobals "Solution" = some (some (.ref cSol)))
    (a_cLine : PySem.W.nsIn K mainGlobals "Line" = some (some (.ref cLine)))
    (a_LM : PySem.W.nsIn K mainGlobals "LEAST_MUCH" = some (some (.ref tLM)))
    (a_NB : PySem.W.nsIn K mainGlobals "NUMBERS_BEHIND" = some (some (.ref tNB)))
    (a_isNC : PySem.W.nsIn K mainGlobals "is_node_count" = some (some (.ref f_isNC)))
    (a_isKind : PySem.W.nsIn K mainGlobals "is_kind" = some (some (.ref f_isKind)))
    (a_isMuch : PySem.W.nsIn K mainGlobals "is_much" = some (some (.ref f_isMuch)))
    (a_ofKind : PySem.W.nsIn K mainGlobals "parts_of_kind" = some (some (.ref f_ofKind)))
    (a_joined : PySem.W.nsIn K mainGlobals "joined" = some (some (.ref f_joined)))
    (a_one : PySem.W.nsIn K mainGlobals "has_one_solution" = some (some (.ref f_one)))
    (a_lead : PySem.W.nsIn K mainGlobals "with_lead" = some (some (.ref f_lead)))
    (a_cleared : PySem.W.nsIn K mainGlobals "cleared" = some (some (.ref f_cleared)))
    (a_solved : PySem.W.nsIn K mainGlobals "solved" = some (some (.ref f_solved)))
    (a_places : PySem.W.nsIn K mainGlobals "places_of_amperes" = some (some (.ref f_places)))
    (a_empty : PySem.W.nsIn K mainGlobals "empty_row" = some (some (.ref f_empty)))
    (a_ground : PySem.W.nsIn K mainGlobals "law_of_ground" = some (some (.ref f_ground)))
    (a_source : PySem.W.nsIn K mainGlobals "law_of_source" = some (some (.ref f_source)))
    (a_ohms : PySem.W.nsIn K mainGlobals "ohms_at" = some (some (.ref f_ohms)))
    (a_node : PySem.W.nsIn K mainGlobals "law_of_node" = some (some (.ref f_node)))
    (a_rows : PySem.W.nsIn K mainGlobals "law_rows" = some (some (.ref f_rows)))
    (a_gcd : PySem.W.nsIn K mainGlobals "greatest_common_divisor" = some (some (.ref f_gcd)))
    (a_bytes : PySem.W.nsIn K mainGlobals "bytes_of" = some (some (.ref f_bytes)))
    (a_told : PySem.W.nsIn K mainGlobals "told" = some (some (.ref f_told)))
    (a_voltsA : PySem.W.nsIn K mainGlobals "volts_answer" = some (some (.ref f_voltsA)))
    (a_ampsA : PySem.W.nsIn K mainGlobals "amperes_answer" = some (some (.ref f_ampsA)))
    (a_wattsA : PySem.W.nsIn K mainGlobals "watts_answer" = some (some (.ref f_wattsA)))
    (a_betNet : PySem.W.nsIn K mainGlobals "net_for_between" = some (some (.ref f_betNet)))
    (a_betA : PySem.W.nsIn K mainGlobals "between_answer" = some (some (.ref f_betA)))
    (a_hasNode : PySem.W.findIn K (.ref cNet) "has_node" = some (some (.ref f_hasNode)))
    (a_hasPart : PySem.W.findIn K (.ref cNet) "has_part" = some (some (.ref f_hasPart)))
    (a_hasTwo : PySem.W.findIn K (.ref cNet) "has_two_nodes" = some (some (.ref f_hasTwo)))
    (a_addPart : PySem.W.findIn K (.ref cNet) "add_part" = some (some (.ref f_addPart)))
    (a_change : PySem.W.findIn K (.ref cNet) "change_part" = some (some (.ref f_change)))
    (a_solV : PySem.W.findIn K (.ref cSol) "volts" = some (some (.ref f_solV)))
    (a_solB : PySem.W.findIn K (.ref cSol) "volts_between" = some (some (.ref f_solB)))
    (a_solA : PySem.W.findIn K (.ref cSol) "amperes" = some (some (.ref f_solA)))
    (a_solW : PySem.W.findIn K (.ref cSol) "watts" = some (some (.ref f_solW)))
    (a_answer : PySem.W.findIn K (.ref cLine) "answer" = some (some (.ref f_answer)))
    (a_lay : PySem.W.findIn K (.ref cLine) "lay_nodes" = some (some (.ref f_lay)))
    (a_inNet : PySem.W.findIn K (.ref cLine) "answer_in_net" = some (some (.ref f_inNet)))
    (a_measure : PySem.W.findIn K (.ref cLine) "measure" = some (some (.ref f_measure)))
    (a_partI : PySem.W.findIn K (.ref cPart) "__init__" = some (some (.ref f_partI)))
    (a_netI : PySem.W.findIn K (.ref cNet) "__init__" = some (some (.ref f_netI)))
    (a_solI : PySem.W.findIn K (.ref cSol) "__init__" = some (some (.ref f_solI)))
    (a_lineI : PySem.W.findIn K (.ref cLine) "__init__" = some (some (.ref f_lineI)))
    (a_ans : PySem.W.nsIn K mainGlobals "answers" = some (some (.ref f_ans)))
    (l_LM : K.lookup tLM = some ⟨.type "tuple", od_LM, .seq #[.int (1) x_LM_0, .int (-1000000) x_LM_1, .int (-1000000) x_LM_2] n_LM, sl_LM⟩)
    (l_NB : K.lookup tNB = some ⟨.type "tuple", od_NB, .seq #[.int (0) x_NB_0, .int (1) x_NB_1, .int (4) x_NB_2, .int (2) x_NB_3, .int (0) x_NB_4, .int (1) x_NB_5, .int (1) x_NB_6, .int (1) x_NB_7, .int (2) x_NB_8] n_NB, sl_NB⟩)
    (l_isNC : K.lookup f_isNC = some ⟨oc_isNC, od_isNC, .func (PySem.W.fnOf "is_node_count" "is_node_count" (defArgs dIsNC) (defBody dIsNC) (defScope dIsNC) .none kV_isNC dc_isNC pm_isNC an_isNC cd_isNC ct_isNC), sl_isNC⟩)
    (l_isKind : K.lookup f_isKind = some ⟨oc_isKind, od_isKind, .func (PySem.W.fnOf "is_kind" "is_kind" (defArgs dIsKind) (defBody dIsKind) (defScope dIsKind) .none kV_isKind dc_isKind pm_isKind an_isKind cd_isKind ct_isKind), sl_isKind⟩)
    (l_isMuch : K.lookup f_isMuch = some ⟨oc_isMuch, od_isMuch, .func (PySem.W.fnOf "is_much" "is_much" (defArgs dIsMuch) (defBody dIsMuch) (defScope dIsMuch) .none kV_isMuch dc_isMuch pm_isMuch an_isMuch cd_isMuch ct_isMuch), sl_isMuch⟩)
    (l_ofKind : K.lookup f_ofKind = some ⟨oc_ofKind, od_ofKind, .func (PySem.W.fnOf "parts_of_kind" "parts_of_kind" (defArgs dOfKind) (defBody dOfKind) (defScope dOfKind) .none kV_ofKind dc_ofKind pm_ofKind an_ofKind cd_ofKind ct_ofKind), sl_ofKind⟩)
    (l_joined : K.lookup f_joined = some ⟨oc_joined, od_joined, .func (PySem.W.fnOf "joined" "joined" (defArgs dJoined) (defBody dJoined) (defScope dJoined) .none kV_joined dc_joined pm_joined an_joined cd_joined ct_joined), sl_joined⟩)
    (l_one : K.lookup f_one = some ⟨oc_one, od_one, .func (PySem.W.fnOf "has_one_solution" "has_one_solution" (defArgs dOne) (defBody dOne) (defScope dOne) .none kV_one dc_one pm_one an_one cd_one ct_one), sl_one⟩)
    (l_lead : K.lookup f_lead = some ⟨oc_lead, od_lead, .func (PySem.W.fnOf "with_lead" "with_lead" (defArgs dLead) (defBody dLead) (defScope dLead) .none kV_lead dc_lead pm_lead an_lead cd_lead ct_lead), sl_lead⟩)
    (l_cleared : K.lookup f_cleared = some ⟨oc_cleared, od_cleared, .func (PySem.W.fnOf "cleared" "cleared" (defArgs dCleared) (defBody dCleared) (defScope dCleared) .none kV_cleared dc_cleared pm_cleared an_cleared cd_cleared ct_cleared), sl_cleared⟩)
    (l_solved : K.lookup f_solved = some ⟨oc_solved, od_solved, .func (PySem.W.fnOf "solved" "solved" (defArgs dSolved) (defBody dSolved) (defScope dSolved) .none kV_solved dc_solved pm_solved an_solved cd_solved ct_solved), sl_solved⟩)
    (l_places : K.lookup f_places = some ⟨oc_places, od_places, .func (PySem.W.fnOf "places_of_amperes" "places_of_amperes" (defArgs dPlaces) (defBody dPlaces) (defScope dPlaces) .none kV_places dc_places pm_places an_places cd_places ct_places), sl_places⟩)
    (l_empty : K.lookup f_empty = some ⟨oc_empty, od_empty, .func (PySem.W.fnOf "empty_row" "empty_row" (defArgs dEmpty) (defBody dEmpty) (defScope dEmpty) .none kV_empty dc_empty pm_empty an_empty cd_empty ct_empty), sl_empty⟩)
    (l_ground : K.lookup f_ground = some ⟨oc_ground, od_ground, .func (PySem.W.fnOf "law_of_ground" "law_of_ground" (defArgs dGround) (defBody dGround) (defScope dGround) .none kV_ground dc_ground pm_ground an_ground cd_ground ct_ground), sl_ground⟩)
    (l_source : K.lookup f_source = some ⟨oc_source, od_source, .func (PySem.W.fnOf "law_of_source" "law_of_source" (defArgs dSource) (defBody dSource) (defScope dSource) .none kV_source dc_source pm_source an_source cd_source ct_source), sl_source⟩)
    (l_ohms : K.lookup f_ohms = some ⟨oc_ohms, od_ohms, .func (PySem.W.fnOf "ohms_at" "ohms_at" (defArgs dOhms) (defBody dOhms) (defScope dOhms) .none kV_ohms dc_ohms pm_ohms an_ohms cd_ohms ct_ohms), sl_ohms⟩)
    (l_node : K.lookup f_node = some ⟨oc_node, od_node, .func (PySem.W.fnOf "law_of_node" "law_of_node" (defArgs dNode) (defBody dNode) (defScope dNode) .none kV_node dc_node pm_node an_node cd_node ct_node), sl_node⟩)
    (l_rows : K.lookup f_rows = some ⟨oc_rows, od_rows, .func (PySem.W.fnOf "law_rows" "law_rows" (defArgs dRows) (defBody dRows) (defScope dRows) .none kV_rows dc_rows pm_rows an_rows cd_rows ct_rows), sl_rows⟩)
    (l_gcd : K.lookup f_gcd = some ⟨oc_gcd, od_gcd, .func (PySem.W.fnOf "greatest_common_divisor" "greatest_common_divisor" (defArgs dGcd) (defBody dGcd) (defScope dGcd) .none kV_gcd dc_gcd pm_gcd an_gcd cd_gcd ct_gcd), sl_gcd⟩)
    (l_bytes : K.lookup f_bytes = some ⟨oc_bytes, od_bytes, .func (PySem.W.fnOf "bytes_of" "bytes_of" (defArgs dBytes) (defBody dBytes) (defScope dBytes) .none kV_bytes dc_bytes pm_bytes an_bytes cd_bytes ct_bytes), sl_bytes⟩)
    (l_told : K.lookup f_told = some ⟨oc_told, od_told, .func (PySem.W.fnOf "told" "told" (defArgs dTold) (defBody dTold) (defScope dTold) .none kV_told dc_told pm_told an_told cd_told ct_told), sl_told⟩)
    (l_voltsA : K.lookup f_voltsA = some ⟨oc_voltsA, od_voltsA, .func (PySem.W.fnOf "volts_answer" "volts_answer" (defArgs dVoltsA) (defBody dVoltsA) (defScope dVoltsA) .none kV_voltsA dc_voltsA pm_voltsA an_voltsA cd_voltsA ct_voltsA), sl_voltsA⟩)
    (l_ampsA : K.lookup f_ampsA = some ⟨oc_ampsA, od_ampsA, .func (PySem.W.fnOf "amperes_answer" "amperes_answer" (defArgs dAmpsA) (defBody dAmpsA) (defScope dAmpsA) .none kV_ampsA dc_ampsA pm_ampsA an_ampsA cd_ampsA ct_ampsA), sl_ampsA⟩)
    (l_wattsA : K.lookup f_wattsA = some ⟨oc_wattsA, od_wattsA, .func (PySem.W.fnOf "watts_answer" "watts_answer" (defArgs dWattsA) (defBody dWattsA) (defScope dWattsA) .none kV_wattsA dc_wattsA pm_wattsA an_wattsA cd_wattsA ct_wattsA), sl_wattsA⟩)
    (l_betNet : K.lookup f_betNet = some ⟨oc_betNet, od_betNet, .func (PySem.W.fnOf "net_for_between" "net_for_between" (defArgs dBetNet) (defBody dBetNet) (defScope dBetNet) .none kV_betNet dc_betNet pm_betNet an_betNet cd_betNet ct_betNet), sl_betNet⟩)
    (l_betA : K.lookup f_betA = some ⟨oc_betA, od_betA, .func (PySem.W.fnOf "between_answer" "between_answer" (defArgs dBetA) (defBody dBetA) (defScope dBetA) .none kV_betA dc_betA pm_betA an_betA cd_betA ct_betA), sl_betA⟩)
    (l_hasNode : K.lookup f_hasNode = some ⟨oc_hasNode, od_hasNode, .func (PySem.W.fnOf "has_node" "Net.has_node" (defArgs dHasNode) (defBody dHasNode) (defScope dHasNode) .none kV_hasNode dc_hasNode pm_hasNode an_hasNode cd_hasNode ct_hasNode), sl_hasNode⟩)
    (l_hasPart : K.lookup f_hasPart = some ⟨oc_hasPart, od_hasPart, .func (PySem.W.fnOf "has_part" "Net.has_part" (defArgs dHasPart) (defBody dHasPart) (defScope dHasPart) .none kV_hasPart dc_hasPart pm_hasPart an_hasPart cd_hasPart ct_hasPart), sl_hasPart⟩)
    (l_hasTwo : K.lookup f_hasTwo = some ⟨oc_hasTwo, od_hasTwo, .func (PySem.W.fnOf "has_two_nodes" "Net.has_two_nodes" (defArgs dHasTwo) (defBody dHasTwo) (defScope dHasTwo) .none kV_hasTwo dc_hasTwo pm_hasTwo an_hasTwo cd_hasTwo ct_hasTwo), sl_hasTwo⟩)
    (l_addPart : K.lookup f_addPart = some ⟨oc_addPart, od_addPart, .func (PySem.W.fnOf "add_part" "Net.add_part" (defArgs dAddPart) (defBody dAddPart) (defScope dAddPart) .none kV_addPart dc_addPart pm_addPart an_addPart cd_addPart ct_addPart), sl_addPart⟩)
    (l_change : K.lookup f_change = some ⟨oc_change, od_change, .func (PySem.W.fnOf "change_part" "Net.change_part" (defArgs dChange) (defBody dChange) (defScope dChange) .none kV_change dc_change pm_change an_change cd_change ct_change), sl_change⟩)
    (l_solV : K.lookup f_solV = some ⟨oc_solV, od_solV, .func (PySem.W.fnOf "volts" "Solution.volts" (defArgs dSolV) (defBody dSolV) (defScope dSolV) .none kV_solV dc_solV pm_solV an_solV cd_solV ct_solV), sl_solV⟩)
    (l_solB : K.lookup f_solB = some ⟨oc_solB, od_solB, .func (PySem.W.fnOf "volts_between" "Solution.volts_between" (defArgs dSolB) (defBody dSolB) (defScope dSolB) .none kV_solB dc_solB pm_solB an_solB cd_solB ct_solB), sl_solB⟩)
    (l_solA : K.lookup f_solA = some ⟨oc_solA, od_solA, .func (PySem.W.fnOf "amperes" "Solution.amperes" (defArgs dSolA) (defBody dSolA) (defScope dSolA) .none kV_solA dc_solA pm_solA an_solA cd_solA ct_solA), sl_solA⟩)
    (l_solW : K.lookup f_solW = some ⟨oc_solW, od_solW, .func (PySem.W.fnOf "watts" "Solution.watts" (defArgs dSolW) (defBody dSolW) (defScope dSolW) .none kV_solW dc_solW pm_solW an_solW cd_solW ct_solW), sl_solW⟩)
    (l_answer : K.lookup f_answer = some ⟨oc_answer, od_answer, .func (PySem.W.fnOf "answer" "Line.answer" (defArgs dAnswer) (defBody dAnswer) (defScope dAnswer) .none kV_answer dc_answer pm_answer an_answer cd_answer ct_answer), sl_answer⟩)
    (l_lay : K.lookup f_lay = some ⟨oc_lay, od_lay, .func (PySem.W.fnOf "lay_nodes" "Line.lay_nodes" (defArgs dLay) (defBody dLay) (defScope dLay) .none kV_lay dc_lay pm_lay an_lay cd_lay ct_lay), sl_lay⟩)
    (l_inNet : K.lookup f_inNet = some ⟨oc_inNet, od_inNet, .func (PySem.W.fnOf "answer_in_net" "Line.answer_in_net" (defArgs dInNet) (defBody dInNet) (defScope dInNet) .none kV_inNet dc_inNet pm_inNet an_inNet cd_inNet ct_inNet), sl_inNet⟩)
    (l_measure : K.lookup f_measure = some ⟨oc_measure, od_measure, .func (PySem.W.fnOf "measure" "Line.measure" (defArgs dMeasure) (defBody dMeasure) (defScope dMeasure) .none kV_measure dc_measure pm_measure an_measure cd_measure ct_measure), sl_measure⟩)
    (l_partI : K.lookup f_partI = some ⟨oc_partI, od_partI, .func (PySem.W.fnOf "__init__" "Part.__init__" (defArgs dPartI) (defBody dPartI) (defScope dPartI) .none kV_partI dc_partI pm_partI an_partI cd_partI ct_partI), sl_partI⟩)
    (l_netI : K.lookup f_netI = some ⟨oc_netI, od_netI, .func (PySem.W.fnOf "__init__" "Net.__init__" (defArgs dNetI) (defBody dNetI) (defScope dNetI) .none kV_netI dc_netI pm_netI an_netI cd_netI ct_netI), sl_netI⟩)
    (l_solI : K.lookup f_solI = some ⟨oc_solI, od_solI, .func (PySem.W.fnOf "__init__" "Solution.__init__" (defArgs dSolI) (defBody dSolI) (defScope dSolI) .none kV_solI dc_solI pm_solI an_solI cd_solI ct_solI), sl_solI⟩)
    (l_lineI : K.lookup f_lineI = some ⟨oc_lineI, od_lineI, .func (PySem.W.fnOf "__init__" "Line.__init__" (defArgs dLineI) (defBody dLineI) (defScope dLineI) .none kV_lineI dc_lineI pm_lineI an_lineI cd_lineI ct_lineI), sl_lineI⟩)
    (l_ans : K.lookup f_ans = some ⟨oc_ans, od_ans, .func (PySem.W.fnOf "answers" "answers" (defArgs dAnswers) (defBody dAnswers) (defScope dAnswers) .none kV_ans dc_ans pm_ans an_ans cd_ans ct_ans), sl_ans⟩)
    (pg_cPart : PySem.W.plainGet K cPart Str.empty = true)
    (hd_cPart : PySem.W.hasDictIn K cPart = true)
    (po_cPart : PySem.W.plainOver K cPart = true)
    (sa_cPart : PySem.W.findIn K (.ref cPart) "__setattr__" = some (some (.builtin "object.__setattr__")))
    (mk_cPart : PySem.W.makesIn K cPart = true)
    (kc_cPart : PySem.W.keepIn K (.ref cPart) = true)
    (pg_cNet : PySem.W.plainGet K cNet Str.empty = true)
    (hd_cNet : PySem.W.hasDictIn K cNet = true)
    (po_cNet : PySem.W.plainOver K cNet = true)
    (sa_cNet : PySem.W.findIn K (.ref cNet) "__setattr__" = some (some (.builtin "object.__setattr__")))
    (mk_cNet : PySem.W.makesIn K cNet = true)
    (kc_cNet : PySem.W.keepIn K (.ref cNet) = true)
    (pg_cSol : PySem.W.plainGet K cSol Str.empty = true)
    (hd_cSol : PySem.W.hasDictIn K cSol = true)
    (po_cSol : PySem.W.plainOver K cSol = true)
    (sa_cSol : PySem.W.findIn K (.ref cSol) "__setattr__" = some (some (.builtin "object.__setattr__")))
    (mk_cSol : PySem.W.makesIn K cSol = true)
    (kc_cSol : PySem.W.keepIn K (.ref cSol) = true)
    (pg_cLine : PySem.W.plainGet K cLine Str.empty = true)
    (hd_cLine : PySem.W.hasDictIn K cLine = true)
    (po_cLine : PySem.W.plainOver K cLine = true)
    (sa_cLine : PySem.W.findIn K (.ref cLine) "__setattr__" = some (some (.builtin "object.__setattr__")))
    (mk_cLine : PySem.W.makesIn K cLine = true)
    (kc_cLine : PySem.W.keepIn K (.ref cLine) = true)
    (na_nKind : PySem.W.findIn K (.ref cPart) "kind" = some none)
    (na_nA : PySem.W.findIn K (.ref cPart) "a" = some none)
    (na_nB : PySem.W.findIn K (.ref cPart) "b" = some none)
    (na_nMuch : PySem.W.findIn K (.ref cPart) "much" = some none)
    (na_nNC : PySem.W.findIn K (.ref cNet) "node_count" = some none)
    (na_nParts : PySem.W.findIn K (.ref cNet) "parts" = some none)
    (na_nNet : PySem.W.findIn K (.ref cSol) "net" = some none)
    (na_nDivided : PySem.W.findIn K (.ref cSol) "divided" = some none)
    (na_nDivisor : PySem.W.findIn K (.ref cSol) "divisor" = some none)
    (na_lNet : PySem.W.findIn K (.ref cLine) "net" = some none)
    (v_WN : PySem.W.nsIn K mainGlobals "WRONG_NUMBER" = some (some (.int (-1) t_WN)))
    (v_NR : PySem.W.nsIn K mainGlobals "NO_ROOM" = some (some (.int (-2) t_NR)))
    (v_NO : PySem.W.nsIn K mainGlobals "NOT_ONE_SOLUTION" = some (some (.int (-3) t_NO)))
    (v_NN : PySem.W.nsIn K mainGlobals "NO_NET" = some (some (.int (-4) t_NN)))
    (v_RE : PySem.W.nsIn K mainGlobals "RESISTOR" = some (some (.int (0) t_RE)))
    (v_SV : PySem.W.nsIn K mainGlobals "SOURCE_OF_VOLTS" = some (some (.int (1) t_SV)))
    (v_SA : PySem.W.nsIn K mainGlobals "SOURCE_OF_AMPERES" = some (some (.int (2) t_SA)))
    (v_MM : PySem.W.nsIn K mainGlobals "MOST_MUCH" = some (some (.int (1000000) t_MM)))
    (v_LN : PySem.W.nsIn K mainGlobals "LEAST_NODES" = some (some (.int (2) t_LN)))
    (v_MN : PySem.W.nsIn K mainGlobals "MOST_NODES" = some (some (.int (12) t_MN)))
    (v_MP : PySem.W.nsIn K mainGlobals "MOST_PARTS" = some (some (.int (24) t_MP)))
    (v_BY : PySem.W.nsIn K mainGlobals "BYTES" = some (some (.int (160) t_BY)))
    (v_BEGIN : PySem.W.nsIn K mainGlobals "BEGIN" = some (some (.int (0) t_BEGIN)))
    (v_NODES : PySem.W.nsIn K mainGlobals "NODES" = some (some (.int (1) t_NODES)))
    (v_PART : PySem.W.nsIn K mainGlobals "PART" = some (some (.int (2) t_PART)))
    (v_CHANGE : PySem.W.nsIn K mainGlobals "CHANGE" = some (some (.int (3) t_CHANGE)))
    (v_SOLVE : PySem.W.nsIn K mainGlobals "SOLVE" = some (some (.int (4) t_SOLVE)))
    (v_VOLTS : PySem.W.nsIn K mainGlobals "VOLTS" = some (some (.int (5) t_VOLTS)))
    (v_AMPERES : PySem.W.nsIn K mainGlobals "AMPERES" = some (some (.int (6) t_AMPERES)))
    (v_WATTS : PySem.W.nsIn K mainGlobals "WATTS" = some (some (.int (7) t_WATTS)))
    (b_len : PySem.W.nsIn K mainGlobals "len" = some none)
    (b_range : PySem.W.nsIn K mainGlobals "range" = some none)
    (b_list : PySem.W.nsIn K mainGlobals "list" = some none)
    (b_enum : PySem.W.nsIn K mainGlobals "enumerate" = some none)
    (b_zip : PySem.W.nsIn K mainGlobals "zip" = some none)
    (b_all : PySem.W.nsIn K mainGlobals "all" = some none)
    (b_abs : PySem.W.nsIn K mainGlobals "abs" = some none)
    (c_isNC : PySem.W.codeIn K cd_isNC "is_node_count" = true)
    (k_isNC : PySem.W.keepIn K (.ref f_isNC) = true)
    (c_isKind : PySem.W.codeIn K cd_isKind "is_kind" = true)
    (k_isKind : PySem.W.keepIn K (.ref f_isKind) = true)
    (c_isMuch : PySem.W.codeIn K cd_isMuch "is_much" = true)
    (k_isMuch : PySem.W.keepIn K (.ref f_isMuch) = true)
    (c_ofKind : PySem.W.codeIn K cd_ofKind "parts_of_kind" = true)
    (k_ofKind : PySem.W.keepIn K (.ref f_ofKind) = true)
    (c_joined : PySem.W.codeIn K cd_joined "joined" = true)
    (k_joined : PySem.W.keepIn K (.ref f_joined) = true)
    (c_one : PySem.W.codeIn K cd_one "has_one_solution" = true)
    (k_one : PySem.W.keepIn K (.ref f_one) = true)
    (c_lead : PySem.W.codeIn K cd_lead "with_lead" = true)
    (k_lead : PySem.W.keepIn K (.ref f_lead) = true)
    (c_cleared : PySem.W.codeIn K cd_cleared "cleared" = true)
    (k_cleared : PySem.W.keepIn K (.ref f_cleared) = true)
    (c_solved : PySem.W.codeIn K cd_solved "solved" = true)
    (k_solved : PySem.W.keepIn K (.ref f_solved) = true)
    (c_places : PySem.W.codeIn K cd_places "places_of_amperes" = true)
    (k_places : PySem.W.keepIn K (.ref f_places) = true)
    (c_empty : PySem.W.codeIn K cd_empty "empty_row" = true)
    (k_empty : PySem.W.keepIn K (.ref f_empty) = true)
    (c_ground : PySem.W.codeIn K cd_ground "law_of_ground" = true)
    (k_ground : PySem.W.keepIn K (.ref f_ground) = true)
    (c_source : PySem.W.codeIn K cd_source "law_of_source" = true)
    (k_source : PySem.W.keepIn K (.ref f_source) = true)
    (c_ohms : PySem.W.codeIn K cd_ohms "ohms_at" = true)
    (k_ohms : PySem.W.keepIn K (.ref f_ohms) = true)
    (c_node : PySem.W.codeIn K cd_node "law_of_node" = true)
    (k_node : PySem.W.keepIn K (.ref f_node) = true)
    (c_rows : PySem.W.codeIn K cd_rows "law_rows" = true)
    (k_rows : PySem.W.keepIn K (.ref f_rows) = true)
    (c_gcd : PySem.W.codeIn K cd_gcd "greatest_common_divisor" = true)
    (k_gcd : PySem.W.keepIn K (.ref f_gcd) = true)
    (c_bytes : PySem.W.codeIn K cd_bytes "bytes_of" = true)
    (k_bytes : PySem.W.keepIn K (.ref f_bytes) = true)
    (c_told : PySem.W.codeIn K cd_told "told" = true)
    (k_told : PySem.W.keepIn K (.ref f_told) = true)
    (c_voltsA : PySem.W.codeIn K cd_voltsA "volts_answer" = true)
    (k_voltsA : PySem.W.keepIn K (.ref f_voltsA) = true)
    (c_ampsA : PySem.W.codeIn K cd_ampsA "amperes_answer" = true)
    (k_ampsA : PySem.W.keepIn K (.ref f_ampsA) = true)
    (c_wattsA : PySem.W.codeIn K cd_wattsA "watts_answer" = true)
    (k_wattsA : PySem.W.keepIn K (.ref f_wattsA) = true)
    (c_betNet : PySem.W.codeIn K cd_betNet "net_for_between" = true)
    (k_betNet : PySem.W.keepIn K (.ref f_betNet) = true)
    (c_betA : PySem.W.codeIn K cd_betA "between_answer" = true)
    (k_betA : PySem.W.keepIn K (.ref f_betA) = true)
    (c_hasNode : PySem.W.codeIn K cd_hasNode "Net.has_node" = true)
    (k_hasNode : PySem.W.keepIn K (.ref f_hasNode) = true)
    (i_hasNode : PySem.W.isFn K (.ref f_hasNode) = true)
    (c_hasPart : PySem.W.codeIn K cd_hasPart "Net.has_part" = true)
    (k_hasPart : PySem.W.keepIn K (.ref f_hasPart) = true)
    (i_hasPart : PySem.W.isFn K (.ref f_hasPart) = true)
    (c_hasTwo : PySem.W.codeIn K cd_hasTwo "Net.has_two_nodes" = true)
    (k_hasTwo : PySem.W.keepIn K (.ref f_hasTwo) = true)
    (i_hasTwo : PySem.W.isFn K (.ref f_hasTwo) = true)
    (c_addPart : PySem.W.codeIn K cd_addPart "Net.add_part" = true)
    (k_addPart : PySem.W.keepIn K (.ref f_addPart) = true)
    (i_addPart : PySem.W.isFn K (.ref f_addPart) = true)
    (c_change : PySem.W.codeIn K cd_change "Net.change_part" = true)
    (k_change : PySem.W.keepIn K (.ref f_change) = true)
    (i_change : PySem.W.isFn K (.ref f_change) = true)
    (c_solV : PySem.W.codeIn K cd_solV "Solution.volts" = true)
    (k_solV : PySem.W.keepIn K (.ref f_solV) = true)
    (i_solV : PySem.W.isFn K (.ref f_solV) = true)
    (c_solB : PySem.W.codeIn K cd_solB "Solution.volts_between" = true)
    (k_solB : PySem.W.keepIn K (.ref f_solB) = true)
    (i_solB : PySem.W.isFn K (.ref f_solB) = true)
    (c_solA : PySem.W.codeIn K cd_solA "Solution.amperes" = true)
    (k_solA : PySem.W.keepIn K (.ref f_solA) = true)
    (i_solA : PySem.W.isFn K (.ref f_solA) = true)
    (c_solW : PySem.W.codeIn K cd_solW "Solution.watts" = true)
    (k_solW : PySem.W.keepIn K (.ref f_solW) = true)
    (i_solW : PySem.W.isFn K (.ref f_solW) = true)
    (c_answer : PySem.W.codeIn K cd_answer "Line.answer" = true)
    (k_answer : PySem.W.keepIn K (.ref f_answer) = true)
    (i_answer : PySem.W.isFn K (.ref f_answer) = true)
    (c_lay : PySem.W.codeIn K cd_lay "Line.lay_nodes" = true)
    (k_lay : PySem.W.keepIn K (.ref f_lay) = true)
    (i_lay : PySem.W.isFn K (.ref f_lay) = true)
    (c_inNet : PySem.W.codeIn K cd_inNet "Line.answer_in_net" = true)
    (k_inNet : PySem.W.keepIn K (.ref f_inNet) = true)
    (i_inNet : PySem.W.isFn K (.ref f_inNet) = true)
    (c_measure : PySem.W.codeIn K cd_measure "Line.measure" = true)
    (k_measure : PySem.W.keepIn K (.ref f_measure) = true)
    (i_measure : PySem.W.isFn K (.ref f_measure) = true)
    (c_partI : PySem.W.codeIn K cd_partI "Part.__init__" = true)
    (k_partI : PySem.W.keepIn K (.ref f_partI) = true)
    (i_partI : PySem.W.isFn K (.ref f_partI) = true)
    (c_netI : PySem.W.codeIn K cd_netI "Net.__init__" = true)
    (k_netI : PySem.W.keepIn K (.ref f_netI) = true)
    (i_netI : PySem.W.isFn K (.ref f_netI) = true)
    (c_solI : PySem.W.codeIn K cd_solI "Solution.__init__" = true)
    (k_solI : PySem.W.keepIn K (.ref f_solI) = true)
    (i_solI : PySem.W.isFn K (.ref f_solI) = true)
    (c_lineI : PySem.W.codeIn K cd_lineI "Line.__init__" = true)
    (k_lineI : PySem.W.keepIn K (.ref f_lineI) = true)
    (i_lineI : PySem.W.isFn K (.ref f_lineI) = true)
    (c_ans : PySem.W.codeIn K cd_ans "answers" = true)
    (k_ans : PySem.W.keepIn K (.ref f_ans) = true) :
    ∃ fd : FuncData, (∀ (s : Shared) (us : List Value), us.length = (["calls"] : List Str).length → BindsTo s fd ⟨us, []⟩ ((["calls"] : List Str).zip us)) ∧ ∀ base : Heap, K.In base → base.Ns mainGlobals mg → FnOk P w K mg base CX0 10 fa fd ["calls"] (spAnswers K) := by
  have e := hfa.symm.trans (PySem.W.mg_of X G a_ans)
  cases e
  have T : Txt K mg ⟨cPart, cNet, cSol, cLine, tLM, tNB⟩ := {
    kPart := ⟨pg_cPart, hd_cPart, po_cPart, sa_cPart⟩
    kNet := ⟨pg_cNet, hd_cNet, po_cNet, sa_cNet⟩
    kSol := ⟨pg_cSol, hd_cSol, po_cSol, sa_cSol⟩
    kLine := ⟨pg_cLine, hd_cLine, po_cLine, sa_cLine⟩
    nKind := na_nKind
    nA := na_nA
    nB := na_nB
    nMuch := na_nMuch
    nNC := na_nNC
    nParts := na_nParts
    nNet := na_nNet
    nDivided := na_nDivided
    nDivisor := na_nDivisor
    lNet := na_lNet
    WN := ⟨_, PySem.W.mg_of X G v_WN⟩
    NR := ⟨_, PySem.W.mg_of X G v_NR⟩
    NO := ⟨_, PySem.W.mg_of X G v_NO⟩
    NN := ⟨_, PySem.W.mg_of X G v_NN⟩
    RE := ⟨_, PySem.W.mg_of X G v_RE⟩
    SV := ⟨_, PySem.W.mg_of X G v_SV⟩
    SA := ⟨_, PySem.W.mg_of X G v_SA⟩
    MM := ⟨_, PySem.W.mg_of X G v_MM⟩
    LN := ⟨_, PySem.W.mg_of X G v_LN⟩
    MN := ⟨_, PySem.W.mg_of X G v_MN⟩
    MP := ⟨_, PySem.W.mg_of X G v_MP⟩
    BY := ⟨_, PySem.W.mg_of X G v_BY⟩
    BEGIN := ⟨_, PySem.W.mg_of X G v_BEGIN⟩
    NODES := ⟨_, PySem.W.mg_of X G v_NODES⟩
    PART := ⟨_, PySem.W.mg_of X G v_PART⟩
    CHANGE := ⟨_, PySem.W.mg_of X G v_CHANGE⟩
    SOLVE := ⟨_, PySem.W.mg_of X G v_SOLVE⟩
    VOLTS := ⟨_, PySem.W.mg_of X G v_VOLTS⟩
    AMPERES := ⟨_, PySem.W.mg_of X G v_AMPERES⟩
    WATTS := ⟨_, PySem.W.mg_of X G v_WATTS⟩
    len := PySem.W.mg_none_of X G b_len
    range := PySem.W.mg_none_of X G b_range
    list := PySem.W.mg_none_of X G b_list
    enum := PySem.W.mg_none_of X G b_enum
    zip := PySem.W.mg_none_of X G b_zip
    all := PySem.W.mg_none_of X G b_all
    abs := PySem.W.mg_none_of X G b_abs
    LM := PySem.W.mg_of X G a_LM
    LMt := fun H => .inr ⟨_, _, _, l_LM, rfl, rfl, by show 3 ≤ sizeLine; decide, (.cons ⟨_, rfl⟩ (.cons ⟨_, rfl⟩ (.cons ⟨_, rfl⟩ .nil)))⟩
    NB := PySem.W.mg_of X G a_NB
    NBt := fun H => .inr ⟨_, _, _, l_NB, rfl, rfl, by show 9 ≤ sizeLine; decide, (.cons ⟨_, rfl⟩ (.cons ⟨_, rfl⟩ (.cons ⟨_, rfl⟩ (.cons ⟨_, rfl⟩ (.cons ⟨_, rfl⟩ (.cons ⟨_, rfl⟩ (.cons ⟨_, rfl⟩ (.cons ⟨_, rfl⟩ (.cons ⟨_, rfl⟩ .nil)))))))))⟩
    isNC := ⟨_, _, PySem.W.mg_of X G a_isNC, fun_mk (st := dIsNC) l_isNC c_isNC k_isNC, (fun_mk (st := dIsNC) l_isNC c_isNC k_isNC).binds (ps := ["number"]) fun _ _ _ _ _ _ us hl => match us, hl with | [_], _ => rfl⟩
    isKind := ⟨_, _, PySem.W.mg_of X G a_isKind, fun_mk (st := dIsKind) l_isKind c_isKind k_isKind, (fun_mk (st := dIsKind) l_isKind c_isKind k_isKind).binds (ps := ["number"]) fun _ _ _ _ _ _ us hl => match us, hl with | [_], _ => rfl⟩
    isMuch := ⟨_, _, PySem.W.mg_of X G a_isMuch, fun_mk (st := dIsMuch) l_isMuch c_isMuch k_isMuch, (fun_mk (st := dIsMuch) l_isMuch c_isMuch k_isMuch).binds (ps := ["kind", "number"]) fun _ _ _ _ _ _ us hl => match us, hl with | [_, _], _ => rfl⟩
    ofKind := ⟨_, _, PySem.W.mg_of X G a_ofKind, fun_mk (st := dOfKind) l_ofKind c_ofKind k_ofKind, (fun_mk (st := dOfKind) l_ofKind c_ofKind k_ofKind).binds (ps := ["net", "kind"]) fun _ _ _ _ _ _ us hl => match us, hl with | [_, _], _ => rfl⟩
    joined := ⟨_, _, PySem.W.mg_of X G a_joined, fun_mk (st := dJoined) l_joined c_joined k_joined, (fun_mk (st := dJoined) l_joined c_joined k_joined).binds (ps := ["groups", "a", "b"]) fun _ _ _ _ _ _ us hl => match us, hl with | [_, _, _], _ => rfl⟩
    one := ⟨_, _, PySem.W.mg_of X G a_one, fun_mk (st := dOne) l_one c_one k_one, (fun_mk (st := dOne) l_one c_one k_one).binds (ps := ["net"]) fun _ _ _ _ _ _ us hl => match us, hl with | [_], _ => rfl⟩
    lead := ⟨_, _, PySem.W.mg_of X G a_lead, fun_mk (st := dLead) l_lead c_lead k_lead, (fun_mk (st := dLead) l_lead c_lead k_lead).binds (ps := ["rows", "column"]) fun _ _ _ _ _ _ us hl => match us, hl with | [_, _], _ => rfl⟩
    cleared := ⟨_, _, PySem.W.mg_of X G a_cleared, fun_mk (st := dCleared) l_cleared c_cleared k_cleared, (fun_mk (st := dCleared) l_cleared c_cleared k_cleared).binds (ps := ["row", "lead", "column", "last"]) fun _ _ _ _ _ _ us hl => match us, hl with | [_, _, _, _], _ => rfl⟩
    solved := ⟨_, _, PySem.W.mg_of X G a_solved, fun_mk (st := dSolved) l_solved c_solved k_solved, (fun_mk (st := dSolved) l_solved c_solved k_solved).binds (ps := ["rows"]) fun _ _ _ _ _ _ us hl => match us, hl with | [_], _ => rfl⟩
    places := ⟨_, _, PySem.W.mg_of X G a_places, fun_mk (st := dPlaces) l_places c_places k_places, (fun_mk (st := dPlaces) l_places c_places k_places).binds (ps := ["net"]) fun _ _ _ _ _ _ us hl => match us, hl with | [_], _ => rfl⟩
    empty := ⟨_, _, PySem.W.mg_of X G a_empty, fun_mk (st := dEmpty) l_empty c_empty k_empty, (fun_mk (st := dEmpty) l_empty c_empty k_empty).binds (ps := ["net", "places"]) fun _ _ _ _ _ _ us hl => match us, hl with | [_, _], _ => rfl⟩
    ground := ⟨_, _, PySem.W.mg_of X G a_ground, fun_mk (st := dGround) l_ground c_ground k_ground, (fun_mk (st := dGround) l_ground c_ground k_ground).binds (ps := ["net", "places"]) fun _ _ _ _ _ _ us hl => match us, hl with | [_, _], _ => rfl⟩
    source := ⟨_, _, PySem.W.mg_of X G a_source, fun_mk (st := dSource) l_source c_source k_source, (fun_mk (st := dSource) l_source c_source k_source).binds (ps := ["net", "places", "number"]) fun _ _ _ _ _ _ us hl => match us, hl with | [_, _, _], _ => rfl⟩
    ohms := ⟨_, _, PySem.W.mg_of X G a_ohms, fun_mk (st := dOhms) l_ohms c_ohms k_ohms, (fun_mk (st := dOhms) l_ohms c_ohms k_ohms).binds (ps := ["net", "node"]) fun _ _ _ _ _ _ us hl => match us, hl with | [_, _], _ => rfl⟩
    node := ⟨_, _, PySem.W.mg_of X G a_node, fun_mk (st := dNode) l_node c_node k_node, (fun_mk (st := dNode) l_node c_node k_node).binds (ps := ["net", "places", "node"]) fun _ _ _ _ _ _ us hl => match us, hl with | [_, _, _], _ => rfl⟩
    rows := ⟨_, _, PySem.W.mg_of X G a_rows, fun_mk (st := dRows) l_rows c_rows k_rows, (fun_mk (st := dRows) l_rows c_rows k_rows).binds (ps := ["net"]) fun _ _ _ _ _ _ us hl => match us, hl with | [_], _ => rfl⟩
    gcd := ⟨_, _, PySem.W.mg_of X G a_gcd, fun_mk (st := dGcd) l_gcd c_gcd k_gcd, (fun_mk (st := dGcd) l_gcd c_gcd k_gcd).binds (ps := ["x", "y"]) fun _ _ _ _ _ _ us hl => match us, hl with | [_, _], _ => rfl⟩
    bytes := ⟨_, _, PySem.W.mg_of X G a_bytes, fun_mk (st := dBytes) l_bytes c_bytes k_bytes, (fun_mk (st := dBytes) l_bytes c_bytes k_bytes).binds (ps := ["number"]) fun _ _ _ _ _ _ us hl => match us, hl with | [_], _ => rfl⟩
    told := ⟨_, _, PySem.W.mg_of X G a_told, fun_mk (st := dTold) l_told c_told k_told, (fun_mk (st := dTold) l_told c_told k_told).binds (ps := ["fraction"]) fun _ _ _ _ _ _ us hl => match us, hl with | [_], _ => rfl⟩
    voltsA := ⟨_, _, PySem.W.mg_of X G a_voltsA, fun_mk (st := dVoltsA) l_voltsA c_voltsA k_voltsA, (fun_mk (st := dVoltsA) l_voltsA c_voltsA k_voltsA).binds (ps := ["net", "node"]) fun _ _ _ _ _ _ us hl => match us, hl with | [_, _], _ => rfl⟩
    ampsA := ⟨_, _, PySem.W.mg_of X G a_ampsA, fun_mk (st := dAmpsA) l_ampsA c_ampsA k_ampsA, (fun_mk (st := dAmpsA) l_ampsA c_ampsA k_ampsA).binds (ps := ["net", "number"]) fun _ _ _ _ _ _ us hl => match us, hl with | [_, _], _ => rfl⟩
    wattsA := ⟨_, _, PySem.W.mg_of X G a_wattsA, fun_mk (st := dWattsA) l_wattsA c_wattsA k_wattsA, (fun_mk (st := dWattsA) l_wattsA c_wattsA k_wattsA).binds (ps := ["net", "number"]) fun _ _ _ _ _ _ us hl => match us, hl with | [_, _], _ => rfl⟩
    betNet := ⟨_, _, PySem.W.mg_of X G a_betNet, fun_mk (st := dBetNet) l_betNet c_betNet k_betNet, (fun_mk (st := dBetNet) l_betNet c_betNet k_betNet).binds (ps := ["net", "a", "b"]) fun _ _ _ _ _ _ us hl => match us, hl with | [_, _, _], _ => rfl⟩
    betA := ⟨_, _, PySem.W.mg_of X G a_betA, fun_mk (st := dBetA) l_betA c_betA k_betA, (fun_mk (st := dBetA) l_betA c_betA k_betA).binds (ps := ["net", "a", "b"]) fun _ _ _ _ _ _ us hl => match us, hl with | [_, _, _], _ => rfl⟩
    hasNode := ⟨_, _, ⟨a_hasNode, i_hasNode, k_hasNode⟩, fun_mk (st := dHasNode) l_hasNode c_hasNode k_hasNode, (fun_mk (st := dHasNode) l_hasNode c_hasNode k_hasNode).binds (ps := ["self", "number"]) (fun _ _ _ _ _ _ us hl => match us, hl with | [_, _], _ => rfl)⟩
    hasPart := ⟨_, _, ⟨a_hasPart, i_hasPart, k_hasPart⟩, fun_mk (st := dHasPart) l_hasPart c_hasPart k_hasPart, (fun_mk (st := dHasPart) l_hasPart c_hasPart k_hasPart).binds (ps := ["self", "number"]) (fun _ _ _ _ _ _ us hl => match us, hl with | [_, _], _ => rfl)⟩
    hasTwo := ⟨_, _, ⟨a_hasTwo, i_hasTwo, k_hasTwo⟩, fun_mk (st := dHasTwo) l_hasTwo c_hasTwo k_hasTwo, (fun_mk (st := dHasTwo) l_hasTwo c_hasTwo k_hasTwo).binds (ps := ["self", "a", "b"]) (fun _ _ _ _ _ _ us hl => match us, hl with | [_, _, _], _ => rfl)⟩
    addPart := ⟨_, _, ⟨a_addPart, i_addPart, k_addPart⟩, fun_mk (st := dAddPart) l_addPart c_addPart k_addPart, (fun_mk (st := dAddPart) l_addPart c_addPart k_addPart).binds (ps := ["self", "kind", "a", "b", "much"]) (fun _ _ _ _ _ _ us hl => match us, hl with | [_, _, _, _, _], _ => rfl)⟩
    change := ⟨_, _, ⟨a_change, i_change, k_change⟩, fun_mk (st := dChange) l_change c_change k_change, (fun_mk (st := dChange) l_change c_change k_change).binds (ps := ["self", "number", "much"]) (fun _ _ _ _ _ _ us hl => match us, hl with | [_, _, _], _ => rfl)⟩
    solV := ⟨_, _, ⟨a_solV, i_solV, k_solV⟩, fun_mk (st := dSolV) l_solV c_solV k_solV, (fun_mk (st := dSolV) l_solV c_solV k_solV).binds (ps := ["self", "node"]) (fun _ _ _ _ _ _ us hl => match us, hl with | [_, _], _ => rfl)⟩
    solB := ⟨_, _, ⟨a_solB, i_solB, k_solB⟩, fun_mk (st := dSolB) l_solB c_solB k_solB, (fun_mk (st := dSolB) l_solB c_solB k_solB).binds (ps := ["self", "a", "b"]) (fun _ _ _ _ _ _ us hl => match us, hl with | [_, _, _], _ => rfl)⟩
    solA := ⟨_, _, ⟨a_solA, i_solA, k_solA⟩, fun_mk (st := dSolA) l_solA c_solA k_solA, (fun_mk (st := dSolA) l_solA c_solA k_solA).binds (ps := ["self", "number"]) (fun _ _ _ _ _ _ us hl => match us, hl with | [_, _], _ => rfl)⟩
    solW := ⟨_, _, ⟨a_solW, i_solW, k_solW⟩, fun_mk (st := dSolW) l_solW c_solW k_solW, (fun_mk (st := dSolW) l_solW c_solW k_solW).binds (ps := ["self", "number"]) (fun _ _ _ _ _ _ us hl => match us, hl with | [_, _], _ => rfl)⟩
    answer := ⟨_, _, ⟨a_answer, i_answer, k_answer⟩, fun_mk (st := dAnswer) l_answer c_answer k_answer, (fun_mk (st := dAnswer) l_answer c_answer k_answer).binds (ps := ["self", "call", "numbers"]) (fun _ _ _ _ _ _ us hl => match us, hl with | [_, _, _], _ => rfl)⟩
    lay := ⟨_, _, ⟨a_lay, i_lay, k_lay⟩, fun_mk (st := dLay) l_lay c_lay k_lay, (fun_mk (st := dLay) l_lay c_lay k_lay).binds (ps := ["self", "node_count"]) (fun _ _ _ _ _ _ us hl => match us, hl with | [_, _], _ => rfl)⟩
    inNet := ⟨_, _, ⟨a_inNet, i_inNet, k_inNet⟩, fun_mk (st := dInNet) l_inNet c_inNet k_inNet, (fun_mk (st := dInNet) l_inNet c_inNet k_inNet).binds (ps := ["self", "call", "numbers"]) (fun _ _ _ _ _ _ us hl => match us, hl with | [_, _, _], _ => rfl)⟩
    measure := ⟨_, _, ⟨a_measure, i_measure, k_measure⟩, fun_mk (st := dMeasure) l_measure c_measure k_measure, (fun_mk (st := dMeasure) l_measure c_measure k_measure).binds (ps := ["self", "call", "numbers"]) (fun _ _ _ _ _ _ us hl => match us, hl with | [_, _, _], _ => rfl)⟩
    partI := ⟨⟨_, _, ⟨mk_cPart, a_partI, i_partI, kc_cPart⟩, fun_mk (st := dPartI) l_partI c_partI k_partI, (fun_mk (st := dPartI) l_partI c_partI k_partI).binds (ps := ["self", "kind", "a", "b", "much"]) (fun _ _ _ _ _ _ us hl => match us, hl with | [_, _, _, _, _], _ => rfl)⟩, PySem.W.mg_of X G a_cPart⟩
    netI := ⟨⟨_, _, ⟨mk_cNet, a_netI, i_netI, kc_cNet⟩, fun_mk (st := dNetI) l_netI c_netI k_netI, (fun_mk (st := dNetI) l_netI c_netI k_netI).binds (ps := ["self", "node_count"]) (fun _ _ _ _ _ _ us hl => match us, hl with | [_, _], _ => rfl)⟩, PySem.W.mg_of X G a_cNet⟩
    solI := ⟨⟨_, _, ⟨mk_cSol, a_solI, i_solI, kc_cSol⟩, fun_mk (st := dSolI) l_solI c_solI k_solI, (fun_mk (st := dSolI) l_solI c_solI k_solI).binds (ps := ["self", "net"]) (fun _ _ _ _ _ _ us hl => match us, hl with | [_, _], _ => rfl)⟩, PySem.W.mg_of X G a_cSol⟩
    lineI := ⟨⟨_, _, ⟨mk_cLine, a_lineI, i_lineI, kc_cLine⟩, fun_mk (st := dLineI) l_lineI c_lineI k_lineI, (fun_mk (st := dLineI) l_lineI c_lineI k_lineI).binds (ps := ["self"]) (fun _ _ _ _ _ _ us hl => match us, hl with | [_], _ => rfl)⟩, PySem.W.mg_of X G a_cLine⟩ }
  exact ⟨_, fun s us hu => match us, hu with | [_], _ => .of_eq rfl, fun base _ _ => ok_answersF T (fun_mk (st := dAnswers) l_ans c_ans k_ans)⟩
end Rp
open PySem PySem.W PyProof.Rows
/-! The names of the quick twins of the head's largest lists are taken here, so that none is laid for them: the lists are read as they stand. Their equations alone would make the compiled file larger than a hand-in may be. -/
def PySem.W.Fast.tw12932768490206859872 : Unit := ()
def PySem.W.Fast.tw10121167227734884823 : Unit := ()
def PySem.W.Fast.tw2951786712923196187 : Unit := ()
def PySem.W.Fast.tw5165505938867670117 : Unit := ()
def PySem.W.Fast.tw9485746868850972466 : Unit := ()
def PySem.W.Fast.tw6165205269952527841 : Unit := ()
def PySem.W.Fast.tw1553258641333367468 : Unit := ()
def PySem.W.Fast.tw4216800498581997475 : Unit := ()
def PySem.W.Fast.tw17305632264340106391 : Unit := ()
def PySem.W.Fast.tw16899370925161269921 : Unit := ()
set_option maxRecDepth 100000 in
set_option maxHeartbeats 0 in
theorem PySem.Challenge.cw_resistornets_s01_answers_holds : PySem.Challenge.rw_resistornets_s01_answers.Holds := by
  w_on; k_headS; (case hw => exact ⟨[.list [.int 0]], by decide +kernel, by decide +kernel⟩)
  k_fillS
  refine L2.walk_specK (r := PySem.Challenge.rw_resistornets_s01_answers) (k := 10) (CX := L2.CX0) (ps := ["calls"]) (sp := Rp.spAnswers) (by decide +kernel) rfl rfl ⟨rfl, by decide, by decide⟩ (fun w h Y => PySem.W.kIn_of Y) ?F ?S (fun _ _ _ _ z => z)
  case F =>
    intro w mg fa h Y KX G hmg
    refine' Rp.all_mk KX G hmg ?a_cPart ?a_cNet ?a_cSol ?a_cLine ?a_LM ?a_NB ?a_isNC ?a_isKind ?a_isMuch ?a_ofKind ?a_joined ?a_one ?a_lead ?a_cleared ?a_solved ?a_places ?a_empty ?a_ground ?a_source ?a_ohms ?a_node ?a_rows ?a_gcd ?a_bytes ?a_told ?a_voltsA ?a_ampsA ?a_wattsA ?a_betNet ?a_betA ?a_hasNode ?a_hasPart ?a_hasTwo ?a_addPart ?a_change ?a_solV ?a_solB ?a_solA ?a_solW ?a_answer ?a_lay ?a_inNet ?a_measure ?a_partI ?a_netI ?a_solI ?a_lineI ?a_ans ?l_LM ?l_NB ?l_isNC ?l_isKind ?l_isMuch ?l_ofKind ?l_joined ?l_one ?l_lead ?l_cleared ?l_solved ?l_places ?l_empty ?l_ground ?l_source ?l_ohms ?l_node ?l_rows ?l_gcd ?l_bytes ?l_told ?l_voltsA ?l_ampsA ?l_wattsA ?l_betNet ?l_betA ?l_hasNode ?l_hasPart ?l_hasTwo ?l_addPart ?l_change ?l_solV ?l_solB ?l_solA ?l_solW ?l_answer ?l_lay ?l_inNet ?l_measure ?l_partI ?l_netI ?l_solI ?l_lineI ?l_ans ?pg_cPart ?hd_cPart ?po_cPart ?sa_cPart ?mk_cPart ?kc_cPart ?pg_cNet ?hd_cNet ?po_cNet ?sa_cNet ?mk_cNet ?kc_cNet ?pg_cSol ?hd_cSol ?po_cSol ?sa_cSol ?mk_cSol ?kc_cSol ?pg_cLine ?hd_cLine ?po_cLine ?sa_cLine ?mk_cLine ?kc_cLine ?na_nKind ?na_nA ?na_nB ?na_nMuch ?na_nNC ?na_nParts ?na_nNet ?na_nDivided ?na_nDivisor ?na_lNet ?v_WN ?v_NR ?v_NO ?v_NN ?v_RE ?v_SV ?v_SA ?v_MM ?v_LN ?v_MN ?v_MP ?v_BY ?v_BEGIN ?v_NODES ?v_PART ?v_CHANGE ?v_SOLVE ?v_VOLTS ?v_AMPERES ?v_WATTS ?b_len ?b_range ?b_list ?b_enum ?b_zip ?b_all ?b_abs ?c_isNC ?k_isNC ?c_isKind ?k_isKind ?c_isMuch ?k_isMuch ?c_ofKind ?k_ofKind ?c_joined ?k_joined ?c_one ?k_one ?c_lead ?k_lead ?c_cleared ?k_cleared ?c_solved ?k_solved ?c_places ?k_places ?c_empty ?k_empty ?c_ground ?k_ground ?c_source ?k_source ?c_ohms ?k_ohms ?c_node ?k_node ?c_rows ?k_rows ?c_gcd ?k_gcd ?c_bytes ?k_bytes ?c_told ?k_told ?c_voltsA ?k_voltsA ?c_ampsA ?k_ampsA ?c_wattsA ?k_wattsA ?c_betNet ?k_betNet ?c_betA ?k_betA ?c_hasNode ?k_hasNode ?i_hasNode ?c_hasPart ?k_hasPart ?i_hasPart ?c_hasTwo ?k_hasTwo ?i_hasTwo ?c_addPart ?k_addPart ?i_addPart ?c_change ?k_change ?i_change ?c_solV ?k_solV ?i_solV ?c_solB ?k_solB ?i_solB ?c_solA ?k_solA ?i_solA ?c_solW ?k_solW ?i_solW ?c_answer ?k_answer ?i_answer ?c_lay ?k_lay ?i_lay ?c_inNet ?k_inNet ?i_inNet ?c_measure ?k_measure ?i_measure ?c_partI ?k_partI ?i_partI ?c_netI ?k_netI ?i_netI ?c_solI ?k_solI ?i_solI ?c_lineI ?k_lineI ?i_lineI ?c_ans ?k_ans
    (case a_cPart => k_is)
    (case a_cNet => k_is)
    (case a_cSol => k_is)
    (case a_cLine => k_is)
    (case a_LM => k_is)
    (case a_NB => k_is)
    (case a_isNC => k_is)
    (case a_isKind => k_is)
    (case a_isMuch => k_is)
    (case a_ofKind => k_is)
    (case a_joined => k_is)
    (case a_one => k_is)
    (case a_lead => k_is)
    (case a_cleared => k_is)
    (case a_solved => k_is)
    (case a_places => k_is)
    (case a_empty => k_is)
    (case a_ground => k_is)
    (case a_source => k_is)
    (case a_ohms => k_is)
    (case a_node => k_is)
    (case a_rows => k_is)
    (case a_gcd => k_is)
    (case a_bytes => k_is)
    (case a_told => k_is)
    (case a_voltsA => k_is)
    (case a_ampsA => k_is)
    (case a_wattsA => k_is)
    (case a_betNet => k_is)
    (case a_betA => k_is)
    (case a_hasNode => k_is)
    (case a_hasPart => k_is)
    (case a_hasTwo => k_is)
    (case a_addPart => k_is)
    (case a_change => k_is)
    (case a_solV => k_is)
    (case a_solB => k_is)
    (case a_solA => k_is)
    (case a_solW => k_is)
    (case a_answer => k_is)
    (case a_lay => k_is)
    (case a_inNet => k_is)
    (case a_measure => k_is)
    (case a_partI => k_is)
    (case a_netI => k_is)
    (case a_solI => k_is)
    (case a_lineI => k_is)
    (case a_ans => k_is)
    (case l_LM => k_is)
    (case l_NB => k_is)
    (case l_isNC => k_is)
    (case l_isKind => k_is)
    (case l_isMuch => k_is)
    (case l_ofKind => k_is)
    (case l_joined => k_is)
    (case l_one => k_is)
    (case l_lead => k_is)
    (case l_cleared => k_is)
    (case l_solved => k_is)
    (case l_places => k_is)
    (case l_empty => k_is)
    (case l_ground => k_is)
    (case l_source => k_is)
    (case l_ohms => k_is)
    (case l_node => k_is)
    (case l_rows => k_is)
    (case l_gcd => k_is)
    (case l_bytes => k_is)
    (case l_told => k_is)
    (case l_voltsA => k_is)
    (case l_ampsA => k_is)
    (case l_wattsA => k_is)
    (case l_betNet => k_is)
    (case l_betA => k_is)
    (case l_hasNode => k_is)
    (case l_hasPart => k_is)
    (case l_hasTwo => k_is)
    (case l_addPart => k_is)
    (case l_change => k_is)
    (case l_solV => k_is)
    (case l_solB => k_is)
    (case l_solA => k_is)
    (case l_solW => k_is)
    (case l_answer => k_is)
    (case l_lay => k_is)
    (case l_inNet => k_is)
    (case l_measure => k_is)
    (case l_partI => k_is)
    (case l_netI => k_is)
    (case l_solI => k_is)
    (case l_lineI => k_is)
    (case l_ans => k_is)
    (case pg_cPart => k_is)
    (case hd_cPart => k_is)
    (case po_cPart => k_is)
    (case sa_cPart => k_is)
    (case mk_cPart => k_is)
    (case kc_cPart => k_is)
    (case pg_cNet => k_is)
    (case hd_cNet => k_is)
    (case po_cNet => k_is)
    (case sa_cNet => k_is)
    (case mk_cNet => k_is)
    (case kc_cNet => k_is)
    (case pg_cSol => k_is)
    (case hd_cSol => k_is)
    (case po_cSol => k_is)
    (case sa_cSol => k_is)
    (case mk_cSol => k_is)
    (case kc_cSol => k_is)
    (case pg_cLine => k_is)
    (case hd_cLine => k_is)
    (case po_cLine => k_is)
    (case sa_cLine => k_is)
    (case mk_cLine => k_is)
    (case kc_cLine => k_is)
    (case na_nKind => k_is)
    (case na_nA => k_is)
    (case na_nB => k_is)
    (case na_nMuch => k_is)
    (case na_nNC => k_is)
    (case na_nParts => k_is)
    (case na_nNet => k_is)
    (case na_nDivided => k_is)
    (case na_nDivisor => k_is)
    (case na_lNet => k_is)
    (case v_WN => k_is)
    (case v_NR => k_is)
    (case v_NO => k_is)
    (case v_NN => k_is)
    (case v_RE => k_is)
    (case v_SV => k_is)
    (case v_SA => k_is)
    (case v_MM => k_is)
    (case v_LN => k_is)
    (case v_MN => k_is)
    (case v_MP => k_is)
    (case v_BY => k_is)
    (case v_BEGIN => k_is)
    (case v_NODES => k_is)
    (case v_PART => k_is)
    (case v_CHANGE => k_is)
    (case v_SOLVE => k_is)
    (case v_VOLTS => k_is)
    (case v_AMPERES => k_is)
    (case v_WATTS => k_is)
    (case b_len => k_is)
    (case b_range => k_is)
    (case b_list => k_is)
    (case b_enum => k_is)
    (case b_zip => k_is)
    (case b_all => k_is)
    (case b_abs => k_is)
    (case c_isNC => k_is)
    (case k_isNC => k_is)
    (case c_isKind => k_is)
    (case k_isKind => k_is)
    (case c_isMuch => k_is)
    (case k_isMuch => k_is)
    (case c_ofKind => k_is)
    (case k_ofKind => k_is)
    (case c_joined => k_is)
    (case k_joined => k_is)
    (case c_one => k_is)
    (case k_one => k_is)
    (case c_lead => k_is)
    (case k_lead => k_is)
    (case c_cleared => k_is)
    (case k_cleared => k_is)
    (case c_solved => k_is)
    (case k_solved => k_is)
    (case c_places => k_is)
    (case k_places => k_is)
    (case c_empty => k_is)
    (case k_empty => k_is)
    (case c_ground => k_is)
    (case k_ground => k_is)
    (case c_source => k_is)
    (case k_source => k_is)
    (case c_ohms => k_is)
    (case k_ohms => k_is)
    (case c_node => k_is)
    (case k_node => k_is)
    (case c_rows => k_is)
    (case k_rows => k_is)
    (case c_gcd => k_is)
    (case k_gcd => k_is)
    (case c_bytes => k_is)
    (case k_bytes => k_is)
    (case c_told => k_is)
    (case k_told => k_is)
    (case c_voltsA => k_is)
    (case k_voltsA => k_is)
    (case c_ampsA => k_is)
    (case k_ampsA => k_is)
    (case c_wattsA => k_is)
    (case k_wattsA => k_is)
    (case c_betNet => k_is)
    (case k_betNet => k_is)
    (case c_betA => k_is)
    (case k_betA => k_is)
    (case c_hasNode => k_is)
    (case k_hasNode => k_is)
    (case i_hasNode => k_is)
    (case c_hasPart => k_is)
    (case k_hasPart => k_is)
    (case i_hasPart => k_is)
    (case c_hasTwo => k_is)
    (case k_hasTwo => k_is)
    (case i_hasTwo => k_is)
    (case c_addPart => k_is)
    (case k_addPart => k_is)
    (case i_addPart => k_is)
    (case c_change => k_is)
    (case k_change => k_is)
    (case i_change => k_is)
    (case c_solV => k_is)
    (case k_solV => k_is)
    (case i_solV => k_is)
    (case c_solB => k_is)
    (case k_solB => k_is)
    (case i_solB => k_is)
    (case c_solA => k_is)
    (case k_solA => k_is)
    (case i_solA => k_is)
    (case c_solW => k_is)
    (case k_solW => k_is)
    (case i_solW => k_is)
    (case c_answer => k_is)
    (case k_answer => k_is)
    (case i_answer => k_is)
    (case c_lay => k_is)
    (case k_lay => k_is)
    (case i_lay => k_is)
    (case c_inNet => k_is)
    (case k_inNet => k_is)
    (case i_inNet => k_is)
    (case c_measure => k_is)
    (case k_measure => k_is)
    (case i_measure => k_is)
    (case c_partI => k_is)
    (case k_partI => k_is)
    (case i_partI => k_is)
    (case c_netI => k_is)
    (case k_netI => k_is)
    (case i_netI => k_is)
    (case c_solI => k_is)
    (case k_solI => k_is)
    (case i_solI => k_is)
    (case c_lineI => k_is)
    (case k_lineI => k_is)
    (case i_lineI => k_is)
    (case c_ans => k_is)
    (case k_ans => k_is)
  case S =>
    intro K H xs a hO hwi hask hx
    cases hx with
    | cons h1 h2 =>
      cases h2
      cases h1 with
      | lst hs ha =>
        have e := L2.ints_dw a.1 _ ha
        subst e
        have q : ((Codec.inLen 0 30000 a.1 && a.1.all (Codec.inInt (Int.negSucc 2147483647) (Int.ofNat 2147483647))) && true) = true := hwi
        rw [Bool.and_eq_true, Bool.and_eq_true] at q
        exact ⟨_, a.1, rfl, hO, hs, (Codec.inNat_iff.mp q.1.1).2, hask, fun H' p hp => .lst (L2.SqL.of hp) (L2.dw_ints _)⟩
