import PyProof.Rows.All
import Wide.All
import OpenK.AllK
import Wide.FinOn
import PyProof.EqAt
import PyProof.EqKinds
import PyProof.TupleCall
import KE.BitLaws
import PyProof.RulesAs
import PyProof.RaisesMany
import PyProof.ExcInit
import PyProof.ExcArgsOwn
import PyProof.InstStore
import PyProof.ExcBaseAll.Exception
import PyProof.ExcAttrAll.Exception
import PyProof.InstStoreFacts
import KE.OsGo
import Open.SpecLaws
import KE.KItemsList
import KE.KSortTupG
import PySem.Challenge.RW_goingon_s08_few_product

set_option Elab.async false
set_option linter.all false
set_option maxRecDepth 100000
namespace L2
open PySem PySem.Spec PyProof.Rows
abbrev Key := Sum Int Str
def keyIs : Key → Value → Bool
  | .inl k, v => Value.isInt k v
  | .inr x, v => Value.isStrOf x v
def keyH (w : World) : Key → Int
  | .inl k => hashInt k
  | .inr x => hashStr w x
theorem keyIs_shape : ∀ {k : Key} {v : Value}, keyIs k v = true → (∃ i t, k = Sum.inl i ∧ v = Value.int i t) ∨ (∃ x t, k = Sum.inr x ∧ v = Value.str x t)
  | .inl i, v, h => by
    obtain ⟨t, e⟩ := Value.isInt_shape (k := i) (v := v) h
    exact .inl ⟨i, t, rfl, e⟩
  | .inr x, v, h => by
    obtain ⟨t, e⟩ := Value.isStrOf_shape (x := x) (v := v) h
    exact .inr ⟨x, t, rfl, e⟩
theorem keyIs_int (i : Int) (t : Tok) : keyIs (.inl i) (.int i t) = true := by simp [keyIs, Value.isInt]
theorem keyIs_str (x : Str) (t : Tok) : keyIs (.inr x) (.str x t) = true := by simp [keyIs, Value.isStrOf]
theorem key_ll (a b : Int) : decide ((Sum.inl a : Key) = Sum.inl b) = (a == b) := by
  by_cases e : a = b
  · subst e; simp
  · have h : ¬ (Sum.inl a : Key) = Sum.inl b := fun q => e (Sum.inl.inj q)
    rw [decide_eq_false h]
    exact (beq_eq_false_iff_ne.mpr e).symm
theorem key_rr (a b : Str) : decide ((Sum.inr a : Key) = Sum.inr b) = decide (a = b) := by
  by_cases e : a = b
  · subst e; simp
  · have h : ¬ (Sum.inr a : Key) = Sum.inr b := fun q => e (Sum.inr.inj q)
    rw [decide_eq_false h, decide_eq_false e]
theorem key_lr (a : Int) (b : Str) : decide ((Sum.inl a : Key) = Sum.inr b) = false := decide_eq_false (fun q => nomatch q)
theorem key_rl (a : Str) (b : Int) : decide ((Sum.inr a : Key) = Sum.inl b) = false := decide_eq_false (fun q => nomatch q)
def mixKind (prog : Program) (w : World) : PySem.KeyKind prog w Key where
  is := keyIs
  hash := keyH w
  inj := fun v a b ha hb => by
    rcases keyIs_shape ha with ⟨i, t, rfl, rfl⟩ | ⟨x, t, rfl, rfl⟩
    · rcases keyIs_shape hb with ⟨j, u, rfl, e⟩ | ⟨y, u, rfl, e⟩
      · injection e with e1 _; rw [e1]
      · exact nomatch e
    · rcases keyIs_shape hb with ⟨j, u, rfl, e⟩ | ⟨y, u, rfl, e⟩
      · exact nomatch e
      · injection e with e1 _; rw [e1]
  byValue := fun k v h => by
    rcases keyIs_shape h with ⟨i, t, rfl, rfl⟩ | ⟨x, t, rfl, rfl⟩ <;> rfl
  pyHash := fun hv h => by
    rcases keyIs_shape hv with ⟨i, t, rfl, rfl⟩ | ⟨x, t, rfl, rfl⟩
    · exact wpAny_pyHash_int h
    · exact wpAny_pyHash_str h
  eqBool := fun hu hv h => by
    rcases keyIs_shape hu with ⟨i, t, rfl, rfl⟩ | ⟨x, t, rfl, rfl⟩
    · rcases keyIs_shape hv with ⟨j, u, rfl, rfl⟩ | ⟨y, u, rfl, rfl⟩
      · rw [key_ll] at h; exact wpAny_eqBool_int h
      · rw [key_lr] at h; exact SeqAt.EqAt.int_str i t y u _ _ _ _ h
    · rcases keyIs_shape hv with ⟨j, u, rfl, rfl⟩ | ⟨y, u, rfl, rfl⟩
      · rw [key_rl] at h; exact SeqAt.EqAt.str_int x t j u _ _ _ _ h
      · rw [key_rr] at h; exact wpAny_eqBool_str h
  «strs» := fun k x t v h => by
    rcases keyIs_shape h with ⟨i, u, rfl, e⟩ | ⟨y, u, rfl, e⟩
    · exact nomatch e
    · injection e with e1 _
      subst e1
      cases v <;> rfl
theorem mixKind_int (prog : Program) (w : World) (i : Int) (t : Tok) : (mixKind prog w).is (.inl i) (.int i t) = true := keyIs_int i t
theorem mixKind_str (prog : Program) (w : World) (x : Str) (t : Tok) : (mixKind prog w).is (.inr x) (.str x t) = true := keyIs_str x t
end L2
namespace L2
open PySem PySem.Spec PyProof.Rows
inductive V where
  | non | bl (b : Bool) | int (i : Int) | str (x : Str) | byt (b : Array UInt8) | flt (b : UInt64) | ref (a : Addr) | ty (n : String)
  deriving DecidableEq
def RelV : V → Value → Prop
  | .non, u => u = Value.none
  | .bl b, u => u = Value.bool b
  | .int i, u => ∃ t, u = Value.int i t
  | .str x, u => ∃ t, u = Value.str x t
  | .byt b, u => ∃ t, u = Value.bytes b t
  | .flt b, u => ∃ t, u = Value.float b t
  | .ref a, u => u = Value.ref a
  | .ty n, u => u = Value.type n
abbrev Vals : List V → List Value → Prop := Paired RelV
theorem Vals.length {xs : List V} {us : List Value} (r : Vals xs us) : xs.length = us.length := Paired.length r
theorem Vals.get : ∀ {xs : List V} {us : List Value} {i : Nat} {x : V}, Vals xs us → xs[i]? = some x → ∃ u, us[i]? = some u ∧ RelV x u
  | _, _, _, _, .nil, e => by simp at e
  | _, _, 0, _, .cons r _, e => by simp at e; subst e; exact ⟨_, rfl, r⟩
  | _, _, i + 1, x, .cons _ t, e => by
    obtain ⟨u, h1, h2⟩ := Vals.get (i := i) (x := x) t (by simpa using e)
    exact ⟨u, by simpa using h1, h2⟩
theorem Vals.set {x : V} {u : Value} (r : RelV x u) : ∀ {xs : List V} {us : List Value} (i : Nat), Vals xs us → Vals (xs.set i x) (us.set i u)
  | _, _, _, .nil => .nil
  | _, _, 0, .cons _ t => .cons r t
  | _, _, i + 1, .cons q t => .cons q (Vals.set r i t)
theorem Vals.append : ∀ {xs ys : List V} {us ws : List Value}, Vals xs us → Vals ys ws → Vals (xs ++ ys) (us ++ ws)
  | _, _, _, _, .nil, s => s
  | _, _, _, _, .cons r t, s => .cons r (Vals.append t s)
theorem Vals.take : ∀ {xs : List V} {us : List Value} (n : Nat), Vals xs us → Vals (xs.take n) (us.take n)
  | _, _, 0, _ => .nil
  | _, _, _ + 1, .nil => .nil
  | _, _, n + 1, .cons r t => .cons r (Vals.take n t)
theorem Vals.drop : ∀ {xs : List V} {us : List Value} (n : Nat), Vals xs us → Vals (xs.drop n) (us.drop n)
  | _, _, 0, r => r
  | _, _, _ + 1, .nil => .nil
  | _, _, n + 1, .cons _ t => Vals.drop n t
def RelO : Option V → Option Value → Prop
  | some v, some u => RelV v u
  | none, none => True
  | _, _ => False
def KV {κ : Type} : List (κ × V) → List (κ × Value) → Prop := Paired fun (p : κ × V) (q : κ × Value) => p.1 = q.1 ∧ RelV p.2 q.2
def kV : Key → V
  | .inl i => .int i
  | .inr x => .str x
inductive HO where
  /-- a list -/
  | lst (xs : List V)
  /-- a tuple (never changes) -/
  | tup (xs : List V)
  /-- a dict whose keys are ints and texts; one whose keys are tuples of ints and texts (the empty one is both) -/
  | dK (kvs : List (Key × V)) | dT (kvs : List (List Key × V))
  /-- a set of ints: its members, its size -/
  | set (S : Int → Bool) (n : Nat)
  /-- an instance of the class at C, its dict at dx, its attributes -/
  | ins (C dx : Addr) (fs : List (Str × V))
  /-- the dict of the instance at x -/
  | own (x : Addr)
  /-- the dict of an exception -/
  | xd (fs : List (Str × V))
  /-- a bound method, f of x -/
  | met (f x : Addr)
  /-- a range object lo, lo + 1, .. below hi -/
  | rng (lo hi : Int)
  /-- a thing that is known to the object (the script; a dict while a loop walks it): read, never written while it is so -/
  | frz (o : Obj) (u : HO)
  /-- a code object's table -/
  | tbl (ps : Array Value)
  /-- any other thing, by what is true of its one object (a def of one's own: SetO a S n := HO.ext fun h => ..) -/
  | ext (φ : Heap → Prop)
abbrev Hp := Addr → Option HO
def upd (H : Hp) (a : Addr) (o : HO) : Hp := fun b => if b = a then some o else H b
theorem upd_same {H : Hp} {a : Addr} {o : HO} : upd H a o a = some o := by unfold upd; rw [if_pos rfl]
theorem upd_ne {H : Hp} {a b : Addr} {o : HO} (h : b ≠ a) : upd H a o b = H b := by unfold upd; rw [if_neg h]
theorem upd_upd {H : Hp} {a : Addr} {o u : HO} : upd (upd H a o) a u = upd H a u := by
  funext b; unfold upd; split <;> rfl
theorem ne_of {H : Hp} {a b : Addr} {o u : HO} (h : H a = some o) (h' : H b = some u) (d : o ≠ u) : a ≠ b := by
  intro e; subst e; rw [h] at h'; exact d (Option.some.inj h')
theorem ne_of_none {H : Hp} {a b : Addr} {o : HO} (h : H a = some o) (h' : H b = none) : a ≠ b := by
  intro e; subst e; rw [h] at h'; cases h'
section
variable (P : Program) (w : World)
def ObjOk (H : Hp) (h : Heap) (a : Addr) : HO → Prop
  | .lst xs => xs.length ≤ sizeLine ∧ ∃ (its : List Value) (n : Nat), Vals xs its ∧ h.get? a = some { cls := .type "list", data := .seq its.toArray n }
  | .tup xs => xs.length ≤ sizeLine ∧ ∃ its : List Value, Vals xs its ∧ IsTup h a its.toArray
  | .dK kvs => kvs.length ≤ sizeLine ∧ (a == sysModules) = false ∧ ∃ vs, KV kvs vs ∧ h.DictOf (mixKind P w) a vs
  | .dT kvs => kvs.length ≤ sizeLine ∧ (a == sysModules) = false ∧ ∃ xs : List (List Key × Addr × Value),
      Paired (fun (p : List Key × V) (q : List Key × Addr × Value) => p.1 = q.1 ∧ H q.2.1 = some (.tup (p.1.map kV)) ∧ RelV p.2 q.2.2) kvs xs ∧
      ∃ o es ep, h.get? a = some o ∧ o.ExactDict ∧ o.data = .dict es ep ∧ es.toList = xs.map (entryOfKey (tupleKind (mixKind P w))) ∧ (xs.map (·.1)).Nodup
  | .set S n => h.SetOf (intKind P w) a S n
  | .ins C dx fs => H dx = some (.own a) ∧ fs.length ≤ 1000 ∧ dx ≠ a ∧ h.get? a = some (PySem.W.instObj C dx) ∧
      ∃ mA, h.Ns1 dx mA ∧ (∀ f, RelO (fs.lookup f) (mA f)) ∧ PySem.Within mA (fs.map (·.1))
  | .own _ => ∃ o, h.get? a = some o
  | .xd fs => ∃ mA, h.Ns1 a mA ∧ (∀ f, RelO (fs.lookup f) (mA f)) ∧ PySem.Within mA (fs.map (·.1))
  | .rng lo hi => ∃ t u v, h.get? a = some { cls := .type "range", data := .fields #[.int lo t, .int hi u, .int 1 v] }
  | .frz o u => h.get? a = some o ∧ ObjOk H h a u
  | .tbl ps => h.get? a = some { cls := .none, data := .fields ps }
  | .met f x => h.get? a = some (PySem.W.methodObj (.ref f) (.ref x))
  | .ext φ => φ h ∧ (∃ o, h.get? a = some o) ∧ ∀ h1 h2 : Heap, φ h1 → (∀ o, h1.get? a = some o → h2.get? a = some o) → φ h2
def HOk (H : Hp) (h : Heap) : Prop := ∀ a o, H a = some o → ObjOk P w H h a o
end
section
variable {P : Program} {w : World} {H H' : Hp} {h h' : Heap} {a : Addr} {o : HO}
theorem ObjOk.lt (x : ObjOk P w H h a o) : a < h.objs.size := by
  cases o with
  | lst xs => obtain ⟨_, _, _, _, e⟩ := x; exact Heap.lt_size e
  | tup xs => obtain ⟨_, _, _, p⟩ := x; exact p.lt
  | dK kvs => obtain ⟨_, _, _, _, o, _, _, e, _⟩ := x; exact Heap.lt_size e
  | dT kvs => obtain ⟨_, _, _, _, o, _, _, e, _⟩ := x; exact Heap.lt_size e
  | set S n => obtain ⟨o, _, _, _, e, _⟩ := x; exact Heap.lt_size e
  | ins C dx fs => obtain ⟨_, _, _, e, _⟩ := x; exact Heap.lt_size e
  | own y => obtain ⟨_, e⟩ := x; exact Heap.lt_size e
  | xd fs => obtain ⟨_, ⟨_, _, _, e, _⟩, _⟩ := x; exact Heap.lt_size e
  | rng lo hi => obtain ⟨_, _, _, e⟩ := x; exact Heap.lt_size e
  | frz ob u => obtain ⟨e, _⟩ := x; exact Heap.lt_size e
  | tbl ps => exact Heap.lt_size (show h.get? a = some _ from x)
  | met f y => exact Heap.lt_size (show h.get? a = some _ from x)
  | ext φ => obtain ⟨_, ⟨_, e⟩, _⟩ := x; exact Heap.lt_size e
theorem Paired.mapP {α β : Type} {F G : α → β → Prop} : ∀ {l₁ : List α} {l₂ : List β}, Paired F l₁ l₂ → (∀ a b, F a b → G a b) → Paired G l₁ l₂
  | _, _, .nil, _ => .nil
  | _, _, .cons r t, f => .cons (f _ _ r) (Paired.mapP t f)
theorem ObjOk.stay (x : ObjOk P w H h a o) (k : ∀ b u, (b = a ∨ H b = some (.own a)) → h.get? b = some u → h'.get? b = some u)
    (ho : ∀ b, H b = some (.own a) → H' b = some (.own a)) (ht : ∀ b xs, H b = some (.tup xs) → H' b = some (.tup xs)) : ObjOk P w H' h' a o := by
  induction o with
  | lst xs => obtain ⟨z, its, n, r, e⟩ := x; exact ⟨z, its, n, r, k _ _ (.inl rfl) e⟩
  | tup xs => obtain ⟨z, its, r, ob, e, c⟩ := x; exact ⟨z, its, r, ob, k _ _ (.inl rfl) e, c⟩
  | dK kvs => obtain ⟨z, y, vs, r, ob, es, ep, e, c⟩ := x; exact ⟨z, y, vs, r, ob, es, ep, k _ _ (.inl rfl) e, c⟩
  | dT kvs =>
    obtain ⟨z, y, xs, r, ob, es, ep, e, c⟩ := x
    exact ⟨z, y, xs, Paired.mapP r fun p q z => ⟨z.1, ht _ _ z.2.1, z.2.2⟩, ob, es, ep, k _ _ (.inl rfl) e, c⟩
  | set S n => obtain ⟨ob, es, ep, t, e, c⟩ := x; exact ⟨ob, es, ep, t, k _ _ (.inl rfl) e, c⟩
  | ins C dx fs =>
    obtain ⟨d, z, ne, e, mA, ⟨od, es, ep, e2, c⟩, r⟩ := x
    exact ⟨ho _ d, z, ne, k _ _ (.inl rfl) e, mA, ⟨od, es, ep, k _ _ (.inr d) e2, c⟩, r⟩
  | own y => obtain ⟨ob, e⟩ := x; exact ⟨ob, k _ _ (.inl rfl) e⟩
  | xd fs => obtain ⟨mA, ⟨od, es, ep, e, c⟩, r⟩ := x; exact ⟨mA, ⟨od, es, ep, k _ _ (.inl rfl) e, c⟩, r⟩
  | rng lo hi => obtain ⟨t, u, v, e⟩ := x; exact ⟨t, u, v, k _ _ (.inl rfl) e⟩
  | frz ob u ih => obtain ⟨e, q⟩ := x; exact ⟨k _ _ (.inl rfl) e, ih q⟩
  | tbl ps =>
    have e : h.get? a = some { cls := .none, data := .fields ps } := x
    show h'.get? a = some { cls := .none, data := .fields ps }
    exact k a _ (.inl rfl) e
  | met f y =>
    have e : h.get? a = some (PySem.W.methodObj (.ref f) (.ref y)) := x
    show h'.get? a = some (PySem.W.methodObj (.ref f) (.ref y))
    exact k a _ (.inl rfl) e
  | ext φ => obtain ⟨p, ⟨o, e⟩, st⟩ := x; exact ⟨st _ _ p fun o q => k _ _ (.inl rfl) q, ⟨o, k _ _ (.inl rfl) e⟩, st⟩
theorem HOk.lt (x : HOk P w H h) (e : H a = some o) : a < h.objs.size := (x a o e).lt
theorem HOk.fresh (x : HOk P w H h) (e : h.objs.size ≤ a) : H a = none := by
  cases q : H a with
  | none => rfl
  | some u => exact absurd (Nat.lt_of_lt_of_le (x.lt q) e) (Nat.lt_irrefl _)
theorem HOk.kept (x : HOk P w H h) (k : ∀ b u, h.get? b = some u → h'.get? b = some u) : HOk P w H h' := fun a o e =>
  (x a o e).stay (fun b u _ q => k b u q) (fun _ q => q) fun _ _ q => q
theorem HOk.laid (x : HOk P w H h) (k : ∀ b u, h.get? b = some u → h'.get? b = some u) (hp : h.objs.size ≤ a) (new : ObjOk P w (upd H a o) h' a o) : HOk P w (upd H a o) h' := fun b u e => by
  have hn := x.fresh hp
  by_cases hb : b = a
  · subst hb; rw [upd_same] at e; cases e; exact new
  · rw [upd_ne hb] at e
    exact (x b u e).stay (fun c v _ q => k c v q) (fun c q => by rw [upd_ne (ne_of_none q hn)]; exact q) fun c xs q => by rw [upd_ne (ne_of_none q hn)]; exact q
end
def Rd (H : Hp) (a : Addr) (u : HO) : Prop := H a = some u ∨ ∃ o, H a = some (.frz o u)
theorem Rd.ok {P : Program} {w : World} {H : Hp} {h : Heap} {a : Addr} {u : HO} (r : Rd H a u) (x : HOk P w H h) : ObjOk P w H h a u := by
  rcases r with r | ⟨o, r⟩
  · exact x a u r
  · obtain ⟨_, q⟩ := x a _ r
    exact q
def Mut : Option HO → Prop
  | some (.lst _) => True
  | some (.dK _) => True
  | some (.dT _) => True
  | some (.set _ _) => True
  | some (.ins _ _ _) => True
  | some (.xd _) => True
  | some (.ext _) => True
  | _ => False
section
variable {P : Program} {w : World} {H : Hp} {h h' : Heap} {x e : Addr} {o' : HO}
theorem HOk.write (ok : HOk P w H h) (mu : Mut (H x)) (he : e = x ∨ H e = some (.own x)) (k : ∀ b u, b ≠ e → h.get? b = some u → h'.get? b = some u) (heo : ∃ u, h'.get? e = some u)
    (new : ObjOk P w (upd H x o') h' x o') : HOk P w (upd H x o') h' := fun b u q => by
  have nown : ∀ c y, H c = some (.own y) → c ≠ x := fun c y r z => by subst z; rw [r] at mu; exact mu
  have ntup : ∀ c xs, H c = some (.tup xs) → c ≠ x := fun c xs r z => by subst z; rw [r] at mu; exact mu
  by_cases hb : b = x
  · subst hb; rw [upd_same] at q; cases q; exact new
  · rw [upd_ne hb] at q
    by_cases hbe : b = e
    · have q' : H b = some (.own x) := by
        rcases he with z | z
        · exact absurd (hbe.trans z) hb
        · rw [hbe]; exact z
      rw [q] at q'; cases q'
      obtain ⟨v, hv⟩ := heo
      exact ⟨v, by rw [hbe]; exact hv⟩
    · refine (ok b u q).stay (fun c v hc r => k c v ?_ r) (fun c r => by rw [upd_ne (nown c b r)]; exact r) fun c xs r => by rw [upd_ne (ntup c xs r)]; exact r
      rcases hc with rfl | hc
      · exact hbe
      · rintro rfl
        rcases he with z | z
        · exact nown c b hc z
        · rw [hc] at z; cases z; exact hb rfl
end
structure Un (fs ex : List Addr) (H H' : Hp) (h h' : Heap) : Prop where
  keep : ∀ b o, h.get? b = some o → H b = none → b ∉ fs → b ∉ ex → h'.get? b = some o
  slot : ∀ b o, h.get? b = some o → H b = none → b ∈ fs → b ∉ ex → ∃ sl, h'.get? b = some { o with slots := sl }
  free : ∀ b o, h.get? b = some o → H b = none → b ∉ ex → H' b = none
  there : ∀ b o, h.get? b = some o → b ∉ ex → ∃ o', h'.get? b = some o'
  tups : ∀ b xs, H b = some (.tup xs) → H' b = some (.tup xs)
  frzs : ∀ b o u, H b = some (.frz o u) → H' b = some (.frz o u)
  tbls : ∀ b ps, H b = some (.tbl ps) → ∃ more, H' b = some (.tbl (ps ++ more))
section
variable {fs fs' ex ex' : List Addr} {H H1 H2 : Hp} {h h1 h2 h' : Heap} {a x e : Addr} {o : HO}
theorem Un.any (u : Un fs ex H H1 h h1) {b : Addr} {ob : Obj} (q : h.get? b = some ob) (n : H b = none) (hx : b ∉ ex) : ∃ sl, h1.get? b = some { ob with slots := sl } := by
  by_cases hb : b ∈ fs
  · exact u.slot b ob q n hb hx
  · exact ⟨ob.slots, u.keep b ob q n hb hx⟩
theorem Un.kept (k : ∀ b u, h.get? b = some u → h'.get? b = some u) : Un fs ex H H h h' :=
  ⟨fun b ob q _ _ _ => k b ob q, fun b ob q _ _ _ => ⟨ob.slots, k b ob q⟩, fun _ _ _ n _ => n, fun b ob q _ => ⟨ob, k b ob q⟩, fun _ _ q => q, fun _ _ _ q => q, fun _ ps q => ⟨#[], by rw [q]; simp⟩⟩
theorem Un.refl : Un fs ex H H h h := Un.kept fun _ _ q => q
theorem Un.laid (k : ∀ b u, h.get? b = some u → h'.get? b = some u) (hp : h.objs.size ≤ a) (hn : H a = none) : Un fs ex H (upd H a o) h h' where
  keep := fun b u q _ _ _ => k b u q
  slot := fun b u q _ _ _ => ⟨u.slots, k b u q⟩
  free := fun b u q n _ => by rw [upd_ne (Nat.ne_of_lt (Nat.lt_of_lt_of_le (Heap.lt_size q) hp))]; exact n
  there := fun b u q _ => ⟨u, k b u q⟩
  tups := fun b xs q => by rw [upd_ne (ne_of_none q hn)]; exact q
  frzs := fun b u xs q => by rw [upd_ne (ne_of_none q hn)]; exact q
  tbls := fun b ps q => ⟨#[], by rw [upd_ne (ne_of_none q hn), q]; simp⟩
theorem Un.write (mu : Mut (H x)) (he : e = x ∨ H e = some (.own x)) (k : ∀ b u, b ≠ e → h.get? b = some u → h'.get? b = some u) (heo : ∃ u, h'.get? e = some u) : Un fs ex H (upd H x o) h h' := by
  have hx : ∀ b, H b = none → b ≠ x := fun b n z => by subst z; rw [n] at mu; exact mu
  have hb : ∀ b, H b = none → b ≠ e := fun b n z => by
    subst z
    rcases he with r | r
    · exact hx b n r
    · rw [n] at r; cases r
  have hm : ∀ b u, H b = some u → ¬ Mut (some u) → b ≠ x := fun b u q nm z => by subst z; rw [q] at mu; exact nm mu
  refine ⟨fun b u q n _ _ => k b u (hb b n) q, fun b u q n _ _ => ⟨u.slots, k b u (hb b n) q⟩, fun b u q n _ => by rw [upd_ne (hx b n)]; exact n, fun b u q _ => ?_,
    fun b xs q => by rw [upd_ne (hm b _ q fun z => z)]; exact q, fun b u xs q => by rw [upd_ne (hm b _ q fun z => z)]; exact q, fun b ps q => ⟨#[], by rw [upd_ne (hm b _ q fun z => z), q]; simp⟩⟩
  by_cases hbe : b = e
  · subst hbe; exact heo
  · exact ⟨u, k b u hbe q⟩
end
def trk (h : Heap) (H : Hp) : List Addr := (List.range h.objs.size).filter fun a => (H a).isSome
def hidT (h : Heap) (H : Hp) : Heap := PySem.W.hideAll h (trk h H)
theorem hidT_size (h : Heap) (H : Hp) : (hidT h H).objs.size = h.objs.size := PySem.W.hideAll_size _ _
theorem hidT_get {h : Heap} {H : Hp} {b : Addr} {o : Obj} (e : h.get? b = some o) (n : H b = none) : (hidT h H).get? b = some o :=
  PySem.W.hideAll_get _ e fun hm => by
    have q : (H b).isSome = true := (List.mem_filter.mp hm).2
    rw [n] at q; simp at q
theorem of_hidT {h : Heap} {H : Hp} {b : Addr} {o : Obj} (e : (hidT h H).get? b = some o) : h.get? b = some o ∧ H b = none := by
  have e' : h.get? b = some o := PySem.W.of_hideAll (trk h H) e
  refine ⟨e', ?_⟩
  cases q : H b with
  | none => rfl
  | some x =>
    have hm : b ∈ trk h H := List.mem_filter.mpr ⟨List.mem_range.mpr (Heap.lt_size e'), by simp [q]⟩
    have z : (hidT h H).get? b = none := PySem.W.hideAll_none (trk h H) hm
    rw [z] at e; cases e
end L2
namespace L2
open PySem PySem.Spec PyProof.Rows
structure Mod (K : PySem.W.Frag) (mg : Str → Option Value) (base : Heap) : Prop where
  kin : K.In base
  glob : base.Ns mainGlobals mg
  blt : ∃ mb, base.Ns builtinsNs mb ∧ ∀ x : Str, x ≠ "__name__" → mb x = bootBuiltins x
  nolimit : base.NoLimit
structure Cx where
  prog : Program
  w : World
  K : PySem.W.Frag
  mg : Str → Option Value
  base : Heap
  A : Around
  N : List Str
  s₀ : Shared
  H₀ : Hp
  env : Env
  outer : List Env
  stack : List Env
  ex : List Addr
  fn : Str → Bool
  calm : Bool
  pn : List (Addr × Obj)
  xe : Value → Shared → Prop
def frs (l : List Env) : List Addr := l.filterMap (·.frame)
abbrev Cx.fs (X : Cx) : List Addr := frs X.outer
def Vis (sc : Scope) (x : Str) : Prop := sc.names.lookup x = some .local ∨ sc.names.lookup x = some .cell ∨ sc.names.lookup x = some .free
def Loc (sc : Scope) (x : Str) : Prop := sc.names.lookup x = some .local ∨ sc.names.lookup x = some .cell
def Look (env : Env) (h : Heap) (m : Str → Option Value) (x : Str) (u : Value) : Prop :=
  (env.kindOf x = some .local ∧ m x = some u) ∨ ((env.kindOf x = some .cell ∨ env.kindOf x = some .free) ∧ ∃ c, env.cells.lookup x = some c ∧ h.IsCell c (some u))
structure Cx.Ok (X : Cx) : Prop where
  mod : Mod X.K X.mg X.base
  kind : X.env.scope.kind = .function
  glob : X.env.globals = mainGlobals
  blt : X.env.builtins = builtinsNs
  above : X.s₀.heap.objs.size ≤ X.env.locals
  inj : ∀ x y c, X.env.cells.lookup x = some c → X.env.cells.lookup y = some c → x = y
  has : ∀ x, (X.env.kindOf x = some .cell ∨ X.env.kindOf x = some .free) → ∃ c, X.env.cells.lookup x = some c
  cab : ∀ x c, X.fn x = true → X.env.cells.lookup x = some c → X.s₀.heap.objs.size ≤ c
  hd : X.calm = true → X.A.handled = none
  frames : X.A.frames = some X.stack
  stk : X.stack = X.outer ∨ (X.stack = X.env :: X.outer ∧ X.env.frame = some X.env.locals)
  exf : ∀ b ∈ X.ex, b ≠ X.env.locals ∧ ∀ x c, X.env.cells.lookup x = some c → c ≠ b
  bs : ∀ b o, X.base.get? b = some o → X.s₀.heap.get? b = some o ∧ X.H₀ b = none
  bsz : X.base.objs.size ≤ X.s₀.heap.objs.size
  noex : ∀ b o, X.base.get? b = some o → b ∉ X.ex
  exfs : ∀ b ∈ X.ex, b ∉ X.fs
  funs : X.s₀.heap.FunFrames X.base X.outer
  frf : ∀ b ∈ X.fs, X.H₀ b = none
structure Inv (X : Cx) (pins : List (Addr × Obj)) (σ : List (Option V)) (H : Hp) (s : Shared) : Prop where
  ok : X.Ok
  os : s.os = X.s₀.os
  bare : AllBare s.gens
  base : Un X.fs X.ex X.H₀ H X.s₀.heap s.heap
  loc : ∃ m, s.heap.Ns X.env.locals m ∧ ∀ (i : Nat) (x : Str) (v : V), X.N[i]? = some x → σ[i]? = some (some v) → Vis X.env.scope x → ∃ u, RelV v u ∧ Look X.env s.heap m x u
  cell : ∀ x c, X.env.cells.lookup x = some c → ∃ v, s.heap.IsCell c v
  free : H X.env.locals = none
  freeC : ∀ x c, X.env.cells.lookup x = some c → H c = none
  pin : ∀ p ∈ X.pn ++ pins, s.heap.get? p.1 = some p.2 ∧ H p.1 = none ∧ p.1 ≠ X.env.locals ∧ p.1 ∉ X.fs ∧ ∀ v, p.2.data ≠ .cell v
  hok : HOk X.prog X.w H s.heap
  len : σ.length = X.N.length
section
variable {X : Cx} {pins : List (Addr × Obj)} {σ : List (Option V)} {H H' : Hp} {s : Shared} {h' : Heap}
theorem Cx.Ok.nofr (ok : X.Ok) {b : Addr} {o : Obj} (e : X.base.get? b = some o) : b ∉ X.fs := fun hb => by
  have := (ok.funs.mem hb).1
  rw [e] at this; cases this
theorem Inv.bs (I : Inv X pins σ H s) : ∀ b o, X.base.get? b = some o → s.heap.get? b = some o ∧ H b = none := fun b o e =>
  ⟨I.base.keep b o (I.ok.bs b o e).1 (I.ok.bs b o e).2 (I.ok.nofr e) (I.ok.noex b o e), I.base.free b o (I.ok.bs b o e).1 (I.ok.bs b o e).2 (I.ok.noex b o e)⟩
theorem Inv.bk (I : Inv X pins σ H s) : ∀ b o, X.base.get? b = some o → s.heap.get? b = some o := fun b o e => (I.bs b o e).1
theorem Inv.mod (I : Inv X pins σ H s) : Mod X.K X.mg X.base := I.ok.mod
theorem Inv.kIn (I : Inv X pins σ H s) : X.K.In s.heap := I.ok.mod.kin.keeps I.bk
theorem Inv.fr (I : Inv X pins σ H s) : ∃ m, Fr X.base X.env.locals s.heap m :=
  let ⟨m, hn, _⟩ := I.loc
  ⟨m, hn, I.bk, Nat.le_trans I.ok.bsz I.ok.above⟩
theorem Inv.lt (I : Inv X pins σ H s) : X.env.locals < s.heap.objs.size := let ⟨_, hn, _⟩ := I.loc; hn.lt
theorem Inv.sz (I : Inv X pins σ H s) : X.s₀.heap.objs.size ≤ s.heap.objs.size := Nat.le_trans I.ok.above (Nat.le_of_lt I.lt)
theorem Inv.nofs (I : Inv X pins σ H s) {a : Addr} (h : s.heap.objs.size ≤ a) : a ∉ X.fs := fun hb => by
  obtain ⟨_, o, ho, _⟩ := I.ok.funs.mem hb
  exact absurd (Nat.lt_of_lt_of_le (Heap.lt_size ho) (Nat.le_trans I.sz h)) (Nat.lt_irrefl _)
theorem Inv.cne (I : Inv X pins σ H s) : ∀ x c, X.env.cells.lookup x = some c → c ≠ X.env.locals := fun x c e z => by
  obtain ⟨v, o, ho, hd⟩ := I.cell x c e
  obtain ⟨m, ⟨o', es, ep, ho', hd', _⟩, _⟩ := I.loc
  rw [z, ho'] at ho; cases ho; rw [hd'] at hd; cases hd
theorem Inv.funs (I : Inv X pins σ H s) : s.heap.FunFrames X.base X.outer := by
  have all : ∀ (l : List Env), (∀ b ∈ frs l, b ∈ X.fs) → X.s₀.heap.FunFrames X.base l → s.heap.FunFrames X.base l := by
    intro l
    induction l with
    | nil => intro _ _; trivial
    | cons env r ih =>
      intro hs hl
      obtain ⟨hk, ⟨L, o, hf, hn, ho, hd⟩, hr⟩ := hl
      have hL : L ∈ X.fs := hs L (by unfold frs; rw [List.filterMap_cons, hf]; exact List.mem_cons_self)
      obtain ⟨sl, e⟩ := I.base.slot L o ho (I.ok.frf L hL) hL fun z => I.ok.exfs L z hL
      exact ⟨hk, ⟨L, _, hf, hn, e, hd⟩, ih (fun b hb => hs b (by unfold frs; rw [List.filterMap_cons, hf]; exact List.mem_cons_of_mem _ hb)) hr⟩
  exact all X.outer (fun _ hb => hb) I.ok.funs
theorem Inv.stack (I : Inv X pins σ H s) : s.heap.FunFrames X.base X.stack := by
  rcases I.ok.stk with e | ⟨e, hf⟩
  · rw [e]; exact I.funs
  · rw [e]
    obtain ⟨m, hn, _⟩ := I.loc
    refine .cons (by rw [I.ok.kind]; decide) hf hn ?_ I.funs
    exact Heap.get?_none_of_le (Nat.le_trans I.ok.bsz I.ok.above)
theorem Inv.stkSub (I : Inv X pins σ H s) : ∀ b ∈ frs X.stack, b ∈ X.env.locals :: X.fs := fun b hb => by
  rcases I.ok.stk with e | ⟨e, hf⟩
  · rw [e] at hb; exact List.mem_cons_of_mem _ hb
  · rw [e] at hb
    unfold frs at hb
    rw [List.filterMap_cons, hf] at hb
    exact hb
theorem Inv.stkFree (I : Inv X pins σ H s) : ∀ b ∈ frs X.stack, H b = none := fun b hb => by
  rcases List.mem_cons.mp (I.stkSub b hb) with e | hb
  · rw [e]; exact I.free
  · obtain ⟨_, o, ho, _⟩ := I.ok.funs.mem hb
    exact I.base.free b o ho (I.ok.frf b hb) fun z => I.ok.exfs b z hb
theorem Inv.step {g' : Array GenState} {t' : Nat} {d' : Drawn} {ch : List Addr} (I : Inv X pins σ H s)
    (hch : ∀ b ∈ ch, (b ∈ X.ex ∨ X.s₀.heap.objs.size ≤ b) ∧ b ≠ X.env.locals ∧ (∀ x c, X.env.cells.lookup x = some c → c ≠ b) ∧ ∀ p ∈ X.pn ++ pins, p.1 ≠ b)
    (keep : ∀ b o, b ≠ X.env.locals → b ∉ X.fs → b ∉ ch → s.heap.get? b = some o → H b = none → h'.get? b = some o)
    (slot : ∀ b o, b ≠ X.env.locals → b ∈ X.fs → b ∉ ch → s.heap.get? b = some o → H b = none → ∃ sl, h'.get? b = some { o with slots := sl }) (free : ∀ b o, b ∉ ch → s.heap.get? b = some o → H b = none → H' b = none)
    (there : ∀ b o, b ∉ ch → s.heap.get? b = some o → ∃ o', h'.get? b = some o')
    (tups : ∀ b xs, H b = some (.tup xs) → H' b = some (.tup xs)) (frzs : ∀ b o u, H b = some (.frz o u) → H' b = some (.frz o u)) (tbls : ∀ b ps, H b = some (.tbl ps) → ∃ more, H' b = some (.tbl (ps ++ more)))
    (ns : ∀ m, s.heap.Ns X.env.locals m → h'.Ns X.env.locals m) (hok : HOk X.prog X.w H' h') (hg : AllBare g') :
    Inv X pins σ H' { s with heap := h', gens := g', drawn := d', toks := t' } := by
  have neL : ∀ b o, X.s₀.heap.get? b = some o → b ≠ X.env.locals := fun b o e => Nat.ne_of_lt (Nat.lt_of_lt_of_le (Heap.lt_size e) I.ok.above)
  have neC : ∀ b o, X.s₀.heap.get? b = some o → b ∉ X.ex → b ∉ ch := fun b o e hx hb => by
    rcases (hch b hb).1 with z | z
    · exact hx z
    · exact absurd (Nat.lt_of_lt_of_le (Heap.lt_size e) z) (Nat.lt_irrefl _)
  have cellK : ∀ x c, X.env.cells.lookup x = some c → ∀ v, s.heap.IsCell c v → h'.IsCell c v := fun x c e v ⟨o, ho, hd⟩ => by
    have nch : c ∉ ch := fun z => (hch c z).2.2.1 x c e rfl
    by_cases hc : c ∈ X.fs
    · obtain ⟨sl, q⟩ := slot c o (I.cne x c e) hc nch ho (I.freeC x c e)
      exact ⟨_, q, hd⟩
    · exact ⟨o, keep c o (I.cne x c e) hc nch ho (I.freeC x c e), hd⟩
  refine ⟨I.ok, I.os, hg, ⟨fun b o e n hb hx => ?_, fun b o e n hb hx => ?_, fun b o e n hx => ?_, fun b o e hx => ?_, fun b xs e => tups b xs (I.base.tups b xs e), fun b o xs e => frzs b o xs (I.base.frzs b o xs e), fun b ps e => ?_⟩, ?_, fun x c e => ?_, ?_, fun x c e => ?_, fun p hp => ?_, hok, I.len⟩
  · exact keep b o (neL b o e) hb (neC b o e hx) (I.base.keep b o e n hb hx) (I.base.free b o e n hx)
  · obtain ⟨sl, e1⟩ := I.base.slot b o e n hb hx
    obtain ⟨sl', e2⟩ := slot b _ (neL b o e) hb (neC b o e hx) e1 (I.base.free b o e n hx)
    exact ⟨sl', e2⟩
  · obtain ⟨o', e1⟩ := I.base.there b o e hx
    exact free b o' (neC b o e hx) e1 (I.base.free b o e n hx)
  · obtain ⟨o', e1⟩ := I.base.there b o e hx
    exact there b o' (neC b o e hx) e1
  · obtain ⟨m1, e1⟩ := I.base.tbls b ps e
    obtain ⟨m2, e2⟩ := tbls b _ e1
    exact ⟨m1 ++ m2, by rw [e2, Array.append_assoc]⟩
  · obtain ⟨m, hn, hl⟩ := I.loc
    refine ⟨m, ns m hn, fun i x v e1 e2 e3 => ?_⟩
    obtain ⟨u, r, l⟩ := hl i x v e1 e2 e3
    refine ⟨u, r, ?_⟩
    rcases l with l | ⟨k, c, e, z⟩
    · exact .inl l
    · exact .inr ⟨k, c, e, cellK x c e _ z⟩
  · obtain ⟨v, z⟩ := I.cell x c e
    exact ⟨v, cellK x c e v z⟩
  · obtain ⟨m, ⟨o, _, _, ho, _⟩, _⟩ := I.loc
    exact free _ o (fun z => (hch _ z).2.1 rfl) ho I.free
  · obtain ⟨v, o, ho, hd⟩ := I.cell x c e
    exact free c o (fun z => (hch c z).2.2.1 x c e rfl) ho (I.freeC x c e)
  · obtain ⟨e, n, ne, nf, d⟩ := I.pin p hp
    have nch : p.1 ∉ ch := fun z => (hch p.1 z).2.2.2 p hp rfl
    exact ⟨keep p.1 p.2 ne nf nch e n, free p.1 p.2 nch e n, ne, nf, d⟩
theorem Inv.un {t' : Nat} (I : Inv X pins σ H s) (u : Un X.fs [] H H' s.heap h') (hok : HOk X.prog X.w H' h') : Inv X pins σ H' { s with heap := h', toks := t' } := by
  obtain ⟨m, ⟨o, es, ep, ho, r⟩, _⟩ := id I.loc
  obtain ⟨sl, hL⟩ := u.any ho I.free (by simp)
  exact I.step (g' := s.gens) (d' := s.drawn) (ch := []) (fun _ z => nomatch z) (fun b o _ hb _ e n => u.keep b o e n hb (by simp)) (fun b o _ hb _ e n => u.slot b o e n hb (by simp)) (fun b o _ e n => u.free b o e n (by simp)) (fun b o _ e => u.there b o e (by simp)) u.tups u.frzs u.tbls (fun m' hm => by
    obtain ⟨o', es', ep', ho', r'⟩ := hm
    rw [ho] at ho'; cases ho'
    exact ⟨_, es', ep', hL, r'⟩) hok I.bare
theorem Inv.call {g' : Array GenState} {t' : Nat} {d' : Drawn} {ch : List Addr} (I : Inv X pins σ H s) (u : Un (frs X.stack) ch H H' s.heap h') (hok : HOk X.prog X.w H' h') (hg : AllBare g')
    (hch : ∀ b ∈ ch, (b ∈ X.ex ∨ X.s₀.heap.objs.size ≤ b) ∧ b ≠ X.env.locals ∧ (∀ x c, X.env.cells.lookup x = some c → c ≠ b) ∧ ∀ p ∈ X.pn ++ pins, p.1 ≠ b) :
    Inv X pins σ H' { s with heap := h', gens := g', drawn := d', toks := t' } := by
  obtain ⟨m, ⟨o, es, ep, ho, r⟩, _⟩ := id I.loc
  obtain ⟨sl, hL⟩ := u.any ho I.free fun z => (hch _ z).2.1 rfl
  exact I.step (ch := ch) hch (fun b o hL hb hc e n => u.keep b o e n (fun z => (List.mem_cons.mp (I.stkSub b z)).elim hL hb) hc) (fun b o _ _ hc e n => u.any e n hc) (fun b o hc e n => u.free b o e n hc) (fun b o hc e => u.there b o e hc) u.tups u.frzs u.tbls (fun m' hm => by
    obtain ⟨o', es', ep', ho', r'⟩ := hm
    rw [ho] at ho'; cases ho'
    exact ⟨_, es', ep', hL, r'⟩) hok hg
theorem Inv.turned {t' : Nat} {it : Addr} (I : Inv X pins σ H s) (k : ∀ b o, b ≠ it → s.heap.get? b = some o → h'.get? b = some o) (hn : H it = none) (hL : it ≠ X.env.locals)
    (h1 : it ∈ X.ex ∨ X.s₀.heap.objs.size ≤ it) (h2 : ∀ x c, X.env.cells.lookup x = some c → c ≠ it) (h3 : ∀ p ∈ X.pn ++ pins, p.1 ≠ it) : Inv X pins σ H { s with heap := h', toks := t' } := by
  have nit : ∀ b u, H b = some u → b ≠ it := fun b u e z => by rw [z, hn] at e; cases e
  refine I.step (g' := s.gens) (d' := s.drawn) (ch := [it]) (fun b hb => ?_) (fun b o _ _ hc e _ => k b o (fun z => hc (by simp [z])) e) (fun b o _ _ hc e _ => ⟨o.slots, k b o (fun z => hc (by simp [z])) e⟩) (fun _ _ _ _ n => n)
    (fun b o hc e => ⟨o, k b o (fun z => hc (by simp [z])) e⟩) (fun _ _ e => e) (fun _ _ _ e => e) (fun b ps e => ⟨#[], by rw [e]; simp⟩) (fun m hm => ?_) (fun b u e => ?_) I.bare
  · have e : b = it := by simpa using hb
    subst e
    exact ⟨h1, hL, h2, h3⟩
  · obtain ⟨o, es, ep, ho, r⟩ := hm
    exact ⟨o, es, ep, k _ o (Ne.symm hL) ho, r⟩
  · refine (I.hok b u e).stay (fun c v hc q => k c v ?_ q) (fun _ q => q) fun _ _ q => q
    rcases hc with z | z
    · rw [z]; exact nit b u e
    · exact nit c _ z
theorem Inv.tok (I : Inv X pins σ H s) (t : Nat) : Inv X pins σ H { s with toks := t } := I.un (h' := s.heap) (t' := t) Un.refl I.hok
theorem Inv.kept {t' : Nat} (I : Inv X pins σ H s) (k : ∀ b u, s.heap.get? b = some u → h'.get? b = some u) : Inv X pins σ H { s with heap := h', toks := t' } := I.un (Un.kept k) (I.hok.kept k)
theorem Inv.laid {a : Addr} {o : HO} {t' : Nat} (I : Inv X pins σ H s) (k : ∀ b u, s.heap.get? b = some u → h'.get? b = some u) (hp : s.heap.objs.size ≤ a) (new : ObjOk X.prog X.w (upd H a o) h' a o) :
    Inv X pins σ (upd H a o) { s with heap := h', toks := t' } := I.un (Un.laid k hp (I.hok.fresh hp)) (I.hok.laid k hp new)
theorem Inv.write {x e : Addr} {o : HO} {t' : Nat} (I : Inv X pins σ H s) (mu : Mut (H x)) (he : e = x ∨ H e = some (.own x)) (k : ∀ b u, b ≠ e → s.heap.get? b = some u → h'.get? b = some u) (heo : ∃ u, h'.get? e = some u)
    (new : ObjOk X.prog X.w (upd H x o) h' x o) : Inv X pins σ (upd H x o) { s with heap := h', toks := t' } := I.un (Un.write mu he k heo) (I.hok.write mu he k heo new)
theorem Inv.weak {σ' : List (Option V)} (I : Inv X pins σ H s) (hl : σ'.length = σ.length) (w : ∀ (i : Nat) v, σ'[i]? = some (some v) → σ[i]? = some (some v)) : Inv X pins σ' H s :=
  ⟨I.ok, I.os, I.bare, I.base, let ⟨m, hn, hl'⟩ := I.loc; ⟨m, hn, fun i x v e1 e2 e3 => hl' i x v e1 (w i v e2) e3⟩, I.cell, I.free, I.freeC, I.pin, I.hok, hl.trans I.len⟩
theorem Inv.pins_of {pins' : List (Addr × Obj)} (I : Inv X pins σ H s) (h : ∀ p ∈ pins', s.heap.get? p.1 = some p.2 ∧ H p.1 = none ∧ p.1 ≠ X.env.locals ∧ p.1 ∉ X.fs ∧ ∀ v, p.2.data ≠ .cell v) : Inv X pins' σ H s :=
  ⟨I.ok, I.os, I.bare, I.base, I.loc, I.cell, I.free, I.freeC, fun p hp => (List.mem_append.mp hp).elim (fun z => I.pin p (List.mem_append_left _ z)) (h p), I.hok, I.len⟩
theorem nodup_ix {N : List Str} (hN : N.Nodup) {i j : Nat} {x : Str} (a : N[i]? = some x) (b : N[j]? = some x) : i = j := by
  obtain ⟨h1, e1⟩ := List.getElem?_eq_some_iff.mp a
  obtain ⟨h2, e2⟩ := List.getElem?_eq_some_iff.mp b
  exact (List.getElem_inj hN).mp (e1.trans e2.symm)
theorem store_ok2 {M : Model} {A : Around} {E : Value → Shared → Prop} {i : Nat} {x : Str} {v : V} {u : Value} {Q : Unit → Shared → Prop} (I : Inv X pins σ H s) (hN : X.N.Nodup) (hi : X.N[i]? = some x) (hx : Loc X.env.scope x) (r : RelV v u)
    (h : ∀ s', Inv X pins (σ.set i (some v)) H s' → (∃ a, Heap.SameBut a s.heap s'.heap ∧ (a = X.env.locals ∨ X.env.cells.lookup x = some a)) → Q () s') (hf : X.fn x = true ∨ X.env.scope.names.lookup x = some .local := by first | exact .inl rfl | exact .inr rfl | assumption) : wpAny M A (storeName X.env x u) Q E s := by
  obtain ⟨m, hn, hl⟩ := id I.loc
  have hcls : (X.env.scope.kind == .class || (X.env.scope.kind == .module && X.env.locals != X.env.globals)) = false := by rw [I.ok.kind]; rfl
  have hiσ : i < σ.length := by rw [I.len]; exact (List.getElem?_eq_some_iff.mp hi).1
  have cne := I.cne
  have tracked : ∀ {a : Addr} {h' : Heap}, (∃ o, s.heap.get? a = some o ∧ H a = none) → Heap.SameBut a s.heap h' → HOk X.prog X.w H h' := fun {a h'} ha hs b ob e => by
    obtain ⟨_, _, hfree⟩ := ha
    refine (I.hok b ob e).stay (fun c w' hc q => (hs.2 c ?_).trans q) (fun _ q => q) fun _ _ q => q
    rintro rfl
    rcases hc with rfl | hc
    · rw [hfree] at e; cases e
    · rw [hfree] at hc; cases hc
  rcases hx with hk | hk
  · refine wpAny_storeName_local hk hn (fun h' hn' hs => ?_) hcls
    obtain ⟨oL, _, _, hoL, _⟩ := id hn
    refine h _ ⟨I.ok, I.os, I.bare, ⟨fun b o e n hb hx => ?_, fun b o e n hb hx => ?_, I.base.free, fun b o e hx => ?_, I.base.tups, I.base.frzs, I.base.tbls⟩, ⟨_, hn', fun j y v' e1 e2 e3 => ?_⟩, fun y c e => ?_, I.free, I.freeC, fun p hp => ?_, tracked ⟨oL, hoL, I.free⟩ hs, by simpa using I.len⟩ ⟨_, hs, .inl rfl⟩
    · exact (hs.2 b (Nat.ne_of_lt (Nat.lt_of_lt_of_le (Heap.lt_size e) I.ok.above))).trans (I.base.keep b o e n hb hx)
    · obtain ⟨sl, e1⟩ := I.base.slot b o e n hb hx
      exact ⟨sl, (hs.2 b (Nat.ne_of_lt (Nat.lt_of_lt_of_le (Heap.lt_size e) I.ok.above))).trans e1⟩
    · obtain ⟨o', e1⟩ := I.base.there b o e hx
      exact ⟨o', (hs.2 b (Nat.ne_of_lt (Nat.lt_of_lt_of_le (Heap.lt_size e) I.ok.above))).trans e1⟩
    · by_cases hj : j = i
      · subst hj
        rw [hi] at e1; cases e1
        rw [List.getElem?_set_self hiσ] at e2
        cases e2
        exact ⟨u, r, .inl ⟨hk, by simp⟩⟩
      · rw [List.getElem?_set_ne (Ne.symm hj)] at e2
        obtain ⟨u', r', q⟩ := hl j y v' e1 e2 e3
        refine ⟨u', r', ?_⟩
        rcases q with ⟨k, e⟩ | ⟨k, c, e, z⟩
        · refine .inl ⟨k, ?_⟩
          have : y ≠ x := fun e => hj (nodup_ix hN e1 (e ▸ hi))
          simp [this, e]
        · exact .inr ⟨k, c, e, z.sameBut hs (cne y c e)⟩
    · obtain ⟨w', z⟩ := I.cell y c e
      exact ⟨w', z.sameBut hs (cne y c e)⟩
    · obtain ⟨e, n, ne, nf, d⟩ := I.pin p hp
      exact ⟨(hs.2 p.1 ne).trans e, n, ne, nf, d⟩
  · have hfn : X.fn x = true := by
      rcases hf with z | z
      · exact z
      · rw [z] at hk; cases hk
    obtain ⟨c, hc⟩ := I.ok.has x (.inl hk)
    obtain ⟨w', z⟩ := I.cell x c hc
    refine wpAny_storeName_cell I.ok.kind hk hc z (fun h' hc' hs => ?_)
    obtain ⟨oc, hoc, hocd⟩ := id z
    refine h { s with heap := h' } ⟨I.ok, I.os, I.bare, ⟨fun b o e n hb hx => ?_, fun b o e n hb hx => ?_, I.base.free, fun b o e hx => ?_, I.base.tups, I.base.frzs, I.base.tbls⟩, ⟨m, hn.sameBut hs (Ne.symm (cne x c hc)), fun j y v' e1 e2 e3 => ?_⟩, fun y c' e => ?_, I.free, I.freeC, fun p hp => ?_, tracked ⟨oc, hoc, I.freeC x c hc⟩ hs, by simpa using I.len⟩ ⟨c, hs, .inr hc⟩
    · exact (hs.2 b (Nat.ne_of_lt (Nat.lt_of_lt_of_le (Heap.lt_size e) (I.ok.cab x c hfn hc)))).trans (I.base.keep b o e n hb hx)
    · obtain ⟨sl, e1⟩ := I.base.slot b o e n hb hx
      exact ⟨sl, (hs.2 b (Nat.ne_of_lt (Nat.lt_of_lt_of_le (Heap.lt_size e) (I.ok.cab x c hfn hc)))).trans e1⟩
    · obtain ⟨o', e1⟩ := I.base.there b o e hx
      exact ⟨o', (hs.2 b (Nat.ne_of_lt (Nat.lt_of_lt_of_le (Heap.lt_size e) (I.ok.cab x c hfn hc)))).trans e1⟩
    · by_cases hj : j = i
      · subst hj
        rw [hi] at e1; cases e1
        rw [List.getElem?_set_self hiσ] at e2
        cases e2
        exact ⟨u, r, .inr ⟨.inl hk, c, hc, hc'⟩⟩
      · rw [List.getElem?_set_ne (Ne.symm hj)] at e2
        obtain ⟨u', r', q⟩ := hl j y v' e1 e2 e3
        refine ⟨u', r', ?_⟩
        rcases q with q | ⟨k, c', e, z'⟩
        · exact .inl q
        · refine .inr ⟨k, c', e, z'.sameBut hs ?_⟩
          rintro rfl
          exact hj (nodup_ix hN e1 (I.ok.inj _ _ _ e hc ▸ hi))
    · by_cases hcc : c' = c
      · subst hcc; exact ⟨_, hc'⟩
      · obtain ⟨w2, z2⟩ := I.cell y c' e
        exact ⟨w2, z2.sameBut hs hcc⟩
    · obtain ⟨e, n, ne, nf, d⟩ := I.pin p hp
      refine ⟨(hs.2 p.1 ?_).trans e, n, ne, nf, d⟩
      intro q
      rw [q, hoc] at e
      have q' : oc = p.2 := Option.some.inj e
      exact d w' (by rw [← q']; exact hocd)
theorem store_ok {M : Model} {A : Around} {E : Value → Shared → Prop} {i : Nat} {x : Str} {v : V} {u : Value} {Q : Unit → Shared → Prop} (I : Inv X pins σ H s) (hN : X.N.Nodup) (hi : X.N[i]? = some x) (hx : Loc X.env.scope x) (r : RelV v u)
    (h : ∀ s', Inv X pins (σ.set i (some v)) H s' → Q () s') (hf : X.fn x = true ∨ X.env.scope.names.lookup x = some .local := by first | exact .inl rfl | exact .inr rfl | assumption) : wpAny M A (storeName X.env x u) Q E s :=
  store_ok2 I hN hi hx r (fun s' I' _ => h s' I') hf
theorem Inv.call' {s' : Shared} {ch : List Addr} (I : Inv X pins σ H s) (ho : s'.os = s.os) (u : Un (frs X.stack) ch H H' s.heap s'.heap) (hok : HOk X.prog X.w H' s'.heap) (hg : AllBare s'.gens)
    (hch : ∀ b ∈ ch, (b ∈ X.ex ∨ X.s₀.heap.objs.size ≤ b) ∧ b ≠ X.env.locals ∧ (∀ x c, X.env.cells.lookup x = some c → c ≠ b) ∧ ∀ p ∈ X.pn ++ pins, p.1 ≠ b) : Inv X pins σ H' s' := by
  obtain ⟨h', g', d', t', o'⟩ := s'
  have e : o' = s.os := ho
  subst e
  exact I.call (g' := g') (t' := t') (d' := d') u hok hg hch
end
abbrev XK := Value → Option Addr → Hp → Prop
abbrev St := List (Option V)
abbrev VK := V → Hp → Prop
abbrev TE := St → Hp → VK → Prop
abbrev TT := St → Hp → (Bool → Hp → Prop) → Prop
abbrev TA := St → Hp → (List V → Hp → Prop) → Prop
structure Ends where
  nx : St → Hp → Prop
  rt : VK
  bk : St → Hp → Prop := fun _ _ => False
  ct : St → Hp → Prop := fun _ _ => False
abbrev TS := Ends → St → Hp → Prop
def EP (X : Cx) (pins : List (Addr × Obj)) (σ : St) (Q : VK) (u : Value) (s' : Shared) : Prop := ∃ v H', Inv X pins σ H' s' ∧ RelV v u ∧ Q v H'
def TP (X : Cx) (pins : List (Addr × Obj)) (σ : St) (Q : Bool → Hp → Prop) (b : Bool) (s' : Shared) : Prop := ∃ H', Inv X pins σ H' s' ∧ Q b H'
def AP (X : Cx) (pins : List (Addr × Obj)) (σ : St) (Q : List V → Hp → Prop) (us : List Value) (s' : Shared) : Prop := ∃ vs H', Inv X pins σ H' s' ∧ Vals vs us ∧ Q vs H'
def SP (X : Cx) (pins : List (Addr × Obj)) (D : Ends) (f : Flow) (s' : Shared) : Prop :=
  match f with
  | .next => ∃ σ' H', Inv X pins σ' H' s' ∧ D.nx σ' H'
  | .brk => ∃ σ' H', Inv X pins σ' H' s' ∧ D.bk σ' H'
  | .cont => ∃ σ' H', Inv X pins σ' H' s' ∧ D.ct σ' H'
  | .ret u => ∃ v σ' H', Inv X pins σ' H' s' ∧ RelV v u ∧ D.rt v H'
def PE (X : Cx) (e : Expr) (t : TE) : Prop :=
  ∀ (pins : List (Addr × Obj)) (s : Shared) (σ : St) (H : Hp) (Q : VK), Inv X pins σ H s → t σ H Q → wpAny (model X.prog X.w) X.A (eval e X.env) (EP X pins σ Q) X.xe s
def PT (X : Cx) (e : Expr) (t : TT) : Prop :=
  ∀ (pins : List (Addr × Obj)) (s : Shared) (σ : St) (H : Hp) (Q : Bool → Hp → Prop), Inv X pins σ H s → t σ H Q → wpAny (model X.prog X.w) X.A (isTrue e X.env (eval e X.env)) (TP X pins σ Q) X.xe s
def PW (X : Cx) (e : Expr) (t : TT) : Prop :=
  ∀ (whole : Sem Value) (pins : List (Addr × Obj)) (s : Shared) (σ : St) (H : Hp) (Q : Bool → Hp → Prop), Inv X pins σ H s → t σ H Q → wpAny (model X.prog X.w) X.A (isTrue e X.env whole) (TP X pins σ Q) X.xe s
theorem PW.pt {X : Cx} {e : Expr} {t : TT} (h : PW X e t) : PT X e t := h _
def PA (X : Cx) (es : List Expr) (t : TA) : Prop :=
  ∀ (pos : Pos) (pins : List (Addr × Obj)) (s : Shared) (σ : St) (H : Hp) (Q : List V → Hp → Prop), Inv X pins σ H s → t σ H Q → wpAny (model X.prog X.w) X.A (spliced (backTo pos (starEach es X.env))) (AP X pins σ Q) X.xe s
def PS (X : Cx) (st : Stmt) (t : TS) : Prop :=
  ∀ (pins : List (Addr × Obj)) (s : Shared) (σ : St) (H : Hp) (D : Ends), Inv X pins σ H s → t D σ H → wpAny (model X.prog X.w) X.A (exec st X.env) (SP X pins D) X.xe s
def PSs (X : Cx) (st : List Stmt) (t : TS) : Prop :=
  ∀ (pins : List (Addr × Obj)) (s : Shared) (σ : St) (H : Hp) (D : Ends), Inv X pins σ H s → t D σ H → wpAny (model X.prog X.w) X.A (execs st X.env) (SP X pins D) X.xe s
theorem thn {α : Type} {t : Sem α} {Q Q' : α → Shared → Prop} {M : Model} {A : Around} {E : Value → Shared → Prop} {s : Shared} (h : wpAny M A t Q E s) (hQ : ∀ a s, Q a s → Q' a s) : wpAny M A t Q' E s := wpAny_mono h hQ fun _ _ x => x
end L2
namespace L2
open PySem PySem.Spec PyProof.Rows
section
variable {X : Cx}
def tVar (i : Nat) : TE := fun σ H Q => ∃ v, σ[i]? = some (some v) ∧ Q v H
def tC (v : V) : TE := fun _ H Q => Q v H
theorem pe_var {i : Nat} {x : Str} {pos : Pos} (hN : X.N[i]? = some x) (hv : Vis X.env.scope x) (hd : (x == ("__debug__" : Str)) = false := by decide) (hcd : (x == ("__classdict__" : Str)) = false := by decide) : PE X (.Name x pos) (tVar i) := by
  intro pins s σ H Q I h
  obtain ⟨v, e, h⟩ := h
  obtain ⟨m, hn, hl⟩ := I.loc
  obtain ⟨u, r, l⟩ := hl i x v hN e hv
  have fin : EP X pins σ Q u s := ⟨v, H, I, r, h⟩
  rcases l with ⟨hk, hm⟩ | ⟨hk, c, hc, hcell⟩
  · exact wpAny_Name (wpAny_loadName_local I.ok.kind hk hn hm fin) hd
  · rcases hk with hk | hk
    · exact wpAny_Name (wpAny_loadName_cell I.ok.kind hk hc hcell fin) hd
    · exact wpAny_Name (wpAny_loadName_free I.ok.kind hk hc hcell fin hcd) hd
theorem pe_int {i j pos} : PE X (.Constant (.int i) j pos) (tC (.int i)) := fun _ _ _ H _ I h => wpAny_Constant_int ⟨.int i, H, I.tok _, ⟨_, rfl⟩, h⟩
theorem pe_bl {b j pos} : PE X (.Constant (.bool b) j pos) (tC (.bl b)) := fun _ _ _ H _ I h => Constant_bool ⟨.bl b, H, I, rfl, h⟩
theorem pe_non {j pos} : PE X (.Constant .none j pos) (tC .non) := fun _ _ _ H _ I h => Constant_none ⟨.non, H, I, rfl, h⟩
def Gl (X : Cx) (x : Str) : Prop := X.env.kindOf x = some .globalImplicit
theorem ld_glob {E : Value → Shared → Prop} {pins : List (Addr × Obj)} {s : Shared} {σ : St} {H : Hp} {x : Str} {u : Value} {pos : Pos} {Q : Value → Shared → Prop} (I : Inv X pins σ H s) (hg : Gl X x) (hm : X.mg x = some u) (h : Q u s)
    (hd : (x == ("__debug__" : Str)) = false := by decide) : wpAny (model X.prog X.w) X.A (eval (.Name x pos) X.env) Q E s :=
  Calls.Name_function_global I.ok.kind hg (Calls.loadGlobal_global (by rw [I.ok.glob]; exact I.mod.glob.keeps I.bk) hm h) hd
theorem ld_blt {E : Value → Shared → Prop} {pins : List (Addr × Obj)} {s : Shared} {σ : St} {H : Hp} {x : Str} {u : Value} {pos : Pos} {Q : Value → Shared → Prop} (I : Inv X pins σ H s) (hg : Gl X x) (hm : X.mg x = none) (hv : bootBuiltins x = some u) (h : Q u s)
    (hn : x ≠ "__name__" := by decide) (hd : (x == ("__debug__" : Str)) = false := by decide) : wpAny (model X.prog X.w) X.A (eval (.Name x pos) X.env) Q E s := by
  obtain ⟨mb, h1, h2⟩ := I.mod.blt
  exact Calls.Name_function_global I.ok.kind hg (Calls.loadGlobal_builtin (by rw [I.ok.glob]; exact I.mod.glob.keeps I.bk) hm (by rw [I.ok.blt]; exact h1.keeps I.bk) ((h2 x hn).trans hv) h) hd
theorem pe_glob {x : Str} {v : V} {u : Value} {pos : Pos} (hg : Gl X x) (hm : X.mg x = some u) (r : RelV v u) (hd : (x == ("__debug__" : Str)) = false := by decide) : PE X (.Name x pos) (tC v) :=
  fun _ _ _ H _ I h => ld_glob I hg hm ⟨v, H, I, r, h⟩ hd
variable {a b : Expr} {ta tb : TE} {pos : Pos}
variable {tA tB' : TT} {rest : List Expr}
def tOr (t u : TT) : TT := fun σ H Q => t σ H fun c H1 => if c = true then Q true H1 else u σ H1 Q
def tNot (t : TT) : TT := fun σ H Q => t σ H fun c H1 => Q (!c) H1
theorem pw_or1 (ha : PT X a tA) : PW X (.BoolOp .Or [a] pos) tA := by
  intro wh pins s σ H Q I h
  refine isTrue_or (thn (ha pins s σ H Q I h) fun c s1 e => ?_)
  cases c with
  | false => exact isTrue_or_nil e
  | true => exact e
theorem pw_or (ha : PT X a tA) (hb : PW X (.BoolOp .Or (b :: rest) pos) tB') : PW X (.BoolOp .Or (a :: b :: rest) pos) (tOr tA tB') := by
  intro wh pins s σ H Q I h
  refine isTrue_or (thn (ha pins s σ H _ I h) fun c s1 ⟨H1, I1, q1⟩ => ?_)
  cases c with
  | true => exact ⟨H1, I1, q1⟩
  | false => exact hb wh pins s1 σ H1 Q I1 q1
theorem pt_not (ha : PT X a tA) : PT X (.UnaryOp .Not a pos) (tNot tA) := by
  intro pins s σ H Q I h
  exact isTrue_not (ha pins s σ H (fun c H1 => Q (!c) H1) I h)
def tOrV (ta tb : TE) : TE := fun σ H Q => ta σ H fun x H1 => ∃ c, x = .bl c ∧ if c = true then Q (.bl true) H1 else tb σ H1 Q
theorem pe_one {op} {t : TE} (h : PE X a t) : PE X (.BoolOp op [a] pos) t := fun pins s σ H Q I hw => BoolOp_one (h pins s σ H Q I hw)
theorem pe_or (ha : PE X a ta) (hb : PE X (.BoolOp .Or (b :: rest) pos) tb) : PE X (.BoolOp .Or (a :: b :: rest) pos) (tOrV ta tb) := by
  intro pins s σ H Q I h
  refine BoolOp_or (thn (ha pins s σ H _ I h) fun v s1 ⟨x, H1, I1, r1, q1⟩ => ?_)
  obtain ⟨c, rfl, q1⟩ := q1
  cases r1
  refine wpAny_truthy_bool ?_
  cases c with
  | false => exact hb pins s1 σ H1 Q I1 q1
  | true => exact ⟨.bl true, H1, I1, rfl, q1⟩
def tIf (t : TT) (ta tb : TE) : TE := fun σ H Q => t σ H fun c H1 => if c = true then ta σ H1 Q else tb σ H1 Q
theorem pe_ifExp {c : Expr} (hc : PT X c tA) (ha : PE X a ta) (hb : PE X b tb) : PE X (.IfExp c a b pos) (tIf tA ta tb) := by
  intro pins s σ H Q I h
  refine wpAny_IfExp (thn (hc pins s σ H _ I h) fun d s1 ⟨H1, I1, q1⟩ => ?_)
  cases d with
  | true => exact ha pins s1 σ H1 Q I1 q1
  | false => exact hb pins s1 σ H1 Q I1 q1
end
end L2
namespace L2
open PySem PySem.Spec PyProof.Rows
def SqL (K : PySem.W.Frag) (H : Hp) (a : Addr) (xs : List V) : Prop :=
  Rd H a (.lst xs) ∨
    ∃ (o : Obj) (its : Array Value) (n : Nat), K.lookup a = some o ∧ o.cls = .type "list" ∧ o.dict = none ∧ o.data = .seq its n ∧ its.size ≤ sizeLine ∧ Vals xs its.toList
def SqT (K : PySem.W.Frag) (H : Hp) (a : Addr) (xs : List V) : Prop :=
  Rd H a (.tup xs) ∨
    ∃ (o : Obj) (its : Array Value) (n : Nat), K.lookup a = some o ∧ o.cls = .type "tuple" ∧ o.data = .seq its n ∧ its.size ≤ sizeLine ∧ Vals xs its.toList
def absV : Value → Option V
  | .none => some .non
  | .bool b => some (.bl b)
  | .int i _ => some (.int i)
  | .str x _ => some (.str x)
  | .bytes b _ => some (.byt b)
  | .float b _ => some (.flt b)
  | .ref a => some (.ref a)
  | .type n => some (.ty n)
  | _ => none
theorem RelV.abs {x : V} {u : Value} (r : RelV x u) : absV u = some x := by
  cases x with
  | non => cases r; rfl
  | bl _ => cases r; rfl
  | int _ => obtain ⟨t, rfl⟩ := r; rfl
  | str _ => obtain ⟨t, rfl⟩ := r; rfl
  | byt _ => obtain ⟨t, rfl⟩ := r; rfl
  | flt _ => obtain ⟨t, rfl⟩ := r; rfl
  | ref _ => cases r; rfl
  | ty _ => cases r; rfl
theorem RelV.inj {x y : V} {u : Value} (r : RelV x u) (q : RelV y u) : x = y := Option.some.inj (r.abs.symm.trans q.abs)
theorem Vals.inj : ∀ {xs ys : List V} {us : List Value}, Vals xs us → Vals ys us → xs = ys
  | _, _, _, .nil, .nil => rfl
  | _, _, _, .cons r t, .cons r' t' => by rw [r.inj r', Vals.inj t t']
section
variable {X : Cx} {pins : List (Addr × Obj)} {σ : St} {H : Hp} {s : Shared} {a : Addr} {xs ys : List V}
theorem SqL.of {K : PySem.W.Frag} (h : H a = some (.lst xs)) : SqL K H a xs := .inl (.inl h)
theorem SqT.of {K : PySem.W.Frag} (h : H a = some (.tup xs)) : SqT K H a xs := .inl (.inl h)
theorem Inv.list (I : Inv X pins σ H s) (h : SqL X.K H a xs) : ∃ its : List Value, Vals xs its ∧ PlainL s.heap a its.toArray ∧ xs.length ≤ sizeLine := by
  rcases h with h | ⟨o, its, n, hk, hc, hd, hs, hz, r⟩
  · obtain ⟨z, its, n, r, e⟩ := h.ok I.hok
    exact ⟨its, r, ⟨_, n, e, rfl, rfl, rfl⟩, z⟩
  · refine ⟨its.toList, r, ⟨o, n, I.kIn a o hk, hc, hd, by simpa using hs⟩, ?_⟩
    have e := r.length
    simp only [Array.length_toList] at e
    omega
theorem Inv.tuple (I : Inv X pins σ H s) (h : SqT X.K H a xs) : ∃ its : List Value, Vals xs its ∧ IsTup s.heap a its.toArray ∧ xs.length ≤ sizeLine := by
  rcases h with h | ⟨o, its, n, hk, hc, hs, hz, r⟩
  · obtain ⟨z, its, r, p⟩ := h.ok I.hok
    exact ⟨its, r, p, z⟩
  · refine ⟨its.toList, r, ⟨o, I.kIn a o hk, hc, n, by simpa using hs⟩, ?_⟩
    have e := r.length
    simp only [Array.length_toList] at e
    omega
theorem Inv.list_inj (I : Inv X pins σ H s) (h : SqL X.K H a xs) (h' : SqL X.K H a ys) : xs = ys := by
  obtain ⟨its, r, ⟨o, n, e, _, _, d⟩, _⟩ := I.list h
  obtain ⟨its', r', ⟨o', n', e', _, _, d'⟩, _⟩ := I.list h'
  rw [e] at e'; cases e'
  rw [d] at d'
  injection d' with d1 _
  have : its = its' := by simpa using congrArg Array.toList d1
  subst this
  exact r.inj r'
end
abbrev Cx.wish (X : Cx) (E : Value → Shared → Prop) : Cx := { X with xe := E }
abbrev Cx.nox (X : Cx) : Cx := X.wish fun _ _ => False
theorem Cx.Ok.wish {X : Cx} (ok : X.Ok) (E : Value → Shared → Prop) : (X.wish E).Ok :=
  ⟨ok.mod, ok.kind, ok.glob, ok.blt, ok.above, ok.inj, ok.has, ok.cab, ok.hd, ok.frames, ok.stk, ok.exf, ok.bs, ok.bsz, ok.noex, ok.exfs, ok.funs, ok.frf⟩
theorem Cx.Ok.unwish {X : Cx} {E : Value → Shared → Prop} (ok : (X.wish E).Ok) : X.Ok :=
  ⟨ok.mod, ok.kind, ok.glob, ok.blt, ok.above, ok.inj, ok.has, ok.cab, ok.hd, ok.frames, ok.stk, ok.exf, ok.bs, ok.bsz, ok.noex, ok.exfs, ok.funs, ok.frf⟩
section
variable {X : Cx} {pins : List (Addr × Obj)} {σ : St} {H : Hp} {s : Shared} {E : Value → Shared → Prop}
theorem Inv.wish (I : Inv X pins σ H s) (E : Value → Shared → Prop) : Inv (X.wish E) pins σ H s := ⟨I.ok.wish E, I.os, I.bare, I.base, I.loc, I.cell, I.free, I.freeC, I.pin, I.hok, I.len⟩
theorem Inv.unwish (I : Inv (X.wish E) pins σ H s) : Inv X pins σ H s := ⟨I.ok.unwish, I.os, I.bare, I.base, I.loc, I.cell, I.free, I.freeC, I.pin, I.hok, I.len⟩
theorem SP.unwish {D : Ends} {f : Flow} {s' : Shared} (h : SP (X.wish E) pins D f s') : SP X pins D f s' := by
  cases f with
  | next => obtain ⟨σ', H', I, q⟩ := h; exact ⟨σ', H', I.unwish, q⟩
  | brk => obtain ⟨σ', H', I, q⟩ := h; exact ⟨σ', H', I.unwish, q⟩
  | cont => obtain ⟨σ', H', I, q⟩ := h; exact ⟨σ', H', I.unwish, q⟩
  | ret u => obtain ⟨v, σ', H', I, r, q⟩ := h; exact ⟨v, σ', H', I.unwish, r, q⟩
theorem PSs.nox {st : List Stmt} {t : TS} (h : PSs X.nox st t) : PSs X st t := fun pins s σ H D I hw =>
  wpAny_mono (h pins s σ H D (I.wish _) hw) (fun _ _ q => q.unwish) fun _ _ z => False.elim z
end
section
variable {X : Cx} {st : Stmt} {rest : List Stmt} {t u : TS} {e : Expr} {te : TE} {pos : Pos}
def tNext : TS := fun D σ H => D.nx σ H
def tSeq (t u : TS) : TS := fun D σ H => t { D with nx := u D } σ H
theorem pss_nil : PSs X [] tNext := fun _ _ σ H _ I h => wpAny_execs_nil ⟨σ, H, I, h⟩
theorem pss_cons (h1 : PS X st t) (h2 : PSs X rest u) : PSs X (st :: rest) (tSeq t u) := by
  intro pins s σ H D I h
  refine wpAny_execs_cons (thn (h1 pins s σ H { D with nx := u D } I h) fun f s1 q => ?_)
  cases f with
  | next =>
    obtain ⟨σ', H', I', q⟩ := q
    exact h2 pins s1 σ' H' D I' q
  | ret v => exact q
  | brk => exact q
  | cont => exact q
theorem pss_one (h1 : PS X st t) : PSs X [st] t := by
  intro pins s σ H D I h
  refine wpAny_execs_cons (thn (h1 pins s σ H D I h) fun f s1 q => ?_)
  cases f with
  | next => exact wpAny_execs_nil q
  | ret v => exact q
  | brk => exact q
  | cont => exact q
theorem Inv.quiet {pins : List (Addr × Obj)} {σ : St} {H : Hp} {s : Shared} (I : Inv X pins σ H s) : interactive X.env = false := by simp [interactive, I.ok.kind]
def tDrop (te : TE) : TS := fun D σ H => te σ H fun _ H1 => D.nx σ H1
theorem ps_expr (he : PE X e te) (hs : swapsWith e none pos.line X.env = pure false := by rfl) : PS X (.Expr e pos) (tDrop te) := by
  intro pins s σ H D I h
  exact wpAny_Expr_any (thn (he pins s σ H _ I h) fun v s1 ⟨x, H1, I1, r1, q1⟩ => ⟨σ, H1, I1, q1⟩) I.quiet hs
def tRet (te : TE) : TS := fun D σ H => te σ H D.rt
theorem ps_ret (he : PE X e te) : PS X (.Return (some e) pos) (tRet te) := by
  intro pins s σ H D I h
  exact wpAny_Return_some (thn (he pins s σ H _ I h) fun v s1 ⟨x, H1, I1, r1, q1⟩ => ⟨x, σ, H1, I1, r1, q1⟩)
def tIfS (c : TT) (t u : TS) : TS := fun D σ H => c σ H fun b H1 => if b = true then t D σ H1 else u D σ H1
theorem ps_if {c : Expr} {a b : List Stmt} {tc : TT} (hc : PT X c tc) (ha : PSs X a t) (hb : PSs X b u) : PS X (.If c a b pos) (tIfS tc t u) := by
  intro pins s σ H D I h
  refine wpAny_If (thn (hc pins s σ H _ I h) fun d s1 ⟨H1, I1, q1⟩ => ?_)
  cases d with
  | true => exact ha pins s1 σ H1 D I1 q1
  | false => exact hb pins s1 σ H1 D I1 q1
end
abbrev TG := V → St → Hp → (St → Hp → Prop) → Prop
abbrev TGs := List V → St → Hp → (St → Hp → Prop) → Prop
def PG (X : Cx) (target : Expr) (t : TG) : Prop :=
  ∀ (pins : List (Addr × Obj)) (s : Shared) (σ : St) (H : Hp) (v : V) (u : Value) (Q : St → Hp → Prop), Inv X pins σ H s → RelV v u → t v σ H Q →
    wpAny (model X.prog X.w) X.A (assign target X.env u) (fun _ s' => ∃ σ' H', Inv X pins σ' H' s' ∧ Q σ' H') X.xe s
def PGs (X : Cx) (ts : List Expr) (t : TGs) : Prop :=
  ∀ (pins : List (Addr × Obj)) (s : Shared) (σ : St) (H : Hp) (vs : List V) (us : List Value) (Q : St → Hp → Prop), Inv X pins σ H s → Vals vs us → t vs σ H Q →
    wpAny (model X.prog X.w) X.A (assignInOrder ((assignEach ts X.env).map (·.2)) us) (fun _ s' => ∃ σ' H', Inv X pins σ' H' s' ∧ Q σ' H') X.xe s
abbrev TSet := V → V → V → Hp → (Hp → Prop) → Prop
def PSet (X : Cx) (t : TSet) : Prop :=
  ∀ (pins : List (Addr × Obj)) (s : Shared) (σ : St) (H : Hp) (o i v : V) (ov iv u : Value) (Q : Hp → Prop), Inv X pins σ H s → RelV o ov → RelV i iv → RelV v u → t o i v H Q →
    wpAny (model X.prog X.w) X.A (setItem ov iv u) (fun _ s' => ∃ H', Inv X pins σ H' s' ∧ Q H') X.xe s
abbrev TIp := V → V → Hp → VK → Prop
def PIp (X : Cx) (op : Operator) (t : TIp) : Prop :=
  ∀ (pins : List (Addr × Obj)) (s : Shared) (σ : St) (H : Hp) (x y : V) (v u : Value) (Q : VK), Inv X pins σ H s → RelV x v → RelV y u → t x y H Q →
    wpAny (model X.prog X.w) X.A (inplaceOp op v u) (EP X pins σ Q) X.xe s
section
variable {X : Cx} {pos : Pos}
def gName (i : Nat) : TG := fun v σ H Q => Q (σ.set i (some v)) H
theorem pg_name {i : Nat} {x : Str} (hN : X.N.Nodup) (hi : X.N[i]? = some x) (hx : Loc X.env.scope x) (hf : X.fn x = true ∨ X.env.scope.names.lookup x = some .local := by first | exact .inl rfl | exact .inr rfl | assumption) : PG X (.Name x pos) (gName i) := by
  intro pins s σ H v u Q I r h
  exact wpAny_assign_Name (store_ok I hN hi hx r (fun s' I' => ⟨_, H, I', h⟩) hf)
def gNil : TGs := fun vs σ H Q => vs = [] ∧ Q σ H
def gCons (t : TG) (u : TGs) : TGs := fun vs σ H Q => ∃ v r, vs = v :: r ∧ t v σ H fun σ' H' => u r σ' H' Q
theorem pgs_nil : PGs X [] gNil := by
  intro pins s σ H vs us Q I r h
  obtain ⟨e, h⟩ := h
  subst e
  cases r
  exact assignInOrder_nil ⟨σ, H, I, h⟩
theorem pgs_cons {e : Expr} {es : List Expr} {t : TG} {u : TGs} (h1 : PG X e t) (h2 : PGs X es u)
    (hs : (assignEach (e :: es) X.env).map (·.2) = assign e X.env :: (assignEach es X.env).map (·.2) := by rfl) : PGs X (e :: es) (gCons t u) := by
  intro pins s σ H vs us Q I r h
  obtain ⟨v, vr, e1, h⟩ := h
  subst e1
  cases r with
  | cons r rr =>
    rw [hs]
    refine assignInOrder_cons (thn (h1 pins s σ H _ _ _ I r h) fun _ s1 ⟨σ1, H1, I1, q1⟩ => ?_)
    exact h2 pins s1 σ1 H1 _ _ Q I1 rr q1
def gTup (K : PySem.W.Frag) (n : Nat) (t : TGs) : TG := fun v σ H Q => ∃ a xs, v = .ref a ∧ SqT K H a xs ∧ xs.length = n ∧ t xs σ H Q
theorem pg_tup {es : List Expr} {k : Nat} {t : TGs} {n : Nat} (hc : X.calm = true) (h : PGs X es t)
    (hn : (assignEach es X.env).length = n := by rfl) (hst : (assignEach es X.env).findIdx? (·.1) = none := by rfl) : PG X (.Tuple es k pos) (gTup X.K n t) := by
  intro pins s σ H v u Q I r hw
  obtain ⟨a, xs, e1, hq, hl, hw⟩ := hw
  subst e1
  cases r
  obtain ⟨its, rv, ht, hz⟩ := I.tuple hq
  refine assign_Tuple_tuple (I.ok.hd hc) ht (by simp [hn, ← hl, rv.length]) hst fun h' hx => ?_
  have I1 : Inv X pins σ H { s with heap := h' } := I.kept (t' := s.toks) fun b o e => hx b o (Nat.ne_of_lt (Heap.lt_size e)) e
  exact h pins _ σ H xs _ Q I1 (by simpa using rv) hw
def tAsg (te : TE) (g : TG) : TS := fun D σ H => te σ H fun x H1 => g x σ H1 D.nx
theorem ps_set {i : Nat} {x : Str} {e : Expr} {te : TE} {pos' : Pos} (hN : X.N.Nodup) (hi : X.N[i]? = some x) (hx : Loc X.env.scope x) (he : PE X e te) (hs : swapsWith e (some (.Name x pos')) pos.line X.env = pure false := by rfl) (hf : X.fn x = true ∨ X.env.scope.names.lookup x = some .local := by first | exact .inl rfl | exact .inr rfl | assumption) :
    PS X (.Assign [.Name x pos'] e pos) (tAsg te (gName i)) := by
  intro pins s σ H D I h
  refine wpAny_Assign_Name (thn (he pins s σ H _ I h) fun v s1 ⟨y, H1, I1, r1, q1⟩ => ?_) hs
  exact store_ok I1 hN hi hx r1 (fun s2 I2 => ⟨_, H1, I2, q1⟩) hf
def tAug (i : Nat) (te : TE) (ti : TIp) : TS := fun D σ H => ∃ x, σ[i]? = some (some x) ∧ te σ H fun y H1 => ti x y H1 fun z H2 => D.nx (σ.set i (some z)) H2
theorem ps_aug {i : Nat} {x : Str} {e : Expr} {te : TE} {op : Operator} {ti : TIp} {pos' : Pos} (hN : X.N.Nodup) (hi : X.N[i]? = some x) (hx : Loc X.env.scope x) (he : PE X e te) (ho : PIp X op ti) (hf : X.fn x = true ∨ X.env.scope.names.lookup x = some .local := by first | exact .inl rfl | exact .inr rfl | assumption) :
    PS X (.AugAssign (.Name x pos') op e pos) (tAug i te ti) := by
  intro pins s σ H D I h
  obtain ⟨v, e1, h⟩ := h
  obtain ⟨m, hn, hl⟩ := I.loc
  have vis : Vis X.env.scope x := by rcases hx with k | k; exact .inl k; exact .inr (.inl k)
  obtain ⟨u, r, l⟩ := hl i x v hi e1 vis
  refine wpAny_AugAssign_Name ?_
  have go : wpAny (model X.prog X.w) X.A (eval e X.env) (fun w s₂ => wpAny (model X.prog X.w) X.A (inplaceOp op u w) (fun r s₃ => wpAny (model X.prog X.w) X.A (storeName X.env x r) (fun _ => SP X pins D .next) X.xe s₃) X.xe s₂) X.xe s := by
    refine thn (he pins s σ H _ I h) fun w s1 ⟨y, H1, I1, r1, q1⟩ => ?_
    refine thn (ho pins s1 σ H1 v y u w _ I1 r r1 q1) fun z s2 ⟨zv, H2, I2, r2, q2⟩ => ?_
    exact store_ok I2 hN hi hx r2 (fun s3 I3 => ⟨_, H2, I3, q2⟩) hf
  rcases l with ⟨hk, hm⟩ | ⟨hk, c, hc, hcell⟩
  · exact wpAny_loadName_local I.ok.kind hk hn hm go
  · rcases hk with hk | hk
    · exact wpAny_loadName_cell I.ok.kind hk hc hcell go
    · rcases hx with k | k
      · have : X.env.scope.names.lookup x = some .free := hk
        rw [k] at this; cases this
      · have : X.env.scope.names.lookup x = some .free := hk
        rw [k] at this; cases this
def tAugS (to ti te : TE) (tget : V → V → Hp → VK → Prop) (tip : TIp) (tset : TSet) : TS := fun D σ H => to σ H fun o H1 => ti σ H1 fun i H2 => tget o i H2 fun x H3 => te σ H3 fun y H4 => tip x y H4 fun z H5 => tset o i z H5 fun H6 => D.nx σ H6
def PGet (X : Cx) (t : V → V → Hp → VK → Prop) : Prop :=
  ∀ (pins : List (Addr × Obj)) (s : Shared) (σ : St) (H : Hp) (o i : V) (ov iv : Value) (Q : VK), Inv X pins σ H s → RelV o ov → RelV i iv → t o i H Q →
    wpAny (model X.prog X.w) X.A (getItem ov iv) (EP X pins σ Q) X.xe s
theorem ps_augS {o i e : Expr} {to ti te : TE} {tget : V → V → Hp → VK → Prop} {tip : TIp} {tset : TSet} {op : Operator} {tpos : Pos} (ho : PE X o to) (hi : PE X i ti) (hg : PGet X tget) (he : PE X e te) (hp : PIp X op tip) (hs : PSet X tset)
    (ha : ∀ ov iv new, augStore i ov iv new = (do holding [new, ov, iv] (setItem ov iv new); release [new, ov, iv] []; pure .next) := by intros; rfl) : PS X (.AugAssign (.Subscript o i tpos) op e pos) (tAugS to ti te tget tip tset) := by
  intro pins s σ H D I h
  refine wpAny_AugAssign_SubscriptAny (thn (ho pins s σ H _ I h) fun ov s1 ⟨x1, H1, I1, r1, q1⟩ => ?_) ha
  refine thn (hi pins s1 σ H1 _ I1 q1) fun iv s2 ⟨x2, H2, I2, r2, q2⟩ => ?_
  refine thn (hg pins s2 σ H2 x1 x2 ov iv _ I2 r1 r2 q2) fun old s3 ⟨x3, H3, I3, r3, q3⟩ => ?_
  refine thn (he pins s3 σ H3 _ I3 q3) fun v s4 ⟨x4, H4, I4, r4, q4⟩ => ?_
  refine thn (hp pins s4 σ H4 x3 x4 old v _ I4 r3 r4 q4) fun new s5 ⟨x5, H5, I5, r5, q5⟩ => ?_
  exact thn (hs pins s5 σ H5 x1 x2 x5 ov iv new _ I5 r1 r2 r5 q5) fun _ s6 ⟨H6, I6, q6⟩ => ⟨σ, H6, I6, q6⟩
def ipI (f : Int → Int → Int) : TIp := fun x y H Q => ∃ i j, x = .int i ∧ y = .int j ∧ Q (.int (f i j)) H
theorem ip_add : PIp X .Add (ipI fun i j => i + j) := by
  intro pins s σ H x y v u Q I r1 r2 h
  obtain ⟨i, j, e1, e2, q⟩ := h
  subst e1; subst e2
  obtain ⟨t, rfl⟩ := r1
  obtain ⟨t', rfl⟩ := r2
  exact iadd_int ⟨.int _, H, I.tok _, ⟨_, rfl⟩, q⟩
end
section
variable {X : Cx} {pos : Pos}
def tWhile (c : TT) (tb : TS) : TS := fun D σ H => ∃ W : Nat → St → Hp → Prop, (∃ m, W m σ H) ∧ ∀ m σ H, W m σ H →
  c σ H fun b H1 => if b = true then ∃ N : St → Hp → Prop, (∀ σ' H', N σ' H' → ∃ m', m' < m ∧ W m' σ' H') ∧ tb { D with nx := N, ct := N, bk := D.nx } σ H1 else D.nx σ H1
theorem ps_while {c : Expr} {body : List Stmt} {tc : TT} {tb : TS} (hp : PassesOwn (model X.prog X.w) X.A X.env X.xe) (hc : PT X c tc) (hb : PSs X body tb) : PS X (.While c body [] pos) (tWhile tc tb) := by
  intro pins s σ H D I h
  obtain ⟨W, ⟨m0, w0⟩, turn⟩ := h
  refine wpAny_While (codeAny_whileLoop (fun n s' => ∃ σ' H', Inv X pins σ' H' s' ∧ W n σ' H') ?_ m0 ⟨σ, H, I, w0⟩)
  rintro n s1 ⟨σ1, H1, I1, w1⟩
  refine wpAny_passesOwn hp (thn (hc pins s1 σ1 H1 _ I1 (turn n σ1 H1 w1)) fun b s2 ⟨H2, I2, q2⟩ => ?_)
  cases b with
  | true =>
    obtain ⟨N, hN, q2⟩ := q2
    rw [if_pos rfl]
    refine wpAny_passesOwn hp (thn (hb pins s2 σ1 H2 _ I2 q2) fun f s3 q3 => ?_)
    cases f with
    | next =>
      obtain ⟨σ3, H3, I3, n3⟩ := q3
      obtain ⟨m', hm, w3⟩ := hN σ3 H3 n3
      exact ⟨m', hm, σ3, H3, I3, w3⟩
    | cont =>
      obtain ⟨σ3, H3, I3, n3⟩ := q3
      obtain ⟨m', hm, w3⟩ := hN σ3 H3 n3
      exact ⟨m', hm, σ3, H3, I3, w3⟩
    | brk => exact q3
    | ret v => exact q3
  | false =>
    rw [if_neg Bool.false_ne_true]
    exact wpAny_execs_nil ⟨σ1, H2, I2, q2⟩
end
structure It where
  go : Nat → Hp → Prop
  yld : Nat → Hp → V → Hp → Prop
  stop : Nat → Hp → Prop
def FpOk (X : Cx) (pins : List (Addr × Obj)) (H : Hp) (b : Addr) : Prop :=
  H b = none ∧ b ≠ X.env.locals ∧ b ∉ X.fs ∧ (b ∈ X.ex ∨ X.s₀.heap.objs.size ≤ b) ∧ (∀ x c, X.env.cells.lookup x = some c → c ≠ b) ∧ ∀ p ∈ X.pn ++ pins, p.1 ≠ b
theorem Inv.fpOk {X : Cx} {pins : List (Addr × Obj)} {σ : St} {H H' : Hp} {s : Shared} {b : Addr} (I : Inv X pins σ H s) (hb : s.heap.objs.size ≤ b) (hn : H' b = none) : FpOk X pins H' b := by
  refine ⟨hn, Nat.ne_of_gt (Nat.lt_of_lt_of_le I.lt hb), I.nofs hb, .inr (Nat.le_trans I.sz hb), fun x c e z => ?_, fun p hp z => ?_⟩
  · obtain ⟨v, q⟩ := I.cell x c e
    exact absurd (Nat.lt_of_lt_of_le q.lt (by rw [z]; exact hb)) (Nat.lt_irrefl _)
  · exact absurd (Nat.lt_of_lt_of_le (Heap.lt_size (I.pin p hp).1) (by rw [z]; exact hb)) (Nat.lt_irrefl _)
structure Turn (P : Program) (w : World) (K : PySem.W.Frag) (tg : Expr) (J : It) (fp : List Addr) (it : Addr) (tn : Nat → Heap → Prop) : Prop where
  mem : it ∈ fp
  obj : ∀ i h, tn i h → ∀ b ∈ fp, ∃ o, h.get? b = some o ∧ ∀ v, o.data ≠ .cell v
  keep : ∀ i h h', tn i h → (∀ b ∈ fp, ∀ o, h.get? b = some o → h'.get? b = some o) → tn i h'
  item : ∀ (X : Cx), X.prog = P → X.w = w → X.K = K → X.calm = true → ∀ (i : Nat) (pins : List (Addr × Obj)) (s : Shared) (σ : St) (H : Hp) (E : Value → Shared → Prop), Inv X pins σ H s → (∀ b ∈ fp, FpOk X pins H b) → tn i s.heap → J.go i H →
    wpAny (model P w) X.A (pyNext (.ref it)) (fun r s1 => ∃ u, r = some u ∧
      wpAny (model P w) X.A (letOwnedTupleGo tg (.ref it) u) (fun _ s2 => ∃ x H', Inv X pins σ H' s2 ∧ RelV x u ∧ J.yld i H x H' ∧ tn (i + 1) s2.heap ∧ ∀ b ∈ fp, H' b = none) E s1) E s
  done : ∀ (X : Cx), X.prog = P → X.w = w → X.K = K → X.calm = true → ∀ (i : Nat) (pins : List (Addr × Obj)) (s : Shared) (σ : St) (H : Hp) (E : Value → Shared → Prop), Inv X pins σ H s → (∀ b ∈ fp, FpOk X pins H b) → tn i s.heap → J.stop i H →
    wpAny (model P w) X.A (pyNext (.ref it)) (fun r s1 => r = none ∧ Inv X pins σ H s1) E s
  self : ∀ (A : Around) (i : Nat) (s : Shared) (Q : Value → Shared → Prop) (E : Value → Shared → Prop), tn i s.heap → Q (.ref it) s → wpAny (model P w) A (pyIter (.ref it)) Q E s
abbrev TI := St → Hp → (It → Hp → Prop) → Prop
def PIE (X : Cx) (pins : List (Addr × Obj)) (σ : St) (tg : Expr) (R : It → Hp → Prop) (itv : Value) (s2 : Shared) : Prop :=
  ∃ (it : Addr) (fp : List Addr) (tn : Nat → Heap → Prop) (J : It) (H' : Hp), itv = .ref it ∧ Inv X pins σ H' s2 ∧ Turn X.prog X.w X.K tg J fp it tn ∧ tn 0 s2.heap ∧ (∀ b ∈ fp, FpOk X pins H' b) ∧ R J H'
def PI (X : Cx) (tg iter : Expr) (wi : TI) : Prop :=
  ∀ (pins : List (Addr × Obj)) (s : Shared) (σ : St) (H : Hp) (R : It → Hp → Prop), Inv X pins σ H s → wi σ H R →
    wpAny (model X.prog X.w) X.A (eval iter X.env) (fun v s1 => wpAny (model X.prog X.w) X.A (pyIter v) (PIE X pins σ tg R) X.xe s1) X.xe s
theorem go_of {M : Model} {A : Around} {E : Value → Shared → Prop} {s : Shared} {tg : Expr} {it : Addr} {u : Value} {o : Obj} {n : String} {vs : Array Value} {Q : Unit → Shared → Prop} (ho : s.heap.get? it = some o) (hc : o.cls = .type n) (hd : o.data = .fields vs)
    (hn : ["enumerate", "zip", "dict_itemiterator", "dict_reverseitemiterator", "odict_iterator", "itertools.zip_longest", "itertools.pairwise"].contains n = false) (hQ : Q () s) : wpAny M A (letOwnedTupleGo tg (.ref it) u) Q E s := by
  unfold letOwnedTupleGo
  cases tg <;> first
    | exact wpAny_pure hQ
    | (cases u <;> first
        | exact wpAny_pure hQ
        | (refine wpAny_bind (wpAny_load ho ?_)
           rw [hc, hd]
           show wpAny M A (if (["enumerate", "zip", "dict_itemiterator", "dict_reverseitemiterator", "odict_iterator", "itertools.zip_longest", "itertools.pairwise"].contains n && vs[0]? == some (rawInt _)) = true then _ else _) Q E s
           rw [if_neg (by intro h; rw [hn, Bool.false_and] at h; cases h)]
           exact wpAny_pure hQ))
def Itl (K : PySem.W.Frag) (a : Addr) : It :=
  ⟨fun i H => ∃ xs x, SqL K H a xs ∧ xs[i]? = some x, fun i H x H' => H' = H ∧ ∀ xs, SqL K H a xs → xs[i]? = some x, fun i H => ∃ xs, SqL K H a xs ∧ xs.length ≤ i⟩
def Itr (lo : Int) (n : Nat) : It := ⟨fun i _ => i < n, fun i H x H' => H' = H ∧ x = .int (lo + i), fun i _ => n ≤ i⟩
theorem turn_list {P : Program} {w : World} {K : PySem.W.Frag} {tg : Expr} (a it : Addr) : Turn P w K tg (Itl K a) [it] it (fun i h => h.IsListIter it a i) where
  mem := by simp
  obj := fun i h st b hb => by
    have e : b = it := by simpa using hb
    subst e
    obtain ⟨o, e, c, d⟩ := st
    exact ⟨o, e, fun v z => by rw [d] at z; cases z⟩
  keep := fun i h h' st k => st.at fun o e => k it (by simp) o e
  item := by
    intro X hP hw hK hc i pins s σ H E I hf st hg
    subst hP hw hK
    obtain ⟨xs, x, hq, hx⟩ := hg
    obtain ⟨its, rv, p, hz⟩ := I.list hq
    obtain ⟨u, hu, ru⟩ := rv.get hx
    obtain ⟨f0, f1, f2, f3, f4, f5⟩ := hf it (by simp)
    refine wpAny_pyNext_list_item st p.isList (x := u) (by simpa using hu) fun h' st' sb => ?_
    have I1 : Inv X pins σ H { s with heap := h' } := I.turned (t' := s.toks) (fun b o hb e => (sb.2 b hb).trans e) f0 f1 f3 f4 f5
    obtain ⟨o, e, c, d⟩ := id st'
    exact ⟨u, rfl, go_of (s := { s with heap := h' }) e c d (by decide) ⟨x, H, I1, ru, ⟨rfl, fun ys hy => by rw [I.list_inj hy hq]; exact hx⟩, st', fun b hb => (hf b hb).1⟩⟩
  done := by
    intro X hP hw hK hc i pins s σ H E I hf st hg
    subst hP hw hK
    obtain ⟨xs, hq, hx⟩ := hg
    obtain ⟨its, rv, p, hz⟩ := I.list hq
    obtain ⟨f0, f1, f2, f3, f4, f5⟩ := hf it (by simp)
    have hl := rv.length
    exact wpAny_pyNext_list_end (I.ok.hd hc) st p.isList (by simp; omega) fun h' eb => ⟨rfl, I.turned (t' := s.toks) (fun b o hb e => eb b o hb e) f0 f1 f3 f4 f5⟩
  self := fun _ _ _ _ _ st h => wpAny_pyIter_listiter st h
theorem turn_range {P : Program} {w : World} {K : PySem.W.Frag} {tg : Expr} (it : Addr) (lo : Int) (n : Nat) : Turn P w K tg (Itr lo n) [it] it (fun i h => IsRangeIter h it (lo + (i : Nat) * 1) ((n : Int) - (i : Nat)) 1) where
  mem := by simp
  obj := fun i h st b hb => by
    have e : b = it := by simpa using hb
    subst e
    exact ⟨_, st, fun v z => by
      have z' : Data.fields _ = Data.cell v := z
      cases z'⟩
  keep := fun i h h' st k => k it (by simp) _ st
  item := by
    intro X hP hw hK hc i pins s σ H E I hf st hg
    subst hP hw hK
    obtain ⟨f0, f1, f2, f3, f4, f5⟩ := hf it (by simp)
    have W := Walks.range (prog := X.prog) (w := X.w) (I.ok.hd hc) it lo 1 n
    refine W.item i s _ _ hg st fun v h' tk hv st' kk => ?_
    obtain ⟨t, rfl⟩ := hv
    have I1 : Inv X pins σ H { s with heap := h', toks := tk } := I.turned (fun b o hb e => kk b o (by simpa using hb) e) f0 f1 f3 f4 f5
    refine ⟨_, rfl, go_of (s := { s with heap := h', toks := tk }) (n := "range_iterator") st' rfl rfl (by decide) ⟨.int (lo + i), H, I1, ⟨t, ?_⟩, ⟨rfl, rfl⟩, st', fun b hb => (hf b hb).1⟩⟩
    rw [Int.mul_one]
  done := by
    intro X hP hw hK hc i pins s σ H E I hf st hg
    subst hP hw hK
    obtain ⟨f0, f1, f2, f3, f4, f5⟩ := hf it (by simp)
    exact wpAny_pyNext_range_end (I.ok.hd hc) st (by have : n ≤ i := hg; omega) fun h' eb => ⟨rfl, I.turned (t' := s.toks) (fun b o hb e => eb b o hb e) f0 f1 f3 f4 f5⟩
  self := fun _ _ _ _ _ st h => wpAny_pyIter_rangeiter st h
end L2
namespace L2
open PySem PySem.Spec PyProof.Rows
section
variable {X : Cx} {tg : Expr}
def iList (K : PySem.W.Frag) (tl : TE) : TI := fun σ H R => tl σ H fun x H1 => ∃ a, x = .ref a ∧ (∃ xs, SqL K H1 a xs) ∧ R (Itl K a) H1
theorem pi_list {l : Expr} {tl : TE} (hl : PE X l tl) : PI X tg l (iList X.K tl) := by
  intro pins s σ H R I h
  refine thn (hl pins s σ H _ I h) fun v s1 ⟨x, H1, I1, r1, q1⟩ => ?_
  obtain ⟨a, e, ⟨xs, hq⟩, q⟩ := q1
  subst e
  cases r1
  obtain ⟨its, rv, p, hz⟩ := I1.list hq
  refine wpAny_pyIter_list p.isList ?_
  refine ⟨s1.heap.objs.size, [s1.heap.objs.size], _, _, H1, rfl, I1.kept (t' := s1.toks) fun b o e => Heap.get?_push_of_some _ e, turn_list a _, ⟨_, Heap.get?_push_size _ rfl, rfl, rfl⟩, fun b hb => ?_, q⟩
  have e : b = s1.heap.objs.size := by simpa using hb
  subst e
  exact I1.fpOk (Nat.le_refl _) (I1.hok.fresh (Nat.le_refl _))
theorem range_it {pins : List (Addr × Obj)} {σ : St} {H : Hp} {s : Shared} {R : It → Hp → Prop} {E : Value → Shared → Prop} {lo hi : Int} {t u v : Tok} {tk : Nat} (I : Inv X pins σ H s) (h1 : -(2 ^ 62) ≤ lo) (h2 : lo < 2 ^ 62) (h3 : -(2 ^ 62) ≤ hi) (h4 : hi < 2 ^ 62)
    (q : R (Itr lo (hi - lo).toNat) H) : wpAny (model X.prog X.w) X.A (pyIter (.ref s.heap.objs.size)) (PIE X pins σ tg R) E { s with heap := s.heap.push { cls := .type "range", data := .fields #[.int lo t, .int hi u, .int 1 v] }, toks := tk } := by
  refine wpAny_pyIter_range (IsRange.new ..) (small_one h1 h2 h3 h4) ?_
  have I1 : Inv X pins σ H { s with heap := s.heap.push { cls := .type "range", data := .fields #[.int lo t, .int hi u, .int 1 v] }, toks := tk } := I.kept fun b o e => Heap.get?_push_of_some _ e
  refine ⟨(s.heap.push { cls := .type "range", data := .fields #[.int lo t, .int hi u, .int 1 v] }).objs.size, [(s.heap.push { cls := .type "range", data := .fields #[.int lo t, .int hi u, .int 1 v] }).objs.size], _, _, H, rfl,
    I1.kept (t' := tk) fun b o e => Heap.get?_push_of_some _ e, turn_range _ lo (hi - lo).toNat, ?_, fun b hb => ?_, q⟩
  · have e1 : lo + ((0 : Nat) : Int) * 1 = lo := by simp
    have e2 : (((hi - lo).toNat : Nat) : Int) - ((0 : Nat) : Int) = Builtin.Range.rangeSize lo hi 1 := by rw [rangeSize_one]; split <;> omega
    show IsRangeIter _ _ (lo + ((0 : Nat) : Int) * 1) ((((hi - lo).toNat : Nat) : Int) - ((0 : Nat) : Int)) 1
    rw [e1, e2]
    exact Heap.get?_push_size _ rfl
  · have e : b = (s.heap.push { cls := .type "range", data := .fields #[.int lo t, .int hi u, .int 1 v] }).objs.size := by simpa using hb
    subst e
    exact I1.fpOk (Nat.le_refl _) (I1.hok.fresh (Nat.le_refl _))
def iRng1 (ta : TA) : TI := fun σ H R => ta σ H fun vs H1 => ∃ j : Int, vs = [.int j] ∧ -(2 ^ 62) ≤ j ∧ j < 2 ^ 62 ∧ R (Itr 0 j.toNat) H1
theorem pi_range1 {a : Expr} {ta : TA} {p pos : Pos} (hg : Gl X "range") (hm : X.mg "range" = none) (ha : PA X [a] ta) (hs : starEach [a] X.env = [(false, eval a X.env)] := by rfl) : PI X tg (.Call (.Name "range" p) [a] [] pos) (iRng1 ta) := by
  intro pins s σ H R I h
  refine Call_ (ld_blt I hg hm boot_range (PyProof.Rows.callWith_type1 (thn (ha pos pins s σ H _ I h) fun us s1 ⟨vs, H1, I1, r1, q1⟩ => ?_) hs rfl))
  obtain ⟨j, e, q1, q2, q⟩ := q1
  subst e
  cases r1 with
  | cons r rr =>
    cases rr
    obtain ⟨t, rfl⟩ := r
    exact call_range_1 (range_it I1 (by omega) (by omega) q1 q2 (by simpa using q))
def tFor (wi : TI) (g : TG) (tb : TS) : TS := fun D σ H => wi σ H fun J H1 => ∃ W : Nat → Nat → St → Hp → Prop, (∃ m, W 0 m σ H1) ∧ ∀ i m σ H, W i m σ H →
  (J.stop i H ∧ D.nx σ H) ∨ (J.go i H ∧ ∃ N : St → Hp → Prop, (∀ σ' H', N σ' H' → ∃ m', m' < m ∧ W (i + 1) m' σ' H') ∧ ∀ x H', J.yld i H x H' → g x σ H' fun σ2 H2 => tb { D with nx := N, ct := N, bk := D.nx } σ2 H2)
def pinsAt (fp : List Addr) (h : Heap) : List (Addr × Obj) := fp.filterMap fun b => (h.get? b).map fun o => (b, o)
theorem mem_pinsAt {fp : List Addr} {h : Heap} {b : Addr} {o : Obj} (hb : b ∈ fp) (e : h.get? b = some o) : (b, o) ∈ pinsAt fp h := List.mem_filterMap.mpr ⟨b, hb, by rw [e]; rfl⟩
theorem of_pinsAt {fp : List Addr} {h : Heap} {p : Addr × Obj} (hp : p ∈ pinsAt fp h) : p.1 ∈ fp ∧ h.get? p.1 = some p.2 := by
  obtain ⟨b, hb, e⟩ := List.mem_filterMap.mp hp
  cases q : h.get? b with
  | none => rw [q] at e; cases e
  | some o =>
    rw [q] at e
    have e' : (b, o) = p := Option.some.inj e
    subst e'
    exact ⟨hb, q⟩
theorem Inv.pinned {pins : List (Addr × Obj)} {σ : St} {H : Hp} {s : Shared} {fp : List Addr} (I : Inv X pins σ H s) (hf : ∀ b ∈ fp, FpOk X pins H b) (ho : ∀ b ∈ fp, ∃ o, s.heap.get? b = some o ∧ ∀ v, o.data ≠ .cell v) : Inv X (pins ++ pinsAt fp s.heap) σ H s :=
  I.pins_of fun p hp => (List.mem_append.mp hp).elim (fun z => I.pin p (List.mem_append_right _ z)) fun z => by
    obtain ⟨hb, e⟩ := of_pinsAt z
    obtain ⟨f0, f1, f2, _⟩ := hf p.1 hb
    obtain ⟨o, e', d⟩ := ho p.1 hb
    rw [e] at e'; cases e'
    exact ⟨e, f0, f1, f2, d⟩
theorem Inv.unpinned {pins pl : List (Addr × Obj)} {σ : St} {H : Hp} {s : Shared} (I : Inv X (pins ++ pl) σ H s) : Inv X pins σ H s := I.pins_of fun p hp => I.pin p (List.mem_append_right _ (List.mem_append_left _ hp))
theorem ps_for {iter : Expr} {body : List Stmt} {wi : TI} {g : TG} {tb : TS} {pos : Pos} (hp : PassesOwn (model X.prog X.w) X.A X.env X.xe) (hc : X.calm = true) (hi : PI X tg iter wi) (hg : PG X tg g) (hb : PSs X body tb)
    (hs : ∀ x, foldedSetIterable iter X.env x = pure x := by intro _; rfl) : PS X (.For tg iter body [] pos) (tFor wi g tb) := by
  intro pins s σ H D I h
  refine wpAny_For (thn (hi pins s σ H _ I h) fun v s1 h1 => thn h1 fun itv s2 h2 => ?_) hs
  obtain ⟨it, fp, tn, J, H2, e, I2, T, st2, f2, W, ⟨m0, w0⟩, turn⟩ := h2
  subst e
  -- what stays true of the iterator's objects through the loop
  have stat : ∀ {H' : Hp}, (∀ b ∈ fp, H' b = none) → ∀ b ∈ fp, FpOk X pins H' b := fun hn b hb => ⟨hn b hb, (f2 b hb).2⟩
  refine codeAny_forLoop_any (fun n s' => ∃ i σ' H', Inv X pins σ' H' s' ∧ tn i s'.heap ∧ (∀ b ∈ fp, H' b = none) ∧ W i n σ' H') ?_ m0 ⟨0, σ, H2, I2, st2, fun b hb => (f2 b hb).1, w0⟩
  rintro n s3 ⟨i, σ3, H3, I3, st3, fr3, w3⟩
  rcases turn i n σ3 H3 w3 with ⟨stop, qn⟩ | ⟨go, N, hN, step⟩
  · refine wpAny_passesOwn hp (thn (T.done X rfl rfl rfl hc i pins s3 σ3 H3 X.xe I3 (stat fr3) st3 stop) fun r s4 ⟨hr, I4⟩ => ?_)
    subst hr
    exact wpAny_execs_nil ⟨σ3, H3, I4, qn⟩
  · refine wpAny_passesOwn hp (thn (T.item X rfl rfl rfl hc i pins s3 σ3 H3 X.xe I3 (stat fr3) st3 go) fun r s4 ⟨u, hr, h4⟩ => ?_)
    subst hr
    refine wpAny_passesOwn hp (thn h4 fun _ s5 ⟨x, H5, I5, r5, y5, st5, fr5⟩ => ?_)
    have I5' := I5.pinned (stat fr5) (T.obj _ _ st5)
    refine wpAny_passesOwn hp (thn (hg _ s5 σ3 H5 x u _ I5' r5 (step x H5 y5)) fun _ s6 ⟨σ6, H6, I6, q6⟩ => ?_)
    refine wpAny_passesOwn hp (thn (hb _ s6 σ6 H6 _ I6 q6) fun f s7 q7 => ?_)
    have again : ∀ {σ7 : St} {H7 : Hp}, Inv X (pins ++ pinsAt fp s5.heap) σ7 H7 s7 → N σ7 H7 → ∃ m, m < n ∧ ∃ i σ' H', Inv X pins σ' H' s7 ∧ tn i s7.heap ∧ (∀ b ∈ fp, H' b = none) ∧ W i m σ' H' := fun {σ7 H7} I7 n7 => by
      obtain ⟨m', hm, w7⟩ := hN σ7 H7 n7
      refine ⟨m', hm, i + 1, σ7, H7, I7.unpinned, T.keep _ _ _ st5 fun b hb o e => (I7.pin (b, o) (List.mem_append_right _ (List.mem_append_right _ (mem_pinsAt hb e)))).1, fun b hb => ?_, w7⟩
      obtain ⟨o, e, d⟩ := T.obj _ _ st5 b hb
      exact (I7.pin (b, o) (List.mem_append_right _ (List.mem_append_right _ (mem_pinsAt hb e)))).2.1
    cases f with
    | next => obtain ⟨σ7, H7, I7, n7⟩ := q7; exact again I7 n7
    | cont => obtain ⟨σ7, H7, I7, n7⟩ := q7; exact again I7 n7
    | brk => obtain ⟨σ7, H7, I7, q7⟩ := q7; exact ⟨σ7, H7, I7.unpinned, q7⟩
    | ret v => obtain ⟨x7, σ7, H7, I7, r7, q7⟩ := q7; exact ⟨x7, σ7, H7, I7.unpinned, r7, q7⟩
end
theorem for_list {K : PySem.W.Frag} {a : Addr} {xs : List V} {g : TG} {tb : TS} {D : Ends} {σ : St} {H : Hp} (Pv : Nat → St → Hp → Prop) (h0 : Pv 0 σ H) (hl : ∀ i σ H, i ≤ xs.length → Pv i σ H → SqL K H a xs)
    (hs : ∀ i x σ H, xs[i]? = some x → Pv i σ H → g x σ H fun σ2 H2 => tb { D with nx := Pv (i + 1), ct := Pv (i + 1), bk := D.nx } σ2 H2) (hd : ∀ σ H, Pv xs.length σ H → D.nx σ H) :
    ∃ W : Nat → Nat → St → Hp → Prop, (∃ m, W 0 m σ H) ∧ ∀ i m σ H, W i m σ H →
      ((Itl K a).stop i H ∧ D.nx σ H) ∨ ((Itl K a).go i H ∧ ∃ N : St → Hp → Prop, (∀ σ' H', N σ' H' → ∃ m', m' < m ∧ W (i + 1) m' σ' H') ∧ ∀ x H', (Itl K a).yld i H x H' → g x σ H' fun σ2 H2 => tb { D with nx := N, ct := N, bk := D.nx } σ2 H2) := by
  refine ⟨fun i m σ H => m = xs.length - i ∧ i ≤ xs.length ∧ Pv i σ H, ⟨xs.length, by simp, Nat.zero_le _, h0⟩, ?_⟩
  rintro i m σ H ⟨rfl, hi, p⟩
  have q := hl i σ H hi p
  by_cases hlt : i < xs.length
  · refine .inr ⟨⟨xs, xs[i], q, by simp [hlt]⟩, Pv (i + 1), fun σ' H' p' => ⟨xs.length - (i + 1), by omega, rfl, hlt, p'⟩, fun x H' y => ?_⟩
    obtain ⟨e, y⟩ := y
    subst e
    exact hs i x σ _ (y xs q) p
  · have e : i = xs.length := by omega
    subst e
    exact .inl ⟨⟨xs, q, Nat.le_refl _⟩, hd σ H p⟩
theorem while_by {c : TT} {tb : TS} {D : Ends} {σ : St} {H : Hp} (Pv : St → Hp → Prop) (μ : St → Hp → Nat) (h0 : Pv σ H)
    (hs : ∀ σ H, Pv σ H → c σ H fun b H1 => if b = true then tb { D with nx := fun σ' H' => Pv σ' H' ∧ μ σ' H' < μ σ H, ct := fun σ' H' => Pv σ' H' ∧ μ σ' H' < μ σ H, bk := D.nx } σ H1 else D.nx σ H1)
    (mono : ∀ σ H Q Q', (∀ b H1, Q b H1 → Q' b H1) → c σ H Q → c σ H Q') : tWhile c tb D σ H := by
  refine ⟨fun m σ H => m = μ σ H ∧ Pv σ H, ⟨_, rfl, h0⟩, ?_⟩
  rintro m σ H ⟨rfl, p⟩
  refine mono σ H _ _ (fun b H1 q => ?_) (hs σ H p)
  cases b with
  | true => exact ⟨_, fun σ' H' ⟨p', l⟩ => ⟨_, l, rfl, p'⟩, q⟩
  | false => exact q
end L2
namespace L2
open PySem PySem.Spec PyProof.Rows
abbrev R2 := V → V → Hp → VK → Prop
def OpR (X : Cx) (f : Value → Value → Sem Value) (r : R2) : Prop :=
  ∀ (pins : List (Addr × Obj)) (s : Shared) (σ : St) (H : Hp) (x y : V) (v u : Value) (Q : VK), Inv X pins σ H s → RelV x v → RelV y u → r x y H Q →
    wpAny (model X.prog X.w) X.A (f v u) (EP X pins σ Q) X.xe s
def UnR (X : Cx) (f : Value → Sem Value) (r : V → Hp → VK → Prop) : Prop :=
  ∀ (pins : List (Addr × Obj)) (s : Shared) (σ : St) (H : Hp) (x : V) (v : Value) (Q : VK), Inv X pins σ H s → RelV x v → r x H Q →
    wpAny (model X.prog X.w) X.A (f v) (EP X pins σ Q) X.xe s
def CallR (X : Cx) (f : Value) (r : List V → Hp → VK → Prop) : Prop :=
  ∀ (pins : List (Addr × Obj)) (s : Shared) (σ : St) (H : Hp) (xs : List V) (us : List Value) (Q : VK), Inv X pins σ H s → Vals xs us → r xs H Q →
    wpAny (model X.prog X.w) X.A (call f us) (EP X pins σ Q) X.xe s
def TruR (X : Cx) (r : V → Hp → (Bool → Hp → Prop) → Prop) : Prop :=
  ∀ (pins : List (Addr × Obj)) (s : Shared) (σ : St) (H : Hp) (x : V) (v : Value) (Q : Bool → Hp → Prop), Inv X pins σ H s → RelV x v → r x H Q →
    wpAny (model X.prog X.w) X.A (truthy v) (TP X pins σ Q) X.xe s
def tOp (r : R2) (ta tb : TE) : TE := fun σ H Q => ta σ H fun x H1 => tb σ H1 fun y H2 => r x y H2 Q
def tUn (r : V → Hp → VK → Prop) (ta : TE) : TE := fun σ H Q => ta σ H fun x H1 => r x H1 Q
def rI (C : Int → Int → Prop) (g : Int → Int → V) : R2 := fun x y H Q => ∃ i j, x = .int i ∧ y = .int j ∧ C i j ∧ Q (g i j) H
def rI0 (g : Int → Int → V) : R2 := fun x y H Q => ∃ i j, x = .int i ∧ y = .int j ∧ Q (g i j) H
def rU (g : Int → V) : V → Hp → VK → Prop := fun x H Q => ∃ i, x = .int i ∧ Q (g i) H
section
variable {X : Cx} {a b c : Expr} {ta tb tc : TE} {pos : Pos}
theorem binT (ha : PE X a ta) (hb : PE X b tb) {pins : List (Addr × Obj)} {s : Shared} {σ : St} {H : Hp} {R : V → V → Hp → Prop} (I : Inv X pins σ H s)
    (h : ta σ H fun x H1 => tb σ H1 fun y H2 => R x y H2) {Q : Value → Shared → Prop} {f : Value → Value → Sem Value}
    (hf : ∀ v u s2 x y H2, Inv X pins σ H2 s2 → RelV x v → RelV y u → R x y H2 → wpAny (model X.prog X.w) X.A (f v u) Q X.xe s2) :
    wpAny (model X.prog X.w) X.A (eval a X.env) (fun v s₁ => wpAny (model X.prog X.w) X.A (eval b X.env) (fun u s₂ => wpAny (model X.prog X.w) X.A (f v u) Q X.xe s₂) X.xe s₁) X.xe s := by
  refine thn (ha pins s σ H _ I h) fun v s1 ⟨x, H1, I1, r1, q1⟩ => ?_
  refine thn (hb pins s1 σ H1 _ I1 q1) fun u s2 ⟨y, H2, I2, r2, q2⟩ => ?_
  exact hf v u s2 x y H2 I2 r1 r2 q2
theorem pe_op {op : Operator} {r : R2} (ho : OpR X (binaryOp op) r) (ha : PE X a ta) (hb : PE X b tb) : PE X (.BinOp a op b pos) (tOp r ta tb) := by
  intro pins s σ H Q I h
  exact wpAny_BinOp (binT ha hb I h fun v u s2 x y H2 I2 rx ry q => ho pins s2 σ H2 x y v u Q I2 rx ry q)
theorem pe_un {op : UnaryOp} {r : V → Hp → VK → Prop} (ho : UnR X (unaryOp op) r) (ha : PE X a ta) : PE X (.UnaryOp op a pos) (tUn r ta) := by
  intro pins s σ H Q I h
  exact UnaryOp_ (thn (ha pins s σ H _ I h) fun v s1 ⟨x, H1, I1, r1, q1⟩ => ho pins s1 σ H1 x v Q I1 r1 q1)
theorem opI {f : Value → Value → Sem Value} {C : Int → Int → Prop} {g : Int → Int → Int}
    (rule : ∀ (i j : Int) (t u : Tok) (s : Shared) (Q : Value → Shared → Prop) (E : Value → Shared → Prop), C i j → Q (.int (g i j) s.toks) { s with toks := s.toks + 1 } → wpAny (model X.prog X.w) X.A (f (.int i t) (.int j u)) Q E s) :
    OpR X f (rI C fun i j => .int (g i j)) := by
  intro pins s σ H x y v u Q I rx ry h
  obtain ⟨i, j, rfl, rfl, hc, q⟩ := h
  obtain ⟨t, rfl⟩ := rx
  obtain ⟨t', rfl⟩ := ry
  exact rule i j t t' s _ _ hc ⟨.int (g i j), H, I.tok _, ⟨_, rfl⟩, q⟩
theorem opI0 {f : Value → Value → Sem Value} {g : Int → Int → Int}
    (rule : ∀ (i j : Int) (t u : Tok) (s : Shared) (Q : Value → Shared → Prop) (E : Value → Shared → Prop), Q (.int (g i j) s.toks) { s with toks := s.toks + 1 } → wpAny (model X.prog X.w) X.A (f (.int i t) (.int j u)) Q E s) :
    OpR X f (rI0 fun i j => .int (g i j)) := by
  intro pins s σ H x y v u Q I rx ry h
  obtain ⟨i, j, rfl, rfl, q⟩ := h
  obtain ⟨t, rfl⟩ := rx
  obtain ⟨t', rfl⟩ := ry
  exact rule i j t t' s _ _ ⟨.int (g i j), H, I.tok _, ⟨_, rfl⟩, q⟩
theorem opB0 {f : Value → Value → Sem Value} {g : Int → Int → Bool}
    (rule : ∀ (i j : Int) (t u : Tok) (s : Shared) (Q : Value → Shared → Prop) (E : Value → Shared → Prop), Q (.bool (g i j)) s → wpAny (model X.prog X.w) X.A (f (.int i t) (.int j u)) Q E s) :
    OpR X f (rI0 fun i j => .bl (g i j)) := by
  intro pins s σ H x y v u Q I rx ry h
  obtain ⟨i, j, rfl, rfl, q⟩ := h
  obtain ⟨t, rfl⟩ := rx
  obtain ⟨t', rfl⟩ := ry
  exact rule i j t t' s _ _ ⟨.bl (g i j), H, I, rfl, q⟩
def CDiv (i j : Int) : Prop := 0 < j ∧ j < 1073741824
def CPow (i j : Int) : Prop := 0 ≤ j ∧ j ≤ 1000000 ∧ i.natAbs < 2 ^ 64
def CMul (i j : Int) : Prop := (-(2 ^ 64) < i ∧ i < 2 ^ 64) ∨ (-(2 ^ 64) < j ∧ j < 2 ^ 64)
theorem CMul.ok {i j : Int} (h : CMul i j) : IntMulOk i j := by
  rcases h with ⟨h1, h2⟩ | ⟨h1, h2⟩
  · exact .of_left (intBits_le_64 h1 h2)
  · exact .of_right (intBits_le_64 h1 h2)
theorem two_pow_nn (k : Nat) : (0 : Int) ≤ 2 ^ k := by
  rw [two_pow_cast]
  exact Int.natCast_nonneg _
theorem op_add : OpR X (binaryOp .Add) (rI0 fun i j => .int (i + j)) := opI0 fun _ _ _ _ _ _ _ q => add_int q
theorem op_sub : OpR X (binaryOp .Sub) (rI0 fun i j => .int (i - j)) := opI0 fun _ _ _ _ _ _ _ q => sub_int q
theorem op_mul : OpR X (binaryOp .Mult) (rI CMul fun i j => .int (i * j)) := opI fun _ _ _ _ _ _ _ hc q => mul_int q hc.ok
theorem op_fdiv : OpR X (binaryOp .FloorDiv) (rI CDiv fun i j => .int (i / j)) := opI fun i j _ _ _ _ _ hc q => by
  have h1 : (0 : Int) < j := hc.1
  have h2 : j < 1073741824 := hc.2
  exact floordiv_int (by omega) (by rw [Int.fdiv_eq_ediv_of_nonneg i (by omega)]; exact q) (.inl (PyProof.noPylong_small (by omega)))
theorem op_mod : OpR X (binaryOp .Mod) (rI (fun _ j => 0 < j) fun i j => .int (i % j)) := opI fun i j _ _ _ _ _ hc q => by
  have h1 : (0 : Int) < j := hc
  exact mod_int' (by omega) (by rw [Int.fmod_eq_emod_of_nonneg i (by omega)]; exact q)
theorem op_shl : OpR X (binaryOp .LShift) (rI CPow fun i j => .int (i * 2 ^ j.toNat)) := opI fun _ _ _ _ _ _ _ hc q => lshift_int_small hc.1 hc.2.1 hc.2.2 q
theorem op_shr : OpR X (binaryOp .RShift) (rI (fun _ j => 0 ≤ j) fun i j => .int (i / 2 ^ j.toNat)) := opI fun i j _ _ _ _ _ hc q =>
  rshift_int hc (by rw [Int.fdiv_eq_ediv_of_nonneg i (two_pow_nn _)]; exact q)
theorem op_and : OpR X (binaryOp .BitAnd) (rI0 fun i j => .int (Builtin.bitAnd i j)) := opI0 fun _ _ _ _ _ _ _ q => and_int q
theorem unI {f : Value → Sem Value} {g : Int → Int}
    (rule : ∀ (i : Int) (t : Tok) (s : Shared) (Q : Value → Shared → Prop) (E : Value → Shared → Prop), Q (.int (g i) s.toks) { s with toks := s.toks + 1 } → wpAny (model X.prog X.w) X.A (f (.int i t)) Q E s) :
    UnR X f (rU fun i => .int (g i)) := by
  intro pins s σ H x v Q I rx h
  obtain ⟨i, rfl, q⟩ := h
  obtain ⟨t, rfl⟩ := rx
  exact rule i t s _ _ ⟨.int (g i), H, I.tok _, ⟨_, rfl⟩, q⟩
theorem un_neg : UnR X (unaryOp .USub) (rU fun i => .int (-i)) := unI fun _ _ _ _ _ q => neg_int q
end
def scal : V → V → Bool
  | .non, .non => true | .non, .int _ => true | .int _, .non => true | .non, .bl _ => true | .bl _, .non => true | .non, .str _ => true | .str _, .non => true
  | .int _, .int _ => true | .bl _, .bl _ => true | .str _, .str _ => true | .byt _, .byt _ => true
  | .int _, .str _ => true | .str _, .int _ => true | .bl _, .str _ => true | .str _, .bl _ => true
  | _, _ => false
def rEq : R2 := fun x y H Q => scal x y = true ∧ Q (.bl (decide (x = y))) H
def rNe : R2 := fun x y H Q => scal x y = true ∧ Q (.bl (!decide (x = y))) H
theorem dec_int {i j : Int} : decide (V.int i = V.int j) = (i == j) := by
  rw [Bool.eq_iff_iff]
  simp
theorem dec_bl {i j : Bool} : decide (V.bl i = V.bl j) = (i == j) := by
  rw [Bool.eq_iff_iff]
  simp
theorem dec_str {i j : Str} : decide (V.str i = V.str j) = (i == j) := by
  rw [Bool.eq_iff_iff]
  simp
theorem dec_byt {i j : Array UInt8} : decide (V.byt i = V.byt j) = (i.toList == j.toList) := by
  rw [Bool.eq_iff_iff]
  cases i
  cases j
  simp
section
variable {X : Cx} {a b c : Expr} {ta tb tc : TE} {pos : Pos}
theorem fin_bl {pins : List (Addr × Obj)} {σ : St} {H : Hp} {s : Shared} {Q : VK} {k k' : Bool} (I : Inv X pins σ H s) (q : Q (.bl k) H) (e : k = k') : EP X pins σ Q (.bool k') s := by
  subst e
  exact ⟨.bl k, H, I, rfl, q⟩
theorem op_eq : OpR X (compareOp .Eq) rEq := by
  intro pins s σ H x y v u Q I rx ry h
  obtain ⟨hs, q⟩ := h
  cases x with
  | non =>
    cases rx
    cases y with
    | non => cases ry; exact PySem.EqNone.eq_none_none (fin_bl I q (by simp))
    | bl j => cases ry; exact PySem.EqNone.eq_none_bool (fin_bl I q (by simp))
    | int j => obtain ⟨t', rfl⟩ := ry; exact PySem.EqNone.eq_none_int (fin_bl I q (by simp))
    | str j => obtain ⟨t', rfl⟩ := ry; exact PySem.EqNone.eq_none_str (fin_bl I q (by simp))
    | _ => exact absurd (show false = true from hs) Bool.false_ne_true
  | bl i =>
    cases rx
    cases y with
    | non => cases ry; exact PySem.EqNone.eq_bool_none (fin_bl I q (by simp))
    | bl j => cases ry; exact eq_bool (fin_bl I q dec_bl)
    | str j => obtain ⟨t', rfl⟩ := ry; exact PySem.EqMixed.eq_bool_str (fin_bl I q (by simp))
    | _ => exact absurd (show false = true from hs) Bool.false_ne_true
  | int i =>
    obtain ⟨t, rfl⟩ := rx
    cases y with
    | non => cases ry; exact PySem.EqNone.eq_int_none (fin_bl I q (by simp))
    | int j => obtain ⟨t', rfl⟩ := ry; exact eq_int (fin_bl I q dec_int)
    | str j => obtain ⟨t', rfl⟩ := ry; exact PySem.EqMixed.eq_int_str (fin_bl I q (by simp))
    | _ => exact absurd (show false = true from hs) Bool.false_ne_true
  | str i =>
    obtain ⟨t, rfl⟩ := rx
    cases y with
    | non => cases ry; exact PySem.EqNone.eq_str_none (fin_bl I q (by simp))
    | bl j => cases ry; exact PySem.EqMixed.eq_str_bool (fin_bl I q (by simp))
    | int j => obtain ⟨t', rfl⟩ := ry; exact PySem.EqMixed.eq_str_int (fin_bl I q (by simp))
    | str j => obtain ⟨t', rfl⟩ := ry; exact eq_str (fin_bl I q dec_str)
    | _ => exact absurd (show false = true from hs) Bool.false_ne_true
  | byt i =>
    obtain ⟨t, rfl⟩ := rx
    cases y with
    | byt j => obtain ⟨t', rfl⟩ := ry; exact PySem.W.eq_bytes (fin_bl I q dec_byt)
    | _ => exact absurd (show false = true from hs) Bool.false_ne_true
  | _ => cases y <;> exact absurd (show false = true from hs) Bool.false_ne_true
theorem op_ne : OpR X (compareOp .NotEq) rNe := by
  intro pins s σ H x y v u Q I rx ry h
  obtain ⟨hs, q⟩ := h
  cases x with
  | non =>
    cases rx
    cases y with
    | non => cases ry; exact PySem.EqNone.ne_none_none (fin_bl I q (by simp))
    | bl j => cases ry; exact PySem.EqNone.ne_none_bool (fin_bl I q (by simp))
    | int j => obtain ⟨t', rfl⟩ := ry; exact PySem.EqNone.ne_none_int (fin_bl I q (by simp))
    | str j => obtain ⟨t', rfl⟩ := ry; exact PySem.EqNone.ne_none_str (fin_bl I q (by simp))
    | _ => exact absurd (show false = true from hs) Bool.false_ne_true
  | bl i =>
    cases rx
    cases y with
    | non => cases ry; exact PySem.EqNone.ne_bool_none (fin_bl I q (by simp))
    | bl j => cases ry; exact ne_bool (fin_bl I q (congrArg not dec_bl))
    | str j => obtain ⟨t', rfl⟩ := ry; exact PySem.EqMixed.ne_bool_str (fin_bl I q (by simp))
    | _ => exact absurd (show false = true from hs) Bool.false_ne_true
  | int i =>
    obtain ⟨t, rfl⟩ := rx
    cases y with
    | non => cases ry; exact PySem.EqNone.ne_int_none (fin_bl I q (by simp))
    | int j => obtain ⟨t', rfl⟩ := ry; exact ne_int (fin_bl I q (congrArg not dec_int))
    | str j => obtain ⟨t', rfl⟩ := ry; exact PySem.EqMixed.ne_int_str (fin_bl I q (by simp))
    | _ => exact absurd (show false = true from hs) Bool.false_ne_true
  | str i =>
    obtain ⟨t, rfl⟩ := rx
    cases y with
    | non => cases ry; exact PySem.EqNone.ne_str_none (fin_bl I q (by simp))
    | bl j => cases ry; exact PySem.EqMixed.ne_str_bool (fin_bl I q (by simp))
    | int j => obtain ⟨t', rfl⟩ := ry; exact PySem.EqMixed.ne_str_int (fin_bl I q (by simp))
    | str j => obtain ⟨t', rfl⟩ := ry; exact ne_str (fin_bl I q (congrArg not dec_str))
    | _ => exact absurd (show false = true from hs) Bool.false_ne_true
  | byt i =>
    obtain ⟨t, rfl⟩ := rx
    cases y with
    | byt j => obtain ⟨t', rfl⟩ := ry; exact PySem.W.ne_bytes (fin_bl I q (congrArg not dec_byt))
    | _ => exact absurd (show false = true from hs) Bool.false_ne_true
  | _ => cases y <;> exact absurd (show false = true from hs) Bool.false_ne_true
theorem op_lt : OpR X (compareOp .Lt) (rI0 fun i j => .bl (decide (i < j))) := opB0 fun _ _ _ _ _ _ _ q => lt_int q
theorem op_le : OpR X (compareOp .LtE) (rI0 fun i j => .bl (decide (i ≤ j))) := opB0 fun _ _ _ _ _ _ _ q => le_int q
theorem op_gt : OpR X (compareOp .Gt) (rI0 fun i j => .bl (decide (j < i))) := opB0 fun _ _ _ _ _ _ _ q => gt_int q
theorem op_isN : OpR X (compareOp .Is) (fun x y H Q => y = .non ∧ Q (.bl (decide (x = .non))) H) := by
  intro pins s σ H x y v u Q I rx ry h
  obtain ⟨rfl, q⟩ := h
  cases ry
  refine is_none_gen (fin_bl I q ?_)
  cases x <;> first
    | (cases rx; rfl)
    | (obtain ⟨t, rfl⟩ := rx; rfl)
theorem nomark (b : Expr) {op : CmpOp} (h : op ≠ .In := by decide) (h2 : op ≠ .NotIn := by decide) : behindInMarks op b = false := by
  have e1 : (op == CmpOp.In) = false := by cases op <;> first | rfl | exact absurd rfl h
  have e2 : (op == CmpOp.NotIn) = false := by cases op <;> first | rfl | exact absurd rfl h2
  cases b <;> simp [behindInMarks, e1, e2]
theorem pe_cmpR {op : CmpOp} {r : R2} (ho : OpR X (compareOp op) r) (ha : PE X a ta) (hb : PE X b tb) (hm : behindInMarks op b = false) : PE X (.Compare a [op] [b] pos) (tOp r ta tb) := by
  intro pins s σ H Q I h
  exact wpAny_Compare1 (binT ha hb I h fun v u s2 x y H2 I2 rx ry q => ho pins s2 σ H2 x y v u Q I2 rx ry q) hm
def tTest (t : TE) : TT := fun σ H Q => t σ H fun x H' => ∃ k, x = .bl k ∧ Q k H'
theorem pt_cmpR {op : CmpOp} {r : R2} (ho : OpR X (compareOp op) r) (ha : PE X a ta) (hb : PE X b tb) (hm : behindInMarks op b = false) : PT X (.Compare a [op] [b] pos) (tTest (tOp r ta tb)) := by
  intro pins s σ H Q I h
  refine wpAny_isTrue_Compare1 (thn (ha pins s σ H _ I h) fun v s1 ⟨x, H1, I1, r1, q1⟩ => thn (hb pins s1 σ H1 _ I1 q1) fun u s2 ⟨y, H2, I2, r2, q2⟩ =>
    thn (ho pins s2 σ H2 x y v u _ I2 r1 r2 q2) fun c s3 ⟨z, H3, I3, r3, k, e, q3⟩ => ?_) hm
  subst e
  cases r3
  exact wpAny_truthy_bool ⟨H3, I3, q3⟩
def TruV (K : PySem.W.Frag) (x : V) (H : Hp) (k : Bool) : Prop :=
  match x with
  | .non => k = false
  | .bl b => k = b
  | .int i => k = (i != 0)
  | .str y => y.length ≤ sizeLine ∧ k = ((y.length : Int) != 0)
  | .byt y => y.size ≤ sizeLine ∧ k = ((y.size : Int) != 0)
  | .ref p => (∃ xs, SqL K H p xs ∧ k = !xs.isEmpty) ∨ (∃ xs, SqT K H p xs ∧ k = !xs.isEmpty) ∨ ∃ kvs, H p = some (.dK kvs) ∧ k = !kvs.isEmpty
  | _ => False
theorem isEmpty_kv {κ : Type} {kvs : List (κ × V)} {vs : List (κ × Value)} (r : KV kvs vs) : (!vs.isEmpty) = !kvs.isEmpty := by
  cases r <;> rfl
theorem isEmpty_of {xs : List V} {its : List Value} (r : Vals xs its) : (!its.toArray.isEmpty) = !xs.isEmpty := by
  cases r <;> simp
theorem line63 : (sizeLine : Nat) < 2 ^ 63 := by rw [sizeLine_eq]; decide
theorem tru_ok : TruR X (fun x H Q => ∃ k, TruV X.K x H k ∧ Q k H) := by
  intro pins s σ H x v Q I rx h
  obtain ⟨k, e, q⟩ := h
  have hl := line63
  have hs : sizeLine = 16777216 := sizeLine_eq
  cases x with
  | non =>
    cases rx
    have e' : k = false := e
    subst e'
    exact truthy_none ⟨H, I, q⟩
  | bl b =>
    cases rx
    have e' : k = b := e
    subst e'
    exact wpAny_truthy_bool ⟨H, I, q⟩
  | int i =>
    obtain ⟨t, rfl⟩ := rx
    have e' : k = (i != 0) := e
    subst e'
    exact PySem.P.truthy_int ⟨H, I, q⟩
  | str y =>
    obtain ⟨t, rfl⟩ := rx
    obtain ⟨hy, e'⟩ : y.length ≤ sizeLine ∧ k = ((y.length : Int) != 0) := e
    subst e'
    exact PySem.P.truthy_str (by omega) ⟨H, I.tok _, q⟩
  | byt y =>
    obtain ⟨t, rfl⟩ := rx
    obtain ⟨hy, e'⟩ : y.size ≤ sizeLine ∧ k = ((y.size : Int) != 0) := e
    subst e'
    exact PySem.W.truthy_bytes (by omega) ⟨H, I.tok _, q⟩
  | ref p =>
    cases rx
    have e' : (∃ xs, SqL X.K H p xs ∧ k = !xs.isEmpty) ∨ (∃ xs, SqT X.K H p xs ∧ k = !xs.isEmpty) ∨ ∃ kvs, H p = some (.dK kvs) ∧ k = !kvs.isEmpty := e
    rcases e' with ⟨xs, hx, e'⟩ | ⟨xs, hx, e'⟩ | ⟨kvs, hx, e'⟩
    · subst e'
      obtain ⟨its, r, pl, hz⟩ := I.list hx
      have hlen := r.length
      exact wpAny_truthy_list pl.isList (by simp only [List.size_toArray]; omega) ⟨H, I.tok _, by rw [isEmpty_of r]; exact q⟩
    · subst e'
      obtain ⟨its, r, pl, hz⟩ := I.tuple hx
      have hlen := r.length
      exact truthy_tuple pl (by simp only [List.size_toArray]; omega) ⟨H, I.tok _, by rw [isEmpty_of r]; exact q⟩
    · subst e'
      obtain ⟨hz, hS, vs, r, m⟩ : kvs.length ≤ sizeLine ∧ (p == sysModules) = false ∧ ∃ vs, KV kvs vs ∧ s.heap.DictOf (mixKind X.prog X.w) p vs := I.hok p _ hx
      have hlen : kvs.length = vs.length := Paired.length r
      exact wpAny_truthy_dict hS m (by omega) ⟨H, I.tok _, by rw [isEmpty_kv r]; exact q⟩
  | _ => exact (show False from e).elim
theorem pt_truth (ha : PE X a ta) (he : ∀ whole, isTrue a X.env whole = (do let v ← whole; standAt a.pos; holding [v] (truthy v))) :
    PT X a (fun σ H Q => ta σ H fun x H' => ∃ k, TruV X.K x H' k ∧ Q k H') := by
  intro pins s σ H Q I h
  exact isTrue_plain (thn (ha pins s σ H _ I h) fun v s1 ⟨x, H1, I1, r1, q1⟩ => tru_ok pins s1 σ H1 x v Q I1 r1 q1) (he _)
theorem vals1 {x : V} {us : List Value} (r : Vals [x] us) : ∃ u, us = [u] ∧ RelV x u := by
  cases r with
  | cons r1 r2 => cases r2; exact ⟨_, rfl, r1⟩
theorem vals2 {x y : V} {us : List Value} (r : Vals [x, y] us) : ∃ u w', us = [u, w'] ∧ RelV x u ∧ RelV y w' := by
  cases r with
  | cons r1 r2 =>
    cases r2 with
    | cons r3 r4 => cases r4; exact ⟨_, _, rfl, r1, r3⟩
theorem call_max2 (hc : X.calm = true) : CallR X (.builtin "max") (fun xs H Q => ∃ i j, xs = [.int i, .int j] ∧ Q (.int (if j > i then j else i)) H) := by
  intro pins s σ H xs us Q I r h
  obtain ⟨i, j, rfl, q⟩ := h
  obtain ⟨u, w', rfl, ⟨t, rfl⟩, ⟨t', rfl⟩⟩ := vals2 r
  refine max_two_ints (I.ok.hd hc) fun h' tk k => ⟨_, H, I.kept k, ?_, q⟩
  by_cases hj : j > i
  · rw [if_pos hj, if_pos hj]; exact ⟨_, rfl⟩
  · rw [if_neg hj, if_neg hj]; exact ⟨_, rfl⟩
theorem call_min2 (hc : X.calm = true) : CallR X (.builtin "min") (fun xs H Q => ∃ i j, xs = [.int i, .int j] ∧ Q (.int (if j < i then j else i)) H) := by
  intro pins s σ H xs us Q I r h
  obtain ⟨i, j, rfl, q⟩ := h
  obtain ⟨u, w', rfl, ⟨t, rfl⟩, ⟨t', rfl⟩⟩ := vals2 r
  refine min_two_ints (I.ok.hd hc) fun h' tk k => ⟨_, H, I.kept k, ?_, q⟩
  by_cases hj : j < i
  · rw [if_pos hj, if_pos hj]; exact ⟨_, rfl⟩
  · rw [if_neg hj, if_neg hj]; exact ⟨_, rfl⟩
end
end L2
namespace L2
open PySem PySem.Spec PyProof.Rows
structure ObjM (h : Heap) (x dx C : Addr) (mA : Str → Option Value) : Prop where
  obj : h.get? x = some (PySem.W.instObj C dx)
  ns : h.Ns1 dx mA
  ne : dx ≠ x
theorem lookIn_ns {h : Heap} {dx : Addr} {mA : Str → Option Value} (n : h.Ns1 dx mA) : ∃ od, h.get? dx = some od ∧ ∀ name, PySem.W.lookIn name od = some (mA name) := by
  obtain ⟨o, es, ep, ho, hd, hk, _, hm⟩ := n
  refine ⟨o, ho, fun name => ?_⟩
  have e := hm name
  unfold nsFind findBy at e
  rw [← Array.find?_toList] at e
  unfold PySem.W.lookIn
  rw [hd]
  dsimp only
  split
  · rename_i y q
    rw [q] at e
    exact congrArg some e
  · rename_i q
    rw [q] at e
    have a : es.toList.any (·.refKey) = false := by
      rw [List.any_eq_false]
      intro y hy
      obtain ⟨z, t, hkey⟩ := hk y (Array.mem_toList_iff.mp hy)
      simp [DictEntry.refKey, hkey]
    have a' : ¬ es.toList.any (·.refKey) = true := by rw [a]; exact Bool.false_ne_true
    rw [if_neg a']
    exact congrArg some e
theorem ObjM.look {h : Heap} {x dx C : Addr} {mA : Str → Option Value} (I : ObjM h x dx C mA) : ∃ od, PySem.W.InstAt h x (PySem.W.instObj C dx) C (some od) ∧ ∀ name, PySem.W.lookIn name od = some (mA name) :=
  let ⟨od, ho, hl⟩ := lookIn_ns I.ns
  ⟨od, ⟨I.obj, rfl, rfl, ho⟩, hl⟩
section
variable {prog : Program} {w : World} {A : Around} {E : Value → Shared → Prop} {s : Shared} {K : PySem.W.Frag} {x dx C f : Addr} {mA : Str → Option Value} {name : Str} {v : Value}
theorem get_map {expr : Bool} {Q : Value → Shared → Prop} (X : K.In s.heap) (I : ObjM s.heap x dx C mA) (hg : PySem.W.plainGet K C name = true) (hh : PySem.W.hasDictIn K C = true)
    (ha : PySem.W.findIn K (.ref C) name = some none) (hv : mA name = some v) (hv' : PySem.W.handedIn v = true) (h : Q v { s with toks := s.toks + 1 }) :
    wpAny (model prog w) A (getAttr (.ref x) name expr) Q E s := by
  obtain ⟨od, J, hl⟩ := I.look
  exact PySem.W.get_value X J (PySem.W.plainGet_of hg).1 (PySem.W.findObj_own hh ha rfl (by rw [hl, hv])) hv' h
theorem get_meth {pl : Sem Bool} {Q : Value × List Value → Shared → Prop} (X : K.In s.heap) (I : ObjM s.heap x dx C mA) (hg : PySem.W.plainGet K C name = true)
    (hf : PySem.W.findIn K (.ref C) name = some (some (.ref f))) (ht : PySem.W.isFn K (.ref f) = true) (hv : mA name = none) (h : Q (.ref f, [.ref x]) s) :
    wpAny (model prog w) A (getMethod (.ref x) name pl) Q E s := by
  obtain ⟨od, J, hl⟩ := I.look
  exact PySem.W.method_fn X J (PySem.W.plainGet_of hg).1 (PySem.W.plainGet_of hg).2 hf (beq_iff_eq.mp ht) (by show (PySem.W.lookIn name od).map (·.isSome) = some false; rw [hl, hv]; rfl) h
theorem set_map {ns : List Str} {Q : Unit → Shared → Prop} (X : K.In s.heap) (I : ObjM s.heap x dx C mA)
    (hs : PySem.W.findIn K (.ref C) "__setattr__" = some (some (.builtin "object.__setattr__"))) (hp : PySem.W.plainOver K C = true) (ht : PySem.W.takerIn K C name = some none) (hh : PySem.W.hasDictIn K C = true)
    (hw : PySem.Within mA ns) (hsz : ns.length ≤ sizeLine)
    (h : ∀ h', ObjM h' x dx C (fun y => if y = name then some v else mA y) → Heap.SameBut dx s.heap h' → Q () { s with heap := h', toks := s.toks + 2 }) :
    wpAny (model prog w) A (setAttr (.ref x) name v) Q E s := by
  obtain ⟨od, J, hl⟩ := I.look
  refine PySem.W.set_plain X J hs (PySem.W.osa_open (s := { s with toks := s.toks + 1 }) (r := none) X J hp ht fun b => ?_)
  obtain ⟨cd, hc, hd'⟩ := PySem.W.any_some hh
  have hx : s.heap.get? x = some ⟨.ref C, some dx, .plain, #[]⟩ := I.obj
  refine wpAny_bind (wpAny_pure (wpAny_bind (wpAny_bind (wpAny_loadPart hx (wpAny_bind (PySem.W.Looks.here (s := { s with toks := s.toks + 1 }) (PySem.W.looks_clsIn X hc) ?_))))))
  rw [hd']
  refine wpAny_pure (a := some dx) (wpAny_bind (wpAny_pure (wpAny_bind ?_)))
  refine wpAny_nsSet1 (s := { s with toks := s.toks + 1 }) I.ns fun h' hn2 hs2 => ?_
  obtain ⟨oD, esD, epD, hoD, hdD, hcD⟩ := hn2.count (PySem.Within.cons name v hw)
  refine wpAny_bind (wpAny_lookBehind hoD (by rw [hdD]; exact pastItsLine_dict (Nat.le_trans hcD (by rw [List.length_cons]; omega))) ?_)
  exact wpAny_pure (h _ ⟨(hs2.2 _ (Ne.symm I.ne)).trans I.obj, hn2, I.ne⟩ hs2)
theorem make_map {R : Result → Shared → Prop} {vs : List Value} {kw : List (Str × Value)} (X : K.In s.heap) (hm : PySem.W.makesIn K C = true)
    (hi : PySem.W.findIn K (.ref C) "__init__" = some (some (.ref f))) (hf : PySem.W.typeIn K (.ref f) = some (.type "function"))
    (h : codeAny (model prog w) (A.under (.builtin "type.__call__" ⟨.ref C :: vs, kw⟩)) (.call (.ref f) ⟨.ref (s.heap.objs.size + 1) :: vs, kw⟩) (PySem.W.InitBack (s.heap.objs.size + 1) R)
      { s with heap := (s.heap.push PySem.W.emptyDict).push (PySem.W.instObj C s.heap.objs.size) }) :
    codeAny (model prog w) A (.call (.ref C) ⟨vs, kw⟩) R s := by
  obtain ⟨hh, g, d, t, os⟩ := s
  exact PySem.W.make_core (PySem.W.makes_of X hm) (PySem.W.looks_findIn X hi) (fun self => PySem.W.bind_fn X self hf) (.inl rfl) h
end
def putF (f : Str) (v : V) : List (Str × V) → List (Str × V)
  | [] => [(f, v)]
  | (g, x) :: r => if g = f then (g, v) :: r else (g, x) :: putF f v r
theorem lookup_putF (f g : Str) (v : V) : ∀ fs : List (Str × V), (putF f v fs).lookup g = if g = f then some v else fs.lookup g
  | [] => by
    show List.lookup g [(f, v)] = _
    by_cases h : g = f
    · have hb : (g == f) = true := beq_iff_eq.mpr h
      simp only [List.lookup, hb, if_pos h]
    · have hb : (g == f) = false := beq_eq_false_iff_ne.mpr h
      simp only [List.lookup, hb, if_neg h]
  | (k, x) :: r => by
    have ih := lookup_putF f g v r
    rw [show putF f v ((k, x) :: r) = (if k = f then (k, v) :: r else (k, x) :: putF f v r) from rfl]
    by_cases hk : k = f
    · rw [if_pos hk]
      by_cases h : g = k
      · have hb : (g == k) = true := beq_iff_eq.mpr h
        simp only [List.lookup, hb, if_pos (h.trans hk)]
      · have hb : (g == k) = false := beq_eq_false_iff_ne.mpr h
        simp only [List.lookup, hb, if_neg (fun e : g = f => h (e.trans hk.symm))]
    · rw [if_neg hk]
      by_cases h : g = k
      · have hb : (g == k) = true := beq_iff_eq.mpr h
        simp only [List.lookup, hb, if_neg (fun e : g = f => hk (h.symm.trans e))]
      · have hb : (g == k) = false := beq_eq_false_iff_ne.mpr h
        simp only [List.lookup, hb]
        exact ih
theorem keys_putF (f : Str) (v : V) : ∀ fs : List (Str × V), f ∈ (putF f v fs).map (·.1) ∧ ∀ g, g ∈ fs.map (·.1) → g ∈ (putF f v fs).map (·.1)
  | [] => ⟨by simp [putF], fun g h => by simp at h⟩
  | (k, x) :: r => by
    obtain ⟨i1, i2⟩ := keys_putF f v r
    rw [show putF f v ((k, x) :: r) = (if k = f then (k, v) :: r else (k, x) :: putF f v r) from rfl]
    by_cases hk : k = f
    · rw [if_pos hk]
      subst hk
      exact ⟨by simp, fun g h => by simpa using h⟩
    · rw [if_neg hk]
      refine ⟨?_, fun g h => ?_⟩
      · rw [List.map_cons]
        exact List.mem_cons_of_mem _ i1
      · rw [List.map_cons] at h ⊢
        rcases List.mem_cons.mp h with e | e
        · exact List.mem_cons.mpr (.inl e)
        · exact List.mem_cons_of_mem _ (i2 g e)
theorem length_putF (f : Str) (v : V) : ∀ fs : List (Str × V), (putF f v fs).length ≤ fs.length + 1
  | [] => by simp [putF]
  | (k, x) :: r => by
    have ih := length_putF f v r
    rw [show putF f v ((k, x) :: r) = (if k = f then (k, v) :: r else (k, x) :: putF f v r) from rfl]
    by_cases hk : k = f
    · rw [if_pos hk, List.length_cons, List.length_cons]; omega
    · rw [if_neg hk, List.length_cons, List.length_cons]; omega
theorem RelO.some_of {v : V} {o : Option Value} (r : RelO (some v) o) : ∃ u, o = some u ∧ RelV v u := by
  cases o with
  | none => exact (show False from r).elim
  | some u => exact ⟨u, rfl, r⟩
theorem RelO.none_of {o : Option Value} (r : RelO none o) : o = none := by
  cases o with
  | none => rfl
  | some u => exact (show False from r).elim
theorem handed_of {v : V} {u : Value} (r : RelV v u) : PySem.W.handedIn u = true := by
  cases v with
  | non => cases (show u = Value.none from r); rfl
  | bl b => cases (show u = Value.bool b from r); rfl
  | int i => obtain ⟨t, e⟩ := (show ∃ t, u = Value.int i t from r); cases e; rfl
  | str x => obtain ⟨t, e⟩ := (show ∃ t, u = Value.str x t from r); cases e; rfl
  | byt b => obtain ⟨t, e⟩ := (show ∃ t, u = Value.bytes b t from r); cases e; rfl
  | flt b => obtain ⟨t, e⟩ := (show ∃ t, u = Value.float b t from r); cases e; rfl
  | ref a => cases (show u = Value.ref a from r); rfl
  | ty n => cases (show u = Value.type n from r); rfl
section
variable {P : Program} {w : World} {H H' : Hp} {h h' : Heap} {a C dx : Addr} {fs fs' : List (Str × V)}
theorem ins_get (hok : HOk P w H h) (e : H a = some (.ins C dx fs)) : ∃ mA, ObjM h a dx C mA ∧ (∀ f, RelO (fs.lookup f) (mA f)) ∧ PySem.Within mA (fs.map (·.1)) ∧ fs.length ≤ 1000 ∧ H dx = some (.own a) := by
  obtain ⟨d, z, ne, ob, mA, n, r, q⟩ := (show ObjOk P w H h a (.ins C dx fs) from hok a _ e)
  exact ⟨mA, ⟨ob, n, ne⟩, r, q, z, d⟩
end
structure Cls (K : PySem.W.Frag) (C : Addr) : Prop where
  pg : PySem.W.plainGet K C Str.empty = true
  hd : PySem.W.hasDictIn K C = true
  po : PySem.W.plainOver K C = true
  sa : PySem.W.findIn K (.ref C) "__setattr__" = some (some (.builtin "object.__setattr__"))
theorem Cls.get {K : PySem.W.Frag} {C : Addr} (c : Cls K C) (f : Str) : PySem.W.plainGet K C f = true := c.pg
def NoAttr (K : PySem.W.Frag) (C : Addr) (f : Str) : Prop := PySem.W.findIn K (.ref C) f = some none
theorem NoAttr.taker {K : PySem.W.Frag} {C : Addr} {f : Str} (n : NoAttr K C f) : PySem.W.takerIn K C f = some none := by
  unfold PySem.W.takerIn
  rw [show PySem.W.findIn K (.ref C) f = some none from n]
  rfl
structure Meth (K : PySem.W.Frag) (C : Addr) (m : Str) (f : Addr) : Prop where
  at_ : PySem.W.findIn K (.ref C) m = some (some (.ref f))
  fn : PySem.W.isFn K (.ref f) = true
  kp : PySem.W.keepIn K (.ref f) = true
section
variable {X : Cx} {pins : List (Addr × Obj)} {σ : St} {H : Hp} {s : Shared} {a C dx : Addr} {fs : List (Str × V)} {f : Str} {v : V} {A : Around} {E : Value → Shared → Prop}
theorem getattr_ok {b : Bool} {Q : Value → Shared → Prop} (I : Inv X pins σ H s) (e : H a = some (.ins C dx fs)) (c : Cls X.K C) (n : NoAttr X.K C f) (l : fs.lookup f = some v)
    (h : ∀ u s', Inv X pins σ H s' → RelV v u → Q u s') : wpAny (model X.prog X.w) A (getAttr (.ref a) f b) Q E s := by
  obtain ⟨mA, O, r, _, _, _⟩ := ins_get I.hok e
  obtain ⟨u, hu, ru⟩ := RelO.some_of (v := v) (o := mA f) (by rw [← l]; exact r f)
  exact get_map I.kIn O (c.get f) c.hd n hu (handed_of ru) (h u _ (I.tok _) ru)
theorem getmeth_ok {m : Str} {g : Addr} {pl : Sem Bool} {Q : Value × List Value → Shared → Prop} (I : Inv X pins σ H s) (e : H a = some (.ins C dx fs)) (c : Cls X.K C) (k : Meth X.K C m g) (l : fs.lookup m = none)
    (h : Q (.ref g, [.ref a]) s) : wpAny (model X.prog X.w) A (getMethod (.ref a) m pl) Q E s := by
  obtain ⟨mA, O, r, _, _, _⟩ := ins_get I.hok e
  have hn : mA m = none := RelO.none_of (by rw [← l]; exact r m)
  exact get_meth I.kIn O (c.get m) k.at_ k.fn hn h
theorem setattr_ok {y : V} {u : Value} {Q : Unit → Shared → Prop} (I : Inv X pins σ H s) (e : H a = some (.ins C dx fs)) (c : Cls X.K C) (n : NoAttr X.K C f) (hl : fs.length < 1000) (ry : RelV y u)
    (h : ∀ s', Inv X pins σ (upd H a (.ins C dx (putF f y fs))) s' → Q () s') : wpAny (model X.prog X.w) A (setAttr (.ref a) f u) Q E s := by
  obtain ⟨mA, O, r, wi, _, ho⟩ := ins_get I.hok e
  have hz : (fs.map (·.1)).length ≤ sizeLine := by rw [List.length_map, sizeLine_eq]; omega
  refine set_map I.kIn O c.sa c.po n.taker c.hd wi hz fun h' O' sb => h _ ?_
  have hd : ∃ o, h'.get? dx = some o := let ⟨o, _, _, e', _⟩ := O'.ns; ⟨o, e'⟩
  refine I.write (x := a) (e := dx) (by rw [e]; exact True.intro) (.inr ho) (fun b q hb z => (sb.2 b hb).trans z) hd ?_
  refine ⟨by rw [upd_ne O.ne]; exact ho, ?_, O.ne, O'.obj, _, O'.ns, fun g => ?_, fun g hg => ?_⟩
  · have := length_putF f y fs; omega
  · show RelO ((putF f y fs).lookup g) (if g = f then some u else mA g)
    rw [lookup_putF]
    by_cases q : g = f
    · rw [if_pos q, if_pos q]; exact ry
    · rw [if_neg q, if_neg q]; exact r g
  · by_cases q : g = f
    · rw [q]; exact (keys_putF f y fs).1
    · refine (keys_putF f y fs).2 g (wi g fun z => hg ?_)
      show (if g = f then some u else mA g) = none
      rw [if_neg q]; exact z
theorem Inv.made (I : Inv X pins σ H s) : Inv X pins σ (upd (upd H s.heap.objs.size (.own (s.heap.objs.size + 1))) (s.heap.objs.size + 1) (.ins C s.heap.objs.size []))
    { s with heap := (s.heap.push PySem.W.emptyDict).push (PySem.W.instObj C s.heap.objs.size) } := by
  have e1 : (s.heap.push PySem.W.emptyDict).get? s.heap.objs.size = some PySem.W.emptyDict := Heap.get?_push_size s.heap rfl
  have e2 : ((s.heap.push PySem.W.emptyDict).push (PySem.W.instObj C s.heap.objs.size)).get? (s.heap.objs.size + 1) = some (PySem.W.instObj C s.heap.objs.size) := by
    have := Heap.get?_push_size (s.heap.push PySem.W.emptyDict) (o := PySem.W.instObj C s.heap.objs.size) rfl
    rwa [Heap.size_push] at this
  have e3 : (s.heap.push PySem.W.emptyDict).Ns s.heap.objs.size (fun _ => none) := ⟨PySem.W.emptyDict, #[], _, e1, rfl, (fun e he => absurd he (by simp)), fun _ => rfl⟩
  have I1 := I.laid (a := s.heap.objs.size) (o := .own (s.heap.objs.size + 1)) (h' := s.heap.push PySem.W.emptyDict) (t' := s.toks) (fun b u q => Heap.get?_push_of_some _ q) (Nat.le_refl _) ⟨_, e1⟩
  refine I1.laid (a := s.heap.objs.size + 1) (o := .ins C s.heap.objs.size []) (t' := s.toks) (fun b u q => Heap.get?_push_of_some _ q) (Nat.le_of_eq (Heap.size_push _ _)) ?_
  have ne : s.heap.objs.size ≠ s.heap.objs.size + 1 := Nat.ne_of_lt (Nat.lt_succ_self _)
  refine ⟨by rw [upd_ne ne, upd_same], Nat.zero_le _, ne, e2, fun _ => none, (Heap.Ns1.of_empty e3).at fun o q => Heap.get?_push_of_some _ q, fun _ => True.intro, fun y hy => absurd rfl hy⟩
theorem attr_of {prog : Program} {w : World} {env : Env} {e : Expr} {f : Str} {pos : Pos} {s : Shared} {Q : Value → Shared → Prop} (hb : attributeBase e f env (eval e env) = eval e env)
    (h : wpAny (model prog w) A (eval e env) (fun o s₁ => wpAny (model prog w) A (getAttr o f true) Q E s₁) E s) : wpAny (model prog w) A (eval (.Attribute e f pos) env) Q E s :=
  Attribute_any_ h (by rw [arm_eval_Attribute, hb])
end
def tFld (K : PySem.W.Frag) (ta : TE) (f : Str) : TE := fun σ H Q => ta σ H fun x H1 => ∃ a C dx fs v, x = .ref a ∧ H1 a = some (.ins C dx fs) ∧ Cls K C ∧ NoAttr K C f ∧ fs.lookup f = some v ∧ Q v H1
def sFld (K : PySem.W.Frag) (ta tv : TE) (f : Str) : TS := fun D σ H => tv σ H fun y H1 => ta σ H1 fun x H2 => ∃ a C dx fs, x = .ref a ∧ H2 a = some (.ins C dx fs) ∧ Cls K C ∧ NoAttr K C f ∧ fs.length < 1000 ∧
  D.nx σ (upd H2 a (.ins C dx (putF f y fs)))
section
variable {X : Cx} {o e value : Expr} {f : Str} {pos pos' tpos : Pos} {ta tv : TE}
theorem pe_fld (he : PE X e ta) (hb : attributeBase e f X.env (eval e X.env) = eval e X.env) : PE X (.Attribute e f pos) (tFld X.K ta f) := by
  intro pins s σ H Q I h
  refine attr_of hb (thn (he pins s σ H _ I h) fun u s1 ⟨x, H1, I1, rx, a, C, dx, fs, v, ex, ea, c, n, l, q⟩ => ?_)
  subst ex
  obtain rfl : u = Value.ref a := rx
  exact getattr_ok I1 ea c n l fun u' s2 I2 ru => ⟨v, H1, I2, ru, q⟩
theorem ps_fld (ha : PE X o ta) (hv : PE X value tv) (hs : swapsWith value (some (.Attribute o f pos')) pos.line X.env = pure false) : PS X (.Assign [.Attribute o f pos'] value pos) (sFld X.K ta tv f) := by
  intro pins s σ H D I h
  refine plainObj_wpAny_Assign_Attribute (thn (hv pins s σ H _ I h) fun u s1 ⟨y, H1, I1, ry, q⟩ => thn (ha pins s1 σ H1 _ I1 q) fun ov s2 ⟨x, H2, I2, rx, a, C, dx, fs, ex, ea, c, n, l, q2⟩ => ?_) hs
  subst ex
  obtain rfl : ov = Value.ref a := rx
  exact setattr_ok I2 ea c n l ry fun s3 I3 => ⟨σ, _, I3, q2⟩
end
section
variable {X : Cx} {pins : List (Addr × Obj)} {σ : St} {H : Hp} {s : Shared} {A : Around} {E : Value → Shared → Prop} {Q : Value → Shared → Prop} {c : Value} {b : Bool}
end
end L2
namespace L2
open PySem PySem.Spec PyProof.Rows
structure Room (k : Nat) (A : Around) : Prop where
  hd : A.handled = none
  dp : A.depth + 3 * k + 5 < recursionLimit
  un : A.units + 16 * k + 200 < cLine
theorem Room.mono {j k : Nat} {A : Around} (r : Room k A) (h : j ≤ k) : Room j A := ⟨r.hd, by have := r.dp; omega, by have := r.un; omega⟩
theorem Room.deeper {k : Nat} {A : Around} (r : Room (k + 1) A) (env : Env) : Room k (A.deeper env) :=
  ⟨r.hd, by have := r.dp; show A.depth + 1 + 3 * k + 5 < _; omega, by have := r.un; show A.units + 3 + 16 * k + 200 < _; omega⟩
theorem make_depth {A : Around} {C : Addr} {us : List Value} {kw : List (Str × Value)} : (A.under (.builtin "type.__call__" ⟨.ref C :: us, kw⟩)).depth = A.depth + 1 := by
  first | rfl | simp [Around.under, Code.weight, Code.isCreation, Code.isGuard, Code.isCaller, Code.frames, Code.isFrame, guardIds]
theorem make_units {A : Around} {C : Addr} {us : List Value} {kw : List (Str × Value)} : (A.under (.builtin "type.__call__" ⟨.ref C :: us, kw⟩)).units = A.units + 1 := by
  first | rfl | simp [Around.under, Code.cUnits, Code.frames, Code.isFrame]
theorem Room.make {k : Nat} {A : Around} (r : Room (k + 1) A) (C : Addr) (us : List Value) (kw : List (Str × Value)) : Room k (A.under (.builtin "type.__call__" ⟨.ref C :: us, kw⟩)) :=
  ⟨r.hd, by have := r.dp; rw [make_depth]; omega, by have := r.un; rw [make_units]; omega⟩
theorem Room.depth {k : Nat} {A : Around} (r : Room k A) : A.depth < recursionLimit := by have := r.dp; omega
def tNil : TA := fun _ H Q => Q [] H
def tCons (ta : TE) (tr : TA) : TA := fun σ H Q => ta σ H fun x H1 => tr σ H1 fun xs H2 => Q (x :: xs) H2
section
variable {X : Cx} {e : Expr} {es : List Expr} {te : TE} {t : TA} {pos : Pos}
theorem pa_nil : PA X [] tNil := fun _ _ _ _ H Q I h => Calls.spliced_nil ⟨[], H, I, .nil, h⟩
theorem pa_cons (ha : PE X e te) (hr : PA X es t) (hs : starEach (e :: es) X.env = (false, eval e X.env) :: starEach es X.env := by rfl) : PA X (e :: es) (tCons te t) := by
  intro pos pins s σ H Q I h
  rw [hs]
  show wpAny _ _ (spliced ((false, eval e X.env) :: backTo pos (starEach es X.env))) _ _ s
  refine Calls.spliced_cons (thn (ha pins s σ H _ I h) fun u s1 ⟨x, H1, I1, r1, q1⟩ => ?_)
  exact thn (hr pos pins s1 σ H1 _ I1 q1) fun us s2 ⟨xs, H2, I2, r2, q2⟩ => ⟨x :: xs, H2, I2, .cons r1 r2, q2⟩
def tTup (t : TA) : TE := fun σ H Q => t σ H fun xs H1 => xs.length ≤ sizeLine ∧ ∀ p, H1 p = none → Q (.ref p) (upd H1 p (.tup xs))
def tLst (t : TA) : TE := fun σ H Q => t σ H fun xs H1 => xs.length ≤ sizeLine ∧ ∀ p, H1 p = none → Q (.ref p) (upd H1 p (.lst xs))
theorem pe_tup {x1} (h : PA X es t) : PE X (.Tuple es x1 pos) (tTup t) := by
  intro pins s σ H Q I hq
  refine wpAny_Tuple_spliced (thn (h pos pins s σ H _ I hq) fun us s1 ⟨xs, H1, I1, r, z, q⟩ => ⟨by rw [← r.length]; exact z, ?_⟩)
  have hf : H1 s1.heap.objs.size = none := I1.hok.fresh (Nat.le_refl _)
  refine ⟨.ref s1.heap.objs.size, upd H1 s1.heap.objs.size (.tup xs), I1.laid (t' := s1.toks) (fun b u e => Heap.get?_push_of_some _ e) (Nat.le_refl _) ?_, rfl, q _ hf⟩
  exact ⟨z, us, r, ⟨_, Heap.get?_push_size _ rfl, rfl, _, rfl⟩⟩
theorem pe_lst (h : PA X es t) : PE X (.List es pos) (tLst t) := by
  intro pins s σ H Q I hq
  refine wpAny_List_spliced (thn (h pos pins s σ H _ I hq) fun us s1 ⟨xs, H1, I1, r, z, q⟩ => ⟨by rw [← r.length]; exact z, ?_⟩)
  have hf : H1 s1.heap.objs.size = none := I1.hok.fresh (Nat.le_refl _)
  refine ⟨.ref s1.heap.objs.size, upd H1 s1.heap.objs.size (.lst xs), I1.laid (t' := s1.toks) (fun b u e => Heap.get?_push_of_some _ e) (Nat.le_refl _) ?_, rfl, q _ hf⟩
  exact ⟨z, us, 0, r, Heap.get?_push_size _ rfl⟩
end
abbrev Sp := List V → Hp → VK → XK → Prop
abbrev CXT := List Env → Hp → Shared → XK → Value → Shared → Prop
structure Env0 (P : Program) (w : World) (K : PySem.W.Frag) (mg : Str → Option Value) (base : Heap) (A : Around) (outer : List Env) (s : Shared) (H : Hp) : Prop where
  frames : A.frames = some outer
  mod : Mod K mg base
  bs : ∀ b o, base.get? b = some o → s.heap.get? b = some o ∧ H b = none
  bsz : base.objs.size ≤ s.heap.objs.size
  funs : s.heap.FunFrames base outer
  frf : ∀ b ∈ frs outer, H b = none
  hok : HOk P w H s.heap
  bare : AllBare s.gens
def CE (outer : List Env) (P : Program) (w : World) (H : Hp) (s : Shared) (Q : VK) (u : Value) (s' : Shared) : Prop :=
  ∃ v H', s'.os = s.os ∧ AllBare s'.gens ∧ Un (frs outer) [] H H' s.heap s'.heap ∧ HOk P w H' s'.heap ∧ RelV v u ∧ Q v H'
def CR (CX : CXT) (outer : List Env) (P : Program) (w : World) (H : Hp) (s : Shared) (Q : VK) (E : XK) (r : Result) (s' : Shared) : Prop :=
  match r with
  | .ok (.ret u) => CE outer P w H s Q u s'
  | .ok _ => False
  | .error e => CX outer H s E e s'
structure FnOk (P : Program) (w : World) (K : PySem.W.Frag) (mg : Str → Option Value) (base : Heap) (CX : CXT) (k : Nat) (f : Addr) (fd : FuncData) (ps : List Str) (sp : Sp) : Prop where
  len : ∀ vs H Q E, sp vs H Q E → vs.length = ps.length
  run : ∀ (A : Around) (outer : List Env) (s : Shared) (H : Hp) (args : Args) (us : List Value) (vs : List V) (Q : VK) (E : XK), Room k A → Env0 P w K mg base A outer s H → BindsTo s fd args (ps.zip us) → Vals vs us → sp vs H Q E →
    codeAny (model P w) A (.call (.ref f) args) (CR CX outer P w H s Q E) s
theorem Env0.make {P : Program} {w : World} {K : PySem.W.Frag} {mg : Str → Option Value} {base : Heap} {A : Around} {outer : List Env} {s : Shared} {H : Hp} (e : Env0 P w K mg base A outer s H) (C : Addr) (us : List Value) (kw : List (Str × Value)) :
    Env0 P w K mg base (A.under (.builtin "type.__call__" ⟨.ref C :: us, kw⟩)) outer s H := ⟨by first | exact e.frames | (simpa [Around.under, Code.envs, Code.isFrame, pushEnvs] using e.frames), e.mod, e.bs, e.bsz, e.funs, e.frf, e.hok, e.bare⟩
section
variable {X : Cx} {pins : List (Addr × Obj)} {σ : St} {H : Hp} {s s' : Shared}
theorem Inv.env0 (I : Inv X pins σ H s) : Env0 X.prog X.w X.K X.mg X.base X.A X.stack s H :=
  ⟨I.ok.frames, I.ok.mod, I.bs, Nat.le_trans I.ok.bsz I.sz, I.stack, I.stkFree, I.hok, I.bare⟩
theorem Inv.after {Q : VK} {u : Value} (I : Inv X pins σ H s) (h : CE X.stack X.prog X.w H s Q u s') : EP X pins σ Q u s' := by
  obtain ⟨v, H', os, bare, un, hok, r, q⟩ := h
  obtain ⟨hh, g, d, t, os'⟩ := s'
  obtain rfl : os' = s.os := os
  exact ⟨v, H', I.call (h' := hh) (g' := g) (d' := d) (t' := t) (ch := []) un hok bare (fun b z => absurd z (by simp)), r, q⟩
end
def tCall (sp : Sp) (dvs : List V) (E : XK) (t : TA) : TE := fun σ H Q => t σ H fun vs H1 => sp (vs ++ dvs) H1 Q E
def tMeth (C : Addr) (m : Str) (sp : Sp) (dvs : List V) (E : XK) (ta : TE) (t : TA) : TE := fun σ H Q => ta σ H fun x H1 => ∃ a dx fs, x = .ref a ∧ H1 a = some (.ins C dx fs) ∧ fs.lookup m = none ∧
  t σ H1 fun vs H2 => sp (x :: (vs ++ dvs)) H2 Q E
def tMake (C : Addr) (sp : Sp) (dvs : List V) (E : XK) (t : TA) : TE := fun σ H Q => t σ H fun vs H1 => ∀ x dx, H1 x = none → H1 dx = none → dx ≠ x →
  sp (.ref x :: (vs ++ dvs)) (upd (upd H1 dx (.own x)) x (.ins C dx [])) (fun v H2 => v = .non ∧ Q (.ref x) H2) E
def Binds (K : PySem.W.Frag) (fd : FuncData) (ps : List Str) (ds : List Value) : Prop :=
  ∀ (s : Shared) (us : List Value), K.In s.heap → (us ++ ds).length = ps.length → BindsTo s fd ⟨us, []⟩ (ps.zip (us ++ ds))
theorem Binds.all {K : PySem.W.Frag} {fd : FuncData} {ps : List Str} (h : ∀ us : List Value, us.length = ps.length → bindArgs fd ⟨us, []⟩ = pure (ps.zip us)) : Binds K fd ps [] := fun s us _ hl => by
  rw [List.append_nil] at hl ⊢
  exact .of_eq (h us hl)
def Passes (CX : CXT) (X : Cx) (E : XK) : Prop := ∀ (pins : List (Addr × Obj)) (σ : St) (H : Hp) (s : Shared) (e : Value) (s' : Shared), Inv X pins σ H s → CX X.stack H s E e s' → X.xe e s'
section
variable {X : Cx} {CX : CXT} {k : Nat} {f C : Addr} {fd : FuncData} {ps : List Str} {sp : Sp} {dvs : List V} {ds : List Value} {E : XK} {x m : Str} {p pos apos : Pos} {e o : Expr} {es : List Expr} {ta : TE} {t : TA}
theorem run_fn {pins : List (Addr × Obj)} {σ : St} {H : Hp} {s : Shared} {Q : VK} {us : List Value} {vs : List V} (F : FnOk X.prog X.w X.K X.mg X.base CX k f fd ps sp) (hr : Room k X.A) (hb : Binds X.K fd ps ds) (hd : Vals dvs ds) (hx : Passes CX X E)
    (I : Inv X pins σ H s) (r : Vals vs us) (h : sp (vs ++ dvs) H Q E) : wpAny (model X.prog X.w) X.A (call (.ref f) us) (EP X pins σ Q) X.xe s := by
  have r2 : Vals (vs ++ dvs) (us ++ ds) := r.append hd
  have hl : (us ++ ds).length = ps.length := by rw [← r2.length]; exact F.len _ _ _ _ h
  refine wpAny_call (codeAny_mono (F.run X.A X.stack s H ⟨us, []⟩ (us ++ ds) (vs ++ dvs) Q E hr I.env0 (hb s us I.kIn hl) r2 h) fun r s' hq => ?_)
  cases r with
  | error e => exact hx pins σ H s e s' I hq
  | ok fl =>
    cases fl with
    | ret u => exact I.after hq
    | next => exact False.elim hq
    | brk => exact False.elim hq
    | cont => exact False.elim hq
theorem pe_call (F : FnOk X.prog X.w X.K X.mg X.base CX k f fd ps sp) (hr : Room k X.A) (hg : Gl X x) (hm : X.mg x = some (.ref f)) (hk : PySem.W.keepIn X.K (.ref f) = true) (hb : Binds X.K fd ps ds) (hd : Vals dvs ds) (hx : Passes CX X E)
    (ha : PA X (e :: es) t) (hdb : (x == ("__debug__" : Str)) = false := by decide) (he : starEach (e :: es) X.env = (false, eval e X.env) :: starEach es X.env := by rfl) (hpl : (backTo pos (starEach es X.env)).any (·.1) = false := by rfl) :
    PE X (.Call (.Name x p) (e :: es) [] pos) (tCall sp dvs E t) := by
  intro pins s σ H Q I h
  refine wpAny_Call_Name_kw (ld_glob I hg hm ?_ hdb)
  refine PySem.W.callWith_K (h₀ := X.base) I.ok.mod.kin hk (thn (ha pos pins s σ H _ I h) fun us s1 ⟨vs, H1, I1, r, q⟩ => ⟨I1.kIn, ?_⟩) he hpl
  exact run_fn F hr hb hd hx I1 r q
theorem pe_meth {pl : Sem Bool} (he : PE X o ta) (c : Cls X.K C) (hm : Meth X.K C m f) (F : FnOk X.prog X.w X.K X.mg X.base CX k f fd ps sp) (hr : Room k X.A) (hb : Binds X.K fd ps ds) (hd : Vals dvs ds) (hx : Passes CX X E) (ha : PA X (e :: es) t)
    (hst : starEach (e :: es) X.env = (false, eval e X.env) :: starEach es X.env := by rfl) (hpl : (backTo pos (starEach es X.env)).any (·.1) = false := by rfl)
    (ht : eval (.Call (.Attribute o m apos) (e :: es) [] pos) X.env = (do
      let ov ← eval o X.env
      standAt apos.atName
      let (f, first) ← holding [ov] (getMethod ov m pl)
      callWith pos f first (backTo pos (starEach (e :: es) X.env)) (backToKw pos (keywordEach [] X.env))) := by rfl) :
    PE X (.Call (.Attribute o m apos) (e :: es) [] pos) (tMeth C m sp dvs E ta t) := by
  intro pins s σ H Q I h
  refine PySem.W.methodCall_KW (pl := pl) (thn (he pins s σ H _ I h) fun u s1 ⟨x, H1, I1, rx, a, dx, fs, ex, ea, l, q⟩ => ?_) ht
  subst ex
  obtain rfl : u = Value.ref a := rx
  refine getmeth_ok I1 ea c hm l ?_
  refine PySem.W.callWith_K (first := [.ref a]) (h₀ := X.base) I.ok.mod.kin hm.kp (thn (ha pos pins s1 σ H1 _ I1 q) fun us s2 ⟨vs, H2, I2, r, q2⟩ => ⟨I2.kIn, ?_⟩) hst hpl
  exact run_fn (us := .ref a :: us) (vs := .ref a :: vs) F hr hb hd hx I2 (.cons rfl r) q2
theorem pe_meth0 {pl : Sem Bool} (he : PE X o ta) (c : Cls X.K C) (hm : Meth X.K C m f) (F : FnOk X.prog X.w X.K X.mg X.base CX k f fd ps sp) (hr : Room k X.A) (hb : Binds X.K fd ps ds) (hd : Vals dvs ds) (hx : Passes CX X E)
    (ht : eval (.Call (.Attribute o m apos) [] [] pos) X.env = (do
      let ov ← eval o X.env
      standAt apos.atName
      let (f, first) ← holding [ov] (getMethod ov m pl)
      callWith pos f first (backTo pos (starEach [] X.env)) (backToKw pos (keywordEach [] X.env))) := by rfl) :
    PE X (.Call (.Attribute o m apos) [] [] pos) (tMeth C m sp dvs E ta tNil) := by
  intro pins s σ H Q I h
  refine PySem.W.methodCall_KW (pl := pl) (thn (he pins s σ H _ I h) fun u s1 ⟨x, H1, I1, rx, a, dx, fs, ex, ea, l, q⟩ => ?_) ht
  subst ex
  obtain rfl : u = Value.ref a := rx
  refine getmeth_ok I1 ea c hm l ?_
  exact PySem.W.callWith_K0 (first := [.ref a]) I1.kIn hm.kp (run_fn (us := [.ref a]) (vs := [.ref a]) F hr hb hd hx I1 (.cons rfl .nil) q)
structure Mk (K : PySem.W.Frag) (C f : Addr) : Prop where
  makes : PySem.W.makesIn K C = true
  init : PySem.W.findIn K (.ref C) "__init__" = some (some (.ref f))
  fn : PySem.W.isFn K (.ref f) = true
  kp : PySem.W.keepIn K (.ref C) = true
theorem run_make {pins : List (Addr × Obj)} {σ : St} {H : Hp} {s : Shared} {Q : VK} {us : List Value} {vs : List V} (M : Mk X.K C f) (F : FnOk X.prog X.w X.K X.mg X.base CX k f fd ps sp) (hr : Room (k + 1) X.A) (hb : Binds X.K fd ps ds) (hd : Vals dvs ds)
    (hx : Passes CX X E) (I : Inv X pins σ H s) (r : Vals vs us)
    (h : ∀ x dx, H x = none → H dx = none → dx ≠ x → sp (.ref x :: (vs ++ dvs)) (upd (upd H dx (.own x)) x (.ins C dx [])) (fun v H2 => v = .non ∧ Q (.ref x) H2) E) :
    wpAny (model X.prog X.w) X.A (call (.ref C) us) (EP X pins σ Q) X.xe s := by
  have hq := h (s.heap.objs.size + 1) s.heap.objs.size (I.hok.fresh (Nat.le_succ _)) (I.hok.fresh (Nat.le_refl _)) (Nat.ne_of_lt (Nat.lt_succ_self _))
  have I2 := Inv.made (C := C) I
  have r2 : Vals (V.ref (s.heap.objs.size + 1) :: (vs ++ dvs)) (Value.ref (s.heap.objs.size + 1) :: (us ++ ds)) := .cons rfl (r.append hd)
  have hl : (Value.ref (s.heap.objs.size + 1) :: us ++ ds).length = ps.length := by
    have e := r2.length
    rw [F.len _ _ _ _ hq] at e
    exact e.symm
  refine wpAny_call (make_map (f := f) I.kIn M.makes M.init (beq_iff_eq.mp M.fn) (codeAny_mono (F.run _ X.stack _ _ ⟨Value.ref (s.heap.objs.size + 1) :: us, []⟩ (Value.ref (s.heap.objs.size + 1) :: (us ++ ds)) _ _ E (hr.make C us [])
    (I2.env0.make C us []) (hb _ (Value.ref (s.heap.objs.size + 1) :: us) I2.kIn hl) r2 hq) fun r s' hq' => ?_))
  cases r with
  | error e => exact hx pins σ _ _ e s' I2 hq'
  | ok fl =>
    cases fl with
    | ret u =>
      obtain ⟨v, H', I3, rv, ev, q3⟩ := I2.after hq'
      subst ev
      exact ⟨rv, ⟨V.ref (s.heap.objs.size + 1), H', I3, rfl, q3⟩⟩
    | next => exact False.elim hq'
    | brk => exact False.elim hq'
    | cont => exact False.elim hq'
theorem pe_make (M : Mk X.K C f) (F : FnOk X.prog X.w X.K X.mg X.base CX k f fd ps sp) (hr : Room (k + 1) X.A) (hg : Gl X x) (hm : X.mg x = some (.ref C)) (hb : Binds X.K fd ps ds) (hd : Vals dvs ds) (hx : Passes CX X E)
    (ha : PA X (e :: es) t) (hdb : (x == ("__debug__" : Str)) = false := by decide) (he : starEach (e :: es) X.env = (false, eval e X.env) :: starEach es X.env := by rfl) (hpl : (backTo pos (starEach es X.env)).any (·.1) = false := by rfl) :
    PE X (.Call (.Name x p) (e :: es) [] pos) (tMake C sp dvs E t) := by
  intro pins s σ H Q I h
  refine wpAny_Call_Name_kw (ld_glob I hg hm ?_ hdb)
  refine PySem.W.callWith_K (h₀ := X.base) I.ok.mod.kin M.kp (thn (ha pos pins s σ H _ I h) fun us s1 ⟨vs, H1, I1, r, q⟩ => ⟨I1.kIn, ?_⟩) he hpl
  exact run_make M F hr hb hd hx I1 r q
end
section
variable {X : Cx} {CX : CXT} {k : Nat} {f C : Addr} {fd : FuncData} {ps ks : List Str} {sp : Sp} {E : XK} {x m : Str} {p pos apos kpos : Pos} {e o : Expr} {es : List Expr} {kws : List Keyword} {te ta : TE} {t tk : TA} {nm : Option Str}
variable {g : List Value → List Value → List Value} {gV : List V → List V → List V}
end
structure FnScope (N P : List Str) (sc : Scope) : Prop where
  kind : sc.kind = .function
  co : sc.isCoroutine = false
  gen : sc.isGenerator = false
  nd : N.Nodup
  pre : N.take P.length = P
  par : ∀ x ∈ P, sc.names.lookup x = some .local ∨ sc.names.lookup x = some .cell
  nofree : ∀ y ∈ sc.names, y.2 ≠ .free
theorem bindL_out {kindOf : Str → Option NameKind} {x : Str} : ∀ {binds : List (Str × Value)} {m : Str → Option Value}, (∀ v, (x, v) ∉ binds) → bindL kindOf binds m x = m x
  | [], _, _ => rfl
  | (n, v) :: r, m, h => by
    unfold bindL
    rw [bindL_out fun w hw => h w (List.mem_cons_of_mem _ hw)]
    split
    · have : x ≠ n := by rintro rfl; exact h v List.mem_cons_self
      simp [this]
    · rfl
theorem bindC_out {kindOf : Str → Option NameKind} {x : Str} : ∀ {binds : List (Str × Value)} {m : Str → Option Value}, (∀ v, (x, v) ∉ binds) → bindC kindOf binds m x = m x
  | [], _, _ => rfl
  | (n, v) :: r, m, h => by
    unfold bindC
    rw [bindC_out fun w hw => h w (List.mem_cons_of_mem _ hw)]
    split
    · rfl
    · have : x ≠ n := by rintro rfl; exact h v List.mem_cons_self
      simp [this]
theorem bindL_get {kindOf : Str → Option NameKind} {x : Str} {v : Value} : ∀ {P : List Str} {vs : List Value} {i : Nat} {m : Str → Option Value}, P.Nodup → P[i]? = some x → vs[i]? = some v → kindOf x = some .local →
    bindL kindOf (P.zip vs) m x = some v
  | [], _, _, _, _, h, _, _ => by simp at h
  | _ :: _, [], _, _, _, _, h, _ => by simp at h
  | p :: P, w :: vs, 0, m, nd, h1, h2, hk => by
    simp at h1 h2; subst h1; subst h2
    show bindL kindOf ((p, w) :: P.zip vs) m p = _
    unfold bindL
    rw [bindL_out fun v hv => (List.nodup_cons.mp nd).1 (List.of_mem_zip hv).1, if_pos hk]
    simp
  | p :: P, w :: vs, i + 1, m, nd, h1, h2, hk => by
    show bindL kindOf ((p, w) :: P.zip vs) m x = _
    unfold bindL
    exact bindL_get (i := i) (List.nodup_cons.mp nd).2 (by simpa using h1) (by simpa using h2) hk
theorem bindC_get {kindOf : Str → Option NameKind} {x : Str} {v : Value} : ∀ {P : List Str} {vs : List Value} {i : Nat} {m : Str → Option Value}, P.Nodup → P[i]? = some x → vs[i]? = some v → kindOf x ≠ some .local →
    bindC kindOf (P.zip vs) m x = some v
  | [], _, _, _, _, h, _, _ => by simp at h
  | _ :: _, [], _, _, _, _, h, _ => by simp at h
  | p :: P, w :: vs, 0, m, nd, h1, h2, hk => by
    simp at h1 h2; subst h1; subst h2
    show bindC kindOf ((p, w) :: P.zip vs) m p = _
    unfold bindC
    rw [bindC_out fun v hv => (List.nodup_cons.mp nd).1 (List.of_mem_zip hv).1, if_neg hk]
    simp
  | p :: P, w :: vs, i + 1, m, nd, h1, h2, hk => by
    show bindC kindOf ((p, w) :: P.zip vs) m x = _
    unfold bindC
    exact bindC_get (i := i) (List.nodup_cons.mp nd).2 (by simpa using h1) (by simpa using h2) hk
def start (N : List Str) (vs : List V) : St := vs.map some ++ List.replicate (N.length - vs.length) none
def cxOf (CX : CXT) (P : Program) (w : World) (K : PySem.W.Frag) (mg : Str → Option Value) (base : Heap) (N : List Str) (qual : Str) (scope : Scope) (f : Addr) (cd : Value) (A : Around) (outer : List Env) (s : Shared) (H : Hp) (E : XK) : Cx where
  prog := P
  w := w
  K := K
  mg := mg
  base := base
  A := A.deeper (envOfC qual scope s.heap.objs.size f cd)
  N := N
  s₀ := s
  H₀ := H
  env := envOfC qual scope s.heap.objs.size f cd
  outer := outer
  stack := envOfC qual scope s.heap.objs.size f cd :: outer
  ex := []
  calm := true
  fn := fun _ => true
  pn := []
  xe := fun e s' => wpAny (model P w) (A.deeper (envOfC qual scope s.heap.objs.size f cd)) (leaving (envOfC qual scope s.heap.objs.size f cd) e) (fun _ s'' => CX outer H s E e s'') (fun e' s'' => CX outer H s E e' s'') s'
theorem cell_has {sc : Scope} {n : Nat} {x : Str} (h : sc.names.lookup x = some .cell) : ∃ c, (cellsFrom n sc.names []).lookup x = some c := by
  have q := PySem.W.cellsFrom_some sc.names n [] (.inl h)
  exact Option.isSome_iff_exists.mp q
theorem inv_start {CX : CXT} {P : Program} {w : World} {K : PySem.W.Frag} {mg : Str → Option Value} {base : Heap} {N ps : List Str} {qual : Str} {scope : Scope} {f : Addr} {cd : Value} {A : Around} {outer : List Env} {s s1 : Shared} {H : Hp} {E : XK} {us : List Value} {vs : List V}
    (S : FnScope N ps scope) (hd : A.handled = none) (e0 : Env0 P w K mg base A outer s H) (hl : vs.length = ps.length) (r : Vals vs us)
    (x : InCallC s s.heap.objs.size (bindL (envOfC qual scope s.heap.objs.size f cd).kindOf (ps.zip us) fun _ => none) (cellsFrom (s.heap.objs.size + 1) scope.names []) (bindC (envOfC qual scope s.heap.objs.size f cd).kindOf (ps.zip us) fun _ => none) s1) :
    Inv (cxOf CX P w K mg base N qual scope f cd A outer s H E) [] (start N vs) H s1 := by
  have hpl : ps.length ≤ N.length := by have := congrArg List.length S.pre; rw [List.length_take] at this; omega
  obtain ⟨h1, tk, rfl, hk⟩ := x.done
  have noA : ∀ b : Addr, b ∉ (cxOf CX P w K mg base N qual scope f cd A outer s H E).ex := fun b z => absurd (show b ∈ ([] : List Addr) from z) (by simp)
  refine ⟨⟨e0.mod, S.kind, rfl, rfl, Nat.le_refl _, fun y z c h1 h2 => ?_, fun y hy => ?_, fun y c _ h => ?_, fun _ => hd, Around.frames_deeper e0.frames, .inr ⟨rfl, rfl⟩, fun b z => absurd z (noA b), e0.bs, e0.bsz, fun b _ _ => noA b, fun b z => absurd z (noA b), e0.funs, e0.frf⟩,
    rfl, e0.bare, Un.kept hk, ⟨_, x.toInCall.ns, fun i y v h1 h2 h3 => ?_⟩, fun y c h => ⟨_, x.cell y c h⟩, e0.hok.fresh (Nat.le_refl _), fun y c h => ?_, fun p hp => absurd (show p ∈ ([] : List (Addr × Obj)) from hp) (by simp), e0.hok.kept hk, ?_⟩
  · exact name_of_addr x.apart (PySem.mem_of_lookup h1) (PySem.mem_of_lookup h2)
  · have hy : scope.names.lookup y = some .cell ∨ scope.names.lookup y = some .free := hy
    rcases hy with hy | hy
    · exact cell_has hy
    · exact absurd rfl (S.nofree _ (PySem.mem_of_lookup hy))
  · exact Nat.le_of_lt (x.above y c (PySem.mem_of_lookup h))
  · have hi : i < vs.length := by
      unfold start at h2
      by_cases hi : i < vs.length
      · exact hi
      · rw [List.getElem?_append_right (by simpa using hi)] at h2
        rw [List.getElem?_replicate] at h2
        split at h2 <;> cases h2
    have ha : vs[i]? = some v := by
      unfold start at h2
      rw [List.getElem?_append_left (by simpa using hi), List.getElem?_map] at h2
      cases e : vs[i]? with
      | none => rw [e] at h2; cases h2
      | some a => rw [e] at h2; cases h2; rfl
    obtain ⟨u, hu, rv⟩ := r.get ha
    have hp : ps[i]? = some y := by
      rw [← S.pre, List.getElem?_take_of_lt (by omega)]; exact h1
    have ndP : ps.Nodup := by rw [← S.pre]; exact S.nd.sublist (List.take_sublist _ _)
    refine ⟨u, rv, ?_⟩
    rcases S.par y (List.mem_of_getElem? hp) with k | k
    · exact .inl ⟨k, bindL_get ndP hp hu k⟩
    · obtain ⟨c, e⟩ := cell_has (n := s.heap.objs.size + 1) k
      refine .inr ⟨.inl k, c, e, ?_⟩
      have q := x.cell y c e
      rw [bindC_get ndP hp hu (by show scope.names.lookup y ≠ _; rw [k]; decide)] at q
      exact q
  · exact e0.hok.fresh (Nat.le_of_lt (x.above y c (PySem.mem_of_lookup h)))
  · unfold start
    show _ = N.length
    rw [List.length_append, List.length_map, List.length_replicate]
    omega
theorem fn_of {CX : CXT} {P : Program} {w : World} {K : PySem.W.Frag} {mg : Str → Option Value} {base : Heap} {k : Nat} {f : Addr} {name qual : Str} {params : Arguments} {body : List Stmt} {scope : Scope} {dV kV doc pm cdv ct oc : Value} {an od : Option Addr}
    {osl : Array (Option Value)} {N ps : List Str} {sp : Sp} (lk : K.lookup f = some ⟨oc, od, .func (PySem.W.fnOf name qual params body scope dV kV doc pm an cdv ct), osl⟩) (hcd : PySem.W.codeIn K cdv qual = true) (S : FnScope N ps scope)
    (len : ∀ vs H Q E, sp vs H Q E → vs.length = ps.length)
    (hbody : ∀ (A : Around) (outer : List Env) (s : Shared) (H : Hp) (vs : List V) (Q : VK) (E : XK), Room k (A.deeper (envOfC qual scope s.heap.objs.size f cdv)) → sp vs H Q E →
      ∃ t, PSs (cxOf CX P w K mg base N qual scope f cdv A outer s H E) body t ∧ t { nx := fun _ H' => Q .non H', rt := Q } (start N vs) H) :
    FnOk P w K mg base CX (k + 1) f (PySem.W.fnOf name qual params body scope dV kV doc pm an cdv ct) ps sp := by
  refine ⟨len, fun A outer s H args us vs Q E hr e0 hb r hsp => ?_⟩
  have hl := len _ _ _ _ hsp
  have KX : K.In s.heap := e0.mod.kin.keeps fun b o e => (e0.bs b o e).1
  have lim : s.heap.NoLimit := e0.mod.nolimit.keeps fun b o e => (e0.bs b o e).1
  have hkind : ∀ y ∈ ps.zip us, scope.names.lookup y.1 = some .local ∨ (scope.names.lookup y.1 = some .cell ∧ ((cellsFrom (s.heap.objs.size + 1) scope.names []).lookup y.1).isSome = true) := fun ⟨n, v⟩ hy => by
    rcases S.par n (List.of_mem_zip hy).1 with q | q
    · exact .inl q
    · exact .inr ⟨q, PySem.W.cellsFrom_some _ _ _ (.inl q)⟩
  refine codeAny_call_function hr.depth (KX _ _ lk) rfl S.co S.gen rfl (PySem.W.codeRec_of KX hcd) (hb _ _ _ _ ?_)
  refine wpAny_newFunctionEnv_cells S.kind hkind fun env he s1 x => ?_
  subst he
  refine ⟨lim.keeps x.toInCall.keep, codeAny_func ?_⟩
  obtain ⟨t, ht, hq⟩ := hbody A outer s H vs Q E (hr.deeper _) hsp
  have I : Inv (cxOf CX P w K mg base N qual scope f cdv A outer s H E) [] (start N vs) H s1 := inv_start S hr.hd e0 hl r x
  refine wpAny_mono (ht [] s1 (start N vs) H _ I hq) (fun fl s' hs => ?_) fun e s' hs => hs
  have fin : ∀ {σ' : St} {H' : Hp} {v : V} {u : Value}, Inv (cxOf CX P w K mg base N qual scope f cdv A outer s H E) [] σ' H' s' → RelV v u → Q v H' → CE outer P w H s Q u s' :=
    fun {σ' H' v u} J rv q => ⟨v, H', J.os, J.bare, J.base, J.hok, rv, q⟩
  cases fl with
  | ret u =>
    obtain ⟨v, σ', H', J, rv, q⟩ := hs
    exact fin J rv q
  | next =>
    obtain ⟨σ', H', J, q⟩ := hs
    exact fin (v := V.non) (u := Value.none) J rfl q
  | brk =>
    obtain ⟨_, _, _, q⟩ := hs
    exact False.elim q
  | cont =>
    obtain ⟨_, _, _, q⟩ := hs
    exact False.elim q
end L2
namespace L2
open PySem PySem.Spec PyProof.Rows
section
variable {X : Cx} {x : Str} {p pos : Pos} {e : Expr} {es : List Expr} {t : TA} {id T : String} {r : List V → Hp → VK → Prop}
def tCB (r : List V → Hp → VK → Prop) (t : TA) : TE := fun σ H Q => t σ H fun vs H1 => r vs H1 Q
theorem pe_callB (hc : CallR X (.builtin id) r) (hg : Gl X x) (hm : X.mg x = none) (hv : bootBuiltins x = some (.builtin id)) (ha : PA X (e :: es) t) (hn : x ≠ "__name__" := by decide) (hdb : (x == ("__debug__" : Str)) = false := by decide)
    (he : starEach (e :: es) X.env = (false, eval e X.env) :: starEach es X.env := by rfl) (hpl : (backTo pos (starEach es X.env)).any (·.1) = false := by rfl) : PE X (.Call (.Name x p) (e :: es) [] pos) (tCB r t) := by
  intro pins s σ H Q I h
  refine wpAny_Call_Name_kw (ld_blt I hg hm hv ?_ hn hdb)
  exact PyProof.Rows.callWith_builtin1 (thn (ha pos pins s σ H _ I h) fun us s1 ⟨vs, H1, I1, r1, q1⟩ => hc pins s1 σ H1 vs us Q I1 r1 q1) he hpl
theorem pe_callTy (hc : CallR X (.type T) r) (hg : Gl X x) (hm : X.mg x = none) (hv : bootBuiltins x = some (.type T)) (ha : PA X (e :: es) t) (hn : x ≠ "__name__" := by decide) (hdb : (x == ("__debug__" : Str)) = false := by decide)
    (he : starEach (e :: es) X.env = (false, eval e X.env) :: starEach es X.env := by rfl) (hpl : (backTo pos (starEach es X.env)).any (·.1) = false := by rfl) : PE X (.Call (.Name x p) (e :: es) [] pos) (tCB r t) := by
  intro pins s σ H Q I h
  refine wpAny_Call_Name_kw (ld_blt I hg hm hv ?_ hn hdb)
  exact PyProof.Rows.callWith_type1 (thn (ha pos pins s σ H _ I h) fun us s1 ⟨vs, H1, I1, r1, q1⟩ => hc pins s1 σ H1 vs us Q I1 r1 q1) he hpl
end
end L2
namespace HT
open PySem PyProof.Rows
section
open PySem.SeqAt
open PySem.AutoSeq1 (wpAny_loadPart')
open PySem.MeetsSeq PySem.MeetsSeq2 PySem.MeetsSeq3
end
section
variable {prog : Program} {w : World} {A : Around} {E : Value → Shared → Prop} {s : Shared}
def sIx (n d : Nat) : Option Int → Nat
  | none => d
  | some v => if v < 0 then (v + (n : Int)).toNat else min v.toNat n
theorem sIx_nat (n d k : Nat) : sIx n d (some (k : Int)) = min k n := by
  show (if (k : Int) < 0 then ((k : Int) + (n : Int)).toNat else min (k : Int).toNat n) = min k n
  rw [if_neg (by omega), Int.toNat_natCast]
end
end HT
namespace L2
open PySem PySem.Spec PyProof.Rows
abbrev TO := St → Hp → (Option Int → Hp → Prop) → Prop
def PO (X : Cx) (e : Option Expr) (t : TO) : Prop :=
  ∀ (pins : List (Addr × Obj)) (s : Shared) (σ : St) (H : Hp) (Q : Option Int → Hp → Prop), Inv X pins σ H s → t σ H Q →
    wpAny (model X.prog X.w) X.A (evalPart e X.env) (fun u s' => ∃ o H', Inv X pins σ H' s' ∧ IsPart u o ∧ Q o H') X.xe s
def tPart (t : TE) : TO := fun σ H Q => t σ H fun x H1 => ∃ i, x = .int i ∧ Q (some i) H1
section
variable {X : Cx} {e : Expr} {te : TE} {lo hi : Option Expr} {tl th : TO} {pos p2 : Pos}
theorem po_some (h : PE X e te) : PO X (some e) (tPart te) := by
  intro pins s σ H Q I hw
  rw [evalPart_some]
  refine thn (h pins s σ H _ I hw) fun u s1 ⟨x, H1, I1, r1, q1⟩ => ?_
  obtain ⟨i, rfl, q⟩ := q1
  obtain ⟨t, rfl⟩ := r1
  exact ⟨some i, H1, I1, .int i t, q⟩
def SlR (X : Cx) (r : V → Option Int → Option Int → Hp → VK → Prop) : Prop :=
  ∀ (pins : List (Addr × Obj)) (s : Shared) (σ : St) (H : Hp) (x : V) (v vl vu : Value) (lo hi : Option Int) (sl : Addr) (Q : VK), Inv X pins σ H s → RelV x v → s.heap.IsSliceOf sl vl vu .none → IsPart vl lo → IsPart vu hi → r x lo hi H Q →
    ∃ T id, typeLookup (.type T) "__getitem__" = pure (some (.builtin id)) ∧ s.TypeIs v T ∧ wpAny (model X.prog X.w) X.A (getItem v (.ref sl)) (EP X pins σ Q) X.xe s
def tSl (r : V → Option Int → Option Int → Hp → VK → Prop) (te : TE) (tl th : TO) : TE := fun σ H Q => te σ H fun x H1 => tl σ H1 fun l H2 => th σ H2 fun u H3 => r x l u H3 Q
theorem pe_slice {r : V → Option Int → Option Int → Hp → VK → Prop} (hr : SlR X r) (he : PE X e te) (hl : PO X lo tl) (hu : PO X hi th) : PE X (.Subscript e (.Slice lo hi none p2) pos) (tSl r te tl th) := by
  intro pins s σ H Q I h
  refine Subscript_ (thn (he pins s σ H _ I h) fun v s1 ⟨x, H1, I1, r1, q1⟩ => ?_)
  refine wpAny_Slice (thn (hl pins s1 σ H1 _ I1 q1) fun vl s2 ⟨l, H2, I2, pl, q2⟩ => thn (hu pins s2 σ H2 _ I2 q2) fun vu s3 ⟨u, H3, I3, pu, q3⟩ => ?_)
  rw [evalPart_none]
  refine wpAny_pure ?_
  have I4 : Inv X pins σ H3 { s3 with heap := s3.heap.push { cls := .type "slice", data := .fields #[vl, vu, .none] } } := I3.kept (t' := s3.toks) fun b ob q => Heap.get?_push_of_some _ q
  obtain ⟨T, id, hT, ht, hg⟩ := hr pins { s3 with heap := s3.heap.push { cls := .type "slice", data := .fields #[vl, vu, .none] } } σ H3 x v vl vu l u s3.heap.objs.size Q I4 r1 (Heap.IsSliceOf.new ..) pl pu q3
  show wpAny (model X.prog X.w) X.A (subscriptTail e (.Slice lo hi none p2) v (.ref s3.heap.objs.size)) (EP X pins σ Q) X.xe { s3 with heap := s3.heap.push { cls := .type "slice", data := .fields #[vl, vu, .none] } }
  exact tail_any (ops := [.ref s3.heap.objs.size, v]) ht hT hg (by with_unfolding_all rfl)
def cutV (xs : List V) (lo hi : Option Int) : List V := (xs.drop (HT.sIx xs.length 0 lo)).take (HT.sIx xs.length xs.length hi - HT.sIx xs.length 0 lo)
theorem cutV_length (xs : List V) (lo hi : Option Int) : (cutV xs lo hi).length ≤ xs.length := by
  unfold cutV
  rw [List.length_take, List.length_drop]
  omega
end
end L2
namespace L2
open PySem PySem.Spec PyProof.Rows
def ixN (n : Nat) (i : Int) : Option Nat := if 0 ≤ i then (if i < n then some i.toNat else none) else if -(n : Int) ≤ i then some (i + n).toNat else none
def atI {α : Type} (xs : List α) (i : Int) : Option α := (ixN xs.length i).bind fun j => xs[j]?
theorem ixN_seq {n : Nat} {i : Int} {j : Nat} (h : ixN n i = some j) : seqIndex? i n = some j ∧ j < n ∧ -(n : Int) ≤ i ∧ i < n := by
  unfold ixN at h
  by_cases h0 : 0 ≤ i
  · rw [if_pos h0] at h
    by_cases h1 : i < n
    · rw [if_pos h1] at h
      have e : i.toNat = j := Option.some.inj h
      exact ⟨by rw [seqIndex_of h0 h1, e], by omega, by omega, h1⟩
    · rw [if_neg h1] at h; cases h
  · rw [if_neg h0] at h
    by_cases h1 : -(n : Int) ≤ i
    · rw [if_pos h1] at h
      have e : (i + n).toNat = j := Option.some.inj h
      exact ⟨by rw [seqIndex_neg (by omega) h1, e], by omega, h1, by omega⟩
    · rw [if_neg h1] at h; cases h
theorem atI_get {α : Type} {xs : List α} {i : Int} {v : α} (h : atI xs i = some v) : ∃ j, seqIndex? i xs.length = some j ∧ xs[j]? = some v ∧ j < xs.length ∧ -(xs.length : Int) ≤ i ∧ i < xs.length := by
  unfold atI at h
  cases e : ixN xs.length i with
  | none => rw [e] at h; cases h
  | some j =>
    rw [e] at h
    obtain ⟨h1, h2, h3, h4⟩ := ixN_seq e
    exact ⟨j, h1, h, h2, h3, h4⟩
theorem atI_nat {α : Type} {xs : List α} {j : Nat} {v : α} (h : xs[j]? = some v) : atI xs (j : Int) = some v := by
  have hj : j < xs.length := (List.getElem?_eq_some_iff.mp h).1
  have e : ixN xs.length (j : Int) = some j := by
    unfold ixN
    rw [if_pos (by omega), if_pos (by omega)]; simp
  unfold atI; rw [e]; exact h
def PlainIx (b : Expr) : Prop := ∀ o i, subscripted b false o i = operate [o, i] (getItem o i)
def IxR (X : Cx) (r : R2) : Prop :=
  ∀ (value slice : Expr) (pins : List (Addr × Obj)) (s : Shared) (σ : St) (H : Hp) (x y : V) (v u : Value) (Q : VK), Inv X pins σ H s → RelV x v → RelV y u → r x y H Q →
    subscripted slice false v u = operate [v, u] (getItem v u) → wpAny (model X.prog X.w) X.A (subscriptTail value slice v u) (EP X pins σ Q) X.xe s
def MtR (X : Cx) (id : String) (r : V → List V → Hp → VK → Prop) : Prop :=
  ∀ (pins : List (Addr × Obj)) (s : Shared) (σ : St) (H : Hp) (x : V) (xs : List V) (v : Value) (us : List Value) (Q : VK), Inv X pins σ H s → RelV x v → Vals xs us → r x xs H Q →
    wpAny (model X.prog X.w) X.A (call (.builtin id) (v :: us)) (EP X pins σ Q) X.xe s
section
variable {X : Cx} {a b : Expr} {ta tb : TE} {pos : Pos}
theorem pe_ix {r : R2} (hr : IxR X r) (ha : PE X a ta) (hb : PE X b tb) (hs : PlainIx b) : PE X (.Subscript a b pos) (tOp r ta tb) := by
  intro pins s σ H Q I h
  exact Subscript_ (binT ha hb I h fun v u s2 x y H2 I2 rx ry q => hr a b pins s2 σ H2 x y v u Q I2 rx ry q (hs _ _))
def rIxL (K : PySem.W.Frag) : R2 := fun x y H Q => ∃ p xs i v, x = .ref p ∧ y = .int i ∧ SqL K H p xs ∧ atI xs i = some v ∧ Q v H
theorem ix_list : IxR X (rIxL X.K) := by
  intro value slice pins s σ H x y v u Q I rx ry h hs
  obtain ⟨p, xs, i, z, rfl, rfl, hq, he, q⟩ := h
  cases rx
  obtain ⟨t, rfl⟩ := ry
  obtain ⟨its, r, pl, hz⟩ := I.list hq
  obtain ⟨j, h1, h2, h3, h4, h5⟩ := atI_get he
  obtain ⟨w, ew, rw'⟩ := r.get h2
  have hl := r.length
  have hn := line63
  have fin : EP X pins σ Q w s := ⟨z, H, I, rw', q⟩
  by_cases h0 : 0 ≤ i
  · have hj : i.toNat = j := by
      rw [seqIndex_of h0 h5] at h1
      exact Option.some.inj h1
    exact item_listR pl.isList h0 (by omega) (by rw [hj]; simpa using ew) fin hs
  · have hj : (i + (its.toArray.size : Int)).toNat = j := by
      rw [seqIndex_neg (by omega) h4] at h1
      rw [List.size_toArray, ← hl]
      exact Option.some.inj h1
    exact subscriptTail_builtinR (x := w) pl.isList.typeIs slot_list_getitem.lookup
      (wpAny_getItem_list_neg (Q := fun r s' => r = w ∧ EP X pins σ Q r s') pl.isList (by omega) (by rw [List.size_toArray] <;> omega) (by omega) (by rw [hj]; simpa using ew) ⟨rfl, fin⟩) hs
theorem mapSeq_set (its : List Value) (n j : Nat) (u : Value) : Obj.mapSeq (·.setIfInBounds j u) { cls := .type "list", data := .seq its.toArray n } = { cls := .type "list", data := .seq (its.set j u).toArray n } := by
  simp [Obj.mapSeq]
theorem Inv.lst {pins : List (Addr × Obj)} {σ : St} {H : Hp} {s : Shared} {p : Addr} {xs : List V} (I : Inv X pins σ H s) (h : H p = some (.lst xs)) :
    ∃ (its : List Value) (n : Nat), Vals xs its ∧ s.heap.get? p = some { cls := .type "list", data := .seq its.toArray n } ∧ xs.length ≤ sizeLine := by
  obtain ⟨z, its, n, r, e⟩ := I.hok p _ h
  exact ⟨its, n, r, e, z⟩
theorem Inv.lstUpd {pins : List (Addr × Obj)} {σ : St} {H : Hp} {s : Shared} {p : Addr} {xs ys : List V} {its its' : List Value} {n n' : Nat} {f : Obj → Obj} (I : Inv X pins σ H s) (h : H p = some (.lst xs))
    (ho : s.heap.get? p = some { cls := .type "list", data := .seq its.toArray n }) (hf : f { cls := .type "list", data := .seq its.toArray n } = { cls := .type "list", data := .seq its'.toArray n' }) (r : Vals ys its') (hz : ys.length ≤ sizeLine) (t : Nat) :
    Inv X pins σ (upd H p (.lst ys)) { s with heap := s.heap.update p f, toks := t } := by
  have e : (s.heap.update p f).get? p = some { cls := .type "list", data := .seq its'.toArray n' } := by
    rw [Heap.get?_update_self f ho (by rw [hf] <;> rfl), hf]
  refine I.write (x := p) (e := p) (by rw [h]; trivial) (.inl rfl) (fun b u hb q => (Heap.get?_update_other _ _ (Ne.symm hb)).trans q) ⟨_, e⟩ ?_
  exact ⟨hz, its', n', r, e⟩
def rSetL : V → V → V → Hp → (Hp → Prop) → Prop := fun o i v H Q => ∃ p xs k j, o = .ref p ∧ i = .int k ∧ H p = some (.lst xs) ∧ ixN xs.length k = some j ∧ Q (upd H p (.lst (xs.set j v)))
theorem set_list : PSet X rSetL := by
  intro pins s σ H o i v ov iv u Q I ro ri rv h
  obtain ⟨p, xs, k, j, rfl, rfl, hp, hj, q⟩ := h
  cases ro
  obtain ⟨t, rfl⟩ := ri
  obtain ⟨its, n, r, ho, hz⟩ := I.lst hp
  obtain ⟨h1, h2, h3, h4⟩ := ixN_seq hj
  have hl := r.length
  have hn := line63
  have I' : Inv X pins σ (upd H p (.lst (xs.set j v))) { s with heap := s.heap.update p (Obj.mapSeq (·.setIfInBounds j u)) } :=
    I.lstUpd hp ho (mapSeq_set its n j u) (r.set rv j) (by rw [List.length_set]; exact hz) s.toks
  by_cases h0 : 0 ≤ k
  · have hk : k.toNat = j := by
      rw [seqIndex_of h0 h4] at h1
      exact Option.some.inj h1
    exact PySem.W.ki_setAt ho h0 (by omega) (by rw [List.size_toArray, ← hl]; exact h4) (by rw [hk]; exact ⟨_, I', q⟩)
  · have hk : (k + (its.toArray.size : Int)).toNat = j := by
      rw [seqIndex_neg (by omega) h3] at h1
      rw [List.size_toArray, ← hl]
      exact Option.some.inj h1
    exact PySem.W.ki_setBack ho (by omega) (by rw [List.size_toArray, ← hl]; exact h3) (by omega) (by rw [hk]; exact ⟨_, I', q⟩)
theorem slice_bounds (lo hi : Option Int) (n : Nat) : (sliceBounds lo hi none n).1 = ((HT.sIx n 0 lo : Nat) : Int) ∧ (sliceBounds lo hi none n).2.1 = ((HT.sIx n n hi : Nat) : Int) ∧ (sliceBounds lo hi none n).2.2 = 1 := by
  refine ⟨?_, ?_, rfl⟩
  · cases lo with
    | none => simp [sliceBounds, HT.sIx]
    | some i =>
      simp only [sliceBounds, HT.sIx, Option.getD_none, show (1 : Int) > 0 by decide, if_true]
      by_cases h : i < 0
      · simp only [h, if_true] <;> omega
      · simp only [h, if_false] <;> omega
  · cases hi with
    | none => simp [sliceBounds, HT.sIx]
    | some i =>
      simp only [sliceBounds, HT.sIx, Option.getD_none, show (1 : Int) > 0 by decide, if_true]
      by_cases h : i < 0
      · simp only [h, if_true] <;> omega
      · simp only [h, if_false] <;> omega
theorem slicePick_cut (its : List Value) (lo hi : Option Int) : slicePick its.toArray lo hi none = ((its.drop (HT.sIx its.length 0 lo)).take (HT.sIx its.length its.length hi - HT.sIx its.length 0 lo)).toArray := by
  obtain ⟨h1, h2, h3⟩ := slice_bounds lo hi its.toArray.size
  unfold slicePick
  rw [h1, h2, h3]
  simp only [sliceRange_one, pick_run, List.size_toArray] <;> rfl
def rSlL (K : PySem.W.Frag) : V → Option Int → Option Int → Hp → VK → Prop := fun x lo hi H Q => ∃ a xs, x = .ref a ∧ SqL K H a xs ∧ ∀ p, H p = none → Q (.ref p) (upd H p (.lst (cutV xs lo hi)))
theorem sl_list : SlR X (rSlL X.K) := by
  intro pins s σ H x v vl vu lo hi sl Q I rx hs pl pu h
  obtain ⟨a, xs, rfl, hx, q⟩ := h
  cases rx
  obtain ⟨its, r, ht, hz⟩ := I.list hx
  have hlen := r.length
  refine ⟨"list", _, slot_list_getitem.lookup, ht.isList.typeIs, ?_⟩
  refine wpAny_getItem_list_slice ht.isList hs pl pu .none (by simp) ?_ (by rw [List.size_toArray] <;> omega)
  rw [slicePick_cut, ← hlen]
  refine ⟨.ref s.heap.objs.size, _, I.laid (t' := s.toks) (o := .lst (cutV xs lo hi)) (fun b ob q => Heap.get?_push_of_some _ q) (Nat.le_refl _) ?_, rfl, q _ (I.hok.fresh (Nat.le_refl _))⟩
  exact ⟨Nat.le_trans (cutV_length xs lo hi) hz, _, 0, (r.drop (HT.sIx xs.length 0 lo)).take (HT.sIx xs.length xs.length hi - HT.sIx xs.length 0 lo), Heap.get?_push_size _ rfl⟩
theorem call_len_seq : CallR X (.builtin "len") (fun xs H Q => ∃ p ys, xs = [.ref p] ∧ (SqL X.K H p ys ∨ SqT X.K H p ys) ∧ Q (.int ys.length) H) := by
  intro pins s σ H xs us Q I r h
  obtain ⟨p, ys, rfl, hq, q⟩ := h
  obtain ⟨u, rfl, rx⟩ := vals1 r
  cases rx
  have hn := line63
  rcases hq with hq | hq
  · obtain ⟨its, r', pl, hz⟩ := I.list hq
    have hlen := r'.length
    exact Calls.call_len_list pl.isList (by simp only [List.size_toArray] <;> omega) ⟨.int ys.length, H, I.tok _, ⟨s.toks + 1, by rw [List.size_toArray, hlen]⟩, q⟩
  · obtain ⟨its, r', pl, hz⟩ := I.tuple hq
    have hlen := r'.length
    exact len_tuple pl (by simp only [List.size_toArray] <;> omega) ⟨.int ys.length, H, I.tok _, ⟨s.toks + 1, by rw [List.size_toArray, hlen]⟩, q⟩
def tyV (K : PySem.W.Frag) (T : String) (x : V) (H : Hp) : Prop := match x with
  | .str _ => T = "str"
  | .int _ => T = "int"
  | .ref p => (T = "list" ∧ ∃ xs, SqL K H p xs) ∨ (T = "tuple" ∧ ∃ o, K.lookup p = some o ∧ o.cls = .type "tuple" ∧ o.dict = none) ∨
      (T = "dict" ∧ ((∃ kvs, H p = some (.dK kvs)) ∨ ∃ kvs, H p = some (.dT kvs))) ∨ (T = "set" ∧ ∃ S n, H p = some (.set S n))
  | _ => False
theorem tyV_is {pins : List (Addr × Obj)} {σ : St} {H : Hp} {s : Shared} {T : String} {x : V} {v : Value} (I : Inv X pins σ H s) (r : RelV x v) (ty : tyV X.K T x H) :
    s.TypeIs v T ∧ ∀ a, v = .ref a → ∃ ob, s.heap.get? a = some ob ∧ ob.dict = none := by
  cases x with
  | str z =>
    obtain ⟨t, rfl⟩ := r
    cases (show T = "str" from ty)
    exact ⟨typeIs_str s z t, fun _ e => nomatch e⟩
  | int i =>
    obtain ⟨t, rfl⟩ := r
    cases (show T = "int" from ty)
    exact ⟨typeIs_int s i t, fun _ e => nomatch e⟩
  | ref p =>
    cases r
    rcases ty with ⟨rfl, xs, hq⟩ | ⟨rfl, o, hk, hc, hd⟩ | ⟨rfl, hk⟩ | ⟨rfl, S, n, hk⟩
    · obtain ⟨its, _, pl, _⟩ := I.list hq
      refine ⟨pl.isList.typeIs, fun a e => ?_⟩
      cases e
      obtain ⟨o, n, e, c, hd, _⟩ := pl
      exact ⟨o, e, hd⟩
    · refine ⟨⟨o, I.kIn p o hk, hc⟩, fun a e => ?_⟩
      cases e
      exact ⟨o, I.kIn _ o hk, hd⟩
    · have z : ∃ o, s.heap.get? p = some o ∧ o.ExactDict := by
        rcases hk with ⟨kvs, hk⟩ | ⟨kvs, hk⟩
        · obtain ⟨_, _, _, _, o, _, _, e, ex, _⟩ := I.hok p _ hk
          exact ⟨o, e, ex⟩
        · obtain ⟨_, _, _, _, o, _, _, e, ex, _⟩ := I.hok p _ hk
          exact ⟨o, e, ex⟩
      obtain ⟨o, e, ex⟩ := z
      refine ⟨⟨o, e, ex.1⟩, fun a e2 => ?_⟩
      cases e2
      exact ⟨o, e, ex.2.1⟩
    · obtain ⟨o, _, _, _, e, ex, _⟩ := I.hok p _ hk
      refine ⟨⟨o, e, ex.1⟩, fun a e2 => ?_⟩
      cases e2
      exact ⟨o, e, ex.2.1⟩
  | _ => exact False.elim ty
def tBM (K : PySem.W.Frag) (T : String) (r : V → List V → Hp → VK → Prop) (to : TE) (t : TA) : TE := fun σ H Q => to σ H fun x H1 => tyV K T x H1 ∧ t σ H1 fun xs H2 => r x xs H2 Q
variable {o e : Expr} {es : List Expr} {to : TE} {t : TA} {name : Str} {apos cpos : Pos} {T id : String} {r : V → List V → Hp → VK → Prop}
theorem pe_bm (pa : PlainAttrs T) (slot : Slot T name id) (hty : typeOf (.builtin id) = pure (.type "method_descriptor")) (hm : MtR X id r) (ho : PE X o to) (ha : PA X (e :: es) t)
    (hbase : attributeBase o name X.env (eval o X.env) = eval o X.env := by rfl)
    (hfew : ((backTo cpos (starEach (e :: es) X.env)).all (fun x => !x.1) && (backToKw cpos (keywordEach [] X.env)).all (fun x => x.1.isSome)
      && decide ((e :: es).length + ([] : List Keyword).length + (if ([] : List Keyword).isEmpty then 0 else 1) < 30)) = true := by rfl)
    (hline : (apos.endLine == cpos.line) = true := by rfl) (hs : starEach (e :: es) X.env = (false, eval e X.env) :: starEach es X.env := by rfl) (hplain : (backTo cpos (starEach es X.env)).any (·.1) = false := by rfl) :
    PE X (.Call (.Attribute o name apos) (e :: es) [] cpos) (tBM X.K T r to t) := by
  intro pins s σ H Q I h
  refine wpAny_Call_method_late hbase hfew hline rfl (thn (ho pins s σ H _ I h) fun v s1 ⟨x, H1, I1, r1, ty, q1⟩ => ?_)
  obtain ⟨h1, h2⟩ := tyV_is I1 r1 ty
  refine ⟨T, id, pa, slot, hty, h1, h2, ?_⟩
  have hA := ha cpos pins s1 σ H1 _ I1 q1
  rw [hs] at hA ⊢
  refine Calls.callWith_builtin (by show (false || (backTo cpos (starEach es X.env)).any (·.1)) = false; rw [hplain] <;> rfl) (Calls.evalArgs_plain ?_)
  exact thn hA fun us s2 ⟨vs, H2, I2, r2, q2⟩ => hm pins s2 σ H2 x vs v us Q I2 r1 r2 q2
end
end L2
namespace L2
open PySem PySem.Spec PyProof.Rows
def MtM (X : Cx) (id : String) (r : V → List V → Hp → VK → Prop) : Prop :=
  ∀ (pins : List (Addr × Obj)) (s : Shared) (σ : St) (H : Hp) (x : V) (xs : List V) (v : Value) (us : List Value) (Q : VK), Inv X pins σ H s → RelV x v → Vals xs us → r x xs H Q →
    wpAny (model X.prog X.w) X.A (call (.builtin id) (v :: us)) (EP X pins σ Q) X.xe s
theorem Vals.one : ∀ {x : V} {us : List Value}, Vals [x] us → ∃ u, us = [u] ∧ RelV x u
  | _, _, .cons r .nil => ⟨_, rfl, r⟩
theorem Vals.rep {xs : List V} {us : List Value} (h : Vals xs us) : ∀ k : Nat, Vals (List.replicate k xs).flatten (List.replicate k us).flatten
  | 0 => .nil
  | k + 1 => by
    rw [List.replicate_succ, List.replicate_succ, List.flatten_cons, List.flatten_cons]
    exact Vals.append h (Vals.rep h k)
theorem foldl_rep (its : List Value) : ∀ (k : Nat) (acc : List Value),
    List.foldl (fun x1 x2 => x1 ++ x2) acc.toArray (List.replicate k its.toArray) = (acc ++ (List.replicate k its).flatten).toArray
  | 0, acc => by simp
  | k + 1, acc => by
    have e : acc.toArray ++ its.toArray = (acc ++ its).toArray := by simp
    have e2 : (acc ++ its) ++ (List.replicate k its).flatten = acc ++ (List.replicate (k + 1) its).flatten := by
      rw [List.replicate_succ, List.flatten_cons, List.append_assoc]
    rw [← e2, ← foldl_rep its k (acc ++ its), ← e, List.replicate_succ, List.foldl_cons]
section
variable {X : Cx} {pins : List (Addr × Obj)} {σ : St} {H : Hp} {s : Shared} {l b : Addr} {xs ys zs : List V}
theorem Inv.lset {its its' : List Value} {n : Nat} {f : Array Value → Array Value} {t' : Nat} (I : Inv X pins σ H s) (hH : H l = some (.lst xs))
    (e : s.heap.get? l = some { cls := .type "list", data := .seq its.toArray n }) (hf : f its.toArray = its'.toArray) (hv : Vals ys its') (hz : ys.length ≤ sizeLine) :
    Inv X pins σ (upd H l (.lst ys)) { s with heap := s.heap.update l (Obj.mapSeq f), toks := t' } := by
  have q := PySem.IsL.update e f
  rw [hf] at q
  refine I.write (x := l) (e := l) (by rw [hH]; exact trivial) (.inl rfl) (fun b' u hb hu => (Heap.get?_update_other s.heap (Obj.mapSeq f) (Ne.symm hb)).trans hu) ⟨_, q⟩ ?_
  exact ⟨hz, its', _, hv, q⟩
theorem Inv.lnew {its : List Value} {t' : Nat} (I : Inv X pins σ H s) (hv : Vals ys its) (hz : ys.length ≤ sizeLine) :
    Inv X pins σ (upd H s.heap.objs.size (.lst ys)) { s with heap := s.heap.push { cls := .type "list", data := .seq its.toArray }, toks := t' } :=
  I.laid (fun _ _ q => Heap.get?_push_of_some _ q) (Nat.le_refl _) ⟨hz, its, 0, hv, Heap.get?_push_size _ rfl⟩
theorem Inv.fresh (I : Inv X pins σ H s) : H s.heap.objs.size = none := I.hok.fresh (Nat.le_refl _)
theorem Inv.lstM (I : Inv X pins σ H s) (hH : H l = some (.lst xs)) : xs.length ≤ sizeLine ∧ ∃ (its : List Value) (n : Nat), Vals xs its ∧ xs.length = its.length ∧ s.heap.get? l = some { cls := .type "list", data := .seq its.toArray n } := by
  obtain ⟨z, its, n, r, e⟩ := I.hok l _ hH
  exact ⟨z, its, n, r, r.length, e⟩
theorem notLongL {n : Nat} (h : n ≤ sizeLine) : Builtin.List.listTooLong n = false := by
  unfold Builtin.List.listTooLong
  exact decide_eq_false (by omega)
end
section
variable {X : Cx}
def rAppend : V → List V → Hp → VK → Prop := fun x vs H Q => ∃ l xs y, x = .ref l ∧ vs = [y] ∧ H l = some (.lst xs) ∧ xs.length < sizeLine ∧ Q .non (upd H l (.lst (xs ++ [y])))
theorem mt_append : MtM X "list.append" rAppend := by
  intro pins s σ H x vs v us Q I rx rv h
  obtain ⟨l, xs, y, rfl, rfl, hH, hz, q⟩ := h
  cases rx
  obtain ⟨u, rfl, ru⟩ := rv.one
  obtain ⟨z, its, n, r, hl, e⟩ := I.lstM hH
  refine call_meets F.slot_list_append ⟨_, e, rfl⟩ F.entry_list_append (F.args_list_append_2 _ _) (PySem.list_append l its.toArray n u (by rw [List.size_toArray]; omega)) ⟨e, ?_⟩
  refine ⟨.non, _, I.lset (its' := its ++ [u]) hH e (by simp) (r.append (.cons ru .nil)) ?_, rfl, q⟩
  rw [List.length_append, List.length_singleton]
  omega
def rExtend : V → List V → Hp → VK → Prop := fun x vs H Q => ∃ l b xs zs, x = .ref l ∧ vs = [.ref b] ∧ H l = some (.lst xs) ∧ H b = some (.lst zs) ∧ xs.length + zs.length ≤ sizeLine ∧ Q .non (upd H l (.lst (xs ++ zs)))
theorem mt_extend : MtM X "list.extend" rExtend := by
  intro pins s σ H x vs v us Q I rx rv h
  obtain ⟨l, b, xs, zs, rfl, rfl, hH, hB, hz, q⟩ := h
  cases rx
  obtain ⟨u, rfl, ru⟩ := rv.one
  cases ru
  obtain ⟨z, its, n, r, hl, e⟩ := I.lstM hH
  obtain ⟨z2, its2, n2, r2, hl2, e2⟩ := I.lstM hB
  have hsz : its.toArray.size + its2.toArray.size ≤ sizeLine := by rw [List.size_toArray, List.size_toArray]; omega
  have hlong : ¬ (!its.toArray.isEmpty && Builtin.List.listTooLong (its.toArray.size + its2.toArray.size)) = true := by
    rw [notLongL hsz, Bool.and_false]
    exact Bool.false_ne_true
  refine call_meets F.slot_list_extend ⟨_, e, rfl⟩ F.entry_list_extend (F.args_list_extend_2 _ _)
    (AutoSeq1.list_extend_list_list_0 l its.toArray n b its2.toArray n2 hlong (by rw [List.size_toArray]; omega) (by omega)) ⟨e, e2, ?_⟩
  refine ⟨.non, _, I.lset (its' := its ++ its2) hH e (by simp) (r.append r2) ?_, rfl, q⟩
  rw [List.length_append]
  omega
def rCat : R2 := fun x y H Q => ∃ l b xs zs, x = .ref l ∧ y = .ref b ∧ H l = some (.lst xs) ∧ H b = some (.lst zs) ∧ xs.length + zs.length ≤ sizeLine ∧ ∀ p, H p = none → Q (.ref p) (upd H p (.lst (xs ++ zs)))
theorem op_cat : OpR X (binaryOp .Add) rCat := by
  intro pins s σ H x y v u Q I rx ry h
  obtain ⟨l, b, xs, zs, rfl, rfl, hH, hB, hz, q⟩ := h
  cases rx
  cases ry
  obtain ⟨z, its, n, r, hl, e⟩ := I.lstM hH
  obtain ⟨z2, its2, n2, r2, hl2, e2⟩ := I.lstM hB
  refine PySem.P.add_list e e2 ?_ (by rw [List.size_toArray, List.size_toArray]; omega)
  have ea : its.toArray ++ its2.toArray = (its ++ its2).toArray := by simp
  rw [ea]
  exact ⟨.ref _, _, I.lnew (t' := s.toks) (r.append r2) (by rw [List.length_append]; omega), rfl, q _ I.fresh⟩
def rRep : R2 := fun x y H Q => ∃ l k xs, x = .ref l ∧ y = .int k ∧ H l = some (.lst xs) ∧ -(2 ^ 63) ≤ k ∧ k < 2 ^ 63 ∧ xs.length * k.toNat ≤ sizeLine ∧
  ∀ p, H p = none → Q (.ref p) (upd H p (.lst (List.replicate k.toNat xs).flatten))
theorem len_rep {α : Type} (xs : List α) (k : Nat) : (List.replicate k xs).flatten.length = k * xs.length := by
  induction k with
  | zero => simp
  | succ k ih => rw [List.replicate_succ, List.flatten_cons, List.length_append, ih, Nat.succ_mul, Nat.add_comm]
theorem op_rep : OpR X (binaryOp .Mult) rRep := by
  intro pins s σ H x y v u Q I rx ry h
  obtain ⟨l, k, xs, rfl, rfl, hH, h1, h2, hz, q⟩ := h
  cases rx
  obtain ⟨t, rfl⟩ := ry
  obtain ⟨z, its, n, r, hl, e⟩ := I.lstM hH
  have hlen : its.toArray.size * k.toNat ≤ sizeLine := by rw [List.size_toArray, ← hl]; exact hz
  have hcap : ¬ its.toArray.size * k.toNat > (2 ^ 63 - 1) / 8 := by
    have : (sizeLine : Nat) ≤ (2 ^ 63 - 1) / 8 := by decide
    omega
  have hfit : ¬ (!Builtin.List.listFitsIndex k) = true := by
    rw [fitsIndex_both h1 h2]
    exact Bool.false_ne_true
  have hlong : ¬ Builtin.List.listTooLong (its.toArray.size * k.toNat) = true := by
    rw [notLongL hlen]
    exact Bool.false_ne_true
  have hnew : List.foldl (fun x1 x2 => x1 ++ x2) #[] (List.replicate (if its.toArray.isEmpty = true then 0 else k.toNat) its.toArray) = (List.replicate k.toNat its).flatten.toArray := by
    have f0 : ∀ m : Nat, List.foldl (fun x1 x2 => x1 ++ x2) #[] (List.replicate m its.toArray) = (List.replicate m its).flatten.toArray := fun m => by
      have := foldl_rep its m []
      rw [List.nil_append] at this
      exact this
    rw [f0]
    cases its with
    | nil => simp
    | cons a r' => rw [if_neg (by simp)]
  refine wpAny_binaryOp_repeat_ref (T := "list") (U := "int") (by decide) ⟨_, e, rfl⟩ (fun s' => typeIs_int s' k t) noFill_list_mul F.fills_int_mul F.slot_int_rmul repeat_list F.slot_int_index.lookup
    (call_meets F.slot_int_rmul (typeIs_int s k t) F.entry_int_rmul (F.args_int_rmul_2 _ _) (int___rmul___int_list k t l its.toArray n)
      ⟨e, rfl, ⟨_, e, rfl⟩, call_meets F.slot_list_mul ⟨_, e, rfl⟩ F.entry_list_mul (F.args_list_mul_2 _ _) (AutoListH.list___mul___list_int_3 l its.toArray n k t hfit hcap hlong) ⟨e, ?_⟩⟩)
  rw [hnew]
  exact ⟨.ref _, _, I.lnew (t' := s.toks) (r.rep k.toNat) (by rw [len_rep, Nat.mul_comm]; exact hz), rfl, q _ I.fresh⟩
end
section
variable {prog : Program} {w : World} {A : Around} {E : Value → Shared → Prop} {s : Shared}
end
section
variable {X : Cx}
end
end L2
namespace L2
open PySem PySem.Spec PyProof.Rows
theorem Vals.ints : ∀ {ns : List Int} {us : List Value}, Vals (ns.map V.int) us → IntsAre us ns
  | [], us, h => by
    rw [List.map_nil] at h
    cases h
    exact IntsAre.nil
  | n :: ns, us, h => by
    rw [List.map_cons] at h
    cases h with
    | cons r t =>
      obtain ⟨k, rfl⟩ := r
      exact IntsAre.cons n k (Vals.ints t)
theorem Vals.ref1 {a : Addr} {us : List Value} (r : Vals [V.ref a] us) : us = [Value.ref a] := by
  cases r with
  | cons r t =>
    cases t
    cases r
    rfl
section
variable {prog : Program} {w : World} {A : Around} {E : Value → Shared → Prop} {s : Shared} {l : Addr} {its : List Value} {ns : List Int} {Q : Value → Shared → Prop}
theorem sum_raw (hh : A.handled = none) (hl : s.heap.IsList l its.toArray) (hi : IntsAre its ns)
    (h : ∀ h' tk t', (∀ b o, s.heap.get? b = some o → h'.get? b = some o) → Q (.int ns.sum t') { s with heap := h', toks := tk }) : wpAny (model prog w) A (call (.builtin "sum") [.ref l]) Q E s := by
  obtain ⟨xs, e⟩ := hi.allInts.items
  have hn : numsOf (intItems xs).toList = ns := by rw [← e]; exact hi.numsOf
  rw [nums_intItems] at hn
  rw [e] at hl
  refine PySem.sum_intListG hh hl fun h' tk t' hk => ?_
  have := h h' tk t' hk
  rw [preSum_eq, List.take_of_length_le (by simp), hn]; exact this
end
section
variable {X : Cx}
def rSum (K : PySem.W.Frag) : List V → Hp → VK → Prop := fun vs H Q => ∃ (a : Addr) (ns : List Int), vs = [V.ref a] ∧ SqL K H a (ns.map V.int) ∧ Q (.int ns.sum) H
theorem cr_sum (hc : X.calm = true) : CallR X (.builtin "sum") (rSum X.K) := by
  intro pins s σ H vs us Q I r h
  obtain ⟨a, ns, rfl, hs, q⟩ := h
  obtain ⟨its, rv, hl, _⟩ := I.list hs
  rw [Vals.ref1 r]
  exact sum_raw (I.ok.hd hc) hl.isList rv.ints fun h' tk t' hk => ⟨.int _, H, I.kept hk, ⟨_, rfl⟩, q⟩
end
section
variable {X : Cx}
end
section
variable {X : Cx}
end
section
variable {X : Cx}
end
mutual
inductive Dp (K : PySem.W.Frag) (H : Hp) : V → PyData → Prop
  | non : Dp K H .non .none
  | bl (b : Bool) : Dp K H (.bl b) (.bool b)
  | int (i : Int) : Dp K H (.int i) (.int i)
  | str (x : Str) : Dp K H (.str x) (.str x)
  | lst {a : Addr} {xs : List V} {ds : List PyData} : SqL K H a xs → DpAll K H xs ds → Dp K H (.ref a) (.list ds)
  | tup {a : Addr} {xs : List V} {ds : List PyData} : SqT K H a xs → DpAll K H xs ds → Dp K H (.ref a) (.tuple ds)
inductive DpAll (K : PySem.W.Frag) (H : Hp) : List V → List PyData → Prop
  | nil : DpAll K H [] []
  | cons {v : V} {vs : List V} {d : PyData} {ds : List PyData} : Dp K H v d → DpAll K H vs ds → DpAll K H (v :: vs) (d :: ds)
end
section
variable {X : Cx} {pins : List (Addr × Obj)} {σ : St} {H : Hp} {s : Shared}
mutual
theorem Dp.reads (I : Inv X pins σ H s) : ∀ (d : PyData) (v : V) (u : Value), Dp X.K H v d → RelV v u → ∃ as, Reads s.heap u d as
  | .none, _, _, h, r => by
    cases h
    cases r
    exact ⟨_, Reads.none⟩
  | .bool b, _, _, h, r => by
    cases h
    cases r
    exact ⟨_, Reads.bool b⟩
  | .int i, _, _, h, r => by
    cases h
    obtain ⟨t, rfl⟩ := r
    exact ⟨_, Reads.int i t⟩
  | .str x, _, _, h, r => by
    cases h
    obtain ⟨t, rfl⟩ := r
    exact ⟨_, Reads.str x t⟩
  | .list ds, _, _, h, r => by
    cases h with
    | lst hs ha =>
      cases r
      obtain ⟨its, rv, ⟨o, n, ho, hc, _, hd⟩, _⟩ := I.list hs
      obtain ⟨as, hr⟩ := Dp.readsAll I ds _ its ha rv
      exact ⟨_, Reads.list ho hc hd hr⟩
  | .tuple ds, _, _, h, r => by
    cases h with
    | tup hs ha =>
      cases r
      obtain ⟨its, rv, ⟨o, ho, hc, n, hd⟩, _⟩ := I.tuple hs
      obtain ⟨as, hr⟩ := Dp.readsAll I ds _ its ha rv
      exact ⟨_, Reads.tuple ho hc hd hr⟩
  | .dict _, _, _, h, _ => by cases h
theorem Dp.readsAll (I : Inv X pins σ H s) : ∀ (ds : List PyData) (vs : List V) (us : List Value), DpAll X.K H vs ds → Vals vs us → ∃ as, ReadsAll s.heap us ds as
  | [], _, _, h, r => by
    cases h
    cases r
    exact ⟨_, ReadsAll.nil⟩
  | d :: ds, _, _, h, r => by
    cases h with
    | cons h1 h2 =>
      cases r with
      | cons r1 r2 =>
        obtain ⟨as, q1⟩ := Dp.reads I d _ _ h1 r1
        obtain ⟨bs, q2⟩ := Dp.readsAll I ds _ _ h2 r2
        exact ⟨_, ReadsAll.cons q1 q2⟩
end
end
section
variable {X : Cx}
end
end L2
namespace L2
open PySem PySem.Spec PyProof.Rows
abbrev CellAt (h : Heap) (c : Addr) (v : Option Value) : Prop := h.IsCell c v
def relS (scope sc : Scope) : Scope :=
  { scope with names := scope.names.map fun (n, k) => if (k == .free && sc.kind == .function && sc.names.lookup n == some .cell) then (n, .cell) else (n, k) }
def cloFrom (cells : List (Str × Addr)) : List (Str × NameKind) → List (Str × Addr) → List (Str × Addr)
  | [], acc => acc
  | (n, k) :: r, acc => if k == .free then cloFrom cells r ((n, (cells.lookup n).getD 0) :: acc) else cloFrom cells r acc
theorem closure_loop (env : Env) (f : Str × NameKind → List (Str × Addr) → Sem (ForInStep (List (Str × Addr))))
    (hf : ∀ n k c, f (n, k) c = if k == .free then (do let a ← cellOf env n; pure (.yield ((n, a) :: c))) else pure (.yield c)) :
    ∀ (names : List (Str × NameKind)) (acc : List (Str × Addr)), (∀ y ∈ names, y.2 = .free → ∃ c, env.cells.lookup y.1 = some c) → forIn names acc f = pure (cloFrom env.cells names acc)
  | [], acc, _ => by rw [List.forIn_nil]; rfl
  | (n, k) :: r, acc, h => by
    rw [List.forIn_cons, hf]
    have ih := fun acc => closure_loop env f hf r acc fun y hy => h y (List.mem_cons_of_mem _ hy)
    unfold cloFrom
    by_cases hk : (k == NameKind.free) = true
    · rw [if_pos hk, if_pos hk]
      obtain ⟨c, hc⟩ := h (n, k) List.mem_cons_self (by simpa using hk)
      have e : cellOf env n = pure c := by unfold cellOf; rw [hc]
      rw [e]
      have e2 : (env.cells.lookup n).getD 0 = c := by rw [hc]; rfl
      rw [e2]
      exact ih _
    · rw [if_neg hk, if_neg hk]
      exact ih _
theorem closure_ok {scope : Scope} {env : Env} (h : ∀ y ∈ scope.names, y.2 = .free → ∃ c, env.cells.lookup y.1 = some c) : closureFor scope env = pure (cloFrom env.cells scope.names []) := by
  simp only [closureFor]
  rw [closure_loop env _ (fun n k c => rfl) scope.names [] h]
  rfl
theorem mem_lookup {α : Type} : ∀ {l : List (Str × α)} {n : Str} {c : α}, (n, c) ∈ l → ∃ c', l.lookup n = some c'
  | (k, v) :: r, n, c, h => by
    rw [List.lookup_cons]
    cases hb : n == k with
    | true => exact ⟨_, rfl⟩
    | false =>
      rcases List.mem_cons.mp h with e | h
      · cases e; simp at hb
      · exact mem_lookup h
theorem cloFrom_mem {cells : List (Str × Addr)} : ∀ {names : List (Str × NameKind)} {acc : List (Str × Addr)} {n : Str} {c : Addr}, (n, c) ∈ cloFrom cells names acc → (n, c) ∈ acc ∨ ((n, .free) ∈ names ∧ c = (cells.lookup n).getD 0)
  | [], _, _, _, h => .inl h
  | (m, k) :: r, acc, n, c, h => by
    unfold cloFrom at h
    split at h
    · rename_i hk
      have hk : k = .free := by simpa using hk
      rcases cloFrom_mem h with h | ⟨h1, h2⟩
      · rcases List.mem_cons.mp h with e | h
        · cases e; exact .inr ⟨hk ▸ List.mem_cons_self, rfl⟩
        · exact .inl h
      · exact .inr ⟨List.mem_cons_of_mem _ h1, h2⟩
    · rcases cloFrom_mem h with h | ⟨h1, h2⟩
      · exact .inl h
      · exact .inr ⟨List.mem_cons_of_mem _ h1, h2⟩
theorem cloFrom_acc {cells : List (Str × Addr)} : ∀ {names : List (Str × NameKind)} {acc : List (Str × Addr)} {p : Str × Addr}, p ∈ acc → p ∈ cloFrom cells names acc
  | [], _, _, h => h
  | (m, k) :: r, acc, p, h => by
    unfold cloFrom
    split
    · exact cloFrom_acc (List.mem_cons_of_mem _ h)
    · exact cloFrom_acc h
theorem cloFrom_has {cells : List (Str × Addr)} : ∀ {names : List (Str × NameKind)} {acc : List (Str × Addr)} {n : Str}, (n, .free) ∈ names → (n, (cells.lookup n).getD 0) ∈ cloFrom cells names acc
  | (m, k) :: r, acc, n, h => by
    unfold cloFrom
    rcases List.mem_cons.mp h with e | h
    · cases e
      exact cloFrom_acc List.mem_cons_self
    · split
      · exact cloFrom_has h
      · exact cloFrom_has h
theorem cells_mem : ∀ {names : List (Str × NameKind)} {h : Heap} {acc : List (Str × Addr)} {x : Str} {c : Addr}, (x, c) ∈ cellsFrom h.objs.size names acc →
    (x, c) ∈ acc ∨ ((x, .cell) ∈ names ∧ h.objs.size ≤ c ∧ CellAt (pushCells h names) c none)
  | [], _, _, _, _, h => .inl h
  | (n, k) :: r, h, acc, x, c, hm => by
    unfold cellsFrom at hm
    unfold pushCells
    split at hm
    · rename_i hk
      rw [if_pos hk]
      have hk : k = .cell := by simpa using hk
      rw [← Heap.size_push h { cls := .type "cell", data := .cell none }] at hm
      rcases cells_mem hm with hm | ⟨h1, h2, h3⟩
      · rcases List.mem_cons.mp hm with e | hm
        · cases e
          exact .inr ⟨hk ▸ List.mem_cons_self, Nat.le_refl _, _, pushCells_keeps r _ _ _ (Heap.get?_push_size _ rfl), rfl⟩
        · exact .inl hm
      · rw [Heap.size_push] at h2
        exact .inr ⟨List.mem_cons_of_mem _ h1, Nat.le_of_succ_le h2, h3⟩
    · rename_i hk
      rw [if_neg hk]
      rcases cells_mem hm with hm | ⟨h1, h2, h3⟩
      · exact .inl hm
      · exact .inr ⟨List.mem_cons_of_mem _ h1, h2, h3⟩
theorem cells_acc : ∀ {names : List (Str × NameKind)} {n : Nat} {acc : List (Str × Addr)} {p : Str × Addr}, p ∈ acc → p ∈ cellsFrom n names acc
  | [], _, _, _, h => h
  | (m, k) :: r, n, acc, p, h => by
    unfold cellsFrom
    split
    · exact cells_acc (List.mem_cons_of_mem _ h)
    · exact cells_acc h
theorem cells_has : ∀ {names : List (Str × NameKind)} {n : Nat} {acc : List (Str × Addr)} {x : Str}, (x, .cell) ∈ names → ∃ c, (x, c) ∈ cellsFrom n names acc
  | (m, k) :: r, n, acc, x, h => by
    unfold cellsFrom
    rcases List.mem_cons.mp h with e | h
    · cases e
      exact ⟨n, cells_acc List.mem_cons_self⟩
    · split
      · exact cells_has h
      · exact cells_has h
theorem cells_inj : ∀ {names : List (Str × NameKind)} {h : Heap} {acc : List (Str × Addr)} {x y : Str} {c : Addr}, (∀ p ∈ acc, p.2 < h.objs.size) → (∀ x y c, (x, c) ∈ acc → (y, c) ∈ acc → x = y) →
    (x, c) ∈ cellsFrom h.objs.size names acc → (y, c) ∈ cellsFrom h.objs.size names acc → x = y
  | [], _, _, _, _, _, _, hi, h1, h2 => hi _ _ _ h1 h2
  | (n, k) :: r, h, acc, x, y, c, hl, hi, h1, h2 => by
    unfold cellsFrom at h1 h2
    split at h1
    · rename_i hk
      rw [if_pos hk] at h2
      rw [← Heap.size_push h { cls := .type "cell", data := .cell none }] at h1 h2
      refine cells_inj (h := h.push _) (fun p hp => ?_) (fun x y c a b => ?_) h1 h2
      · rw [Heap.size_push]
        rcases List.mem_cons.mp hp with rfl | hp
        · exact Nat.lt_succ_self _
        · exact Nat.lt_succ_of_lt (hl p hp)
      · rcases List.mem_cons.mp a with e | a <;> rcases List.mem_cons.mp b with e' | b
        · cases e; cases e'; rfl
        · cases e; exact absurd (hl _ b) (Nat.lt_irrefl _)
        · cases e'; exact absurd (hl _ a) (Nat.lt_irrefl _)
        · exact hi _ _ _ a b
    · rename_i hk
      rw [if_neg hk] at h2
      exact cells_inj hl hi h1 h2
theorem newEnv_comp {M : Model} {A : Around} {E : Value → Shared → Prop} {s : Shared} {scope : Scope} {globals : Addr} {closure : List (Str × Addr)} {qual : Str} {func : Option Addr} {code : Value} {around : Env} {builtins : Addr} {Q : Env → Shared → Prop}
    (h : Q (newEnv scope s.heap.objs.size globals (cellsFrom (s.heap.objs.size + 1) scope.names closure) qual func code (some around) builtins)
      { s with heap := pushCells (s.heap.push { cls := .type "dict", data := .dict #[] }) scope.names }) :
    wpAny M A (newFunctionEnv scope globals closure [] qual func code (some around) builtins) Q E s := by
  simp only [newFunctionEnv, Option.isSome_some, if_true]
  refine wpAny_bind (wpAny_alloc ?_)
  refine wpAny_bind (wpAny_layCells _ (fun n k c => rfl) scope.names closure _ _ ?_)
  rw [show ({ s with heap := s.heap.push { cls := .type "dict", data := .dict #[] } } : Shared).heap.objs.size = s.heap.objs.size + 1 from Heap.size_push ..]
  rw [List.forIn_nil]
  exact wpAny_bind (wpAny_pure (wpAny_pure h))
theorem lookup_relS {sc : Scope} : ∀ {names : List (Str × NameKind)} {x : Str} {k : NameKind},
    (names.map fun (n, k) => if (k == NameKind.free && sc.kind == .function && sc.names.lookup n == some .cell) then (n, NameKind.cell) else (n, k)).lookup x = some k →
    ∃ k', names.lookup x = some k' ∧ (k = k' ∨ (k' = .free ∧ k = .cell))
  | [], _, _, h => by simp at h
  | (n, k₀) :: r, x, k, h => by
    have ih := @lookup_relS sc r x k
    have h' : List.lookup x ((if (k₀ == NameKind.free && sc.kind == .function && sc.names.lookup n == some .cell) = true then (n, NameKind.cell) else (n, k₀)) :: (r.map _)) = some k := h
    cases hx : x == n with
    | true =>
      simp only [List.lookup_cons, hx]
      by_cases hc : (k₀ == NameKind.free && sc.kind == .function && sc.names.lookup n == some .cell) = true
      · rw [if_pos hc] at h'
        simp only [List.lookup_cons, hx] at h'
        cases h'
        simp only [Bool.and_eq_true, beq_iff_eq] at hc
        exact ⟨k₀, rfl, .inr ⟨hc.1.1, rfl⟩⟩
      · rw [if_neg hc] at h'
        simp only [List.lookup_cons, hx] at h'
        cases h'
        exact ⟨_, rfl, .inl rfl⟩
    | false =>
      simp only [List.lookup_cons, hx]
      by_cases hc : (k₀ == NameKind.free && sc.kind == .function && sc.names.lookup n == some .cell) = true
      · rw [if_pos hc] at h'
        simp only [List.lookup_cons, hx] at h'
        exact ih h'
      · rw [if_neg hc] at h'
        simp only [List.lookup_cons, hx] at h'
        exact ih h'
structure BlkOk (N : List Str) (sc scope : Scope) (own : List (Str × Nat)) : Prop where
  kind : scope.kind = .function
  uniq : ∀ y ∈ scope.names, scope.names.lookup y.1 = some y.2
  ix : ∀ p ∈ own, N[p.2]? = some p.1
  free : ∀ y ∈ scope.names, y.2 = .free → sc.names.lookup y.1 = some .cell ∨ sc.names.lookup y.1 = some .free
  own : ∀ y ∈ scope.names, y.2 = .local ∨ y.2 = .cell → y.1 ∈ own.map (·.1) ∨ y.1 ∉ N
def wipe (σ : St) : List Nat → St
  | [] => σ
  | v :: vs => (wipe σ vs).set v none
theorem wipe_length (σ : St) : ∀ vs : List Nat, (wipe σ vs).length = σ.length
  | [] => rfl
  | v :: vs => by unfold wipe; rw [List.length_set, wipe_length σ vs]
theorem wipe_some {σ : St} {i : Nat} {x : V} : ∀ {vs : List Nat}, (wipe σ vs)[i]? = some (some x) → σ[i]? = some (some x) ∧ i ∉ vs
  | [], h => ⟨h, by simp⟩
  | v :: vs, h => by
    unfold wipe at h
    by_cases hi : v = i
    · subst hi
      by_cases hv : v < (wipe σ vs).length
      · rw [List.getElem?_set_self hv] at h; cases h
      · rw [List.getElem?_eq_none (by simpa using hv)] at h; cases h
    · rw [List.getElem?_set_ne hi] at h
      obtain ⟨h1, h2⟩ := wipe_some h
      exact ⟨h1, by simp only [List.mem_cons, not_or]; exact ⟨fun e => hi e.symm, h2⟩⟩
abbrev Cx.blk (X : Cx) (s : Shared) (H : Hp) (scope : Scope) (cenv : Env) (fp : List Addr) : Cx := { X with s₀ := s, H₀ := H, env := cenv, outer := X.stack, ex := fp, fn := fun x => scope.names.lookup x == some .cell, pn := [], xe := fun _ _ => False }
section
variable {X : Cx} {pins : List (Addr × Obj)} {σ : St} {H : Hp} {s : Shared}
theorem block_start {scope : Scope} {own : List (Str × Nat)} {fp : List Addr} (I : Inv X pins σ H s) (ok : BlkOk X.N X.env.scope scope own) (hN : X.N.Nodup) (hfp : ∀ b ∈ fp, FpOk X pins H b ∧ b < s.heap.objs.size) :
    Inv (X.blk s H scope (compEnvC scope (cellsFrom (s.heap.objs.size + 1) scope.names (cloFrom X.env.cells scope.names [])) s.heap.objs.size X.env) fp) [] (wipe σ (own.map (·.2))) H { s with heap := pushCells (s.heap.push { cls := .type "dict", data := .dict #[] }) scope.names } := by
  have hfree : ∀ y ∈ scope.names, y.2 = .free → ∃ c, X.env.cells.lookup y.1 = some c := fun y hy e => by
    rcases ok.free y hy e with k | k
    · exact I.ok.has _ (.inl k)
    · exact I.ok.has _ (.inr k)
  generalize hcenv : compEnvC scope (cellsFrom (s.heap.objs.size + 1) scope.names (cloFrom X.env.cells scope.names [])) s.heap.objs.size X.env = cenv
  have kp : ∀ b o, s.heap.get? b = some o → (pushCells (s.heap.push { cls := .type "dict", data := .dict #[] }) scope.names).get? b = some o := fun b o e => pushCells_keeps _ _ _ _ (Heap.get?_push_of_some _ e)
  have hL : cenv.locals = s.heap.objs.size := by rw [← hcenv]; rfl
  have hcl : cenv.cells = cellsFrom (s.heap.objs.size + 1) scope.names (cloFrom X.env.cells scope.names []) := by rw [← hcenv]; rfl
  have hsc : cenv.scope = relS scope X.env.scope := by rw [← hcenv]; rfl
  rw [← Heap.size_push s.heap { cls := .type "dict", data := .dict #[] }] at hcl
  have cm : ∀ {y c}, (y, c) ∈ cloFrom X.env.cells scope.names [] → X.env.cells.lookup y = some c ∧ c < s.heap.objs.size := fun {y c} hm => by
    rcases cloFrom_mem hm with hm | ⟨h1, rfl⟩
    · cases hm
    · obtain ⟨c, hc⟩ := hfree _ h1 rfl
      rw [hc]
      obtain ⟨w, z⟩ := I.cell _ _ hc
      exact ⟨rfl, z.lt⟩
  have mem : ∀ {y c}, cenv.cells.lookup y = some c → (X.env.cells.lookup y = some c ∧ c < s.heap.objs.size) ∨ (s.heap.objs.size + 1 ≤ c ∧ CellAt (pushCells (s.heap.push { cls := .type "dict", data := .dict #[] }) scope.names) c none) := fun {y c} e => by
    rw [hcl] at e
    rcases cells_mem (PySem.mem_of_lookup e) with hm | ⟨_, h2, h3⟩
    · exact .inl (cm hm)
    · rw [Heap.size_push] at h2; exact .inr ⟨h2, h3⟩
  have look : ∀ {y}, scope.names.lookup y = some .free → ∃ c, cenv.cells.lookup y = some c ∧ X.env.cells.lookup y = some c := fun {y} hl => by
    have hy : (y, NameKind.free) ∈ scope.names := PySem.mem_of_lookup hl
    obtain ⟨c', e'⟩ := mem_lookup (cells_acc (names := scope.names) (n := (s.heap.push { cls := .type "dict", data := .dict #[] }).objs.size) (cloFrom_has (cells := X.env.cells) (acc := []) hy))
    rw [← hcl] at e'
    refine ⟨c', e', ?_⟩
    rw [hcl] at e'
    rcases cells_mem (PySem.mem_of_lookup e') with hm | ⟨h1, _, _⟩
    · exact (cm hm).1
    · have := ok.uniq _ h1
      rw [hl] at this; cases this
  have okB : (X.blk s H scope cenv fp).Ok := by
    refine ⟨I.ok.mod, by show cenv.scope.kind = _; rw [hsc]; exact ok.kind, by show cenv.globals = _; rw [← hcenv]; exact I.ok.glob, by show cenv.builtins = _; rw [← hcenv]; exact I.ok.blt, by show s.heap.objs.size ≤ cenv.locals; rw [hL]; exact Nat.le_refl _,
      fun y z c e1 e2 => ?_, fun y hy => ?_, fun y c z e => ?_, I.ok.hd, I.ok.frames, .inl rfl, fun b hb => ⟨?_, fun y c e z => ?_⟩, I.bs, Nat.le_trans I.ok.bsz I.sz, fun b o e hb => ?_, fun b hb z => ?_, I.stack, I.stkFree⟩
    · have e1 : cenv.cells.lookup y = some c := e1
      have e2 : cenv.cells.lookup z = some c := e2
      rw [hcl] at e1 e2
      refine cells_inj (fun p hp => ?_) (fun y z c a b => I.ok.inj y z c (cm a).1 (cm b).1) (PySem.mem_of_lookup e1) (PySem.mem_of_lookup e2)
      rw [Heap.size_push]
      exact Nat.lt_succ_of_lt (cm (y := p.1) (c := p.2) hp).2
    · show ∃ c, cenv.cells.lookup y = some c
      have key : ∀ k, cenv.kindOf y = some k → (k = .cell ∨ k = .free) → ∃ c, cenv.cells.lookup y = some c := fun k hk hk' => by
        unfold Env.kindOf at hk
        rw [hsc] at hk
        obtain ⟨k', e, r⟩ := lookup_relS hk
        have : k' = .cell ∨ k' = .free := by
          rcases r with rfl | ⟨rfl, _⟩
          · exact hk'
          · exact .inr rfl
        rcases this with rfl | rfl
        · obtain ⟨c, hm⟩ := cells_has (n := (s.heap.push { cls := .type "dict", data := .dict #[] }).objs.size) (acc := cloFrom X.env.cells scope.names []) (PySem.mem_of_lookup e)
          obtain ⟨c', e'⟩ := mem_lookup hm
          exact ⟨c', by rw [hcl]; exact e'⟩
        · obtain ⟨c, h1, _⟩ := look e
          exact ⟨c, h1⟩
      rcases hy with hy | hy
      · exact key _ hy (.inl rfl)
      · exact key _ hy (.inr rfl)
    · have z : (scope.names.lookup y == some NameKind.cell) = true := z
      have z : scope.names.lookup y = some .cell := by simpa using z
      have e : cenv.cells.lookup y = some c := e
      rw [hcl] at e
      rcases cells_mem (PySem.mem_of_lookup e) with hm | ⟨_, h2, _⟩
      · rcases cloFrom_mem hm with hm | ⟨h1, _⟩
        · cases hm
        · have q := ok.uniq _ h1
          rw [z] at q; cases q
      · rw [Heap.size_push] at h2
        exact Nat.le_of_succ_le h2
    · show b ≠ cenv.locals
      rw [hL]; exact Nat.ne_of_lt (hfp b hb).2
    · have e : cenv.cells.lookup y = some c := e
      rcases mem e with ⟨h1, _⟩ | ⟨h1, _⟩
      · exact (hfp b hb).1.2.2.2.2.1 y c h1 z
      · have h2 : s.heap.objs.size + 1 ≤ b := by rw [← z]; exact h1
        exact absurd (Nat.lt_of_lt_of_le (hfp b hb).2 (Nat.le_of_succ_le h2)) (Nat.lt_irrefl _)
    · rcases (hfp b hb).1.2.2.2.1 with z | z
      · exact I.ok.noex b o e z
      · exact absurd (Nat.lt_of_lt_of_le (Heap.lt_size e) (Nat.le_trans I.ok.bsz z)) (Nat.lt_irrefl _)
    · rcases List.mem_cons.mp (I.stkSub b z) with z | z
      · exact (hfp b hb).1.2.1 z
      · exact (hfp b hb).1.2.2.1 z
  refine ⟨okB, rfl, I.bare, Un.kept kp, ⟨fun _ => none, ?_, fun i y av e1 e2 e3 => ?_⟩, fun y c e => ?_, ?_, fun y c e => ?_, fun p hp => ?_, I.hok.kept kp, by rw [wipe_length]; exact I.len⟩
  · show Heap.Ns _ cenv.locals _
    rw [hL]
    exact Heap.Ns.keeps (Heap.Ns.new ..) fun b o e => pushCells_keeps _ _ _ _ e
  · obtain ⟨e2, hne⟩ := wipe_some e2
    have hfr : scope.names.lookup y = some .free ∧ (cenv.kindOf y = some .cell ∨ cenv.kindOf y = some .free) := by
      have key : ∀ k, cenv.scope.names.lookup y = some k → k = .local ∨ k = .cell ∨ k = .free → scope.names.lookup y = some .free ∧ (cenv.kindOf y = some .cell ∨ cenv.kindOf y = some .free) := fun k hk hk' => by
        have hk0 := hk
        rw [hsc] at hk
        obtain ⟨k', e, r⟩ := lookup_relS hk
        have no : ¬ (k' = .local ∨ k' = .cell) := fun hh => by
          rcases ok.own _ (PySem.mem_of_lookup e) hh with e' | e'
          · obtain ⟨p, hp, hpy⟩ := List.mem_map.mp e'
            have e3 := ok.ix p hp
            have : p.1 = y := hpy
            rw [this] at e3
            exact hne (List.mem_map.mpr ⟨p, hp, nodup_ix hN e3 e1⟩)
          · exact e' (List.mem_of_getElem? e1)
        rcases r with rfl | ⟨rfl, rfl⟩
        · rcases hk' with rfl | rfl | rfl
          · exact absurd (.inl rfl) no
          · exact absurd (.inr rfl) no
          · exact ⟨e, .inr hk0⟩
        · exact ⟨e, .inl hk0⟩
      have e3 : Vis cenv.scope y := e3
      rcases e3 with e3 | e3 | e3
      · exact key _ e3 (.inl rfl)
      · exact key _ e3 (.inr (.inl rfl))
      · exact key _ e3 (.inr (.inr rfl))
    obtain ⟨m, hn, hl⟩ := I.loc
    have hvis : Vis X.env.scope y := (ok.free _ (PySem.mem_of_lookup hfr.1) rfl).elim (fun k => .inr (.inl k)) (fun k => .inr (.inr k))
    obtain ⟨w, r, q⟩ := hl i y av e1 e2 hvis
    refine ⟨w, r, .inr ⟨hfr.2, ?_⟩⟩
    obtain ⟨c, h1, h2⟩ := look hfr.1
    rcases q with ⟨k, _⟩ | ⟨_, c', e', z⟩
    · have k : X.env.scope.names.lookup y = some .local := k
      rcases ok.free _ (PySem.mem_of_lookup hfr.1) rfl with k' | k' <;> rw [show X.env.scope.names.lookup y = _ from k'] at k <;> cases k
    · rw [h2] at e'; cases e'
      exact ⟨c, h1, z.keeps kp⟩
  · have e : cenv.cells.lookup y = some c := e
    rcases mem e with ⟨h1, _⟩ | ⟨_, z⟩
    · obtain ⟨w, z⟩ := I.cell y c h1
      exact ⟨w, z.keeps kp⟩
    · exact ⟨_, z⟩
  · show H cenv.locals = none
    rw [hL]; exact I.hok.fresh (Nat.le_refl _)
  · have e : cenv.cells.lookup y = some c := e
    rcases mem e with ⟨h1, _⟩ | ⟨h1, _⟩
    · exact I.freeC y c h1
    · exact I.hok.fresh (Nat.le_of_succ_le h1)
  · exact absurd (show p ∈ ([] : List (Addr × Obj)) ++ [] from hp) (by simp)
theorem app_ok {E : Value → Shared → Prop} {D : Addr} {xs : List V} {y : V} {v : Value} {Q : Value → Shared → Prop} (I : Inv X pins σ H s) (hD : H D = some (.lst xs)) (hz : xs.length < sizeLine) (r : RelV y v)
    (h : ∀ s', Inv X pins σ (upd H D (.lst (xs ++ [y]))) s' → Q .none s') : wpAny (model X.prog X.w) X.A (call (.builtin "list.append") [.ref D, v]) Q E s := by
  obtain ⟨hz', its, n, ri, e⟩ := I.hok D _ hD
  have hl := ri.length
  refine append_at (hsz := by rw [List.size_toArray]; omega) e fun h' sb ho' => ?_
  refine h { s with heap := h' } (I.write (t' := s.toks) (by rw [hD]; trivial) (.inl rfl) (fun b u hb q => (sb.2 b hb).trans q) ⟨_, ho'⟩ ⟨by rw [List.length_append]; exact hz, its ++ [v], n + 1, ri.append (.cons r .nil), ?_⟩)
  rw [ho']
  simp
def PTs (X : Cx) (ifs : List Expr) (t : TT) : Prop :=
  ∀ (pins : List (Addr × Obj)) (s : Shared) (σ : St) (H : Hp) (Q : Bool → Hp → Prop), Inv X pins σ H s → t σ H Q →
    wpAny (model X.prog X.w) X.A (forIn ifs true fun c r => if r = true then do let ok ← isTrue c X.env (eval c X.env); pure (ForInStep.yield ok) else pure (ForInStep.yield r)) (TP X pins σ Q) X.xe s
def tYes : TT := fun _ H Q => Q true H
theorem pts_nil : PTs X [] tYes := fun _ _ _ H _ I h => wpAny_tests_nil ⟨H, I, h⟩
theorem pts_one {c : Expr} {t : TT} (h : PT X c t) : PTs X [c] t := fun pins s σ H Q I hw => wpAny_tests_one (h pins s σ H Q I hw)
end
theorem thnF {α : Type} {t : Sem α} {Q Q' : α → Shared → Prop} {M : Model} {A : Around} {E : Value → Shared → Prop} {s : Shared} (h : wpAny M A t Q (fun _ _ => False) s) (hQ : ∀ a s, Q a s → Q' a s) : wpAny M A t Q' E s := wpAny_mono h hQ fun _ _ z => False.elim z
theorem compLoop_any {prog : Program} {w : World} {A : Around} {R : Result → Shared → Prop} {s : Shared} {elt target iter : Expr} {ifs : List Expr} {scope : Scope} {pos : Pos} {it acc : Value} {env : Env} (I : Nat → Shared → Prop)
    (turn : ∀ n s, I n s → wpAny (model prog w) A (pyNext it) (fun r s₁ => match r with
      | none => R (.ok .next) s₁
      | some v => wpAny (model prog w) A (letOwnedTupleGo target it v) (fun _ s₁' => wpAny (model prog w) A (assign target env v) (fun _ s₂ =>
          wpAny (model prog w) A (forIn ifs true fun c r => if r = true then do let ok ← isTrue c env (eval c env); pure (ForInStep.yield ok) else pure (ForInStep.yield r)) (fun ok s₃ =>
            if ok = true then wpAny (model prog w) A (eval elt env) (fun x s₄ =>
              wpAny (model prog w) A (call (.builtin "list.append") [acc, x]) (fun _ s₅ => ∃ m, m < n ∧ I m s₅) (notedBy (model prog w) A env fun e s' => R (.error e) s') s₄) (notedBy (model prog w) A env fun e s' => R (.error e) s') s₃
            else ∃ m, m < n ∧ I m s₃) (notedBy (model prog w) A env fun e s' => R (.error e) s') s₂) (notedBy (model prog w) A env fun e s' => R (.error e) s') s₁') (notedBy (model prog w) A env fun e s' => R (.error e) s') s₁) (notedBy (model prog w) A env fun e s' => R (.error e) s') s)
    (n : Nat) (h : I n s) :
    codeAny (model prog w) A (.compLoop (.ListComp elt [⟨target, iter, ifs, 0⟩] scope pos) 0 it acc env) R s := by
  refine codeAny_loop rfl I (fun n s hI => ?_) n h
  show wpAny _ A ((compTurn (.ListComp elt [⟨target, iter, ifs, 0⟩] scope pos) 0 it acc env).onRaise (fun x => do noteFrame x env; theTreesLotGoes x)) _ _ s
  refine wpAny_noted ?_
  rw [compTurn_list]
  refine wpAny_bind (wpAny_standAt (wpAny_bind (wpAny_mono (turn n s hI) (fun r s₁ h₁ => ?_) fun _ _ h' => h')))
  cases r with
  | none => exact wpAny_pure h₁
  | some v =>
    refine wpAny_bind (wpAny_mono h₁ (fun _ s₁' h₁' => ?_) fun _ _ h' => h')
    refine wpAny_bind (wpAny_mono h₁' (fun _ s₂ h₂ => wpAny_bind (wpAny_mono h₂ (fun ok s₃ h₃ => ?_) fun _ _ h' => h')) fun _ _ h' => h')
    cases ok with
    | false => exact wpAny_pure ⟨rfl, h₃⟩
    | true =>
      exact wpAny_bind (wpAny_bind (wpAny_mono h₃ (fun x s₄ h₄ => wpAny_bind (wpAny_mono h₄ (fun _ s₅ h₅ => wpAny_pure (wpAny_pure ⟨rfl, h₅⟩)) fun _ _ h' => h')) fun _ _ h' => h'))
section
variable {X : Cx}
def tLc (wi : TI) (g : TG) (tt : TT) (te : TE) (vs : List Nat) : TE := fun σ H Q => wi σ H fun J H1 => ∀ D, H1 D = none → ∃ W : Nat → Nat → Hp → Prop, (∃ m, W 0 m (upd H1 D (.lst []))) ∧ ∀ i m H, W i m H →
  (J.stop i H ∧ Q (.ref D) H) ∨ (J.go i H ∧ ∃ Nx : Hp → Prop, (∀ H', Nx H' → ∃ m', m' < m ∧ W (i + 1) m' H') ∧ ∀ x H', J.yld i H x H' → g x (wipe σ vs) H' fun σ2 H2 => wipe σ2 vs = wipe σ vs ∧ tt σ2 H2 fun b H3 =>
    if b = true then te σ2 H3 fun y H4 => ∃ acc, H4 D = some (.lst acc) ∧ acc.length < sizeLine ∧ Nx (upd H4 D (.lst (acc ++ [y]))) else Nx H3)
theorem lc_core {pins : List (Addr × Obj)} {s : Shared} {σ : St} {H : Hp} {Q : VK} {elt tg iter : Expr} {ifs : List Expr} {scope : Scope} {own : List (Str × Nat)} {pos pos' : Pos} {wi : TI} {g : TG} {tt : TT} {te : TE} {use : Option (Value → Sem Unit)} {Qf : Value → Shared → Prop}
    (hc : X.calm = true) (hN : X.N.Nodup) (I : Inv X pins σ H s) (hi : PI X tg iter wi) (ok : BlkOk X.N X.env.scope scope own)
    (hg : ∀ (s : Shared) (H : Hp) (C : Addr) (cl : List (Str × Addr)) (fp : List Addr), PG (X.blk s H scope (compEnvC scope cl C X.env) fp) tg g) (ht : ∀ (s : Shared) (H : Hp) (C : Addr) (cl : List (Str × Addr)) (fp : List Addr), PTs (X.blk s H scope (compEnvC scope cl C X.env) fp) ifs tt)
    (he : ∀ (s : Shared) (H : Hp) (C : Addr) (cl : List (Str × Addr)) (fp : List Addr), PE (X.blk s H scope (compEnvC scope cl C X.env) fp) elt te) (hs : ∀ x, foldedSetIterable iter X.env x = pure x)
    (h : tLc wi g tt te (own.map (·.2)) σ H Q)
    (hRR : ∀ D C s' m H', Inv X pins σ H' s' → Q (.ref D) H' → s'.heap.Ns C m → FpOk X pins H' C → compPost (model X.prog X.w) X.A X.xe use Qf (.ref D) C (.ok .next) s') :
    wpAny (model X.prog X.w) X.A (comprehension (.ListComp elt [⟨tg, iter, ifs, 0⟩] scope pos) scope X.env pos' (newList []) false (eval iter X.env) use) Qf X.xe s := by
  have hfree : ∀ y ∈ scope.names, y.2 = .free → ∃ c, X.env.cells.lookup y.1 = some c := fun y hy e => by
    rcases ok.free y hy e with k | k
    · exact I.ok.has _ (.inl k)
    · exact I.ok.has _ (.inr k)
  refine wpAny_comprehension_free (use := use) rfl hs (closure_ok hfree) ok.kind (fun y hy e => by rw [ok.uniq y hy, e])
    (thn (hi pins s σ H _ I h) fun xv s1 hx => thn hx fun itv s2 h2 => ?_)
  obtain ⟨it, fp, tn, J, H2, e, I2, T, st2, f2, q⟩ := h2
  subst e
  refine wpAny_newObj_type (newEnv_comp ?_) (by show 0 ≤ sizeLine; decide)
  generalize hD : s2.heap.objs.size = D
  have hDn : H2 D = none := I2.hok.fresh (Nat.le_of_eq hD)
  obtain ⟨W, ⟨m0, w0⟩, turn⟩ := q D hDn
  -- the new list
  generalize hs3 : ({ s2 with heap := s2.heap.push { cls := .type "list", data := .seq ([] : List Value).toArray } } : Shared) = s3
  have I3 : Inv X pins σ (upd H2 D (.lst [])) s3 := by
    rw [← hs3]
    refine I2.laid (t' := s2.toks) (fun b o e => Heap.get?_push_of_some _ e) (Nat.le_of_eq hD) ⟨Nat.zero_le _, [], 0, .nil, ?_⟩
    rw [← hD]
    exact Heap.get?_push_size _ rfl
  have h3 : s3.heap = s2.heap.push { cls := .type "list", data := .seq ([] : List Value).toArray } := by rw [← hs3]
  have sz : ∀ b ∈ fp, b < s2.heap.objs.size := fun b hb => by
    obtain ⟨o, e, _⟩ := T.obj _ _ st2 b hb
    exact Heap.lt_size e
  have f3 : ∀ b ∈ fp, FpOk X pins (upd H2 D (.lst [])) b ∧ b < s3.heap.objs.size := fun b hb => by
    have hlt := sz b hb
    refine ⟨⟨?_, (f2 b hb).2⟩, by rw [h3, Heap.size_push]; exact Nat.lt_succ_of_lt hlt⟩
    rw [upd_ne (by rw [← hD]; exact Nat.ne_of_lt hlt)]
    exact (f2 b hb).1
  have st3 : tn 0 s3.heap := T.keep _ _ _ st2 fun b _ o e => by rw [h3]; exact Heap.get?_push_of_some _ e
  have I4 := block_start I3 ok hN f3
  have pg := hg s3 (upd H2 D (.lst [])) s3.heap.objs.size (cellsFrom (s3.heap.objs.size + 1) scope.names (cloFrom X.env.cells scope.names [])) fp
  have pt := ht s3 (upd H2 D (.lst [])) s3.heap.objs.size (cellsFrom (s3.heap.objs.size + 1) scope.names (cloFrom X.env.cells scope.names [])) fp
  have pe := he s3 (upd H2 D (.lst [])) s3.heap.objs.size (cellsFrom (s3.heap.objs.size + 1) scope.names (cloFrom X.env.cells scope.names [])) fp
  show codeAny _ _ (.compStart (.ListComp elt [⟨tg, iter, ifs, 0⟩] scope pos) 0 (.ref it) (.ref D) (compEnvC scope (cellsFrom (s3.heap.objs.size + 1) scope.names (cloFrom X.env.cells scope.names [])) s3.heap.objs.size X.env)) (compPost (model X.prog X.w) X.A X.xe use Qf (.ref D) s3.heap.objs.size) { s3 with heap := pushCells (s3.heap.push { cls := .type "dict", data := .dict #[] }) scope.names }
  have nfp : ∀ b ∈ fp, (upd H2 D (.lst [])) b = none := fun b hb => (f3 b hb).1.1
  generalize hce : compEnvC scope (cellsFrom (s3.heap.objs.size + 1) scope.names (cloFrom X.env.cells scope.names [])) s3.heap.objs.size X.env = ce at I4 pg pt pe ⊢
  have cL : ce.locals = s3.heap.objs.size := by subst hce; rfl
  generalize hH3 : upd H2 D (.lst []) = H3 at I3 I4 pg pt pe w0 nfp f3
  generalize hs4 : ({ s3 with heap := pushCells (s3.heap.push { cls := .type "dict", data := .dict #[] }) scope.names } : Shared) = s4 at I4 ⊢
  have st4 : tn 0 s4.heap := T.keep _ _ _ st3 fun b _ o e => by rw [← hs4]; exact pushCells_keeps _ _ _ _ (Heap.get?_push_of_some _ e)
  have stat : ∀ {σ' : St} {H' : Hp} {s' : Shared}, Inv (X.blk s3 H3 scope ce fp) [] σ' H' s' → (∀ b ∈ fp, H' b = none) → ∀ b ∈ fp, FpOk (X.blk s3 H3 scope ce fp) [] H' b := fun {σ' H' s'} I' hn b hb =>
    ⟨hn b hb, (I'.ok.exf b hb).1, I'.ok.exfs b hb, .inl hb, fun x c e => (I'.ok.exf b hb).2 x c e, fun p hp => absurd (show p ∈ ([] : List (Addr × Obj)) ++ [] from hp) (by simp)⟩
  have loop : codeAny (model X.prog X.w) X.A (.compLoop (.ListComp elt [⟨tg, iter, ifs, 0⟩] scope pos) 0 (.ref it) (.ref D) ce) (compPost (model X.prog X.w) X.A X.xe use Qf (.ref D) s3.heap.objs.size) s4 := by
    refine compLoop_any (fun n s' => ∃ i H', Inv (X.blk s3 H3 scope ce fp) [] (wipe σ (own.map (·.2))) H' s' ∧ tn i s'.heap ∧ (∀ b ∈ fp, H' b = none) ∧ W i n H') ?_ m0 ⟨0, H3, I4, st4, nfp, w0⟩
    rintro n s5 ⟨i, H5, I5, st5, n5, w5⟩
    rcases turn i n H5 w5 with ⟨stop, qq⟩ | ⟨go, Nx, hNx, step⟩
    · have td := T.done (X.blk s3 H3 scope ce fp) rfl rfl rfl hc i [] s5 _ H5 (fun _ _ => False) I5 (stat I5 n5) st5 stop
      refine thnF td fun r s6 ⟨hr, I6⟩ => ?_
      subst hr
      -- back in the def's context
      have I7 : Inv X pins σ H5 s6 := I3.call' (ch := fp) I6.os I6.base I6.hok I6.bare fun b hb => ⟨(f3 b hb).1.2.2.2.1, (f3 b hb).1.2.1, (f3 b hb).1.2.2.2.2.1, (f3 b hb).1.2.2.2.2.2⟩
      have nC : H5 s3.heap.objs.size = none := by
        have z : H5 ce.locals = none := I6.free
        rw [cL] at z
        exact z
      obtain ⟨m, hn, _⟩ := I6.loc
      have hn : s6.heap.Ns ce.locals m := hn
      rw [cL] at hn
      exact hRR D s3.heap.objs.size s6 m H5 I7 qq hn (I3.fpOk (Nat.le_refl _) nC)
    · have ti := T.item (X.blk s3 H3 scope ce fp) rfl rfl rfl hc i [] s5 _ H5 (fun _ _ => False) I5 (stat I5 n5) st5 go
      refine thnF ti fun r s6 ⟨u, hr, h6⟩ => ?_
      subst hr
      refine thnF h6 fun _ s7 ⟨x, H7, I7, r7, y7, st7, n7⟩ => ?_
      have I7' := I7.pinned (stat I7 n7) (T.obj _ _ st7)
      refine thnF (pg _ s7 _ H7 x u _ I7' r7 (step x H7 y7)) fun _ s8 ⟨σ8, H8, I8, hw8, q8⟩ => ?_
      refine thnF (pt _ s8 σ8 H8 _ I8 q8) fun b s9 ⟨H9, I9, q9⟩ => ?_
      -- the turn's end
      have fin : ∀ {s' : Shared} {H' : Hp}, Inv (X.blk s3 H3 scope ce fp) ([] ++ pinsAt fp s7.heap) σ8 H' s' → Nx H' → ∃ m, m < n ∧ ∃ i H', Inv (X.blk s3 H3 scope ce fp) [] (wipe σ (own.map (·.2))) H' s' ∧ tn i s'.heap ∧ (∀ b ∈ fp, H' b = none) ∧ W i m H' := fun {s' H'} I' nx => by
        obtain ⟨m', hm, w'⟩ := hNx H' nx
        have pin' : ∀ b ∈ fp, ∀ o, s7.heap.get? b = some o → s'.heap.get? b = some o ∧ H' b = none := fun b hb o e =>
          let z := I'.pin (b, o) (List.mem_append_right _ (List.mem_append_right _ (mem_pinsAt hb e)))
          ⟨z.1, z.2.1⟩
        have hl : (wipe σ (own.map (·.2))).length = σ8.length := by rw [← hw8, wipe_length]
        refine ⟨m', hm, i + 1, H', (I'.unpinned (pins := [])).weak hl (fun j v e => ?_), T.keep _ _ _ st7 fun b hb o e => (pin' b hb o e).1, fun b hb => ?_, w'⟩
        · rw [← hw8] at e
          exact (wipe_some e).1
        · obtain ⟨o, e, _⟩ := T.obj _ _ st7 b hb
          exact (pin' b hb o e).2
      cases b with
      | false =>
        simp only [Bool.false_eq_true, if_false] at q9 ⊢
        exact fin I9 q9
      | true =>
        simp only [if_true] at q9 ⊢
        refine thnF (pe _ s9 σ8 H9 _ I9 q9) fun z s10 ⟨yv, H10, I10, r10, acc, hD10, hz10, nx⟩ => ?_
        exact app_ok (X := X.blk s3 H3 scope ce fp) I10 hD10 hz10 r10 fun s11 I11 => fin I11 nx
  exact codeAny_compStart_list loop (T.self X.A 0 _ _ _ st4 loop)
theorem pe_lc {elt tg iter : Expr} {ifs : List Expr} {scope : Scope} {own : List (Str × Nat)} {pos : Pos} {wi : TI} {g : TG} {tt : TT} {te : TE} (hc : X.calm = true) (hN : X.N.Nodup) (hi : PI X tg iter wi) (ok : BlkOk X.N X.env.scope scope own)
    (hg : ∀ (s : Shared) (H : Hp) (C : Addr) (cl : List (Str × Addr)) (fp : List Addr), PG (X.blk s H scope (compEnvC scope cl C X.env) fp) tg g) (ht : ∀ (s : Shared) (H : Hp) (C : Addr) (cl : List (Str × Addr)) (fp : List Addr), PTs (X.blk s H scope (compEnvC scope cl C X.env) fp) ifs tt)
    (he : ∀ (s : Shared) (H : Hp) (C : Addr) (cl : List (Str × Addr)) (fp : List Addr), PE (X.blk s H scope (compEnvC scope cl C X.env) fp) elt te) (hs : ∀ x, foldedSetIterable iter X.env x = pure x := by intro _; rfl) :
    PE X (.ListComp elt [⟨tg, iter, ifs, 0⟩] scope pos) (tLc wi g tt te (own.map (·.2))) := by
  intro pins s σ H Q I h
  rw [eval_ListComp]
  refine lc_core hc hN I hi ok hg ht he hs h fun D C s' m H' I' q hn f => ⟨m, hn, fun h'' sb => ?_⟩
  obtain ⟨f0, f1, f2, f3, f4, f5⟩ := f
  exact ⟨.ref D, H', I'.turned (t' := s'.toks) (fun b o hb e => (sb.2 b hb).trans e) f0 f1 f3 f4 f5, rfl, q⟩
theorem ps_setLc {i : Nat} {y : Str} {py : Pos} {elt tg iter : Expr} {ifs : List Expr} {scope : Scope} {own : List (Str × Nat)} {pos spos : Pos} {wi : TI} {g : TG} {tt : TT} {te : TE} (hc : X.calm = true) (hN : X.N.Nodup) (hy : X.N[i]? = some y) (hyl : X.env.scope.names.lookup y = some .local)
    (hsw : swapsWith (.ListComp elt [⟨tg, iter, ifs, 0⟩] scope pos) (some (.Name y py)) spos.line X.env = pure true) (hi : PI X tg iter wi) (ok : BlkOk X.N X.env.scope scope own)
    (hg : ∀ (s : Shared) (H : Hp) (C : Addr) (cl : List (Str × Addr)) (fp : List Addr), PG (X.blk s H scope (compEnvC scope cl C X.env) fp) tg g) (ht : ∀ (s : Shared) (H : Hp) (C : Addr) (cl : List (Str × Addr)) (fp : List Addr), PTs (X.blk s H scope (compEnvC scope cl C X.env) fp) ifs tt)
    (he : ∀ (s : Shared) (H : Hp) (C : Addr) (cl : List (Str × Addr)) (fp : List Addr), PE (X.blk s H scope (compEnvC scope cl C X.env) fp) elt te) (hs : ∀ x, foldedSetIterable iter X.env x = pure x := by intro _; rfl) :
    PS X (.Assign [.Name y py] (.ListComp elt [⟨tg, iter, ifs, 0⟩] scope pos) spos) (tAsg (tLc wi g tt te (own.map (·.2))) (gName i)) := by
  intro pins s σ H D I h
  rw [exec_Assign_Name_used _ _ _ _ hsw]
  refine wpAny_bind (wpAny_standAt (wpAny_bind ?_))
  show wpAny _ X.A (do let _ ← comprehension (.ListComp elt [⟨tg, iter, ifs, 0⟩] scope pos) scope X.env (firstIterPos [⟨tg, iter, ifs, 0⟩] pos) (newList []) false (eval iter X.env) (some (assign (.Name y py) X.env))) _ _ s
  have h : tLc wi g tt te (own.map (·.2)) σ H (fun x H1 => gName i x σ H1 D.nx) := h
  refine wpAny_bind (thn (lc_core (Qf := fun _ s' => SP X pins D .next s') hc hN I hi ok hg ht he hs h fun L C s' m H' I' q hn f => ?_) fun _ s' hq => wpAny_pure (wpAny_pure hq))
  show wpAny _ _ (assign (.Name y py) X.env (.ref L)) _ _ _
  refine wpAny_assign_Name (store_ok2 (v := V.ref L) I' hN hy (.inl hyl) rfl (fun s2 I2 ⟨a, sb, ha⟩ => ?_) (.inr hyl))
  obtain ⟨f0, f1, f2, f3, f4, f5⟩ := f
  have haC : C ≠ a := by
    rcases ha with z | z
    · rw [z]; exact f1
    · exact fun e => f4 y a z e.symm
  refine ⟨m, hn.sameBut sb haC, fun h3 sb3 => ?_⟩
  exact ⟨_, H', I2.turned (t' := s2.toks) (fun b o hb e => (sb3.2 b hb).trans e) f0 f1 f3 f4 f5, q⟩
theorem sw_true {elt : Expr} {gs : List Comprehension} {scope : Scope} {pos py : Pos} {y : Str} {l : Nat} {env : Env} (hk : env.scope.kind = .function) (hy : env.scope.names.lookup y = some .local) (hl : (py.line == pos.line) = true)
    (ha : (scope.names.any fun (n, k) => n == y && (k == .local || k == .cell)) = false) : swapsWith (.ListComp elt gs scope pos) (some (.Name y py)) l env = pure true := by
  have ky : env.kindOf y = some .local := hy
  have hb : env.blockKind = .function := by unfold Env.blockKind; rw [hk]; rfl
  unfold swapsWith
  simp only [hb, ky, ha, Expr.pos, hl]
  rfl
end
theorem lc_range {lo : Int} {n : Nat} {g : TG} {tt : TT} {te : TE} {vs : List Nat} {σ : St} {H1 : Hp} {D : Addr} {Qd : Hp → Prop} (Pv : Nat → Hp → Prop) (h0 : Pv 0 (upd H1 D (.lst [])))
    (hs : ∀ i H, i < n → Pv i H → g (.int (lo + i)) (wipe σ vs) H fun σ2 H2 => wipe σ2 vs = wipe σ vs ∧ tt σ2 H2 fun b H3 =>
      if b = true then te σ2 H3 fun y H4 => ∃ acc, H4 D = some (.lst acc) ∧ acc.length < sizeLine ∧ Pv (i + 1) (upd H4 D (.lst (acc ++ [y]))) else Pv (i + 1) H3) (hd : ∀ H, Pv n H → Qd H) :
    ∃ W : Nat → Nat → Hp → Prop, (∃ m, W 0 m (upd H1 D (.lst []))) ∧ ∀ i m H, W i m H →
      ((Itr lo n).stop i H ∧ Qd H) ∨ ((Itr lo n).go i H ∧ ∃ Nx : Hp → Prop, (∀ H', Nx H' → ∃ m', m' < m ∧ W (i + 1) m' H') ∧ ∀ x H', (Itr lo n).yld i H x H' → g x (wipe σ vs) H' fun σ2 H2 => wipe σ2 vs = wipe σ vs ∧ tt σ2 H2 fun b H3 =>
        if b = true then te σ2 H3 fun y H4 => ∃ acc, H4 D = some (.lst acc) ∧ acc.length < sizeLine ∧ Nx (upd H4 D (.lst (acc ++ [y]))) else Nx H3) := by
  refine ⟨fun i m H => m = n - i ∧ i ≤ n ∧ Pv i H, ⟨n, by simp, Nat.zero_le _, h0⟩, ?_⟩
  rintro i m H ⟨rfl, hi, p⟩
  by_cases hlt : i < n
  · refine .inr ⟨hlt, Pv (i + 1), fun H' p' => ⟨n - (i + 1), by omega, rfl, hlt, p'⟩, fun x H' y => ?_⟩
    obtain ⟨e, y⟩ := y
    subst e y
    exact hs i _ hlt p
  · have e : i = n := by omega
    subst e
    exact .inl ⟨Nat.le_refl _, hd H p⟩
theorem lc_list {K : PySem.W.Frag} {a : Addr} {xs : List V} {g : TG} {tt : TT} {te : TE} {vs : List Nat} {σ : St} {H1 : Hp} {D : Addr} {Qd : Hp → Prop} (Pv : Nat → Hp → Prop) (h0 : Pv 0 (upd H1 D (.lst []))) (hl : ∀ i H, i ≤ xs.length → Pv i H → SqL K H a xs)
    (hs : ∀ i x H, xs[i]? = some x → Pv i H → g x (wipe σ vs) H fun σ2 H2 => wipe σ2 vs = wipe σ vs ∧ tt σ2 H2 fun b H3 =>
      if b = true then te σ2 H3 fun y H4 => ∃ acc, H4 D = some (.lst acc) ∧ acc.length < sizeLine ∧ Pv (i + 1) (upd H4 D (.lst (acc ++ [y]))) else Pv (i + 1) H3) (hd : ∀ H, Pv xs.length H → Qd H) :
    ∃ W : Nat → Nat → Hp → Prop, (∃ m, W 0 m (upd H1 D (.lst []))) ∧ ∀ i m H, W i m H →
      ((Itl K a).stop i H ∧ Qd H) ∨ ((Itl K a).go i H ∧ ∃ Nx : Hp → Prop, (∀ H', Nx H' → ∃ m', m' < m ∧ W (i + 1) m' H') ∧ ∀ x H', (Itl K a).yld i H x H' → g x (wipe σ vs) H' fun σ2 H2 => wipe σ2 vs = wipe σ vs ∧ tt σ2 H2 fun b H3 =>
        if b = true then te σ2 H3 fun y H4 => ∃ acc, H4 D = some (.lst acc) ∧ acc.length < sizeLine ∧ Nx (upd H4 D (.lst (acc ++ [y]))) else Nx H3) := by
  refine ⟨fun i m H => m = xs.length - i ∧ i ≤ xs.length ∧ Pv i H, ⟨xs.length, by simp, Nat.zero_le _, h0⟩, ?_⟩
  rintro i m H ⟨rfl, hi, p⟩
  have q := hl i H hi p
  by_cases hlt : i < xs.length
  · refine .inr ⟨⟨xs, xs[i], q, by simp [hlt]⟩, Pv (i + 1), fun H' p' => ⟨xs.length - (i + 1), by omega, rfl, hlt, p'⟩, fun x H' y => ?_⟩
    obtain ⟨e, y⟩ := y
    subst e
    exact hs i x _ (y xs q) p
  · have e : i = xs.length := by omega
    subst e
    exact .inl ⟨⟨xs, q, Nat.le_refl _⟩, hd H p⟩
def blkC (N : List Str) (sc scope : Scope) (own : List (Str × Nat)) : Bool :=
  (match scope.kind with | .function => true | _ => false) && (scope.names.all fun y => decide (scope.names.lookup y.1 = some y.2)) && (own.all fun p => decide (N[p.2]? = some p.1)) &&
    (scope.names.all fun y => match y.2 with
      | .free => (match sc.names.lookup y.1 with | some .cell => true | some .free => true | _ => false)
      | .local => decide (y.1 ∈ own.map (·.1)) || decide (y.1 ∉ N)
      | .cell => decide (y.1 ∈ own.map (·.1)) || decide (y.1 ∉ N)
      | _ => true)
theorem blkOk_by {N : List Str} {sc scope : Scope} {own : List (Str × Nat)} (h : blkC N sc scope own = true) : BlkOk N sc scope own := by
  unfold blkC at h
  simp only [Bool.and_eq_true, List.all_eq_true, decide_eq_true_eq] at h
  obtain ⟨⟨⟨h1, h2⟩, h3⟩, h4⟩ := h
  refine ⟨?_, h2, h3, fun y hy e => ?_, fun y hy e => ?_⟩
  · split at h1
    · assumption
    · cases h1
  · have q := h4 y hy
    simp only [e] at q
    split at q <;> first | exact .inl (by assumption) | exact .inr (by assumption) | cases q
  · have q := h4 y hy
    rcases e with e | e <;> (simp only [e, Bool.or_eq_true, decide_eq_true_eq] at q; exact q)
end L2
namespace L2
open PySem PySem.Spec PyProof.Rows
section
variable {prog : Program} {w : World} {A : Around} {R : Result → Shared → Prop} {s : Shared} {elt t0 i0 t1 i1 : Expr} {ifs0 ifs1 : List Expr} {scope : Scope} {pos : Pos} {it acc : Value} {env : Env}
end
section
variable {X : Cx}
end
end L2
namespace L2
open PySem PySem.Spec PyProof.Rows
section
variable {κ : Type} [DecidableEq κ]
def valV (kvs : List (κ × V)) (k : κ) : Option V := (kvs.find? fun kv => decide (kv.1 = k)).map (·.2)
def putK (kvs : List (κ × V)) (k : κ) (v : V) : List (κ × V) :=
  if (kvs.any fun kv => decide (kv.1 = k)) = true then kvs.map (fun kv => if kv.1 = k then (kv.1, v) else kv) else kvs ++ [(k, v)]
theorem valV_pos {p : κ × V} {r : List (κ × V)} {k : κ} (e : p.1 = k) : valV (p :: r) k = some p.2 := by simp [valV, List.find?_cons, e]
theorem valV_neg {p : κ × V} {r : List (κ × V)} {k : κ} (e : ¬ p.1 = k) : valV (p :: r) k = valV r k := by simp [valV, List.find?_cons, e]
theorem valV_any (k : κ) : ∀ kvs : List (κ × V), (kvs.any fun kv => decide (kv.1 = k)) = (valV kvs k).isSome
  | [] => rfl
  | p :: r => by
    rw [List.any_cons]
    by_cases e : p.1 = k
    · simp only [valV_pos e, decide_eq_true e, Bool.true_or, Option.isSome_some]
    · rw [valV_neg e, decide_eq_false e, Bool.false_or]; exact valV_any k r
theorem length_putK (kvs : List (κ × V)) (k : κ) (v : V) : (putK kvs k v).length ≤ kvs.length + 1 := by
  unfold putK
  split
  · rw [List.length_map]; omega
  · rw [List.length_append, List.length_cons, List.length_nil]; omega
theorem RelO.isSome_eq {o : Option V} {u : Option Value} (r : RelO o u) : o.isSome = u.isSome := by
  cases o with
  | none => cases u with
    | none => rfl
    | some _ => exact (show False from r).elim
  | some _ => cases u with
    | none => exact (show False from r).elim
    | some _ => rfl
theorem RelO.getD {o : Option V} {u : Option Value} {d : V} {d' : Value} (r : RelO o u) (rd : RelV d d') : RelV (o.getD d) (u.getD d') := by
  cases o with
  | none => cases u with
    | none => exact rd
    | some _ => exact (show False from r).elim
  | some _ => cases u with
    | none => exact (show False from r).elim
    | some _ => exact r
theorem KV.val {kvs : List (κ × V)} {vs : List (κ × Value)} (r : KV kvs vs) (k : κ) : RelO (valV kvs k) (valueAt vs k) := by
  unfold KV at r
  induction r with
  | nil => exact True.intro
  | @cons p q ps qs h t ih =>
    obtain ⟨h1, h2⟩ := h
    by_cases e : p.1 = k
    · have e' : q.1 = k := h1.symm.trans e
      have b : valueAt (q :: qs) k = some q.2 := by simp [valueAt, List.find?_cons, e']
      rw [valV_pos e, b]; exact h2
    · have e' : ¬ q.1 = k := fun z => e (h1.trans z)
      have b : valueAt (q :: qs) k = valueAt qs k := by simp [valueAt, List.find?_cons, e']
      rw [valV_neg e, b]; exact ih
theorem KV.any {kvs : List (κ × V)} {vs : List (κ × Value)} (r : KV kvs vs) (k : κ) : (kvs.any fun kv => decide (kv.1 = k)) = vs.any fun kv => decide (kv.1 = k) := by
  unfold KV at r
  induction r with
  | nil => rfl
  | cons h t ih => rw [List.any_cons, List.any_cons, ih, h.1]
theorem KV.repl {kvs : List (κ × V)} {vs : List (κ × Value)} (r : KV kvs vs) (k : κ) {y : V} {u : Value} (ry : RelV y u) :
    KV (kvs.map fun kv => if kv.1 = k then (kv.1, y) else kv) (vs.map fun kv => if kv.1 = k then (kv.1, u) else kv) := by
  unfold KV at r ⊢
  induction r with
  | nil => exact .nil
  | @cons p q ps qs h t ih =>
    rw [List.map_cons, List.map_cons]
    refine .cons ?_ ih
    obtain ⟨h1, h2⟩ := h
    by_cases e : p.1 = k
    · rw [if_pos e, if_pos (h1.symm.trans e)]; exact ⟨h1, ry⟩
    · rw [if_neg e, if_neg (fun z => e (h1.trans z))]; exact ⟨h1, h2⟩
theorem KV.put {kvs : List (κ × V)} {vs : List (κ × Value)} (r : KV kvs vs) (k : κ) {y : V} {u : Value} (ry : RelV y u) : KV (putK kvs k y) (stored vs k u) := by
  unfold putK stored
  rw [r.any k]
  by_cases e : (vs.any fun kv => decide (kv.1 = k)) = true
  · rw [if_pos e, if_pos e]; exact r.repl k ry
  · rw [if_neg e, if_neg e]; exact Paired.snoc r ⟨rfl, ry⟩
theorem KV.length {kvs : List (κ × V)} {vs : List (κ × Value)} (r : KV kvs vs) : kvs.length = vs.length := Paired.length r
end
theorem kV_is {P : Program} {w : World} {k : Key} {u : Value} (r : RelV (kV k) u) : (mixKind P w).is k u = true := by
  cases k with
  | inl i => obtain ⟨t, e⟩ := (show ∃ t, u = Value.int i t from r); subst e; exact mixKind_int P w i t
  | inr x => obtain ⟨t, e⟩ := (show ∃ t, u = Value.str x t from r); subst e; exact mixKind_str P w x t
theorem items_are {P : Program} {w : World} : ∀ {ks : List Key} {us : List Value}, Vals (ks.map kV) us → ItemsAre (mixKind P w) ks us
  | [], _, r => by rw [List.map_nil] at r; cases r; exact .nil
  | k :: ks, _, r => by
    rw [List.map_cons] at r
    cases r with
    | cons h t => exact .cons (kV_is h) (items_are t)
abbrev KT (H : Hp) : List (List Key × V) → List (List Key × Addr × Value) → Prop := Paired fun p q => p.1 = q.1 ∧ H q.2.1 = some (.tup (p.1.map kV)) ∧ RelV p.2 q.2.2
theorem KT.val {H : Hp} {kvs : List (List Key × V)} {xs : List (List Key × Addr × Value)} (r : KT H kvs xs) (k : List Key) : RelO (valV kvs k) ((atKey xs k).map (·.2)) := by
  induction r with
  | nil => exact True.intro
  | @cons p q ps qs h t ih =>
    obtain ⟨h1, _, h2⟩ := h
    by_cases e : p.1 = k
    · have e' : q.1 = k := h1.symm.trans e
      have b : atKey (q :: qs) k = some q.2 := by simp [atKey, List.find?_cons, e']
      rw [valV_pos e, b]; exact h2
    · have e' : ¬ q.1 = k := fun z => e (h1.trans z)
      have b : atKey (q :: qs) k = atKey qs k := by simp [atKey, List.find?_cons, e']
      rw [valV_neg e, b]; exact ih
theorem KT.repl {H : Hp} {kvs : List (List Key × V)} {xs : List (List Key × Addr × Value)} (r : KT H kvs xs) (k : List Key) {y : V} {u : Value} (ry : RelV y u) :
    KT H (kvs.map fun kv => if kv.1 = k then (kv.1, y) else kv) (xs.map (putAt k u)) := by
  induction r with
  | nil => exact .nil
  | @cons p q ps qs h t ih =>
    rw [List.map_cons, List.map_cons]
    refine .cons ?_ ih
    obtain ⟨h1, h2, h3⟩ := h
    unfold putAt
    by_cases e : p.1 = k
    · rw [if_pos e, if_pos (h1.symm.trans e)]; exact ⟨h1, h2, ry⟩
    · rw [if_neg e, if_neg (fun z => e (h1.trans z))]; exact ⟨h1, h2, h3⟩
theorem KT.put {H : Hp} {kvs : List (List Key × V)} {xs : List (List Key × Addr × Value)} (r : KT H kvs xs) (k : List Key) {b : Addr} {y : V} {u : Value} (hb : H b = some (.tup (k.map kV))) (ry : RelV y u) :
    KT H (putK kvs k y) (storedH xs k b u) := by
  have e : (kvs.any fun kv => decide (kv.1 = k)) = (atKey xs k).isSome := by
    rw [valV_any, (r.val k).isSome_eq, Option.isSome_map]
  unfold putK storedH
  rw [e]
  by_cases q : (atKey xs k).isSome = true
  · rw [if_pos q, if_pos q]; exact r.repl k ry
  · rw [if_neg q, if_neg q]; exact Paired.snoc r ⟨rfl, hb, ry⟩
theorem KT.keeps {H H' : Hp} {kvs : List (List Key × V)} {xs : List (List Key × Addr × Value)} (r : KT H kvs xs) (ht : ∀ b ys, H b = some (.tup ys) → H' b = some (.tup ys)) : KT H' kvs xs :=
  Paired.mapP r fun _ _ z => ⟨z.1, ht _ _ z.2.1, z.2.2⟩
section
variable {P : Program} {w : World} {H : Hp} {h : Heap} {a : Addr}
theorem rd_of {u : HO} (ok : HOk P w H h) (e : Rd H a u) : ObjOk P w H h a u := e.ok ok
theorem dk_rd {kvs : List (Key × V)} (ok : HOk P w H h) (e : Rd H a (.dK kvs)) : kvs.length ≤ sizeLine ∧ (a == sysModules) = false ∧ ∃ vs, KV kvs vs ∧ h.DictOf (mixKind P w) a vs :=
  show ObjOk P w H h a (.dK kvs) from rd_of ok e
theorem dk_of {kvs : List (Key × V)} (ok : HOk P w H h) (e : H a = some (.dK kvs)) : kvs.length ≤ sizeLine ∧ (a == sysModules) = false ∧ ∃ vs, KV kvs vs ∧ h.DictOf (mixKind P w) a vs := dk_rd ok (.inl e)
theorem key_of {ks : List Key} (ok : HOk P w H h) (e : H a = some (.tup (ks.map kV))) : (tupleKind (mixKind P w)).is h ks a := by
  obtain ⟨_, its, r, o, h1, h2, n, h3⟩ := (show ObjOk P w H h a (.tup (ks.map kV)) from ok a _ e)
  exact ⟨o, its.toArray, n, h1, h2, h3, by simpa using items_are r⟩
theorem dt_rd {kvs : List (List Key × V)} (ok : HOk P w H h) (e : Rd H a (.dT kvs)) : kvs.length ≤ sizeLine ∧ (a == sysModules) = false ∧
    ∃ xs, KT H kvs xs ∧ h.DictOfH (tupleKind (mixKind P w)) a xs := by
  obtain ⟨z, y, xs, r, o, es, ep, h1, h2, h3, h4, h5⟩ := (show ObjOk P w H h a (.dT kvs) from rd_of ok e)
  refine ⟨z, y, xs, r, o, es, ep, h1, h2, h3, h4, fun x hx => ?_, h5⟩
  have all : ∀ {l : List (List Key × V)} {m : List (List Key × Addr × Value)}, KT H l m → ∀ x ∈ m, (tupleKind (mixKind P w)).is h x.1 x.2.1 := by
    intro l m q
    induction q with
    | nil => intro x hx; exact nomatch hx
    | @cons p q ps qs hq t ih =>
      intro x hx
      rcases List.mem_cons.mp hx with e | hx
      · subst e
        exact key_of ok (by rw [← hq.1]; exact hq.2.1)
      · exact ih x hx
  exact all r x hx
theorem dt_of {kvs : List (List Key × V)} (ok : HOk P w H h) (e : H a = some (.dT kvs)) : kvs.length ≤ sizeLine ∧ (a == sysModules) = false ∧
    ∃ xs, KT H kvs xs ∧ h.DictOfH (tupleKind (mixKind P w)) a xs := dt_rd ok (.inl e)
end
def DGet (H : Hp) (a : Addr) (y : V) (r : Option V) : Prop :=
  (∃ kvs k, Rd H a (.dK kvs) ∧ y = kV k ∧ r = valV kvs k) ∨ ∃ kvs k b, Rd H a (.dT kvs) ∧ y = .ref b ∧ H b = some (.tup (k.map kV)) ∧ r = valV kvs k
def DPut (H : Hp) (a : Addr) (y v : V) (H' : Hp) : Prop :=
  (∃ kvs k, H a = some (.dK kvs) ∧ y = kV k ∧ kvs.length < sizeLine ∧ H' = upd H a (.dK (putK kvs k v))) ∨
  ∃ kvs k b, H a = some (.dT kvs) ∧ y = .ref b ∧ H b = some (.tup (k.map kV)) ∧ kvs.length < sizeLine ∧ H' = upd H a (.dT (putK kvs k v))
theorem DGet.k {H : Hp} {a : Addr} {kvs : List (Key × V)} {k : Key} (e : H a = some (.dK kvs)) : DGet H a (kV k) (valV kvs k) := .inl ⟨kvs, k, .inl e, rfl, rfl⟩
theorem DPut.k {H : Hp} {a : Addr} {kvs : List (Key × V)} {k : Key} {v : V} (e : H a = some (.dK kvs)) (hl : kvs.length < sizeLine) : DPut H a (kV k) v (upd H a (.dK (putK kvs k v))) := .inl ⟨kvs, k, e, rfl, hl, rfl⟩
section
variable {X : Cx} {pins : List (Addr × Obj)} {σ : St} {H : Hp} {s : Shared} {a : Addr} {y v : V} {u r : Value} {o : Option V} {A : Around} {E : Value → Shared → Prop}
theorem Inv.big (I : Inv X pins σ H s) : sysModules < s.heap.objs.size := by
  have h : mainGlobals < s.heap.objs.size := (I.mod.glob.keeps I.bk).lt
  exact Nat.lt_trans (by decide) h
theorem d_write {h' : Heap} {t' : Nat} {ob : HO} (I : Inv X pins σ H s) (mu : Mut (H a)) (hs : Heap.SameBut a s.heap h') (he : ∃ q, h'.get? a = some q) (new : ObjOk X.prog X.w (upd H a ob) h' a ob) :
    Inv X pins σ (upd H a ob) { s with heap := h', toks := t' } :=
  I.write (x := a) (e := a) mu (.inl rfl) (fun b q hb z => (hs.2 b hb).trans z) he new
theorem dk_new {P : Program} {w : World} {H' : Hp} {h' : Heap} {kvs : List (Key × V)} {vs : List (Key × Value)} (z : kvs.length ≤ sizeLine) (hd : (a == sysModules) = false) (rel : KV kvs vs) (dd : h'.DictOf (mixKind P w) a vs) :
    ObjOk P w H' h' a (.dK kvs) := ⟨z, hd, vs, rel, dd⟩
theorem d_setItem {H' : Hp} {Q : Unit → Shared → Prop} (hu : A.units + 1 < cLine) (I : Inv X pins σ H s) (g : DPut H a y v H') (ry : RelV y u) (rv : RelV v r) (h : ∀ s', Inv X pins σ H' s' → Q () s') :
    wpAny (model X.prog X.w) A (setItem (.ref a) u r) Q E s := by
  rcases g with ⟨kvs, k, e, ey, l, eH⟩ | ⟨kvs, k, b, e, ey, eb, l, eH⟩
  · subst ey eH
    obtain ⟨z, hd, vs, rel, dd⟩ := dk_of I.hok e
    have hz : vs.length ≤ sizeLine := by rw [← rel.length]; exact z
    have hl : (putK kvs k v).length ≤ sizeLine := by have := length_putK kvs k v; omega
    refine wpAny_setItem_pairs (hsz := hz) (kV_is ry) dd fun h' dd' hs => h _ ?_
    have he : ∃ q, h'.get? a = some q := let ⟨q, _, _, hq, _⟩ := dd'; ⟨q, hq⟩
    exact d_write I (by rw [e]; exact True.intro) hs he (dk_new hl hd (rel.put k rv) dd')
  · subst ey eH
    cases (show u = Value.ref b from ry)
    obtain ⟨z, hd, xs, rel, dd⟩ := dt_of I.hok e
    have hz : xs.length ≤ sizeLine := by rw [← Paired.length rel]; exact z
    have hl : (putK kvs k v).length ≤ sizeLine := by have := length_putK kvs k v; omega
    refine wpAny_setItem_heap (hsz := hz) (tupleKind_room_in1 hu) (key_of I.hok eb) dd fun h' dd' hs => h _ ?_
    obtain ⟨q, es, ep, hq, h2, h3, h4, _, h5⟩ := dd'
    refine d_write I (by rw [e]; exact True.intro) hs ⟨q, hq⟩ ⟨hl, hd, _, (rel.put k eb rv).keeps fun c ys ec => ?_, q, es, ep, hq, h2, h3, h4, h5⟩
    rw [upd_ne (ne_of ec e (fun z => nomatch z))]
    exact ec
end
section
variable {X : Cx} {pins : List (Addr × Obj)} {σ : St} {H : Hp} {s : Shared} {a : Addr} {kvs : List (Key × V)} {k : Key} {u : Value} {A : Around} {E : Value → Shared → Prop}
end
def sDPut (td ty tv : TE) : TS := fun D σ H => tv σ H fun v H1 => td σ H1 fun x H2 => ty σ H2 fun y H3 => ∃ a H4, x = .ref a ∧ DPut H3 a y v H4 ∧ D.nx σ H4
section
variable {X : Cx} {o i e value : Expr} {pos pos' tpos : Pos} {td ty tv : TE}
theorem ps_dput (hu : X.A.units + 1 < cLine) (ho : PE X o td) (hi : PE X i ty) (hv : PE X value tv) (hs : swapsWith value (some (.Subscript o i pos')) pos.line X.env = pure false) :
    PS X (.Assign [.Subscript o i pos'] value pos) (sDPut td ty tv) := by
  intro pins s σ H D I h
  refine wpAny_Assign_Subscript (thn (hv pins s σ H _ I h) fun r s1 ⟨v, H1, I1, rv, q1⟩ => thn (ho pins s1 σ H1 _ I1 q1) fun u s2 ⟨x, H2, I2, rx, q2⟩ => thn (hi pins s2 σ H2 _ I2 q2) fun iv s3 ⟨y, H3, I3, ry, a, H4, ex, g, q3⟩ => ?_) hs
  subst ex
  obtain rfl : u = Value.ref a := rx
  exact d_setItem hu I3 g ry rv fun s4 I4 => ⟨σ, H4, I4, q3⟩
end
theorem dk_empty {P : Program} {w : World} {H : Hp} (h : Heap) (hb : sysModules < h.objs.size) : ObjOk P w H (h.push { cls := .type "dict", data := .dict #[] }) h.objs.size (.dK []) :=
  ⟨Nat.zero_le _, beq_eq_false_iff_ne.mpr (Ne.symm (Nat.ne_of_lt hb)), [], .nil, Heap.DictOf.new h⟩
def tDNewK : TE := fun _ H Q => ∀ p, H p = none → Q (.ref p) (upd H p (.dK []))
section
variable {X : Cx} {pos : Pos}
theorem pe_dnewK : PE X (.Dict [] [] pos) tDNewK := fun pins s σ H Q I h =>
  wpAny_Dict_empty ⟨.ref s.heap.objs.size, _, I.laid (a := s.heap.objs.size) (o := .dK []) (t' := s.toks) (fun _ _ q => Heap.get?_push_of_some _ q) (Nat.le_refl _) (dk_empty s.heap I.big), rfl, h _ (I.hok.fresh (Nat.le_refl _))⟩
end
structure M2 (X : Cx) (o : Expr) (m : Str) (apos : Pos) (e f : Expr) (cpos : Pos) : Prop where
  base : attributeBase o m X.env (eval o X.env) = eval o X.env
  few : ((backTo cpos (starEach [e, f] X.env)).all (fun x => !x.1) && (backToKw cpos (keywordEach [] X.env)).all (fun x => x.1.isSome)
    && decide (([e, f] : List Expr).length + ([] : List Keyword).length + (if ([] : List Keyword).isEmpty then 0 else 1) < 30)) = true
  line : (apos.endLine == cpos.line) = true
  trees : backTo cpos (starEach [e, f] X.env) = [(false, eval e X.env), (false, eval f X.env)]
def IsD (H : Hp) (a : Addr) : Prop := (∃ kvs, Rd H a (.dK kvs)) ∨ ∃ kvs, Rd H a (.dT kvs)
theorem isD_at {X : Cx} {pins : List (Addr × Obj)} {σ : St} {H : Hp} {s : Shared} {a : Addr} (I : Inv X pins σ H s) (d : IsD H a) :
    s.TypeIs (.ref a) "dict" ∧ (∀ b, Value.ref a = .ref b → ∃ ob, s.heap.get? b = some ob ∧ ob.dict = none) ∧ (a == sysModules) = false := by
  rcases d with ⟨kvs, e⟩ | ⟨kvs, e⟩
  · obtain ⟨_, hd, vs, _, dd⟩ := dk_rd I.hok e
    refine ⟨dd.typeIs, fun b q => ?_, hd⟩
    cases q
    obtain ⟨ob, _, _, h1, h2, _⟩ := dd
    exact ⟨ob, h1, h2.2.1⟩
  · obtain ⟨_, hd, xs, _, dd⟩ := dt_rd I.hok e
    refine ⟨dd.typeIs, fun b q => ?_, hd⟩
    cases q
    obtain ⟨ob, _, _, h1, h2, _⟩ := dd
    exact ⟨ob, h1, h2.2.1⟩
section
variable {X : Cx} {pins : List (Addr × Obj)} {σ : St} {H : Hp} {s : Shared} {a : Addr} {y d : V} {u r : Value} {o : Option V} {A : Around} {E : Value → Shared → Prop}
theorem d_get2 {Q : Value → Shared → Prop} (hu : A.units + 1 < cLine) (I : Inv X pins σ H s) (g : DGet H a y o) (ry : RelV y u) (rd : RelV d r) (h : ∀ w' s', Inv X pins σ H s' → RelV (o.getD d) w' → Q w' s') :
    wpAny (model X.prog X.w) A (call (.builtin "dict.get") [.ref a, u, r]) Q E s := by
  rcases g with ⟨kvs, k, e, ey, l⟩ | ⟨kvs, k, b, e, ey, eb, l⟩
  · subst ey
    obtain ⟨z, hd, vs, rel, dd⟩ := dk_rd I.hok e
    refine call_meetsIn PySem.F.slot_dict_get dd.typeIs PySem.F.entry_dict_get (PySem.F.args_dict_get_3 _ _ _) (meets_dict_get_default (mixKind X.prog X.w) a (kV_is ry) hd r) ⟨_, dd.mapOf, h _ _ (I.tok _) ?_⟩
    rw [l]
    exact (rel.val k).getD rd
  · subst ey
    cases (show u = Value.ref b from ry)
    obtain ⟨z, hd, xs, rel, dd⟩ := dt_rd I.hok e
    refine call_meetsIn PySem.F.slot_dict_get dd.typeIs PySem.F.entry_dict_get (PySem.F.args_dict_get_3 _ _ _) (meetsH_dict_get_default (tupleKind (mixKind X.prog X.w)) a b hd r) ⟨tupleKind_room_in1 hu, k, xs, key_of I.hok eb, dd, h _ _ (I.tok _) ?_⟩
    rw [l]
    exact (rel.val k).getD rd
end
def tDGet2 (td ty tx : TE) : TE := fun σ H Q => td σ H fun x H1 => ∃ a, x = .ref a ∧ IsD H1 a ∧ ty σ H1 fun y H2 => tx σ H2 fun z H3 => ∃ o, DGet H3 a y o ∧ Q (o.getD z) H3
section
variable {X : Cx} {o e f : Expr} {apos cpos : Pos} {td ty tx : TE}
theorem pe_dget2 (hu : X.A.units + 1 < cLine) (ho : PE X o td) (he : PE X e ty) (hf : PE X f tx) (m : M2 X o "get" apos e f cpos) : PE X (.Call (.Attribute o "get" apos) [e, f] [] cpos) (tDGet2 td ty tx) := by
  intro pins s σ H Q I h
  refine wpAny_Call_method m.base m.few m.line PySem.F.plainAttrs_dict PySem.F.slot_dict_get PySem.F.type_dict_get (thn (ho pins s σ H _ I h) fun u s1 ⟨x, H1, I1, rx, a, ex, d, q1⟩ => ?_)
  subst ex
  obtain rfl : u = Value.ref a := rx
  obtain ⟨t1, t2, _⟩ := isD_at I1 d
  refine ⟨t1, t2, ?_⟩
  rw [m.trees]
  refine Calls.callWith_builtin rfl (Calls.evalArgs_plain (Calls.spliced_cons (thn (he pins s1 σ H1 _ I1 q1) fun iv s2 ⟨y, H2, I2, ry, q2⟩ =>
    Calls.spliced_cons (thn (hf pins s2 σ H2 _ I2 q2) fun fv s3 ⟨z, H3, I3, rz, ov, g, q3⟩ => Calls.spliced_nil ?_))))
  exact d_get2 hu I3 g ry rz fun w' s4 I4 rw' => ⟨_, H3, I4, rw', q3⟩
end
section
variable {X : Cx} {pins : List (Addr × Obj)} {σ : St} {H : Hp} {s : Shared} {a : Addr} {kvs : List (Key × V)} {A : Around} {E : Value → Shared → Prop}
end
section
variable {X : Cx} {pins : List (Addr × Obj)} {σ : St} {H : Hp} {s : Shared} {a : Addr} {y : V} {u : Value} {A : Around} {E : Value → Shared → Prop}
end
end L2
namespace L2
open PySem PySem.Spec PyProof.Rows
section
variable {prog : Program} {w : World} {A : Around} {E : Value → Shared → Prop}
end
section
variable {X : Cx}
end
end L2
namespace L2
open PySem PySem.Spec PyProof.Rows
theorem boot_reversed5 : bootBuiltins "reversed" = some (.type "reversed") := by decide +kernel
section
variable {X : Cx} {pins : List (Addr × Obj)} {σ : St} {H : Hp} {s : Shared} {h' : Heap}
theorem Inv.turnedL {t' : Nat} {ch : List Addr} (I : Inv X pins σ H s) (k : ∀ b o, b ∉ ch → s.heap.get? b = some o → h'.get? b = some o) (hf : ∀ b ∈ ch, FpOk X pins H b) : Inv X pins σ H { s with heap := h', toks := t' } := by
  have nit : ∀ b u, H b = some u → b ∉ ch := fun b u e z => by
    have q := (hf b z).1
    rw [q] at e; cases e
  refine I.step (g' := s.gens) (d' := s.drawn) (ch := ch) (fun b hb => ⟨(hf b hb).2.2.2.1, (hf b hb).2.1, (hf b hb).2.2.2.2.1, (hf b hb).2.2.2.2.2⟩) (fun b o _ _ hc e _ => k b o hc e) (fun b o _ _ hc e _ => ⟨o.slots, k b o hc e⟩)
    (fun _ _ _ _ n => n) (fun b o hc e => ⟨o, k b o hc e⟩) (fun _ _ e => e) (fun _ _ _ e => e) (fun b ps e => ⟨#[], by rw [e]; simp⟩) (fun m hm => ?_) (fun b u e => ?_) I.bare
  · obtain ⟨o, es, ep, ho, r⟩ := hm
    exact ⟨o, es, ep, k _ o (fun z => (hf _ z).2.1 rfl) ho, r⟩
  · refine (I.hok b u e).stay (fun c v hc q => k c v ?_ q) (fun _ q => q) fun _ _ q => q
    rcases hc with z | z
    · rw [z]; exact nit b u e
    · exact nit c _ z
theorem Inv.turnedNew {t' : Nat} {ch : List Addr} {T : Addr} {ob : HO} (I : Inv X pins σ H s) (k : ∀ b o, b ∉ ch → s.heap.get? b = some o → h'.get? b = some o) (hf : ∀ b ∈ ch, FpOk X pins H b) (hT : s.heap.objs.size ≤ T)
    (new : ObjOk X.prog X.w (upd H T ob) h' T ob) : Inv X pins σ (upd H T ob) { s with heap := h', toks := t' } := by
  have hn : H T = none := I.hok.fresh hT
  have nit : ∀ b u, H b = some u → b ∉ ch := fun b u e z => by
    have q := (hf b z).1
    rw [q] at e; cases e
  refine I.step (g' := s.gens) (d' := s.drawn) (ch := ch) (fun b hb => ⟨(hf b hb).2.2.2.1, (hf b hb).2.1, (hf b hb).2.2.2.2.1, (hf b hb).2.2.2.2.2⟩) (fun b o _ _ hc e _ => k b o hc e) (fun b o _ _ hc e _ => ⟨o.slots, k b o hc e⟩)
    (fun b o _ e n => ?_) (fun b o hc e => ⟨o, k b o hc e⟩) (fun b xs e => ?_) (fun b o u e => ?_) (fun b ps e => ⟨#[], ?_⟩) (fun m hm => ?_) (fun b u e => ?_) I.bare
  · rw [upd_ne (Nat.ne_of_lt (Nat.lt_of_lt_of_le (Heap.lt_size e) hT))]; exact n
  · rw [upd_ne (ne_of_none e hn)]; exact e
  · rw [upd_ne (ne_of_none e hn)]; exact e
  · rw [upd_ne (ne_of_none e hn), e]; simp
  · obtain ⟨o, es, ep, ho, r⟩ := hm
    exact ⟨o, es, ep, k _ o (fun z => (hf _ z).2.1 rfl) ho, r⟩
  · by_cases hb : b = T
    · subst hb
      rw [upd_same] at e
      cases e
      exact new
    · rw [upd_ne hb] at e
      refine (I.hok b u e).stay (fun c v hc q => k c v ?_ q) (fun c q => by rw [upd_ne (ne_of_none q hn)]; exact q) fun c xs q => by rw [upd_ne (ne_of_none q hn)]; exact q
      rcases hc with z | z
      · rw [z]; exact nit b u e
      · exact nit c _ z
end
section
variable {X : Cx}
theorem pi_one {tg : Expr} {pins : List (Addr × Obj)} {σ : St} {H : Hp} {s : Shared} {R : It → Hp → Prop} {J : It} {tn : Nat → Heap → Prop} {tk : Nat} (I : Inv X pins σ H s) (o : Obj)
    (T : Turn X.prog X.w X.K tg J [s.heap.objs.size] s.heap.objs.size tn) (st : tn 0 (s.heap.push o)) (q : R J H) : PIE X pins σ tg R (.ref s.heap.objs.size) { s with heap := s.heap.push o, toks := tk } := by
  refine ⟨s.heap.objs.size, [s.heap.objs.size], tn, J, H, rfl, I.kept fun b ob e => Heap.get?_push_of_some _ e, T, st, fun b hb => ?_, q⟩
  have e : b = s.heap.objs.size := by simpa using hb
  subst e
  exact I.fpOk (Nat.le_refl _) (I.hok.fresh (Nat.le_refl _))
end
def Itc (lo c : Int) (n : Nat) : It := ⟨fun i _ => i < n, fun i H x H' => H' = H ∧ x = .int (lo + (i : Nat) * c), fun i _ => n ≤ i⟩
theorem turn_rangeC {P : Program} {w : World} {K : PySem.W.Frag} {tg : Expr} (it : Addr) (lo c : Int) (n : Nat) : Turn P w K tg (Itc lo c n) [it] it (fun i h => IsRangeIter h it (lo + (i : Nat) * c) ((n : Int) - (i : Nat)) c) where
  mem := by simp
  obj := fun i h st b hb => by
    have e : b = it := by simpa using hb
    subst e
    exact ⟨_, st, fun v z => nomatch z⟩
  keep := fun i h h' st k => k it (by simp) _ st
  item := by
    intro X hP hw hK hc i pins s σ H E I hf st hg
    subst hP hw hK
    obtain ⟨f0, f1, f2, f3, f4, f5⟩ := hf it (by simp)
    have W := Walks.range (prog := X.prog) (w := X.w) (I.ok.hd hc) it lo c n
    refine W.item i s _ _ hg st fun v h' tk hv st' kk => ?_
    obtain ⟨t, rfl⟩ := hv
    have I1 : Inv X pins σ H { s with heap := h', toks := tk } := I.turned (fun b o hb e => kk b o (by simpa using hb) e) f0 f1 f3 f4 f5
    exact ⟨_, rfl, go_of (s := { s with heap := h', toks := tk }) (n := "range_iterator") st' rfl rfl (by decide) ⟨.int (lo + (i : Nat) * c), H, I1, ⟨t, rfl⟩, ⟨rfl, rfl⟩, st', fun b hb => (hf b hb).1⟩⟩
  done := by
    intro X hP hw hK hc i pins s σ H E I hf st hg
    subst hP hw hK
    obtain ⟨f0, f1, f2, f3, f4, f5⟩ := hf it (by simp)
    exact wpAny_pyNext_range_end (I.ok.hd hc) st (by have : n ≤ i := hg; omega) fun h' eb => ⟨rfl, I.turned (t' := s.toks) (fun b o hb e => eb b o hb e) f0 f1 f3 f4 f5⟩
  self := fun A i s Q E st h => wpAny_pyIter_rangeiter st h
def RgC (i j c : Int) (n : Nat) : Prop := c ≠ 0 ∧ c.natAbs < 1073741824 ∧ Builtin.Range.small i j c = true ∧ Builtin.Range.rangeSize i j c = n
def iRng3 (ta : TA) : TI := fun σ H R => ta σ H fun vs H1 => ∃ (i j c : Int) (n : Nat), vs = [.int i, .int j, .int c] ∧ RgC i j c n ∧ R (Itc i c n) H1
section
variable {X : Cx} {tg : Expr}
theorem pi_range3 {a b c : Expr} {ta : TA} {p pos : Pos} (hg : Gl X "range") (hm : X.mg "range" = none) (ha : PA X [a, b, c] ta)
    (hs : starEach [a, b, c] X.env = (false, eval a X.env) :: starEach [b, c] X.env := by rfl) (hpl : (backTo pos (starEach [b, c] X.env)).any (·.1) = false := by rfl) :
    PI X tg (.Call (.Name "range" p) [a, b, c] [] pos) (iRng3 ta) := by
  intro pins s σ H R I h
  refine Call_ (ld_blt I hg hm boot_range (PyProof.Rows.callWith_type1 (thn (ha pos pins s σ H _ I h) fun us s1 ⟨vs, H1, I1, r1, q1⟩ => ?_) hs hpl))
  obtain ⟨i, j, k, n, e, ⟨c0, c1, c2, c3⟩, q⟩ := q1
  subst e
  cases r1 with
  | cons r rr =>
    cases rr with
    | cons r' rr =>
      cases rr with
      | cons r'' rr =>
        cases rr
        obtain ⟨t, rfl⟩ := r
        obtain ⟨t', rfl⟩ := r'
        obtain ⟨t'', rfl⟩ := r''
        refine call_range_3 c0 ?_ (.inl (PyProof.noPylong_small c1))
        refine wpAny_pyIter_range (IsRange.new ..) c2 ?_
        have I2 : Inv X pins σ H1 { s1 with heap := s1.heap.push { cls := .type "range", data := .fields #[.int i t, .int j t', .int k t''] } } := I1.kept (t' := s1.toks) fun b o e => Heap.get?_push_of_some _ e
        refine pi_one (tk := s1.toks) I2 _ (turn_rangeC _ i k n) ?_ q
        have e1 : i + ((0 : Nat) : Int) * k = i := by simp
        have e2 : (n : Int) - ((0 : Nat) : Int) = Builtin.Range.rangeSize i j k := by rw [c3]; simp
        show IsRangeIter _ _ (i + ((0 : Nat) : Int) * k) ((n : Int) - ((0 : Nat) : Int)) k
        rw [e1, e2]
        exact Heap.get?_push_size _ rfl
end
theorem for_rangeC {lo c : Int} {n : Nat} {g : TG} {tb : TS} {D : Ends} {σ : St} {H : Hp} (Pv : Nat → St → Hp → Prop) (h0 : Pv 0 σ H)
    (hs : ∀ i σ H, i < n → Pv i σ H → g (.int (lo + (i : Nat) * c)) σ H fun σ2 H2 => tb { D with nx := Pv (i + 1), ct := Pv (i + 1), bk := D.nx } σ2 H2) (hd : ∀ σ H, Pv n σ H → D.nx σ H) :
    ∃ W : Nat → Nat → St → Hp → Prop, (∃ m, W 0 m σ H) ∧ ∀ i m σ H, W i m σ H →
      ((Itc lo c n).stop i H ∧ D.nx σ H) ∨ ((Itc lo c n).go i H ∧ ∃ N : St → Hp → Prop, (∀ σ' H', N σ' H' → ∃ m', m' < m ∧ W (i + 1) m' σ' H') ∧ ∀ x H', (Itc lo c n).yld i H x H' → g x σ H' fun σ2 H2 => tb { D with nx := N, ct := N, bk := D.nx } σ2 H2) := by
  refine ⟨fun i m σ H => m = n - i ∧ i ≤ n ∧ Pv i σ H, ⟨n, by simp, Nat.zero_le _, h0⟩, ?_⟩
  rintro i m σ H ⟨rfl, hi, p⟩
  by_cases hlt : i < n
  · refine .inr ⟨hlt, Pv (i + 1), fun σ' H' p' => ⟨n - (i + 1), by omega, rfl, hlt, p'⟩, fun x H' y => ?_⟩
    obtain ⟨e, y⟩ := y
    subst e y
    exact hs i σ _ hlt p
  · have e : i = n := by omega
    subst e
    exact .inl ⟨Nat.le_refl _, hd σ H p⟩
def Itv (K : PySem.W.Frag) (a : Addr) (n : Nat) : It :=
  ⟨fun i H => i < n ∧ ∃ (xs : List V) (x : V), SqL K H a xs ∧ xs[n - 1 - i]? = some x, fun i H x H' => H' = H ∧ ∀ xs, SqL K H a xs → xs[n - 1 - i]? = some x, fun i _ => n ≤ i⟩
theorem turn_rev {P : Program} {w : World} {K : PySem.W.Frag} {tg : Expr} (a it : Addr) (n : Nat) : Turn P w K tg (Itv K a n) [it] it (fun i h => i ≤ n ∧ h.IsRevIter it a ((n : Int) - 1 - (i : Nat))) where
  mem := by simp
  obj := fun i h st b hb => by
    have e : b = it := by simpa using hb
    subst e
    obtain ⟨_, o, e, c, d⟩ := st
    exact ⟨o, e, fun v z => by rw [d] at z; cases z⟩
  keep := fun i h h' st k => ⟨st.1, st.2.at fun o e => k it (by simp) o e⟩
  item := by
    intro X hP hw hK hc i pins s σ H E I hf st hg
    subst hP hw hK
    obtain ⟨hin, xs, x, hq, hx⟩ := hg
    obtain ⟨its, rv, p, hz⟩ := I.list hq
    obtain ⟨u, hu, ru⟩ := rv.get hx
    obtain ⟨f0, f1, f2, f3, f4, f5⟩ := hf it (by simp)
    obtain ⟨_, hit⟩ := st
    have e1 : (n : Int) - 1 - ((i : Nat) : Int) = ((n - 1 - i : Nat) : Int) := by omega
    rw [e1] at hit
    refine wpAny_pyNext_rev_item hit p.isList (x := u) (by simpa using hu) fun h' st' sb => ?_
    have e2 : ((n - 1 - i : Nat) : Int) - 1 = (n : Int) - 1 - ((i + 1 : Nat) : Int) := by omega
    rw [e2] at st'
    have I1 : Inv X pins σ H { s with heap := h' } := I.turned (t' := s.toks) (fun b o hb e => (sb.2 b hb).trans e) f0 f1 f3 f4 f5
    obtain ⟨o, e, c, d⟩ := id st'
    exact ⟨u, rfl, go_of (s := { s with heap := h' }) e c d (by decide) ⟨x, H, I1, ru, ⟨rfl, fun ys hy => by rw [I.list_inj hy hq]; exact hx⟩, ⟨hin, st'⟩, fun b hb => (hf b hb).1⟩⟩
  done := by
    intro X hP hw hK hc i pins s σ H E I hf st hg
    subst hP hw hK
    obtain ⟨f0, f1, f2, f3, f4, f5⟩ := hf it (by simp)
    obtain ⟨hin, hit⟩ := st
    have hge : n ≤ i := hg
    have e1 : (n : Int) - 1 - ((i : Nat) : Int) = -1 := by omega
    rw [e1] at hit
    exact wpAny_pyNext_rev_end (I.ok.hd hc) hit fun h' eb => ⟨rfl, I.turned (t' := s.toks) (fun b o hb e => eb b o hb e) f0 f1 f3 f4 f5⟩
  self := fun A i s Q E st h => wpAny_pyIter_revIter st.2 h
def iRev (K : PySem.W.Frag) (ta : TA) : TI := fun σ H R => ta σ H fun vs H1 => ∃ (a : Addr) (xs : List V), vs = [.ref a] ∧ SqL K H1 a xs ∧ R (Itv K a xs.length) H1
section
variable {X : Cx} {tg : Expr}
theorem pi_reversed {e : Expr} {ta : TA} {p pos : Pos} (hg : Gl X "reversed") (hm : X.mg "reversed" = none) (ha : PA X [e] ta) (hs : starEach [e] X.env = [(false, eval e X.env)] := by rfl) : PI X tg (.Call (.Name "reversed" p) [e] [] pos) (iRev X.K ta) := by
  intro pins s σ H R I h
  refine Call_ (ld_blt I hg hm boot_reversed5 (PyProof.Rows.callWith_type1 (thn (ha pos pins s σ H _ I h) fun us s1 ⟨vs, H1, I1, r1, q1⟩ => ?_) hs rfl))
  obtain ⟨a, xs, e, hq, q⟩ := q1
  subst e
  cases r1 with
  | cons r rr =>
    cases rr
    cases r
    obtain ⟨its, rv, p', hz⟩ := I1.list hq
    have hl := rv.length
    have e1 : ((its.toArray.size : Nat) : Int) - 1 = (xs.length : Int) - 1 - ((0 : Nat) : Int) := by simp only [List.size_toArray]; omega
    refine call_reversed_list p'.isList (wpAny_pyIter_revIter (l := a) (i := ((its.toArray.size : Nat) : Int) - 1) ⟨_, Heap.get?_push_size _ rfl, rfl, rfl⟩ ?_)
    refine pi_one (tk := s1.toks) I1 _ (turn_rev a _ xs.length) ⟨Nat.zero_le _, ?_⟩ q
    rw [← e1]
    exact ⟨_, Heap.get?_push_size _ rfl, rfl, rfl⟩
end
section
variable {prog : Program} {w : World} {A : Around} {E : Value → Shared → Prop} {s : Shared}
end
section
variable {X : Cx} {pins : List (Addr × Obj)} {σ : St} {H : Hp} {s : Shared} {d : Addr} {o : Obj}
end
section
variable {P : Program} {w : World} {K : PySem.W.Frag} {tg : Expr} {d : Addr} {o : Obj} {es : Array DictEntry} {ep : Nat}
end
section
variable {X : Cx} {tg e : Expr} {td : TE} {apos cpos : Pos}
end
theorem boot_zip5 : bootBuiltins "zip" = some (.type "zip") := by decide +kernel
def Itz (K : PySem.W.Frag) (a b : Addr) : It :=
  ⟨fun i H => ∃ (xs ys : List V) (x y : V), SqL K H a xs ∧ SqL K H b ys ∧ xs[i]? = some x ∧ ys[i]? = some y,
    fun i H v H' => ∃ T x y, v = .ref T ∧ H T = none ∧ H' = upd H T (.tup [x, y]) ∧ (∀ xs, SqL K H a xs → xs[i]? = some x) ∧ ∀ ys, SqL K H b ys → ys[i]? = some y,
    fun i H => ∃ xs ys : List V, SqL K H a xs ∧ SqL K H b ys ∧ (xs.length ≤ i ∨ ys.length ≤ i)⟩
theorem turn_zip {P : Program} {w : World} {K : PySem.W.Frag} {elts : List Expr} {kk : Nat} {tpos : Pos} {a b z TI TO i1 i2 : Addr} (D : ZipApart z TI TO i1 i2 a b) :
    Turn P w K (.Tuple elts kk tpos) (Itz K a b) [z, TI, TO, i1, i2] z (fun i h => IsZip h z TI TO .none ∧ IsPair h TI (.ref i1) (.ref i2) ∧ (∃ x y, IsPair h TO x y) ∧ h.IsListIter i1 a i ∧ h.IsListIter i2 b i) where
  mem := by simp
  obj := fun i h st c hc => by
    obtain ⟨hz, hTI, ⟨x, y, hTO⟩, ⟨o1, e1, _, d1⟩, ⟨o2, e2, _, d2⟩⟩ := st
    have e' : c = z ∨ c = TI ∨ c = TO ∨ c = i1 ∨ c = i2 := by simpa using hc
    rcases e' with q | q | q | q | q
    · rw [q]; exact ⟨_, hz, fun v q => nomatch q⟩
    · rw [q]; exact ⟨_, hTI, fun v q => nomatch q⟩
    · rw [q]; exact ⟨_, hTO, fun v q => nomatch q⟩
    · rw [q]; exact ⟨o1, e1, fun v q => by rw [d1] at q; cases q⟩
    · rw [q]; exact ⟨o2, e2, fun v q => by rw [d2] at q; cases q⟩
  keep := fun i h h' st k => by
    obtain ⟨hz, hTI, ⟨x, y, hTO⟩, h1, h2⟩ := st
    exact ⟨k z (by simp) _ hz, k TI (by simp) _ hTI, ⟨x, y, k TO (by simp) _ hTO⟩, h1.at fun o q => k i1 (by simp) o q, h2.at fun o q => k i2 (by simp) o q⟩
  item := by
    intro X hP hw hK hc i pins s σ H E I hf st hg
    subst hP hw hK
    obtain ⟨hz, hTI, ⟨x0, y0, hTO⟩, h1, h2⟩ := st
    obtain ⟨xs, ys, x, y, hqx, hqy, hx, hy⟩ := hg
    obtain ⟨its, rv, p, _⟩ := I.list hqx
    obtain ⟨its2, rv2, p2, _⟩ := I.list hqy
    obtain ⟨u, hu, ru⟩ := rv.get hx
    obtain ⟨u2, hu2, ru2⟩ := rv2.get hy
    have hzl : z < s.heap.objs.size := Heap.lt_size hz
    refine wpAny_pyNext_zip_item D hz hTI hTO h1 h2 p.isList p2.isList (x := u) (y := u2) (by simpa using hu) (by simpa using hu2) fun h' z' TO' h1' h2' hT hsz hk => ?_
    refine ⟨_, rfl, wpAny_letOwnedTupleGo_zip (s := { s with heap := h' }) z' fun h'' z'' sb => ?_⟩
    have hT2 : h''.get? s.heap.objs.size = some { cls := .type "tuple", data := .seq #[u, u2] } := (sb.2 _ (Nat.ne_of_gt hzl)).trans hT
    have new : ObjOk X.prog X.w (upd H s.heap.objs.size (.tup [x, y])) h'' s.heap.objs.size (.tup [x, y]) :=
      ⟨by show 2 ≤ sizeLine; decide, [u, u2], .cons ru (.cons ru2 .nil), ⟨_, hT2, rfl, _, rfl⟩⟩
    have I1 : Inv X pins σ (upd H s.heap.objs.size (.tup [x, y])) { s with heap := h'' } :=
      I.turnedNew (t' := s.toks) (ch := [z, TI, TO, i1, i2]) (fun c o hb q => (sb.2 c (fun q' => hb (by simp [q']))).trans (hk c o (fun q' => hb (by simp [q'])) (fun q' => hb (by simp [q'])) (fun q' => hb (by simp [q'])) (fun q' => hb (by simp [q'])) q)) hf (Nat.le_refl _) new
    refine ⟨.ref s.heap.objs.size, _, I1, rfl, ⟨_, x, y, rfl, I.hok.fresh (Nat.le_refl _), rfl, fun l hl => by rw [I.list_inj hl hqx]; exact hx, fun l hl => by rw [I.list_inj hl hqy]; exact hy⟩, ⟨z'', ?_, ⟨u, u2, ?_⟩, ?_, ?_⟩, fun c hcm => ?_⟩
    · exact (sb.2 _ D.TIz).trans (hk _ _ D.TIz D.TITO D.TIi1 D.TIi2 hTI)
    · exact (sb.2 _ D.TOz).trans TO'
    · exact h1'.at fun o q => (sb.2 _ D.i1z).trans q
    · exact h2'.at fun o q => (sb.2 _ D.i2z).trans q
    · have hlt : c < s.heap.objs.size := by
        have e' : c = z ∨ c = TI ∨ c = TO ∨ c = i1 ∨ c = i2 := by simpa using hcm
        rcases e' with q | q | q | q | q
        · rw [q]; exact hzl
        · rw [q]; exact Heap.lt_size hTI
        · rw [q]; exact Heap.lt_size hTO
        · rw [q]; obtain ⟨_, e1, _⟩ := h1; exact Heap.lt_size e1
        · rw [q]; obtain ⟨_, e2, _⟩ := h2; exact Heap.lt_size e2
      rw [upd_ne (Nat.ne_of_lt hlt)]
      exact (hf c hcm).1
  done := by
    intro X hP hw hK hc i pins s σ H E I hf st hg
    subst hP hw hK
    obtain ⟨hz, hTI, ⟨x0, y0, hTO⟩, h1, h2⟩ := st
    obtain ⟨xs, ys, hqx, hqy, hend⟩ := hg
    obtain ⟨its, rv, p, _⟩ := I.list hqx
    obtain ⟨its2, rv2, p2, _⟩ := I.list hqy
    have l1 := rv.length
    have l2 := rv2.length
    have he : its.toArray[i]? = none ∨ its2.toArray[i]? = none := by
      rcases hend with q | q
      · exact .inl (by simp; omega)
      · exact .inr (by simp; omega)
    exact wpAny_pyNext_zip_end (I.ok.hd hc) D hz hTI hTO h1 h2 p.isList p2.isList he fun h' hk => ⟨rfl, I.turnedL (t' := s.toks) (ch := [z, TI, TO, i1, i2]) (fun c o hb q =>
      hk c o (fun q' => hb (by simp [q'])) (fun q' => hb (by simp [q'])) (fun q' => hb (by simp [q'])) (fun q' => hb (by simp [q'])) q) hf⟩
  self := fun A i s Q E st h => wpAny_pyIter_zip st.1 h
def iZip (K : PySem.W.Frag) (ta : TA) : TI := fun σ H R => ta σ H fun vs H1 => ∃ a b xs ys, vs = [.ref a, .ref b] ∧ SqL K H1 a xs ∧ SqL K H1 b ys ∧ R (Itz K a b) H1
theorem pi_zip {X : Cx} {e e2 : Expr} {ta : TA} {p pos tpos : Pos} {elts : List Expr} {kk : Nat} (hg : Gl X "zip") (hm : X.mg "zip" = none) (ha : PA X [e, e2] ta)
    (hs : starEach [e, e2] X.env = (false, eval e X.env) :: starEach [e2] X.env := by rfl) (hpl : (backTo pos (starEach [e2] X.env)).any (·.1) = false := by rfl) :
    PI X (.Tuple elts kk tpos) (.Call (.Name "zip" p) [e, e2] [] pos) (iZip X.K ta) := by
  intro pins s σ H R I h
  refine Call_ (ld_blt I hg hm boot_zip5 (PyProof.Rows.callWith_type1 (thn (ha pos pins s σ H _ I h) fun us s1 ⟨vs, H1, I1, r1, q1⟩ => ?_) hs hpl))
  obtain ⟨a, b, xs, ys, ex, hqx, hqy, q⟩ := q1
  subst ex
  cases r1 with
  | cons r rr =>
    cases rr with
    | cons r' rr =>
      cases rr
      cases r
      cases r'
      obtain ⟨its, rv, p1, _⟩ := I1.list hqx
      obtain ⟨its2, rv2, p2, _⟩ := I1.list hqy
      have la : a < s1.heap.objs.size := p1.lt
      have lb : b < s1.heap.objs.size := p2.lt
      refine call_zip_2 p1.isList p2.isList fun h' hz hTI hTO h1 h2 hsz hk => wpAny_pyIter_zip hz ?_
      have I2 : Inv X pins σ H1 { s1 with heap := h' } := I1.kept (t' := s1.toks) hk
      refine ⟨s1.heap.objs.size + 4, [s1.heap.objs.size + 4, s1.heap.objs.size + 2, s1.heap.objs.size + 3, s1.heap.objs.size, s1.heap.objs.size + 1], _, _, H1, rfl, I2, turn_zip (PySem.W.ktu_apart s1.heap.objs.size a b la lb), ⟨hz, hTI, ⟨_, _, hTO⟩, h1, h2⟩, fun c hcm => ?_, q⟩
      have e' : c = s1.heap.objs.size + 4 ∨ c = s1.heap.objs.size + 2 ∨ c = s1.heap.objs.size + 3 ∨ c = s1.heap.objs.size ∨ c = s1.heap.objs.size + 1 := by simpa using hcm
      have hle : s1.heap.objs.size ≤ c := by
        rcases e' with z | z | z | z | z
        · rw [z]; exact Nat.le_add_right _ _
        · rw [z]; exact Nat.le_add_right _ _
        · rw [z]; exact Nat.le_add_right _ _
        · rw [z]; exact Nat.le_refl _
        · rw [z]; exact Nat.le_add_right _ _
      exact I1.fpOk hle (I1.hok.fresh hle)
end L2
section 
namespace Bits
open PySem PyProof.Rows
end Bits
end 
section 
namespace TL
open PySem PySem.Builtin PySem.Builtin.Str PySem.StrLaws
end TL
end 
namespace L2
open PySem PySem.Spec PyProof.Rows
section
variable {X : Cx} {pins : List (Addr × Obj)} {σ : St} {H : Hp} {s : Shared} {Q : VK}
end
section
variable {X : Cx}
end
section
variable {X : Cx} {o e : Expr} {to te : TE}
end
end L2
namespace L2
open PySem PySem.Spec PyProof.Rows
section
variable {X : Cx}
end
end L2
namespace Att
open PySem PySem.W PySem.Calls PyProof.Rows
section
variable {prog : Program} {w : World} {A : Around} {E : Value → Shared → Prop} {s : Shared} {K : Frag}
end
end Att
namespace L2
open PySem PySem.Spec PyProof.Rows
theorem vals_ints : ∀ {vs : List Value} {ns : List Int}, IntsAre vs ns → Vals (ns.map V.int) vs
  | _, _, .nil => .nil
  | _, _, .cons n t h => .cons ⟨t, rfl⟩ (vals_ints h)
end L2
namespace L2
open PySem PySem.Spec PyProof.Rows
end L2
namespace L2
open PySem PySem.Spec PyProof.Rows
def inClass (s : Stmt) (j : Nat) : Stmt := match s with
  | .ClassDef _ _ _ body _ _ _ _ _ _ _ => body.getD j (.Pass ⟨0, 0, 0, 0⟩)
  | _ => .Pass ⟨0, 0, 0, 0⟩
def defArgs (s : Stmt) : Arguments := match s with
  | .FunctionDef _ a _ _ _ _ _ _ _ _ => a
  | _ => { posonlyargs := [], args := [], vararg := none, kwonlyargs := [], kw_defaults := [], kwarg := none, defaults := [] }
def defBody (s : Stmt) : List Stmt := match s with
  | .FunctionDef _ _ b _ _ _ _ _ _ _ => b
  | _ => []
def defScope (s : Stmt) : Scope := match s with
  | .FunctionDef _ _ _ _ _ _ sc _ _ _ => sc
  | _ => { kind := .function, names := [], isGenerator := false, isCoroutine := false }
abbrev CX0 : CXT := fun _ _ _ _ _ _ => False
abbrev E0 : XK := fun _ _ _ => False
theorem pass0 {X : Cx} : Passes CX0 X E0 := fun _ _ _ _ _ _ _ h => h.elim
structure Fun (K : PySem.W.Frag) (x qual : Str) (st : Stmt) (f : Addr) (fd : FuncData) : Prop where
  ex : ∃ (oc : Value) (od : Option Addr) (kV doc pm : Value) (an : Option Addr) (cdv ct : Value) (osl : Array (Option Value)),
    fd = PySem.W.fnOf x qual (defArgs st) (defBody st) (defScope st) .none kV doc pm an cdv ct ∧ K.lookup f = some ⟨oc, od, .func fd, osl⟩ ∧ PySem.W.codeIn K cdv qual = true
  kp : PySem.W.keepIn K (.ref f) = true
section
variable {P : Program} {w : World} {K : PySem.W.Frag} {mg : Str → Option Value} {base : Heap}
theorem Fun.ok {x qual : Str} {st : Stmt} {f : Addr} {fd : FuncData} {N ps : List Str} {k : Nat} {sp : Sp} (F : Fun K x qual st f fd) (S : FnScope N ps (defScope st)) (len : ∀ vs H Q E, sp vs H Q E → vs.length = ps.length)
    (hbody : ∀ (cdv : Value) (A : Around) (outer : List Env) (s : Shared) (H : Hp) (vs : List V) (Q : VK) (E : XK), Room k (A.deeper (envOfC qual (defScope st) s.heap.objs.size f cdv)) → sp vs H Q E →
      ∃ t, PSs (cxOf CX0 P w K mg base N qual (defScope st) f cdv A outer s H E).nox (defBody st) t ∧ t { nx := fun _ H' => Q .non H', rt := Q } (start N vs) H) : FnOk P w K mg base CX0 (k + 1) f fd ps sp := by
  obtain ⟨oc, od, kV, doc, pm, an, cdv, ct, osl, rfl, lk, hcd⟩ := F.ex
  refine fn_of lk hcd S len fun A outer s H vs Q E hr hsp => ?_
  obtain ⟨t, h, q⟩ := hbody cdv A outer s H vs Q E hr hsp
  exact ⟨t, h.nox, q⟩
theorem Fun.binds {x qual : Str} {st : Stmt} {f : Addr} {fd : FuncData} {ps : List Str} (F : Fun K x qual st f fd)
    (h : ∀ (kV doc pm : Value) (an : Option Addr) (cdv ct : Value) (us : List Value), us.length = ps.length → bindArgs (PySem.W.fnOf x qual (defArgs st) (defBody st) (defScope st) .none kV doc pm an cdv ct) ⟨us, []⟩ = pure (ps.zip us)) : Binds K fd ps [] := by
  obtain ⟨oc, od, kV, doc, pm, an, cdv, ct, osl, rfl, lk, hcd⟩ := F.ex
  exact .all (h kV doc pm an cdv ct)
theorem fun_mk {x qual : Str} {st : Stmt} {f : Addr} {oc : Value} {od an : Option Addr} {osl : Array (Option Value)} {kV doc pm cdv ct : Value} (l : K.lookup f = some ⟨oc, od, .func (PySem.W.fnOf x qual (defArgs st) (defBody st) (defScope st) .none kV doc pm an cdv ct), osl⟩)
    (c : PySem.W.codeIn K cdv qual = true) (k : PySem.W.keepIn K (.ref f) = true) : Fun K x qual st f (PySem.W.fnOf x qual (defArgs st) (defBody st) (defScope st) .none kV doc pm an cdv ct) := ⟨⟨oc, od, kV, doc, pm, an, cdv, ct, osl, rfl, l, c⟩, k⟩
end
theorem small1000 {n : Nat} (h : n ≤ 1000) : n < sizeLine := Nat.lt_of_le_of_lt h (by decide)
section
variable {X : Cx}
theorem pv (i : Nat) {x : Str} {pos : Pos} (hN : X.N[i]? = some x := by rfl) (hv : Vis X.env.scope x := by first | exact Or.inl rfl | exact Or.inr (Or.inl rfl) | exact Or.inr (Or.inr rfl)) (hd : (x == ("__debug__" : Str)) = false := by decide)
    (hcd : (x == ("__classdict__" : Str)) = false := by decide) : PE X (.Name x pos) (tVar i) := pe_var hN hv hd hcd
end
theorem iteF {A B : Prop} (h : B) : if false = true then A else B := by
  rw [if_neg Bool.false_ne_true]
  exact h
theorem iteT {A B : Prop} (h : A) : if true = true then A else B := by
  rw [if_pos rfl]
  exact h
theorem ite2 {c A B : Prop} [Decidable c] (h1 : c → A) (h2 : ¬ c → B) : if c then A else B := by
  by_cases h : c
  · rw [if_pos h]
    exact h1 h
  · rw [if_neg h]
    exact h2 h
theorem iteNS {c A B : Prop} [Decidable c] (hc : c) (h : B) : if (!decide c) = true then A else B := by
  rw [decide_eq_true hc]
  exact iteF h
def Same (H H' : Hp) : Prop := ∀ b o, H b = some o → H' b = some o
theorem Same.refl (H : Hp) : Same H H := fun _ _ h => h
theorem Same.trans {H H1 H2 : Hp} (a : Same H H1) (b : Same H1 H2) : Same H H2 := fun c o h => b c o (a c o h)
theorem Same.free {H H' : Hp} (e : Same H H') {l : Addr} (h : H' l = Option.none) : H l = Option.none := by
  cases q : H l with
  | none => rfl
  | some o =>
    rw [e l o q] at h
    cases h
theorem Same.seq {K : PySem.W.Frag} {H H' : Hp} {a : Addr} {xs : List V} (e : Same H H') (h : SqL K H a xs) : SqL K H' a xs := by
  rcases h with (h | ⟨o, h⟩) | h
  · exact .inl (.inl (e _ _ h))
  · exact .inl (.inr ⟨o, e _ _ h⟩)
  · exact .inr h
section
variable {κ : Type} [DecidableEq κ]
end
theorem at_of {xs : List V} {z : Int} {j : Nat} {v : V} (e : z = (j : Int)) (h : xs[j]? = some v) : atI xs z = some v := by
  rw [e]
  exact atI_nat h
theorem nd_ix {α : Type} {l : List α} (hN : l.Nodup) {i j : Nat} {x : α} (a : l[i]? = some x) (b : l[j]? = some x) : i = j := by
  obtain ⟨h1, e1⟩ := List.getElem?_eq_some_iff.mp a
  obtain ⟨h2, e2⟩ := List.getElem?_eq_some_iff.mp b
  exact (List.getElem_inj hN).mp (e1.trans e2.symm)
end L2

set_option linter.all false
set_option maxRecDepth 100000
namespace PySem
open Sem (wp)
def XRec (h : Heap) (C a dx : Addr) (t : Option Addr) : Prop :=
  ∃ vs sl, h.get? a = some ⟨.ref C, some dx, .fields vs, sl⟩ ∧ vs.size = 6 ∧ match t with
    | none => vs[1]? = some .none
    | some T => vs[1]? = some (.ref T) ∧ T ≠ a ∧ ∃ oT ts y, h.get? T = some oT ∧ oT.data = .fields ts ∧ ts[3]? = some y
section
variable {M : Model} {A : Around} {s : Shared} {E : Value → Shared → Prop}
theorem frameOf_any {base : Heap} {env env0 : Env} {rest : List Env} {L : Addr} {Q : Value → Shared → Prop} (hfr : A.frames = some (env0 :: rest)) (hl : s.heap.FunFrames base (env0 :: rest))
    (h0 : env0.frame = some L) (hf : env.frame = some L) (h : ∀ h', Heap.SlotsOnly ((env0 :: rest).filterMap (·.frame)) s.heap h' → Q (.ref L) { s with heap := h' }) : wpAny M A (frameOf env) Q E s := by
  unfold frameOf
  apply wpAny_bind (wpAny_frameEnvs hfr ?_)
  have hdw : ((env0 :: rest).dropWhile fun x => x.frame != env.frame) = env0 :: rest := by simp [List.dropWhile, h0, hf]
  rw [hdw]
  unfold frameObject
  refine wpAny_bind (wpAny_bind (wpAny_readyFrames_fun hl fun ha so => wpAny_pure ?_))
  rw [h0]
  exact wpAny_pure (h ha so)
theorem entry_any {base : Heap} {env env0 : Env} {rest : List Env} {L a C dx : Addr} {head : Value} {hadNext : Bool} {t : Option Addr} {vs : Array Value} {sl : Array (Option Value)} {Q : Unit → Shared → Prop}
    (hfr : A.frames = some (env0 :: rest)) (hl : s.heap.FunFrames base (env0 :: rest)) (h0 : env0.frame = some L) (hf : env.frame = some L)
    (he : s.heap.get? a = some ⟨.ref C, some dx, .fields vs, sl⟩) (hz : vs.size = 6)
    (h : ∀ h' T, XRec h' C a dx (some T) → s.heap.objs.size ≤ T →
      (∀ b o, b ∉ (env0 :: rest).filterMap (·.frame) → b ≠ a → s.heap.get? b = some o → h'.get? b = some o) →
      (∀ b o, b ≠ a → s.heap.get? b = some o → ∃ sl, h'.get? b = some { o with slots := sl }) → Q () { s with heap := h' }) :
    wpAny M A (do let a' ← frameOf env; let pc ← entryPlaceOf L hadNext; let b ← EntryCells.newEntry head a' .none (rawInt L) .none pc; setField (.ref a) 1 b) Q E s := by
  have apart : a ∉ (env0 :: rest).filterMap (·.frame) := fun hm => by
    obtain ⟨_, o, ho, noF⟩ := hl.mem hm
    rw [he] at ho; injection ho with ho; subst ho; exact noF vs rfl
  refine wpAny_bind (frameOf_any hfr hl h0 hf fun ha so => ?_)
  refine wpAny_bind (wpAny_entryPlaceOf fun pc isP => ?_)
  unfold EntryCells.newEntry newFields; refine wpAny_bind (wpAny_newObj_type ?_ (isP.sizeOk5 _ _ _ _ _))
  have ea : ha.get? a = some ⟨.ref C, some dx, .fields vs, sl⟩ := (so.2.1 a apart).trans he
  have eb := Heap.get?_push_of_some (h := ha) { cls := .type "traceback", dict := none, data := .fields ([head, .ref L, .none, rawInt L, .none] ++ (if pc.isEmpty then List.replicate 6 Value.none else pc)).toArray } ea
  have hsz : 1 < vs.size := by omega
  refine wpAny_setField eb rfl hsz ?_
  have hTe : ha.objs.size ≠ a := Nat.ne_of_gt (Heap.lt_size ea)
  have dc := Obj.data_mapFields (o := ⟨.ref C, some dx, .fields vs, sl⟩) rfl (·.setIfInBounds 1 (Value.ref ha.objs.size))
  have ec := Heap.get?_update_self (Obj.mapFields (·.setIfInBounds 1 (Value.ref ha.objs.size))) eb (Obj.isFreed_of_fields dc)
  have tc := (Heap.get?_update_other (ha.push { cls := .type "traceback", dict := none, data := .fields ([head, .ref L, .none, rawInt L, .none] ++ (if pc.isEmpty then List.replicate 6 Value.none else pc)).toArray })
    (Obj.mapFields (·.setIfInBounds 1 (Value.ref ha.objs.size))) (Ne.symm hTe)).trans (Heap.get?_push_size ha rfl)
  refine h _ ha.objs.size ⟨vs.setIfInBounds 1 (Value.ref ha.objs.size), sl, ec, by simp [hz], by simp [hsz], hTe, _, _, rawInt L, tc, rfl, by simp⟩ (by rw [so.1]; exact Nat.le_refl _) (fun b o hb hba ho => ?_) fun b o hba ho => ?_
  · rw [Heap.get?_update_other _ _ (Ne.symm hba)]
    exact Heap.get?_push_of_some _ ((so.2.1 b hb).trans ho)
  · obtain ⟨sl', hs'⟩ := so.2.2 b o ho
    refine ⟨sl', ?_⟩
    rw [Heap.get?_update_other _ _ (Ne.symm hba)]
    exact Heap.get?_push_of_some _ hs'
theorem note_any {base : Heap} {env env0 : Env} {rest : List Env} {L a C dx : Addr} {t : Option Addr} {Q : Unit → Shared → Prop}
    (hfr : A.frames = some (env0 :: rest)) (hl : s.heap.FunFrames base (env0 :: rest)) (h0 : env0.frame = some L) (hf : env.frame = some L) (x : XRec s.heap C a dx t)
    (h : ∀ h' T, XRec h' C a dx (some T) → (t = some T ∨ s.heap.objs.size ≤ T) →
      (∀ b o, b ∉ (env0 :: rest).filterMap (·.frame) → b ≠ a → t ≠ some b → s.heap.get? b = some o → h'.get? b = some o) →
      (∀ b o, b ≠ a → t ≠ some b → s.heap.get? b = some o → ∃ sl, h'.get? b = some { o with slots := sl }) → Q () { s with heap := h' }) :
    wpAny M A (noteFrame (.ref a) env) Q E s := by
  unfold noteFrame
  simp only [hf]
  cases t with
  | none =>
    obtain ⟨vs, sl, he, hz, h1⟩ := x
    refine wpAny_bind (wpAny_field he rfl h1 ?_)
    rw [if_neg (by decide)]
    exact entry_any (t := none) hfr hl h0 hf he hz fun h' T r ht k1 k2 => h h' T r (.inr ht) (fun b o q1 q2 _ => k1 b o q1 q2) fun b o q1 _ => k2 b o q1
  | some T =>
    obtain ⟨vs, sl, he, hz, h1, hTa, oT, ts, y, hT, hdT, h3⟩ := id x
    refine wpAny_bind (wpAny_field he rfl h1 ?_)
    rw [if_pos (show (Value.ref T != Value.none) = true by simp)]
    apply wpAny_bind (wpAny_field hT hdT h3 ?_)
    by_cases hy : (y == rawInt L) = true
    · rw [if_pos hy]
      exact wpAny_pure (h s.heap T x (.inl rfl) (fun b o _ _ _ q => q) fun b o _ _ q => ⟨o.slots, q⟩)
    · rw [if_neg hy]
      apply wpAny_bind (wpAny_setField hT hdT (Array.getElem?_eq_some_iff.mp h3).1 ?_)
      have oth : ∀ b, b ≠ T → (s.heap.update T (Obj.mapFields (·.setIfInBounds 3 Value.none))).get? b = s.heap.get? b := fun b hb => Heap.get?_update_other _ _ (Ne.symm hb)
      have noRec : ∀ b o, s.heap.get? b = some o → (∀ vs, o.data ≠ .fields vs) → b ≠ T := fun b o hb nof q => by
        rw [q, hT] at hb; cases hb; exact nof ts hdT
      have hl' : (s.heap.update T (Obj.mapFields (·.setIfInBounds 3 Value.none))).FunFrames base (env0 :: rest) := hl.of_keeps fun b o hb nof => ⟨o, (oth b (noRec b o hb nof)).trans hb, rfl⟩
      refine entry_any (t := some T) (s := { s with heap := s.heap.update T (Obj.mapFields (·.setIfInBounds 3 Value.none)) }) hfr hl' h0 hf ((oth a (Ne.symm hTa)).trans he) hz fun h' T' r ht k1 k2 => ?_
      have hsz : (s.heap.update T (Obj.mapFields (·.setIfInBounds 3 Value.none))).objs.size = s.heap.objs.size := Heap.size_after_update ..
      refine h h' T' r (.inr (by rw [← hsz]; exact ht)) (fun b o q1 q2 q3 q4 => ?_) fun b o q2 q3 q4 => ?_
      · exact k1 b o q1 q2 ((oth b fun z => q3 (by rw [z])).trans q4)
      · exact k2 b o q2 ((oth b fun z => q3 (by rw [z])).trans q4)
theorem flight_none {a C dx : Addr} {f : Option Addr} {Q : Unit → Shared → Prop} (x : XRec s.heap C a dx none) (h : Q () s) : wpAny M A (setFlight (.ref a) f) Q E s := by
  obtain ⟨vs, sl, he, hz, h1⟩ := x
  unfold setFlight
  refine wpAny_bind (wpAny_field he rfl h1 ?_)
  rw [if_neg (by decide)]
  exact wpAny_pure h
theorem flight_some {a C dx T : Addr} {f : Option Addr} {Q : Unit → Shared → Prop} (x : XRec s.heap C a dx (some T))
    (h : ∀ h', XRec h' C a dx (some T) → (∀ b o, b ≠ T → s.heap.get? b = some o → h'.get? b = some o) → Q () { s with heap := h' }) : wpAny M A (setFlight (.ref a) f) Q E s := by
  obtain ⟨vs, sl, he, hz, h1, hTa, oT, ts, y, hT, hdT, h3⟩ := id x
  have h3s := (Array.getElem?_eq_some_iff.mp h3).1
  unfold setFlight
  refine wpAny_bind (wpAny_field he rfl h1 ?_)
  rw [if_pos (show (Value.ref T != Value.none) = true by simp)]
  refine wpAny_setField hT hdT h3s ?_
  refine h _ ⟨vs, sl, ?_, hz, h1, hTa, _, _, f.elim Value.none fun f => rawInt f, Heap.get?_update_self _ hT (Obj.isFreed_of_fields (Obj.data_mapFields hdT _)), Obj.data_mapFields hdT _, ?_⟩ fun b o hb q => ?_
  · rw [Heap.get?_update_other _ _ hTa]; exact he
  · simp [h3s]
  · rw [Heap.get?_update_other _ _ (Ne.symm hb)]; exact q
theorem flight_any {a C dx : Addr} {t : Option Addr} {f : Option Addr} {Q : Unit → Shared → Prop} (x : XRec s.heap C a dx t)
    (h : ∀ h', XRec h' C a dx t → (∀ b o, t ≠ some b → s.heap.get? b = some o → h'.get? b = some o) → Q () { s with heap := h' }) : wpAny M A (setFlight (.ref a) f) Q E s := by
  cases t with
  | none => exact flight_none x (h s.heap x fun _ _ _ q => q)
  | some T => exact flight_some x fun h' x' k => h h' x' fun b o hb q => k b o (fun z => hb (by rw [z])) q
theorem passOn_some {α : Type} {what : String} {env : Env} {a C dx T : Addr} {Q : α → Shared → Prop} (x : XRec s.heap C a dx (some T))
    (h : ∀ h', XRec h' C a dx (some T) → (∀ b o, b ≠ T → s.heap.get? b = some o → h'.get? b = some o) → E (.ref a) { s with heap := h' }) : wpAny M A (passOn what (.ref a) env : Sem α) Q E s := by
  obtain ⟨vs, sl, he, hz, h1, hTa, oT, ts, y, hT, hdT, h3⟩ := id x
  unfold passOn
  refine wpAny_bind (wpAny_field he rfl h1 ?_)
  rw [if_neg (show ¬ (Value.ref T == Value.none) = true by simp)]
  exact wpAny_bind (flight_some x fun h' x' k => wpAny_throw (h h' x' k))
end
end PySem

set_option Elab.async false
set_option linter.all false
set_option maxRecDepth 100000
namespace L2
open PySem PySem.Spec PyProof.Rows
def FpN (X : Cx) (pins : List (Addr × Obj)) (H : Hp) (b : Addr) : Prop := FpOk X pins H b ∧ X.s₀.heap.objs.size ≤ b
theorem Inv.fpN {X : Cx} {pins : List (Addr × Obj)} {σ : St} {H H' : Hp} {s : Shared} {b : Addr} (I : Inv X pins σ H s) (hb : s.heap.objs.size ≤ b) (hn : H' b = none) : FpN X pins H' b :=
  ⟨I.fpOk hb hn, Nat.le_trans I.sz hb⟩
structure Fly (X : Cx) (pins : List (Addr × Obj)) (C a dx : Addr) (t : Option Addr) (H : Hp) (h : Heap) : Prop where
  rc : XRec h C a dx t
  fp : FpN X pins H a
  ft : ∀ T, t = some T → FpN X pins H T
def XOk (C : Addr) (X : Cx) (E : XK) : Prop := ∀ (pins : List (Addr × Obj)) (σ : St) (H : Hp) (s : Shared) (a dx : Addr) (t : Option Addr),
  Inv X pins σ H s → Fly X pins C a dx t H s.heap → E (.ref C) (some dx) H → X.xe (.ref a) s
def CXF (P : Program) (w : World) (C : Addr) : CXT := fun outer H s E e s' => ∃ (a dx T : Addr) (H' : Hp), e = .ref a ∧ s'.os = s.os ∧ AllBare s'.gens ∧ Un (frs outer) [] H H' s.heap s'.heap ∧ HOk P w H' s'.heap ∧
  XRec s'.heap C a dx (some T) ∧ s.heap.objs.size ≤ a ∧ s.heap.objs.size ≤ T ∧ H' a = none ∧ H' T = none ∧ E (.ref C) (some dx) H'
theorem mem_toList' {α : Type} {t : Option α} {b : α} (h : b ∈ t.toList) : t = some b := by
  cases t with
  | none => exact absurd h (by simp)
  | some c =>
    have e : b = c := by simpa using h
    rw [e]
section
variable {X : Cx} {pins : List (Addr × Obj)} {σ : St} {H : Hp} {s : Shared} {C a dx : Addr} {t : Option Addr} {M : Model} {A : Around} {Q : Unit → Shared → Prop} {E : Value → Shared → Prop}
theorem Inv.changed {h' : Heap} {ch : List Addr} (I : Inv X pins σ H s) (hf : ∀ b ∈ ch, FpOk X pins H b)
    (k1 : ∀ b o, b ∉ frs X.stack → b ∉ ch → s.heap.get? b = some o → h'.get? b = some o)
    (k2 : ∀ b o, b ∉ ch → s.heap.get? b = some o → ∃ sl, h'.get? b = some { o with slots := sl }) : Inv X pins σ H { s with heap := h' } := by
  have u : Un (frs X.stack) ch H H s.heap h' := ⟨fun b o q _ hb hx => k1 b o hb hx q, fun b o q _ _ hx => k2 b o hx q, fun _ _ _ n _ => n, fun b o q hx => let ⟨_, e⟩ := k2 b o hx q; ⟨_, e⟩, fun _ _ q => q, fun _ _ _ q => q, fun _ ps q => ⟨#[], by rw [q]; simp⟩⟩
  refine I.call (g' := s.gens) (d' := s.drawn) (t' := s.toks) (ch := ch) u (fun b o e => ?_) I.bare fun b hb => ?_
  · have tr : ∀ c, (c = b ∨ H c = some (.own b)) → H c ≠ none := fun c hc z => by
      rcases hc with rfl | hc
      · rw [e] at z; cases z
      · rw [hc] at z; cases z
    exact (I.hok b o e).stay (fun c v hc q => k1 c v (fun z => tr c hc (I.stkFree c z)) (fun z => tr c hc (hf c z).1) q) (fun _ q => q) fun _ _ q => q
  · obtain ⟨_, h2, _, h4, h5, h6⟩ := hf b hb
    exact ⟨h4, h2, h5, h6⟩
theorem Inv.noted {env env0 : Env} {rest : List Env} {L : Addr} (I : Inv X pins σ H s) (hst : X.stack = env0 :: rest) (hA : A.frames = some X.stack) (h0 : env0.frame = some L) (hf : env.frame = some L) (f : Fly X pins C a dx t H s.heap)
    (h : ∀ s' T, Inv X pins σ H s' → Fly X pins C a dx (some T) H s'.heap → Q () s') : wpAny M A (noteFrame (.ref a) env) Q E s := by
  have hl := I.stack
  rw [hst] at hA hl
  refine note_any hA hl h0 hf f.rc fun h' T r ht k1 k2 => h _ T (I.changed (ch := a :: t.toList) (fun b hb => ?_) (fun b o hb hc q => ?_) fun b o hc q => ?_) ⟨r, f.fp, fun T' e => ?_⟩
  · rcases List.mem_cons.mp hb with rfl | hb
    · exact f.fp.1
    · exact (f.ft b (mem_toList' hb)).1
  · exact k1 b o (by rw [hst] at hb; exact hb) (fun z => hc (by simp [z])) (fun z => hc (by simp [z])) q
  · exact k2 b o (fun z => hc (by simp [z])) (fun z => hc (by simp [z])) q
  · cases e
    rcases ht with ht | ht
    · exact f.ft _ ht
    · exact I.fpN ht (I.hok.fresh ht)
theorem Inv.flown {fl : Option Addr} (I : Inv X pins σ H s) (f : Fly X pins C a dx t H s.heap) (h : ∀ s', Inv X pins σ H s' → Fly X pins C a dx t H s'.heap → Q () s') : wpAny M A (setFlight (.ref a) fl) Q E s := by
  refine flight_any f.rc fun h' r k => h _ (I.changed (ch := t.toList) (fun b hb => (f.ft b (mem_toList' hb)).1) (fun b o _ hc q => k b o (fun z => hc (by simp [z])) q) fun b o hc q => ⟨o.slots, k b o (fun z => hc (by simp [z])) q⟩) ⟨r, f.fp, f.ft⟩
end
theorem leave_xok {P : Program} {w : World} {K : PySem.W.Frag} {mg : Str → Option Value} {base : Heap} {N : List Str} {qual : Str} {scope : Scope} {f : Addr} {cd : Value} {A : Around} {outer : List Env} {s : Shared} {H : Hp} {E : XK} {C : Addr} :
    XOk C (cxOf (CXF P w C) P w K mg base N qual scope f cd A outer s H E) E := by
  intro pins σ H' s' a dx t I fl e
  show wpAny (model P w) (A.deeper (envOfC qual scope s.heap.objs.size f cd)) (leaving (envOfC qual scope s.heap.objs.size f cd) (.ref a)) (fun _ s'' => CXF P w C outer H s E (.ref a) s'') (fun e' s'' => CXF P w C outer H s E e' s'') s'
  unfold leaving
  refine wpAny_bind (I.noted (env0 := envOfC qual scope s.heap.objs.size f cd) (rest := outer) rfl I.ok.frames rfl rfl fl fun s1 T I1 f1 => ?_)
  refine I1.flown f1 fun s2 I2 f2 => ?_
  exact ⟨a, dx, T, H', rfl, I2.os, I2.bare, I2.base, I2.hok, f2.rc, f2.fp.2, (f2.ft T rfl).2, f2.fp.1.1, (f2.ft T rfl).1.1, e⟩
theorem pass_own {P : Program} {w : World} {K : PySem.W.Frag} {mg : Str → Option Value} {base : Heap} {N : List Str} {qual : Str} {scope : Scope} {f : Addr} {cd : Value} {A : Around} {outer : List Env} {s : Shared} {H : Hp} {E : XK} {C : Addr} :
    PassesOwn (model P w) (cxOf (CXF P w C) P w K mg base N qual scope f cd A outer s H E).A (cxOf (CXF P w C) P w K mg base N qual scope f cd A outer s H E).env (cxOf (CXF P w C) P w K mg base N qual scope f cd A outer s H E).xe :=
  PassesOwn.leaving
theorem passX {X : Cx} {C : Addr} {E : XK} (h : XOk C X E) : Passes (CXF X.prog X.w C) X E := by
  rintro pins σ H s e s' I ⟨a, dx, T, H', rfl, os, bare, un, hok, rc, ha, hT, na, nT, he⟩
  exact h pins σ H' s' a dx (some T) (I.call' (ch := []) os un hok bare fun b z => absurd z (by simp)) ⟨rc, I.fpN ha na, fun T' e => by cases e; exact I.fpN hT nT⟩ he
end L2

set_option Elab.async false
set_option linter.all false
set_option maxRecDepth 100000
namespace L2
open PySem PySem.Spec PyProof.Rows
abbrev Cx.tr (X : Cx) (pn : List (Addr × Obj)) (xe : Value → Shared → Prop) : Cx := { X with pn := pn, xe := xe }
abbrev Cx.hnd (X : Cx) (a : Addr) (pn : List (Addr × Obj)) : Cx := { X with A := X.A.mark (some (.ref a)), calm := false, pn := pn, xe := fun _ _ => False }
theorem Cx.Ok.tr {X : Cx} (ok : X.Ok) (pn : List (Addr × Obj)) (xe : Value → Shared → Prop) : (X.tr pn xe).Ok :=
  ⟨ok.mod, ok.kind, ok.glob, ok.blt, ok.above, ok.inj, ok.has, ok.cab, ok.hd, ok.frames, ok.stk, ok.exf, ok.bs, ok.bsz, ok.noex, ok.exfs, ok.funs, ok.frf⟩
theorem Cx.Ok.untr {X : Cx} {pn : List (Addr × Obj)} {xe : Value → Shared → Prop} (ok : (X.tr pn xe).Ok) : X.Ok :=
  ⟨ok.mod, ok.kind, ok.glob, ok.blt, ok.above, ok.inj, ok.has, ok.cab, ok.hd, ok.frames, ok.stk, ok.exf, ok.bs, ok.bsz, ok.noex, ok.exfs, ok.funs, ok.frf⟩
theorem Cx.Ok.hnd {X : Cx} (ok : X.Ok) (a : Addr) (pn : List (Addr × Obj)) : (X.hnd a pn).Ok :=
  ⟨ok.mod, ok.kind, ok.glob, ok.blt, ok.above, ok.inj, ok.has, ok.cab, fun z => Bool.noConfusion z, ok.frames, ok.stk, ok.exf, ok.bs, ok.bsz, ok.noex, ok.exfs, ok.funs, ok.frf⟩
section
variable {X : Cx} {pins pins' : List (Addr × Obj)} {σ : St} {H : Hp} {s : Shared} {xe : Value → Shared → Prop} {a : Addr} {oa : Obj}
theorem Inv.tr (I : Inv X pins σ H s) (xe : Value → Shared → Prop) : Inv (X.tr (X.pn ++ pins) xe) [] σ H s :=
  ⟨I.ok.tr _ _, I.os, I.bare, I.base, I.loc, I.cell, I.free, I.freeC, fun p hp => I.pin p (by rw [List.append_nil] at hp; exact hp), I.hok, I.len⟩
theorem Inv.untr (I : Inv (X.tr (X.pn ++ pins) xe) pins' σ H s) : Inv X pins σ H s :=
  ⟨I.ok.untr, I.os, I.bare, I.base, I.loc, I.cell, I.free, I.freeC, fun p hp => I.pin p (List.mem_append_left _ hp), I.hok, I.len⟩
theorem FpN.untr {b : Addr} (f : FpN (X.tr (X.pn ++ pins) xe) pins' H b) : FpN X pins H b :=
  ⟨⟨f.1.1, f.1.2.1, f.1.2.2.1, f.1.2.2.2.1, f.1.2.2.2.2.1, fun p hp => f.1.2.2.2.2.2 p (List.mem_append_left _ hp)⟩, f.2⟩
theorem Fly.untr {C a dx : Addr} {t : Option Addr} {h : Heap} (f : Fly (X.tr (X.pn ++ pins) xe) pins' C a dx t H h) : Fly X pins C a dx t H h := ⟨f.rc, f.fp.untr, fun T e => (f.ft T e).untr⟩
theorem Inv.hnd (I : Inv X pins σ H s) (f : FpOk X pins H a) (ha : s.heap.get? a = some oa) (hc : ∀ v, oa.data ≠ .cell v) : Inv (X.hnd a (X.pn ++ pins ++ [(a, oa)])) [] σ H s := by
  refine ⟨I.ok.hnd _ _, I.os, I.bare, I.base, I.loc, I.cell, I.free, I.freeC, fun p hp => ?_, I.hok, I.len⟩
  have hp : p ∈ (X.pn ++ pins ++ [(a, oa)]) ++ [] := hp
  rw [List.append_nil] at hp
  rcases List.mem_append.mp hp with hp | hp
  · exact I.pin p hp
  · obtain rfl : p = (a, oa) := by simpa using hp
    exact ⟨ha, f.1, f.2.1, f.2.2.1, hc⟩
theorem Inv.unhnd {pn : List (Addr × Obj)} (ok : X.Ok) (I : Inv (X.hnd a (X.pn ++ pins ++ pn)) pins' σ H s) : Inv X pins σ H s :=
  ⟨ok, I.os, I.bare, I.base, I.loc, I.cell, I.free, I.freeC, fun p hp => I.pin p (List.mem_append_left _ (List.mem_append_left _ hp)), I.hok, I.len⟩
theorem SP.untr {D : Ends} {f : Flow} {s' : Shared} (h : SP (X.tr (X.pn ++ pins) xe) pins' D f s') : SP X pins D f s' := by
  cases f with
  | next => obtain ⟨σ', H', I, q⟩ := h; exact ⟨σ', H', I.untr, q⟩
  | brk => obtain ⟨σ', H', I, q⟩ := h; exact ⟨σ', H', I.untr, q⟩
  | cont => obtain ⟨σ', H', I, q⟩ := h; exact ⟨σ', H', I.untr, q⟩
  | ret u => obtain ⟨v, σ', H', I, r, q⟩ := h; exact ⟨v, σ', H', I.untr, r, q⟩
end
def Top (X : Cx) : Prop := ∃ (env0 : Env) (rest : List Env) (L : Addr), X.stack = env0 :: rest ∧ env0.frame = some L ∧ X.env.frame = some L
def tTry (C : Addr) (E : XK) (tb : TS) (th : TS) : TS := fun D σ H => tb D σ H ∧
  ∀ (dx : Addr) (H' : Hp) (σ' : St), σ'.length = σ.length → E (.ref C) (some dx) H' → th { nx := fun _ _ => False, rt := D.rt } σ' H'
section
variable {X : Cx} {C : Addr} {E : XK} {body hbody : List Stmt} {b0 : Stmt} {tb : TS} {n x : Str} {np hp pos : Pos} {i : Nat}
theorem try_core {hdl : ExceptHandler} {D : Ends} {σ : St} {H : Hp} {pins : List (Addr × Obj)} {s : Shared} (hst : Top X) (I : Inv X pins σ H s)
    (hb : ∀ (pn : List (Addr × Obj)) (xe : Value → Shared → Prop), PassesOwn (model X.prog X.w) X.A X.env xe → XOk C (X.tr pn xe) E → PSs (X.tr pn xe) body tb) (h1 : tb D σ H)
    (hh : ∀ (σ' : St) (H' : Hp) (s' : Shared) (a dx T : Addr), Inv X pins σ' H' s' → Fly X pins C a dx (some T) H' s'.heap → E (.ref C) (some dx) H' → wpAny (model X.prog X.w) X.A (handleBy (.ref a) X.env [hdl]) (SP X pins D) X.xe s') :
    wpAny (model X.prog X.w) X.A (exec (.Try body [hdl] [] [] pos) X.env) (SP X pins D) X.xe s := by
  obtain ⟨env0, rest, L, hs, h0, hf⟩ := hst
  refine wpAny_Try_except ?_
  generalize hxe : (fun (e : Value) (s₁ : Shared) => wpAny (model X.prog X.w) X.A (noteFrame e X.env) (fun _ s₂ => wpAny (model X.prog X.w) X.A (setFlight e none) (fun _ s₃ => wpAny (model X.prog X.w) X.A (handleBy e X.env [hdl]) (SP X pins D) X.xe s₃) X.xe s₂) X.xe s₁) = xe
  have po : PassesOwn (model X.prog X.w) X.A X.env xe := by rw [← hxe]; exact PassesOwn.looking
  have xok : XOk C (X.tr (X.pn ++ pins) xe) E := by
    intro pins' σ' H' s' a dx t I' f' e'
    show xe (.ref a) s'
    rw [← hxe]
    refine I'.untr.noted hs I'.untr.ok.frames h0 hf f'.untr fun s2 T I2 f2 => ?_
    exact I2.flown f2 fun s3 I3 f3 => hh σ' H' s3 a dx T I3 f3 e'
  refine wpAny_mono (hb _ _ po xok [] s σ H D (I.tr xe) h1) (fun f s1 q => ?_) fun e s1 q => q
  have q' := q.untr
  cases f with
  | next => exact wpAny_execs_nil q'
  | brk => exact q'
  | cont => exact q'
  | ret u => exact q'
theorem ps_try {th : TS} (hst : Top X) (hg : Gl X x) (hm : X.mg x = some (.ref C)) (hx : PySem.W.exmOne X.K (.ref C) (.ref C) = some true)
    (hb : ∀ (pn : List (Addr × Obj)) (xe : Value → Shared → Prop), PassesOwn (model X.prog X.w) X.A X.env xe → XOk C (X.tr pn xe) E → PSs (X.tr pn xe) body tb)
    (hh : ∀ (a : Addr) (pn : List (Addr × Obj)), PSs (X.hnd a pn) (b0 :: hbody) th)
    (hd : (x == ("__debug__" : Str)) = false := by decide) :
    PS X (.Try body [.ExceptHandler (some (.Name x np)) none (b0 :: hbody) hp] [] [] pos) (tTry C E tb th) := by
  intro pins s σ H D I h
  obtain ⟨h1, h2⟩ := h
  refine try_core hst I hb h1 fun σ' H' s3 a dx T I3 f3 e3 => ?_
  obtain ⟨vs, sl, ha, _⟩ := id f3.rc
  have I4 := I3.hnd f3.fp.1 ha (fun v q => by cases q)
  refine wpAny_handleBy_cons (codeAny_handlers_test ?_) (by intro q; cases q)
  refine ld_glob (X := X.hnd a (X.pn ++ pins ++ [(a, _)])) I4 hg hm ?_ hd
  have LT : PySem.W.Looks (model X.prog X.w) s3.heap (typeOf (.ref a)) (.ref C) := (PySem.W.Looks.ld ha).andThen .now
  refine (PySem.W.exm_one I4.kIn LT hx).here ?_
  refine codeAny_handlers_suite ?_
  refine I3.flown f3 fun s4 I5 f5 => ?_
  obtain ⟨vs', sl', ha', _⟩ := id f5.rc
  have I6 := I5.hnd f5.fp.1 ha' (fun v q => by cases q)
  have hlen : σ'.length = σ.length := I3.len.trans I.len.symm
  refine wpAny_mono (hh a _ [] s4 σ' H' _ I6 (h2 dx H' σ' hlen e3)) (fun f s6 q => ?_) fun _ _ z => z.elim
  cases f with
  | ret u =>
    obtain ⟨v, σ6, H6, I8, rv, q⟩ := q
    exact ⟨v, σ6, H6, I8.unhnd I.ok, rv, q⟩
  | next => obtain ⟨_, _, _, z⟩ := q; exact z.elim
  | brk => obtain ⟨_, _, _, z⟩ := q; exact z.elim
  | cont => obtain ⟨_, _, _, z⟩ := q; exact z.elim
end
end L2

set_option Elab.async false
set_option linter.all false
set_option maxRecDepth 100000
namespace L2
open PySem PySem.Spec PyProof.Rows
theorem xrec_apart {h : Heap} {C a dx L : Addr} {t : Option Addr} {m : Str → Option Value} (r : XRec h C a dx t) (n : h.Ns L m) : a ≠ L ∧ ∀ T, t = some T → T ≠ L := by
  obtain ⟨vs, sl, he, hz, h1⟩ := r
  obtain ⟨o, es, ep, ho, hd, _⟩ := n
  refine ⟨fun z => ?_, fun T e z => ?_⟩
  · rw [z, ho] at he
    cases he
    cases hd
  · subst e
    obtain ⟨_, _, oT, ts, y, hT, hdT, _⟩ := h1
    rw [z, ho] at hT
    cases hT
    rw [hd] at hdT
    cases hdT
theorem xrec_stays {h h' : Heap} {C a dx L : Addr} {t : Option Addr} (r : XRec h C a dx t) (sb : Heap.SameBut L h h') (ha : a ≠ L) (ht : ∀ T, t = some T → T ≠ L) : XRec h' C a dx t := by
  obtain ⟨vs, sl, he, hz, h1⟩ := r
  refine ⟨vs, sl, (sb.2 a ha).trans he, hz, ?_⟩
  cases t with
  | none => exact h1
  | some T =>
    obtain ⟨e1, e2, oT, ts, y, hT, hdT, h3⟩ := h1
    exact ⟨e1, e2, oT, ts, y, (sb.2 T (ht T rfl)).trans hT, hdT, h3⟩
section
variable {X : Cx} {C : Addr} {E : XK}
theorem lcX_core {pins : List (Addr × Obj)} {s : Shared} {σ : St} {H : Hp} {Q : VK} {elt tg iter : Expr} {ifs : List Expr} {scope : Scope} {own : List (Str × Nat)} {pos pos' : Pos} {wi : TI} {g : TG} {tt : TT} {te : TE} {use : Option (Value → Sem Unit)} {Qf : Value → Shared → Prop}
    (hst : Top X) (hX : XOk C X E) (hc : X.calm = true) (hN : X.N.Nodup) (I : Inv X pins σ H s) (hi : PI X tg iter wi) (ok : BlkOk X.N X.env.scope scope own)
    (hg : ∀ (s : Shared) (H : Hp) (C : Addr) (cl : List (Str × Addr)) (fp : List Addr), PG (X.blk s H scope (compEnvC scope cl C X.env) fp) tg g) (ht : ∀ (s : Shared) (H : Hp) (C : Addr) (cl : List (Str × Addr)) (fp : List Addr), PTs (X.blk s H scope (compEnvC scope cl C X.env) fp) ifs tt)
    (he : ∀ (s : Shared) (H : Hp) (B : Addr) (cl : List (Str × Addr)) (fp : List Addr) (xe : Value → Shared → Prop), XOk C ((X.blk s H scope (compEnvC scope cl B X.env) fp).wish xe) E → PE ((X.blk s H scope (compEnvC scope cl B X.env) fp).wish xe) elt te) (hs : ∀ x, foldedSetIterable iter X.env x = pure x)
    (h : tLc wi g tt te (own.map (·.2)) σ H Q)
    (hRR : ∀ D C s' m H', Inv X pins σ H' s' → Q (.ref D) H' → s'.heap.Ns C m → FpOk X pins H' C → compPost (model X.prog X.w) X.A X.xe use Qf (.ref D) C (.ok .next) s') :
    wpAny (model X.prog X.w) X.A (comprehension (.ListComp elt [⟨tg, iter, ifs, 0⟩] scope pos) scope X.env pos' (newList []) false (eval iter X.env) use) Qf X.xe s := by
  obtain ⟨env0, rest, L0, hstk, h00, hf0⟩ := hst
  have hfree : ∀ y ∈ scope.names, y.2 = .free → ∃ c, X.env.cells.lookup y.1 = some c := fun y hy e => by
    rcases ok.free y hy e with k | k
    · exact I.ok.has _ (.inl k)
    · exact I.ok.has _ (.inr k)
  refine wpAny_comprehension_free (use := use) rfl hs (closure_ok hfree) ok.kind (fun y hy e => by rw [ok.uniq y hy, e])
    (thn (hi pins s σ H _ I h) fun xv s1 hx => thn hx fun itv s2 h2 => ?_)
  obtain ⟨it, fp, tn, J, H2, e, I2, T, st2, f2, q⟩ := h2
  subst e
  refine wpAny_newObj_type (newEnv_comp ?_) (by show 0 ≤ sizeLine; decide)
  generalize hD : s2.heap.objs.size = D
  have hDn : H2 D = none := I2.hok.fresh (Nat.le_of_eq hD)
  obtain ⟨W, ⟨m0, w0⟩, turn⟩ := q D hDn
  generalize hs3 : ({ s2 with heap := s2.heap.push { cls := .type "list", data := .seq ([] : List Value).toArray } } : Shared) = s3
  have I3 : Inv X pins σ (upd H2 D (.lst [])) s3 := by
    rw [← hs3]
    refine I2.laid (t' := s2.toks) (fun b o e => Heap.get?_push_of_some _ e) (Nat.le_of_eq hD) ⟨Nat.zero_le _, [], 0, .nil, ?_⟩
    rw [← hD]
    exact Heap.get?_push_size _ rfl
  have h3 : s3.heap = s2.heap.push { cls := .type "list", data := .seq ([] : List Value).toArray } := by rw [← hs3]
  have sz : ∀ b ∈ fp, b < s2.heap.objs.size := fun b hb => by
    obtain ⟨o, e, _⟩ := T.obj _ _ st2 b hb
    exact Heap.lt_size e
  have f3 : ∀ b ∈ fp, FpOk X pins (upd H2 D (.lst [])) b ∧ b < s3.heap.objs.size := fun b hb => by
    have hlt := sz b hb
    refine ⟨⟨?_, (f2 b hb).2⟩, by rw [h3, Heap.size_push]; exact Nat.lt_succ_of_lt hlt⟩
    rw [upd_ne (by rw [← hD]; exact Nat.ne_of_lt hlt)]
    exact (f2 b hb).1
  have st3 : tn 0 s3.heap := T.keep _ _ _ st2 fun b _ o e => by rw [h3]; exact Heap.get?_push_of_some _ e
  have I4 := block_start I3 ok hN f3
  have pg := hg s3 (upd H2 D (.lst [])) s3.heap.objs.size (cellsFrom (s3.heap.objs.size + 1) scope.names (cloFrom X.env.cells scope.names [])) fp
  have pt := ht s3 (upd H2 D (.lst [])) s3.heap.objs.size (cellsFrom (s3.heap.objs.size + 1) scope.names (cloFrom X.env.cells scope.names [])) fp
  have pe := he s3 (upd H2 D (.lst [])) s3.heap.objs.size (cellsFrom (s3.heap.objs.size + 1) scope.names (cloFrom X.env.cells scope.names [])) fp
  show codeAny _ _ (.compStart (.ListComp elt [⟨tg, iter, ifs, 0⟩] scope pos) 0 (.ref it) (.ref D) (compEnvC scope (cellsFrom (s3.heap.objs.size + 1) scope.names (cloFrom X.env.cells scope.names [])) s3.heap.objs.size X.env)) (compPost (model X.prog X.w) X.A X.xe use Qf (.ref D) s3.heap.objs.size) { s3 with heap := pushCells (s3.heap.push { cls := .type "dict", data := .dict #[] }) scope.names }
  have nfp : ∀ b ∈ fp, (upd H2 D (.lst [])) b = none := fun b hb => (f3 b hb).1.1
  generalize hce : compEnvC scope (cellsFrom (s3.heap.objs.size + 1) scope.names (cloFrom X.env.cells scope.names [])) s3.heap.objs.size X.env = ce at I4 pg pt pe ⊢
  have cL : ce.locals = s3.heap.objs.size := by subst hce; rfl
  have cF : ce.frame = some L0 := by subst hce; exact hf0
  generalize hH3 : upd H2 D (.lst []) = H3 at I3 I4 pg pt pe w0 nfp f3
  generalize hs4 : ({ s3 with heap := pushCells (s3.heap.push { cls := .type "dict", data := .dict #[] }) scope.names } : Shared) = s4 at I4 ⊢
  have st4 : tn 0 s4.heap := T.keep _ _ _ st3 fun b _ o e => by rw [← hs4]; exact pushCells_keeps _ _ _ _ (Heap.get?_push_of_some _ e)
  have stat : ∀ {σ' : St} {H' : Hp} {s' : Shared}, Inv (X.blk s3 H3 scope ce fp) [] σ' H' s' → (∀ b ∈ fp, H' b = none) → ∀ b ∈ fp, FpOk (X.blk s3 H3 scope ce fp) [] H' b := fun {σ' H' s'} I' hn b hb =>
    ⟨hn b hb, (I'.ok.exf b hb).1, I'.ok.exfs b hb, .inl hb, fun x c e => (I'.ok.exf b hb).2 x c e, fun p hp => absurd (show p ∈ ([] : List (Addr × Obj)) ++ [] from hp) (by simp)⟩
  -- back in the def's context
  have backI : ∀ {σ' : St} {H' : Hp} {s' : Shared} {pl : List (Addr × Obj)}, Inv (X.blk s3 H3 scope ce fp) pl σ' H' s' → Inv X pins σ H' s' ∧ H' s3.heap.objs.size = none ∧ ∃ m, s'.heap.Ns s3.heap.objs.size m := fun {σ' H' s' pl} I6 => by
    refine ⟨I3.call' (ch := fp) I6.os I6.base I6.hok I6.bare fun b hb => ⟨(f3 b hb).1.2.2.2.1, (f3 b hb).1.2.1, (f3 b hb).1.2.2.2.2.1, (f3 b hb).1.2.2.2.2.2⟩, ?_, ?_⟩
    · have z : H' ce.locals = none := I6.free
      rw [cL] at z
      exact z
    · obtain ⟨m, hn, _⟩ := I6.loc
      have hn : s'.heap.Ns ce.locals m := hn
      rw [cL] at hn
      exact ⟨m, hn⟩
  -- what becomes of an exception
  generalize hxe : notedBy (model X.prog X.w) X.A ce (fun e s' => compPost (model X.prog X.w) X.A X.xe use Qf (.ref D) s3.heap.objs.size (.error e) s') = xe
  have xok : XOk C ((X.blk s3 H3 scope ce fp).wish xe) E := by
    intro pins' σ' H' s' a dx t I' f' e'
    show xe (.ref a) s'
    rw [← hxe]
    show wpAny (model X.prog X.w) X.A (noteFrame (.ref a) ce) _ _ s'
    refine Inv.noted (X := (X.blk s3 H3 scope ce fp).wish xe) (env0 := env0) (rest := rest) (L := L0) I' hstk I'.ok.frames h00 cF f' fun s5 T5 I5 f5 => ?_
    obtain ⟨I6, nC, m, hn⟩ := backI (Inv.unwish I5)
    obtain ⟨na, nt⟩ := xrec_apart f5.rc hn
    have sza : s3.heap.objs.size ≤ a := f5.fp.2
    have szt : s3.heap.objs.size ≤ T5 := (f5.ft T5 rfl).2
    have key : ∃ m, s5.heap.Ns s3.heap.objs.size m ∧ ∀ h', Heap.SameBut s3.heap.objs.size s5.heap h' → ∀ cenv : Env, cenv.locals = s3.heap.objs.size → wpAny (model X.prog X.w) X.A (passOn "comprehension.variables-let-go" (.ref a) cenv : Sem Value) (fun _ _ => False) X.xe { s5 with heap := h' } := by
      refine ⟨m, hn, fun h' sb cenv _ => ?_⟩
      obtain ⟨p0, p1, p2, p3, p4, p5⟩ := I3.fpOk (H' := H') (Nat.le_refl _) nC
      have I7 : Inv X pins σ H' { s5 with heap := h' } := I6.turned (t' := s5.toks) (fun b o hb e => (sb.2 b hb).trans e) p0 p1 p3 p4 p5
      have r7 : XRec h' C a dx (some T5) := xrec_stays f5.rc sb na nt
      have nA : H' a = none := f5.fp.1.1
      have nT : H' T5 = none := (f5.ft T5 rfl).1.1
      refine passOn_some (s := { s5 with heap := h' }) r7 fun h'' r8 k8 => ?_
      obtain ⟨o0, o1, o2, o3, o4, o5⟩ := I3.fpOk (H' := H') szt nT
      have I8 : Inv X pins σ H' { s5 with heap := h'' } := I7.turned (t' := s5.toks) (fun b o hb e => k8 b o hb e) o0 o1 o3 o4 o5
      exact hX pins σ H' _ a dx (some T5) I8 ⟨r8, I3.fpN sza nA, fun T' e => by cases e; exact I3.fpN szt nT⟩ e'
    cases use <;> exact key
  have pe := pe xe xok
  have loop : codeAny (model X.prog X.w) X.A (.compLoop (.ListComp elt [⟨tg, iter, ifs, 0⟩] scope pos) 0 (.ref it) (.ref D) ce) (compPost (model X.prog X.w) X.A X.xe use Qf (.ref D) s3.heap.objs.size) s4 := by
    refine compLoop_any (fun n s' => ∃ i H', Inv (X.blk s3 H3 scope ce fp) [] (wipe σ (own.map (·.2))) H' s' ∧ tn i s'.heap ∧ (∀ b ∈ fp, H' b = none) ∧ W i n H') ?_ m0 ⟨0, H3, I4, st4, nfp, w0⟩
    rw [hxe]
    rintro n s5 ⟨i, H5, I5, st5, n5, w5⟩
    rcases turn i n H5 w5 with ⟨stop, qq⟩ | ⟨go, Nx, hNx, step⟩
    · have td := T.done (X.blk s3 H3 scope ce fp) rfl rfl rfl hc i [] s5 _ H5 (fun _ _ => False) I5 (stat I5 n5) st5 stop
      refine thnF td fun r s6 ⟨hr, I6⟩ => ?_
      subst hr
      obtain ⟨I7, nC, m, hn⟩ := backI I6
      exact hRR D s3.heap.objs.size s6 m H5 I7 qq hn (I3.fpOk (Nat.le_refl _) nC)
    · have ti := T.item (X.blk s3 H3 scope ce fp) rfl rfl rfl hc i [] s5 _ H5 (fun _ _ => False) I5 (stat I5 n5) st5 go
      refine thnF ti fun r s6 ⟨u, hr, h6⟩ => ?_
      subst hr
      refine thnF h6 fun _ s7 ⟨x, H7, I7, r7, y7, st7, n7⟩ => ?_
      have I7' := I7.pinned (stat I7 n7) (T.obj _ _ st7)
      refine thnF (pg _ s7 _ H7 x u _ I7' r7 (step x H7 y7)) fun _ s8 ⟨σ8, H8, I8, hw8, q8⟩ => ?_
      refine thnF (pt _ s8 σ8 H8 _ I8 q8) fun b s9 ⟨H9, I9, q9⟩ => ?_
      have fin : ∀ {s' : Shared} {H' : Hp}, Inv (X.blk s3 H3 scope ce fp) ([] ++ pinsAt fp s7.heap) σ8 H' s' → Nx H' → ∃ m, m < n ∧ ∃ i H', Inv (X.blk s3 H3 scope ce fp) [] (wipe σ (own.map (·.2))) H' s' ∧ tn i s'.heap ∧ (∀ b ∈ fp, H' b = none) ∧ W i m H' := fun {s' H'} I' nx => by
        obtain ⟨m', hm, w'⟩ := hNx H' nx
        have pin' : ∀ b ∈ fp, ∀ o, s7.heap.get? b = some o → s'.heap.get? b = some o ∧ H' b = none := fun b hb o e =>
          let z := I'.pin (b, o) (List.mem_append_right _ (List.mem_append_right _ (mem_pinsAt hb e)))
          ⟨z.1, z.2.1⟩
        have hl : (wipe σ (own.map (·.2))).length = σ8.length := by rw [← hw8, wipe_length]
        refine ⟨m', hm, i + 1, H', (I'.unpinned (pins := [])).weak hl (fun j v e => ?_), T.keep _ _ _ st7 fun b hb o e => (pin' b hb o e).1, fun b hb => ?_, w'⟩
        · rw [← hw8] at e
          exact (wipe_some e).1
        · obtain ⟨o, e, _⟩ := T.obj _ _ st7 b hb
          exact (pin' b hb o e).2
      cases b with
      | false =>
        simp only [Bool.false_eq_true, if_false] at q9 ⊢
        exact fin I9 q9
      | true =>
        simp only [if_true] at q9 ⊢
        refine thn (pe _ s9 σ8 H9 _ (I9.wish xe) q9) fun z s10 ⟨yv, H10, I10, r10, acc, hD10, hz10, nx⟩ => ?_
        exact app_ok (X := X.blk s3 H3 scope ce fp) (Inv.unwish I10) hD10 hz10 r10 fun s11 I11 => fin I11 nx
  exact codeAny_compStart_list loop (T.self X.A 0 _ _ _ st4 loop)
theorem ps_setLcX {i : Nat} {y : Str} {py : Pos} {elt tg iter : Expr} {ifs : List Expr} {scope : Scope} {own : List (Str × Nat)} {pos spos : Pos} {wi : TI} {g : TG} {tt : TT} {te : TE} (hst : Top X) (hX : XOk C X E) (hc : X.calm = true) (hN : X.N.Nodup) (hy : X.N[i]? = some y) (hyl : X.env.scope.names.lookup y = some .local)
    (hsw : swapsWith (.ListComp elt [⟨tg, iter, ifs, 0⟩] scope pos) (some (.Name y py)) spos.line X.env = pure true) (hi : PI X tg iter wi) (ok : BlkOk X.N X.env.scope scope own)
    (hg : ∀ (s : Shared) (H : Hp) (C : Addr) (cl : List (Str × Addr)) (fp : List Addr), PG (X.blk s H scope (compEnvC scope cl C X.env) fp) tg g) (ht : ∀ (s : Shared) (H : Hp) (C : Addr) (cl : List (Str × Addr)) (fp : List Addr), PTs (X.blk s H scope (compEnvC scope cl C X.env) fp) ifs tt)
    (he : ∀ (s : Shared) (H : Hp) (B : Addr) (cl : List (Str × Addr)) (fp : List Addr) (xe : Value → Shared → Prop), XOk C ((X.blk s H scope (compEnvC scope cl B X.env) fp).wish xe) E → PE ((X.blk s H scope (compEnvC scope cl B X.env) fp).wish xe) elt te) (hs : ∀ x, foldedSetIterable iter X.env x = pure x := by intro _; rfl) :
    PS X (.Assign [.Name y py] (.ListComp elt [⟨tg, iter, ifs, 0⟩] scope pos) spos) (tAsg (tLc wi g tt te (own.map (·.2))) (gName i)) := by
  intro pins s σ H D I h
  rw [exec_Assign_Name_used _ _ _ _ hsw]
  refine wpAny_bind (wpAny_standAt (wpAny_bind ?_))
  show wpAny _ X.A (do let _ ← comprehension (.ListComp elt [⟨tg, iter, ifs, 0⟩] scope pos) scope X.env (firstIterPos [⟨tg, iter, ifs, 0⟩] pos) (newList []) false (eval iter X.env) (some (assign (.Name y py) X.env))) _ _ s
  have h : tLc wi g tt te (own.map (·.2)) σ H (fun x H1 => gName i x σ H1 D.nx) := h
  refine wpAny_bind (thn (lcX_core (Qf := fun _ s' => SP X pins D .next s') hst hX hc hN I hi ok hg ht he hs h fun L C s' m H' I' q hn f => ?_) fun _ s' hq => wpAny_pure (wpAny_pure hq))
  show wpAny _ _ (assign (.Name y py) X.env (.ref L)) _ _ _
  refine wpAny_assign_Name (store_ok2 (v := V.ref L) I' hN hy (.inl hyl) rfl (fun s2 I2 ⟨a, sb, ha⟩ => ?_) (.inr hyl))
  obtain ⟨f0, f1, f2, f3, f4, f5⟩ := f
  have haC : C ≠ a := by
    rcases ha with z | z
    · rw [z]; exact f1
    · exact fun e => f4 y a z e.symm
  refine ⟨m, hn.sameBut sb haC, fun h3 sb3 => ?_⟩
  exact ⟨_, H', I2.turned (t' := s2.toks) (fun b o hb e => (sb3.2 b hb).trans e) f0 f1 f3 f4 f5, q⟩
end
end L2

set_option linter.all false
set_option maxRecDepth 100000
set_option maxHeartbeats 4000000
namespace PySem
open Sem (wp)
section
variable {prog : Program} {w : World} {A : Around} {E : Value → Shared → Prop} {h : Heap} {g : Array GenState} {d : Drawn} {t : Nat} {os : OsState}
variable {nm q : Str} {C N : Addr} {bs bm : List Value} {sn : List Str} {sub : List Value} {ab : Bool} {col : Option Bool} {dd : Option Addr} {k0 k1 k2 k3 k5 : Option Value} {B newId initId sa owner : String}
theorem xmake_entry (F : ExcBaseFacts B newId initId bm) {mN : Str → Option Value} {rest : List Value} {fI : Addr} {oI : Obj} {Q : Fin → Shared → Prop}
    (hC : h.get? C = some (excClassObj nm q C N bs bm true sn sub ab col dd k0 k1 k2 k3 k5 newId)) (hn : h.Ns N mN) (hi : mN "__init__" = some (.ref fI))
    (hfI : h.get? fI = some oI) (hfc : oI.cls = .type "function")
    (hq : wpAny (model prog w) A (call (.ref fI) (.ref (h.objs.size + 1) :: rest)) (fun r s' => r = .none ∧ Q (.done (.ret (.ref (h.objs.size + 1)))) s') E
      ⟨(h.push { cls := .type "tuple", data := .seq rest.toArray }).push { cls := .ref C, data := .fields #[.ref h.objs.size, .none, .none, .none, .bool false, .none] }, g, d, t, os⟩) (hrest : rest.length ≤ sizeLine) :
    wpAny (model prog w) A (Builtin.«type.__call__» ⟨.ref C :: rest, []⟩) Q E ⟨h, g, d, t, os⟩ := by
  generalize hT : ({ cls := .type "tuple", data := .seq rest.toArray } : Obj) = oT at hq
  generalize hX : ({ cls := .ref C, data := .fields #[.ref h.objs.size, .none, .none, .none, .bool false, .none] } : Obj) = oX at hq
  have oXc : oX.cls = .ref C := by rw [← hX]
  have oXf : oX.isFreed = false := by rw [← hX]; rfl
  repeat (first | with_reducible refine wpAny_madeBy_exc hC ?_ | with_reducible refine wpAny_loadPart_at hC ?_ | wp_step)
  apply codeAny_call_builtin_code (Code.quiet_builtin _ F.quiet) (wpAny_check_new_sub F hC (codeAny_exc_new_sub F hC ?_ hrest))
  rw [hT, hX]
  show wpAny _ _ _ _ _ _
  have lift : ∀ {b : Addr} {o : Obj}, h.get? b = some o → ((h.push oT).push oX).get? b = some o := fun e => Heap.get?_push_of_some _ (Heap.get?_push_of_some _ e)
  have cC := lift hC
  have cF := lift hfI
  have cN : ((h.push oT).push oX).Ns N mN := let ⟨o, es, ep, e, r⟩ := hn; ⟨o, es, ep, lift e, r⟩
  have cX : ((h.push oT).push oX).get? (h.objs.size + 1) = some oX := by
    have z := Heap.get?_push_size (h.push oT) (o := oX) oXf
    rwa [Heap.size_push] at z
  have self : (Value.ref C :: bm).contains (.ref C) = true := by simp
  unfold isInstance
  repeat (first | (with_reducible refine wpAny_loadPart_at cX ?_; rw [oXc]) | (with_reducible refine wpAny_isSubtype_exc cC ?_; rw [self]) | wp_step)
  show wpAny _ _ (typeLookup (.ref C) _) _ _ _
  refine wpAny_typeLookup_exc cC cN F.mroIs F.init.lookup ?_
  rw [hi]
  refine wpAny_holding (wpAny_bind ?_)
  unfold bindSpecial
  refine wpAny_bind (wpAny_typeOf (T := "function") (show Shared.TypeIs _ (.ref fI) "function" from ⟨_, cF, hfc⟩) ?_)
  rw [if_pos (by decide)]
  refine wpAny_pure (wpAny_bind (wpAny_mono hq (fun r s' z => ?_) fun _ _ x => x))
  obtain ⟨rfl, z⟩ := z
  wp_walk
  exact z
theorem xmake (F : ExcBaseFacts B newId initId bm) {mN : Str → Option Value} {rest : List Value} {fI : Addr} {oI : Obj} {Q : Value → Shared → Prop}
    (hC : h.get? C = some (excClassObj nm q C N bs bm true sn sub ab col dd k0 k1 k2 k3 k5 newId)) (hn : h.Ns N mN) (hi : mN "__init__" = some (.ref fI))
    (hfI : h.get? fI = some oI) (hfc : oI.cls = .type "function")
    (hq : wpAny (model prog w) (A.under (.builtin "type.__call__" ⟨.ref C :: rest, []⟩)) (call (.ref fI) (.ref (h.objs.size + 1) :: rest)) (fun r s' => r = .none ∧ Q (.ref (h.objs.size + 1)) s') E
      ⟨(h.push { cls := .type "tuple", data := .seq rest.toArray }).push { cls := .ref C, data := .fields #[.ref h.objs.size, .none, .none, .none, .bool false, .none] }, g, d, t, os⟩) (hrest : rest.length ≤ sizeLine) :
    wpAny (model prog w) A (call (.ref C) rest) Q E ⟨h, g, d, t, os⟩ := by
  have a1 := tc_lookup
  have a2 := tc_bind (.ref C)
  have ty : (⟨h, g, d, t, os⟩ : Shared).TypeIs (.ref C) "type" := ⟨_, hC, rfl⟩
  apply wpAny_call (codeAny_of_tree ?_)
  show wpAny _ _ (callAny (.ref C) _) _ _ _
  repeat (any_goals (first | assumption | wp_step | with_reducible refine wpAny_loadPart_at hC ?_))
  refine ⟨rfl, codeAny_call_builtin_at (Code.quiet_builtin _ (by decide +kernel)) entry_typeCall (wpAny_check_type_call_sub hC (xmake_entry F hC hn hi hfI hfc ?_ hrest))⟩
  exact hq
theorem xinit (F : ExcBaseFacts B newId initId bm) {e : Addr} {oe : Obj} {vs : Array Value} {Q : Value → Shared → Prop}
    (hC : h.get? C = some (excClassObj nm q C N bs bm true sn sub ab col dd k0 k1 k2 k3 k5 newId)) (he : h.get? e = some oe) (hcls : oe.cls = .ref C) (hd : oe.data = .fields vs) (hz : 0 < vs.size) {v0 : Value} (h0 : vs[0]? = some v0)
    (hq : Q .none ⟨(h.push { cls := .type "tuple", data := .seq #[] }).update e (Obj.mapFields (·.setIfInBounds 0 (.ref h.objs.size))), g, d, t, os⟩) :
    wpAny (model prog w) A (call (.builtin initId) [.ref e]) Q E ⟨h, g, d, t, os⟩ := by
  have cE := Heap.get?_push_of_some { cls := .type "tuple", data := .seq #[] } he
  refine wpAny_call (codeAny_call_builtin F.init.plain F.initEntry (wpAny_check_init_sub F hC he hcls ?_))
  wp_walk
  rw [hd]
  refine wpAny_pure ?_
  rw [h0]
  refine wpAny_pure (wpAny_bind (wpAny_setField cE hd hz ?_))
  have lg : wpAny (model prog w) A.in1 (match v0 with | .ref a => letGo [v0] | x => pure ()) (fun _ s' => Q .none s') (fun e s' => E e s') ⟨(h.push { cls := .type "tuple", data := .seq #[] }).update e (Obj.mapFields (·.setIfInBounds 0 (.ref h.objs.size))), g, d, t, os⟩ := by
    cases v0 <;> first | exact wpAny_pure hq | exact wpAny_letGo hq
  exact wpAny_mono lg (fun _ _ z => wpAny_pure z) fun _ _ z => z
theorem xstore_to (SF : StoreFacts B bm sa owner) {x : Addr} {ox : Obj} {mN : Str → Option Value} {name : Str} {v : Value} {Q : Unit → Shared → Prop}
    (hC : h.get? C = some (excClassObj nm q C N bs bm true sn sub ab col dd k0 k1 k2 k3 k5 newId)) (hn : h.Ns N mN) (hns : mN "__setattr__" = none) (hna : mN name = none)
    (hB : typeLookup (.type B) name = pure none) (hx : h.get? x = some ox) (hc : ox.cls = .ref C) {vs : Array Value} (hd : ox.data = .fields vs)
    (hq : ∀ dx h1, (ox.dict = some dx ∧ h1 = h) ∨ (ox.dict = none ∧ dx = h.objs.size ∧ h1 = (h.push { cls := .type "dict", data := .dict #[] }).update x fun o => { cls := o.cls, dict := some h.objs.size, data := o.data, slots := o.slots }) →
      wpAny (model prog w) A.in1 (Builtin.ObjectAttr.storeInDict dx (.str name t) name v) (fun fin s'' => fin = .done (.ret .none) ∧ Q () s'') E ⟨h1, g, d, t + 1, os⟩) :
    wpAny (model prog w) A (setAttr (.ref x) name v) Q E ⟨h, g, d, t, os⟩ := by
  have f3 := SF.slot.bind (.ref x)
  have isO : (Value.ref C :: bm).contains (.type owner) = true := by rw [List.contains_cons, SF.hasOwner, Bool.or_true]
  have goes := SF.passes (.ref x)
  unfold setAttr callSpecial? specialOf
  repeat (any_goals (first | assumption | (with_reducible refine wpAny_loadPart_at hx ?_; rw [hc]) | (with_reducible refine wpAny_typeLookup_exc hC hn SF.mro SF.slot.lookup ?_; rw [hns]) | wp_step))
  refine codeAny_call_builtin SF.slot.plain SF.entry (wpAny_check_sa SF hC hx hc ?_)
  unfold Builtin.«object.__setattr__»
  repeat (first | rw [refuse_eq] | (rw [refuseLoop_ref, goes]) | (with_reducible refine wpAny_loadPart_at hx ?_; rw [hc]) | with_reducible refine wpAny_mroOf_exc hC ?_ | (with_reducible refine wpAny_typeLookup_exc hC hn SF.mro hB ?_; rw [hna]) | wp_step)
  cases hdc : ox.dict with
  | some dx => exact wpAny_pure (wpAny_mono (hq dx h (.inl ⟨hdc, rfl⟩)) (fun f s'' ⟨e, r⟩ => by subst e; exact wpAny_pure (wpAny_pure r)) fun _ _ r => r)
  | none =>
    rw [hd]
    show wpAny _ _ (if _ then _ else _) _ _ _
    rw [if_neg (by simp [typeHasDict])]
    have hx1 : (h.push { cls := .type "dict", data := .dict #[] }).get? x = some ox := Heap.get?_push_of_some _ hx
    exact wpAny_bind (wpAny_alloc' (wpAny_bind (wpAny_update' hx1 (wpAny_pure (wpAny_mono (hq h.objs.size _ (.inr ⟨hdc, rfl, rfl⟩)) (fun f s'' ⟨e, r⟩ => by subst e; exact wpAny_pure (wpAny_pure r)) fun _ _ r => r)))))
theorem xstore_new (SF : StoreFacts B bm sa owner) {x : Addr} {ox : Obj} {mN : Str → Option Value} {name : Str} {v : Value} {Q : Unit → Shared → Prop}
    (hC : h.get? C = some (excClassObj nm q C N bs bm true sn sub ab col dd k0 k1 k2 k3 k5 newId)) (hn : h.Ns N mN) (hns : mN "__setattr__" = none) (hna : mN name = none)
    (hB : typeLookup (.type B) name = pure none) (hx : h.get? x = some ox) (hc : ox.cls = .ref C) {vs : Array Value} (hd : ox.data = .fields vs) (hdn : ox.dict = none)
    (hq : ∀ h' tk', h'.get? x = some { ox with dict := some h.objs.size } → h'.Ns1 h.objs.size (fun y => if y = name then some v else none) → (∀ b o, b ≠ x → h.get? b = some o → h'.get? b = some o) → Q () ⟨h', g, d, tk', os⟩) :
    wpAny (model prog w) A (setAttr (.ref x) name v) Q E ⟨h, g, d, t, os⟩ := by
  refine xstore_to SF hC hn hns hna hB hx hc hd fun dx h1 z => ?_
  rcases z with ⟨e, _⟩ | ⟨_, rfl, rfl⟩
  · rw [hdn] at e; cases e
  have ne : x ≠ h.objs.size := Nat.ne_of_lt (Heap.lt_size hx)
  have hx1 : (h.push { cls := .type "dict", data := .dict #[] }).get? x = some ox := Heap.get?_push_of_some _ hx
  have e0 : (h.push { cls := .type "dict", data := .dict #[] }).get? h.objs.size = some { cls := .type "dict", data := .dict #[] } := Heap.get?_push_size h rfl
  generalize hh1 : ((h.push { cls := .type "dict", data := .dict #[] }).update x fun o => { cls := o.cls, dict := some h.objs.size, data := o.data, slots := o.slots }) = h1
  have e1 : h1.get? h.objs.size = some { cls := .type "dict", data := .dict #[] } := by rw [← hh1, Heap.get?_update_other _ _ ne]; exact e0
  have e2 : h1.get? x = some { ox with dict := some h.objs.size } := by
    rw [← hh1]
    refine Heap.get?_update_self _ hx1 ?_
    show ({ ox with dict := some h.objs.size } : Obj).isFreed = false
    unfold Obj.isFreed
    rw [show ({ ox with dict := some h.objs.size } : Obj).data = .fields vs from hd]
  have e3 : ∀ b o, b ≠ x → h.get? b = some o → h1.get? b = some o := fun b o hb q => by rw [← hh1, Heap.get?_update_other _ _ (Ne.symm hb)]; exact Heap.get?_push_of_some _ q
  have n1 : h1.Ns h.objs.size (fun _ => none) := ⟨_, #[], _, e1, rfl, fun e he => absurd he (by simp), fun _ => rfl⟩
  unfold Builtin.ObjectAttr.storeInDict Builtin.ObjectAttr.newKeyGuard
  refine wpAny_bind (wpAny_pure (wpAny_bind (wpAny_nsSet1 (Heap.Ns1.of_empty n1) fun h' hn' hs => ?_)))
  obtain ⟨oD, esD, epD, hoD, hdD, hcD⟩ := hn'.count (Within.cons name v Within.nil)
  refine wpAny_bind (wpAny_lookBehind hoD (by rw [hdD]; exact pastItsLine_dict (Nat.le_trans hcD (by rw [List.length_cons, List.length_nil, sizeLine_eq]; omega))) ?_)
  exact wpAny_pure ⟨rfl, hq h' _ ((hs.2 x ne).trans e2) hn' fun b o hb q => (hs.2 b (Nat.ne_of_lt (Heap.lt_size q))).trans (e3 b o hb q)⟩
theorem xstore_old (SF : StoreFacts B bm sa owner) {x dx : Addr} {ox : Obj} {mN mA : Str → Option Value} {ns : List Str} {name : Str} {v : Value} {Q : Unit → Shared → Prop}
    (hC : h.get? C = some (excClassObj nm q C N bs bm true sn sub ab col dd k0 k1 k2 k3 k5 newId)) (hn : h.Ns N mN) (hns : mN "__setattr__" = none) (hna : mN name = none)
    (hB : typeLookup (.type B) name = pure none) (hx : h.get? x = some ox) (hc : ox.cls = .ref C) {vs : Array Value} (hd : ox.data = .fields vs) (hdx : ox.dict = some dx) (hnd : h.Ns1 dx mA) (hw : Within mA ns) (hsz : ns.length ≤ 1000)
    (hq : ∀ h' tk', h'.Ns1 dx (fun y => if y = name then some v else mA y) → Heap.SameBut dx h h' → Q () ⟨h', g, d, tk', os⟩) :
    wpAny (model prog w) A (setAttr (.ref x) name v) Q E ⟨h, g, d, t, os⟩ := by
  refine xstore_to SF hC hn hns hna hB hx hc hd fun dx' h1 z => ?_
  rcases z with ⟨e, rfl⟩ | ⟨e, _⟩
  · rw [hdx] at e; cases e
    unfold Builtin.ObjectAttr.storeInDict Builtin.ObjectAttr.newKeyGuard
    refine wpAny_bind (wpAny_pure (wpAny_bind (wpAny_nsSet1 hnd fun h' hn' hs => ?_)))
    obtain ⟨oD, esD, epD, hoD, hdD, hcD⟩ := hn'.count (Within.cons name v hw)
    refine wpAny_bind (wpAny_lookBehind hoD (by rw [hdD]; exact pastItsLine_dict (Nat.le_trans hcD (by rw [List.length_cons, sizeLine_eq]; omega))) ?_)
    exact wpAny_pure ⟨rfl, hq h' _ hn' hs⟩
  · rw [hdx] at e; cases e
end
end PySem

set_option Elab.async false
set_option linter.all false
set_option maxRecDepth 100000
namespace L2
open PySem PySem.Spec PyProof.Rows
abbrev bmE : List Value := [.type "Exception", .type "BaseException", .type "object"]
theorem ns_some_of {K : PySem.W.Frag} {h : Heap} {N : Addr} {m : Str → Option Value} {n : Str} {v : Value} (X : K.In h) (G : h.Ns N m) (e : PySem.W.nsIn K N n = some (some v)) : m n = some v := by
  obtain ⟨o, es, ep, ho, hd, _, hf⟩ := G
  unfold PySem.W.nsIn at e
  split at e
  · rename_i c dd es' n' sl q
    have z := X _ _ q
    rw [ho] at z
    cases z
    cases hd
    split at e
    · rename_i en he
      rw [← hf]
      unfold nsFind findBy
      rw [← Array.find?_toList, he]
      exact Option.some.inj e
    · split at e <;> cases e
  · cases e
structure XCls (K : PySem.W.Frag) (C fI : Addr) : Prop where
  ob : ∃ (nm q : Str) (N : Addr) (bs : List Value) (sn : List Str) (sub : List Value) (ab : Bool) (col : Option Bool) (dd : Option Addr) (k0 k1 k2 k3 k5 : Option Value),
    K.lookup C = some (excClassObj nm q C N bs bmE true sn sub ab col dd k0 k1 k2 k3 k5 "Exception.__new__") ∧ PySem.W.nsOkIn K N = true ∧ PySem.W.nsIn K N "__init__" = some (some (.ref fI)) ∧ PySem.W.nsIn K N "__setattr__" = some none ∧
      PySem.W.nsIn K N "__getattribute__" = some none ∧ PySem.W.nsIn K N "__getattr__" = some none ∧ PySem.W.nsIn K N "place" = some none ∧ PySem.W.nsIn K N "kind" = some none
  fn : PySem.W.isFn K (.ref fI) = true
  kp : PySem.W.keepIn K (.ref C) = true
  em : PySem.W.exmOne K (.ref C) (.ref C) = some true
theorem XCls.at_ {K : PySem.W.Frag} {C fI : Addr} {h : Heap} (x : XCls K C fI) (X : K.In h) :
    ∃ (nm q : Str) (N : Addr) (bs : List Value) (sn : List Str) (sub : List Value) (ab : Bool) (col : Option Bool) (dd : Option Addr) (k0 k1 k2 k3 k5 : Option Value) (m : Str → Option Value),
      h.get? C = some (excClassObj nm q C N bs bmE true sn sub ab col dd k0 k1 k2 k3 k5 "Exception.__new__") ∧ h.Ns N m ∧ m "__init__" = some (.ref fI) ∧ m "__setattr__" = none ∧ m "__getattribute__" = none ∧ m "__getattr__" = none ∧ m "place" = none ∧ m "kind" = none := by
  obtain ⟨nm, q, N, bs, sn, sub, ab, col, dd, k0, k1, k2, k3, k5, e0, e1, e2, e3, e4, e5, e6, e7⟩ := x.ob
  have G : h.Ns N (h.nsMap N) := .of_isNs (PySem.W.isNs_of_in X e1)
  exact ⟨nm, q, N, bs, sn, sub, ab, col, dd, k0, k1, k2, k3, k5, _, X _ _ e0, G, ns_some_of X G e2, PySem.W.ns_none_of X G e3, PySem.W.ns_none_of X G e4, PySem.W.ns_none_of X G e5, PySem.W.ns_none_of X G e6, PySem.W.ns_none_of X G e7⟩
theorem XCls.fnAt {K : PySem.W.Frag} {C fI : Addr} {h : Heap} (x : XCls K C fI) (X : K.In h) : ∃ o, h.get? fI = some o ∧ o.cls = .type "function" := by
  have e : PySem.W.typeIn K (.ref fI) = some (.type "function") := beq_iff_eq.mp x.fn
  obtain ⟨o, h1, h2⟩ := Option.map_eq_some_iff.mp (show (K.lookup fI).map (·.cls) = some (.type "function") from e)
  exact ⟨o, X _ _ h1, h2⟩
theorem no_place : typeLookup (.type "Exception") "place" = pure none := by rw [typeLookup_type, builtinLookup_eq_fast]; kernel_rfl
theorem no_kind : typeLookup (.type "Exception") "kind" = pure none := by rw [typeLookup_type, builtinLookup_eq_fast]; kernel_rfl
def XO (C a : Addr) (d : Option Addr) : HO := .ext fun h => ∃ vs sl, h.get? a = some ⟨.ref C, d, .fields vs, sl⟩ ∧ vs.size = 6 ∧ vs[1]? = some .none
theorem xo_ok {P : Program} {w : World} {H : Hp} {h : Heap} {C a : Addr} {d : Option Addr} {vs : Array Value} {sl : Array (Option Value)} (e : h.get? a = some ⟨.ref C, d, .fields vs, sl⟩) (z : vs.size = 6) (n : vs[1]? = some .none) : ObjOk P w H h a (XO C a d) :=
  ⟨⟨vs, sl, e, z, n⟩, ⟨_, e⟩, fun h1 h2 ⟨vs, sl, e, z, n⟩ k => ⟨vs, sl, k _ e, z, n⟩⟩
theorem xo_get {P : Program} {w : World} {H : Hp} {h : Heap} {C a : Addr} {d : Option Addr} (ok : HOk P w H h) (e : H a = some (XO C a d)) : ∃ vs sl, h.get? a = some ⟨.ref C, d, .fields vs, sl⟩ ∧ vs.size = 6 ∧ vs[1]? = some .none :=
  (show ObjOk P w H h a (XO C a d) from ok a _ e).1
theorem upd_id {H : Hp} {a : Addr} {o : HO} (e : H a = some o) : upd H a o = H := by
  funext b
  unfold upd
  split
  · rename_i q; rw [q, e]
  · rfl
def xf (pl kd : Int) : List (Str × V) := putF "kind" (.int kd) (putF "place" (.int pl) [])
def off (H : Hp) (a : Addr) : Hp := fun b => if b = a then none else H b
theorem off_ne {H : Hp} {a b : Addr} (h : b ≠ a) : off H a b = H b := if_neg h
theorem off_same {H : Hp} {a : Addr} : off H a a = none := if_pos rfl
section
variable {X : Cx} {pins : List (Addr × Obj)} {σ : St} {H : Hp} {s : Shared} {C a dx : Addr}
theorem Inv.forget {d : Option Addr} (I : Inv X pins σ H s) (e : H a = some (XO C a d)) : Inv X pins σ (off H a) s := by
  have ne : ∀ b u, H b = some u → (∀ φ, u ≠ .ext φ) → b ≠ a := fun b u q n z => by rw [z, e] at q; exact n _ (Option.some.inj q).symm
  have nn : ∀ b, H b = none → off H a b = none := fun b q => by unfold off; split <;> first | rfl | exact q
  refine ⟨I.ok, I.os, I.bare, ⟨I.base.keep, I.base.slot, fun b o q n hx => nn b (I.base.free b o q n hx), I.base.there, fun b xs q => ?_, fun b o u q => ?_, fun b ps q => ?_⟩, I.loc, I.cell, nn _ I.free, fun x c q => nn _ (I.freeC x c q),
    fun p hp => ⟨(I.pin p hp).1, nn _ (I.pin p hp).2.1, (I.pin p hp).2.2⟩, fun b o q => ?_, I.len⟩
  · have z := I.base.tups b xs q
    rw [off_ne (ne b _ z fun φ r => nomatch r)]; exact z
  · have z := I.base.frzs b o u q
    rw [off_ne (ne b _ z fun φ r => nomatch r)]; exact z
  · obtain ⟨more, z⟩ := I.base.tbls b ps q
    exact ⟨more, by rw [off_ne (ne b _ z fun φ r => nomatch r)]; exact z⟩
  · have hb : b ≠ a := fun z => by rw [z, off_same] at q; cases q
    rw [off_ne hb] at q
    exact (I.hok b o q).stay (fun _ _ _ r => r) (fun c r => by rw [off_ne (ne c _ r fun φ z => nomatch z)]; exact r) fun c xs r => by rw [off_ne (ne c _ r fun φ z => nomatch z)]; exact r
end
def spInit (C : Addr) : Sp := fun vs H Q _ => ∃ (a : Addr) (pl kd : Int), vs = [.ref a, .int pl, .int kd] ∧ H a = some (XO C a none) ∧ ∀ dx, H dx = none → Q .non (upd (upd H dx (.xd (xf pl kd))) a (XO C a (some dx)))
def tRaise (C : Addr) (E : XK) (t : TA) : TS := fun _ σ H => t σ H fun vs H1 => ∃ pl kd : Int, vs = [.int pl, .int kd] ∧ ∀ dx, H1 dx = none → E (.ref C) (some dx) (upd H1 dx (.xd (xf pl kd)))
section
variable {X : Cx} {k : Nat} {fI C : Addr} {fd : FuncData} {ps : List Str} {E : XK} {x : Str} {p cpos pos : Pos} {e : Expr} {es : List Expr} {t : TA}
theorem run_xmake {CX : CXT} {pins : List (Addr × Obj)} {σ : St} {H : Hp} {s : Shared} {us : List Value} {pl kd : Int} {Q : Value → Shared → Prop} {E' : Value → Shared → Prop} (XC : XCls X.K C fI) (F : FnOk X.prog X.w X.K X.mg X.base CX k fI fd ps (spInit C)) (hr : Room (k + 1) X.A) (hb : Binds X.K fd ps [])
    (hcx : ∀ H s e s', CX X.stack H s E0 e s' → False) (I : Inv X pins σ H s) (r : Vals [.int pl, .int kd] us)
    (h : ∀ (a dx : Addr) (s' : Shared), Inv X pins σ (upd H dx (.xd (xf pl kd))) s' → Fly X pins C a dx none (upd H dx (.xd (xf pl kd))) s'.heap → H dx = none → Q (.ref a) s') :
    wpAny (model X.prog X.w) X.A (call (.ref C) us) Q E' s := by
  obtain ⟨hp, g, d, tk, os⟩ := s
  obtain ⟨nm, q, N, bs, sn, sub, ab, col, dd, k0, k1, k2, k3, k5, m, hC, hn, hi, _⟩ := XC.at_ I.kIn
  obtain ⟨oI, hfI, hfc⟩ := XC.fnAt I.kIn
  refine xmake PySem.F.excBase_Exception hC hn hi hfI hfc ?_ (by rw [← r.length]; show 2 ≤ sizeLine; decide)
  have e0 : ((hp.push { cls := .type "tuple", data := .seq us.toArray }).push { cls := .ref C, data := .fields #[.ref hp.objs.size, .none, .none, .none, .bool false, .none] }).get? (hp.objs.size + 1) = some { cls := .ref C, data := .fields #[.ref hp.objs.size, .none, .none, .none, .bool false, .none] } := by
    have z := Heap.get?_push_size (hp.push { cls := .type "tuple", data := .seq us.toArray }) (o := { cls := .ref C, data := .fields #[.ref hp.objs.size, .none, .none, .none, .bool false, .none] }) rfl
    rwa [Heap.size_push] at z
  have I1 : Inv X pins σ H ⟨hp.push { cls := .type "tuple", data := .seq us.toArray }, g, d, tk, os⟩ := I.kept (t' := tk) fun b u z => Heap.get?_push_of_some _ z
  have I2 : Inv X pins σ (upd H (hp.objs.size + 1) (XO C (hp.objs.size + 1) none)) ⟨(hp.push { cls := .type "tuple", data := .seq us.toArray }).push { cls := .ref C, data := .fields #[.ref hp.objs.size, .none, .none, .none, .bool false, .none] }, g, d, tk, os⟩ :=
    I1.laid (t' := tk) (fun b u z => Heap.get?_push_of_some _ z) (by rw [show (hp.push { cls := .type "tuple", data := .seq us.toArray }).objs.size = hp.objs.size + 1 from Heap.size_push ..]; exact Nat.le_refl _) (xo_ok e0 rfl rfl)
  have fresh : hp.objs.size ≤ hp.objs.size + 1 := Nat.le_succ _
  have nA : H (hp.objs.size + 1) = none := I.hok.fresh fresh
  generalize ha : hp.objs.size + 1 = a at I2 e0 nA fresh ⊢
  generalize hs2 : (⟨(hp.push { cls := .type "tuple", data := .seq us.toArray }).push { cls := .ref C, data := .fields #[.ref hp.objs.size, .none, .none, .none, .bool false, .none] }, g, d, tk, os⟩ : Shared) = s2 at I2 ⊢
  have sz : a < s2.heap.objs.size := I2.hok.lt upd_same
  have r2 : Vals [V.ref a, .int pl, .int kd] (Value.ref a :: us) := .cons rfl r
  have hsp : spInit C [V.ref a, .int pl, .int kd] (upd H a (XO C a none)) (fun v H' => v = .non ∧ ∃ dx, H dx = none ∧ dx ≠ a ∧ H' = upd (upd (upd H a (XO C a none)) dx (.xd (xf pl kd))) a (XO C a (some dx))) E0 :=
    ⟨a, pl, kd, rfl, upd_same, fun dx hdx => by
      have ne : dx ≠ a := fun z => by rw [z, upd_same] at hdx; cases hdx
      rw [upd_ne ne] at hdx
      exact ⟨rfl, dx, hdx, ne, rfl⟩⟩
  have hl : (Value.ref a :: us).length = ps.length := by rw [← r2.length]; exact F.len _ _ _ _ hsp
  have hb' := hb s2 (Value.ref a :: us) I2.kIn (by rw [List.append_nil]; exact hl)
  rw [List.append_nil] at hb'
  refine wpAny_call (codeAny_mono (F.run _ X.stack s2 _ ⟨Value.ref a :: us, []⟩ (Value.ref a :: us) _ _ E0 (hr.make C us []) (I2.env0.make C us []) hb' r2 hsp) fun res s' hq => ?_)
  cases res with
  | error er => exact (hcx _ _ _ _ hq).elim
  | ok fl =>
    cases fl with
    | ret u =>
      obtain ⟨v, H', I3, rv, ev, dx, hdx, ne, rfl⟩ := I2.after hq
      subst ev
      have rv : u = .none := rv
      refine ⟨rv, ?_⟩
      have eo : off (upd (upd (upd H a (XO C a none)) dx (.xd (xf pl kd))) a (XO C a (some dx))) a = upd H dx (.xd (xf pl kd)) := by
        funext b
        by_cases hba : b = a
        · subst hba; rw [off_same, upd_ne (Ne.symm ne)]; exact nA.symm
        · rw [off_ne hba, upd_ne hba]
          by_cases hbd : b = dx
          · subst hbd; rw [upd_same, upd_same]
          · rw [upd_ne hbd, upd_ne hba, upd_ne hbd]
      obtain ⟨vs, sl, e1, z1, n1⟩ := xo_get I3.hok upd_same
      have I4 := I3.forget (C := C) (d := some dx) upd_same
      rw [eo] at I4
      have tr : upd (upd (upd H a (XO C a none)) dx (.xd (xf pl kd))) a (XO C a (some dx)) a = some (XO C a (some dx)) := upd_same
      refine h a dx s' I4 ⟨⟨vs, sl, e1, z1, n1⟩, ⟨⟨by rw [upd_ne (Ne.symm ne)]; exact nA, fun z => ?_, fun z => ?_, .inr (Nat.le_trans I.sz fresh), fun y c z w => ?_, fun pn hpn z => ?_⟩, Nat.le_trans I.sz fresh⟩, fun T z => nomatch z⟩ hdx
      · have q := I3.free; rw [← z] at q; rw [q] at tr; cases tr
      · obtain ⟨_, o, ho, _⟩ := I.ok.funs.mem z
        have lt := Heap.lt_size ho
        exact absurd (Nat.lt_of_lt_of_le lt (Nat.le_trans I.sz fresh)) (Nat.lt_irrefl _)
      · have q := I3.freeC y c z; rw [w] at q; rw [q] at tr; cases tr
      · have q := (I3.pin pn hpn).2.1; rw [z] at q; rw [q] at tr; cases tr
    | next => exact False.elim hq
    | brk => exact False.elim hq
    | cont => exact False.elim hq
end
end L2

set_option Elab.async false
set_option linter.all false
set_option maxRecDepth 100000
namespace PySem
open Sem (wp)
section
variable {M : Model} {A : Around} {s : Shared} {E : Value → Shared → Prop} {env : Env}
variable {nm q : Str} {C N : Addr} {bs bm : List Value} {hdct : Bool} {sn : List Str} {sub : List Value} {ab : Bool} {col : Option Bool} {dd : Option Addr} {k0 k1 k2 k3 k5 : Option Value} {newId : String}
theorem xraise {x : Sem Value} {Q : Flow → Shared → Prop} (hbase : bm.contains (.type "BaseException") = true) (hh : A.handled = none)
    (h : wpAny M A x (fun v s1 => ∃ e dx, v = .ref e ∧ s1.heap.get? C = some (excClassObj nm q C N bs bm hdct sn sub ab col dd k0 k1 k2 k3 k5 newId) ∧ XRec s1.heap C e dx none ∧ E (.ref e) s1) E s) :
    wpAny M A (raiseStmt env (some x) none) Q E s := by
  have isB : (Value.ref C :: bm).contains (.type "BaseException") = true := by rw [List.contains_cons, hbase, Bool.or_true]
  unfold raiseStmt
  refine wpAny_bind (wpAny_mono h (fun v s1 z => ?_) fun _ _ x => x)
  obtain ⟨e, dx, rfl, hC, rc, hE⟩ := z
  obtain ⟨hp, g, d, tk, os⟩ := s1
  obtain ⟨vs, sl, he, hz, h1⟩ := id rc
  repeat (first | with_reducible refine wpAny_loadPart_at he ?_ | with_reducible refine wpAny_loadPart_at hC ?_ | (with_reducible refine wpAny_isSubtype_exc hC ?_; rw [isB]) | with_reducible refine flight_none rc ?_ | wp_step)
  exact wpAny_raiseNew_none hh hE
end
end PySem
namespace L2
open PySem PySem.Spec PyProof.Rows
section
variable {X : Cx} {k : Nat} {fI C : Addr} {fd : FuncData} {ps : List Str} {E : XK} {x : Str} {p cpos pos : Pos} {e : Expr} {es : List Expr} {t : TA}
theorem ps_raise {CX : CXT} (XC : XCls X.K C fI) (F : FnOk X.prog X.w X.K X.mg X.base CX k fI fd ps (spInit C)) (hr : Room (k + 1) X.A) (hb : Binds X.K fd ps []) (hcx : ∀ H s e s', CX X.stack H s E0 e s' → False) (hc : X.calm = true) (hg : Gl X x) (hm : X.mg x = some (.ref C))
    (hxo : XOk C X E) (ha : PA X (e :: es) t) (hdb : (x == ("__debug__" : Str)) = false := by decide) (he : starEach (e :: es) X.env = (false, eval e X.env) :: starEach es X.env := by rfl) (hpl : (backTo cpos (starEach es X.env)).any (·.1) = false := by rfl) :
    PS X (.Raise (some (.Call (.Name x p) (e :: es) [] cpos)) none pos) (tRaise C E t) := by
  intro pins s σ H D I h
  obtain ⟨nm, q, N, bs, sn, sub, ab, col, dd, k0, k1, k2, k3, k5, _⟩ := XC.at_ I.kIn
  rw [arm_exec_Raise]
  refine wpAny_bind (wpAny_standAt ?_)
  have body : wpAny (model X.prog X.w) X.A (eval (.Call (.Name x p) (e :: es) [] cpos) X.env) (fun v s1 => ∃ a dx, v = .ref a ∧ X.K.In s1.heap ∧ XRec s1.heap C a dx none ∧ X.xe (.ref a) s1) X.xe s := by
    refine wpAny_Call_Name_kw (ld_glob I hg hm ?_ hdb)
    refine PySem.W.callWith_K (h₀ := X.base) I.ok.mod.kin XC.kp (thn (ha cpos pins s σ H _ I h) fun us s1 ⟨vs, H1, I1, r, pl, kd, ev, q1⟩ => ⟨I1.kIn, ?_⟩) he hpl
    subst ev
    exact run_xmake XC F hr hb hcx I1 r fun a dx s2 I2 f2 hdx => ⟨a, dx, rfl, I2.kIn, f2.rc, hxo pins σ _ s2 a dx none I2 f2 (q1 dx hdx)⟩
  obtain ⟨nm, q, N, bs, sn, sub, ab, col, dd, k0, k1, k2, k3, k5, e0, _⟩ := XC.ob
  show wpAny _ _ (raiseStmt X.env (some (do let v ← eval (.Call (.Name x p) (e :: es) [] cpos) X.env; standAt pos; pure v)) none) _ _ s
  refine xraise (C := C) (bm := bmE) (nm := nm) (q := q) (N := N) (bs := bs) (hdct := true) (sn := sn) (sub := sub) (ab := ab) (col := col) (dd := dd) (k0 := k0) (k1 := k1) (k2 := k2) (k3 := k3) (k5 := k5) (newId := "Exception.__new__") rfl (I.ok.hd hc) ?_
  exact wpAny_bind (wpAny_mono body (fun v s1 ⟨a, dx, e1, e2, e3, e4⟩ => wpAny_bind (wpAny_standAt (wpAny_pure ⟨a, dx, e1, e2 _ _ e0, e3, e4⟩))) fun _ _ z => z)
end
def tXInit (C : Addr) (ta : TE) : TE := fun σ H Q => ta σ H fun x H1 => ∃ a d, x = .ref a ∧ H1 a = some (XO C a d) ∧ Q .non H1
def sXNew (C : Addr) (ta tv : TE) (f : Str) : TS := fun D σ H => tv σ H fun y H1 => ta σ H1 fun x H2 => ∃ a, x = .ref a ∧ H2 a = some (XO C a none) ∧ ∀ dx, H2 dx = none → D.nx σ (upd (upd H2 dx (.xd (putF f y []))) a (XO C a (some dx)))
def sXOld (C : Addr) (ta tv : TE) (f : Str) : TS := fun D σ H => tv σ H fun y H1 => ta σ H1 fun x H2 => ∃ a dx fs, x = .ref a ∧ H2 a = some (XO C a (some dx)) ∧ H2 dx = some (.xd fs) ∧ fs.length < 1000 ∧ D.nx σ (upd H2 dx (.xd (putF f y fs)))
section
variable {X : Cx} {C fI : Addr} {o value : Expr} {f : Str} {p1 p2 p3 pos pos' : Pos} {ta tv : TE}
theorem exc_meta : typeOf (.type "Exception") = pure (.type "type") := by kernel_rfl
theorem exc_find {K : PySem.W.Frag} : PySem.W.findCls K (.type "Exception") (.type "type") "__init__" = some (.val (.builtin "Exception.__init__")) := by kernel_rfl
theorem pe_xinit {pl : Sem Bool} (XC : XCls X.K C fI) (hg : Gl X "Exception") (hm : X.mg "Exception" = none) (ha : PE X o ta)
    (he : starEach [o] X.env = [(false, eval o X.env)] := by rfl)
    (ht : eval (.Call (.Attribute (.Name "Exception" p1) "__init__" p2) [o] [] p3) X.env = (do
      let ov ← eval (.Name "Exception" p1) X.env
      standAt p2.atName
      let (f, first) ← holding [ov] (getMethod ov "__init__" pl)
      callWith p3 f first (backTo p3 (starEach [o] X.env)) (backToKw p3 (keywordEach [] X.env))) := by rfl) : PE X (.Call (.Attribute (.Name "Exception" p1) "__init__" p2) [o] [] p3) (tXInit C ta) := by
  intro pins s σ H Q I h
  refine PySem.W.methodCall_KW (pl := pl) (ld_blt I hg hm (u := .type "Exception") (by kernel_rfl) ?_) ht
  obtain ⟨m, Fm⟩ := I.fr
  refine PySem.W.method_type Fm I.mod.kin exc_meta (by decide +kernel) (v := .builtin "Exception.__init__") exc_find (by rfl) ?_
  have I' := I.tok (s.toks + 1)
  refine PyProof.Rows.callWith_builtin1 ?_ he rfl
  have pa : PA X [o] (tCons ta tNil) := pa_cons ha pa_nil he
  have h' : tCons ta tNil σ H (fun vs H1 => match vs with | [x] => ∃ a d, x = V.ref a ∧ H1 a = some (XO C a d) ∧ Q .non H1 | _ => False) := h
  refine thn (pa p3 pins _ σ H _ I' h') fun us s1 ⟨vs, H1, I1, r, q1⟩ => ?_
  match vs, r, q1 with
  | [x], r, q1 =>
    obtain ⟨a, d, rfl, hx, q⟩ := q1
    obtain ⟨u, rfl, ru⟩ := vals1 r
    obtain rfl : u = Value.ref a := ru
    obtain ⟨vs, sl, e1, z1, n1⟩ := xo_get I1.hok hx
    obtain ⟨nm, qn, N, bs, sn, sub, ab, col, dd, k0, k1, k2, k3, k5, m, hC, _⟩ := XC.at_ I1.kIn
    obtain ⟨hp, g, dr, tk, os⟩ := s1
    have hz : 0 < vs.size := by omega
    refine xinit PySem.F.excBase_Exception hC e1 rfl rfl hz (v0 := vs[0]) (by simp [hz]) ?_
    have I2 : Inv X pins σ H1 ⟨hp.push { cls := .type "tuple", data := .seq #[] }, g, dr, tk, os⟩ := I1.kept (t' := tk) fun b u z => Heap.get?_push_of_some _ z
    have e2 : (hp.push { cls := .type "tuple", data := .seq #[] }).get? a = some ⟨.ref C, d, .fields vs, sl⟩ := Heap.get?_push_of_some _ e1
    have e3 : ((hp.push { cls := .type "tuple", data := .seq #[] }).update a (Obj.mapFields (·.setIfInBounds 0 (.ref hp.objs.size)))).get? a = some ⟨.ref C, d, .fields (vs.setIfInBounds 0 (.ref hp.objs.size)), sl⟩ := Heap.get?_update_self _ e2 rfl
    have I3 := I2.write (x := a) (e := a) (o := XO C a d) (t' := tk) (h' := (hp.push { cls := .type "tuple", data := .seq #[] }).update a (Obj.mapFields (·.setIfInBounds 0 (.ref hp.objs.size)))) (by rw [hx]; trivial) (.inl rfl)
      (fun b u hb z => (Heap.get?_update_other _ _ (Ne.symm hb)).trans z) ⟨_, e3⟩ (xo_ok e3 (by simp [z1]) (by simp [n1]))
    rw [upd_id hx] at I3
    exact ⟨.non, H1, I3, rfl, q⟩
theorem xd_new {P : Program} {w : World} {H : Hp} {h : Heap} {dx : Addr} {y : V} {u : Value} (n : h.Ns1 dx (fun g => if g = f then some u else none)) (r : RelV y u) : ObjOk P w H h dx (.xd (putF f y [])) := by
  refine ⟨_, n, fun g => ?_, fun g hg => ?_⟩
  · rw [lookup_putF]
    by_cases z : g = f
    · rw [if_pos z, if_pos z]; exact r
    · rw [if_neg z, if_neg z]; trivial
  · by_cases z : g = f
    · rw [z]; exact (keys_putF f y []).1
    · exact absurd (if_neg z) hg
theorem ps_xnew (XC : XCls X.K C fI) (hB : typeLookup (.type "Exception") f = pure none) (hf : f = "place" ∨ f = "kind") (ha : PE X o ta) (hv : PE X value tv) (hs : swapsWith value (some (.Attribute o f pos')) pos.line X.env = pure false) :
    PS X (.Assign [.Attribute o f pos'] value pos) (sXNew C ta tv f) := by
  intro pins s σ H D I h
  refine plainObj_wpAny_Assign_Attribute (thn (hv pins s σ H _ I h) fun u s1 ⟨y, H1, I1, ry, q⟩ => thn (ha pins s1 σ H1 _ I1 q) fun ov s2 ⟨x, H2, I2, rx, a, ex, ea, q2⟩ => ?_) hs
  subst ex
  obtain rfl : ov = Value.ref a := rx
  obtain ⟨vs, sl, e1, z1, n1⟩ := xo_get I2.hok ea
  obtain ⟨nm, qn, N, bs, sn, sub, ab, col, dd, k0, k1, k2, k3, k5, m, hC, hn, _, hsa, _, _, hpl, hkd⟩ := XC.at_ I2.kIn
  have hna : m f = none := by rcases hf with z | z <;> rw [z] <;> assumption
  obtain ⟨hp, g, dr, tk, os⟩ := s2
  have nd : H2 hp.objs.size = none := I2.hok.fresh (Nat.le_refl _)
  have ne : hp.objs.size ≠ a := fun z => by rw [z, ea] at nd; cases nd
  refine xstore_new PySem.F.store_Exception hC hn hsa hna hB e1 rfl rfl rfl fun h' tk' x1 x2 x3 => ?_
  have apart : ∀ b w, H2 b = some w → (∀ φ, w ≠ .ext φ) → b ≠ a ∧ b ≠ hp.objs.size := fun b w e n => ⟨fun z => (by rw [z, ea] at e; exact n _ (Option.some.inj e).symm), fun z => (by rw [z, nd] at e; cases e)⟩
  have up : ∀ b w, H2 b = some w → (∀ φ, w ≠ .ext φ) → upd (upd H2 hp.objs.size (.xd (putF f y []))) a (XO C a (some hp.objs.size)) b = some w := fun b w e n => by
    rw [upd_ne (apart b w e n).1, upd_ne (apart b w e n).2]; exact e
  have fr : ∀ b ob, hp.get? b = some ob → H2 b = none → b ≠ a ∧ b ≠ hp.objs.size := fun b ob e n => ⟨fun z => (by rw [z, ea] at n; cases n), Nat.ne_of_lt (Heap.lt_size e)⟩
  have u : Un X.fs [] H2 (upd (upd H2 hp.objs.size (.xd (putF f y []))) a (XO C a (some hp.objs.size))) hp h' := by
    refine ⟨fun b ob e n _ _ => x3 b ob (fr b ob e n).1 e, fun b ob e n _ _ => ⟨ob.slots, x3 b ob (fr b ob e n).1 e⟩, fun b ob e n _ => ?_, fun b ob e _ => ?_, fun b xs e => up b _ e (fun φ z => (nomatch z)), fun b ob v e => up b _ e (fun φ z => (nomatch z)),
      fun b ps e => ⟨#[], by rw [up b _ e (fun φ z => (nomatch z))]; simp⟩⟩
    · rw [upd_ne (fr b ob e n).1, upd_ne (fr b ob e n).2]; exact n
    · by_cases hb : b = a
      · rw [hb]; exact ⟨_, x1⟩
      · exact ⟨ob, x3 b ob hb e⟩
  have ok : HOk X.prog X.w (upd (upd H2 hp.objs.size (.xd (putF f y []))) a (XO C a (some hp.objs.size))) h' := fun b v e => by
    by_cases h1 : b = a
    · subst h1
      rw [upd_same] at e
      cases e
      exact xo_ok x1 z1 n1
    · rw [upd_ne h1] at e
      by_cases h2 : b = hp.objs.size
      · subst h2
        rw [upd_same] at e
        cases e
        exact xd_new x2 ry
      · rw [upd_ne h2] at e
        refine (I2.hok b v e).stay (fun c w hc q => x3 c w ?_ q) (fun c q => up c _ q fun φ z => nomatch z) fun c xs q => up c _ q fun φ z => nomatch z
        rcases hc with rfl | hc
        · exact h1
        · exact (apart c _ hc fun φ z => nomatch z).1
  exact ⟨σ, _, I2.un (t' := tk') u ok, q2 _ nd⟩
theorem ps_xold (XC : XCls X.K C fI) (hB : typeLookup (.type "Exception") f = pure none) (hf : f = "place" ∨ f = "kind") (ha : PE X o ta) (hv : PE X value tv) (hs : swapsWith value (some (.Attribute o f pos')) pos.line X.env = pure false) :
    PS X (.Assign [.Attribute o f pos'] value pos) (sXOld C ta tv f) := by
  intro pins s σ H D I h
  refine plainObj_wpAny_Assign_Attribute (thn (hv pins s σ H _ I h) fun u s1 ⟨y, H1, I1, ry, q⟩ => thn (ha pins s1 σ H1 _ I1 q) fun ov s2 ⟨x, H2, I2, rx, a, dx, fs, ex, ea, ed, lf, q2⟩ => ?_) hs
  subst ex
  obtain rfl : ov = Value.ref a := rx
  obtain ⟨vs, sl, e1, z1, n1⟩ := xo_get I2.hok ea
  obtain ⟨mA, nA, rA, wA⟩ := (show ObjOk X.prog X.w H2 s2.heap dx (.xd fs) from I2.hok dx _ ed)
  obtain ⟨nm, qn, N, bs, sn, sub, ab, col, dd, k0, k1, k2, k3, k5, m, hC, hn, _, hsa, _, _, hpl, hkd⟩ := XC.at_ I2.kIn
  have hna : m f = none := by rcases hf with z | z <;> rw [z] <;> assumption
  obtain ⟨hp, g, dr, tk, os⟩ := s2
  refine xstore_old PySem.F.store_Exception hC hn hsa hna hB e1 rfl rfl rfl nA wA (by rw [List.length_map]; omega) fun h' tk' n' sb => ?_
  refine ⟨σ, _, I2.write (x := dx) (e := dx) (o := .xd (putF f y fs)) (t' := tk') (by rw [ed]; trivial) (.inl rfl) (fun b v hb z => (sb.2 b hb).trans z) (let ⟨ob, _, _, z, _⟩ := n'; ⟨ob, z⟩) ⟨_, n', fun g => ?_, fun g hg => ?_⟩, q2⟩
  · rw [lookup_putF]
    by_cases z : g = f
    · rw [if_pos z, if_pos z]; exact ry
    · rw [if_neg z, if_neg z]; exact rA g
  · by_cases z : g = f
    · rw [z]; exact (keys_putF f y fs).1
    · refine (keys_putF f y fs).2 g (wA g fun r => hg ?_)
      show (if g = f then some u else mA g) = none
      rw [if_neg z]; exact r
end
end L2

set_option Elab.async false
set_option linter.all false
set_option maxRecDepth 100000
namespace L2
open PySem PySem.Spec PyProof.Rows
abbrev Lists := List (Addr × List Value × List Int)
def given (K : PySem.W.Frag) (ls : Lists) : Hp := fun b => if (K.lookup b).isSome = true then none else (ls.find? fun p => p.1 == b).map fun p => .frz { cls := .type "list", data := .seq p.2.1.toArray } (.lst (p.2.2.map V.int))
theorem given_some {K : PySem.W.Frag} {ls : Lists} {b : Addr} {u : HO} (h : given K ls b = some u) : K.lookup b = none ∧ ∃ p ∈ ls, p.1 = b ∧ u = .frz { cls := .type "list", data := .seq p.2.1.toArray } (.lst (p.2.2.map V.int)) := by
  unfold given at h
  split at h
  · cases h
  · rename_i hk
    obtain ⟨p, hp, e⟩ := Option.map_eq_some_iff.mp h
    refine ⟨by cases q : K.lookup b with | none => rfl | some o => rw [q] at hk; exact absurd rfl hk, p, List.mem_of_find?_eq_some hp, ?_, e.symm⟩
    have z := List.find?_some hp
    exact beq_iff_eq.mp z
theorem ints_inj : ∀ {vs : List Value} {ns ms : List Int}, IntsAre vs ns → IntsAre vs ms → ns = ms
  | _, _, _, .nil, h => by cases h; rfl
  | _, _, _, .cons n t h, h' => by
    cases h' with
    | cons m u h2 => rw [ints_inj h h2]
structure LiesAll (h : Heap) (ls : Lists) : Prop where
  at_ : ∀ p ∈ ls, h.get? p.1 = some { cls := .type "list", data := .seq p.2.1.toArray }
  isI : ∀ p ∈ ls, IntsAre p.2.1 p.2.2
  len : ∀ p ∈ ls, p.2.2.length ≤ sizeLine
theorem given_ok {P : Program} {w : World} {K : PySem.W.Frag} {ls : Lists} {h : Heap} (L : LiesAll h ls) : HOk P w (given K ls) h := fun b u e => by
  obtain ⟨_, p, hp, rfl, rfl⟩ := given_some e
  exact ⟨L.at_ p hp, by rw [List.length_map]; exact L.len p hp, p.2.1, _, vals_ints (L.isI p hp), L.at_ p hp⟩
theorem given_list {K : PySem.W.Frag} {ls : Lists} {h : Heap} (KX : K.In h) (L : LiesAll h ls) {p : Addr × List Value × List Int} (hp : p ∈ ls) : SqL K (given K ls) p.1 (p.2.2.map V.int) := by
  have lenV := (L.isI p hp).length
  cases hk : K.lookup p.1 with
  | some o =>
    have e := KX _ o hk
    rw [L.at_ p hp] at e
    cases e
    exact .inr ⟨_, p.2.1.toArray, _, hk, rfl, rfl, rfl, by rw [List.size_toArray, lenV]; exact L.len p hp, by simpa using vals_ints (L.isI p hp)⟩
  | none =>
    obtain ⟨q, hq⟩ : ∃ q, ls.find? (fun (r : Addr × List Value × List Int) => r.1 == p.1) = some q := by
      cases e : ls.find? (fun (r : Addr × List Value × List Int) => r.1 == p.1) with
      | some q => exact ⟨q, rfl⟩
      | none => exact absurd (List.find?_eq_none.mp e p hp) (by simp)
    have q1 : q.1 = p.1 := beq_iff_eq.mp (List.find?_some (p := fun (r : Addr × List Value × List Int) => r.1 == p.1) hq)
    have qm := List.mem_of_find?_eq_some hq
    have e1 := L.at_ q qm
    rw [q1, L.at_ p hp] at e1
    have e2 : p.2.1 = q.2.1 := by
      have z := Option.some.inj e1
      injection z with _ _ z _
      injection z with z _
      exact congrArg Array.toList z
    have e3 : p.2.2 = q.2.2 := ints_inj (L.isI p hp) (by rw [e2]; exact L.isI q qm)
    refine .inl (.inr ⟨{ cls := .type "list", data := .seq q.2.1.toArray }, ?_⟩)
    show (if (K.lookup p.1).isSome = true then none else (ls.find? fun r => r.1 == p.1).map fun r => HO.frz { cls := .type "list", data := .seq r.2.1.toArray } (.lst (r.2.2.map V.int))) = _
    rw [hk, if_neg (by simp), hq, e3]
    rfl
theorem reads_ints {R : PySem.W.WRecords} {cl : Str → Option Addr} {h : Heap} : ∀ {ns : List Int} {vs : List Value}, Vals (ns.map V.int) vs → PySem.W.ReadsAllW R cl h vs (ns.map .int) []
  | [], _, r => by cases r; exact .nil
  | n :: ns, _, r => by
    cases r with
    | cons r1 r2 =>
      obtain ⟨t, rfl⟩ := (show ∃ t, _ = Value.int n t from r1)
      exact .cons (as := []) (bs := []) (.int n t) (reads_ints r2)
theorem spec_call {P : Program} {w : World} {K : PySem.W.Frag} {mg mb : Str → Option Value} {CX : CXT} {k : Nat} {fa : Addr} {fd : FuncData} {ps : List Str} {sp : Sp} {s₁ : Shared} {vals : List Value} {xs : List V} {ls : Lists} {ans : List Int} {cl : Str → Option Addr}
    (KX : K.In s₁.heap) (hns : s₁.heap.Ns mainGlobals mg) (hb : s₁.heap.Ns builtinsNs mb) (hbb : ∀ x : Str, x ≠ "__name__" → mb x = bootBuiltins x) (hlim : s₁.heap.NoLimit) (hg : s₁.gens = #[])
    (rv : Vals xs vals) (L : LiesAll s₁.heap ls) (hr : Room k callerA)
    (F : ∀ base : Heap, K.In base → base.Ns mainGlobals mg → FnOk P w K mg base CX k fa fd ps sp) (hbind : Binds K fd ps []) (hlen : vals.length = ps.length)
    (hsp : ∀ H : Hp, (∀ p ∈ ls, SqL K H p.1 (p.2.2.map V.int)) → sp xs H (fun v H' => ∃ l, v = .ref l ∧ H' l = some (.lst (ans.map V.int))) fun _ _ _ => False)
    (hCX : ∀ H e s', CX [] H s₁ (fun _ _ _ => False) e s' → False) :
    codeAny (model P w) callerA (.call (.ref fa) ⟨vals, []⟩) (fun r s' => ∃ u as, r = .ok (.ret u) ∧ PySem.W.ReadsW [] cl s'.heap u (.list (ans.map .int)) as ∧ PySem.OldK s₁.heap s'.heap ∧ s'.os = s₁.os ∧ AllBare s'.gens) s₁ := by
  have hok : HOk P w (given K ls) s₁.heap := given_ok L
  have noD : ∀ {b : Addr} {o : Obj} {es : Array DictEntry} {ep : Nat}, s₁.heap.get? b = some o → o.data = .dict es ep → given K ls b = none := fun {b o es ep} e d => by
    cases q : given K ls b with
    | none => rfl
    | some u =>
      obtain ⟨_, p, hp, rfl, _⟩ := given_some q
      rw [L.at_ p hp] at e
      cases e
      have d' : Data.seq p.2.1.toArray _ = Data.dict es ep := d
      cases d'
  have nsK : ∀ {b : Addr} {m : Str → Option Value}, s₁.heap.Ns b m → (hidT s₁.heap (given K ls)).Ns b m := fun {b m} ⟨o, es, ep, e, d, r⟩ => ⟨o, es, ep, hidT_get e (noD e d), d, r⟩
  have hKb : K.In (hidT s₁.heap (given K ls)) := fun b o e => hidT_get (KX b o e) (by
    cases q : given K ls b with
    | none => rfl
    | some u => rw [(given_some q).1] at e; cases e)
  have hM : Mod K mg (hidT s₁.heap (given K ls)) := ⟨hKb, nsK hns, ⟨mb, nsK hb, hbb⟩, let ⟨mc, h1, h2⟩ := hlim; ⟨mc, nsK h1, h2⟩⟩
  have e0 : Env0 P w K mg (hidT s₁.heap (given K ls)) callerA [] s₁ (given K ls) := ⟨rfl, hM, fun b o e => of_hidT e, Nat.le_of_eq (hidT_size _ _), trivial, fun b hb => absurd (show b ∈ ([] : List Addr) from hb) (by simp), hok, .of_eq hg⟩
  have hb' := hbind s₁ vals KX (by rw [List.append_nil]; exact hlen)
  rw [List.append_nil] at hb'
  refine codeAny_mono ((F _ hKb (nsK hns)).run callerA [] s₁ (given K ls) ⟨vals, []⟩ vals xs _ _ hr e0 hb' rv (hsp _ fun p hp => given_list KX L hp)) fun r s' h => ?_
  cases r with
  | error e => exact (hCX _ e s' h).elim
  | ok fl =>
    cases fl with
    | next => exact False.elim h
    | brk => exact False.elim h
    | cont => exact False.elim h
    | ret u =>
      obtain ⟨v, H', os, bare, un, hok', r', l, rfl, hl⟩ := h
      obtain rfl : u = Value.ref l := r'
      obtain ⟨z, its, n, ri, eo⟩ := (show ObjOk P w H' s'.heap l (.lst (ans.map V.int)) from hok' l _ hl)
      refine ⟨_, _, rfl, .list eo rfl rfl (reads_ints (by simpa using ri)), PySem.OldK.of_keep fun b o e => ?_, os, bare⟩
      cases q : given K ls b with
      | none => exact un.keep b o e q (by intro z; exact absurd (show b ∈ ([] : List Addr) from z) (by simp)) (by simp)
      | some u =>
        obtain ⟨_, p, hp, rfl, rfl⟩ := given_some q
        obtain ⟨e2, _⟩ := (show ObjOk P w H' s'.heap _ (.frz { cls := .type "list", data := .seq p.2.1.toArray } (.lst (p.2.2.map V.int))) from hok' _ _ (un.frzs _ _ _ q))
        rw [L.at_ p hp] at e
        cases e
        exact e2
theorem spec_walk {r : PySem.W.OpenSpec} {k : Nat} {q : Program} {loose : List Str} {XP : (Str → Option Value) → Heap → Prop} {YP : World → Heap → Prop} {d : DefRec} {K : Params → PySem.W.Frag} {CX : World → PySem.W.Frag → CXT} {sp : PySem.W.Frag → Sp} {ps : List Str}
    (hr : Room k callerA) (hY : ∀ (w : World) (h : Heap), YP w h → (K w.params).In h)
    (F : ∀ (w : World) (mg : Str → Option Value) (fa : Addr) (h : Heap), (K w.params).In h → h.Ns mainGlobals mg → mg d.name = some (.ref fa) →
      ∃ fd : FuncData, Binds (K w.params) fd ps [] ∧ ∀ base : Heap, (K w.params).In base → base.Ns mainGlobals mg → FnOk r.prog w (K w.params) mg base (CX w (K w.params)) k fa fd ps (sp (K w.params)))
    (hargs : ∀ (K : PySem.W.Frag) (w : World) (h : Heap) (args : List PySem.W.WData) (vals : List Value), r.pre args = true → PySem.W.WellAll w.params h vals args →
      ∃ (xs : List V) (ls : Lists) (ans : List Int), Vals xs vals ∧ LiesAll h ls ∧ vals.length = ps.length ∧ r.post args (.list (ans.map .int)) = true ∧
        ∀ H : Hp, (∀ p ∈ ls, SqL K H p.1 (p.2.2.map V.int)) → sp K xs H (fun v H' => ∃ l, v = .ref l ∧ H' l = some (.lst (ans.map V.int))) fun _ _ _ => False)
    (hCX : ∀ (w : World) (K : PySem.W.Frag) (H : Hp) (s : Shared) (e : Value) (s' : Shared), CX w K [] H s (fun _ _ _ => False) e s' → False) :
    PySem.W.WalkOS q loose XP YP r d [] (fun f vs => PySem.call f vs) := by
  intro w s₀ s₁ mg mb G Y fa o pm cd doc dV kV ho hd hcd hD hmg hg args vals as hpre hlay hrd hwl hlo
  obtain ⟨xs, ls, ans, rv, L, hl, hpost, hsp⟩ := hargs (K w.params) w s₁.heap args vals hpre hwl
  have KX := hY w _ Y
  obtain ⟨fd, hb, hF⟩ := F w mg fa _ KX G.T.g hmg
  refine PySem.W.enter_call (codeAny_mono (spec_call (cl := PySem.classAt s₀.heap) KX G.T.g G.T.b G.T.builtins G.T.nolimit hg rv L hr hF hb hl hsp fun H e s' => hCX w _ H s₁ e s') fun res s' hq => ?_)
  obtain ⟨u, as', rfl, h1, h2, h3, h4⟩ := hq
  exact ⟨.inl ⟨u, _, as', rfl, fun _ => rfl, h1, hpost, fun z => absurd z Bool.false_ne_true⟩, h2, h3, h4⟩
end L2

set_option linter.all false
namespace GM
open Ql89
def Run {α : Type} (m : R α) (l : Bytes) (p : Nat) (ok : α → Nat → Prop) (bad : Nat → Nat → Prop) : Prop :=
  match m l p with
  | .error f => bad f.place f.kind
  | .ok x => ok x.1 x.2
section
variable {α β : Type} {l : Bytes} {p : Nat} {bad : Nat → Nat → Prop}
theorem run_bind (m : R α) (k : α → R β) {ok : β → Nat → Prop} : Run (m >>= k) l p ok bad ↔ Run m l p (fun x p' => Run (k x) l p' ok bad) bad := by
  show Run (fun l p => (ReaderT.bind m k l : StateT Nat (Except Fault) β) p) l p ok bad ↔ _
  simp only [Run, ReaderT.bind, bind, StateT.bind, Except.bind]
  cases m l p <;> rfl
theorem run_here {ok : Nat → Nat → Prop} : Run here l p ok bad ↔ ok p p := Iff.rfl
theorem run_num {w : Nat} {ok : Nat → Nat → Prop} : Run (num w) l p ok bad ↔ if l.length < p + w then bad l.length 1 else ok (value ((l.drop p).take w)) (p + w) := by
  unfold Run num
  by_cases h : l.length < p + w
  · simp only [h, if_true]
  · simp only [h, if_false]
theorem run_mono {m : R α} {ok ok' : α → Nat → Prop} {bad' : Nat → Nat → Prop} (h : Run m l p ok bad) (h1 : ∀ x q, ok x q → ok' x q) (h2 : ∀ a b, bad a b → bad' a b) : Run m l p ok' bad' := by
  unfold Run at h ⊢
  cases e : m l p with
  | error f => rw [e] at h; exact h2 _ _ h
  | ok x => rw [e] at h; exact h1 _ _ h
theorem run_ite {c : Prop} [Decidable c] {m n : R α} {ok : α → Nat → Prop} : Run (if c then m else n) l p ok bad ↔ if c then Run m l p ok bad else Run n l p ok bad := by
  by_cases h : c
  · rw [if_pos h, if_pos h]
  · rw [if_neg h, if_neg h]
theorem run_numIn {w lo hi : Nat} {ok : Nat → Nat → Prop} : Run (numIn w lo hi) l p ok bad ↔ Run (num w) l p (fun x q => if lo ≤ x ∧ x ≤ hi then ok x q else bad p 2) bad := by
  unfold numIn
  rw [run_bind, run_here, run_bind]
  constructor
  · intro h
    refine run_mono h (fun x q h => ?_) fun _ _ h => h
    rw [run_ite] at h
    exact h
  · intro h
    refine run_mono h (fun x q h => ?_) fun _ _ h => h
    rw [run_ite]
    exact h
theorem run_each_nil {ok : List α → Nat → Prop} : Run (each ([] : List (R α))) l p ok bad ↔ ok [] p := Iff.rfl
theorem run_each_cons {r : R α} {rs : List (R α)} {ok : List α → Nat → Prop} : Run (each (r :: rs)) l p ok bad ↔ Run r l p (fun x q => Run (each rs) l q (fun y q' => ok (x :: y) q') bad) bad := by
  show Run (r >>= fun x => each rs >>= fun y => pure (x :: y)) l p ok bad ↔ _
  rw [run_bind]
  constructor
  · intro h
    refine run_mono h (fun x q h => ?_) fun _ _ h => h
    rw [run_bind] at h
    exact h
  · intro h
    refine run_mono h (fun x q h => ?_) fun _ _ h => h
    rw [run_bind]
    exact h
end
def sparse (off : Nat) : List Int → List (Int × Int)
  | [] => []
  | x :: r => if x = 0 then sparse (off + 1) r else ((off : Int), x) :: sparse (off + 1) r
theorem sparse_append (a b : List Int) : ∀ off, sparse off (a ++ b) = sparse off a ++ sparse (off + a.length) b := by
  induction a with
  | nil => intro off; simp [sparse]
  | cons x r ih =>
    intro off
    have e : off + (x :: r).length = off + 1 + r.length := by simp; omega
    rw [e]
    by_cases h : x = 0
    · simp only [List.cons_append, sparse, h, if_true, ih]
    · simp only [List.cons_append, sparse, h, if_false, ih]
theorem sparse_zeros : ∀ n off, sparse off (List.replicate n 0) = []
  | 0, _ => rfl
  | n + 1, off => by rw [List.replicate_succ]; simp only [sparse, if_true]; exact sparse_zeros n (off + 1)
theorem sparse_length : ∀ (r : List Int) off, (sparse off r).length = (r.filter fun (x : Int) => x != 0).length
  | [], _ => rfl
  | x :: r, off => by
    by_cases h : x = 0
    · subst h
      simp only [sparse, if_true]
      rw [sparse_length r (off + 1)]
      simp
    · simp only [sparse, h, if_false, List.length_cons]
      rw [sparse_length r (off + 1)]
      simp [h]
theorem sparse_snoc0 (a : List Int) (off : Nat) : sparse off (a ++ [0]) = sparse off a := by rw [sparse_append]; simp [sparse]
theorem sparse_snoc (a : List Int) (off : Nat) {x : Int} (h : x ≠ 0) : sparse off (a ++ [x]) = sparse off a ++ [(((off + a.length : Nat) : Int), x)] := by rw [sparse_append]; simp [sparse, h]
theorem sparse_le : ∀ (r : List Int) off, (sparse off r).length ≤ r.length
  | [], _ => Nat.le_refl _
  | x :: r, off => by
    have ih := sparse_le r (off + 1)
    by_cases h : x = 0
    · simp only [sparse, h, if_true, List.length_cons]; omega
    · simp only [sparse, h, if_false, List.length_cons]; omega
def cells (m w j : Nat) : R (List Int) := each ((List.range' j (w - j)).map (readCell m))
theorem cells_zero (m w : Nat) : each ((List.range w).map (readCell m)) = cells m w 0 := by
  unfold cells; rw [List.range_eq_range', Nat.sub_zero]
section
variable {l : Bytes} {p : Nat} {bad : Nat → Nat → Prop} {ok : List Int → Nat → Prop} {m w j : Nat}
theorem run_cells_end (h : ¬ j < w) : Run (cells m w j) l p ok bad ↔ ok [] p := by
  have e : w - j = 0 := by omega
  unfold cells; rw [e]
  exact run_each_nil
theorem run_cells_step (h : j < w) : Run (cells m w j) l p ok bad ↔ Run (readCell m j) l p (fun x q => Run (cells m w (j + 1)) l q (fun y q' => ok (x :: y) q') bad) bad := by
  have e : w - j = (w - (j + 1)) + 1 := by omega
  unfold cells; rw [e, List.range'_succ, List.map_cons]
  exact run_each_cons
theorem run_cell_no (h : m.testBit j = false) {ok : Int → Nat → Prop} : Run (readCell m j) l p ok bad ↔ ok 0 p := by
  unfold readCell; rw [if_pos h]; exact Iff.rfl
theorem run_cell_yes (h : m.testBit j = true) {ok : Int → Nat → Prop} : Run (readCell m j) l p ok bad ↔ Run (num 1) l p (fun x q => if x = 0 then bad p 3 else ok (signed 8 x) q) bad := by
  unfold readCell; rw [if_neg (by simp [h]), run_bind, run_here, run_bind]
  constructor
  · intro h
    refine run_mono h (fun x q h => ?_) fun _ _ h => h
    rw [run_ite] at h
    exact h
  · intro h
    refine run_mono h (fun x q h => ?_) fun _ _ h => h
    rw [run_ite]
    exact h
theorem bit_half (m j : Nat) : m.testBit j = decide (m / 2 ^ j % 2 = 1) := by
  rw [Nat.testBit_eq_decide_div_mod_eq]
theorem run_cells_none (h : m / 2 ^ j = 0) : ∀ n, n = w - j → (Run (cells m w j) l p ok bad ↔ ok (List.replicate (w - j) 0) p) := by
  intro n
  induction n generalizing j ok with
  | zero =>
    intro e
    rw [run_cells_end (by omega), ← e]
    exact Iff.rfl
  | succ n ih =>
    intro e
    have hb : m.testBit j = false := by rw [bit_half, h]; simp
    have h' : m / 2 ^ (j + 1) = 0 := by rw [Nat.pow_succ, ← Nat.div_div_eq_div_mul, h]
    rw [run_cells_step (by omega), run_cell_no hb, ih h' (by omega)]
    have e2 : w - j = (w - (j + 1)) + 1 := by omega
    rw [e2, List.replicate_succ]
end
def blks (cols k : Nat) : R (List (List Int)) := each ((List.range' k (blocks cols - k)).map fun (k : Nat) => readChunk (min 64 (cols - 64 * k)))
section
variable {l : Bytes} {p : Nat} {bad : Nat → Nat → Prop} {cols k : Nat}
theorem run_row {ok : List Int → Nat → Prop} : Run (readRow cols) l p ok bad ↔ Run (blks cols 0) l p (fun x q => ok x.flatten q) bad := by
  unfold readRow
  rw [run_bind]
  unfold blks
  rw [List.range_eq_range', Nat.sub_zero]
  exact Iff.rfl
theorem run_blks_end {ok : List (List Int) → Nat → Prop} (h : ¬ k < blocks cols) : Run (blks cols k) l p ok bad ↔ ok [] p := by
  have e : blocks cols - k = 0 := by omega
  unfold blks; rw [e]
  exact run_each_nil
theorem run_blks_step {ok : List (List Int) → Nat → Prop} (h : k < blocks cols) : Run (blks cols k) l p ok bad ↔ Run (readChunk (min 64 (cols - 64 * k))) l p (fun x q => Run (blks cols (k + 1)) l q (fun y q' => ok (x :: y) q') bad) bad := by
  have e : blocks cols - k = (blocks cols - (k + 1)) + 1 := by omega
  unfold blks; rw [e, List.range'_succ, List.map_cons]
  exact run_each_cons
theorem run_chunk {w : Nat} {ok : List Int → Nat → Prop} : Run (readChunk w) l p ok bad ↔ Run (num 8) l p (fun m q => if 2 ^ w ≤ m then bad p 4 else Run (cells m w 0) l q ok bad) bad := by
  unfold readChunk
  rw [run_bind, run_here, run_bind]
  constructor
  · intro h
    refine run_mono h (fun x q h => ?_) fun _ _ h => h
    rw [run_ite, cells_zero] at h
    exact h
  · intro h
    refine run_mono h (fun x q h => ?_) fun _ _ h => h
    rw [run_ite, cells_zero]
    exact h
end
def rws (n : Nat) (cols : Nat) : R (List (List Int)) := times_ n (readRow cols)
section
variable {l : Bytes} {p : Nat} {bad : Nat → Nat → Prop} {cols n : Nat} {ok : List (List Int) → Nat → Prop}
theorem run_rws_zero : Run (rws 0 cols) l p ok bad ↔ ok [] p := run_each_nil
theorem run_rws_succ : Run (rws (n + 1) cols) l p ok bad ↔ Run (readRow cols) l p (fun x q => Run (rws n cols) l q (fun y q' => ok (x :: y) q') bad) bad := by
  unfold rws times_; rw [List.replicate_succ]; exact run_each_cons
theorem run_matrix {ok : Matrix → Nat → Prop} : Run readMatrix l p ok bad ↔ Run (num 2) l p (fun r q => if 1 ≤ r ∧ r ≤ 4096 then Run (num 2) l q (fun c q' => if 1 ≤ c ∧ c ≤ 4096 then (if 1048576 < r * c then bad q 2 else Run (rws r c) l q' (fun x q'' => ok ⟨r, c, x⟩ q'') bad) else bad q 2) bad else bad p 2) bad := by
  unfold readMatrix
  rw [run_bind, run_numIn]
  constructor
  · intro h
    refine run_mono h (fun r q h => ?_) fun _ _ h => h
    by_cases c1 : 1 ≤ r ∧ r ≤ 4096
    · have c1' : 1 ≤ r ∧ r ≤ SIDE := c1
      rw [if_pos c1'] at h; rw [if_pos c1]
      rw [run_bind, run_here, run_bind, run_numIn] at h
      refine run_mono h (fun c q' h => ?_) fun _ _ h => h
      by_cases c2 : 1 ≤ c ∧ c ≤ 4096
      · have c2' : 1 ≤ c ∧ c ≤ SIDE := c2
        rw [if_pos c2'] at h; rw [if_pos c2]
        rw [run_ite] at h
        by_cases c3 : 1048576 < r * c
        · have c3' : PLACES < r * c := c3
          rw [if_pos c3'] at h; rw [if_pos c3]; exact h
        · have c3' : ¬ PLACES < r * c := c3
          rw [if_neg c3'] at h; rw [if_neg c3]
          rw [run_bind] at h
          exact h
      · have c2' : ¬ (1 ≤ c ∧ c ≤ SIDE) := c2
        rw [if_neg c2'] at h; rw [if_neg c2]; exact h
    · have c1' : ¬ (1 ≤ r ∧ r ≤ SIDE) := c1
      rw [if_neg c1'] at h; rw [if_neg c1]; exact h
  · intro h
    refine run_mono h (fun r q h => ?_) fun _ _ h => h
    by_cases c1 : 1 ≤ r ∧ r ≤ 4096
    · have c1' : 1 ≤ r ∧ r ≤ SIDE := c1
      rw [if_pos c1'] ; rw [if_pos c1] at h
      rw [run_bind, run_here, run_bind, run_numIn]
      refine run_mono h (fun c q' h => ?_) fun _ _ h => h
      by_cases c2 : 1 ≤ c ∧ c ≤ 4096
      · have c2' : 1 ≤ c ∧ c ≤ SIDE := c2
        rw [if_pos c2']; rw [if_pos c2] at h
        rw [run_ite]
        by_cases c3 : 1048576 < r * c
        · have c3' : PLACES < r * c := c3
          rw [if_pos c3']; rw [if_pos c3] at h; exact h
        · have c3' : ¬ PLACES < r * c := c3
          rw [if_neg c3']; rw [if_neg c3] at h
          rw [run_bind]
          exact h
      · have c2' : ¬ (1 ≤ c ∧ c ≤ SIDE) := c2
        rw [if_neg c2']; rw [if_neg c2] at h; exact h
    · have c1' : ¬ (1 ≤ r ∧ r ≤ SIDE) := c1
      rw [if_neg c1']; rw [if_neg c1] at h; exact h
end
def val (l : List Int) : Int := l.foldr (fun (b n : Int) => b + 256 * n) 0
theorem val_fold (l : List Int) : l.reverse.foldl (fun (n b : Int) => n * 256 + b) 0 = val l := by
  unfold val
  rw [List.foldl_reverse]
  congr 1
  funext b n
  omega
def isByte (z : Int) : Prop := 0 ≤ z ∧ z ≤ 255
theorem val_octets : ∀ (l : List Int), (∀ z ∈ l, isByte z) → val l = ((value (Ql89Neutral.octets l) : Nat) : Int)
  | [], _ => rfl
  | z :: r, h => by
    have ih := val_octets r fun y hy => h y (List.mem_cons_of_mem _ hy)
    obtain ⟨h1, h2⟩ := h z List.mem_cons_self
    have e : ((UInt8.ofNat z.toNat).toNat : Int) = z := by
      have : (UInt8.ofNat z.toNat).toNat = z.toNat % 256 := UInt8.toNat_ofNat'
      rw [this]; omega
    show z + 256 * val r = (((UInt8.ofNat z.toNat).toNat + 256 * value (Ql89Neutral.octets r) : Nat) : Int)
    rw [ih]
    omega
theorem octets_slice (s : List Int) (p w : Nat) : ((Ql89Neutral.octets s).drop p).take w = Ql89Neutral.octets ((s.drop p).take w) := by
  unfold Ql89Neutral.octets
  rw [← List.map_drop, ← List.map_take]
theorem octets_length (s : List Int) : (Ql89Neutral.octets s).length = s.length := by unfold Ql89Neutral.octets; simp
theorem value_lt : ∀ (l : Bytes), value l < 256 ^ l.length
  | [] => by decide
  | b :: r => by
    have ih := value_lt r
    have hb := b.toNat_lt
    show b.toNat + 256 * value r < 256 ^ (r.length + 1)
    rw [Nat.pow_succ]
    omega
theorem whole_run {α : Type} (r : R α) (l : Bytes) (P : Except Fault α → Prop) : P (whole r l) ↔ Run r l 0 (fun x p => if p < l.length then P (.error ⟨p, 5⟩) else P (.ok x)) (fun a b => P (.error ⟨a, b⟩)) := by
  unfold Run whole
  cases h : r l 0 with
  | error f => exact Iff.rfl
  | ok x =>
    by_cases c : x.2 < l.length
    · simp only [c, if_true]
    · simp only [c, if_false]
end GM

set_option linter.all false
set_option maxRecDepth 100000
namespace GM
open Ql89
section
variable {α β : Type} {l : Bytes} {p : Nat} {bad : Nat → Nat → Prop}
theorem run_num_lt {w : Nat} {ok : Nat → Nat → Prop} (h : Run (num w) l p ok bad) : Run (num w) l p (fun x q => x < 256 ^ w ∧ ok x q) bad := by
  rw [run_num] at h ⊢
  split
  · rename_i c
    rw [if_pos c] at h
    exact h
  · rename_i c
    rw [if_neg c] at h
    refine ⟨?_, h⟩
    have z := value_lt ((l.drop p).take w)
    have e : ((l.drop p).take w).length = w := by rw [List.length_take, List.length_drop]; omega
    rw [e] at z
    exact z
theorem run_each_len (rs : List (R α)) : ∀ {p : Nat} {ok : List α → Nat → Prop}, Run (each rs) l p ok bad → Run (each rs) l p (fun x q => x.length = rs.length ∧ ok x q) bad := by
  induction rs with
  | nil => intro p ok h; rw [run_each_nil] at h ⊢; exact ⟨rfl, h⟩
  | cons r rs ih =>
    intro p ok h
    rw [run_each_cons] at h ⊢
    refine run_mono h (fun x q h => ?_) fun _ _ h => h
    refine run_mono (ih h) (fun y q' h => ?_) fun _ _ h => h
    exact ⟨by rw [List.length_cons, List.length_cons, h.1], h.2⟩
theorem run_chunk_len {w : Nat} {ok : List Int → Nat → Prop} (h : Run (readChunk w) l p ok bad) : Run (readChunk w) l p (fun x q => x.length = w ∧ ok x q) bad := by
  rw [run_chunk] at h ⊢
  refine run_mono h (fun m q h => ?_) fun _ _ h => h
  split
  · rename_i c
    rw [if_pos c] at h
    exact h
  · rename_i c
    rw [if_neg c] at h
    rw [← cells_zero] at h ⊢
    refine run_mono (run_each_len _ h) (fun x q h => ?_) fun _ _ h => h
    rw [List.length_map, List.length_range] at h
    exact h
theorem run_blks_len {cols : Nat} : ∀ (n k : Nat) {p : Nat} {ok : List (List Int) → Nat → Prop}, n = blocks cols - k → Run (blks cols k) l p ok bad → Run (blks cols k) l p (fun x q => x.flatten.length = cols - 64 * k ∧ ok x q) bad := by
  intro n
  induction n with
  | zero =>
    intro k p ok e h
    have hk : ¬ k < blocks cols := by omega
    rw [run_blks_end hk] at h ⊢
    refine ⟨?_, h⟩
    unfold blocks at hk
    show 0 = _
    omega
  | succ n ih =>
    intro k p ok e h
    have hk : k < blocks cols := by omega
    rw [run_blks_step hk] at h ⊢
    refine run_mono (run_chunk_len h) (fun x q h => ?_) fun _ _ h => h
    refine run_mono (ih (k + 1) (by omega) h.2) (fun y q' h' => ?_) fun _ _ h => h
    refine ⟨?_, h'.2⟩
    rw [List.flatten_cons, List.length_append, h'.1, h.1]
    unfold blocks at hk
    omega
theorem run_row_len {cols : Nat} {ok : List Int → Nat → Prop} (h : Run (readRow cols) l p ok bad) : Run (readRow cols) l p (fun x q => x.length = cols ∧ ok x q) bad := by
  rw [run_row] at h ⊢
  exact run_mono (run_blks_len _ 0 rfl h) (fun x q h => ⟨by have := h.1; omega, h.2⟩) fun _ _ h => h
theorem run_numIn_of {w lo hi : Nat} {ok : Nat → Nat → Prop} (h : Run (num w) l p (fun x q => if lo ≤ x ∧ x ≤ hi then ok x q else bad p 2) bad) : Run (numIn w lo hi) l p (fun x q => (lo ≤ x ∧ x ≤ hi) ∧ ok x q) bad := by
  rw [run_numIn]
  refine run_mono h (fun x q h => ?_) fun _ _ h => h
  by_cases c : lo ≤ x ∧ x ≤ hi
  · rw [if_pos c] at h ⊢
    exact ⟨c, h⟩
  · rw [if_neg c] at h ⊢
    exact h
theorem signed_zero {x : Nat} (h : x < 256) : signed 8 x = 0 ↔ x = 0 := by
  unfold signed
  split
  · omega
  · simp only [show (2 : Nat) ^ 8 = 256 from rfl, show (2 : Nat) ^ (8 - 1) = 128 from rfl] at *
    omega
end
end GM

set_option linter.all false
set_option maxRecDepth 100000
namespace GM
open Ql89
theorem held_eq (top z : Int) (h : 0 ≤ top) : (if (if z < top then z else top) > -top - 1 then (if z < top then z else top) else -top - 1) = held (-top - 1) top z := by
  unfold held
  repeat' split
  all_goals omega
theorem total_eq : ∀ (l : List Int), total l = l.sum := by
  have key : ∀ (l : List Int) (a : Int), l.foldl (fun (s x : Int) => s + x) a = a + l.sum := by
    intro l
    induction l with
    | nil => intro a; simp
    | cons x r ih => intro a; rw [List.foldl_cons, ih, List.sum_cons]; omega
  intro l
  unfold total
  rw [key]
  omega
theorem sparse_cons (off : Nat) (a : Int) (r : List Int) : sparse off (a :: r) = if a = 0 then sparse (off + 1) r else ((off : Int), a) :: sparse (off + 1) r := rfl
end GM
namespace GM
open Ql89
theorem sparse_mem : ∀ (r : List Int) (off : Nat) (p : Int × Int), p ∈ sparse off r → ∃ j, j < r.length ∧ p.1 = ((off + j : Nat) : Int) ∧ r[j]? = some p.2
  | [], _, _, h => by simp [sparse] at h
  | a :: r, off, p, h => by
    rw [sparse_cons] at h
    have rest : p ∈ sparse (off + 1) r → ∃ j, j < (a :: r).length ∧ p.1 = ((off + j : Nat) : Int) ∧ (a :: r)[j]? = some p.2 := fun h => by
      obtain ⟨j, h1, h2, h3⟩ := sparse_mem r (off + 1) p h
      exact ⟨j + 1, by simp; omega, by rw [h2]; congr 1; omega, by simpa using h3⟩
    split at h
    · exact rest h
    · rcases List.mem_cons.mp h with e | h
      · subst e
        exact ⟨0, by simp, by simp, by simp⟩
      · exact rest h
end GM

set_option linter.all false
set_option maxRecDepth 100000
namespace GM
open Ql89
section
variable {α β : Type} {l : Bytes} {p : Nat} {bad : Nat → Nat → Prop}
theorem run_num_mono_lt {w : Nat} {ok ok' : Nat → Nat → Prop} (h : Run (num w) l p ok bad) (f : ∀ x q, x < 256 ^ w → ok x q → ok' x q) : Run (num w) l p ok' bad := run_mono (run_num_lt h) (fun x q h => f x q h.1 h.2) fun _ _ h => h
theorem run_times_zero {r : R α} {ok : List α → Nat → Prop} : Run (times_ 0 r) l p ok bad ↔ ok [] p := run_each_nil
theorem run_times_succ {n : Nat} {r : R α} {ok : List α → Nat → Prop} : Run (times_ (n + 1) r) l p ok bad ↔ Run r l p (fun x q => Run (times_ n r) l q (fun y q' => ok (x :: y) q') bad) bad := by
  unfold times_
  rw [List.replicate_succ]
  exact run_each_cons
theorem run_times_all {r : R α} {F : α → Prop} (hF : ∀ (p : Nat) (ok : α → Nat → Prop), Run r l p ok bad → Run r l p (fun x q => F x ∧ ok x q) bad) : ∀ (n : Nat) {p : Nat} {ok : List α → Nat → Prop}, Run (times_ n r) l p ok bad → Run (times_ n r) l p (fun x q => (x.length = n ∧ ∀ y ∈ x, F y) ∧ ok x q) bad
  | 0, p, ok, h => by
    rw [run_times_zero] at h ⊢
    exact ⟨⟨rfl, fun _ z => by simp at z⟩, h⟩
  | n + 1, p, ok, h => by
    rw [run_times_succ] at h ⊢
    refine run_mono (hF p _ h) (fun x q h => ?_) fun _ _ h => h
    refine run_mono (run_times_all hF n h.2) (fun y q' h' => ?_) fun _ _ h => h
    refine ⟨⟨by rw [List.length_cons, h'.1.1], fun z hz => ?_⟩, h'.2⟩
    rcases List.mem_cons.mp hz with e | hz
    · rw [e]; exact h.1
    · exact h'.1.2 z hz
theorem signed_in (w x : Nat) (hw : 1 ≤ w) (h : x < 2 ^ w) : -((2 ^ (w - 1) : Nat) : Int) ≤ signed w x ∧ signed w x ≤ ((2 ^ (w - 1) : Nat) : Int) - 1 := by
  have e : 2 ^ w = 2 * 2 ^ (w - 1) := by
    obtain ⟨v, rfl⟩ : ∃ v, w = v + 1 := ⟨w - 1, by omega⟩
    rw [Nat.pow_succ]
    show 2 ^ v * 2 = 2 * 2 ^ v
    omega
  unfold signed
  split <;> omega
def isB (z : Int) : Prop := -128 ≤ z ∧ z ≤ 127
theorem run_cell_b {m j : Nat} {ok : Int → Nat → Prop} (h : Run (readCell m j) l p ok bad) : Run (readCell m j) l p (fun x q => isB x ∧ ok x q) bad := by
  cases hb : m.testBit j with
  | false =>
    rw [run_cell_no hb] at h ⊢
    exact ⟨⟨by decide, by decide⟩, h⟩
  | true =>
    rw [run_cell_yes hb] at h ⊢
    refine run_num_mono_lt h fun x q hx h => ?_
    by_cases h0 : x = 0
    · rw [if_pos h0] at h ⊢; exact h
    · rw [if_neg h0] at h ⊢
      have := signed_in 8 x (by decide) (by simpa using hx)
      exact ⟨⟨by have := this.1; simpa using this, by have := this.2; simpa using this⟩, h⟩
theorem run_each_all {F : α → Prop} : ∀ (rs : List (R α)), (∀ r ∈ rs, ∀ (p : Nat) (ok : α → Nat → Prop), Run r l p ok bad → Run r l p (fun x q => F x ∧ ok x q) bad) → ∀ {p : Nat} {ok : List α → Nat → Prop}, Run (each rs) l p ok bad → Run (each rs) l p (fun x q => (∀ y ∈ x, F y) ∧ ok x q) bad
  | [], _, p, ok, h => by
    rw [run_each_nil] at h ⊢
    exact ⟨fun _ z => by simp at z, h⟩
  | r :: rs, hF, p, ok, h => by
    rw [run_each_cons] at h ⊢
    refine run_mono (hF r List.mem_cons_self p _ h) (fun x q h => ?_) fun _ _ h => h
    refine run_mono (run_each_all rs (fun r hr => hF r (List.mem_cons_of_mem _ hr)) h.2) (fun y q' h' => ?_) fun _ _ h => h
    refine ⟨fun z hz => ?_, h'.2⟩
    rcases List.mem_cons.mp hz with e | hz
    · rw [e]; exact h.1
    · exact h'.1 z hz
theorem run_chunk_b {w : Nat} {ok : List Int → Nat → Prop} (h : Run (readChunk w) l p ok bad) : Run (readChunk w) l p (fun x q => (∀ z ∈ x, isB z) ∧ ok x q) bad := by
  rw [run_chunk] at h ⊢
  refine run_mono h (fun m q h => ?_) fun _ _ h => h
  split
  · rename_i c
    rw [if_pos c] at h
    exact h
  · rename_i c
    rw [if_neg c] at h
    rw [← cells_zero] at h ⊢
    refine run_each_all _ (fun r hr p ok h => ?_) h
    obtain ⟨j, _, rfl⟩ := List.mem_map.mp hr
    exact run_cell_b h
theorem run_row_b {cols : Nat} {ok : List Int → Nat → Prop} (h : Run (readRow cols) l p ok bad) : Run (readRow cols) l p (fun x q => (∀ z ∈ x, isB z) ∧ ok x q) bad := by
  rw [run_row] at h ⊢
  unfold blks at h ⊢
  refine run_mono (run_each_all (F := fun x => ∀ z ∈ x, isB z) _ (fun r hr p ok h => ?_) h) (fun x q h => ⟨fun z hz => ?_, h.2⟩) fun _ _ h => h
  · obtain ⟨j, _, rfl⟩ := List.mem_map.mp hr
    exact run_chunk_b h
  · obtain ⟨y, hy, hz⟩ := List.mem_flatten.mp hz
    exact h.1 y hy z hz
structure MatOk (m : Matrix) : Prop where
  len : m.row.length = m.rows
  row : ∀ x ∈ m.row, x.length = m.cols ∧ ∀ z ∈ x, isB z
theorem run_matrix_ok {ok : Matrix → Nat → Prop} (h : Run readMatrix l p ok bad) : Run readMatrix l p (fun m q => MatOk m ∧ ok m q) bad := by
  rw [run_matrix] at h ⊢
  refine run_mono h (fun r q h => ?_) fun _ _ h => h
  by_cases c1 : 1 ≤ r ∧ r ≤ 4096
  · rw [if_pos c1] at h ⊢
    refine run_mono h (fun c q' h => ?_) fun _ _ h => h
    by_cases c2 : 1 ≤ c ∧ c ≤ 4096
    · rw [if_pos c2] at h ⊢
      by_cases c3 : 1048576 < r * c
      · rw [if_pos c3] at h ⊢; exact h
      · rw [if_neg c3] at h ⊢
        unfold rws at h ⊢
        refine run_mono (run_times_all (F := fun x => x.length = c ∧ ∀ z ∈ x, isB z) (fun p ok h => ?_) r h) (fun x q h => ⟨⟨h.1.1, h.1.2⟩, h.2⟩) fun _ _ h => h
        refine run_mono (run_row_b (run_row_len h)) (fun x q h => ⟨⟨h.2.1, h.1⟩, h.2.2⟩) fun _ _ h => h
    · rw [if_neg c2] at h ⊢; exact h
  · rw [if_neg c1] at h ⊢; exact h
end
end GM

set_option Elab.async false
set_option linter.all false
set_option maxRecDepth 100000
set_option maxHeartbeats 4000000
namespace GM
open Ql89
def ans (a : Ans) : List Int := a.v :: a.out
theorem form_len {s : List Int} (h : s.length ≤ 100000) : isForm (s.length : Int) = true := by
  unfold isForm between FORM
  simp only [Bool.and_eq_true, decide_eq_true_eq]
  omega
def inForm (z : Int) : Prop := 0 ≤ z ∧ z ≤ 2097152
instance (z : Int) : Decidable (inForm z) := by unfold inForm; exact inferInstance
theorem form_iff {z : Int} : isForm z = true ↔ inForm z := by
  unfold isForm between FORM inForm
  simp only [Bool.and_eq_true, decide_eq_true_eq]
  omega
theorem form_not {z : Int} : isForm z = false ↔ ¬ inForm z := by
  rw [← form_iff]
  cases isForm z <;> simp
def ofWhole (e : Except Fault Matrix) (f : Matrix → List Int) : List Int := match e with
  | .error _ => [-2]
  | .ok m => f m
theorem ofForm_ans (s : Bytes) (f : Matrix → Ans) : ans (ofForm s f) = ofWhole (whole readMatrix s) fun m => ans (f m) := by
  unfold ofForm ofWhole
  cases whole readMatrix s <;> rfl
def given (room : Int) (m : Matrix) : List Int := if room < ((write m).length : Int) then [-4] else ((write m).length : Int) :: (write m).map fun (b : UInt8) => (b.toNat : Int)
theorem gives_ans (room : Int) (m : Matrix) : ans (gives room m) = given room m := by
  unfold gives given
  by_cases h : room < ((write m).length : Int)
  · rw [if_pos h, if_pos h]; rfl
  · rw [if_neg h, if_neg h]
    unfold numbers ans
    simp
theorem ite_ans {c : Prop} [Decidable c] (a b : Ans) : ans (if c then a else b) = if c then ans a else ans b := by
  by_cases h : c
  · rw [if_pos h, if_pos h]
  · rw [if_neg h, if_neg h]
def octs (l : Bytes) : List Int := l.map fun (b : UInt8) => (b.toNat : Int)
theorem octs_low (w n : Nat) : octs (low w n) = (List.range w).map fun (i : Nat) => ((n / 256 ^ i % 256 : Nat) : Int) := by
  unfold octs low
  rw [List.map_map]
  refine List.map_congr_left fun i _ => ?_
  show ((UInt8.ofNat (n / 256 ^ i % 256)).toNat : Int) = _
  have : (UInt8.ofNat (n / 256 ^ i % 256)).toNat = n / 256 ^ i % 256 := by
    rw [UInt8.toNat_ofNat']
    omega
  rw [this]
theorem octs_byte (z : Int) : ((ofByte z).toNat : Int) = z % 256 := by
  unfold ofByte
  rw [UInt8.toNat_ofNat']
  omega
def nz (c : List Int) : List Int := (c.filter fun (x : Int) => x != 0).map fun (x : Int) => x % 256
theorem octs_chunk (c : List Int) : octs (writeChunk c) = octs (low 8 (mask c)) ++ nz c := by
  unfold writeChunk octs nz
  rw [List.map_append, List.map_map]
  congr 1
  refine List.map_congr_left fun x _ => ?_
  exact octs_byte x
def rowB (cols : Nat) (r : List Int) : List Int := (List.range (blocks cols)).flatMap fun (k : Nat) => octs (low 8 (mask (chunk r k))) ++ nz (chunk r k)
theorem octs_flat {α : Type} (l : List α) (f : α → Bytes) : octs (l.flatMap f) = l.flatMap fun x => octs (f x) := by
  unfold octs
  rw [List.map_flatMap]
theorem octs_row (cols : Nat) (r : List Int) : octs (writeRow cols r) = rowB cols r := by
  unfold writeRow rowB
  rw [octs_flat]
  congr 1
  funext k
  exact octs_chunk _
theorem octs_write (m : Matrix) : octs (write m) = (octs (low 2 m.rows) ++ octs (low 2 m.cols)) ++ m.row.flatMap (rowB m.cols) := by
  unfold write
  show List.map _ _ = _
  rw [List.map_append, List.map_append, List.append_assoc]
  congr 2
  have := octs_flat m.row (writeRow m.cols)
  unfold octs at this
  rw [this]
  congr 1
  funext r
  exact octs_row m.cols r
theorem low_length (w n : Nat) : (low w n).length = w := by unfold low; simp
def cnt (r : List Int) : Nat := (r.filter fun (x : Int) => x != 0).length
theorem cnt_append (a b : List Int) : cnt (a ++ b) = cnt a + cnt b := by unfold cnt; rw [List.filter_append, List.length_append]
theorem chunk_length (c : List Int) : (writeChunk c).length = 8 + cnt c := by
  unfold writeChunk cnt
  rw [List.length_append, low_length, List.length_map]
theorem flat_len (r : List Int) : ∀ n : Nat, ((List.range n).flatMap fun (k : Nat) => writeChunk (chunk r k)).length = 8 * n + cnt (r.take (64 * n))
  | 0 => by simp [cnt]
  | n + 1 => by
    rw [List.range_succ, List.flatMap_append, List.length_append, flat_len r n]
    have e : r.take (64 * (n + 1)) = r.take (64 * n) ++ chunk r n := by
      unfold chunk
      rw [show 64 * (n + 1) = 64 * n + 64 by omega, List.take_add]
    rw [e, cnt_append]
    show _ + ([n].flatMap _).length = _
    rw [List.flatMap_cons, List.flatMap_nil, List.append_nil, chunk_length]
    omega
theorem row_length (cols : Nat) (r : List Int) (h : r.length = cols) : (writeRow cols r).length = 8 * blocks cols + cnt r := by
  unfold writeRow
  rw [flat_len, List.take_of_length_le (by unfold blocks; omega)]
theorem rows_length (cols : Nat) : ∀ l : List (List Int), (∀ x ∈ l, x.length = cols) → (l.flatMap (writeRow cols)).length = 8 * l.length * blocks cols + (l.map cnt).sum
  | [], _ => by simp
  | r :: l, h => by
    rw [List.flatMap_cons, List.length_append, rows_length cols l fun x hx => h x (List.mem_cons_of_mem _ hx), row_length cols r (h r List.mem_cons_self), List.length_cons, List.map_cons, List.sum_cons, Nat.mul_succ, Nat.add_mul]
    omega
theorem write_length (m : Matrix) (h : m.row.length = m.rows) (hc : ∀ x ∈ m.row, x.length = m.cols) : (write m).length = 4 + 8 * m.rows * blocks m.cols + stored m := by
  unfold write
  rw [List.length_append, List.length_append, low_length, low_length, rows_length m.cols m.row hc, h]
  have : (m.row.map cnt).sum = stored m := rfl
  omega
def inB (b : Nat) (p : Int × Int) : Bool := decide (p.1 / 64 = (b : Int))
def mk (ps : List (Int × Int)) (b : Nat) : Int := ((ps.filter (inB b)).map fun (p : Int × Int) => (2 : Int) ^ (p.1 % 64).toNat).sum
def nb (ps : List (Int × Int)) (b : Nat) : List Int := (ps.filter (inB b)).map fun (p : Int × Int) => p.2 % 256
theorem mk_snoc (ps : List (Int × Int)) (p : Int × Int) (b : Nat) : mk (ps ++ [p]) b = if p.1 / 64 = (b : Int) then mk ps b + 2 ^ (p.1 % 64).toNat else mk ps b := by
  unfold mk
  rw [List.filter_append, List.map_append, List.sum_append]
  by_cases h : p.1 / 64 = (b : Int)
  · rw [if_pos h, List.filter_cons, if_pos (show inB b p = true from decide_eq_true h)]
    simp
  · rw [if_neg h, List.filter_cons, if_neg (show ¬ inB b p = true from fun z => h (of_decide_eq_true z))]
    simp
theorem nb_snoc (ps : List (Int × Int)) (p : Int × Int) (b : Nat) : nb (ps ++ [p]) b = if p.1 / 64 = (b : Int) then nb ps b ++ [p.2 % 256] else nb ps b := by
  unfold nb
  rw [List.filter_append, List.map_append]
  by_cases h : p.1 / 64 = (b : Int)
  · rw [if_pos h, List.filter_cons, if_pos (show inB b p = true from decide_eq_true h)]
    simp
  · rw [if_neg h, List.filter_cons, if_neg (show ¬ inB b p = true from fun z => h (of_decide_eq_true z))]
    simp
theorem range_set {α : Type} (f g : Nat → α) (n k : Nat) (hk : k < n) (h : ∀ b, b ≠ k → f b = g b) : (List.range n).map g = ((List.range n).map f).set k (g k) := by
  refine List.ext_getElem? fun i => ?_
  rw [List.getElem?_map]
  by_cases hi : i < n
  · have e1 : (List.range n)[i]? = some i := by simp [hi]
    by_cases hik : i = k
    · subst hik
      rw [List.getElem?_set_self (by simpa using hi), e1]
      rfl
    · rw [List.getElem?_set_ne (Ne.symm hik), List.getElem?_map, e1]
      show some (g i) = some (f i)
      rw [h i hik]
  · have e1 : (List.range n)[i]? = none := by simp; omega
    rw [e1]
    symm
    exact List.getElem?_eq_none (by simp; omega)
theorem sparse_block (r : List Int) (b : Nat) : (sparse 0 r).filter (inB b) = sparse (64 * b) (chunk r b) := by
  by_cases h : 64 * b ≤ r.length
  · have e : r = r.take (64 * b) ++ (chunk r b ++ r.drop (64 * b + 64)) := by
      unfold chunk
      rw [← List.drop_drop, List.take_append_drop, List.take_append_drop]
    have hl : (r.take (64 * b)).length = 64 * b := by rw [List.length_take]; omega
    have hc : (chunk r b).length ≤ 64 := by unfold chunk; rw [List.length_take]; omega
    have e2 : sparse 0 r = sparse 0 (r.take (64 * b)) ++ (sparse (64 * b) (chunk r b) ++ sparse (64 * b + (chunk r b).length) (r.drop (64 * b + 64))) := by
      conv => lhs; rw [e]
      rw [sparse_append, sparse_append, hl, Nat.zero_add]
    rw [e2, List.filter_append, List.filter_append]
    have f1 : (sparse 0 (r.take (64 * b))).filter (inB b) = [] := by
      rw [List.filter_eq_nil_iff]
      intro p hp q
      obtain ⟨j, hj, e1, _⟩ := sparse_mem _ _ _ hp
      have q := of_decide_eq_true q
      rw [hl] at hj
      omega
    have f2 : (sparse (64 * b) (chunk r b)).filter (inB b) = sparse (64 * b) (chunk r b) := by
      rw [List.filter_eq_self]
      intro p hp
      obtain ⟨j, hj, e1, _⟩ := sparse_mem _ _ _ hp
      refine decide_eq_true ?_
      omega
    have f3 : (sparse (64 * b + (chunk r b).length) (r.drop (64 * b + 64))).filter (inB b) = [] := by
      rw [List.filter_eq_nil_iff]
      intro p hp q
      obtain ⟨j, hj, e1, _⟩ := sparse_mem _ _ _ hp
      have q := of_decide_eq_true q
      have : (chunk r b).length = 64 := by
        unfold chunk
        rw [List.length_drop] at hj
        rw [List.length_take, List.length_drop]
        omega
      omega
    rw [f1, f2, f3, List.nil_append, List.append_nil]
  · have e : chunk r b = [] := by
      unfold chunk
      rw [List.drop_of_length_le (by omega)]
      rfl
    rw [e]
    show _ = []
    rw [List.filter_eq_nil_iff]
    intro p hp q
    obtain ⟨j, hj, e1, _⟩ := sparse_mem _ _ _ hp
    have q := of_decide_eq_true q
    omega
theorem mask_sparse (b : Nat) : ∀ (c : List Int) (k : Nat), k + c.length ≤ 64 → (((c.zipIdx k).map fun (x : Int × Nat) => if x.1 = 0 then 0 else 2 ^ x.2).sum : Nat) = ((sparse (64 * b + k) c).map fun (p : Int × Int) => (2 : Int) ^ (p.1 % 64).toNat).sum
  | [], k, _ => rfl
  | a :: c, k, h => by
    have h : k + (c.length + 1) ≤ 64 := by simpa using h
    rw [List.zipIdx_cons, List.map_cons, List.sum_cons, sparse_cons]
    have ih := mask_sparse b c (k + 1) (by omega)
    by_cases h0 : a = 0
    · rw [if_pos h0, if_pos h0, Nat.zero_add, ih]
      rfl
    · rw [if_neg h0, if_neg h0, List.map_cons, List.sum_cons, Int.natCast_add, ih]
      have e : (((64 * b + k : Nat) : Int) % 64).toNat = k := by omega
      have e1 : ((2 ^ k : Nat) : Int) = (2 : Int) ^ k := by simp
      show _ + _ = (2 : Int) ^ (((64 * b + k : Nat) : Int) % 64).toNat + _
      rw [e, e1]
      rfl
theorem mk_mask (r : List Int) (b : Nat) : mk (sparse 0 r) b = ((mask (chunk r b) : Nat) : Int) := by
  unfold mk
  rw [sparse_block]
  unfold mask
  have := mask_sparse b (chunk r b) 0 (by unfold chunk; rw [List.length_take]; omega)
  rw [Nat.add_zero] at this
  exact this.symm
theorem sparse_vals : ∀ (c : List Int) (off : Nat), (sparse off c).map (fun (p : Int × Int) => p.2 % 256) = nz c
  | [], _ => rfl
  | a :: c, off => by
    rw [sparse_cons]
    unfold nz
    rw [List.filter_cons]
    by_cases h : a = 0
    · rw [if_pos h, if_neg (by simp [h]), sparse_vals c (off + 1)]
      rfl
    · rw [if_neg h, if_pos (by simpa using h), List.map_cons, List.map_cons, sparse_vals c (off + 1)]
      rfl
theorem nb_nz (r : List Int) (b : Nat) : nb (sparse 0 r) b = nz (chunk r b) := by
  unfold nb
  rw [sparse_block, sparse_vals]
end GM
namespace GM
open Ql89
theorem little_at (n i : Nat) : ((n : Int) / 2 ^ (8 * ((0 : Int) + (i : Int))).toNat) % 256 = ((n / 256 ^ i % 256 : Nat) : Int) := by
  have e : (8 * ((0 : Int) + (i : Int))).toNat = 8 * i := by omega
  rw [e]
  have e2 : (2 : Int) ^ (8 * i) = ((256 ^ i : Nat) : Int) := by
    rw [Int.pow_mul]
    simp
  rw [e2]
  simp
def cb (r : List Int) (k : Nat) : List Int := octs (low 8 (mask (chunk r k))) ++ nz (chunk r k)
theorem rowB_cb (cols : Nat) (r : List Int) : rowB cols r = (List.range (blocks cols)).flatMap (cb r) := rfl
theorem octs_len (w n : Nat) : (octs (low w n)).length = w := by unfold octs; rw [List.length_map, low_length]
theorem nz_len (r : List Int) (k : Nat) : (nz (chunk r k)).length ≤ 64 := by
  unfold nz chunk
  rw [List.length_map]
  refine Nat.le_trans (List.length_filter_le _ _) ?_
  rw [List.length_take]
  omega
theorem cb_len (r : List Int) : ∀ l : List Nat, (l.flatMap (cb r)).length ≤ 72 * l.length
  | [] => by simp
  | k :: l => by
    rw [List.flatMap_cons, List.length_append, List.length_cons]
    have := cb_len r l
    have h : (cb r k).length ≤ 72 := by
      unfold cb
      rw [List.length_append, octs_len]
      have := nz_len r k
      omega
    omega
theorem flat_take {α β : Type} (l : List α) (f : α → List β) (i : Nat) : ((l.take i).flatMap f).length ≤ (l.flatMap f).length := by
  conv => rhs; rw [← List.take_append_drop i l, List.flatMap_append, List.length_append]
  omega
theorem flat_step {α β : Type} (l : List α) (f : α → List β) (i : Nat) (x : α) (h : l[i]? = some x) : (l.take (i + 1)).flatMap f = (l.take i).flatMap f ++ f x := by
  rw [List.take_add_one, h, List.flatMap_append]
  show _ ++ [x].flatMap f = _
  simp
theorem octs_length (l : Bytes) : (octs l).length = l.length := by unfold octs; rw [List.length_map]
end GM
namespace GM
open Ql89
end GM
namespace GM
open Ql89
theorem asked_sum {l : List Ql89Neutral.Call} (h : Ql89Neutral.asked l = true) : (l.map Ql89Neutral.most).sum ≤ 400000 := by
  unfold Ql89Neutral.asked at h
  simp only [Bool.and_eq_true, decide_eq_true_eq] at h
  exact h.2.2.2.1
theorem room_le {c : Ql89Neutral.Call} {m : Int} (h : Ql89Neutral.asked [c] = true) (e : Ql89Neutral.most c = if m ≤ 2097152 then m.toNat else 0) (hf : inForm m) : m ≤ 400000 := by
  have := asked_sum h
  rw [List.map_cons, List.map_nil, List.sum_cons, List.sum_nil, e, if_pos hf.2] at this
  omega
end GM

set_option Elab.async false
set_option linter.all false
set_option maxRecDepth 100000
set_option maxHeartbeats 4000000
namespace GM
open Ql89
abbrev Rise (l : List (Int × Int)) : Prop := l.Pairwise (fun a b => a.1 < b.1)
theorem rise_ext : ∀ {l m : List (Int × Int)}, Rise l → Rise m → (∀ x, x ∈ l ↔ x ∈ m) → l = m
  | [], [], _, _, _ => rfl
  | [], y :: m, _, _, h => by have := (h y).mpr List.mem_cons_self; simp at this
  | x :: l, [], _, _, h => by have := (h x).mp List.mem_cons_self; simp at this
  | x :: l, y :: m, hl, hm, h => by
    have hl' := List.pairwise_cons.mp hl
    have hm' := List.pairwise_cons.mp hm
    have e : x = y := by
      rcases List.mem_cons.mp ((h x).mp List.mem_cons_self) with z | z
      · exact z
      · rcases List.mem_cons.mp ((h y).mpr List.mem_cons_self) with q | q
        · exact q.symm
        · have := hm'.1 x z
          have := hl'.1 y q
          omega
    subst e
    congr 1
    refine rise_ext hl'.2 hm'.2 fun z => ?_
    constructor
    · intro hz
      rcases List.mem_cons.mp ((h z).mp (List.mem_cons_of_mem _ hz)) with q | q
      · have := hl'.1 z hz
        rw [q] at this
        omega
      · exact q
    · intro hz
      rcases List.mem_cons.mp ((h z).mpr (List.mem_cons_of_mem _ hz)) with q | q
      · have := hm'.1 z hz
        rw [q] at this
        omega
      · exact q
theorem sparse_rise : ∀ (r : List Int) (off : Nat), Rise (sparse off r)
  | [], _ => List.Pairwise.nil
  | a :: r, off => by
    rw [sparse_cons]
    by_cases h : a = 0
    · rw [if_pos h]
      exact sparse_rise r (off + 1)
    · rw [if_neg h]
      refine List.pairwise_cons.mpr ⟨fun p hp => ?_, sparse_rise r (off + 1)⟩
      obtain ⟨j, hj, e1, _⟩ := sparse_mem _ _ _ hp
      show (off : Int) < p.1
      omega
theorem mem_sparse : ∀ (r : List Int) (off : Nat) (p : Int × Int), p ∈ sparse off r ↔ ∃ j, p.1 = ((off + j : Nat) : Int) ∧ r[j]? = some p.2 ∧ p.2 ≠ 0
  | [], off, p => by
    constructor
    · intro h; cases h
    · rintro ⟨j, _, h, _⟩; simp at h
  | a :: r, off, p => by
    rw [sparse_cons]
    have ih := mem_sparse r (off + 1) p
    by_cases h : a = 0
    · rw [if_pos h, ih]
      constructor
      · rintro ⟨j, e1, e2, e3⟩
        exact ⟨j + 1, by omega, by simpa using e2, e3⟩
      · rintro ⟨j, e1, e2, e3⟩
        cases j with
        | zero => simp at e2; rw [h] at e2; exact absurd e2.symm e3
        | succ j => exact ⟨j, by omega, by simpa using e2, e3⟩
    · rw [if_neg h, List.mem_cons, ih]
      constructor
      · rintro (rfl | ⟨j, e1, e2, e3⟩)
        · exact ⟨0, by simp, by simp, h⟩
        · exact ⟨j + 1, by omega, by simpa using e2, e3⟩
      · rintro ⟨j, e1, e2, e3⟩
        cases j with
        | zero =>
          left
          simp at e2
          exact Prod.ext (by simpa using e1) e2.symm
        | succ j => exact .inr ⟨j, by omega, by simpa using e2, e3⟩
def look (kvs : List (Int × Int)) (k : Int) : Option Int := (kvs.find? fun (p : Int × Int) => decide (p.1 = k)).map (·.2)
def at0 (kvs : List (Int × Int)) (k : Int) : Int := (look kvs k).getD 0
def put (kvs : List (Int × Int)) (k v : Int) : List (Int × Int) := if (kvs.any fun (p : Int × Int) => decide (p.1 = k)) = true then kvs.map (fun (p : Int × Int) => if p.1 = k then (p.1, v) else p) else kvs ++ [(k, v)]
theorem look_nil (k : Int) : look [] k = none := rfl
theorem look_cons (p : Int × Int) (r : List (Int × Int)) (k : Int) : look (p :: r) k = if p.1 = k then some p.2 else look r k := by
  unfold look
  rw [List.find?_cons]
  by_cases h : p.1 = k
  · rw [if_pos h, decide_eq_true h]; rfl
  · rw [if_neg h, decide_eq_false h]
theorem look_any (k : Int) : ∀ kvs : List (Int × Int), (kvs.any fun (p : Int × Int) => decide (p.1 = k)) = (look kvs k).isSome
  | [] => rfl
  | p :: r => by
    rw [List.any_cons, look_cons, look_any k r]
    by_cases h : p.1 = k
    · rw [if_pos h, decide_eq_true h]; rfl
    · rw [if_neg h, decide_eq_false h, Bool.false_or]
theorem look_put (kvs : List (Int × Int)) (k v j : Int) : look (put kvs k v) j = if j = k then some v else look kvs j := by
  unfold put
  by_cases h : (kvs.any fun (p : Int × Int) => decide (p.1 = k)) = true
  · rw [if_pos h]
    have hs : (look kvs k).isSome = true := by rw [← look_any]; exact h
    clear h
    induction kvs with
    | nil => simp [look] at hs
    | cons p r ih =>
      rw [List.map_cons, look_cons, look_cons]
      rw [look_cons] at hs
      by_cases hp : p.1 = k
      · rw [if_pos hp]
        dsimp only
        by_cases hj : j = k
        · rw [if_pos (by omega), if_pos hj]
        · rw [if_neg (by omega), if_neg hj, if_neg (by omega)]
          have : ∀ r : List (Int × Int), look (r.map fun (p : Int × Int) => if p.1 = k then (p.1, v) else p) j = look r j := by
            intro r
            induction r with
            | nil => rfl
            | cons q r ih2 =>
              rw [List.map_cons, look_cons, look_cons, ih2]
              by_cases hq : q.1 = k
              · rw [if_pos hq]; dsimp only; rw [if_neg (by omega), if_neg (by omega)]
              · rw [if_neg hq]
          exact this r
      · rw [if_neg hp] at hs ⊢
        rw [ih hs]
        by_cases hpj : p.1 = j
        · rw [if_pos hpj, if_neg (by omega), if_pos hpj]
        · rw [if_neg hpj, if_neg hpj]
  · rw [if_neg h]
    have hs : look kvs k = none := by
      cases e : look kvs k with
      | none => rfl
      | some z => rw [look_any, e] at h; simp at h
    clear h
    induction kvs with
    | nil =>
      rw [List.nil_append, look_cons, look_nil]
      by_cases hj : j = k
      · rw [if_pos hj.symm, if_pos hj]
      · rw [if_neg (Ne.symm hj), if_neg hj]
    | cons p r ih =>
      rw [look_cons] at hs
      by_cases hp : p.1 = k
      · rw [if_pos hp] at hs; cases hs
      · rw [if_neg hp] at hs
        rw [List.cons_append, look_cons, ih hs, look_cons]
        by_cases hpj : p.1 = j
        · rw [if_pos hpj, if_neg (by omega), if_pos hpj]
        · rw [if_neg hpj, if_neg hpj]
theorem look_mem : ∀ {kvs : List (Int × Int)}, (kvs.map (·.1)).Nodup → ∀ (k v : Int), look kvs k = some v ↔ (k, v) ∈ kvs
  | [], _, k, v => by simp [look]
  | p :: r, nd, k, v => by
    rw [List.map_cons, List.nodup_cons] at nd
    rw [look_cons, List.mem_cons]
    by_cases h : p.1 = k
    · rw [if_pos h]
      constructor
      · intro e
        left
        have e : p.2 = v := by simpa using e
        exact Prod.ext h.symm e.symm
      · rintro (e | e)
        · rw [← e]
        · exact absurd (show k ∈ r.map (·.1) from List.mem_map.mpr ⟨_, e, rfl⟩) (by rw [← h]; exact nd.1)
    · rw [if_neg h, look_mem nd.2]
      constructor
      · exact .inr
      · rintro (e | e)
        · rw [← e] at h; exact absurd rfl h
        · exact e
theorem put_keys (kvs : List (Int × Int)) (k v : Int) : ∀ x ∈ (put kvs k v), x.1 = k ∨ x.1 ∈ kvs.map (·.1) := by
  intro x hx
  unfold put at hx
  split at hx
  · obtain ⟨p, hp, rfl⟩ := List.mem_map.mp hx
    right
    refine List.mem_map.mpr ⟨p, hp, ?_⟩
    split <;> rfl
  · rcases List.mem_append.mp hx with z | z
    · exact .inr (List.mem_map.mpr ⟨x, z, rfl⟩)
    · left
      have : x = (k, v) := by simpa using z
      rw [this]
def Below (n : Nat) (kvs : List (Int × Int)) : Prop := ∀ p ∈ kvs, 0 ≤ p.1 ∧ p.1 < n
theorem Below.put {n : Nat} {kvs : List (Int × Int)} (h : Below n kvs) {k v : Int} (hk : 0 ≤ k ∧ k < n) : Below n (put kvs k v) := by
  intro p hp
  rcases put_keys kvs k v p hp with z | z
  · rw [z]; exact hk
  · obtain ⟨q, hq, e⟩ := List.mem_map.mp z
    rw [← e]
    exact h q hq
def heldL (ps : List (Int × Int)) : List (Int × Int) := (ps.filter fun (p : Int × Int) => p.2 != 0).map fun (p : Int × Int) => (p.1, byte p.2)
theorem byte_zero {z : Int} : byte z = 0 ↔ z = 0 := by
  unfold byte held
  constructor
  · intro h
    split at h
    · omega
    · split at h <;> omega
  · intro h
    rw [h]
    rfl
end GM
namespace GM
open Ql89
def tot (qs : List (Int × Int)) (j : Int) : Int := ((qs.filter fun (p : Int × Int) => decide (p.1 = j)).map (·.2)).sum
theorem tot_nil (j : Int) : tot [] j = 0 := rfl
theorem tot_cons (p : Int × Int) (qs : List (Int × Int)) (j : Int) : tot (p :: qs) j = (if p.1 = j then p.2 else 0) + tot qs j := by
  unfold tot
  rw [List.filter_cons]
  by_cases h : p.1 = j
  · rw [if_pos (decide_eq_true h), if_pos h, List.map_cons, List.sum_cons]
  · rw [if_neg (by simpa using h), if_neg h, Int.zero_add]
theorem tot_snoc (qs : List (Int × Int)) (p : Int × Int) (j : Int) : tot (qs ++ [p]) j = tot qs j + (if p.1 = j then p.2 else 0) := by
  induction qs with
  | nil => rw [List.nil_append, tot_cons, tot_nil]; omega
  | cons q r ih => rw [List.cons_append, tot_cons, tot_cons, ih]; omega
theorem put_nodup {kvs : List (Int × Int)} (nd : (kvs.map (·.1)).Nodup) (k v : Int) : ((put kvs k v).map (·.1)).Nodup := by
  unfold put
  by_cases h : (kvs.any fun (p : Int × Int) => decide (p.1 = k)) = true
  · rw [if_pos h, List.map_map]
    have e : (kvs.map ((fun (x : Int × Int) => x.1) ∘ fun (p : Int × Int) => if p.1 = k then (p.1, v) else p)) = kvs.map (·.1) := by
      refine List.map_congr_left fun p _ => ?_
      show (if p.1 = k then (p.1, v) else p).1 = p.1
      split <;> rfl
    rw [e]
    exact nd
  · rw [if_neg h, List.map_append]
    refine List.nodup_append.mpr ⟨nd, by simp, fun a ha b hb z => ?_⟩
    have hb : b = k := by simpa using hb
    obtain ⟨p, hp, e⟩ := List.mem_map.mp ha
    refine h (List.any_eq_true.mpr ⟨p, hp, decide_eq_true ?_⟩)
    show p.1 = k
    have e : p.1 = a := e
    omega
theorem at0_put (kvs : List (Int × Int)) (k v j : Int) : at0 (put kvs k v) j = if j = k then v else at0 kvs j := by
  unfold at0
  rw [look_put]
  split <;> rfl
end GM
namespace GM
open Ql89
end GM

set_option linter.all false
namespace GM
open Ql89
theorem room_product {sh most : Int} {a b : List Int} (h : PyQl89.few_product_asked sh most a b = true) : inForm most → most ≤ 400000 := room_le (c := [[6, (a.length : Int), (b.length : Int), sh, most], a, b]) h rfl
end GM
namespace GM
open Ql89
end GM

set_option Elab.async false
set_option linter.all false
set_option maxRecDepth 100000
set_option maxHeartbeats 4000000
namespace GM
open Ql89
def tvn (s : Nat → Int) : Nat → Nat → Int
  | 0, _ => 0
  | n + 1, c => s c + 268435456 * tvn s n (c + 1)
def tv (s : Nat → Int) (c : Nat) : Int := tvn s (64 - c) c
theorem tv_step (s : Nat → Int) {c : Nat} (h : c < 64) : tv s c = s c + 268435456 * tv s (c + 1) := by
  unfold tv
  have e : 64 - c = (64 - (c + 1)) + 1 := by omega
  rw [e]
  rfl
theorem tv_end (s : Nat → Int) : tv s 64 = 0 := rfl
theorem tv_zero {s : Nat → Int} (hs : ∀ c, -67108864 ≤ s c ∧ s c ≤ 67108864) : ∀ (n c : Nat), n = 64 - c → tv s c = 0 → ∀ c', c ≤ c' → c' < 64 → s c' = 0
  | 0, c, hn, _, c', h1, h2 => by omega
  | n + 1, c, hn, h, c', h1, h2 => by
    rw [tv_step s (by omega)] at h
    have b := hs c
    have h0 : s c = 0 := by omega
    by_cases e : c' = c
    · rw [e]; exact h0
    · exact tv_zero hs n (c + 1) (by omega) (by omega) c' (by omega) h2
theorem slot_now {s : Nat → Int} (hs : ∀ c, -67108864 ≤ s c ∧ s c ≤ 67108864) {c : Nat} (h : c < 64) : (tv s c + 134217728) % 268435456 - 134217728 = s c := by
  rw [tv_step s h]
  have b := hs c
  omega
theorem slot_next {s : Nat → Int} (hs : ∀ c, -67108864 ≤ s c ∧ s c ≤ 67108864) {c : Nat} (h : c < 64) : (tv s c - s c) / 2 ^ (28 : Int).toNat = tv s (c + 1) := by
  rw [tv_step s h]
  have e : (2 : Int) ^ (28 : Int).toNat = 268435456 := by decide
  rw [e]
  omega
theorem tvn_add (f g : Nat → Int) : ∀ n c, tvn (fun c => f c + g c) n c = tvn f n c + tvn g n c
  | 0, _ => rfl
  | n + 1, c => by
    unfold tvn
    rw [tvn_add f g n (c + 1)]
    rw [Int.mul_add]
    omega
theorem tvn_mul (a : Int) (f : Nat → Int) : ∀ n c, tvn (fun c => a * f c) n c = a * tvn f n c
  | 0, _ => by unfold tvn; rw [Int.mul_zero]
  | n + 1, c => by
    unfold tvn
    rw [tvn_mul a f n (c + 1), Int.mul_add, ← Int.mul_assoc, ← Int.mul_assoc, Int.mul_comm 268435456 a]
theorem tvn_nil : ∀ n c, tvn (fun _ => 0) n c = 0
  | 0, _ => rfl
  | n + 1, c => by unfold tvn; rw [tvn_nil n (c + 1)]; rfl
theorem tvn_congr {f g : Nat → Int} : ∀ n c, (∀ c', c ≤ c' → c' < c + n → f c' = g c') → tvn f n c = tvn g n c
  | 0, _, _ => rfl
  | n + 1, c, h => by
    unfold tvn
    rw [h c (by omega) (by omega), tvn_congr n (c + 1) fun c' h1 h2 => h c' (by omega) (by omega)]
theorem tv_sum {α : Type} (f : α → Nat → Int) : ∀ ks : List α, tv (fun c => (ks.map fun k => f k c).sum) 0 = (ks.map fun k => tv (f k) 0).sum
  | [] => tvn_nil _ _
  | k :: ks => by
    have ih := tv_sum f ks
    unfold tv at ih ⊢
    rw [List.map_cons, List.sum_cons, ← ih, ← tvn_add]
    rfl
theorem tv_mul (a : Int) (f : Nat → Int) : tv (fun c => a * f c) 0 = a * tv f 0 := tvn_mul a f _ _
def pw (p : Int × Int) : Int := p.2 * 2 ^ (28 * (p.1 % 64)).toNat
def pkt (ps : List (Int × Int)) (b : Int) : Int := ((ps.filter fun (p : Int × Int) => decide (p.1 / 64 = b)).map pw).sum
theorem pkt_nil (b : Int) : pkt [] b = 0 := rfl
theorem pkt_snoc (ps : List (Int × Int)) (p : Int × Int) (b : Int) : pkt (ps ++ [p]) b = pkt ps b + if p.1 / 64 = b then pw p else 0 := by
  unfold pkt
  rw [List.filter_append, List.map_append, List.sum_append]
  congr 1
  rw [List.filter_cons]
  by_cases h : p.1 / 64 = b
  · rw [if_pos (decide_eq_true h), if_pos h]
    simp
  · rw [if_neg (by simpa using h), if_neg h]
    rfl
theorem pow28 (k : Nat) : (2 : Int) ^ (28 * (k + 1)) = 268435456 * 2 ^ (28 * k) := by
  rw [show 28 * (k + 1) = 28 + 28 * k by omega, Int.pow_add]
  rfl
theorem sparse_pack (b : Nat) : ∀ (c : List Int) (k : Nat), k + c.length ≤ 64 → ((sparse (64 * b + k) c).map pw).sum = 2 ^ (28 * k) * tvn (fun j => c.getD (j - k) 0) c.length k
  | [], k, _ => by simp [sparse, tvn]
  | a :: c, k, h => by
    have h : k + (c.length + 1) ≤ 64 := by simpa using h
    have ih := sparse_pack b c (k + 1) (by omega)
    have e1 : tvn (fun j => (a :: c).getD (j - k) 0) (a :: c).length k = a + 268435456 * tvn (fun j => c.getD (j - (k + 1)) 0) c.length (k + 1) := by
      show (a :: c).getD (k - k) 0 + 268435456 * tvn _ c.length (k + 1) = _
      rw [Nat.sub_self]
      congr 2
      refine tvn_congr _ _ fun j h1 h2 => ?_
      rw [show j - k = (j - (k + 1)) + 1 by omega]
      rfl
    rw [e1, sparse_cons, Int.mul_add, ← Int.mul_assoc, Int.mul_comm (2 ^ (28 * k)) 268435456, ← pow28]
    by_cases h0 : a = 0
    · rw [if_pos h0, h0, Int.mul_zero, Int.zero_add]
      exact ih
    · rw [if_neg h0, List.map_cons, List.sum_cons]
      have e2 : pw (((64 * b + k : Nat) : Int), a) = 2 ^ (28 * k) * a := by
        unfold pw
        have e3 : (28 * ((((64 * b + k : Nat) : Int), a).1 % 64)).toNat = 28 * k := by
          show (28 * (((64 * b + k : Nat) : Int) % 64)).toNat = _
          omega
        rw [e3, Int.mul_comm]
      rw [e2]
      congr 1
theorem chunk_getD (r : List Int) (b j : Nat) (h : j < 64) : (chunk r b).getD j 0 = r.getD (64 * b + j) 0 := by
  unfold chunk
  rw [List.getD_eq_getElem?_getD, List.getElem?_take_of_lt h, List.getElem?_drop, List.getD_eq_getElem?_getD]
theorem tvn_more (f : Nat → Int) : ∀ (n m c : Nat), (∀ c', c + n ≤ c' → c' < c + n + m → f c' = 0) → tvn f (n + m) c = tvn f n c
  | 0, 0, _, _ => rfl
  | 0, m + 1, c, h => by
    rw [Nat.zero_add]
    unfold tvn
    have := tvn_more f 0 m (c + 1) fun c' hc hc2 => h c' (by omega) (by omega)
    rw [Nat.zero_add] at this
    rw [this, h c (by omega) (by omega)]
    rfl
  | n + 1, m, c, h => by
    rw [show n + 1 + m = (n + m) + 1 by omega]
    unfold tvn
    rw [tvn_more f n m (c + 1) fun c' hc hc2 => h c' (by omega) (by omega)]
theorem pkt_sparse (r : List Int) (b : Nat) : pkt (sparse 0 r) (b : Nat) = tv (fun c => r.getD (64 * b + c) 0) 0 := by
  unfold pkt
  have e : ((sparse 0 r).filter fun (p : Int × Int) => decide (p.1 / 64 = ((b : Nat) : Int))) = (sparse 0 r).filter (inB b) := rfl
  rw [e, sparse_block]
  have hl : (chunk r b).length ≤ 64 := by unfold chunk; rw [List.length_take]; omega
  have := sparse_pack b (chunk r b) 0 (by omega)
  rw [Nat.add_zero] at this
  rw [this]
  unfold tv
  have e2 : (2 : Int) ^ (28 * 0) = 1 := rfl
  rw [e2, Int.one_mul]
  have e3 : 64 - 0 = (chunk r b).length + (64 - (chunk r b).length) := by omega
  rw [e3, tvn_more (fun c => r.getD (64 * b + c) 0)]
  · refine tvn_congr _ _ fun j _ h2 => ?_
    rw [Nat.sub_zero]
    exact chunk_getD r b j (by omega)
  · intro c' hc hc2
    have hcl : (chunk r b).length = min 64 (r.length - 64 * b) := by unfold chunk; rw [List.length_take, List.length_drop]
    have hr : r.length ≤ 64 * b + c' := by omega
    show r.getD (64 * b + c') 0 = 0
    rw [List.getD_eq_getElem?_getD, List.getElem?_eq_none hr]
    rfl
def lin (qs : List (Int × Int)) (g : Int → Int) : Int := (qs.map fun (q : Int × Int) => q.2 * g q.1).sum
theorem lin_snoc (qs : List (Int × Int)) (q : Int × Int) (g : Int → Int) : lin (qs ++ [q]) g = lin qs g + q.2 * g q.1 := by
  unfold lin
  rw [List.map_append, List.sum_append]
  simp
theorem lin_sparse (g : Int → Int) : ∀ (r : List Int) (off : Nat), lin (sparse off r) g = ((List.range r.length).map fun (k : Nat) => r.getD k 0 * g ((off + k : Nat) : Int)).sum
  | [], _ => rfl
  | a :: r, off => by
    have ih := lin_sparse g r (off + 1)
    have e : ((List.range (a :: r).length).map fun (k : Nat) => (a :: r).getD k 0 * g ((off + k : Nat) : Int)).sum = a * g (off : Nat) + ((List.range r.length).map fun (k : Nat) => r.getD k 0 * g ((off + 1 + k : Nat) : Int)).sum := by
      rw [List.length_cons, List.range_succ_eq_map, List.map_cons, List.sum_cons, List.map_map]
      congr 1
      congr 1
      refine List.map_congr_left fun k _ => ?_
      show (a :: r).getD (k + 1) 0 * g ((off + (k + 1) : Nat) : Int) = _
      rw [show off + (k + 1) = off + 1 + k by omega]
      rfl
    rw [e, ← ih, sparse_cons]
    by_cases h : a = 0
    · rw [if_pos h, h, Int.zero_mul, Int.zero_add]
    · rw [if_neg h]
      unfold lin
      rw [List.map_cons, List.sum_cons]
theorem tot_at0 : ∀ {kvs : List (Int × Int)}, (kvs.map (·.1)).Nodup → ∀ b, tot kvs b = at0 kvs b
  | [], _, _ => rfl
  | p :: r, nd, b => by
    rw [List.map_cons, List.nodup_cons] at nd
    rw [tot_cons, tot_at0 nd.2 b]
    unfold at0
    rw [look_cons]
    by_cases h : p.1 = b
    · rw [if_pos h, if_pos h]
      have : look r b = none := by
        cases e : look r b with
        | none => rfl
        | some v =>
          have := (look_mem nd.2 _ _).mp e
          exact absurd (show b ∈ r.map (·.1) from List.mem_map.mpr ⟨_, this, rfl⟩) (by rw [← h]; exact nd.1)
      rw [this]
      simp
    · rw [if_neg h, if_neg h]
      simp
theorem sum_bound (f : Nat → Int) (B : Int) (hB : 0 ≤ B) (h : ∀ k, -B ≤ f k ∧ f k ≤ B) : ∀ n : Nat, -(n * B) ≤ ((List.range n).map f).sum ∧ ((List.range n).map f).sum ≤ n * B
  | 0 => by simp
  | n + 1 => by
    have ih := sum_bound f B hB h n
    rw [List.range_succ, List.map_append, List.sum_append]
    have hk := h n
    have e : ((n + 1 : Nat) : Int) * B = n * B + B := by
      rw [Int.natCast_add, Int.add_mul]
      simp
    rw [e]
    simp only [List.map_cons, List.map_nil, List.sum_cons, List.sum_nil]
    omega
def slotP (col : Nat) (s : Nat → Int) (c : Nat) : List (Int × Int) := (List.range c).map fun (j : Nat) => (((col + j : Nat) : Int), s j)
theorem slotP_snoc (col : Nat) (s : Nat → Int) (c : Nat) : slotP col s (c + 1) = slotP col s c ++ [(((col + c : Nat) : Int), s c)] := by
  unfold slotP
  rw [List.range_succ, List.map_append]
  rfl
theorem slotP_len (col : Nat) (s : Nat → Int) (c : Nat) : (slotP col s c).length = c := by unfold slotP; simp
theorem slotP_rise (col : Nat) (s : Nat → Int) : ∀ c, Rise (slotP col s c)
  | 0 => List.Pairwise.nil
  | c + 1 => by
    rw [slotP_snoc]
    refine List.pairwise_append.mpr ⟨slotP_rise col s c, by simp, fun p hp q hq => ?_⟩
    have hq : q = (((col + c : Nat) : Int), s c) := by simpa using hq
    obtain ⟨j, hj, rfl⟩ := List.mem_map.mp hp
    rw [List.mem_range] at hj
    rw [hq]
    show ((col + j : Nat) : Int) < ((col + c : Nat) : Int)
    omega
structure Cols (n : Nat) (ts : List (Int × Int)) (S : Nat → Nat → Int) (ps : List (Int × Int)) : Prop where
  rise : Rise ps
  of_ : ∀ p ∈ ps, ∃ t ∈ ts, ∃ c, c < 64 ∧ p.1 = 64 * t.1 + (c : Nat) ∧ p.2 = S t.1.toNat c
  all : ∀ t ∈ ts, ∀ c, c < 64 → S t.1.toNat c ≠ 0 → (64 * t.1 + (c : Nat), S t.1.toNat c) ∈ ps
theorem cols_step {n : Nat} {ts : List (Int × Int)} {S : Nat → Nat → Int} {ps : List (Int × Int)} {t : Int × Int} {c : Nat} (h : Cols n ts S ps) (ht : Rise (ts ++ [t])) (h0 : 0 ≤ t.1) (hc : c ≤ 64) (hz : ∀ c', c ≤ c' → c' < 64 → S t.1.toNat c' = 0) :
    Cols n (ts ++ [t]) S (ps ++ slotP (64 * t.1.toNat) (S t.1.toNat) c) := by
  have hlt : ∀ u ∈ ts, u.1 < t.1 := fun u hu => (List.pairwise_append.mp ht).2.2 u hu t (by simp)
  have e0 : ∀ j : Nat, ((64 * t.1.toNat + j : Nat) : Int) = 64 * t.1 + (j : Nat) := fun j => by omega
  refine ⟨List.pairwise_append.mpr ⟨h.rise, slotP_rise _ _ _, fun p hp q hq => ?_⟩, fun p hp => ?_, fun u hu c' hc' hne => ?_⟩
  · obtain ⟨u, hu, c1, hc1, e1, _⟩ := h.of_ p hp
    obtain ⟨j, hj, rfl⟩ := List.mem_map.mp hq
    have := hlt u hu
    show p.1 < ((64 * t.1.toNat + j : Nat) : Int)
    omega
  · rcases List.mem_append.mp hp with z | z
    · obtain ⟨u, hu, q⟩ := h.of_ p z
      exact ⟨u, List.mem_append_left _ hu, q⟩
    · obtain ⟨j, hj, rfl⟩ := List.mem_map.mp z
      rw [List.mem_range] at hj
      exact ⟨t, by simp, j, by omega, e0 j, rfl⟩
  · rcases List.mem_append.mp hu with z | z
    · exact List.mem_append_left _ (h.all u z c' hc' hne)
    · have z : u = t := by simpa using z
      subst z
      refine List.mem_append_right _ ?_
      have hcc : c' < c := Nat.lt_of_not_le fun q => hne (hz c' q hc')
      exact List.mem_map.mpr ⟨c', List.mem_range.mpr hcc, by rw [e0]⟩
def nearP (sh : Nat) (ps : List (Int × Int)) : List (Int × Int) := ps.map fun (p : Int × Int) => (p.1, near p.2 (2 ^ sh))
theorem near_zero (b : Nat) (hb : 0 < b) : near 0 b = 0 := by
  unfold near
  rw [Int.mul_zero, Int.zero_add]
  exact Int.ediv_eq_zero_of_lt (by omega) (by omega)
theorem cols_held {n sh : Nat} {ts ps kvs : List (Int × Int)} {S : Nat → Nat → Int} (h : Cols n ts S ps) (hp : ts.Perm kvs) (nd : (kvs.map (·.1)).Nodup) (hb : Below (blocks n) kvs) (hS : ∀ b c, c < 64 → n ≤ 64 * b + c → S b c = 0)
    (hz : ∀ b, b < blocks n → look kvs (b : Nat) = none → ∀ c, c < 64 → S b c = 0) :
    heldL (nearP sh ps) = sparse 0 ((List.range n).map fun (j : Nat) => byte (near (S (j / 64) (j % 64)) (2 ^ sh))) := by
  have hr : Rise (heldL (nearP sh ps)) := by
    unfold heldL
    refine List.Pairwise.map _ (fun a b h => h) ?_
    refine List.Pairwise.filter _ ?_
    unfold nearP
    exact List.Pairwise.map _ (fun a b h => h) h.rise
  refine rise_ext hr (sparse_rise _ _) fun x => ?_
  rw [mem_sparse]
  unfold heldL
  rw [List.mem_map]
  constructor
  · rintro ⟨p, hpm, rfl⟩
    rw [List.mem_filter] at hpm
    obtain ⟨hpn, hne⟩ := hpm
    rw [bne_iff_ne] at hne
    unfold nearP at hpn
    obtain ⟨q, hq, rfl⟩ := List.mem_map.mp hpn
    obtain ⟨t, ht, c, hc, e1, e2⟩ := h.of_ q hq
    have hbt := hb t (hp.mem_iff.mp ht)
    have hne : near q.2 (2 ^ sh) ≠ 0 := hne
    have hs0 : S t.1.toNat c ≠ 0 := fun z => hne (by rw [e2, z, near_zero _ (Nat.two_pow_pos sh)])
    have hj : 64 * t.1.toNat + c < n := Nat.lt_of_not_le fun z => hs0 (hS _ _ hc z)
    refine ⟨64 * t.1.toNat + c, by show q.1 = _; omega, ?_, ?_⟩
    · have e3 : (List.range n)[64 * t.1.toNat + c]? = some (64 * t.1.toNat + c) := List.getElem?_range hj
      rw [List.getElem?_map, e3]
      show some (byte (near (S ((64 * t.1.toNat + c) / 64) ((64 * t.1.toNat + c) % 64)) (2 ^ sh))) = some (byte (near q.2 (2 ^ sh)))
      rw [show (64 * t.1.toNat + c) / 64 = t.1.toNat by omega, show (64 * t.1.toNat + c) % 64 = c by omega, e2]
    · exact fun z => hne (byte_zero.mp z)
  · rintro ⟨j, e1, e2, e3⟩
    rw [List.getElem?_map] at e2
    obtain ⟨j', hj', e2⟩ := Option.map_eq_some_iff.mp e2
    obtain ⟨hjn, rfl⟩ : j < n ∧ j = j' := by
      obtain ⟨h1, h2⟩ := List.getElem?_eq_some_iff.mp hj'
      simp at h1 h2
      exact ⟨h1, h2⟩
    have hn0 : near (S (j / 64) (j % 64)) (2 ^ sh) ≠ 0 := fun z => e3 (by rw [← e2, z]; rfl)
    have hs0 : S (j / 64) (j % 64) ≠ 0 := fun z => hn0 (by rw [z, near_zero _ (Nat.two_pow_pos sh)])
    have hbj : j / 64 < blocks n := by unfold blocks; omega
    cases hl : look kvs ((j / 64 : Nat) : Int) with
    | none => exact absurd (hz (j / 64) hbj hl (j % 64) (by omega)) hs0
    | some v =>
      have hm := (look_mem nd _ _).mp hl
      have hin := h.all (((j / 64 : Nat) : Int), v) (hp.mem_iff.mpr hm) (j % 64) (by omega) (by rw [Int.toNat_natCast]; exact hs0)
      rw [Int.toNat_natCast] at hin
      refine ⟨(64 * ((j / 64 : Nat) : Int) + ((j % 64 : Nat) : Int), near (S (j / 64) (j % 64)) (2 ^ sh)), List.mem_filter.mpr ⟨List.mem_map.mpr ⟨_, hin, rfl⟩, by rw [bne_iff_ne]; exact hn0⟩, ?_⟩
      refine Prod.ext ?_ ?_
      · show 64 * ((j / 64 : Nat) : Int) + ((j % 64 : Nat) : Int) = x.1
        omega
      · exact e2
theorem cols_nil (n : Nat) (S : Nat → Nat → Int) : Cols n [] S [] := ⟨List.Pairwise.nil, fun _ z => (nomatch z), fun _ z => (nomatch z)⟩
theorem product_eq (sh most : Int) (a b : List Int) (ha : a.length ≤ 100000) (hb : b.length ≤ 100000) : PyQl89.few_product sh most a b = if inForm most ∧ (0 ≤ sh ∧ sh ≤ 30) then ofWhole (whole readMatrix (Ql89Neutral.octets a)) (fun x => ofWhole (whole readMatrix (Ql89Neutral.octets b)) fun y => if x.cols ≠ y.rows ∨ 1048576 < x.rows * y.cols then [-3] else given most (product x y sh.toNat)) else [-1] := by
  show ans (spec (.product (a.length : Int) (Ql89Neutral.octets a) (b.length : Int) (Ql89Neutral.octets b) sh most)) = _
  unfold spec
  dsimp only
  have ht : between sh 0 30 = decide (0 ≤ sh ∧ sh ≤ 30) := by
    unfold between
    by_cases c : 0 ≤ sh ∧ sh ≤ 30
    · rw [decide_eq_true c, Bool.and_eq_true, decide_eq_true_eq, decide_eq_true_eq]; omega
    · rw [decide_eq_false c, Bool.and_eq_false_iff, decide_eq_false_iff_not, decide_eq_false_iff_not]; omega
  rw [form_len ha, form_len hb, ht]
  by_cases c : inForm most
  · rw [form_iff.mpr c]
    by_cases d : 0 ≤ sh ∧ sh ≤ 30
    · rw [decide_eq_true d, if_neg (by simp), if_pos ⟨c, d⟩, ofForm_ans]
      congr 1
      funext x
      rw [ofForm_ans]
      congr 1
      funext y
      rw [ite_ans, gives_ans]
      rfl
    · rw [decide_eq_false d, if_pos (by simp), if_neg (fun z => d z.2)]
      rfl
  · rw [form_not.mpr c, if_pos (by simp), if_neg (fun z => c z.1)]
    rfl
def SS (ra : List Int) (rows : List (List Int)) (b c : Nat) : Int := ((List.range ra.length).map fun (k : Nat) => ra.getD k 0 * (rows.getD k []).getD (64 * b + c) 0).sum
theorem SS_tv (ra : List Int) (rows : List (List Int)) (b : Nat) : tv (SS ra rows b) 0 = lin (sparse 0 ra) (fun k => tv (fun c => (rows.getD k.toNat []).getD (64 * b + c) 0) 0) := by
  unfold SS
  rw [tv_sum (fun (k : Nat) (c : Nat) => ra.getD k 0 * (rows.getD k []).getD (64 * b + c) 0), lin_sparse]
  congr 1
  refine List.map_congr_left fun k _ => ?_
  rw [tv_mul, Nat.zero_add, Int.toNat_natCast]
theorem product_row (x y : Matrix) (sh : Nat) (hx : x.row.length = x.rows) (hc : ∀ r ∈ x.row, r.length = x.cols) : (product x y sh).row = x.row.map fun (r : List Int) => (List.range y.cols).map fun (j : Nat) => byte (near (SS r y.row (j / 64) (j % 64)) (2 ^ sh)) := by
  unfold product table
  dsimp only
  refine List.ext_getElem? fun i => ?_
  rw [List.getElem?_map, List.getElem?_map]
  by_cases hi : i < x.rows
  · have e1 : (List.range x.rows)[i]? = some i := List.getElem?_range hi
    have e2 : x.row[i]? = some (x.row.getD i []) := by simp [show i < x.row.length by omega]
    rw [e1, e2]
    show some _ = some _
    congr 1
    refine List.map_congr_left fun j _ => ?_
    have hl : (x.row.getD i []).length = x.cols := hc _ (List.mem_of_getElem? e2)
    congr 2
    rw [total_eq]
    unfold SS
    rw [hl]
    congr 1
    refine List.map_congr_left fun k _ => ?_
    show x.at_ i k * y.at_ k j = _
    unfold Matrix.at_
    rw [show 64 * (j / 64) + j % 64 = j by omega]
  · have e1 : (List.range x.rows)[i]? = none := by simp; omega
    have e2 : x.row[i]? = none := List.getElem?_eq_none (by omega)
    rw [e1, e2]
    rfl
theorem SS_bound (ra : List Int) (rows : List (List Int)) (hl : ra.length ≤ 4096) (ha : ∀ z ∈ ra, isB z) (hr : ∀ r ∈ rows, ∀ z ∈ r, isB z) (b c : Nat) : -67108864 ≤ SS ra rows b c ∧ SS ra rows b c ≤ 67108864 := by
  have g : ∀ (l : List Int), (∀ z ∈ l, isB z) → ∀ k, isB (l.getD k 0) := fun l h k => by
    rw [List.getD_eq_getElem?_getD]
    cases e : l[k]? with
    | none => unfold isB; decide
    | some z => exact h z (List.mem_of_getElem? e)
  have hk : ∀ k : Nat, -16384 ≤ ra.getD k 0 * (rows.getD k []).getD (64 * b + c) 0 ∧ ra.getD k 0 * (rows.getD k []).getD (64 * b + c) 0 ≤ 16384 := fun k => by
    have h1 := g ra ha k
    have h2 : isB ((rows.getD k []).getD (64 * b + c) 0) := by
      refine g _ (fun z hz => ?_) _
      rw [List.getD_eq_getElem?_getD] at hz
      cases e : rows[k]? with
      | none => rw [e] at hz; simp at hz
      | some r => rw [e] at hz; exact hr r (List.mem_of_getElem? e) z hz
    unfold isB at h1 h2
    generalize ra.getD k 0 = u at h1 ⊢
    generalize (rows.getD k []).getD (64 * b + c) 0 = v at h2 ⊢
    obtain ⟨a1, a2⟩ := h1
    obtain ⟨b1, b2⟩ := h2
    have m1 : u * v ≤ 16384 := by
      rcases Int.le_total 0 u with hu | hu
      · have := Int.mul_le_mul_of_nonneg_left b2 hu
        omega
      · have := Int.mul_le_mul_of_nonpos_left hu b1
        omega
    have m2 : -16384 ≤ u * v := by
      rcases Int.le_total 0 u with hu | hu
      · have := Int.mul_le_mul_of_nonneg_left b1 hu
        omega
      · have := Int.mul_le_mul_of_nonpos_left hu b2
        omega
    exact ⟨m2, m1⟩
  have := sum_bound (fun k => ra.getD k 0 * (rows.getD k []).getD (64 * b + c) 0) 16384 (by decide) hk ra.length
  unfold SS
  omega
theorem SS_out (ra : List Int) (rows : List (List Int)) (n b c : Nat) (hr : ∀ r ∈ rows, r.length = n) (h : n ≤ 64 * b + c) : SS ra rows b c = 0 := by
  unfold SS
  have e : ((List.range ra.length).map fun (k : Nat) => ra.getD k 0 * (rows.getD k []).getD (64 * b + c) 0) = (List.range ra.length).map fun _ => (0 : Int) := by
    refine List.map_congr_left fun k _ => ?_
    have : (rows.getD k []).getD (64 * b + c) 0 = 0 := by
      rw [List.getD_eq_getElem?_getD, List.getD_eq_getElem?_getD]
      cases e : rows[k]? with
      | none => rfl
      | some r =>
        have := hr r (List.mem_of_getElem? e)
        show (r[64 * b + c]?).getD 0 = 0
        rw [List.getElem?_eq_none (by omega)]
        rfl
    rw [this, Int.mul_zero]
  rw [e]
  generalize List.range ra.length = l
  induction l with
  | nil => rfl
  | cons _ _ ih => rw [List.map_cons, List.sum_cons, ih]; rfl
end GM
namespace GM
open Ql89
theorem ints_below : ∀ (n : Nat) (l : List Int), l.Nodup → (∀ z ∈ l, 0 ≤ z ∧ z < n) → l.length ≤ n
  | 0, l, _, h => by
    cases l with
    | nil => simp
    | cons a r => have := h a List.mem_cons_self; omega
  | n + 1, l, nd, h => by
    have h1 := ints_below n (l.filter fun (z : Int) => decide (z ≠ (n : Nat))) (nd.filter _) fun z hz => by
      rw [List.mem_filter] at hz
      have := h z hz.1
      have := of_decide_eq_true hz.2
      omega
    have h2 : (l.filter fun (z : Int) => decide (z = (n : Nat))).length ≤ 1 := by
      have nd2 := nd.filter fun (z : Int) => decide (z = (n : Nat))
      match hm : l.filter fun (z : Int) => decide (z = (n : Nat)) with
      | [] => simp
      | [_] => simp
      | a :: b :: r =>
        rw [hm] at nd2
        have ha : a ∈ l.filter fun (z : Int) => decide (z = (n : Nat)) := by rw [hm]; simp
        have hb : b ∈ l.filter fun (z : Int) => decide (z = (n : Nat)) := by rw [hm]; simp
        rw [List.mem_filter] at ha hb
        have e1 := of_decide_eq_true ha.2
        have e2 := of_decide_eq_true hb.2
        exact absurd (show a ∈ b :: r by rw [e1, ← e2]; exact List.mem_cons_self) (List.nodup_cons.mp (show (a :: b :: r).Nodup from nd2)).1
    have h3 : l.length = (l.filter fun (z : Int) => decide (z = (n : Nat))).length + (l.filter fun (z : Int) => decide (z ≠ (n : Nat))).length := by
      clear h1 h2 nd h
      induction l with
      | nil => rfl
      | cons a r ih =>
        rw [List.filter_cons, List.filter_cons, List.length_cons]
        by_cases c : a = (n : Nat)
        · rw [if_pos (decide_eq_true c), if_neg (by simpa using c), List.length_cons]
          omega
        · rw [if_neg (by simpa using c), if_pos (by simpa using c), List.length_cons]
          omega
    omega
theorem below_len {n : Nat} {kvs : List (Int × Int)} (h : Below n kvs) (nd : (kvs.map (·.1)).Nodup) : kvs.length ≤ n := by
  have := ints_below n (kvs.map (·.1)) nd fun z hz => by
    obtain ⟨p, hp, rfl⟩ := List.mem_map.mp hz
    exact h p hp
  rw [List.length_map] at this
  exact this
structure Pk (n : Nat) (r : List Int) (kvs : List (Int × Int)) : Prop where
  nd : (kvs.map (·.1)).Nodup
  below : Below (blocks n) kvs
  at_ : ∀ b, b < blocks n → at0 kvs (b : Nat) = tv (fun c => r.getD (64 * b + c) 0) 0
end GM

set_option Elab.async false
set_option linter.all false
set_option maxRecDepth 100000
set_option maxHeartbeats 4000000
namespace L2
open PySem PySem.Spec PyProof.Rows
section
variable {P : Program} {w : World} {K : PySem.W.Frag} {mg : Str → Option Value} {base : Heap}
theorem Fun.okX {C : Addr} {x qual : Str} {st : Stmt} {f : Addr} {fd : FuncData} {N ps : List Str} {k : Nat} {sp : Sp} (F : Fun K x qual st f fd) (S : FnScope N ps (defScope st)) (len : ∀ vs H Q E, sp vs H Q E → vs.length = ps.length)
    (hbody : ∀ (cdv : Value) (A : Around) (outer : List Env) (s : Shared) (H : Hp) (vs : List V) (Q : VK) (E : XK), Room k (A.deeper (envOfC qual (defScope st) s.heap.objs.size f cdv)) → sp vs H Q E →
      XOk C (cxOf (CXF P w C) P w K mg base N qual (defScope st) f cdv A outer s H E) E →
      PassesOwn (model P w) (cxOf (CXF P w C) P w K mg base N qual (defScope st) f cdv A outer s H E).A (cxOf (CXF P w C) P w K mg base N qual (defScope st) f cdv A outer s H E).env (cxOf (CXF P w C) P w K mg base N qual (defScope st) f cdv A outer s H E).xe →
      Top (cxOf (CXF P w C) P w K mg base N qual (defScope st) f cdv A outer s H E) →
      ∃ t, PSs (cxOf (CXF P w C) P w K mg base N qual (defScope st) f cdv A outer s H E) (defBody st) t ∧ t { nx := fun _ H' => Q .non H', rt := Q } (start N vs) H) : FnOk P w K mg base (CXF P w C) (k + 1) f fd ps sp := by
  obtain ⟨oc, od, kV, doc, pm, an, cdv, ct, osl, rfl, lk, hcd⟩ := F.ex
  refine fn_of lk hcd S len fun A outer s H vs Q E hr hsp => ?_
  exact hbody cdv A outer s H vs Q E hr hsp leave_xok pass_own ⟨_, _, _, rfl, rfl, rfl⟩
end
theorem for_rev {K : PySem.W.Frag} {a : Addr} {xs : List V} {g : TG} {tb : TS} {D : Ends} {σ : St} {H : Hp} (Pv : Nat → St → Hp → Prop) (h0 : Pv 0 σ H) (hl : ∀ i σ H, i ≤ xs.length → Pv i σ H → SqL K H a xs)
    (hs : ∀ i x σ H, xs.reverse[i]? = some x → Pv i σ H → g x σ H fun σ2 H2 => tb { D with nx := Pv (i + 1), ct := Pv (i + 1), bk := D.nx } σ2 H2) (hd : ∀ σ H, Pv xs.length σ H → D.nx σ H) :
    ∃ W : Nat → Nat → St → Hp → Prop, (∃ m, W 0 m σ H) ∧ ∀ i m σ H, W i m σ H →
      ((Itv K a xs.length).stop i H ∧ D.nx σ H) ∨ ((Itv K a xs.length).go i H ∧ ∃ N : St → Hp → Prop, (∀ σ' H', N σ' H' → ∃ m', m' < m ∧ W (i + 1) m' σ' H') ∧ ∀ x H', (Itv K a xs.length).yld i H x H' → g x σ H' fun σ2 H2 => tb { D with nx := N, ct := N, bk := D.nx } σ2 H2) := by
  refine ⟨fun i m σ H => m = xs.length - i ∧ i ≤ xs.length ∧ Pv i σ H, ⟨xs.length, by simp, Nat.zero_le _, h0⟩, ?_⟩
  rintro i m σ H ⟨rfl, hi, p⟩
  have q := hl i σ H hi p
  by_cases hlt : i < xs.length
  · have hx : xs[xs.length - 1 - i]? = some (xs[xs.length - 1 - i]'(by omega)) := by simp [show xs.length - 1 - i < xs.length by omega]
    refine .inr ⟨⟨hlt, xs, _, q, hx⟩, Pv (i + 1), fun σ' H' p' => ⟨xs.length - (i + 1), by omega, rfl, hlt, p'⟩, fun x H' y => ?_⟩
    obtain ⟨e, y⟩ := y
    subst e
    refine hs i x σ _ ?_ p
    rw [List.getElem?_reverse hlt]
    exact y xs q
  · have e : i = xs.length := by omega
    subst e
    exact .inl ⟨Nat.le_refl _, hd σ H p⟩
structure GFn (P : Program) (w : World) (K : PySem.W.Frag) (mg : Str → Option Value) (base : Heap) (CX : CXT) (k : Nat) (x : Str) (f : Addr) (fd : FuncData) (ps : List Str) (sp : Sp) : Prop where
  glo : mg x = some (.ref f)
  kp : PySem.W.keepIn K (.ref f) = true
  b : Binds K fd ps []
  ok : FnOk P w K mg base CX k f fd ps sp
structure MFn (P : Program) (w : World) (K : PySem.W.Frag) (mg : Str → Option Value) (base : Heap) (CX : CXT) (k : Nat) (C : Addr) (m : Str) (f : Addr) (fd : FuncData) (ps : List Str) (sp : Sp) : Prop where
  m : Meth K C m f
  b : Binds K fd ps []
  ok : FnOk P w K mg base CX k f fd ps sp
end L2
namespace Go
open PySem L2
def But (r : Addr) (H H' : Hp) : Prop := ∀ b o, b ≠ r → H b = some o → H' b = some o
theorem But.refl (r : Addr) (H : Hp) : But r H H := fun _ _ _ h => h
theorem But.trans {r : Addr} {H H1 H2 : Hp} (a : But r H H1) (b : But r H1 H2) : But r H H2 := fun c o n h => b c o n (a c o n h)
theorem But.new {r p : Addr} {H : Hp} {o : HO} (hp : H p = none) : But r H (upd H p o) := fun b u _ h => by rw [upd_ne (ne_of_none h hp)]; exact h
theorem But.upd {r p : Addr} {H H' : Hp} {o : HO} (h : But r H H') (hp : H p = none) : But r H (L2.upd H' p o) := fun b u n e => by rw [upd_ne (ne_of_none e hp)]; exact h b u n e
theorem But.updr {r : Addr} {H H' : Hp} {o : HO} (h : But r H H') : But r H (L2.upd H' r o) := fun b u n e => by rw [upd_ne n]; exact h b u n e
theorem But.none' {r p : Addr} {H H' : Hp} (h : But r H H') {o : HO} (hr : H' r = some o) (hp : H' p = .none) : H p = .none := by
  cases q : H p with
  | none => rfl
  | some u =>
    by_cases e : p = r
    · rw [e, hr] at hp; cases hp
    · rw [h p u e q] at hp; cases hp
theorem But.seq {K : PySem.W.Frag} {r C dx : Addr} {fs : List (Str × V)} {H H' : Hp} {a : Addr} {xs : List V} (e : But r H H') (hr : H r = some (.ins C dx fs)) (h : SqL K H a xs) : SqL K H' a xs := by
  rcases h with (h | ⟨o, h⟩) | h
  · exact .inl (.inl (e _ _ (ne_of h hr (by intro z; cases z)) h))
  · exact .inl (.inr ⟨o, e _ _ (ne_of h hr (by intro z; cases z)) h⟩)
  · exact .inr h
theorem da : ¬ (("data" : Str) = "at") := by decide +kernel
def rf (d : Addr) (p : Nat) : List (Str × V) := putF "at" (.int p) (putF "data" (.ref d) [])
theorem rf_eq (d : Addr) (p : Nat) : rf d p = ([("data", V.ref d), ("at", V.int p)] : List (Str × V)) := by
  show (if ("data" : Str) = "at" then [(("data" : Str), V.int p)] else (("data" : Str), V.ref d) :: putF "at" (V.int p) []) = ([("data", V.ref d), ("at", V.int p)] : List (Str × V))
  rw [if_neg da]
  all_goals rfl
theorem rf_data (d : Addr) (p : Nat) : (rf d p).lookup ("data" : Str) = some (.ref d) := by
  unfold rf
  rw [lookup_putF, if_neg da, lookup_putF, if_pos rfl]
theorem rf_at (d : Addr) (p : Nat) : (rf d p).lookup ("at" : Str) = some (.int p) := by
  unfold rf
  rw [lookup_putF, if_pos rfl]
theorem rf_no (d : Addr) (p : Nat) {m : Str} (h1 : ¬ m = "at") (h2 : ¬ m = "data") : (rf d p).lookup m = none := by
  unfold rf
  rw [lookup_putF, if_neg h1, lookup_putF, if_neg h2]
  all_goals rfl
theorem rf_put (d : Addr) (p q : Nat) : putF "at" (.int q) (rf d p) = rf d q := by
  rw [rf_eq, rf_eq]
  show (if ("data" : Str) = "at" then _ else (("data" : Str), V.ref d) :: (if ("at" : Str) = "at" then [(("at" : Str), V.int q)] else _)) = ([("data", V.ref d), ("at", V.int q)] : List (Str × V))
  rw [if_neg da, if_pos rfl]
theorem rf_len (d : Addr) (p : Nat) : (rf d p).length < 1000 := by rw [rf_eq]; show 2 < 1000; decide
def Bad (C r : Addr) (H : Hp) (E : XK) (pl kd : Nat) : Prop := ∀ dx H', But r H H' → H' dx = some (.xd (xf pl kd)) → E (.ref C) (some dx) H'
theorem Bad.mono {C r : Addr} {H H' : Hp} {E : XK} {pl kd : Nat} (h : Bad C r H E pl kd) (e : But r H H') : Bad C r H' E pl kd := fun dx H2 e2 hd => h dx H2 (e.trans e2) hd
structure Src (K : PySem.W.Frag) (H : Hp) (d : Addr) (s : List Int) : Prop where
  ls : SqL K H d (s.map V.int)
  byt : ∀ z ∈ s, GM.isByte z
  len : s.length ≤ 100000
theorem Src.but {K : PySem.W.Frag} {r C dx d : Addr} {fs : List (Str × V)} {H H' : Hp} {s : List Int} (S : Src K H d s) (e : But r H H') (hr : H r = some (.ins C dx fs)) : Src K H' d s := ⟨e.seq hr S.ls, S.byt, S.len⟩
theorem Src.mono {K : PySem.W.Frag} {d : Addr} {H H' : Hp} {s : List Int} (S : Src K H d s) (e : Same H H') : Src K H' d s := ⟨e.seq S.ls, S.byt, S.len⟩
def Fresh (H : Hp) (v : V) : Prop := ∀ L, v = .ref L → H L = none
theorem fresh_int {H : Hp} {i : Int} : Fresh H (.int i) := fun _ z => nomatch z
theorem fresh_ref {H : Hp} {L : Addr} (h : H L = none) : Fresh H (.ref L) := fun _ z => by cases z; exact h
structure Reads {α : Type} (K : PySem.W.Frag) (C CR r dx d : Addr) (s : List Int) (p : Nat) (act : Ql89.R α) (rel : α → V → Hp → Prop) (H : Hp) (Q : VK) (E : XK) : Prop where
  at_ : H r = some (.ins CR dx (rf d p))
  src : Src K H d s
  run : GM.Run act (Ql89Neutral.octets s) p (fun x q => ∀ v H', But r H H' → H' r = some (.ins CR dx (rf d q)) → rel x v H' → Fresh H v → Q v H') (Bad C r H E)
theorem Reads.call {α : Type} {K : PySem.W.Frag} {C CR r dx d : Addr} {s : List Int} {p : Nat} {act : Ql89.R α} {rel : α → V → Hp → Prop} {H H1 : Hp} {Q : VK} {E : XK} {ok : α → Nat → Prop} (S : Src K H1 d s) (e : But r H H1) (h1 : H1 r = some (.ins CR dx (rf d p)))
    (run : GM.Run act (Ql89Neutral.octets s) p ok (Bad C r H E)) (hok : ∀ x q, ok x q → ∀ v H', But r H1 H' → H' r = some (.ins CR dx (rf d q)) → rel x v H' → Fresh H1 v → Q v H') : Reads K C CR r dx d s p act rel H1 Q E :=
  ⟨h1, S, GM.run_mono run (fun x q h v H' e' h' r' f' => hok x q h v H' e' h' r' f') fun _ _ h => h.mono e⟩
def relN (x : Nat) (v : V) (_ : Hp) : Prop := v = .int (x : Int)
def relI (x : Int) (v : V) (_ : Hp) : Prop := v = .int x
structure Txt (K : PySem.W.Frag) (mg : Str → Option Value) (C CR fF : Addr) : Prop where
  xc : XCls K C fF
  cl : Cls K CR
  nD : NoAttr K CR "data"
  nA : NoAttr K CR "at"
  mgF : mg "Fault" = some (.ref C)
  len : mg "len" = none
  rev : mg "reversed" = none
  exc : mg "Exception" = none
section
variable (K : PySem.W.Frag) (C CR : Addr)
def spMk : Sp := fun vs H Q _ => ∃ (x dx d : Addr), vs = [.ref x, .ref d] ∧ H x = some (.ins CR dx []) ∧ Q .non (upd H x (.ins CR dx (rf d 0)))
def spU : Sp := fun vs H Q E => ∃ (r dx d : Addr) (s : List Int) (p w : Nat), vs = [.ref r, .int w] ∧ (1 ≤ w ∧ w ≤ 8) ∧ Reads K C CR r dx d s p (Ql89.num w) relN H Q E
def numS (w : Nat) : Ql89.R Int := Ql89.num w >>= fun x => pure (Ql89.signed (8 * w) x)
def spS : Sp := fun vs H Q E => ∃ (r dx d : Addr) (s : List Int) (p w : Nat), vs = [.ref r, .int w] ∧ (1 ≤ w ∧ w ≤ 8) ∧ Reads K C CR r dx d s p (numS w) relI H Q E
def spUW : Sp := fun vs H Q E => ∃ (r dx d : Addr) (s : List Int) (p w lo hi : Nat), vs = [.ref r, .int w, .int lo, .int hi] ∧ (1 ≤ w ∧ w ≤ 8) ∧ Reads K C CR r dx d s p (Ql89.numIn w lo hi) relN H Q E
def spW : Sp := fun vs H Q E => ∃ (x lo hi p : Int), vs = [.int x, .int lo, .int hi, .int p] ∧ if lo ≤ x ∧ x ≤ hi then Q (.int x) H else ∀ dx, H dx = none → E (.ref C) (some dx) (upd H dx (.xd (xf p 2)))
def spNF : Sp := fun vs H Q E => ∃ (r dx d : Addr) (s : List Int) (p : Nat), vs = [.ref r] ∧ H r = some (.ins CR dx (rf d p)) ∧ Src K H d s ∧ if p < s.length then ∀ dx, H dx = none → E (.ref C) (some dx) (upd H dx (.xd (xf p 5))) else Q .non H
def entry : Ql89.R Int := Ql89.here >>= fun p => Ql89.num 1 >>= fun x => if x = 0 then Ql89.fault p 3 else pure (Ql89.signed 8 x)
def spE : Sp := fun vs H Q E => ∃ (r dx d : Addr) (s : List Int) (p : Nat), vs = [.ref r] ∧ Reads K C CR r dx d s p entry relI H Q E
def Pairs (H : Hp) (ps : List (Int × Int)) (as : List Addr) : Prop := Paired (fun (p : Int × Int) (a : Addr) => H a = some (.tup [.int p.1, .int p.2])) ps as
def PairsAt (H : Hp) (L : Addr) (ps : List (Int × Int)) : Prop := ∃ as : List Addr, H L = some (.lst (as.map V.ref)) ∧ Pairs H ps as
def relP (first : Nat) (x : List Int) (v : V) (H : Hp) : Prop := ∃ L, v = .ref L ∧ PairsAt H L (GM.sparse first x)
def spB : Sp := fun vs H Q E => ∃ (r dx d : Addr) (s : List Int) (p first wide : Nat), vs = [.ref r, .int first, .int wide] ∧ wide ≤ 64 ∧ Reads K C CR r dx d s p (Ql89.readChunk wide) (relP first) H Q E
def spL : Sp := fun vs H Q E => ∃ (r dx d : Addr) (s : List Int) (p cols : Nat), vs = [.ref r, .int cols] ∧ (1 ≤ cols ∧ cols ≤ 4096) ∧ Reads K C CR r dx d s p (Ql89.readRow cols) (relP 0) H Q E
def Lines (H : Hp) (rows : List (List Int)) (as : List Addr) : Prop := Paired (fun (x : List Int) (a : Addr) => PairsAt H a (GM.sparse 0 x)) rows as
def LinesAt (H : Hp) (L : Addr) (rows : List (List Int)) : Prop := ∃ as : List Addr, H L = some (.lst (as.map V.ref)) ∧ Lines H rows as
end
theorem Pairs.but {r C dx : Addr} {fs : List (Str × V)} {H H' : Hp} {ps : List (Int × Int)} {as : List Addr} (h : Pairs H ps as) (e : But r H H') (hr : H r = some (.ins C dx fs)) : Pairs H' ps as :=
  Paired.mapP h fun p a q => e _ _ (ne_of q hr (by intro z; cases z)) q
theorem Pairs.mono {H H' : Hp} {ps : List (Int × Int)} {as : List Addr} (h : Pairs H ps as) (e : Same H H') : Pairs H' ps as := Paired.mapP h fun p a q => e _ _ q
theorem Pairs.upd {L : Addr} {xs ys : List V} {H : Hp} {ps : List (Int × Int)} {as : List Addr} (h : Pairs H ps as) (hL : H L = some (.lst xs)) : Pairs (L2.upd H L (.lst ys)) ps as :=
  Paired.mapP h fun p a q => by rw [upd_ne (ne_of q hL (by intro z; cases z))]; exact q
theorem paired_app {α β : Type} {F : α → β → Prop} : ∀ {l₁ : List α} {l₂ : List β} {m₁ : List α} {m₂ : List β}, Paired F l₁ l₂ → Paired F m₁ m₂ → Paired F (l₁ ++ m₁) (l₂ ++ m₂)
  | _, _, _, _, .nil, s => s
  | _, _, _, _, .cons r t, s => .cons r (paired_app t s)
theorem PairsAt.but {r C dx L : Addr} {fs : List (Str × V)} {H H' : Hp} {ps : List (Int × Int)} (h : PairsAt H L ps) (e : But r H H') (hr : H r = some (.ins C dx fs)) : PairsAt H' L ps := by
  obtain ⟨as, h1, h2⟩ := h
  exact ⟨as, e _ _ (ne_of h1 hr (by intro z; cases z)) h1, h2.but e hr⟩
theorem PairsAt.mono {L : Addr} {H H' : Hp} {ps : List (Int × Int)} (h : PairsAt H L ps) (e : Same H H') : PairsAt H' L ps := by
  obtain ⟨as, h1, h2⟩ := h
  exact ⟨as, e _ _ h1, h2.mono e⟩
theorem Lines.but {r C dx : Addr} {fs : List (Str × V)} {H H' : Hp} {rows : List (List Int)} {as : List Addr} (h : Lines H rows as) (e : But r H H') (hr : H r = some (.ins C dx fs)) : Lines H' rows as := Paired.mapP h fun p a q => q.but e hr
theorem Lines.mono {H H' : Hp} {rows : List (List Int)} {as : List Addr} (h : Lines H rows as) (e : Same H H') : Lines H' rows as := Paired.mapP h fun p a q => q.mono e
theorem LinesAt.mono {L : Addr} {H H' : Hp} {rows : List (List Int)} (h : LinesAt H L rows) (e : Same H H') : LinesAt H' L rows := by
  obtain ⟨as, h1, h2⟩ := h
  exact ⟨as, e _ _ h1, h2.mono e⟩
theorem cut_nat (s : List Int) (p w : Nat) (h : p + w ≤ s.length) : cutV (s.map V.int) (some (p : Int)) (some ((p : Int) + (w : Int))) = ((s.drop p).take w).map V.int := by
  unfold cutV
  rw [List.length_map, ← Int.natCast_add, HT.sIx_nat, HT.sIx_nat, Nat.min_eq_left (show p ≤ s.length by omega), Nat.min_eq_left h, List.map_take, List.map_drop]
  congr 1
  omega
end Go

set_option Elab.async false
set_option linter.all false
set_option maxRecDepth 100000
set_option maxHeartbeats 4000000
namespace L2
open PySem PySem.Spec PyProof.Rows
section
variable {X : Cx} {K : PySem.W.Frag} {pos : Pos}
theorem pg_tupK {es : List Expr} {k : Nat} {t : TGs} {n : Nat} (hK : X.K = K) (hc : X.calm = true) (h : PGs X es t)
    (hn : (assignEach es X.env).length = n := by rfl) (hst : (assignEach es X.env).findIdx? (·.1) = none := by rfl) : PG X (.Tuple es k pos) (gTup K n t) := by
  subst hK
  exact pg_tup hc h hn hst
def rLen (K : PySem.W.Frag) : List V → Hp → VK → Prop := fun xs H Q => ∃ p ys, xs = [.ref p] ∧ (SqL K H p ys ∨ SqT K H p ys) ∧ Q (.int ys.length) H
theorem call_lenK (h : X.K = K) : CallR X (.builtin "len") (rLen K) := by
  subst h
  exact call_len_seq
end
section
variable {K : PySem.W.Frag} {a b : Addr} {xs us : List V} {g : TG} {te : TE} {vs : List Nat} {σ : St} {H1 : Hp} {D : Addr} {Qd : Hp → Prop}
theorem Same.updN {H H' : Hp} {D : Addr} {o : HO} (s : Same H H') (hD : H D = none) : Same H (upd H' D o) := fun c o' e => by rw [upd_ne (ne_of_none e hD)]; exact s c o' e
theorem Same.new {H : Hp} {D : Addr} {o : HO} (hD : H D = none) : Same H (upd H D o) := Same.updN (Same.refl H) hD
theorem lc_listV (ys : List V) (hlen : ys.length = xs.length) (hz : xs.length ≤ sizeLine) (hL : SqL K H1 a xs) (hD : H1 D = none)
    (hs : ∀ (i : Nat) (x y : V) (H : Hp) (Q : VK), xs[i]? = some x → ys[i]? = some y → Same H1 H → (∀ H4, Same H H4 → Q y H4) → g x (wipe σ vs) H fun σ2 H2 => wipe σ2 vs = wipe σ vs ∧ te σ2 H2 Q)
    (hd : ∀ H, Same H1 H → H D = some (.lst ys) → Qd H) :
    ∃ W : Nat → Nat → Hp → Prop, (∃ m, W 0 m (upd H1 D (.lst []))) ∧ ∀ i m H, W i m H →
      ((Itl K a).stop i H ∧ Qd H) ∨ ((Itl K a).go i H ∧ ∃ Nx : Hp → Prop, (∀ H', Nx H' → ∃ m', m' < m ∧ W (i + 1) m' H') ∧ ∀ x H', (Itl K a).yld i H x H' → g x (wipe σ vs) H' fun σ2 H2 => wipe σ2 vs = wipe σ vs ∧ tYes σ2 H2 fun b H3 =>
        if b = true then te σ2 H3 fun y H4 => ∃ acc, H4 D = some (.lst acc) ∧ acc.length < sizeLine ∧ Nx (upd H4 D (.lst (acc ++ [y]))) else Nx H3) := by
  refine lc_list (fun i H => Same H1 H ∧ H D = some (.lst (ys.take i))) ⟨Same.new hD, by rw [upd_same, List.take_zero]⟩ (fun i H _ p => p.1.seq hL) ?_ fun H p => hd H p.1 (by rw [p.2, ← hlen, List.take_length])
  rintro i x H hx ⟨s1, h1⟩
  have hi : i < xs.length := (List.getElem?_eq_some_iff.mp hx).1
  have hy : ys[i]? = some (ys[i]'(by omega)) := by simp [show i < ys.length by omega]
  refine hs i x _ H _ hx hy s1 fun H4 s4 => ?_
  refine ⟨_, s4 _ _ h1, by rw [List.length_take]; omega, (s1.trans s4).updN hD, ?_⟩
  rw [upd_same, List.take_add_one, hy]
  rfl
theorem lc_rangeV {lo : Int} {n : Nat} (ys : List V) (hlen : ys.length = n) (hz : n ≤ sizeLine) (hD : H1 D = none)
    (hs : ∀ (i : Nat) (y : V) (H : Hp) (Q : VK), i < n → ys[i]? = some y → Same H1 H → (∀ H4, Same H H4 → Q y H4) → g (.int (lo + i)) (wipe σ vs) H fun σ2 H2 => wipe σ2 vs = wipe σ vs ∧ te σ2 H2 Q)
    (hd : ∀ H, Same H1 H → H D = some (.lst ys) → Qd H) :
    ∃ W : Nat → Nat → Hp → Prop, (∃ m, W 0 m (upd H1 D (.lst []))) ∧ ∀ i m H, W i m H →
      ((Itr lo n).stop i H ∧ Qd H) ∨ ((Itr lo n).go i H ∧ ∃ Nx : Hp → Prop, (∀ H', Nx H' → ∃ m', m' < m ∧ W (i + 1) m' H') ∧ ∀ x H', (Itr lo n).yld i H x H' → g x (wipe σ vs) H' fun σ2 H2 => wipe σ2 vs = wipe σ vs ∧ tYes σ2 H2 fun b H3 =>
        if b = true then te σ2 H3 fun y H4 => ∃ acc, H4 D = some (.lst acc) ∧ acc.length < sizeLine ∧ Nx (upd H4 D (.lst (acc ++ [y]))) else Nx H3) := by
  refine lc_range (fun i H => Same H1 H ∧ H D = some (.lst (ys.take i))) ⟨Same.new hD, by rw [upd_same, List.take_zero]⟩ ?_ fun H p => hd H p.1 (by rw [p.2, ← hlen, List.take_length])
  rintro i H hi ⟨s1, h1⟩
  have hy : ys[i]? = some (ys[i]'(by omega)) := by simp [show i < ys.length by omega]
  refine hs i _ H _ hi hy s1 fun H4 s4 => ?_
  refine ⟨_, s4 _ _ h1, by rw [List.length_take]; omega, (s1.trans s4).updN hD, ?_⟩
  rw [upd_same, List.take_add_one, hy]
  rfl
theorem for_zip {tb : TS} {De : Ends} {H : Hp} (Pv : Nat → St → Hp → Prop) (h0 : Pv 0 σ H) (hl : ∀ i σ H, Pv i σ H → SqL K H a xs ∧ SqL K H b us)
    (hs : ∀ (i : Nat) (x u : V) (T : Addr) (σ : St) (H : Hp), xs[i]? = some x → us[i]? = some u → Pv i σ H → H T = none → g (.ref T) σ (upd H T (.tup [x, u])) fun σ2 H2 => tb { De with nx := Pv (i + 1), ct := Pv (i + 1), bk := De.nx } σ2 H2)
    (hd : ∀ σ H, Pv (min xs.length us.length) σ H → De.nx σ H) :
    ∃ W : Nat → Nat → St → Hp → Prop, (∃ m, W 0 m σ H) ∧ ∀ i m σ H, W i m σ H →
      ((Itz K a b).stop i H ∧ De.nx σ H) ∨ ((Itz K a b).go i H ∧ ∃ N : St → Hp → Prop, (∀ σ' H', N σ' H' → ∃ m', m' < m ∧ W (i + 1) m' σ' H') ∧ ∀ x H', (Itz K a b).yld i H x H' → g x σ H' fun σ2 H2 => tb { De with nx := N, ct := N, bk := De.nx } σ2 H2) := by
  refine ⟨fun i m σ H => m = min xs.length us.length - i ∧ i ≤ min xs.length us.length ∧ Pv i σ H, ⟨_, rfl, Nat.zero_le _, h0⟩, ?_⟩
  rintro i m σ H ⟨rfl, hi, p⟩
  obtain ⟨q1, q2⟩ := hl i σ H p
  by_cases hlt : i < min xs.length us.length
  · have l1 : i < xs.length := by omega
    have l2 : i < us.length := by omega
    refine .inr ⟨⟨xs, us, xs[i], us[i], q1, q2, by simp [l1], by simp [l2]⟩, Pv (i + 1), fun σ' H' p' => ⟨min xs.length us.length - (i + 1), by omega, rfl, hlt, p'⟩, fun v H' y => ?_⟩
    obtain ⟨T, x, u, rfl, hT, rfl, y1, y2⟩ := y
    exact hs i x u T σ H (y1 xs q1) (y2 us q2) p hT
  · have e : i = min xs.length us.length := by omega
    subst e
    exact .inl ⟨⟨xs, us, q1, q2, by omega⟩, hd σ H p⟩
end
end L2

set_option Elab.async false
set_option linter.all false
set_option maxRecDepth 100000
set_option maxHeartbeats 4000000
namespace L2
open PySem PySem.Spec PyProof.Rows
theorem iteNA {c A B : Prop} [Decidable c] (hc : ¬ c) (h : A) : if (!decide c) = true then A else B := by
  rw [decide_eq_false hc]
  exact iteT h
section
variable {X : Cx} {K : PySem.W.Frag}
def rGetL (K : PySem.W.Frag) : V → V → Hp → VK → Prop := fun x y H Q => ∃ (p : Addr) (xs : List V) (i : Int) (j : Nat) (v : V), x = .ref p ∧ y = .int i ∧ SqL K H p xs ∧ i = (j : Int) ∧ xs[j]? = some v ∧ Q v H
theorem get_list : PGet X (rGetL X.K) := by
  intro pins s σ H o i ov iv Q I ro ri h
  obtain ⟨p, xs, k, j, v, rfl, rfl, hs, rfl, hv, q⟩ := h
  cases ro
  obtain ⟨t, rfl⟩ := ri
  obtain ⟨its, r, pl, hz⟩ := I.list hs
  obtain ⟨w, ew, rw'⟩ := r.get hv
  have hj : j < xs.length := (List.getElem?_eq_some_iff.mp hv).1
  have hn := line63
  exact wpAny_getItem_list pl.isList (by omega) (by omega) (by rw [Int.toNat_natCast]; simpa using ew) ⟨v, H, I, rw', q⟩
end
end L2
namespace Go
open PySem L2
theorem paired_get {α β : Type} {F : α → β → Prop} : ∀ {l₁ : List α} {l₂ : List β} {i : Nat} {b : β}, Paired F l₁ l₂ → l₂[i]? = some b → ∃ a, l₁[i]? = some a ∧ F a b
  | _, _, _, _, .nil, e => by simp at e
  | _, _, 0, _, .cons r _, e => by simp at e; subst e; exact ⟨_, rfl, r⟩
  | _, _, i + 1, b, .cons _ t, e => by
    obtain ⟨a, h1, h2⟩ := paired_get (i := i) (b := b) t (by simpa using e)
    exact ⟨a, by simpa using h1, h2⟩
theorem paired_of {α β : Type} {F : α → β → Prop} : ∀ {l₁ : List α} {l₂ : List β}, l₁.length = l₂.length → (∀ (i : Nat) a b, l₁[i]? = some a → l₂[i]? = some b → F a b) → Paired F l₁ l₂
  | [], [], _, _ => .nil
  | [], _ :: _, h, _ => by simp at h
  | _ :: _, [], h, _ => by simp at h
  | a :: l₁, b :: l₂, h, f => .cons (f 0 a b (by simp) (by simp)) (paired_of (by simpa using h) fun i x y hx hy => f (i + 1) x y (by simpa using hx) (by simpa using hy))
theorem paired_both {α β : Type} {F : α → β → Prop} {l₁ : List α} {l₂ : List β} (h : Paired F l₁ l₂) {i : Nat} {a : α} {b : β} (ha : l₁[i]? = some a) (hb : l₂[i]? = some b) : F a b := by
  obtain ⟨a', e, q⟩ := paired_get h hb
  rw [ha] at e
  cases e
  exact q
def Small (r : List Int) : Prop := ∀ z ∈ r, -4294967296 < z ∧ z < 4294967296
def IntsAt (H : Hp) (a : Addr) (l : List Int) : Prop := H a = some (.lst (l.map V.int))
end Go

namespace Go
open PySem L2
def top (i : Nat) : Stmt := PySem.Challenge.pw_goingon_s08_few_product.main.body.getD i (.Pass ⟨0, 0, 0, 0⟩)
abbrev sOut : Stmt := top 3
abbrev sNear : Stmt := top 4
abbrev sHeld : Stmt := top 5
abbrev sFI : Stmt := inClass (top 7) 0
abbrev sRI : Stmt := inClass (top 8) 0
abbrev sU : Stmt := inClass (top 8) 1
abbrev sS : Stmt := inClass (top 8) 2
abbrev sUW : Stmt := inClass (top 8) 3
abbrev sNF : Stmt := inClass (top 8) 5
abbrev sW : Stmt := top 9
abbrev sMI : Stmt := inClass (top 15) 0
abbrev sShape : Stmt := top 16
abbrev sRM : Stmt := top 17
abbrev sRL : Stmt := top 18
abbrev sRB : Stmt := top 19
abbrev sRE : Stmt := top 20
abbrev sBC : Stmt := top 21
abbrev sFSz : Stmt := top 22
abbrev sHM : Stmt := top 23
abbrev sFB : Stmt := top 24
abbrev sLiB : Stmt := top 25
abbrev sLit : Stmt := top 26
abbrev sHeL : Stmt := top 28
abbrev sProd : Stmt := top 33
abbrev sPaL : Stmt := top 34
abbrev sPrL : Stmt := top 35
abbrev sSlot : Stmt := top 36
abbrev sFew : Stmt := top 40
abbrev sWM : Stmt := top 41
abbrev sSM : Stmt := top 42
abbrev sFAn : Stmt := top 43
end Go

set_option Elab.async false
set_option linter.all false
set_option maxRecDepth 100000
set_option maxHeartbeats 4000000
namespace Go
open PySem L2
section
variable {P : Program} {w : World} {K : PySem.W.Frag} {mg : Str → Option Value} {base : Heap} {C CR fF : Addr}
theorem scFI : FnScope ["self", "place", "kind"] ["self", "place", "kind"] (defScope sFI) := ⟨rfl, rfl, rfl, by decide +kernel, rfl, by decide +kernel, by decide +kernel⟩
theorem ok_FI {fd : FuncData} (F : Fun K "__init__" "Fault.__init__" sFI fF fd) (T : Txt K mg C CR fF) : FnOk P w K mg base CX0 1 fF fd ["self", "place", "kind"] (spInit C) := by
  refine F.ok scFI (fun vs H Q E h => ?_) (fun cdv A outer s H vs Q E hr h => ?_)
  · obtain ⟨a, pl, kd, rfl, _⟩ := h
    rfl
  · obtain ⟨a, pl, kd, rfl, ha, k⟩ := h
    refine ⟨_, pss_cons (ps_expr (pe_xinit T.xc rfl T.exc (pv 0))) (pss_cons (ps_xnew T.xc no_place (Or.inl rfl) (pv 0) (pv 1) rfl) (pss_one (ps_xold T.xc no_kind (Or.inr rfl) (pv 0) (pv 2) rfl))), ?_⟩
    refine ⟨_, rfl, a, none, rfl, ha, ?_⟩
    refine ⟨_, rfl, _, rfl, a, rfl, ha, fun dx hdx => ?_⟩
    have ne : dx ≠ a := (ne_of_none ha hdx).symm
    refine ⟨_, rfl, _, rfl, a, dx, _, rfl, upd_same, by rw [upd_ne ne, upd_same], by show 1 < 1000; decide, ?_⟩
    have e : upd (upd (upd H dx (.xd (putF "place" (.int pl) []))) a (XO C a (some dx))) dx (.xd (putF "kind" (.int kd) (putF "place" (.int pl) []))) = upd (upd H dx (.xd (xf pl kd))) a (XO C a (some dx)) := by
      funext b
      by_cases h1 : b = dx
      · subst h1; rw [upd_same, upd_ne ne, upd_same]; rfl
      · rw [upd_ne h1]
        by_cases h2 : b = a
        · subst h2; rw [upd_same, upd_same]
        · rw [upd_ne h2, upd_ne h1, upd_ne h2, upd_ne h1]
    show Q .non _
    rw [e]
    exact k dx hdx
theorem scRI : FnScope ["self", "data"] ["self", "data"] (defScope sRI) := ⟨rfl, rfl, rfl, by decide +kernel, rfl, by decide +kernel, by decide +kernel⟩
theorem ok_RI {f : Addr} {fd : FuncData} (F : Fun K "__init__" "Reader.__init__" sRI f fd) (T : Txt K mg C CR fF) : FnOk P w K mg base CX0 1 f fd ["self", "data"] (spMk CR) := by
  refine F.ok scRI (fun vs H Q E h => ?_) (fun cdv A outer s H vs Q E hr h => ?_)
  · obtain ⟨x, dx, d, rfl, _⟩ := h
    rfl
  · obtain ⟨x, dx, d, rfl, hx, k⟩ := h
    refine ⟨_, pss_cons (ps_fld (pv 0) (pv 1) rfl) (pss_one (ps_fld (pv 0) pe_int rfl)), ?_⟩
    refine ⟨_, rfl, _, rfl, x, CR, dx, _, rfl, hx, T.cl, T.nD, (by show 0 < 1000; decide), _, rfl, x, CR, dx, _, rfl, upd_same, T.cl, T.nA, (by show 1 < 1000; decide), ?_⟩
    show Q .non _
    rw [upd_upd]
    exact k
theorem scU : FnScope ["self", "size", "end", "number", "digit"] ["self", "size"] (defScope sU) := ⟨rfl, rfl, rfl, by decide +kernel, rfl, by decide +kernel, by decide +kernel⟩
theorem fold_take (l : List Int) (i : Nat) (z : Int) (h : l[i]? = some z) : (l.take (i + 1)).foldl (fun (n b : Int) => n * 256 + b) 0 = (l.take i).foldl (fun (n b : Int) => n * 256 + b) 0 * 256 + z := by
  rw [List.take_add_one, h, List.foldl_append]
  rfl
theorem ok_U {f : Addr} {fd fdF : FuncData} (F : Fun K "unsigned" "Reader.unsigned" sU f fd) (T : Txt K mg C CR fF) (FF : FnOk P w K mg base CX0 1 fF fdF ["self", "place", "kind"] (spInit C)) (bF : Binds K fdF ["self", "place", "kind"] []) :
    FnOk P w K mg base (CXF P w C) 3 f fd ["self", "size"] (spU K C CR) := by
  refine F.okX (C := C) scU (fun vs H Q E h => ?_) (fun cdv A outer st H vs Q E hr h hX po hT => ?_)
  · obtain ⟨r, dx, d, s, p, w, rfl, _⟩ := h
    rfl
  · obtain ⟨r, dx, d, s, p, w', rfl, ⟨hw1, hw8⟩, R⟩ := h
    have hr2 : Room 2 _ := hr
    refine ⟨_, pss_cons (ps_set (i := 2) scU.nd rfl (Or.inl rfl) (pe_op op_add (pe_fld (pv 0) rfl) (pv 1)))
      (pss_cons (ps_if (pt_cmpR op_gt (pv 2) (pe_callB call_len_seq (by rfl) T.len PySem.boot_len (pa_cons (pe_fld (pv 0) rfl) pa_nil)) (nomark _))
        (pss_one (ps_raise T.xc FF hr2 bF (fun _ _ _ _ z => z) rfl rfl T.mgF hX (pa_cons (pe_callB call_len_seq (by rfl) T.len PySem.boot_len (pa_cons (pe_fld (pv 0) rfl) pa_nil)) (pa_cons pe_int pa_nil)))) pss_nil)
      (pss_cons (ps_set (i := 3) scU.nd rfl (Or.inl rfl) pe_int)
      (pss_cons (ps_for po rfl (pi_reversed rfl T.rev (pa_cons (pe_slice sl_list (pe_fld (pv 0) rfl) (po_some (pe_fld (pv 0) rfl)) (po_some (pv 2))) pa_nil)) (pg_name (i := 4) scU.nd rfl (Or.inl rfl))
        (pss_one (ps_set (i := 3) scU.nd rfl (Or.inl rfl) (pe_op op_add (pe_op op_mul (pv 3) pe_int) (pv 4)))))
      (pss_cons (ps_fld (pv 0) (pv 2) rfl) (pss_one (ps_ret (pv 3))))))), ?_⟩
    have hlen : (s.map V.int).length = s.length := List.length_map _
    -- end = self.at + size
    refine ⟨_, rfl, r, CR, dx, _, _, rfl, R.at_, T.cl, T.nA, rf_at _ _, _, rfl, _, _, rfl, rfl, ?_⟩
    -- if end > len(self.data)
    refine ⟨_, rfl, _, rfl, r, CR, dx, _, _, rfl, R.at_, T.cl, T.nD, rf_data _ _, d, _, rfl, .inl R.src.ls, _, _, rfl, rfl, _, rfl, ?_⟩
    have run := R.run
    rw [GM.run_num, GM.octets_length] at run
    rw [hlen]
    refine ite2 (fun hc => ?_) (fun hc => ?_)
    · have hc := of_decide_eq_true hc
      rw [if_pos (by omega)] at run
      refine ⟨_, rfl, r, CR, dx, _, _, rfl, R.at_, T.cl, T.nD, rf_data _ _, d, _, rfl, .inl R.src.ls, _, _, rfl, fun dx' hdx => ?_⟩
      rw [hlen]
      exact run dx' _ (But.new hdx) upd_same
    · have hc : ¬ ((s.length : Int) < (p : Int) + (w' : Int)) := fun z => hc (decide_eq_true z)
      rw [if_neg (by omega)] at run
      -- the slice, from its end
      refine ⟨_, rfl, r, CR, dx, _, _, rfl, R.at_, T.cl, T.nD, rf_data _ _, _, rfl, r, CR, dx, _, _, rfl, R.at_, T.cl, T.nA, rf_at _ _, _, rfl, _, rfl, _, rfl, d, _, rfl, R.src.ls, fun L hL => ?_⟩
      rw [cut_nat s p w' (by omega)]
      have hLr : r ≠ L := ne_of_none R.at_ hL
      generalize hys : (s.drop p).take w' = ys
      have yl : (ys.map V.int).length = ys.length := List.length_map _
      refine ⟨L, _, rfl, SqL.of upd_same, for_rev (fun i σ H' => H' = upd H L (.lst (ys.map V.int)) ∧ ∃ v, σ = [some (.ref r), some (.int w'), some (.int ((p : Int) + w')), some (.int ((ys.reverse.take i).foldl (fun (n b : Int) => n * 256 + b) 0)), v]) ⟨rfl, none, rfl⟩ (fun i σ H' _ ⟨e, _⟩ => by rw [e]; exact SqL.of upd_same) ?_ ?_⟩
      · rintro i x σ H' hx ⟨rfl, v, rfl⟩
        rw [← List.map_reverse, List.getElem?_map] at hx
        obtain ⟨z, hz, rfl⟩ := Option.map_eq_some_iff.mp hx
        refine ⟨_, rfl, _, _, rfl, rfl, .inr ⟨by decide, by decide⟩, _, rfl, _, _, rfl, rfl, rfl, some (.int z), ?_⟩
        rw [fold_take _ _ _ hz]
        rfl
      · rintro σ H' ⟨rfl, v, rfl⟩
        refine ⟨_, rfl, _, rfl, r, CR, dx, _, rfl, by rw [upd_ne hLr]; exact R.at_, T.cl, T.nA, rf_len _ _, _, rfl, ?_⟩
        have e1 : (p : Int) + (w' : Int) = ((p + w' : Nat) : Int) := by omega
        rw [yl, e1, rf_put, List.take_of_length_le (by simp), GM.val_fold, GM.val_octets ys (fun z hz => R.src.byt z (List.mem_of_mem_drop (List.mem_of_mem_take (hys ▸ hz)))), ← hys, ← GM.octets_slice]
        exact run _ _ (But.updr (But.new hL)) upd_same rfl fresh_int
end
end Go

set_option Elab.async false
set_option linter.all false
set_option maxRecDepth 100000
set_option maxHeartbeats 4000000
namespace Go
open PySem L2
section
variable {P : Program} {w : World} {K : PySem.W.Frag} {mg : Str → Option Value} {base : Heap}
def spOut : Sp := fun vs H Q _ => ∃ (x lo hi : Int), vs = [.int x, .int lo, .int hi] ∧ Q (.bl (decide (x < lo ∨ hi < x))) H
theorem scOut : FnScope ["number", "low", "high"] ["number", "low", "high"] (defScope sOut) := ⟨rfl, rfl, rfl, by decide +kernel, rfl, by decide +kernel, by decide +kernel⟩
theorem ok_out {f : Addr} {fd : FuncData} (F : Fun K "outside" "outside" sOut f fd) : FnOk P w K mg base CX0 1 f fd ["number", "low", "high"] spOut := by
  refine F.ok scOut (fun vs H Q E h => ?_) (fun cdv A outer s H vs Q E hr h => ?_)
  · obtain ⟨x, lo, hi, rfl, _⟩ := h
    rfl
  · obtain ⟨x, lo, hi, rfl, h⟩ := h
    refine ⟨_, pss_one (ps_ret (pe_or (pe_cmpR op_lt (pv 0) (pv 1) (nomark _)) (pe_one (pe_cmpR op_gt (pv 0) (pv 2) (nomark _))))), ?_⟩
    refine ⟨_, rfl, _, rfl, _, _, rfl, rfl, _, rfl, ?_⟩
    refine ite2 (fun hc => ?_) (fun hc => ?_)
    · have hc := of_decide_eq_true hc
      rw [decide_eq_true (Or.inl hc)] at h
      exact h
    · have hc : ¬ x < lo := fun z => hc (decide_eq_true z)
      refine ⟨_, rfl, _, rfl, _, _, rfl, rfl, ?_⟩
      have e : decide (x < lo ∨ hi < x) = decide (hi < x) := by simp [hc]
      rw [e] at h
      exact h
abbrev OutFn (P : Program) (w : World) (K : PySem.W.Frag) (mg : Str → Option Value) (base : Heap) (f : Addr) (fd : FuncData) : Prop := GFn P w K mg base CX0 1 "outside" f fd ["number", "low", "high"] spOut
end
end Go

set_option Elab.async false
set_option linter.all false
set_option maxRecDepth 100000
set_option maxHeartbeats 4000000
namespace Go
open PySem L2
section
variable {P : Program} {w : World} {K : PySem.W.Frag} {mg : Str → Option Value} {base : Heap} {C CR fF : Addr}
theorem scW : FnScope ["number", "low", "high", "start"] ["number", "low", "high", "start"] (defScope sW) := ⟨rfl, rfl, rfl, by decide +kernel, rfl, by decide +kernel, by decide +kernel⟩
theorem ok_W {f fO : Addr} {fd fdF fdO : FuncData} (F : Fun K "within" "within" sW f fd) (T : Txt K mg C CR fF) (FF : FnOk P w K mg base CX0 1 fF fdF ["self", "place", "kind"] (spInit C)) (bF : Binds K fdF ["self", "place", "kind"] []) (O : OutFn P w K mg base fO fdO) :
    FnOk P w K mg base (CXF P w C) 3 f fd ["number", "low", "high", "start"] (spW C) := by
  refine F.okX (C := C) scW (fun vs H Q E h => ?_) (fun cdv A outer st H vs Q E hr h hX po hT => ?_)
  · obtain ⟨x, lo, hi, p, rfl, _⟩ := h
    rfl
  · obtain ⟨x, lo, hi, p, rfl, h⟩ := h
    have hr2 : Room 2 _ := hr
    have hr1 : Room 1 _ := hr.mono (by decide)
    refine ⟨_, pss_cons (ps_if (pt_truth (pe_call O.ok hr1 rfl O.glo O.kp O.b .nil pass0 (pa_cons (pv 0) (pa_cons (pv 1) (pa_cons (pv 2) pa_nil)))) (fun _ => rfl))
      (pss_one (ps_raise T.xc FF hr2 bF (fun _ _ _ _ z => z) rfl rfl T.mgF hX (pa_cons (pv 3) (pa_cons pe_int pa_nil)))) pss_nil) (pss_one (ps_ret (pv 0))), ?_⟩
    refine ⟨_, rfl, _, rfl, _, rfl, _, _, _, rfl, _, rfl, ?_⟩
    refine ite2 (fun hc => ?_) (fun hc => ?_)
    · have hc := of_decide_eq_true hc
      rw [if_neg (by omega)] at h
      exact ⟨_, rfl, _, _, rfl, h⟩
    · have hc : ¬ (x < lo ∨ hi < x) := fun z => hc (decide_eq_true z)
      rw [if_pos (by omega)] at h
      exact ⟨_, rfl, h⟩
theorem scS : FnScope ["self", "size", "number", "bits"] ["self", "size"] (defScope sS) := ⟨rfl, rfl, rfl, by decide +kernel, rfl, by decide +kernel, by decide +kernel⟩
theorem noU (d : Addr) (p : Nat) : (rf d p).lookup ("unsigned" : Str) = none := rf_no d p (by decide +kernel) (by decide +kernel)
theorem noS (d : Addr) (p : Nat) : (rf d p).lookup ("signed" : Str) = none := rf_no d p (by decide +kernel) (by decide +kernel)
theorem noUW (d : Addr) (p : Nat) : (rf d p).lookup ("unsigned_within" : Str) = none := rf_no d p (by decide +kernel) (by decide +kernel)
theorem noNF (d : Addr) (p : Nat) : (rf d p).lookup ("nothing_follows" : Str) = none := rf_no d p (by decide +kernel) (by decide +kernel)
theorem signed_test (x b : Nat) (hb : 1 ≤ b) : (((x : Int) / 2 ^ ((b : Int) - 1).toNat != 0) = true ↔ ¬ x < 2 ^ (b - 1)) := by
  have e : ((b : Int) - 1).toNat = b - 1 := by omega
  rw [e]
  have e2 : (x : Int) / 2 ^ (b - 1) = ((x / 2 ^ (b - 1) : Nat) : Int) := by rw [Int.natCast_ediv]; simp
  rw [e2, bne_iff_ne]
  have hp : 0 < 2 ^ (b - 1) := Nat.two_pow_pos _
  constructor
  · intro h c
    exact h (by rw [Nat.div_eq_of_lt c]; rfl)
  · intro h c
    have : x / 2 ^ (b - 1) = 0 := by omega
    rcases Nat.div_eq_zero_iff.mp this with z | z <;> omega
theorem ok_S {f fU : Addr} {fd fdU : FuncData} (F : Fun K "signed" "Reader.signed" sS f fd) (T : Txt K mg C CR fF) (U : MFn P w K mg base (CXF P w C) 3 CR "unsigned" fU fdU ["self", "size"] (spU K C CR)) :
    FnOk P w K mg base (CXF P w C) 4 f fd ["self", "size"] (spS K C CR) := by
  refine F.okX (C := C) scS (fun vs H Q E h => ?_) (fun cdv A outer st H vs Q E hr h hX po hT => ?_)
  · obtain ⟨r, dx, d, s, p, w, rfl, _⟩ := h
    rfl
  · obtain ⟨r, dx, d, s, p, w', rfl, ⟨hw1, hw8⟩, R⟩ := h
    refine ⟨_, pss_cons (ps_set (i := 2) scS.nd rfl (Or.inl rfl) (pe_meth (pv 0) T.cl U.m U.ok hr U.b .nil (passX hX) (pa_cons (pv 1) pa_nil)))
      (pss_cons (ps_set (i := 3) scS.nd rfl (Or.inl rfl) (pe_op op_mul pe_int (pv 1)))
      (pss_one (ps_ret (pe_ifExp (pt_truth (pe_op op_shr (pv 2) (pe_op op_sub (pv 3) pe_int)) (fun _ => rfl)) (pe_op op_sub (pv 2) (pe_op op_shl pe_int (pv 3))) (pv 2))))), ?_⟩
    have run := R.run
    unfold numS at run
    rw [GM.run_bind] at run
    refine ⟨_, rfl, r, dx, _, rfl, R.at_, noU _ _, _, rfl, r, dx, d, s, p, w', rfl, ⟨hw1, hw8⟩, Reads.call R.src (But.refl _ _) R.at_ run fun x q hok v H' e h' hv _ => ?_⟩
    have hv : v = .int (x : Int) := hv
    subst hv
    have hok : ∀ v H', But r H H' → H' r = some (.ins CR dx (rf d q)) → relI (Ql89.signed (8 * w') x) v H' → Fresh H v → Q v H' := hok
    refine ⟨_, rfl, _, _, rfl, rfl, .inl ⟨by decide, by decide⟩, ?_⟩
    have e8 : (8 : Int) * (w' : Int) = ((8 * w' : Nat) : Int) := by omega
    refine ⟨_, rfl, _, rfl, _, _, rfl, rfl, _, _, rfl, rfl, (by show (0 : Int) ≤ 8 * (w' : Int) - 1; omega), _, rfl, ?_⟩
    refine ite2 (fun hc => ?_) (fun hc => ?_)
    · have hc : ((x : Int) / 2 ^ (8 * (w' : Int) - 1).toNat != 0) = true := hc
      rw [e8] at hc
      have hc := (signed_test x (8 * w') (by omega)).mp hc
      refine ⟨_, rfl, _, rfl, _, _, rfl, rfl, ⟨(by show (0 : Int) ≤ 8 * (w' : Int); omega), (by show 8 * (w' : Int) ≤ 1000000; omega), by decide⟩, _, _, rfl, rfl, ?_⟩
      refine hok _ _ e h' ?_ fresh_int
      show V.int ((x : Int) - 1 * 2 ^ (8 * (w' : Int)).toNat) = V.int _
      unfold Ql89.signed
      rw [if_neg hc, e8, Int.one_mul, Int.toNat_natCast]
      simp
    · have hc : x < 2 ^ (8 * w' - 1) := by
        by_cases z : x < 2 ^ (8 * w' - 1)
        · exact z
        · refine absurd ((signed_test x (8 * w') (by omega)).mpr z) ?_
          rw [← e8]
          exact hc
      refine ⟨_, rfl, hok _ _ e h' ?_ fresh_int⟩
      show V.int _ = V.int _
      unfold Ql89.signed
      rw [if_pos hc]
theorem scUW : FnScope ["self", "size", "low", "high", "start"] ["self", "size", "low", "high"] (defScope sUW) := ⟨rfl, rfl, rfl, by decide +kernel, rfl, by decide +kernel, by decide +kernel⟩
theorem ok_UW {f fU fW : Addr} {fd fdU fdW : FuncData} (F : Fun K "unsigned_within" "Reader.unsigned_within" sUW f fd) (T : Txt K mg C CR fF) (U : MFn P w K mg base (CXF P w C) 3 CR "unsigned" fU fdU ["self", "size"] (spU K C CR))
    (W : GFn P w K mg base (CXF P w C) 3 "within" fW fdW ["number", "low", "high", "start"] (spW C)) : FnOk P w K mg base (CXF P w C) 4 f fd ["self", "size", "low", "high"] (spUW K C CR) := by
  refine F.okX (C := C) scUW (fun vs H Q E h => ?_) (fun cdv A outer st H vs Q E hr h hX po hT => ?_)
  · obtain ⟨r, dx, d, s, p, w, lo, hi, rfl, _⟩ := h
    rfl
  · obtain ⟨r, dx, d, s, p, w', lo, hi, rfl, hw, R⟩ := h
    refine ⟨_, pss_cons (ps_set (i := 4) scUW.nd rfl (Or.inl rfl) (pe_fld (pv 0) rfl))
      (pss_one (ps_ret (pe_call W.ok hr rfl W.glo W.kp W.b .nil (passX hX) (pa_cons (pe_meth (pv 0) T.cl U.m U.ok hr U.b .nil (passX hX) (pa_cons (pv 1) pa_nil)) (pa_cons (pv 2) (pa_cons (pv 3) (pa_cons (pv 4) pa_nil))))))), ?_⟩
    have run := R.run
    rw [GM.run_numIn] at run
    refine ⟨_, rfl, r, CR, dx, _, _, rfl, R.at_, T.cl, T.nA, rf_at _ _, ?_⟩
    refine ⟨_, rfl, r, dx, _, rfl, R.at_, noU _ _, _, rfl, r, dx, d, s, p, w', rfl, hw, Reads.call R.src (But.refl _ _) R.at_ run fun x q hok v H' e h' hv _ => ?_⟩
    have hv : v = .int (x : Int) := hv
    subst hv
    refine ⟨_, rfl, _, rfl, _, rfl, _, _, _, _, rfl, ?_⟩
    by_cases hc : lo ≤ x ∧ x ≤ hi
    · rw [if_pos hc] at hok
      rw [if_pos (by omega)]
      exact hok _ _ e h' rfl fresh_int
    · rw [if_neg hc] at hok
      rw [if_neg (by omega)]
      exact fun dx' hdx => hok dx' _ (e.trans (But.new hdx)) upd_same
theorem scNF : FnScope ["self"] ["self"] (defScope sNF) := ⟨rfl, rfl, rfl, by decide +kernel, rfl, by decide +kernel, by decide +kernel⟩
theorem ok_NF {f : Addr} {fd fdF : FuncData} (F : Fun K "nothing_follows" "Reader.nothing_follows" sNF f fd) (T : Txt K mg C CR fF) (FF : FnOk P w K mg base CX0 1 fF fdF ["self", "place", "kind"] (spInit C)) (bF : Binds K fdF ["self", "place", "kind"] []) :
    FnOk P w K mg base (CXF P w C) 3 f fd ["self"] (spNF K C CR) := by
  refine F.okX (C := C) scNF (fun vs H Q E h => ?_) (fun cdv A outer st H vs Q E hr h hX po hT => ?_)
  · obtain ⟨r, dx, d, s, p, rfl, _⟩ := h
    rfl
  · obtain ⟨r, dx, d, s, p, rfl, h1, S, h⟩ := h
    have hr2 : Room 2 _ := hr
    refine ⟨_, pss_one (ps_if (pt_cmpR op_lt (pe_fld (pv 0) rfl) (pe_callB call_len_seq (by rfl) T.len PySem.boot_len (pa_cons (pe_fld (pv 0) rfl) pa_nil)) (nomark _))
        (pss_one (ps_raise T.xc FF hr2 bF (fun _ _ _ _ z => z) rfl rfl T.mgF hX (pa_cons (pe_fld (pv 0) rfl) (pa_cons pe_int pa_nil)))) pss_nil), ?_⟩
    have hlen : (s.map V.int).length = s.length := List.length_map _
    refine ⟨_, rfl, r, CR, dx, _, _, rfl, h1, T.cl, T.nA, rf_at _ _, _, rfl, r, CR, dx, _, _, rfl, h1, T.cl, T.nD, rf_data _ _, d, _, rfl, .inl S.ls, _, _, rfl, rfl, _, rfl, ?_⟩
    rw [hlen]
    refine ite2 (fun hc => ?_) (fun hc => ?_)
    · have hc := of_decide_eq_true hc
      rw [if_pos (by omega)] at h
      exact ⟨_, rfl, r, CR, dx, _, _, rfl, h1, T.cl, T.nA, rf_at _ _, _, _, rfl, h⟩
    · have hc : ¬ ((p : Int) < (s.length : Int)) := fun z => hc (decide_eq_true z)
      rw [if_neg (by omega)] at h
      exact h
theorem scE : FnScope ["reader", "start", "number"] ["reader"] (defScope sRE) := ⟨rfl, rfl, rfl, by decide +kernel, rfl, by decide +kernel, by decide +kernel⟩
theorem run_entry {l : Ql89.Bytes} {p : Nat} {ok : Int → Nat → Prop} {bad : Nat → Nat → Prop} : GM.Run entry l p ok bad ↔ GM.Run (Ql89.num 1) l p (fun x q => if x = 0 then bad p 3 else ok (Ql89.signed 8 x) q) bad := by
  unfold entry
  rw [GM.run_bind, GM.run_here, GM.run_bind]
  constructor
  · intro h
    refine GM.run_mono h (fun x q h => ?_) fun _ _ h => h
    rw [GM.run_ite] at h
    exact h
  · intro h
    refine GM.run_mono h (fun x q h => ?_) fun _ _ h => h
    rw [GM.run_ite]
    exact h
theorem ok_E {f fS : Addr} {fd fdF fdS : FuncData} (F : Fun K "read_entry" "read_entry" sRE f fd) (T : Txt K mg C CR fF) (FF : FnOk P w K mg base CX0 1 fF fdF ["self", "place", "kind"] (spInit C)) (bF : Binds K fdF ["self", "place", "kind"] [])
    (S : MFn P w K mg base (CXF P w C) 4 CR "signed" fS fdS ["self", "size"] (spS K C CR)) : FnOk P w K mg base (CXF P w C) 5 f fd ["reader"] (spE K C CR) := by
  refine F.okX (C := C) scE (fun vs H Q E h => ?_) (fun cdv A outer st H vs Q E hr h hX po hT => ?_)
  · obtain ⟨r, dx, d, s, p, rfl, _⟩ := h
    rfl
  · obtain ⟨r, dx, d, s, p, rfl, R⟩ := h
    have hr2 : Room 2 _ := hr.mono (by decide)
    refine ⟨_, pss_cons (ps_set (i := 1) scE.nd rfl (Or.inl rfl) (pe_fld (pv 0) rfl))
      (pss_cons (ps_set (i := 2) scE.nd rfl (Or.inl rfl) (pe_meth (pv 0) T.cl S.m S.ok hr S.b .nil (passX hX) (pa_cons pe_int pa_nil)))
      (pss_cons (ps_if (pt_cmpR op_eq (pv 2) pe_int (nomark _)) (pss_one (ps_raise T.xc FF hr2 bF (fun _ _ _ _ z => z) rfl rfl T.mgF hX (pa_cons (pv 1) (pa_cons pe_int pa_nil)))) pss_nil)
      (pss_one (ps_ret (pv 2))))), ?_⟩
    have run := GM.run_num_lt (run_entry.mp R.run)
    have run' : GM.Run (numS 1) (Ql89Neutral.octets s) p (fun z q => if z = 0 then Bad C r H E p 3 else ∀ v H', But r H H' → H' r = some (.ins CR dx (rf d q)) → relI z v H' → Fresh H v → Q v H') (Bad C r H E) := by
      unfold numS
      rw [GM.run_bind]
      refine GM.run_mono run (fun x q h => ?_) fun _ _ h => h
      obtain ⟨hx, h⟩ := h
      show if Ql89.signed (8 * 1) x = 0 then _ else _
      by_cases h0 : x = 0
      · rw [if_pos h0] at h
        rw [if_pos ((GM.signed_zero (by simpa using hx)).mpr h0)]
        exact h
      · rw [if_neg h0] at h
        rw [if_neg (fun z => h0 ((GM.signed_zero (by simpa using hx)).mp z))]
        exact h
    refine ⟨_, rfl, r, CR, dx, _, _, rfl, R.at_, T.cl, T.nA, rf_at _ _, ?_⟩
    refine ⟨_, rfl, r, dx, _, rfl, R.at_, noS _ _, r, dx, d, s, p, 1, rfl, ⟨by decide, by decide⟩, Reads.call R.src (But.refl _ _) R.at_ run' fun z q hok v H' e h' hv _ => ?_⟩
    have hv : v = .int z := hv
    subst hv
    refine ⟨_, rfl, rfl, _, rfl, ?_⟩
    refine ite2 (fun hc => ?_) (fun hc => ?_)
    · have hc : z = 0 := by
        have hc := of_decide_eq_true hc
        injection hc
      rw [if_pos hc] at hok
      exact ⟨_, rfl, _, _, rfl, fun dx' hdx => hok dx' _ (e.trans (But.new hdx)) upd_same⟩
    · have hc : ¬ z = 0 := fun q => hc (decide_eq_true (by rw [q]))
      rw [if_neg hc] at hok
      exact ⟨_, rfl, hok _ _ e h' rfl fresh_int⟩
end
end Go

set_option Elab.async false
set_option linter.all false
set_option maxRecDepth 100000
set_option maxHeartbeats 4000000
namespace Go
open PySem L2
theorem pe_const {X : Cx} {x : Str} {n : Int} {pos : Pos} (h : ∃ t, X.mg x = some (.int n t)) (hg : Gl X x) (hd : (x == ("__debug__" : Str)) = false := by decide) : PE X (.Name x pos) (tC (.int n)) := by
  obtain ⟨t, e⟩ := h
  exact pe_glob hg e ⟨t, rfl⟩ hd
theorem shr_test (m b : Nat) : (((m : Int) / 2 ^ (b : Int).toNat != 0) = true ↔ 2 ^ b ≤ m) := by
  rw [Int.toNat_natCast]
  have e2 : (m : Int) / 2 ^ b = ((m / 2 ^ b : Nat) : Int) := by rw [Int.natCast_ediv]; simp
  rw [e2, bne_iff_ne]
  have hp : 0 < 2 ^ b := Nat.two_pow_pos _
  constructor
  · intro h
    refine Nat.le_of_not_lt fun c => h ?_
    rw [Nat.div_eq_of_lt c]; rfl
  · intro h c
    have : m / 2 ^ b = 0 := by omega
    rcases Nat.div_eq_zero_iff.mp this with z | z <;> omega
section
variable {P : Program} {w : World} {K : PySem.W.Frag} {mg : Str → Option Value} {base : Heap} {C CR fF : Addr}
theorem scB : FnScope ["reader", "first", "wide", "start", "mask", "pairs", "column"] ["reader", "first", "wide"] (defScope sRB) := ⟨rfl, rfl, rfl, by decide +kernel, rfl, by decide +kernel, by decide +kernel⟩
def muB (σ : St) (_ : Hp) : Nat := match (σ[4]? : Option (Option V)) with
  | some (some (.int z)) => z.toNat
  | _ => 0
theorem ok_B {f fU fE : Addr} {fd fdF fdU fdE : FuncData} (F : Fun K "read_block" "read_block" sRB f fd) (T : Txt K mg C CR fF) (FF : FnOk P w K mg base CX0 1 fF fdF ["self", "place", "kind"] (spInit C)) (bF : Binds K fdF ["self", "place", "kind"] [])
    (U : MFn P w K mg base (CXF P w C) 3 CR "unsigned" fU fdU ["self", "size"] (spU K C CR)) (G : GFn P w K mg base (CXF P w C) 5 "read_entry" fE fdE ["reader"] (spE K C CR)) : FnOk P w K mg base (CXF P w C) 6 f fd ["reader", "first", "wide"] (spB K C CR) := by
  refine F.okX (C := C) scB (fun vs H Q E h => ?_) (fun cdv A outer st H vs Q E hr h hX po hT => ?_)
  · obtain ⟨r, dx, d, s, p, first, wide, rfl, _⟩ := h
    rfl
  · obtain ⟨r, dx, d, s, p, first, wide, rfl, hwide, R⟩ := h
    have hr2 : Room 2 _ := hr.mono (by decide)
    have hr3 : Room 3 _ := hr.mono (by decide)
    refine ⟨_, pss_cons (ps_set (i := 3) scB.nd rfl (Or.inl rfl) (pe_fld (pv 0) rfl))
      (pss_cons (ps_set (i := 4) scB.nd rfl (Or.inl rfl) (pe_meth (pv 0) T.cl U.m U.ok hr3 U.b .nil (passX hX) (pa_cons pe_int pa_nil)))
      (pss_cons (ps_if (pt_truth (pe_op op_shr (pv 4) (pv 2)) (fun _ => rfl)) (pss_one (ps_raise T.xc FF hr2 bF (fun _ _ _ _ z => z) rfl rfl T.mgF hX (pa_cons (pv 3) (pa_cons pe_int pa_nil)))) pss_nil)
      (pss_cons (ps_set (i := 5) scB.nd rfl (Or.inl rfl) (pe_lst pa_nil))
      (pss_cons (ps_set (i := 6) scB.nd rfl (Or.inl rfl) (pv 1))
      (pss_cons (ps_while po (pt_truth (pv 4) (fun _ => rfl))
        (pss_cons (ps_if (pt_truth (pe_op op_and (pv 4) pe_int) (fun _ => rfl))
          (pss_one (ps_expr (pe_bm PySem.F.plainAttrs_list PySem.F.slot_list_append PySem.F.type_list_append mt_append (pv 5) (pa_cons (pe_tup (pa_cons (pv 6) (pa_cons (pe_call G.ok hr rfl G.glo G.kp G.b .nil (passX hX) (pa_cons (pv 0) pa_nil)) pa_nil))) pa_nil)))) pss_nil)
        (pss_cons (ps_set (i := 4) scB.nd rfl (Or.inl rfl) (pe_op op_shr (pv 4) pe_int))
        (pss_one (ps_aug (i := 6) scB.nd rfl (Or.inl rfl) pe_int ip_add)))))
      (pss_one (ps_ret (pv 5)))))))), ?_⟩
    have run := R.run
    rw [GM.run_chunk] at run
    refine ⟨_, rfl, r, CR, dx, _, _, rfl, R.at_, T.cl, T.nA, rf_at _ _, ?_⟩
    refine ⟨_, rfl, r, dx, _, rfl, R.at_, noU _ _, r, dx, d, s, p, 8, rfl, ⟨by decide, by decide⟩, Reads.call R.src (But.refl _ _) R.at_ run fun m q hok v H1 e1 h1 hv _ => ?_⟩
    have hv : v = .int (m : Int) := hv
    subst hv
    refine ⟨_, rfl, _, rfl, _, _, rfl, rfl, (by show (0 : Int) ≤ (wide : Int); omega), _, rfl, ?_⟩
    refine ite2 (fun hc => ?_) (fun hc => ?_)
    · have hc := (shr_test m wide).mp hc
      rw [if_pos hc] at hok
      exact ⟨_, rfl, _, _, rfl, fun dx' hdx => hok dx' _ (e1.trans (But.new hdx)) upd_same⟩
    · have hm : ¬ 2 ^ wide ≤ m := fun z => hc ((shr_test m wide).mpr z)
      rw [if_neg hm] at hok
      refine ⟨Nat.zero_le _, fun L hL => ?_⟩
      refine ⟨_, rfl, ?_⟩
      have hL0 : H L = none := e1.none' h1 hL
      have hLr : r ≠ L := ne_of_none h1 hL
      dsimp only [gName, tSeq]
      refine while_by (fun σ H' => ∃ (j q : Nat) (acc : List Int) (as : List Addr), σ = [some (.ref r), some (.int first), some (.int wide), some (.int p), some (.int ((m / 2 ^ j : Nat) : Int)), some (.ref L), some (.int ((first + j : Nat) : Int))] ∧ But r H H' ∧ H' r = some (.ins CR dx (rf d q)) ∧
        H' L = some (.lst (as.map V.ref)) ∧ Pairs H' (GM.sparse first acc) as ∧ acc.length = j ∧
        GM.Run (GM.cells m wide j) (Ql89Neutral.octets s) q (fun y q' => ∀ v H', But r H H' → H' r = some (.ins CR dx (rf d q')) → relP first (acc ++ y) v H' → Fresh H v → Q v H') (Bad C r H E)) muB ?_ ?_ ?_
      · refine ⟨0, q, [], [], ?_, e1.upd hL0, by rw [upd_ne hLr]; exact h1, upd_same, .nil, rfl, hok⟩
        rw [Nat.pow_zero, Nat.div_one]
        rfl
      · rintro σ H2 ⟨j, q2, acc, as, rfl, e2, h2, hL2, hP, hacc, hrun⟩
        refine ⟨_, rfl, _, rfl, ?_⟩
        refine ite2 (fun hc => ?_) (fun hc => ?_)
        · have hne : m / 2 ^ j ≠ 0 := by
            have hc := bne_iff_ne.mp hc
            omega
          have hjm : 2 ^ j ≤ m := by
            refine Nat.le_of_not_lt fun z => hne (Nat.div_eq_of_lt z)
          have hj : j < wide := (Nat.pow_lt_pow_iff_right (by decide : 1 < 2)).mp (by omega)
          have e5 : ((m / 2 ^ j : Nat) : Int) / 2 ^ (1 : Int).toNat = ((m / 2 ^ (j + 1) : Nat) : Int) := by
            rw [Nat.pow_succ, ← Nat.div_div_eq_div_mul, Int.natCast_ediv (m / 2 ^ j) 2]
            rfl
          have e6 : ((first + j : Nat) : Int) + 1 = ((first + (j + 1) : Nat) : Int) := by omega
          have hmu : m / 2 ^ (j + 1) < m / 2 ^ j := by
            rw [Nat.pow_succ, ← Nat.div_div_eq_div_mul]
            exact Nat.div_lt_self (Nat.pos_of_ne_zero hne) (by decide)
          rw [GM.run_cells_step hj] at hrun
          refine ⟨_, rfl, _, _, rfl, rfl, _, rfl, ?_⟩
          rw [PyProof.Rows.bitAnd_m1]
          refine ite2 (fun hb => ?_) (fun hb => ?_)
          · have hb : m.testBit j = true := by
              rw [GM.bit_half]
              have hb := bne_iff_ne.mp hb
              exact decide_eq_true (by omega)
            rw [GM.run_cell_yes hb] at hrun
            have run' : GM.Run entry (Ql89Neutral.octets s) q2 (fun x q' => x ≠ 0 ∧ GM.Run (GM.cells m wide (j + 1)) (Ql89Neutral.octets s) q' (fun y q'' => ∀ v H', But r H H' → H' r = some (.ins CR dx (rf d q'')) → relP first (acc ++ x :: y) v H' → Fresh H v → Q v H') (Bad C r H E)) (Bad C r H E) := by
              rw [run_entry]
              refine GM.run_mono (GM.run_num_lt hrun) (fun x q h => ?_) fun _ _ h => h
              obtain ⟨hx, h⟩ := h
              by_cases h0 : x = 0
              · rw [if_pos h0] at h ⊢
                exact h
              · rw [if_neg h0] at h ⊢
                exact ⟨fun z => h0 ((GM.signed_zero (by simpa using hx)).mp z), h⟩
            refine ⟨_, rfl, .inl ⟨rfl, _, SqL.of hL2⟩, _, rfl, _, rfl, r, dx, d, s, q2, rfl, Reads.call (R.src.but e2 R.at_) e2 h2 run' fun z q3 hok v H3 e3 h3 hv _ => ?_⟩
            obtain ⟨hz, hok⟩ := hok
            have hv : v = .int z := hv
            subst hv
            have hL3 : H3 L = some (.lst (as.map V.ref)) := e3 L _ hLr.symm hL2
            have hal : as.length = (GM.sparse first acc).length := (Paired.length hP).symm
            have hsl := GM.sparse_le acc first
            refine ⟨by show 2 ≤ sizeLine; decide, fun t ht => ?_⟩
            have hLt : L ≠ t := ne_of_none hL3 ht
            have hrt : r ≠ t := ne_of_none h3 ht
            have ht0 : H t = none := (e2.trans e3).none' h3 ht
            refine ⟨L, _, _, rfl, rfl, by rw [upd_ne hLt]; exact hL3, by rw [List.length_map]; exact small1000 (by omega), ?_⟩
            refine ⟨_, rfl, _, _, rfl, rfl, (by show (0 : Int) ≤ 1; decide), ?_⟩
            refine ⟨_, rfl, _, _, rfl, rfl, ?_⟩
            refine ⟨⟨j + 1, q3, acc ++ [z], as ++ [t], ?_, ((e2.trans e3).upd ht0).upd hL0, by rw [upd_ne hLr, upd_ne hrt]; exact h3, by rw [List.map_append]; exact upd_same, ?_, by rw [List.length_append, hacc]; rfl, ?_⟩, ?_⟩
            · show [some (V.ref r), some (V.int first), some (V.int wide), some (V.int p), some (V.int (((m / 2 ^ j : Nat) : Int) / 2 ^ (1 : Int).toNat)), some (V.ref L), some (V.int (((first + j : Nat) : Int) + 1))] = _
              rw [e5, e6]
            · rw [GM.sparse_snoc _ _ hz, hacc]
              refine paired_app (Pairs.upd ((hP.but e3 h2).mono fun b o e => by rw [upd_ne (ne_of_none e ht)]; exact e) (by rw [upd_ne hLt]; exact hL3)) (.cons ?_ .nil)
              show upd _ L _ t = _
              rw [upd_ne hLt.symm, upd_same]
            · simpa only [List.append_assoc, List.singleton_append] using hok
            · show (((m / 2 ^ j : Nat) : Int) / 2 ^ (1 : Int).toNat).toNat < ((m / 2 ^ j : Nat) : Int).toNat
              rw [e5, Int.toNat_natCast, Int.toNat_natCast]
              exact hmu
          · have hb : m.testBit j = false := by
              rw [GM.bit_half]
              refine decide_eq_false fun z => hb ?_
              rw [bne_iff_ne]
              omega
            rw [GM.run_cell_no hb] at hrun
            refine ⟨_, rfl, _, _, rfl, rfl, (by show (0 : Int) ≤ 1; decide), ?_⟩
            refine ⟨_, rfl, _, _, rfl, rfl, ?_⟩
            refine ⟨⟨j + 1, q2, acc ++ [0], as, ?_, e2, h2, hL2, by rw [GM.sparse_snoc0]; exact hP, by rw [List.length_append, hacc]; rfl, ?_⟩, ?_⟩
            · show [some (V.ref r), some (V.int first), some (V.int wide), some (V.int p), some (V.int (((m / 2 ^ j : Nat) : Int) / 2 ^ (1 : Int).toNat)), some (V.ref L), some (V.int (((first + j : Nat) : Int) + 1))] = _
              rw [e5, e6]
            · simpa only [List.append_assoc, List.singleton_append] using hrun
            · show (((m / 2 ^ j : Nat) : Int) / 2 ^ (1 : Int).toNat).toNat < ((m / 2 ^ j : Nat) : Int).toNat
              rw [e5, Int.toNat_natCast, Int.toNat_natCast]
              exact hmu
        · have h0 : m / 2 ^ j = 0 := by
            by_cases z : m / 2 ^ j = 0
            · exact z
            · exact absurd (bne_iff_ne.mpr (show ((m / 2 ^ j : Nat) : Int) ≠ 0 by omega)) hc
          rw [GM.run_cells_none h0 _ rfl] at hrun
          refine ⟨_, rfl, hrun _ _ e2 h2 ⟨L, rfl, as, hL2, ?_⟩ (fresh_ref hL0)⟩
          rw [GM.sparse_append, GM.sparse_zeros, List.append_nil]
          exact hP
      · rintro σ H' Q Q' h ⟨v, e, k, t, q⟩
        exact ⟨v, e, k, t, h _ _ q⟩
end
end Go

set_option Elab.async false
set_option linter.all false
set_option maxRecDepth 100000
set_option maxHeartbeats 4000000
namespace Go
open PySem L2
theorem rg64 (n : Nat) (h1 : 1 ≤ n) (h2 : n ≤ 4096) : RgC 0 (n : Int) 64 (Ql89.blocks n) := by
  have e : Builtin.Range.rangeSize 0 (n : Int) 64 = (Ql89.blocks n : Int) := by
    unfold Builtin.Range.rangeSize Ql89.blocks
    rw [if_pos (by decide), if_pos (by omega)]
    omega
  have hb : Ql89.blocks n ≤ 64 := by unfold Ql89.blocks; omega
  refine ⟨by decide, by decide, ?_, e⟩
  have f : ∀ i : Int, -1000000 ≤ i → i ≤ 1000000 → Builtin.Range.rangeFitsLong i = true := fun i h1 h2 => by
    unfold Builtin.Range.rangeFitsLong
    rw [Bool.and_eq_true, decide_eq_true_eq, decide_eq_true_eq]
    omega
  unfold Builtin.Range.small
  rw [e, f 0 (by decide) (by decide), f (n : Int) (by omega) (by omega), f 64 (by decide) (by decide), f (Ql89.blocks n : Int) (by omega) (by omega), if_pos (by decide), f ((n : Int) + (64 - 1)) (by omega) (by omega), Bool.or_true]
  rfl
structure Txt2 (K : PySem.W.Frag) (mg : Str → Option Value) (CM : Addr) : Prop where
  cl : Cls K CM
  nR : NoAttr K CM "rows"
  nC : NoAttr K CM "columns"
  nL : NoAttr K CM "lines"
  mgM : mg "Matrix" = some (.ref CM)
  rows : ∃ t, mg "MOST_ROWS" = some (.int 4096 t)
  cols : ∃ t, mg "MOST_COLUMNS" = some (.int 4096 t)
  places : ∃ t, mg "MOST_PLACES" = some (.int 1048576 t)
  block : ∃ t, mg "BLOCK" = some (.int 64 t)
  min : mg "min" = none
  range : mg "range" = none
theorem rc : ¬ (("rows" : Str) = "columns") := by decide +kernel
theorem rl : ¬ (("rows" : Str) = "lines") := by decide +kernel
theorem cl' : ¬ (("columns" : Str) = "lines") := by decide +kernel
def mf (a b c : V) : List (Str × V) := putF "lines" c (putF "columns" b (putF "rows" a []))
theorem mf_rows (a b c : V) : (mf a b c).lookup ("rows" : Str) = some a := by
  unfold mf
  rw [lookup_putF, if_neg rl, lookup_putF, if_neg rc, lookup_putF, if_pos rfl]
theorem mf_cols (a b c : V) : (mf a b c).lookup ("columns" : Str) = some b := by
  unfold mf
  rw [lookup_putF, if_neg cl', lookup_putF, if_pos rfl]
theorem mf_lines (a b c : V) : (mf a b c).lookup ("lines" : Str) = some c := by
  unfold mf
  rw [lookup_putF, if_pos rfl]
def spMI (CM : Addr) : Sp := fun vs H Q _ => ∃ (x dx : Addr) (a b c : V), vs = [.ref x, a, b, c] ∧ H x = some (.ins CM dx []) ∧ Q .non (upd H x (.ins CM dx (mf a b c)))
def relM (CM : Addr) (H0 : Hp) (m : Ql89.Matrix) (v : V) (H : Hp) : Prop := ∃ a dxm L, v = .ref a ∧ H a = some (.ins CM dxm (mf (.int m.rows) (.int m.cols) (.ref L))) ∧ LinesAt H L m.row ∧ m.row.length = m.rows ∧ (1 ≤ m.rows ∧ m.rows ≤ 4096) ∧ (1 ≤ m.cols ∧ m.cols ≤ 4096) ∧ (∀ x ∈ m.row, x.length = m.cols) ∧ H0 L = none
def spM (K : PySem.W.Frag) (C CR CM : Addr) : Sp := fun vs H Q E => ∃ (r dx d : Addr) (s : List Int) (p : Nat), vs = [.ref r] ∧ Reads K C CR r dx d s p Ql89.readMatrix (relM CM H) H Q E
section
variable {P : Program} {w : World} {K : PySem.W.Frag} {mg : Str → Option Value} {base : Heap} {C CR fF CM : Addr}
theorem scL : FnScope ["reader", "columns", "line", "first"] ["reader", "columns"] (defScope sRL) := ⟨rfl, rfl, rfl, by decide +kernel, rfl, by decide +kernel, by decide +kernel⟩
theorem ok_L {f fB : Addr} {fd fdB : FuncData} (F : Fun K "read_line" "read_line" sRL f fd) (T : Txt K mg C CR fF) (T2 : Txt2 K mg CM) (G : GFn P w K mg base (CXF P w C) 6 "read_block" fB fdB ["reader", "first", "wide"] (spB K C CR)) :
    FnOk P w K mg base (CXF P w C) 7 f fd ["reader", "columns"] (spL K C CR) := by
  refine F.okX (C := C) scL (fun vs H Q E h => ?_) (fun cdv A outer st H vs Q E hr h hX po hT => ?_)
  · obtain ⟨r, dx, d, s, p, cols, rfl, _⟩ := h
    rfl
  · obtain ⟨r, dx, d, s, p, cols, rfl, ⟨hc1, hc2⟩, R⟩ := h
    refine ⟨_, pss_cons (ps_set (i := 2) scL.nd rfl (Or.inl rfl) (pe_lst pa_nil))
      (pss_cons (ps_for po rfl (pi_range3 rfl T2.range (pa_cons pe_int (pa_cons (pv 1) (pa_cons (pe_const T2.block rfl) pa_nil)))) (pg_name (i := 3) scL.nd rfl (Or.inl rfl))
        (pss_one (ps_expr (pe_bm PySem.F.plainAttrs_list PySem.F.slot_list_extend PySem.F.type_list_extend mt_extend (pv 2) (pa_cons (pe_call G.ok hr rfl G.glo G.kp G.b .nil (passX hX)
          (pa_cons (pv 0) (pa_cons (pv 3) (pa_cons (pe_callB (call_min2 rfl) (by rfl) T2.min PyProof.Rows.boot_min (pa_cons (pe_const T2.block rfl) (pa_cons (pe_op op_sub (pv 1) (pv 3)) pa_nil))) pa_nil)))) pa_nil)))))
      (pss_one (ps_ret (pv 2)))), ?_⟩
    have run := R.run
    rw [GM.run_row] at run
    refine ⟨Nat.zero_le _, fun L hL => ?_⟩
    have hLr : r ≠ L := ne_of_none R.at_ hL
    refine ⟨_, rfl, _, _, _, Ql89.blocks cols, rfl, rg64 cols hc1 hc2, ?_⟩
    refine for_rangeC (fun i σ H' => ∃ (q : Nat) (acc : List Int) (as : List Addr) (v : Option V), σ = [some (.ref r), some (.int cols), some (.ref L), v] ∧ But r H H' ∧ H' r = some (.ins CR dx (rf d q)) ∧
        H' L = some (.lst (as.map V.ref)) ∧ Pairs H' (GM.sparse 0 acc) as ∧ (i < Ql89.blocks cols → acc.length = 64 * i) ∧ acc.length ≤ cols ∧
        GM.Run (GM.blks cols i) (Ql89Neutral.octets s) q (fun y q' => ∀ v H', But r H H' → H' r = some (.ins CR dx (rf d q')) → relP 0 (acc ++ y.flatten) v H' → Fresh H v → Q v H') (Bad C r H E)) ?_ ?_ ?_
    · exact ⟨p, [], [], none, rfl, But.new hL, by rw [upd_ne hLr]; exact R.at_, upd_same, .nil, fun _ => rfl, Nat.zero_le _, run⟩
    · rintro i σ H2 hi ⟨q2, acc, as, v, rfl, e2, h2, hL2, hP, hacc, hac, hrun⟩
      have hacc := hacc hi
      have hb : 64 * i < cols := by unfold Ql89.blocks at hi; omega
      rw [GM.run_blks_step hi] at hrun
      have run' := GM.run_chunk_len hrun
      refine ⟨_, rfl, .inl ⟨rfl, _, SqL.of hL2⟩, _, rfl, _, rfl, _, rfl, _, rfl, _, _, rfl, rfl, _, _, rfl, ?_⟩
      have e3 : (0 : Int) + (i : Nat) * 64 = ((64 * i : Nat) : Int) := by omega
      have e4 : (if (cols : Int) - ((0 : Int) + (i : Nat) * 64) < 64 then (cols : Int) - ((0 : Int) + (i : Nat) * 64) else 64) = ((min 64 (cols - 64 * i) : Nat) : Int) := by split <;> omega
      refine ⟨r, dx, d, s, q2, 64 * i, min 64 (cols - 64 * i), by rw [e4, e3]; rfl, by omega, Reads.call (R.src.but e2 R.at_) e2 h2 run' fun x q3 hok v3 H3 e5 h3 hv fr => ?_⟩
      obtain ⟨hx, hok⟩ := hok
      obtain ⟨L3, rfl, as3, hl3, hp3⟩ := hv
      have hL3 : H3 L = some (.lst (as.map V.ref)) := e5 L _ hLr.symm hL2
      have hne : L ≠ L3 := ne_of_none hL2 (fr L3 rfl)
      have l1 : as.length ≤ 4096 := by have a := Paired.length hP; have b := GM.sparse_le acc 0; omega
      have l2 : as3.length ≤ 4096 := by have a := Paired.length hp3; have b := GM.sparse_le x (64 * i); omega
      have hs : 8192 ≤ sizeLine := by decide
      refine ⟨L, L3, _, _, rfl, rfl, hL3, hl3, by rw [List.length_map, List.length_map]; omega, ?_⟩
      refine ⟨q3, acc ++ x, as ++ as3, _, rfl, (e2.trans e5).upd hL, by rw [upd_ne hLr]; exact h3, by rw [List.map_append]; exact upd_same, ?_, ?_, ?_, ?_⟩
      · rw [GM.sparse_append, Nat.zero_add, hacc]
        exact paired_app (Pairs.upd (hP.but e5 h2) hL3) (Pairs.upd hp3 hL3)
      · intro hi1
        have : 64 * (i + 1) < cols := by unfold Ql89.blocks at hi1; omega
        rw [List.length_append, hacc, hx]
        omega
      · rw [List.length_append, hacc, hx]
        omega
      · simpa only [List.flatten_cons, List.append_assoc] using hok
    · rintro σ H2 ⟨q2, acc, as, v, rfl, e2, h2, hL2, hP, hacc, hac, hrun⟩
      rw [GM.run_blks_end (Nat.lt_irrefl _)] at hrun
      refine ⟨_, rfl, hrun _ _ e2 h2 ⟨L, rfl, as, hL2, ?_⟩ (fresh_ref hL)⟩
      rw [List.flatten_nil, List.append_nil]
      exact hP
theorem scMI : FnScope ["self", "rows", "columns", "lines"] ["self", "rows", "columns", "lines"] (defScope sMI) := ⟨rfl, rfl, rfl, by decide +kernel, rfl, by decide +kernel, by decide +kernel⟩
theorem ok_MI {f : Addr} {fd : FuncData} (F : Fun K "__init__" "Matrix.__init__" sMI f fd) (T : Txt2 K mg CM) : FnOk P w K mg base CX0 1 f fd ["self", "rows", "columns", "lines"] (spMI CM) := by
  refine F.ok scMI (fun vs H Q E h => ?_) (fun cdv A outer s H vs Q E hr h => ?_)
  · obtain ⟨x, dx, a, b, c, rfl, _⟩ := h
    rfl
  · obtain ⟨x, dx, a, b, c, rfl, hx, k⟩ := h
    refine ⟨_, pss_cons (ps_fld (pv 0) (pv 1) rfl) (pss_cons (ps_fld (pv 0) (pv 2) rfl) (pss_one (ps_fld (pv 0) (pv 3) rfl))), ?_⟩
    refine ⟨_, rfl, _, rfl, x, CM, dx, _, rfl, hx, T.cl, T.nR, (by show 0 < 1000; decide), _, rfl, _, rfl, x, CM, dx, _, rfl, upd_same, T.cl, T.nC, (by show 1 < 1000; decide), _, rfl, _, rfl, x, CM, dx, _, rfl, upd_same, T.cl, T.nL, ?_, ?_⟩
    · show (if ("rows" : Str) = "columns" then _ else _ :: _).length < 1000
      rw [if_neg rc]
      show 2 < 1000
      decide
    · show Q .non _
      rw [upd_upd, upd_upd]
      exact k
def spShape : Sp := fun vs H Q _ => ∃ (r c : Int), vs = [.int r, .int c] ∧ Q (.bl (decide ((1 ≤ r ∧ r ≤ 4096) ∧ (1 ≤ c ∧ c ≤ 4096) ∧ r * c ≤ 1048576))) H
theorem scShape : FnScope ["rows", "columns"] ["rows", "columns"] (defScope sShape) := ⟨rfl, rfl, rfl, by decide +kernel, rfl, by decide +kernel, by decide +kernel⟩
theorem ok_shape {f fO : Addr} {fd fdO : FuncData} (F : Fun K "shape_fits" "shape_fits" sShape f fd) (T2 : Txt2 K mg CM) (O : OutFn P w K mg base fO fdO) : FnOk P w K mg base CX0 2 f fd ["rows", "columns"] spShape := by
  refine F.ok scShape (fun vs H Q E h => ?_) (fun cdv A outer s H vs Q E hr h => ?_)
  · obtain ⟨r, c, rfl, _⟩ := h
    rfl
  · obtain ⟨r, c, rfl, h⟩ := h
    refine ⟨_, pss_cons (ps_if (PW.pt (pw_or (pt_truth (pe_call O.ok hr rfl O.glo O.kp O.b .nil pass0 (pa_cons (pv 0) (pa_cons pe_int (pa_cons (pe_const T2.rows rfl) pa_nil)))) (fun _ => rfl))
        (pw_or1 (pt_truth (pe_call O.ok hr rfl O.glo O.kp O.b .nil pass0 (pa_cons (pv 1) (pa_cons pe_int (pa_cons (pe_const T2.cols rfl) pa_nil)))) (fun _ => rfl))))) (pss_one (ps_ret pe_bl)) pss_nil)
      (pss_one (ps_ret (pe_cmpR op_le (pe_op op_mul (pv 0) (pv 1)) (pe_const T2.places rfl) (nomark _)))), ?_⟩
    refine ⟨_, rfl, _, _, _, rfl, _, rfl, ?_⟩
    refine ite2 (fun hc => ?_) (fun hc => ?_)
    · have hc := of_decide_eq_true hc
      rw [decide_eq_false (fun z => by omega)] at h
      exact iteT h
    · have hc : ¬ (r < 1 ∨ 4096 < r) := fun z => hc (decide_eq_true z)
      refine ⟨_, rfl, _, _, _, rfl, _, rfl, ?_⟩
      refine ite2 (fun hd => ?_) (fun hd => ?_)
      · have hd := of_decide_eq_true hd
        rw [decide_eq_false (fun z => by omega)] at h
        exact h
      · have hd : ¬ (c < 1 ∨ 4096 < c) := fun z => hd (decide_eq_true z)
        refine ⟨_, rfl, _, rfl, _, _, rfl, rfl, .inl ⟨by omega, by omega⟩, _, _, rfl, rfl, ?_⟩
        have e : decide ((1 ≤ r ∧ r ≤ 4096) ∧ (1 ≤ c ∧ c ≤ 4096) ∧ r * c ≤ 1048576) = decide (r * c ≤ 1048576) := by
          by_cases z : r * c ≤ 1048576
          · rw [decide_eq_true z]
            exact decide_eq_true ⟨⟨by omega, by omega⟩, ⟨by omega, by omega⟩, z⟩
          · rw [decide_eq_false z]
            exact decide_eq_false fun q => z q.2.2
        rw [e] at h
        exact h
theorem scM : FnScope ["reader", "rows", "start", "columns", "lines", "row"] ["reader"] (defScope sRM) := ⟨rfl, rfl, rfl, by decide +kernel, rfl, by decide +kernel, by decide +kernel⟩
theorem LinesAt.upd {H : Hp} {L : Addr} {xs ys : List V} {rows : List (List Int)} {as : List Addr} (h : Lines H rows as) (hL : H L = some (.lst xs)) (hn : ∀ a ∈ as, a ≠ L) : Lines (L2.upd H L (.lst ys)) rows as := by
  induction h with
  | nil => exact .nil
  | cons q t ih =>
    refine .cons ?_ (ih fun a ha => hn a (List.mem_cons_of_mem _ ha))
    obtain ⟨bs, h1, h2⟩ := q
    exact ⟨bs, by rw [upd_ne (hn _ List.mem_cons_self)]; exact h1, Pairs.upd h2 hL⟩
theorem ok_M {f fUW fL fMI fSh : Addr} {fd fdF fdUW fdL fdMI fdSh : FuncData} (F : Fun K "read_matrix" "read_matrix" sRM f fd) (T : Txt K mg C CR fF) (T2 : Txt2 K mg CM) (FF : FnOk P w K mg base CX0 1 fF fdF ["self", "place", "kind"] (spInit C)) (bF : Binds K fdF ["self", "place", "kind"] [])
    (UW : MFn P w K mg base (CXF P w C) 4 CR "unsigned_within" fUW fdUW ["self", "size", "low", "high"] (spUW K C CR)) (G : GFn P w K mg base (CXF P w C) 7 "read_line" fL fdL ["reader", "columns"] (spL K C CR))
    (M : Mk K CM fMI) (FI : FnOk P w K mg base CX0 1 fMI fdMI ["self", "rows", "columns", "lines"] (spMI CM)) (bI : Binds K fdMI ["self", "rows", "columns", "lines"] []) (SF : GFn P w K mg base CX0 2 "shape_fits" fSh fdSh ["rows", "columns"] spShape) : FnOk P w K mg base (CXF P w C) 8 f fd ["reader"] (spM K C CR CM) := by
  refine F.okX (C := C) scM (fun vs H Q E h => ?_) (fun cdv A outer st H vs Q E hr h hX po hT => ?_)
  · obtain ⟨r, dx, d, s, p, rfl, _⟩ := h
    rfl
  · obtain ⟨r, dx, d, s, p, rfl, R⟩ := h
    have hr2 : Room 2 _ := hr.mono (by decide)
    have hr4 : Room 4 _ := hr.mono (by decide)
    refine ⟨_, pss_cons (ps_set (i := 1) scM.nd rfl (Or.inl rfl) (pe_meth (pv 0) T.cl UW.m UW.ok hr4 UW.b .nil (passX hX) (pa_cons pe_int (pa_cons pe_int (pa_cons (pe_const T2.rows rfl) pa_nil)))))
      (pss_cons (ps_set (i := 2) scM.nd rfl (Or.inl rfl) (pe_fld (pv 0) rfl))
      (pss_cons (ps_set (i := 3) scM.nd rfl (Or.inr rfl) (pe_meth (pv 0) T.cl UW.m UW.ok hr4 UW.b .nil (passX hX) (pa_cons pe_int (pa_cons pe_int (pa_cons (pe_const T2.cols rfl) pa_nil)))))
      (pss_cons (ps_if (pt_not (pt_truth (pe_call SF.ok hr2 rfl SF.glo SF.kp SF.b .nil pass0 (pa_cons (pv 1) (pa_cons (pv 3) pa_nil))) (fun _ => rfl))) (pss_one (ps_raise T.xc FF hr2 bF (fun _ _ _ _ z => z) rfl rfl T.mgF hX (pa_cons (pv 2) (pa_cons pe_int pa_nil)))) pss_nil)
      (pss_cons (ps_setLcX (i := 4) hT hX rfl scM.nd rfl rfl (sw_true rfl rfl rfl (by decide +kernel)) (pi_range1 rfl T2.range (pa_cons (pv 1) pa_nil)) (blkOk_by (own := [("row", 5)]) (by kernel_rfl))
        (fun _ _ _ _ _ => pg_name (i := 5) scM.nd rfl (Or.inl rfl)) (fun _ _ _ _ _ => pts_nil)
        (fun _ _ _ _ _ _ hx => pe_call G.ok hr rfl G.glo G.kp G.b .nil (passX hx) (pa_cons (pv 0) (pa_cons (pv 3) pa_nil))))
      (pss_one (ps_ret (pe_make M FI hr2 rfl T2.mgM bI .nil pass0 (pa_cons (pv 1) (pa_cons (pv 3) (pa_cons (pv 4) pa_nil)))))))))), ?_⟩
    have run := R.run
    rw [GM.run_matrix] at run
    refine ⟨_, rfl, r, dx, _, rfl, R.at_, noUW _ _, r, dx, d, s, p, 2, 1, 4096, rfl, ⟨by decide, by decide⟩, Reads.call R.src (But.refl _ _) R.at_ (GM.run_numIn_of run) fun rows q1 hok v H1 e1 h1 hv _ => ?_⟩
    obtain ⟨⟨hm1, hm2⟩, hok⟩ := hok
    have hv : v = .int (rows : Int) := hv
    subst hv
    refine ⟨_, rfl, r, CR, dx, _, _, rfl, h1, T.cl, T.nA, rf_at _ _, ?_⟩
    refine ⟨_, rfl, r, dx, _, rfl, h1, noUW _ _, r, dx, d, s, q1, 2, 1, 4096, rfl, ⟨by decide, by decide⟩, Reads.call (R.src.but e1 R.at_) e1 h1 (GM.run_numIn_of hok) fun cols q2 hok v H2 e2 h2 hv _ => ?_⟩
    obtain ⟨⟨hc1, hc2⟩, hok⟩ := hok
    have hv : v = .int (cols : Int) := hv
    subst hv
    have e12 : But r H H2 := e1.trans e2
    refine ⟨_, rfl, _, rfl, _, _, rfl, _, rfl, ?_⟩
    by_cases hpl : 1048576 < rows * cols
    · rw [if_pos hpl] at hok
      refine iteNA (fun z => ?_) ?_
      · have z := z.2.2
        rw [← Int.natCast_mul] at z
        omega
      · exact ⟨_, rfl, _, _, rfl, fun dx' hdx => hok dx' _ (e12.trans (But.new hdx)) upd_same⟩
    · rw [if_neg hpl] at hok
      refine iteNS ⟨⟨by omega, by omega⟩, ⟨by omega, by omega⟩, by rw [← Int.natCast_mul]; omega⟩ ?_
      refine ⟨_, rfl, _, rfl, by omega, by omega, fun D hD => ?_⟩
      have hDr : r ≠ D := ne_of_none h2 hD
      have hD0 : H D = none := e12.none' h2 hD
      have hs : 8192 ≤ sizeLine := by decide
      refine lc_range (fun i H' => ∃ (q : Nat) (acc : List (List Int)) (as : List Addr), But r H H' ∧ H' r = some (.ins CR dx (rf d q)) ∧ H' D = some (.lst (as.map V.ref)) ∧ Lines H' acc as ∧ (∀ a ∈ as, a ≠ D) ∧ acc.length = i ∧ (∀ x ∈ acc, x.length = cols) ∧
        GM.Run (GM.rws (rows - i) cols) (Ql89Neutral.octets s) q (fun y q' => ∀ v H', But r H H' → H' r = some (.ins CR dx (rf d q')) → relM CM H ⟨rows, cols, acc ++ y⟩ v H' → Fresh H v → Q v H') (Bad C r H E)) ?_ ?_ ?_
      · exact ⟨q2, [], [], e12.upd hD0, by rw [upd_ne hDr]; exact h2, upd_same, .nil, (fun _ z => (nomatch z)), rfl, (fun _ z => (nomatch z)), hok⟩
      · rintro i H3 hi ⟨q, acc, as, e3, h3, hD3, hL, hne, hacc, hcl, hrun⟩
        have hi : i < rows := by rw [Int.toNat_natCast] at hi; exact hi
        have e4 : rows - i = rows - (i + 1) + 1 := by omega
        rw [e4, GM.run_rws_succ] at hrun
        refine ⟨rfl, _, rfl, _, rfl, r, dx, d, s, q, cols, rfl, ⟨hc1, hc2⟩, Reads.call (R.src.but e3 R.at_) e3 h3 (GM.run_row_len hrun) fun x q4 hok v H4 e5 h4 hv fr => ?_⟩
        obtain ⟨hx, hok⟩ := hok
        obtain ⟨L4, rfl, hp⟩ := hv
        have hD4 : H4 D = some (.lst (as.map V.ref)) := e5 D _ hDr.symm hD3
        have hne4 : L4 ≠ D := fun z => by have q := fr L4 rfl; rw [z, hD3] at q; cases q
        have hal : acc.length = as.length := Paired.length hL
        refine ⟨_, hD4, by rw [List.length_map]; omega, q4, acc ++ [x], as ++ [L4], (e3.trans e5).upd hD0, by rw [upd_ne hDr]; exact h4, by rw [List.map_append]; exact upd_same, ?_, ?_, by rw [List.length_append, hacc]; rfl, ?_, ?_⟩
        · refine paired_app (LinesAt.upd (hL.but e5 h3) hD4 hne) (.cons ?_ .nil)
          obtain ⟨bs, b1, b2⟩ := hp
          exact ⟨bs, by rw [upd_ne hne4]; exact b1, Pairs.upd b2 hD4⟩
        · intro a ha
          rcases List.mem_append.mp ha with z | z
          · exact hne a z
          · have z : a = L4 := by simpa using z
            rw [z]; exact hne4
        · intro y hy
          rcases List.mem_append.mp hy with z | z
          · exact hcl y z
          · have z : y = x := by simpa using z
            rw [z]; exact hx
        · simpa only [List.append_assoc, List.singleton_append] using hok
      · rintro H3 ⟨q, acc, as, e3, h3, hD3, hL, hne, hacc, hcl, hrun⟩
        rw [Int.toNat_natCast] at hacc hrun
        rw [Nat.sub_self, GM.run_rws_zero, List.append_nil] at hrun
        refine ⟨_, rfl, _, rfl, _, rfl, fun x dxm nx ndx nex => ⟨x, dxm, _, _, _, rfl, upd_same, rfl, ?_⟩⟩
        have x0 : H x = none := e3.none' h3 nx
        have d0 : H dxm = none := e3.none' h3 ndx
        have hrx : r ≠ x := ne_of_none h3 nx
        have hrd : r ≠ dxm := ne_of_none h3 ndx
        have sm : Same H3 (upd (upd (upd H3 dxm (.own x)) x (.ins CM dxm [])) x (.ins CM dxm (mf (.int rows) (.int cols) (.ref D)))) := fun b o e => by
          rw [upd_ne (ne_of_none e nx), upd_ne (ne_of_none e nx), upd_ne (ne_of_none e ndx)]; exact e
        refine hrun _ _ (((e3.upd d0).upd x0).upd x0) (sm _ _ h3) ⟨x, dxm, D, rfl, upd_same, ⟨as, sm _ _ hD3, hL.mono sm⟩, hacc, ⟨hm1, hm2⟩, ⟨hc1, hc2⟩, hcl, hD0⟩ (fresh_ref x0)
end
end Go

set_option Elab.async false
set_option linter.all false
set_option maxRecDepth 100000
set_option maxHeartbeats 4000000
namespace Go
open PySem L2
def MatAt (CM : Addr) (H : Hp) (m : Ql89.Matrix) (a : Addr) : Prop := ∃ dx L, H a = some (.ins CM dx (mf (.int m.rows) (.int m.cols) (.ref L))) ∧ LinesAt H L m.row
theorem MatAt.mono {CM a : Addr} {H H' : Hp} {m : Ql89.Matrix} (h : MatAt CM H m a) (s : Same H H') : MatAt CM H' m a := by
  obtain ⟨dx, L, h1, h2⟩ := h
  exact ⟨dx, L, s _ _ h1, h2.mono s⟩
structure MDim (m : Ql89.Matrix) : Prop where
  len : m.row.length = m.rows
  rows : 1 ≤ m.rows ∧ m.rows ≤ 4096
  cols : 1 ≤ m.cols ∧ m.cols ≤ 4096
  row : ∀ x ∈ m.row, x.length = m.cols
abbrev readW (s : List Int) : Except Ql89.Fault Ql89.Matrix := Ql89.whole Ql89.readMatrix (Ql89Neutral.octets s)
def WP (C CM : Addr) (H : Hp) (Q : VK) (E : XK) : Except Ql89.Fault Ql89.Matrix → Prop
  | .ok m => ∀ a H', Same H H' → H a = none → MatAt CM H' m a → MDim m → GM.MatOk m → Q (.ref a) H'
  | .error f => ∀ dx H', Same H H' → H' dx = some (.xd (xf f.place f.kind)) → E (.ref C) (some dx) H'
def spWM (K : PySem.W.Frag) (C CM : Addr) : Sp := fun vs H Q E => ∃ (d : Addr) (s : List Int), vs = [.ref d] ∧ Src K H d s ∧ WP C CM H Q E (readW s)
def SPm (CM : Addr) (H : Hp) (Q : VK) : Except Ql89.Fault Ql89.Matrix → Prop
  | .ok m => ∀ a H', Same H H' → H a = none → MatAt CM H' m a → MDim m → GM.MatOk m → Q (.ref a) H'
  | .error _ => ∀ H', Same H H' → Q .non H'
def spSM (K : PySem.W.Frag) (CM : Addr) : Sp := fun vs H Q _ => ∃ (d : Addr) (s : List Int), vs = [.ref d] ∧ Src K H d s ∧ SPm CM H Q (readW s)
section
variable {P : Program} {w : World} {K : PySem.W.Frag} {mg : Str → Option Value} {base : Heap} {C CR fF CM : Addr}
theorem scWM : FnScope ["data", "reader", "matrix"] ["data"] (defScope sWM) := ⟨rfl, rfl, rfl, by decide +kernel, rfl, by decide +kernel, by decide +kernel⟩
theorem ok_WM {f fRI fM fNF : Addr} {fd fdRI fdM fdNF : FuncData} (F : Fun K "whole_matrix" "whole_matrix" sWM f fd) (T : Txt K mg C CR fF) (mgR : mg "Reader" = some (.ref CR))
    (MR : Mk K CR fRI) (FR : FnOk P w K mg base CX0 1 fRI fdRI ["self", "data"] (spMk CR)) (bR : Binds K fdRI ["self", "data"] [])
    (G : GFn P w K mg base (CXF P w C) 8 "read_matrix" fM fdM ["reader"] (spM K C CR CM)) (NF : MFn P w K mg base (CXF P w C) 3 CR "nothing_follows" fNF fdNF ["self"] (spNF K C CR)) : FnOk P w K mg base (CXF P w C) 9 f fd ["data"] (spWM K C CM) := by
  refine F.okX (C := C) scWM (fun vs H Q E h => ?_) (fun cdv A outer st H vs Q E hr h hX po hT => ?_)
  · obtain ⟨d, s, rfl, _⟩ := h
    rfl
  · obtain ⟨a, s, rfl, S, k⟩ := h
    have hr2 : Room 2 _ := hr.mono (by decide)
    have hr3 : Room 3 _ := hr.mono (by decide)
    refine ⟨_, pss_cons (ps_set (i := 1) scWM.nd rfl (Or.inl rfl) (pe_make MR FR hr2 rfl mgR bR .nil pass0 (pa_cons (pv 0) pa_nil)))
      (pss_cons (ps_set (i := 2) scWM.nd rfl (Or.inl rfl) (pe_call G.ok hr rfl G.glo G.kp G.b .nil (passX hX) (pa_cons (pv 1) pa_nil)))
      (pss_cons (ps_expr (pe_meth0 (pv 1) T.cl NF.m NF.ok hr3 NF.b .nil (passX hX)))
      (pss_one (ps_ret (pv 2))))), ?_⟩
    refine ⟨_, rfl, fun r dx nr ndx ne => ⟨r, dx, a, rfl, upd_same, rfl, ?_⟩⟩
    rw [upd_upd]
    have s1 : Same H (upd (upd H dx (.own r)) r (.ins CR dx (rf a 0))) := fun b o e => by rw [upd_ne (ne_of_none e nr), upd_ne (ne_of_none e ndx)]; exact e
    generalize hH1 : upd (upd H dx (.own r)) r (.ins CR dx (rf a 0)) = H1 at s1
    have h1 : H1 r = some (.ins CR dx (rf a 0)) := by rw [← hH1]; exact upd_same
    have S1 := S.mono s1
    have toS : ∀ H', But r H1 H' → Same H H' := fun H' e b o q => e b o (ne_of_none q nr) (s1 _ _ q)
    have run := (GM.whole_run Ql89.readMatrix (Ql89Neutral.octets s) (WP C CM H Q E)).mp k
    have run1 := GM.run_matrix_ok (GM.run_mono (bad' := Bad C r H1 E) run (fun _ _ h => h) fun pl kd h dx' H' e hd => h dx' H' (toS H' e) hd)
    refine ⟨_, rfl, r, dx, a, s, 0, rfl, Reads.call S1 (But.refl _ _) h1 run1 fun m q hok v H2 e2 h2 hv fr => ?_⟩
    obtain ⟨mok, hok⟩ := hok
    obtain ⟨am, dxm, L, rfl, hm, hL, hrows, hb1, hb2, hcl, _⟩ := hv
    refine ⟨_, rfl, r, dx, _, rfl, h2, noNF _ _, r, dx, a, s, q, rfl, h2, S1.but e2 h1, ?_⟩
    rw [GM.octets_length] at hok
    by_cases hq : q < s.length
    · rw [if_pos hq] at hok ⊢
      exact fun dx' hdx => hok dx' _ (fun b o e => by rw [upd_ne (ne_of_none (toS _ e2 b o e) hdx)]; exact toS _ e2 b o e) upd_same
    · rw [if_neg hq] at hok ⊢
      exact ⟨_, rfl, hok am H2 (toS _ e2) (s1.free (fr am rfl)) ⟨dxm, L, hm, hL⟩ ⟨hrows, hb1, hb2, hcl⟩ mok⟩
end
end Go

set_option Elab.async false
set_option linter.all false
set_option maxRecDepth 100000
set_option maxHeartbeats 4000000
namespace Go
open PySem L2
theorem stored_lines {H : Hp} : ∀ {rows : List (List Int)} {as : List Addr}, Lines H rows as → ∃ (ns : List Int), ns.length = rows.length ∧ (∀ (i : Nat) (a : Addr), as[i]? = some a → ∃ (bs : List Addr) (z : Int), H a = some (.lst (bs.map V.ref)) ∧ ns[i]? = some z ∧ z = (bs.length : Int)) ∧
    ns.sum = (((rows.map fun (r : List Int) => (r.filter fun (x : Int) => x != 0).length).sum : Nat) : Int)
  | _, _, .nil => ⟨[], rfl, fun i a h => by simp at h, rfl⟩
  | x :: rows, a :: as, .cons q t => by
    obtain ⟨ns, h1, h2, h3⟩ := stored_lines t
    obtain ⟨bs, b1, b2⟩ := q
    have hb : bs.length = (x.filter fun (x : Int) => x != 0).length := by
      rw [← GM.sparse_length x 0]
      exact (Paired.length b2).symm
    refine ⟨(bs.length : Int) :: ns, by simp [h1], fun i c h => ?_, ?_⟩
    · cases i with
      | zero =>
        have e : a = c := by simpa using h
        subst e
        exact ⟨bs, _, b1, rfl, rfl⟩
      | succ i =>
        have e : as[i]? = some c := by simpa using h
        obtain ⟨bs', z, c1, c2, c3⟩ := h2 i c e
        exact ⟨bs', z, c1, by simpa using c2, c3⟩
    · rw [List.sum_cons, List.map_cons, List.sum_cons, h3, hb]
      omega
section
variable {P : Program} {w : World} {K : PySem.W.Frag} {mg : Str → Option Value} {base : Heap} {C CR fF CM : Addr}
def spHM (CM : Addr) : Sp := fun vs H Q _ => ∃ (a : Addr) (m : Ql89.Matrix), vs = [.ref a] ∧ MatAt CM H m a ∧ m.row.length ≤ 4096 ∧ ∀ H', Same H H' → Q (.int (Ql89.stored m : Int)) H'
theorem scHM : FnScope ["matrix", "line"] ["matrix"] (defScope sHM) := ⟨rfl, rfl, rfl, by decide +kernel, rfl, by decide +kernel, by decide +kernel⟩
theorem ok_HM {f : Addr} {fd : FuncData} (F : Fun K "how_many" "how_many" sHM f fd) (T2 : Txt2 K mg CM) (hsum : mg "sum" = none) (hlen : mg "len" = none) : FnOk P w K mg base CX0 1 f fd ["matrix"] (spHM CM) := by
  refine F.ok scHM (fun vs H Q E h => ?_) (fun cdv A outer s H vs Q E hr h => ?_)
  · obtain ⟨a, m, rfl, _⟩ := h
    rfl
  · obtain ⟨a, m, rfl, ⟨dx, L, hm, as, hL, hLs⟩, hl, k⟩ := h
    refine ⟨_, pss_one (ps_ret (pe_callB (cr_sum rfl) (by rfl) hsum PyProof.Rows.boot_sum (pa_cons
      (pe_lc rfl scHM.nd (pi_list (pe_fld (pv 0) rfl)) (blkOk_by (own := [("line", 1)]) (by kernel_rfl)) (fun _ _ _ _ _ => pg_name (i := 1) scHM.nd rfl (Or.inl rfl)) (fun _ _ _ _ _ => pts_nil)
        (fun _ _ _ _ _ => pe_callB (call_lenK (K := K) rfl) (by rfl) hlen PySem.boot_len (pa_cons (pv 1) pa_nil))) pa_nil))), ?_⟩
    obtain ⟨ns, hn1, hn2, hn3⟩ := stored_lines hLs
    have hal : m.row.length = as.length := Paired.length hLs
    have hs : 8192 ≤ sizeLine := by decide
    refine ⟨_, rfl, a, CM, dx, _, _, rfl, hm, T2.cl, T2.nL, mf_lines _ _ _, L, rfl, ⟨_, SqL.of hL⟩, fun D hD => ?_⟩
    refine lc_listV (xs := as.map V.ref) (ns.map V.int) (by simp; omega) (by rw [List.length_map]; omega) (SqL.of hL) hD ?_ ?_
    · intro i x y H' Q' hx hy s1 kQ
      rw [List.getElem?_map] at hx
      obtain ⟨b, hb, rfl⟩ := Option.map_eq_some_iff.mp hx
      obtain ⟨bs, z, c1, c2, c3⟩ := hn2 i b hb
      rw [List.getElem?_map, c2] at hy
      cases hy
      refine ⟨rfl, _, rfl, b, _, rfl, .inl (SqL.of (s1 _ _ c1)), ?_⟩
      rw [List.length_map, ← c3]
      exact kQ H' (Same.refl _)
    · intro H' s1 hD'
      refine ⟨D, ns, rfl, SqL.of hD', ?_⟩
      rw [hn3]
      exact k H' s1
end
end Go

set_option Elab.async false
set_option linter.all false
set_option maxRecDepth 100000
set_option maxHeartbeats 4000000
namespace Go
open PySem L2
def ColsAt (H : Hp) (cols : List (List Int)) (as : List Addr) : Prop := Paired (fun (c : List Int) (a : Addr) => IntsAt H a c) cols as
end Go

set_option Elab.async false
set_option linter.all false
set_option maxRecDepth 100000
set_option maxHeartbeats 4000000
namespace Go
open PySem L2
theorem ColsAt.grow {H : Hp} {cols : List (List Int)} {as : List Addr} {i : Nat} {a : Addr} {c : List Int} (h : ColsAt H cols as) (nd : as.Nodup) (ha : as[i]? = some a) : ColsAt (L2.upd H a (.lst (c.map V.int))) (cols.set i c) as := by
  have hl := Paired.length h
  refine paired_of (by simpa using hl) fun j x b hx hb => ?_
  by_cases hj : j = i
  · subst hj
    rw [ha] at hb
    cases hb
    have hlt : j < cols.length := by rw [hl]; exact (List.getElem?_eq_some_iff.mp ha).1
    rw [List.getElem?_set_self hlt] at hx
    cases hx
    exact upd_same
  · rw [List.getElem?_set_ne (Ne.symm hj)] at hx
    have hne : b ≠ a := fun z => hj (nd_ix nd (z ▸ hb) ha)
    show L2.upd H a _ b = _
    rw [upd_ne hne]
    exact paired_both h hx hb
structure Laid (H1 H : Hp) (D : Addr) (cols : List (List Int)) (as : List Addr) : Prop where
  sm : Same H1 H
  at_ : H D = some (.lst (as.map V.ref))
  cols : ColsAt H cols as
  nd : as.Nodup
  new : ∀ b ∈ as, H1 b = none ∧ b ≠ D
theorem Laid.more {H1 H : Hp} {D p : Addr} {cols : List (List Int)} {as : List Addr} {c : List Int} (h : Laid H1 H D cols as) (hD : H1 D = none) (hp : H p = none) : Laid H1 (upd (upd H p (.lst (c.map V.int))) D (.lst (as.map V.ref ++ [V.ref p]))) D (cols ++ [c]) (as ++ [p]) := by
  have hDp : D ≠ p := ne_of_none h.at_ hp
  have s1 : Same H (upd H p (.lst (c.map V.int))) := Same.new hp
  have hpas : p ∉ as := fun z => by
    obtain ⟨i, hi⟩ := List.getElem?_of_mem z
    obtain ⟨c', _, q⟩ := paired_get h.cols hi
    have q : H p = some _ := q
    rw [q] at hp
    cases hp
  refine ⟨(h.sm.trans s1).updN hD, by rw [List.map_append]; exact upd_same, ?_, ?_, fun b hb => ?_⟩
  · refine paired_app (paired_of (Paired.length h.cols) fun i c' a hc ha => ?_) (.cons ?_ .nil)
    · have hne : a ≠ D := (h.new a (List.mem_of_getElem? ha)).2
      show upd _ D _ a = _
      rw [upd_ne hne]
      exact s1 _ _ (paired_both h.cols hc ha)
    · show upd _ D _ p = _
      rw [upd_ne hDp.symm, upd_same]
  · refine List.nodup_append.mpr ⟨h.nd, by simp, fun a ha b hb z => ?_⟩
    have : b = p := by simpa using hb
    exact hpas (by rw [← this, ← z]; exact ha)
  · rcases List.mem_append.mp hb with z | z
    · exact h.new b z
    · have : b = p := by simpa using z
      rw [this]
      exact ⟨h.sm.free hp, hDp.symm⟩
theorem lc_empty {n : Nat} {g : TG} {vs : List Nat} {σ : L2.St} {H1 : Hp} {D : Addr} {Qd : Hp → Prop} (hD : H1 D = none) (hn : n ≤ 4096) (hg : ∀ (v : V) (H : Hp) (Q : L2.St → Hp → Prop), (∀ σ2, wipe σ2 vs = wipe σ vs → Q σ2 H) → g v (wipe σ vs) H Q) (hd : ∀ H as, Laid H1 H D (List.replicate n []) as → Qd H) :
    ∃ W : Nat → Nat → Hp → Prop, (∃ m, W 0 m (upd H1 D (.lst []))) ∧ ∀ i m H, W i m H →
      ((Itr 0 n).stop i H ∧ Qd H) ∨ ((Itr 0 n).go i H ∧ ∃ Nx : Hp → Prop, (∀ H', Nx H' → ∃ m', m' < m ∧ W (i + 1) m' H') ∧ ∀ x H', (Itr 0 n).yld i H x H' → g x (wipe σ vs) H' fun σ2 H2 => wipe σ2 vs = wipe σ vs ∧ tYes σ2 H2 fun b H3 =>
        if b = true then tLst tNil σ2 H3 fun y H4 => ∃ acc, H4 D = some (.lst acc) ∧ acc.length < sizeLine ∧ Nx (upd H4 D (.lst (acc ++ [y]))) else Nx H3) := by
  have hsz : 5000 ≤ sizeLine := by decide
  refine lc_range (fun i H => ∃ as, Laid H1 H D (List.replicate i []) as) ⟨[], Same.new hD, upd_same, .nil, List.nodup_nil, fun _ z => by simp at z⟩ ?_ fun H ⟨as, p⟩ => hd H as p
  rintro i H hi ⟨as, p⟩
  refine hg _ _ _ fun σ2 hσ => ⟨hσ, Nat.zero_le _, fun q hq => ?_⟩
  have hl : as.length = i := by have := Paired.length p.cols; simpa using this.symm
  have hDq : D ≠ q := ne_of_none p.at_ hq
  refine ⟨as.map V.ref, by rw [upd_ne hDq]; exact p.at_, by rw [List.length_map]; omega, as ++ [q], ?_⟩
  have := p.more (c := []) hD hq
  rw [List.replicate_succ']
  exact this
theorem ixN_of {n j : Nat} {z : Int} (e : z = (j : Int)) (h : j < n) : ixN n z = some j := by
  subst e
  unfold ixN
  rw [if_pos (by omega), if_pos (by omega)]
  simp
end Go

set_option Elab.async false
set_option linter.all false
set_option maxRecDepth 100000
set_option maxHeartbeats 4000000
namespace Go
open PySem L2
section
variable {P : Program} {w : World} {K : PySem.W.Frag} {mg : Str → Option Value} {base : Heap} {C CR fF CM : Addr}
def spBC : Sp := fun vs H Q _ => ∃ (c : Nat), vs = [.int c] ∧ c ≤ 4096 ∧ Q (.int (Ql89.blocks c : Nat)) H
theorem scBC : FnScope ["columns"] ["columns"] (defScope sBC) := ⟨rfl, rfl, rfl, by decide +kernel, rfl, by decide +kernel, by decide +kernel⟩
theorem ok_BC {f : Addr} {fd : FuncData} (F : Fun K "block_count" "block_count" sBC f fd) (T2 : Txt2 K mg CM) : FnOk P w K mg base CX0 1 f fd ["columns"] spBC := by
  refine F.ok scBC (fun vs H Q E h => ?_) (fun cdv A outer s H vs Q E hr h => ?_)
  · obtain ⟨c, rfl, _⟩ := h
    rfl
  · obtain ⟨c, rfl, hc, k⟩ := h
    refine ⟨_, pss_one (ps_ret (pe_op op_fdiv (pe_op op_sub (pe_op op_add (pv 0) (pe_const T2.block rfl)) pe_int) (pe_const T2.block rfl))), ?_⟩
    refine ⟨_, rfl, _, _, rfl, rfl, _, _, rfl, rfl, _, _, rfl, rfl, ⟨by decide, by decide⟩, ?_⟩
    have e : ((c : Int) + 64 - 1) / 64 = ((Ql89.blocks c : Nat) : Int) := by unfold Ql89.blocks; omega
    show Q (.int (((c : Int) + 64 - 1) / 64)) H
    rw [e]
    exact k
def spLit : Sp := fun vs H Q _ => ∃ (n z : Nat), vs = [.int n, .int z] ∧ z ≤ 8 ∧ ∀ L H', H L = none → Same H H' → H' L = some (.lst ((GM.octs (Ql89.low z n)).map V.int)) → Q (.ref L) H'
theorem scLit : FnScope ["number", "size", "digit"] ["number", "size"] (defScope sLit) := ⟨rfl, rfl, rfl, by decide +kernel, rfl, by decide +kernel, by decide +kernel⟩
theorem ok_Lit {f : Addr} {fd : FuncData} (F : Fun K "little" "little" sLit f fd) (hrange : mg "range" = none) : FnOk P w K mg base CX0 1 f fd ["number", "size"] spLit := by
  refine F.ok scLit (fun vs H Q E h => ?_) (fun cdv A outer s H vs Q E hr h => ?_)
  · obtain ⟨n, z, rfl, _⟩ := h
    rfl
  · obtain ⟨n, z, rfl, hz, k⟩ := h
    refine ⟨_, pss_one (ps_ret (pe_lc rfl scLit.nd (pi_range1 rfl hrange (pa_cons (pv 1) pa_nil)) (blkOk_by (own := [("digit", 2)]) (by kernel_rfl)) (fun _ _ _ _ _ => pg_name (i := 2) scLit.nd rfl (Or.inl rfl)) (fun _ _ _ _ _ => pts_nil)
      (fun _ _ _ _ _ => pe_op op_mod (pe_op op_shr (pv 0) (pe_op op_mul pe_int (pv 2))) pe_int))), ?_⟩
    have hs : 8192 ≤ sizeLine := by decide
    refine ⟨_, rfl, _, rfl, by omega, by omega, fun D hD => ?_⟩
    rw [Int.toNat_natCast]
    refine lc_rangeV ((GM.octs (Ql89.low z n)).map V.int) (by rw [List.length_map, GM.octs_len]) (by omega) hD ?_ ?_
    · intro i y H' Q' hi hy s1 kQ
      rw [GM.octs_low, List.map_map, List.getElem?_map] at hy
      have e1 : (List.range z)[i]? = some i := by simp [hi]
      rw [e1] at hy
      cases hy
      refine ⟨rfl, _, rfl, _, rfl, _, _, rfl, rfl, .inl ⟨by decide, by decide⟩, _, _, rfl, rfl, (by show (0 : Int) ≤ 8 * ((0 : Int) + (i : Int)); omega), _, _, rfl, rfl, (by show (0 : Int) < 256; decide), ?_⟩
      have kQ := kQ H' (Same.refl _)
      show Q' (.int (((n : Int) / 2 ^ (8 * ((0 : Int) + (i : Int))).toNat) % 256)) H'
      rw [GM.little_at]
      exact kQ
    · intro H' s1 hD'
      exact k D H' hD s1 hD'
def spFSz (CM : Addr) : Sp := fun vs H Q _ => ∃ (a : Addr) (m : Ql89.Matrix), vs = [.ref a] ∧ MatAt CM H m a ∧ MDim m ∧ ∀ H', Same H H' → Q (.int ((Ql89.write m).length : Nat)) H'
theorem scFSz : FnScope ["matrix"] ["matrix"] (defScope sFSz) := ⟨rfl, rfl, rfl, by decide +kernel, rfl, by decide +kernel, by decide +kernel⟩
theorem ok_FSz {f fB fH : Addr} {fd fdB fdH : FuncData} (F : Fun K "form_size" "form_size" sFSz f fd) (T2 : Txt2 K mg CM) (BC : GFn P w K mg base CX0 1 "block_count" fB fdB ["columns"] spBC) (HM : GFn P w K mg base CX0 1 "how_many" fH fdH ["matrix"] (spHM CM)) :
    FnOk P w K mg base CX0 2 f fd ["matrix"] (spFSz CM) := by
  refine F.ok scFSz (fun vs H Q E h => ?_) (fun cdv A outer s H vs Q E hr h => ?_)
  · obtain ⟨a, m, rfl, _⟩ := h
    rfl
  · obtain ⟨a, m, rfl, hM, dim, k⟩ := h
    refine ⟨_, pss_one (ps_ret (pe_op op_add (pe_op op_add pe_int (pe_op op_mul (pe_op op_mul pe_int (pe_fld (pv 0) rfl)) (pe_call BC.ok hr rfl BC.glo BC.kp BC.b .nil pass0 (pa_cons (pe_fld (pv 0) rfl) pa_nil)))) (pe_call HM.ok hr rfl HM.glo HM.kp HM.b .nil pass0 (pa_cons (pv 0) pa_nil)))), ?_⟩
    obtain ⟨dx, L, hm, hL⟩ := id hM
    have hr2 := dim.rows
    have hc2 := dim.cols
    refine ⟨_, rfl, a, CM, dx, _, _, rfl, hm, T2.cl, T2.nR, mf_rows _ _ _, _, _, rfl, rfl, .inl ⟨by decide, by decide⟩, _, rfl, a, CM, dx, _, _, rfl, hm, T2.cl, T2.nC, mf_cols _ _ _, m.cols, rfl, hc2.2, _, _, rfl, rfl, .inl ⟨by omega, by omega⟩, _, _, rfl, rfl, _, rfl, a, m, rfl, hM, by rw [dim.len]; exact hr2.2, fun H2 s2 => ?_⟩
    refine ⟨_, _, rfl, rfl, ?_⟩
    have e : (4 : Int) + 8 * (m.rows : Int) * ((Ql89.blocks m.cols : Nat) : Int) + (Ql89.stored m : Int) = ((Ql89.write m).length : Nat) := by
      rw [GM.write_length m dim.len dim.row]
      simp
    show Q (.int ((4 : Int) + 8 * (m.rows : Int) * ((Ql89.blocks m.cols : Nat) : Int) + (Ql89.stored m : Int))) H2
    rw [e]
    exact k H2 s2
def spLiB : Sp := fun vs H Q _ => ∃ (L : Addr) (r : List Int) (cols : Nat), vs = [.ref L, .int (Ql89.blocks cols : Nat)] ∧ PairsAt H L (GM.sparse 0 r) ∧ r.length = cols ∧ (1 ≤ cols ∧ cols ≤ 4096) ∧ ∀ D H', H D = none → Same H H' → H' D = some (.lst ((GM.rowB cols r).map V.int)) → Q (.ref D) H'
theorem scLiB : FnScope ["line", "blocks", "masks", "numbers", "column", "number", "block", "data", "mask", "entries"] ["line", "blocks"] (defScope sLiB) := ⟨rfl, rfl, rfl, by decide +kernel, rfl, by decide +kernel, by decide +kernel⟩
theorem rep_flat (n : Nat) (v : V) : (List.replicate n [v]).flatten = List.replicate n v := by
  induction n with
  | zero => rfl
  | succ n ih => rw [List.replicate_succ, List.flatten_cons, ih]; rfl
theorem range_zero (n : Nat) : (List.range n).map (GM.mk []) = List.replicate n 0 := by
  refine List.ext_getElem? fun i => ?_
  rw [List.getElem?_map, List.getElem?_replicate]
  by_cases h : i < n
  · have e1 : (List.range n)[i]? = some i := by simp [h]
    rw [e1, if_pos h]
    rfl
  · have e1 : (List.range n)[i]? = none := by simp; omega
    rw [e1, if_neg h]
    rfl
theorem range_nil (n : Nat) : (List.range n).map (GM.nb []) = List.replicate n [] := by
  refine List.ext_getElem? fun i => ?_
  rw [List.getElem?_map, List.getElem?_replicate]
  by_cases h : i < n
  · have e1 : (List.range n)[i]? = some i := by simp [h]
    rw [e1, if_pos h]
    rfl
  · have e1 : (List.range n)[i]? = none := by simp; omega
    rw [e1, if_neg h]
    rfl
theorem ok_LiB {f fL : Addr} {fd fdL : FuncData} (F : Fun K "line_bytes" "line_bytes" sLiB f fd) (T2 : Txt2 K mg CM) (hzip : mg "zip" = none) (Li : GFn P w K mg base CX0 1 "little" fL fdL ["number", "size"] spLit) : FnOk P w K mg base CX0 2 f fd ["line", "blocks"] spLiB := by
  refine F.ok scLiB (fun vs H Q E h => ?_) (fun cdv A outer s H vs Q E hr h => ?_)
  · obtain ⟨L, r, cols, rfl, _⟩ := h
    rfl
  · obtain ⟨L, r, cols, rfl, ⟨as, hL, hP⟩, hl, ⟨hc1, hc2⟩, k⟩ := h
    refine ⟨_, pss_cons (ps_set (i := 2) scLiB.nd rfl (Or.inl rfl) (pe_op op_rep (pe_lst (pa_cons pe_int pa_nil)) (pv 1)))
      (pss_cons (ps_setLc (i := 3) rfl scLiB.nd rfl rfl (sw_true rfl rfl rfl (by decide +kernel)) (pi_range1 rfl T2.range (pa_cons (pv 1) pa_nil)) (blkOk_by (own := [("block", 6)]) (by kernel_rfl)) (fun _ _ _ _ _ => pg_name (i := 6) scLiB.nd rfl (Or.inl rfl)) (fun _ _ _ _ _ => pts_nil) (fun _ _ _ _ _ => pe_lst pa_nil))
      (pss_cons (ps_for PassesOwn.never rfl (pi_list (pv 0)) (pg_tup (n := 2) rfl (pgs_cons (pg_name (i := 4) scLiB.nd rfl (Or.inl rfl)) (pgs_cons (pg_name (i := 5) scLiB.nd rfl (Or.inl rfl)) pgs_nil)))
        (pss_cons (ps_set (i := 6) scLiB.nd rfl (Or.inl rfl) (pe_op op_fdiv (pv 4) (pe_const T2.block rfl)))
        (pss_cons (ps_augS (pv 2) (pv 6) get_list (pe_op op_shl pe_int (pe_op op_mod (pv 4) (pe_const T2.block rfl))) ip_add set_list)
        (pss_one (ps_expr (pe_bm PySem.F.plainAttrs_list PySem.F.slot_list_append PySem.F.type_list_append mt_append (pe_ix ix_list (pv 3) (pv 6) (fun _ _ => rfl)) (pa_cons (pe_op op_mod (pv 5) pe_int) pa_nil)))))))
      (pss_cons (ps_set (i := 7) scLiB.nd rfl (Or.inl rfl) (pe_lst pa_nil))
      (pss_cons (ps_for PassesOwn.never rfl (pi_zip rfl hzip (pa_cons (pv 2) (pa_cons (pv 3) pa_nil))) (pg_tup (n := 2) rfl (pgs_cons (pg_name (i := 8) scLiB.nd rfl (Or.inl rfl)) (pgs_cons (pg_name (i := 9) scLiB.nd rfl (Or.inl rfl)) pgs_nil)))
        (pss_cons (ps_expr (pe_bm PySem.F.plainAttrs_list PySem.F.slot_list_extend PySem.F.type_list_extend mt_extend (pv 7) (pa_cons (pe_call Li.ok hr rfl Li.glo Li.kp Li.b .nil pass0 (pa_cons (pv 8) (pa_cons pe_int pa_nil))) pa_nil)))
        (pss_one (ps_expr (pe_bm PySem.F.plainAttrs_list PySem.F.slot_list_extend PySem.F.type_list_extend mt_extend (pv 7) (pa_cons (pv 9) pa_nil))))))
      (pss_one (ps_ret (pv 7))))))), ?_⟩
    have hs : 100000 ≤ sizeLine := by decide
    have hB : Ql89.blocks cols ≤ 64 := by unfold Ql89.blocks; omega
    have hBc : cols ≤ 64 * Ql89.blocks cols := by unfold Ql89.blocks; omega
    rw [GM.rowB_cb] at k
    generalize hBe : Ql89.blocks cols = B at k hB hBc
    generalize hps : GM.sparse 0 r = ps at hP
    have hal : ps.length = as.length := Paired.length hP
    -- masks
    refine ⟨by show 1 ≤ sizeLine; decide, fun Z hZ => ⟨_, rfl, Z, _, _, rfl, rfl, upd_same, by omega, by omega, ?_, fun M hM => ?_⟩⟩
    · show 1 * _ ≤ sizeLine
      rw [Int.toNat_natCast]
      omega
    rw [Int.toNat_natCast, rep_flat]
    have hM0 : H M = none := (Same.new hZ).free hM
    have s2 : Same H (upd (upd H Z (.lst [.int 0])) M (.lst (List.replicate B (.int 0)))) := (Same.new hZ).trans (Same.new hM)
    have hM2 : (upd (upd H Z (.lst [.int 0])) M (.lst (List.replicate B (.int 0)))) M = some (.lst (((List.range B).map (GM.mk [])).map V.int)) := by
      rw [upd_same, range_zero, List.map_replicate]
    generalize upd (upd H Z (.lst [.int 0])) M (.lst (List.replicate B (.int 0))) = H2 at s2 hM2
    -- numbers
    refine ⟨_, rfl, _, rfl, by omega, by omega, fun NL hNL => ?_⟩
    rw [Int.toNat_natCast]
    refine lc_empty hNL (by omega) (fun v H Q h => h _ rfl) fun H3 nas Ld => ?_
    have hNL0 : H NL = none := s2.free hNL
    have hMN : M ≠ NL := ne_of_none hM2 hNL
    have na0 : ∀ a ∈ nas, H a = none := fun a ha => s2.free (Ld.new a ha).1
    have naM : M ∉ nas := fun z => by have := (Ld.new M z).1; rw [hM2] at this; cases this
    have naN : NL ∉ nas := fun z => (Ld.new NL z).2 rfl
    have nal : nas.length = B := by have := Paired.length Ld.cols; simpa using this.symm
    have sL : Same H H3 := s2.trans Ld.sm
    refine ⟨_, rfl, L, rfl, ⟨_, SqL.of (sL _ _ hL)⟩, for_list (K := K) (a := L) (xs := as.map V.ref) (fun i σ H' => ∃ v4 v5 v6, σ = [some (.ref L), some (.int (B : Int)), some (.ref M), some (.ref NL), v4, v5, v6, none, none, none] ∧ Same H H' ∧
        H' M = some (.lst (((List.range B).map (GM.mk (ps.take i))).map V.int)) ∧ H' NL = some (.lst (nas.map V.ref)) ∧ ColsAt H' ((List.range B).map (GM.nb (ps.take i))) nas) ?_ (fun i σ H' _ ⟨_, _, _, _, s1, _⟩ => SqL.of (s1 _ _ hL)) ?_ ?_⟩
    · refine ⟨none, none, none, rfl, sL, by rw [List.take_zero]; exact Ld.sm _ _ hM2, Ld.at_, ?_⟩
      rw [List.take_zero, range_nil]
      exact Ld.cols
    · rintro i x σ H' hx ⟨v4, v5, v6, rfl, s1, hM', hN', hC'⟩
      rw [List.getElem?_map] at hx
      obtain ⟨t, ht, rfl⟩ := Option.map_eq_some_iff.mp hx
      obtain ⟨p, hp, hpt⟩ := paired_get hP ht
      obtain ⟨j, hj, e1, e2⟩ := GM.sparse_mem r 0 p (by rw [hps]; exact List.mem_of_getElem? hp)
      rw [Nat.zero_add] at e1
      have hb : j / 64 < B := by omega
      have eb : p.1 / 64 = ((j / 64 : Nat) : Int) := by omega
      have hrB : (List.range B)[j / 64]? = some (j / 64) := by simp [hb]
      obtain ⟨a, ha⟩ : ∃ a, nas[j / 64]? = some a := ⟨nas[j / 64], by simp [show j / 64 < nas.length by omega]⟩
      have haM : a ≠ M := fun z => naM (by rw [← z]; exact List.mem_of_getElem? ha)
      have haN : a ≠ NL := fun z => naN (by rw [← z]; exact List.mem_of_getElem? ha)
      have hCa : H' a = some (.lst ((GM.nb (ps.take i) (j / 64)).map V.int)) := paired_both hC' (by rw [List.getElem?_map, hrB]; rfl) ha
      have hlnb : (GM.nb (ps.take i) (j / 64)).length ≤ 4096 := by
        unfold GM.nb
        rw [List.length_map]
        refine Nat.le_trans (List.length_filter_le _ _) ?_
        have := GM.sparse_le r 0
        rw [hps] at this
        rw [List.length_take]
        omega
      have etk : ps.take (i + 1) = ps.take i ++ [p] := by rw [List.take_add_one, hp]; rfl
      refine ⟨t, _, rfl, SqT.of (s1 _ _ hpt), rfl, _, _, rfl, _, _, rfl, rfl, ?_⟩
      refine ⟨_, rfl, _, _, rfl, rfl, ⟨by decide, by decide⟩, ?_⟩
      refine ⟨_, rfl, _, rfl, M, _, _, j / 64, .int (GM.mk (ps.take i) (j / 64)), rfl, rfl, SqL.of hM', eb, by rw [List.getElem?_map, List.getElem?_map, hrB]; rfl, ?_⟩
      refine ⟨_, rfl, _, _, rfl, rfl, (by show (0 : Int) < 64; decide), _, _, rfl, rfl, ⟨(by show (0 : Int) ≤ p.1 % 64; omega), (by show p.1 % 64 ≤ 1000000; omega), by decide⟩, _, _, rfl, rfl, M, _, _, j / 64, rfl, rfl, hM', ixN_of eb (by simpa using hb), ?_⟩
      refine ⟨_, rfl, _, rfl, NL, _, _, V.ref a, rfl, rfl, SqL.of (by rw [upd_ne hMN.symm]; exact hN'), at_of eb (by rw [List.getElem?_map, ha]; rfl), .inl ⟨rfl, _, SqL.of (by rw [upd_ne haM]; exact hCa)⟩, _, rfl, _, _, rfl, rfl, (by show (0 : Int) < 256; decide), a, _, _, rfl, rfl, by rw [upd_ne haM]; exact hCa, by rw [List.length_map]; omega, ?_⟩
      refine ⟨_, _, _, rfl, (s1.updN hM0).updN (na0 a (List.mem_of_getElem? ha)), ?_, ?_, ?_⟩
      · rw [upd_ne (Ne.symm haM), upd_same, etk, GM.range_set (GM.mk (ps.take i)) (GM.mk (ps.take i ++ [p])) B (j / 64) hb fun b hbj => ?_]
        · rw [List.map_set, GM.mk_snoc, if_pos eb]
          show some (HO.lst (List.set _ _ (V.int (_ + 1 * 2 ^ (p.1 % 64).toNat)))) = _
          rw [Int.one_mul]
        · rw [GM.mk_snoc, if_neg (fun z => hbj (by omega))]
      · rw [upd_ne (Ne.symm haN), upd_ne hMN.symm]
        exact hN'
      · rw [etk, GM.range_set (GM.nb (ps.take i)) (GM.nb (ps.take i ++ [p])) B (j / 64) hb fun b hbj => ?_]
        · rw [GM.nb_snoc, if_pos eb]
          have := ColsAt.grow (c := GM.nb (ps.take i) (j / 64) ++ [p.2 % 256]) (show ColsAt (upd H' M (.lst ((((List.range B).map (GM.mk (ps.take i))).map V.int).set (j / 64) (V.int (GM.mk (ps.take i) (j / 64) + 1 * 2 ^ (p.1 % 64).toNat))))) ((List.range B).map (GM.nb (ps.take i))) nas from paired_of (Paired.length hC') fun i' c b hc' hb' => by
            show upd H' M _ b = _
            rw [upd_ne (fun z => naM (by rw [← z]; exact List.mem_of_getElem? hb'))]
            exact paired_both hC' hc' hb') Ld.nd ha
          rw [List.map_append] at this
          exact this
        · rw [GM.nb_snoc, if_neg (fun z => hbj (by omega))]
    · rintro σ H4 ⟨v4, v5, v6, rfl, s4, hM4, hN4, hC4⟩
      rw [List.length_map, ← hal, List.take_length, ← hps] at hM4 hC4
      have hM4 : H4 M = some (.lst (((List.range B).map fun (b : Nat) => ((Ql89.mask (Ql89.chunk r b) : Nat) : Int)).map V.int)) := by
        rw [hM4]
        exact congrArg (fun (l : List Int) => some (HO.lst (l.map V.int))) (List.map_congr_left fun b _ => GM.mk_mask r b)
      refine ⟨Nat.zero_le _, fun D hD => ?_⟩
      have hD0 : H D = none := s4.free hD
      have hMD : M ≠ D := ne_of_none hM4 hD
      have hND : NL ≠ D := ne_of_none hN4 hD
      refine ⟨_, rfl, _, rfl, M, NL, _, _, rfl, SqL.of (by rw [upd_ne hMD]; exact hM4), SqL.of (by rw [upd_ne hND]; exact hN4), ?_⟩
      refine for_zip (K := K) (xs := ((List.range B).map fun (b : Nat) => ((Ql89.mask (Ql89.chunk r b) : Nat) : Int)).map V.int) (us := nas.map V.ref) (fun i σ H' => ∃ v4 v5 v6 v8 v9, σ = [some (.ref L), some (.int (B : Int)), some (.ref M), some (.ref NL), v4, v5, v6, some (.ref D), v8, v9] ∧ Same H4 H' ∧ H' D = some (.lst ((((List.range B).take i).flatMap (GM.cb r)).map V.int)))
        ⟨_, _, _, _, _, rfl, Same.new hD, by rw [upd_same, List.take_zero]; rfl⟩ (fun i σ H' ⟨_, _, _, _, _, _, s1, _⟩ => ⟨SqL.of (s1 _ _ hM4), SqL.of (s1 _ _ hN4)⟩) ?_ ?_
      · rintro i x u T σ H' hx hu ⟨v4, v5, v6, v8, v9, rfl, s1, hD'⟩ hT
        rw [List.getElem?_map] at hu
        obtain ⟨na, hna, rfl⟩ := Option.map_eq_some_iff.mp hu
        have hi : i < B := by rw [← nal]; exact (List.getElem?_eq_some_iff.mp hna).1
        have hrB : (List.range B)[i]? = some i := by simp [hi]
        rw [List.getElem?_map, List.getElem?_map, hrB] at hx
        cases hx
        have hn4 : H4 na = some (.lst ((GM.nz (Ql89.chunk r i)).map V.int)) := by
          rw [← GM.nb_nz]
          exact paired_both hC4 (by rw [List.getElem?_map, hrB]; rfl) hna
        have sT := Same.new (o := .tup [V.int ((Ql89.mask (Ql89.chunk r i) : Nat) : Int), V.ref na]) hT
        have hlen := GM.cb_len r ((List.range B).take i)
        have htl : ((List.range B).take i).length ≤ 64 := by rw [List.length_take, List.length_range]; omega
        have hnz := GM.nz_len r i
        refine ⟨T, _, rfl, SqT.of upd_same, rfl, _, _, rfl, _, _, rfl, rfl, ?_⟩
        refine ⟨_, rfl, .inl ⟨rfl, _, SqL.of (sT _ _ hD')⟩, _, rfl, _, 8, rfl, Nat.le_refl _, fun L8 H8 n8 s8 h8 => ⟨D, L8, _, _, rfl, rfl, s8 _ _ (sT _ _ hD'), h8, by rw [List.length_map, List.length_map, GM.octs_len]; omega, ?_⟩⟩
        have hn8 : H8 na = some (.lst ((GM.nz (Ql89.chunk r i)).map V.int)) := s8 _ _ (sT _ _ (s1 _ _ hn4))
        have hnD : na ≠ D := ne_of_none hn4 hD
        refine ⟨_, rfl, .inl ⟨rfl, _, SqL.of upd_same⟩, _, rfl, D, na, _, _, rfl, rfl, upd_same, by rw [upd_ne hnD]; exact hn8, by rw [List.length_append, List.length_map, List.length_map, List.length_map, GM.octs_len]; omega, ?_⟩
        refine ⟨_, _, _, _, _, rfl, (((s1.trans sT).trans s8).updN hD).updN hD, ?_⟩
        rw [upd_same, GM.flat_step (List.range B) (GM.cb r) i i hrB, List.map_append]
        unfold GM.cb
        rw [List.map_append, List.append_assoc]
      · rintro σ H' ⟨v4, v5, v6, v8, v9, rfl, s1, hD'⟩
        have e : min (((List.range B).map fun (b : Nat) => ((Ql89.mask (Ql89.chunk r b) : Nat) : Int)).map V.int).length (nas.map V.ref).length = B := by simp; omega
        rw [e, List.take_of_length_le (by simp)] at hD'
        exact ⟨_, rfl, k D H' hD0 (s4.trans s1) hD'⟩
end
end Go

set_option Elab.async false
set_option linter.all false
set_option maxRecDepth 100000
set_option maxHeartbeats 4000000
namespace Go
open PySem L2
section
variable {P : Program} {w : World} {K : PySem.W.Frag} {mg : Str → Option Value} {base : Heap} {C CR fF CM : Addr}
def spFB (CM : Addr) : Sp := fun vs H Q _ => ∃ (a : Addr) (m : Ql89.Matrix), vs = [.ref a] ∧ MatAt CM H m a ∧ MDim m ∧ (Ql89.write m).length ≤ 400000 ∧ ∀ L H', Same H H' → H' L = some (.lst ((GM.octs (Ql89.write m)).map V.int)) → Q (.ref L) H'
theorem scFB : FnScope ["matrix", "data", "line"] ["matrix"] (defScope sFB) := ⟨rfl, rfl, rfl, by decide +kernel, rfl, by decide +kernel, by decide +kernel⟩
theorem ok_FB {f fB fL fX : Addr} {fd fdB fdL fdX : FuncData} (F : Fun K "form_bytes" "form_bytes" sFB f fd) (T2 : Txt2 K mg CM) (BC : GFn P w K mg base CX0 1 "block_count" fB fdB ["columns"] spBC) (Li : GFn P w K mg base CX0 1 "little" fL fdL ["number", "size"] spLit) (LB : GFn P w K mg base CX0 2 "line_bytes" fX fdX ["line", "blocks"] spLiB) :
    FnOk P w K mg base CX0 3 f fd ["matrix"] (spFB CM) := by
  refine F.ok scFB (fun vs H Q E h => ?_) (fun cdv A outer s H vs Q E hr h => ?_)
  · obtain ⟨a, m, rfl, _⟩ := h
    rfl
  · obtain ⟨a, m, rfl, hM, dim, hwl, k⟩ := h
    have hr1 : Room 1 _ := hr.mono (by decide)
    refine ⟨_, pss_cons (ps_set (i := 1) scFB.nd rfl (Or.inl rfl) (pe_op op_cat (pe_call Li.ok hr1 rfl Li.glo Li.kp Li.b .nil pass0 (pa_cons (pe_fld (pv 0) rfl) (pa_cons pe_int pa_nil))) (pe_call Li.ok hr1 rfl Li.glo Li.kp Li.b .nil pass0 (pa_cons (pe_fld (pv 0) rfl) (pa_cons pe_int pa_nil)))))
      (pss_cons (ps_for PassesOwn.never rfl (pi_list (pe_fld (pv 0) rfl)) (pg_name (i := 2) scFB.nd rfl (Or.inl rfl))
        (pss_one (ps_expr (pe_bm PySem.F.plainAttrs_list PySem.F.slot_list_extend PySem.F.type_list_extend mt_extend (pv 1) (pa_cons (pe_call LB.ok hr rfl LB.glo LB.kp LB.b .nil pass0 (pa_cons (pv 2) (pa_cons (pe_call BC.ok hr1 rfl BC.glo BC.kp BC.b .nil pass0 (pa_cons (pe_fld (pv 0) rfl) pa_nil)) pa_nil))) pa_nil)))))
      (pss_one (ps_ret (pv 1)))), ?_⟩
    obtain ⟨dx, L, hm, as, hL, hLs⟩ := id hM
    have hs : 500000 ≤ sizeLine := by decide
    have hc2 := dim.cols
    have hal : m.row.length = as.length := Paired.length hLs
    have hw := GM.octs_write m
    have hwlen : (GM.octs (Ql89.write m)).length ≤ 400000 := by rw [GM.octs_length]; exact hwl
    rw [hw, List.length_append] at hwlen
    rw [hw] at k
    refine ⟨_, rfl, a, CM, dx, _, _, rfl, hm, T2.cl, T2.nR, mf_rows _ _ _, m.rows, 2, rfl, by decide, fun L1 H1 n1 s1 h1 => ?_⟩
    refine ⟨_, rfl, a, CM, dx, _, _, rfl, s1 _ _ hm, T2.cl, T2.nC, mf_cols _ _ _, m.cols, 2, rfl, by decide, fun L2 H2 n2 s2 h2 => ?_⟩
    refine ⟨L1, L2, _, _, rfl, rfl, s2 _ _ h1, h2, by rw [List.length_map, List.length_map, GM.octs_len, GM.octs_len]; omega, fun D hD => ?_⟩
    rw [← List.map_append]
    have s12 : Same H H2 := s1.trans s2
    have s3 : Same H (upd H2 D (.lst ((GM.octs (Ql89.low 2 m.rows) ++ GM.octs (Ql89.low 2 m.cols)).map V.int))) := s12.trans (Same.new hD)
    generalize hhd : GM.octs (Ql89.low 2 m.rows) ++ GM.octs (Ql89.low 2 m.cols) = hd at s3 k hwlen
    have hD0 : H D = none := s12.free hD
    refine ⟨_, rfl, a, CM, dx, _, _, rfl, s3 _ _ hm, T2.cl, T2.nL, mf_lines _ _ _, L, rfl, ⟨_, SqL.of (s3 _ _ hL)⟩, for_list (K := K) (a := L) (xs := as.map V.ref) (fun i σ H' => ∃ v2, σ = [some (.ref a), some (.ref D), v2] ∧ Same H H' ∧ H' D = some (.lst ((hd ++ (m.row.take i).flatMap (GM.rowB m.cols)).map V.int)))
      ⟨none, rfl, s3, by rw [upd_same, List.take_zero, List.flatMap_nil, List.append_nil]⟩ (fun i σ H' _ ⟨_, _, s1, _⟩ => SqL.of (s1 _ _ hL)) ?_ ?_⟩
    · rintro i x σ H' hx ⟨v2, rfl, s4, hD'⟩
      rw [List.getElem?_map] at hx
      obtain ⟨b, hb, rfl⟩ := Option.map_eq_some_iff.mp hx
      obtain ⟨r, hrr, hrp⟩ := paired_get hLs hb
      have hst := GM.flat_step m.row (GM.rowB m.cols) i r hrr
      have hle := GM.flat_take m.row (GM.rowB m.cols) (i + 1)
      rw [hst, List.length_append] at hle
      refine ⟨_, rfl, .inl ⟨rfl, _, SqL.of hD'⟩, _, rfl, _, rfl, a, CM, dx, _, _, rfl, s4 _ _ hm, T2.cl, T2.nC, mf_cols _ _ _, m.cols, rfl, hc2.2, b, r, m.cols, rfl, hrp.mono s4, dim.row r (List.mem_of_getElem? hrr), hc2, fun E5 H5 n5 s5 h5 => ?_⟩
      refine ⟨D, E5, _, _, rfl, rfl, s5 _ _ hD', h5, by rw [List.length_map, List.length_map, List.length_append]; omega, ?_⟩
      refine ⟨_, rfl, (s4.trans s5).updN hD0, ?_⟩
      rw [upd_same, hst, ← List.map_append, List.append_assoc]
    · rintro σ H' ⟨v2, rfl, s4, hD'⟩
      rw [List.length_map, ← hal, List.take_length] at hD'
      exact ⟨_, rfl, k D H' s4 hD'⟩
def spFAn (CM : Addr) : Sp := fun vs H Q _ => ∃ (a : Addr) (m : Ql89.Matrix) (most : Int), vs = [.ref a, .int most] ∧ MatAt CM H m a ∧ MDim m ∧ most ≤ 400000 ∧ ∀ L H', H' L = some (.lst ((GM.given most m).map V.int)) → Q (.ref L) H'
theorem scFAn : FnScope ["matrix", "most", "size"] ["matrix", "most"] (defScope sFAn) := ⟨rfl, rfl, rfl, by decide +kernel, rfl, by decide +kernel, by decide +kernel⟩
theorem ok_FAn {f fS fB : Addr} {fd fdS fdB : FuncData} (F : Fun K "form_answer" "form_answer" sFAn f fd) (FS : GFn P w K mg base CX0 2 "form_size" fS fdS ["matrix"] (spFSz CM)) (FB : GFn P w K mg base CX0 3 "form_bytes" fB fdB ["matrix"] (spFB CM)) :
    FnOk P w K mg base CX0 4 f fd ["matrix", "most"] (spFAn CM) := by
  refine F.ok scFAn (fun vs H Q E h => ?_) (fun cdv A outer s H vs Q E hr h => ?_)
  · obtain ⟨a, m, most, rfl, _⟩ := h
    rfl
  · obtain ⟨a, m, most, rfl, hM, dim, hmost, k⟩ := h
    have hr2 : Room 2 _ := hr.mono (by decide)
    refine ⟨_, pss_cons (ps_set (i := 2) scFAn.nd rfl (Or.inl rfl) (pe_call FS.ok hr2 rfl FS.glo FS.kp FS.b .nil pass0 (pa_cons (pv 0) pa_nil)))
      (pss_cons (ps_if (pt_cmpR op_gt (pv 2) (pv 1) (nomark _)) (pss_one (ps_ret (pe_lst (pa_cons (pe_un un_neg pe_int) pa_nil)))) pss_nil)
      (pss_one (ps_ret (pe_op op_cat (pe_lst (pa_cons (pv 2) pa_nil)) (pe_call FB.ok hr rfl FB.glo FB.kp FB.b .nil pass0 (pa_cons (pv 0) pa_nil)))))), ?_⟩
    have hs : 500000 ≤ sizeLine := by decide
    refine ⟨_, rfl, a, m, rfl, hM, dim, fun H1 s1 => ?_⟩
    refine ⟨_, rfl, _, rfl, _, _, rfl, rfl, _, rfl, ?_⟩
    unfold GM.given at k
    refine ite2 (fun hc => ?_) (fun hc => ?_)
    · have hc := of_decide_eq_true hc
      rw [if_pos hc] at k
      refine ⟨_, rfl, by show 1 ≤ sizeLine; decide, fun L' hL' => k L' _ ?_⟩
      rw [upd_same]
      rfl
    · have hc : ¬ most < ((Ql89.write m).length : Int) := fun z => hc (decide_eq_true z)
      rw [if_neg hc] at k
      refine ⟨_, rfl, by show 1 ≤ sizeLine; decide, fun Z hZ => ?_⟩
      have sZ := Same.new (o := .lst [V.int ((Ql89.write m).length : Int)]) hZ
      refine ⟨_, rfl, a, m, rfl, hM.mono (s1.trans sZ), dim, by omega, fun L2 H2 s2 h2 => ?_⟩
      refine ⟨Z, L2, _, _, rfl, rfl, s2 _ _ upd_same, h2, by rw [List.length_map, GM.octs_length]; show 1 + _ ≤ sizeLine; omega, fun D hD => k D _ ?_⟩
      rw [upd_same]
      rfl
end
end Go

set_option Elab.async false
set_option linter.all false
set_option maxRecDepth 100000
set_option maxHeartbeats 4000000
namespace Go
open PySem L2
section
variable {P : Program} {w : World} {K : PySem.W.Frag} {mg : Str → Option Value} {base : Heap} {C CR fF CM : Addr}
theorem scSM : FnScope ["data"] ["data"] (defScope sSM) := ⟨rfl, rfl, rfl, by decide +kernel, rfl, by decide +kernel, by decide +kernel⟩
theorem ok_SM {f fW : Addr} {fd fdW : FuncData} (F : Fun K "sound_matrix" "sound_matrix" sSM f fd) (T : Txt K mg C CR fF) (W : GFn P w K mg base (CXF P w C) 9 "whole_matrix" fW fdW ["data"] (spWM K C CM)) : FnOk P w K mg base CX0 10 f fd ["data"] (spSM K CM) := by
  refine F.ok scSM (fun vs H Q E h => ?_) (fun cdv A outer st H vs Q E hr h => ?_)
  · obtain ⟨d, s, rfl, _⟩ := h
    rfl
  · obtain ⟨d, s, rfl, S, k⟩ := h
    generalize hw : readW s = e at k
    refine ⟨_, pss_one (ps_try (C := C) (E := fun _ _ H' => (∃ fl, e = .error fl) ∧ Same H H') ⟨_, _, _, rfl, rfl, rfl⟩ rfl T.mgF T.xc.em
      (fun pn xe po hX => pss_one (ps_ret (pe_call W.ok hr rfl W.glo W.kp W.b .nil (passX hX) (pa_cons (pv 0) pa_nil))))
      (fun a pn => pss_one (ps_ret pe_non))), ?_⟩
    refine ⟨⟨_, rfl, d, s, rfl, S, ?_⟩, ?_⟩
    · rw [hw]
      cases e with
      | ok m => exact k
      | error fl => exact fun dx H' sm _ => ⟨⟨fl, rfl⟩, sm⟩
    · rintro dx H' σ' hσ ⟨⟨fl, rfl⟩, sm⟩
      exact k H' sm
end
end Go

set_option Elab.async false
set_option linter.all false
set_option maxRecDepth 100000
set_option maxHeartbeats 4000000
namespace Go
open PySem L2
section
variable {K : PySem.W.Frag} {a D : Addr} {g : TG} {te : TE} {vs : List Nat} {σ : L2.St} {H1 : Hp} {Qd : Hp → Prop}
theorem lc_lines (Fn : List Int → List Int) {rows : List (List Int)} {as : List Addr} (hL : H1 a = some (.lst (as.map V.ref))) (hLs : Lines H1 rows as) (hD : H1 D = none) (hz : rows.length ≤ 4096)
    (hs : ∀ (i : Nat) (b : Addr) (r : List Int) (H : Hp) (Q : VK), as[i]? = some b → rows[i]? = some r → Same H1 H → (∀ D2 H4, H D2 = none → Same H H4 → PairsAt H4 D2 (GM.sparse 0 (Fn r)) → Q (.ref D2) H4) → g (.ref b) (wipe σ vs) H fun σ2 H2 => wipe σ2 vs = wipe σ vs ∧ te σ2 H2 Q)
    (hd : ∀ H ds, Same H1 H → H D = some (.lst (ds.map V.ref)) → Lines H (rows.map Fn) ds → Qd H) :
    ∃ W : Nat → Nat → Hp → Prop, (∃ m, W 0 m (upd H1 D (.lst []))) ∧ ∀ i m H, W i m H →
      ((Itl K a).stop i H ∧ Qd H) ∨ ((Itl K a).go i H ∧ ∃ Nx : Hp → Prop, (∀ H', Nx H' → ∃ m', m' < m ∧ W (i + 1) m' H') ∧ ∀ x H', (Itl K a).yld i H x H' → g x (wipe σ vs) H' fun σ2 H2 => wipe σ2 vs = wipe σ vs ∧ tYes σ2 H2 fun b H3 =>
        if b = true then te σ2 H3 fun y H4 => ∃ acc, H4 D = some (.lst acc) ∧ acc.length < sizeLine ∧ Nx (upd H4 D (.lst (acc ++ [y]))) else Nx H3) := by
  have hal : rows.length = as.length := Paired.length hLs
  have hsz : 8192 ≤ sizeLine := by decide
  refine lc_list (xs := as.map V.ref) (fun i H => ∃ ds : List Addr, Same H1 H ∧ H D = some (.lst (ds.map V.ref)) ∧ Lines H ((rows.take i).map Fn) ds ∧ (∀ b ∈ ds, b ≠ D)) ⟨[], Same.new hD, upd_same, by rw [List.take_zero]; exact .nil, fun _ z => by simp at z⟩ (fun i H _ ⟨_, s1, _⟩ => SqL.of (s1 _ _ hL)) ?_ ?_
  · rintro i x H hx ⟨ds, s1, h1, h2, h3⟩
    rw [List.getElem?_map] at hx
    obtain ⟨b, hb, rfl⟩ := Option.map_eq_some_iff.mp hx
    obtain ⟨r, hr, _⟩ := paired_get hLs hb
    refine hs i b r H _ hb hr s1 fun D2 H4 n2 s4 hp => ?_
    have hne : D2 ≠ D := fun z => by rw [z, h1] at n2; cases n2
    have hdl : ds.length ≤ rows.length := by
      have := Paired.length h2
      rw [List.length_map, List.length_take] at this
      omega
    refine ⟨_, s4 _ _ h1, by rw [List.length_map]; omega, ds ++ [D2], (s1.trans s4).updN hD, by rw [List.map_append]; exact upd_same, ?_, ?_⟩
    · rw [List.take_add_one, hr, List.map_append]
      refine paired_app (LinesAt.upd (h2.mono s4) (s4 _ _ h1) h3) (.cons ?_ .nil)
      obtain ⟨bs, b1, b2⟩ := hp
      exact ⟨bs, by rw [upd_ne hne]; exact b1, Pairs.upd b2 (s4 _ _ h1)⟩
    · intro b' hb'
      rcases List.mem_append.mp hb' with z | z
      · exact h3 b' z
      · have z : b' = D2 := by simpa using z
        rw [z]; exact hne
  · rintro H ⟨ds, s1, h1, h2, _⟩
    rw [List.length_map, ← hal, List.take_length] at h2
    exact hd H ds s1 h1 h2
end
section
variable {P : Program} {w : World} {K : PySem.W.Frag} {mg : Str → Option Value} {base : Heap} {C CR fF CM : Addr}
theorem mat_new {H : Hp} {x dx L : Addr} {m : Ql89.Matrix} (nx : H x = none) (ndx : H dx = none) (hL : LinesAt H L m.row) :
    Same H (upd (upd (upd H dx (.own x)) x (.ins CM dx [])) x (.ins CM dx (mf (.int m.rows) (.int m.cols) (.ref L)))) ∧ MatAt CM (upd (upd (upd H dx (.own x)) x (.ins CM dx [])) x (.ins CM dx (mf (.int m.rows) (.int m.cols) (.ref L)))) m x := by
  have sm : Same H (upd (upd (upd H dx (.own x)) x (.ins CM dx [])) x (.ins CM dx (mf (.int m.rows) (.int m.cols) (.ref L)))) := fun b o e => by
    rw [upd_ne (ne_of_none e nx), upd_ne (ne_of_none e nx), upd_ne (ne_of_none e ndx)]; exact e
  exact ⟨sm, dx, L, upd_same, hL.mono sm⟩
end
end Go

set_option Elab.async false
set_option linter.all false
set_option maxRecDepth 100000
set_option maxHeartbeats 4000000
namespace Go
open PySem L2
section
variable {P : Program} {w : World} {K : PySem.W.Frag} {mg : Str → Option Value} {base : Heap}
def spHeld : Sp := fun vs H Q _ => ∃ (z top : Int), vs = [.int z, .int top] ∧ 0 ≤ top ∧ Q (.int (Ql89.held (-top - 1) top z)) H
theorem scHeld : FnScope ["number", "top"] ["number", "top"] (defScope sHeld) := ⟨rfl, rfl, rfl, by decide +kernel, rfl, by decide +kernel, by decide +kernel⟩
theorem ok_held {f : Addr} {fd : FuncData} (F : Fun K "held" "held" sHeld f fd) (hmax : mg "max" = none) (hmin : mg "min" = none) : FnOk P w K mg base CX0 1 f fd ["number", "top"] spHeld := by
  refine F.ok scHeld (fun vs H Q E h => ?_) (fun cdv A outer s H vs Q E hr h => ?_)
  · obtain ⟨z, t, rfl, _⟩ := h
    rfl
  · obtain ⟨z, top, rfl, h1, k⟩ := h
    refine ⟨_, pss_one (ps_ret (pe_callB (call_max2 rfl) (by rfl) hmax PyProof.Rows.boot_max (pa_cons (pe_op op_sub (pe_un un_neg (pv 1)) pe_int) (pa_cons (pe_callB (call_min2 rfl) (by rfl) hmin PyProof.Rows.boot_min (pa_cons (pv 1) (pa_cons (pv 0) pa_nil))) pa_nil)))), ?_⟩
    refine ⟨_, rfl, _, rfl, _, _, rfl, rfl, _, rfl, _, rfl, _, _, rfl, _, _, rfl, ?_⟩
    show Q (.int _) H
    rw [← GM.held_eq top z h1] at k
    exact k
end
end Go

set_option Elab.async false
set_option linter.all false
set_option maxRecDepth 100000
set_option maxHeartbeats 4000000
namespace Go
open PySem L2
section
variable {P : Program} {w : World} {K : PySem.W.Frag} {mg : Str → Option Value} {base : Heap} {C CR fF CM : Addr}
def spHeL : Sp := fun vs H Q _ => ∃ (L : Addr) (ps : List (Int × Int)), vs = [.ref L] ∧ PairsAt H L ps ∧ ps.length ≤ 100000 ∧ ∀ D H', H D = none → Same H H' → PairsAt H' D (GM.heldL ps) → Q (.ref D) H'
theorem scHeL : FnScope ["pairs", "column", "number"] ["pairs"] (defScope sHeL) := ⟨rfl, rfl, rfl, by decide +kernel, rfl, by decide +kernel, by decide +kernel⟩
theorem ok_HeL {f fH : Addr} {fd fdH : FuncData} (F : Fun K "held_line" "held_line" sHeL f fd) (hB : ∃ t, mg "BYTE_TOP" = some (.int 127 t)) (HD : GFn P w K mg base CX0 1 "held" fH fdH ["number", "top"] spHeld) : FnOk P w K mg base CX0 2 f fd ["pairs"] spHeL := by
  refine F.ok scHeL (fun vs H Q E h => ?_) (fun cdv A outer s H vs Q E hr h => ?_)
  · obtain ⟨L, ps, rfl, _⟩ := h
    rfl
  · obtain ⟨L, ps, rfl, ⟨as, hL, hP⟩, hl, k⟩ := h
    refine ⟨_, pss_one (ps_ret (pe_lc rfl scHeL.nd (pi_list (pv 0)) (blkOk_by (own := [("column", 1), ("number", 2)]) (by kernel_rfl))
      (fun _ _ _ _ _ => pg_tupK (K := K) (n := 2) rfl rfl (pgs_cons (pg_name (i := 1) scHeL.nd rfl (Or.inl rfl)) (pgs_cons (pg_name (i := 2) scHeL.nd rfl (Or.inl rfl)) pgs_nil)))
      (fun _ _ _ _ _ => pts_one (pt_cmpR op_ne (pv 2) pe_int (nomark _)))
      (fun _ _ _ _ _ => pe_tup (pa_cons (pv 1) (pa_cons (pe_call HD.ok hr rfl HD.glo HD.kp HD.b .nil pass0 (pa_cons (pv 2) (pa_cons (pe_const hB rfl) pa_nil))) pa_nil))))), ?_⟩
    have hal : ps.length = as.length := Paired.length hP
    have hs : 200000 ≤ sizeLine := by decide
    refine ⟨_, rfl, L, rfl, ⟨_, SqL.of hL⟩, fun D hD => ?_⟩
    refine lc_list (xs := as.map V.ref) (fun i H' => ∃ ts : List Addr, Same H H' ∧ H' D = some (.lst (ts.map V.ref)) ∧ Pairs H' (GM.heldL (ps.take i)) ts) ⟨[], Same.new hD, upd_same, by rw [List.take_zero]; exact .nil⟩ (fun i H' _ ⟨_, s1, _⟩ => SqL.of (s1 _ _ hL)) ?_ ?_
    · rintro i x H' hx ⟨ts, s1, h1, h2⟩
      rw [List.getElem?_map] at hx
      obtain ⟨q, hq, rfl⟩ := Option.map_eq_some_iff.mp hx
      obtain ⟨p, hp, hpt⟩ := paired_get hP hq
      have etk : ps.take (i + 1) = ps.take i ++ [p] := by rw [List.take_add_one, hp]; rfl
      have eht : GM.heldL (ps.take i ++ [p]) = GM.heldL (ps.take i) ++ (if p.2 = 0 then [] else [(p.1, Ql89.byte p.2)]) := by
        unfold GM.heldL
        rw [List.filter_append, List.map_append, List.filter_cons]
        congr 1
        by_cases h0 : p.2 = 0
        · rw [if_pos h0, if_neg (by simp [h0])]
          rfl
        · rw [if_neg h0, if_pos (by simpa using h0)]
          rfl
      refine ⟨q, _, rfl, SqT.of (s1 _ _ hpt), rfl, _, _, rfl, _, _, rfl, rfl, rfl, ?_⟩
      refine ⟨_, rfl, rfl, _, rfl, ?_⟩
      by_cases h0 : p.2 = 0
      · refine iteNS (by rw [h0]) ?_
        refine ⟨ts, s1, h1, ?_⟩
        rw [etk, eht, if_pos h0, List.append_nil]
        exact h2
      · refine iteNA (fun z => h0 (by injection z)) ?_
        refine ⟨_, rfl, _, rfl, p.2, 127, rfl, by decide, by show 2 ≤ sizeLine; decide, fun T hT => ?_⟩
        have sT := Same.new (o := .tup [V.int p.1, V.int (Ql89.held (-127 - 1) 127 p.2)]) hT
        have htl : ts.length ≤ ps.length := by
          have := Paired.length h2
          unfold GM.heldL at this
          rw [List.length_map] at this
          have := List.length_filter_le (fun (p : Int × Int) => p.2 != 0) (ps.take i)
          rw [List.length_take] at this
          omega
        have hTD : T ≠ D := fun z => by rw [z, h1] at hT; cases hT
        refine ⟨_, sT _ _ h1, by rw [List.length_map]; omega, ts ++ [T], (s1.trans sT).updN hD, by rw [List.map_append]; exact upd_same, ?_⟩
        rw [etk, eht, if_neg h0]
        refine paired_app (Pairs.upd (Pairs.mono h2 sT) (sT _ _ h1)) (.cons ?_ .nil)
        show upd _ D _ T = _
        rw [upd_ne hTD, upd_same]
        rfl
    · rintro H' ⟨ts, s1, h1, h2⟩
      rw [List.length_map, ← hal, List.take_length] at h2
      exact k D H' hD s1 ⟨ts, h1, h2⟩
end
end Go

set_option Elab.async false
set_option linter.all false
set_option maxRecDepth 100000
set_option maxHeartbeats 4000000
namespace L2
open PySem PySem.Spec PyProof.Rows
section
variable {X : Cx} {pins : List (Addr × Obj)} {σ : St} {H : Hp} {s : Shared}
theorem Inv.laidH {H' : Hp} {h' : Heap} {t' : Nat} (I : Inv X pins σ H s) (k : ∀ b u, s.heap.get? b = some u → h'.get? b = some u) (sm : Same H H') (nw : ∀ b u, H' b = some u → H b = none → s.heap.get? b = none ∧ ObjOk X.prog X.w H' h' b u) :
    Inv X pins σ H' { s with heap := h', toks := t' } := by
  have un : Un X.fs [] H H' s.heap h' := by
    refine { keep := ?_, slot := ?_, free := ?_, there := ?_, tups := ?_, frzs := ?_, tbls := ?_ }
    · exact fun b u q _ _ _ => k b u q
    · exact fun b u q _ _ _ => ⟨u.slots, k b u q⟩
    · intro b u q n _
      cases e : H' b with
      | none => rfl
      | some o => rw [(nw b o e n).1] at q; cases q
    · exact fun b u q _ => ⟨u, k b u q⟩
    · exact fun b xs q => sm _ _ q
    · exact fun b o u q => sm _ _ q
    · exact fun b ps q => ⟨#[], by rw [sm _ _ q]; simp⟩
  refine I.un un fun b u e => ?_
  cases q : H b with
  | none => exact (nw b u e q).2
  | some u' =>
    have z := sm _ _ q
    rw [e] at z
    cases z
    exact (I.hok b u q).stay (fun c v _ z => k c v z) (fun c z => sm _ _ z) fun c xs z => sm _ _ z
def VW (v d : Addr) : HO := .ext fun h => h.get? v = some { cls := .type "dict_items", data := .fields #[.ref d] }
theorem vw_ok {P : Program} {w : World} {h : Heap} {v d : Addr} (e : h.get? v = some { cls := .type "dict_items", data := .fields #[.ref d] }) : ObjOk P w H h v (VW v d) := ⟨e, ⟨_, e⟩, fun h1 h2 p k => k _ p⟩
end
section
variable {X : Cx} {e : Expr} {td : TE} {apos cpos : Pos}
def tItems (td : TE) : TE := fun σ H Q => td σ H fun x H1 => ∃ d kvs, x = .ref d ∧ H1 d = some (.dK kvs) ∧ ∀ v, H1 v = none → Q (.ref v) (upd H1 v (VW v d))
theorem pe_items (he : PE X e td) (hbase : attributeBase e "items" X.env (eval e X.env) = eval e X.env := by rfl) (hline : (apos.endLine == cpos.line) = true := by rfl) : PE X (.Call (.Attribute e "items" apos) [] [] cpos) (tItems td) := by
  intro pins s σ H Q I h
  refine wpAny_Call_method (T := "dict") (id := "dict.items") hbase rfl hline F.plainAttrs_dict F.slot_dict_items F.type_dict_items (thn (he pins s σ H _ I h) fun u s1 ⟨x, H1, I1, rx, d, kvs, ex, hd, q⟩ => ?_)
  subst ex
  obtain rfl : u = Value.ref d := rx
  obtain ⟨hz, hs, vs, kv, hm⟩ := I1.hok d _ hd
  refine ⟨hm.typeIs, hm.mapOf.noDict, ?_⟩
  have fin : EP X pins σ Q (.ref s1.heap.objs.size) { s1 with heap := s1.heap.push { cls := .type "dict_items", data := .fields #[.ref d] } } :=
    ⟨.ref s1.heap.objs.size, _, I1.laid (t' := s1.toks) (fun b o q => Heap.get?_push_of_some _ q) (Nat.le_refl _) (vw_ok (Heap.get?_push_size _ rfl)), rfl, q _ (I1.hok.fresh (Nat.le_refl _))⟩
  show wpAny _ _ (callWith cpos (.builtin "dict.items") [.ref d] [] []) _ X.xe s1
  exact method_meetsIn F.slot_dict_items F.entry_dict_items rfl (PySem.evalArgs_none ⟨rfl, hm.typeIs, F.args_dict_items_1 _, _, meets_dict_items (mixKind X.prog X.w) d hs, ⟨vs, hm⟩, fin⟩)
end
abbrev IKV := List (Int × Int)
def dkI (kvs : IKV) : List (Key × V) := kvs.map fun (p : Int × Int) => (.inl p.1, .int p.2)
def layT (H : Hp) (L : Addr) (as : List Addr) (ps : IKV) : Hp := fun b => if b = L then some (.lst (as.map V.ref)) else match (as.zip ps).find? fun (q : Addr × (Int × Int)) => q.1 == b with
  | some q => some (.tup [.int q.2.1, .int q.2.2])
  | none => H b
theorem zip_find {as : List Addr} {ps : IKV} (nd : as.Nodup) : ∀ {j : Nat} {a : Addr} {p : Int × Int}, as[j]? = some a → ps[j]? = some p → (as.zip ps).find? (fun (q : Addr × (Int × Int)) => q.1 == a) = some (a, p) := by
  induction as generalizing ps with
  | nil => intro j a p h _; simp at h
  | cons x as ih =>
    intro j a p h1 h2
    cases ps with
    | nil => simp at h2
    | cons y ps =>
      rw [List.zip_cons_cons, List.find?_cons]
      cases j with
      | zero =>
        simp at h1 h2
        subst h1; subst h2
        simp
      | succ j =>
        have h1' : as[j]? = some a := by simpa using h1
        have h2' : ps[j]? = some p := by simpa using h2
        have hne : x ≠ a := fun z => by
          rw [List.nodup_cons] at nd
          exact nd.1 (by rw [z]; exact List.mem_of_getElem? h1')
        have e : ((x, y).1 == a) = false := by simpa using hne
        rw [e]
        exact ih (List.nodup_cons.mp nd).2 h1' h2'
theorem lay_same {H : Hp} {L : Addr} {as : List Addr} {ps : IKV} (hL : H L = none) (ha : ∀ a ∈ as, H a = none) : Same H (layT H L as ps) := fun b o e => by
  unfold layT
  rw [if_neg (ne_of_none e hL)]
  cases q : (as.zip ps).find? fun (q : Addr × (Int × Int)) => q.1 == b with
  | none => exact e
  | some z =>
    exfalso
    have e1 : z.1 = b := by simpa using List.find?_some q
    have e2 := List.mem_of_find?_eq_some q
    have e3 := (List.of_mem_zip (show (z.1, z.2) ∈ as.zip ps from e2)).1
    rw [e1] at e3
    rw [ha b e3] at e
    cases e
theorem lay_list {H : Hp} {L : Addr} {as : List Addr} {ps : IKV} : layT H L as ps L = some (.lst (as.map V.ref)) := by unfold layT; rw [if_pos rfl]
theorem lay_tup {H : Hp} {L : Addr} {as : List Addr} {ps : IKV} (nd : as.Nodup) (hL : L ∉ as) {j : Nat} {a : Addr} {p : Int × Int} (h1 : as[j]? = some a) (h2 : ps[j]? = some p) : layT H L as ps a = some (.tup [.int p.1, .int p.2]) := by
  unfold layT
  rw [if_neg (fun z => hL (by rw [← z]; exact List.mem_of_getElem? h1)), zip_find nd h1 h2]
theorem lay_new {H : Hp} {L b : Addr} {as : List Addr} {ps : IKV} {u : HO} (nd : as.Nodup) (h : layT H L as ps b = some u) (hn : H b = none) : (b = L ∧ u = .lst (as.map V.ref)) ∨ ∃ (j : Nat) (p : Int × Int), as[j]? = some b ∧ ps[j]? = some p ∧ u = .tup [.int p.1, .int p.2] := by
  unfold layT at h
  by_cases hb : b = L
  · rw [if_pos hb] at h
    cases h
    exact .inl ⟨hb, rfl⟩
  · rw [if_neg hb] at h
    cases q : (as.zip ps).find? fun (q : Addr × (Int × Int)) => q.1 == b with
    | none =>
      rw [q] at h
      have h : H b = some u := h
      rw [hn] at h
      cases h
    | some z =>
      rw [q] at h
      have h : some (HO.tup [V.int z.2.1, V.int z.2.2]) = some u := h
      cases h
      have e1 : z.1 = b := by simpa using List.find?_some q
      have e2 := List.mem_of_find?_eq_some q
      obtain ⟨j, hj⟩ := List.getElem?_of_mem e2
      rw [List.getElem?_zip_eq_some] at hj
      refine .inr ⟨j, z.2, ?_, hj.2, rfl⟩
      rw [← e1]
      exact hj.1
theorem items_read {P : Program} {w : World} {kvs : IKV} {vs : List (Key × Value)} {lo : Addr} {h : Heap} {as : List Addr} (kv : KV (dkI kvs) vs) (hl : as.length = vs.length) (g : PySem.W.KdxG (mixKind P w) vs lo h as) :
    ∀ (j : Nat) (a : Addr), as[j]? = some a → ∃ (p : Int × Int) (t u : Tok), kvs[j]? = some p ∧ h.get? a = some { cls := .type "tuple", data := .seq #[.int p.1 t, .int p.2 u] } := by
  intro j a ha
  obtain ⟨key, k, x, e1, e2, e3⟩ := g.pairs j a ha
  have hjv : j < vs.length := (List.getElem?_eq_some_iff.mp e1).1
  have hlk : (dkI kvs).length = vs.length := Paired.length kv
  have hjk : j < kvs.length := by unfold dkI at hlk; rw [List.length_map] at hlk; omega
  have hk : kvs[j]? = some kvs[j] := by simp [hjk]
  have hq : (dkI kvs)[j]? = some (.inl kvs[j].1, .int kvs[j].2) := by unfold dkI; rw [List.getElem?_map, hk]; rfl
  have key' : ∀ {l₁ : List (Key × V)} {l₂ : List (Key × Value)} {i : Nat} {p : Key × V} {q : Key × Value}, KV l₁ l₂ → l₁[i]? = some p → l₂[i]? = some q → p.1 = q.1 ∧ RelV p.2 q.2 := by
    intro l₁ l₂ i p q hh
    induction hh generalizing i with
    | nil => intro z _; simp at z
    | cons r t ih =>
      intro z1 z2
      cases i with
      | zero => simp at z1 z2; subst z1; subst z2; exact r
      | succ i => exact ih (by simpa using z1) (by simpa using z2)
  obtain ⟨r1, r2⟩ := key' kv hq e1
  have r1 : (Sum.inl kvs[j].1 : Key) = k := r1
  obtain ⟨u, rfl⟩ : ∃ u, x = .int kvs[j].2 u := r2
  subst r1
  have e2 : keyIs (Sum.inl kvs[j].1) key = true := e2
  rcases keyIs_shape e2 with ⟨i, t, h1, h2⟩ | ⟨z, t, h1, h2⟩
  · injection h1 with h1
    subst h1
    subst h2
    exact ⟨kvs[j], t, u, hk, e3⟩
  · exact nomatch h1
end L2
namespace L2
theorem vals_refs : ∀ as : List PySem.Addr, Vals (as.map V.ref) (as.map PySem.Value.ref)
  | [] => .nil
  | _ :: as => .cons rfl (vals_refs as)
end L2

set_option Elab.async false
set_option linter.all false
set_option maxRecDepth 100000
set_option maxHeartbeats 4000000
namespace L2
open PySem PySem.Spec PyProof.Rows
theorem perm_back {α β : Type} (f : α → β) (g : β → α) (hg : ∀ a, g (f a) = a) {l : List β} {as : List α} (h : l.Perm (as.map f)) : ∃ as' : List α, l = as'.map f ∧ as'.Perm as := by
  refine ⟨l.map g, ?_, ?_⟩
  · rw [List.map_map]
    refine Eq.symm ?_
    conv => rhs; rw [← List.map_id l]
    refine List.map_congr_left fun x hx => ?_
    obtain ⟨a, _, rfl⟩ := List.mem_map.mp (h.mem_iff.mp hx)
    show f (g (f a)) = f a
    rw [hg]
  · have := h.map g
    rw [List.map_map] at this
    have e : (as.map (g ∘ f)) = as := by
      conv => rhs; rw [← List.map_id as]
      exact List.map_congr_left fun a _ => hg a
    rw [e] at this
    exact this
def Two (h : Heap) (a : Addr) (p : Int × Int) : Prop := ∃ t u : Tok, h.get? a = some { cls := .type "tuple", data := .seq #[.int p.1 t, .int p.2 u] }
theorem two_tups {h : Heap} : ∀ {as : List Addr}, (∀ a ∈ as, ∃ p, Two h a p) → ∃ fs, TupsOf h (fun _ => false) (as.map Value.ref) fs
  | [], _ => ⟨[], .nil⟩
  | a :: as, hh => by
    obtain ⟨fs, r⟩ := two_tups (as := as) fun b hb => hh b (List.mem_cons_of_mem _ hb)
    obtain ⟨p, t, u, e⟩ := hh a List.mem_cons_self
    exact ⟨_, .cons ⟨a, _, _, _, rfl, e, rfl, rfl, rfl, fun _ => ⟨_, _, rfl⟩, fun z => by cases z⟩ r⟩
theorem two_key {h : Heap} {a : Addr} {p : Int × Int} (hh : Two h a p) : G.tupKeyC h (fun _ => false) (.ref a) = some [Sum.inl p.1, Sum.inl p.2] := by
  obtain ⟨t, u, e⟩ := hh
  unfold G.tupKeyC
  have e1 : G.isTupObj h (.ref a) = true := by simp [G.isTupObj, e]
  rw [if_pos e1]
  simp only [tupKey, e]
  rfl
theorem two_le {a b c d : Int} (h : (listOrd itemOrd).kle [Sum.inl a, Sum.inl b] [Sum.inl c, Sum.inl d]) : a ≤ c := by
  have h : PyProof.Rows.lexLt itemOrd [Sum.inl c, Sum.inl d] [Sum.inl a, Sum.inl b] = false := h
  unfold PyProof.Rows.lexLt at h
  rw [Bool.or_eq_false_iff] at h
  have h1 : decide (c < a) = false := h.1
  have := of_decide_eq_false h1
  omega
section
variable {X : Cx}
def rSortI : List V → Hp → VK → Prop := fun us H Q => ∃ (v d : Addr) (kvs : IKV), us = [.ref v] ∧ H v = some (VW v d) ∧ H d = some (.dK (dkI kvs)) ∧
  ∀ (ps : IKV) (L : Addr) (as : List Addr), ps.Perm kvs → ps.Pairwise (fun a b => a.1 < b.1) → H L = none → (∀ a ∈ as, H a = none) → as.Nodup → L ∉ as → as.length = ps.length → Q (.ref L) (layT H L as ps)
theorem cr_sortI (hc : X.calm = true) : CallR X (.builtin "sorted") rSortI := by
  intro pins s σ H vs us Q I r h
  obtain ⟨v, d, kvs, rfl, hv, hd, q⟩ := h
  rw [Vals.ref1 r]
  obtain ⟨hz, hs, ws, kv, hm⟩ := I.hok d _ hd
  obtain ⟨hve, _, _⟩ := I.hok v _ hv
  obtain ⟨o, es, ep, hdat⟩ := id hm
  have hAt : s.heap.DictAt (mixKind X.prog X.w) d ws ep := ⟨o, es, hdat⟩
  have hlk : (dkI kvs).length = ws.length := Paired.length kv
  have hlk2 : kvs.length = ws.length := by unfold dkI at hlk; rw [List.length_map] at hlk; exact hlk
  have hwz : ws.length ≤ sizeLine := by rw [← hlk]; exact hz
  have hnd : (kvs.map (·.1)).Nodup := by
    have q1 : (ws.map (·.1)).Nodup := hdat.2.2.2.2.2
    have q2 : ∀ {l₁ : List (Key × V)} {l₂ : List (Key × Value)}, KV l₁ l₂ → l₁.map (·.1) = l₂.map (·.1) := by
      intro l₁ l₂ hh
      induction hh with
      | nil => rfl
      | cons r t ih => rw [List.map_cons, List.map_cons, r.1, ih]
    rw [← q2 kv] at q1
    unfold dkI at q1
    rw [List.map_map] at q1
    have q3 : (kvs.map ((fun (x : Key × V) => x.1) ∘ fun (p : Int × Int) => ((Sum.inl p.1 : Key), V.int p.2))) = (kvs.map (·.1)).map (fun (z : Int) => (Sum.inl z : Key)) := by rw [List.map_map]; rfl
    rw [q3] at q1
    rw [List.Nodup, List.pairwise_map] at q1
    exact q1.imp fun h z => h (by rw [z])
  refine Calls.call_function_entry kind_sorted plain_sorted entry_sorted (args_sorted1 _) ?_
  unfold Builtin.«sorted»
  refine wpAny_bind (m := checkCount "sorted" 1 1 _) (wpAny_pure ?_)
  refine wpAny_bind (PySem.W.kdx_collect (A := X.A.in1) (knd := mixKind X.prog X.w) (kvs := ws) (ep := ep) (I.ok.hd hc) ⟨_, hve, rfl, rfl⟩ hAt hwz fun h' tk as hk hl hG => ?_)
  have rd := items_read kv hl hG
  have hnda : as.Nodup := hG.rise.imp fun h => Nat.ne_of_lt h
  refine wpAny_bind (wpAny_newList ?_ (by rw [List.length_map, hl]; exact hwz))
  have hoL : (h'.push (seqObj "list" (as.map Value.ref).toArray 0)).get? h'.objs.size = some (seqObj "list" (as.map Value.ref).toArray 0) := Heap.get?_push_size _ rfl
  have two : ∀ (j : Nat) (a : Addr), as[j]? = some a → ∃ p, kvs[j]? = some p ∧ Two (h'.push (seqObj "list" (as.map Value.ref).toArray 0)) a p := fun j a ha => by
    obtain ⟨p, t, u, e1, e2⟩ := rd j a ha
    exact ⟨p, e1, t, u, Heap.get?_push_of_some _ e2⟩
  have twoM : ∀ a ∈ as, ∃ p, Two (h'.push (seqObj "list" (as.map Value.ref).toArray 0)) a p := fun a ha => by
    obtain ⟨j, hj⟩ := List.getElem?_of_mem ha
    obtain ⟨p, _, e⟩ := two j a hj
    exact ⟨p, e⟩
  obtain ⟨fs, ht⟩ := two_tups twoM
  refine wpAny_bind (wpAny_holding (wpAny_call_entry slot_list_sort ⟨_, hoL, rfl⟩ entry_list_sort (G.list_sort_tups (shape := fun _ => false) hoL ht (fun x hx => ?hk) (by rw [List.length_map, hl]; exact hwz) fun st' a1 a2 a3 => ⟨_, rfl, ?ret⟩) (args_list_sort _)))
  case hk =>
    obtain ⟨a, ha, rfl⟩ := List.mem_map.mp hx
    obtain ⟨p, e⟩ := twoM a ha
    exact ⟨_, two_key e⟩
  case ret =>
    refine wpAny_pure ⟨_, rfl, ?_⟩
    have pl := Array.perm_iff_toList_perm.mp a1
    rw [pairsOf_toList] at pl
    have ez : (as.map Value.ref).zip (as.map Value.ref) = as.map fun (a : Addr) => ((Value.ref a, Value.ref a) : Keyed) := by
      clear pl a1 a2 a3 two twoM ht rd hl hk hG hnda hoL
      induction as with
      | nil => rfl
      | cons x r ih => rw [List.map_cons, List.zip_cons_cons, ih]; rfl
    rw [ez] at pl
    obtain ⟨as', e1, e2⟩ := perm_back (fun (a : Addr) => ((Value.ref a, Value.ref a) : Keyed)) (fun p => match p.1 with | .ref a => a | _ => 0) (fun _ => rfl) pl
    have hnd' : as'.Nodup := e2.nodup_iff.mpr hnda
    have hout : (arrOf st').map (·.2) = (as'.map Value.ref).toArray := by
      rw [← Array.toList_inj, Array.toList_map, e1, List.map_map]
      rfl
    have hal : as.length = kvs.length := by rw [hl, hlk2]
    let pr : Addr → Int × Int := fun a => kvs.getD (as.idxOf a) (0, 0)
    have prk : kvs = as.map pr := by
      refine List.ext_getElem? fun j => ?_
      rw [List.getElem?_map]
      by_cases hj : j < as.length
      · have ha : as[j]? = some as[j] := by simp [hj]
        have hi : as.idxOf as[j] = j := List.Nodup.idxOf_getElem hnda j hj
        rw [ha]
        show kvs[j]? = some (kvs.getD (as.idxOf as[j]) (0, 0))
        rw [hi]
        simp [show j < kvs.length by omega]
      · rw [List.getElem?_eq_none (by omega), List.getElem?_eq_none (by omega)]
        rfl
    have prT : ∀ a ∈ as, Two (h'.push (seqObj "list" (as.map Value.ref).toArray 0)) a (pr a) := fun a ha => by
      obtain ⟨j, hj⟩ := List.getElem?_of_mem ha
      obtain ⟨p, e3, e4⟩ := two j a hj
      have : kvs[j]? = some (pr a) := by conv => lhs; rw [prk]
                                         rw [List.getElem?_map, hj]; rfl
      rw [e3] at this
      cases this
      exact e4
    have mem' : ∀ a ∈ as', a ∈ as := fun a ha => e2.mem_iff.mp ha
    have hps : (as'.map pr).Perm kvs := by
      conv => rhs; rw [prk]
      exact e2.map pr
    have hL : H h'.objs.size = none := by
      cases e : H h'.objs.size with
      | none => rfl
      | some u => exact absurd ((I.hok.kept hk).lt e) (Nat.lt_irrefl _)
    have hsz : ∀ a ∈ as, s.heap.objs.size < a := hG.above
    have hLn : h'.objs.size ∉ as := fun z => Nat.lt_irrefl _ (hG.there z)
    have hsorted : (as'.map pr).Pairwise (fun a b => a.1 < b.1) := by
      have ndp : ((as'.map pr).map (·.1)).Nodup := (hps.map (·.1)).nodup_iff.mpr hnd
      rw [List.pairwise_iff_getElem]
      intro i j hi hj hij
      have hi' : i < as'.length := by simpa using hi
      have hj' : j < as'.length := by simpa using hj
      have hlen' : as'.length = as.length := e2.length_eq
      have key : ∀ (x : Nat) (hx : x < as'.length), KK (G.tupKindC (h'.push (seqObj "list" (as.map Value.ref).toArray 0)) fun _ => false) (arrOf st') x = [Sum.inl (pr as'[x]).1, Sum.inl (pr as'[x]).2] := by
        intro x hx
        have e5 : (arrOf st')[x]? = some ((Value.ref as'[x], Value.ref as'[x]) : Keyed) := by
          rw [← Array.getElem?_toList, e1, List.getElem?_map]
          simp [hx]
        unfold KK
        rw [e5]
        show (G.tupKeyC _ _ (Value.ref as'[x])).getD _ = _
        rw [two_key (prT _ (mem' _ (List.getElem_mem hx)))]
        rfl
      have hle := a2 i j (Nat.le_of_lt hij) (by rw [pairsOf_size, List.length_map]; omega)
      rw [key i hi', key j hj'] at hle
      have hle := two_le hle
      have hne : (pr as'[i]).1 ≠ (pr as'[j]).1 := fun z => by
        have := (List.nodup_iff_pairwise_ne.mp ndp)
        rw [List.pairwise_iff_getElem] at this
        have := this i j (by simpa using hi') (by simpa using hj') hij
        simp at this
        exact this z
      simp only [List.getElem_map]
      omega
    obtain ⟨epo, hso⟩ := sortedHeap_at (vs := as.map Value.ref) (out := (arrOf st').map (·.2)) hoL
    rw [hout] at hso ⊢
    have old : ∀ b u, h'.get? b = some u → (sortedHeap (h'.push (seqObj "list" (as.map Value.ref).toArray 0)) h'.objs.size (as.map Value.ref) (as'.map Value.ref).toArray).get? b = some u := fun b u e => by
      have hb := Heap.lt_size e
      rw [sortedHeap_old (Nat.ne_of_lt hb) (by rw [size_push']; exact Nat.lt_succ_of_lt hb)]
      exact Heap.get?_push_of_some _ e
    refine ⟨.ref h'.objs.size, layT H h'.objs.size as' (as'.map pr), I.laidH (fun b u e => old b u (hk b u e)) (lay_same hL fun a ha => I.hok.fresh (Nat.le_of_lt (hsz a (mem' a ha)))) (fun b u e en => ?_), rfl, ?_⟩
    · rcases lay_new hnd' e en with ⟨rfl, rfl⟩ | ⟨j, p, hj, hp, rfl⟩
      · refine ⟨?_, by rw [List.length_map, e2.length_eq, hl]; exact hwz, as'.map Value.ref, epo, ?_, hso⟩
        · cases z : s.heap.get? h'.objs.size with
          | none => rfl
          | some u => exact absurd (Heap.lt_size (hk _ _ z)) (Nat.lt_irrefl _)
        · exact vals_refs as'
      · have hb := List.mem_of_getElem? hj
        refine ⟨?_, by show 2 ≤ sizeLine; decide, ?_⟩
        · cases z : s.heap.get? b with
          | none => rfl
          | some u => exact absurd (Heap.lt_size z) (Nat.not_lt.mpr (Nat.le_of_lt (hsz b (mem' b hb))))
        · rw [List.getElem?_map, hj] at hp
          cases hp
          obtain ⟨j2, hj2⟩ := List.getElem?_of_mem (mem' b hb)
          obtain ⟨p2, t, u, e3, e4⟩ := rd j2 b hj2
          have e5 : kvs[j2]? = some (pr b) := by conv => lhs; rw [prk]
                                                 rw [List.getElem?_map, hj2]; rfl
          rw [e3] at e5
          cases e5
          exact ⟨[.int (pr b).1 t, .int (pr b).2 u], .cons ⟨t, rfl⟩ (.cons ⟨u, rfl⟩ .nil), _, old _ _ e4, rfl, 0, rfl⟩
    · exact q (as'.map pr) h'.objs.size as' hps hsorted hL (fun a ha => I.hok.fresh (Nat.le_of_lt (hsz a (mem' a ha)))) hnd' (fun z => hLn (mem' _ z)) (by rw [List.length_map])
end
end L2

set_option Elab.async false
set_option linter.all false
set_option maxRecDepth 100000
set_option maxHeartbeats 4000000
namespace L2
open PySem PySem.Spec PyProof.Rows
theorem dk_cons (p : Int × Int) (r : IKV) : dkI (p :: r) = (Sum.inl p.1, V.int p.2) :: dkI r := rfl
theorem dk_val : ∀ (kvs : IKV) (k : Int), valV (dkI kvs) (Sum.inl k : Key) = (GM.look kvs k).map V.int
  | [], _ => rfl
  | p :: r, k => by
    rw [dk_cons, GM.look_cons]
    by_cases h : p.1 = k
    · rw [if_pos h, valV_pos (by rw [h])]
      rfl
    · rw [if_neg h, valV_neg (fun z => h (by injection z)), dk_val r k]
theorem dk_any (k : Int) : ∀ kvs : IKV, ((dkI kvs).any fun kv => decide (kv.1 = (Sum.inl k : Key))) = (kvs.any fun (p : Int × Int) => decide (p.1 = k))
  | [] => rfl
  | p :: r => by
    rw [dk_cons, List.any_cons, List.any_cons, dk_any k r]
    congr 1
    by_cases h : p.1 = k
    · rw [decide_eq_true h, decide_eq_true (by show (Sum.inl p.1 : Key) = _; rw [h])]
    · rw [decide_eq_false h, decide_eq_false (fun z => h (by injection z))]
theorem dk_put (kvs : IKV) (k v : Int) : putK (dkI kvs) (Sum.inl k : Key) (.int v) = dkI (GM.put kvs k v) := by
  unfold putK GM.put
  rw [dk_any]
  by_cases h : (kvs.any fun (p : Int × Int) => decide (p.1 = k)) = true
  · rw [if_pos h, if_pos h]
    unfold dkI
    rw [List.map_map, List.map_map]
    refine List.map_congr_left fun p _ => ?_
    show (if (Sum.inl p.1 : Key) = Sum.inl k then _ else _) = _
    by_cases hp : p.1 = k
    · rw [if_pos (by rw [hp])]
      show _ = ((Sum.inl (if p.1 = k then (p.1, v) else p).1 : Key), V.int (if p.1 = k then (p.1, v) else p).2)
      rw [if_pos hp]
    · rw [if_neg (fun z => hp (by injection z))]
      show _ = ((Sum.inl (if p.1 = k then (p.1, v) else p).1 : Key), V.int (if p.1 = k then (p.1, v) else p).2)
      rw [if_neg hp]
  · rw [if_neg h, if_neg h]
    unfold dkI
    rw [List.map_append]
    rfl
theorem dk_len (kvs : IKV) : (dkI kvs).length = kvs.length := by unfold dkI; rw [List.length_map]
end L2

set_option Elab.async false
set_option linter.all false
set_option maxRecDepth 100000
set_option maxHeartbeats 4000000
namespace L2
open PySem PySem.Spec PyProof.Rows
section
variable {X : Cx}
def CDivW (i j : Int) : Prop := 0 < j ∧ j < 18446744073709551616
theorem op_fdivW : OpR X (binaryOp .FloorDiv) (rI CDivW fun i j => .int (i / j)) := opI fun i j _ _ _ _ _ hc q => by
  have h1 : (0 : Int) < j := hc.1
  have h2 : j < 18446744073709551616 := hc.2
  refine floordiv_int (by omega) (by rw [Int.fdiv_eq_ediv_of_nonneg i (by omega)]; exact q) (.inl (PyProof.noPylong_of_log2 ?_))
  have : j.natAbs.log2 < 64 := (Nat.log2_lt (by omega)).mpr (by omega)
  omega
def rListI : List V → Hp → VK → Prop := fun us H Q => ∃ (v d : Addr) (kvs : IKV), us = [.ref v] ∧ H v = some (VW v d) ∧ H d = some (.dK (dkI kvs)) ∧
  ∀ (L : Addr) (as : List Addr), H L = none → (∀ a ∈ as, H a = none) → as.Nodup → L ∉ as → as.length = kvs.length → Q (.ref L) (layT H L as kvs)
theorem cr_listI (hc : X.calm = true) : CallR X (.type "list") rListI := by
  intro pins s σ H vs us Q I r h
  obtain ⟨v, d, kvs, rfl, hv, hd, q⟩ := h
  rw [Vals.ref1 r]
  obtain ⟨hz, hs, ws, kv, hm⟩ := I.hok d _ hd
  obtain ⟨hve, _, _⟩ := I.hok v _ hv
  obtain ⟨o, es, ep, hdat⟩ := id hm
  have hAt : s.heap.DictAt (mixKind X.prog X.w) d ws ep := ⟨o, es, hdat⟩
  have hlk : (dkI kvs).length = ws.length := Paired.length kv
  have hlk2 : kvs.length = ws.length := by unfold dkI at hlk; rw [List.length_map] at hlk; exact hlk
  have hwz : ws.length ≤ sizeLine := by rw [← hlk]; exact hz
  refine PySem.W.kdx_call (knd := mixKind X.prog X.w) (kvs := ws) (ep := ep) (I.ok.hd hc) ⟨_, hve, rfl, rfl⟩ hAt hwz fun h' tk acc c as hk hS hl hG hacc => ?_
  have rd := items_read kv hl hG
  have hnda : as.Nodup := hG.rise.imp fun h => Nat.ne_of_lt h
  have hsz : ∀ a ∈ as, s.heap.objs.size < a := hG.above
  have hL : H s.heap.objs.size = none := I.hok.fresh (Nat.le_refl _)
  have ha : ∀ a ∈ as, H a = none := fun a ha => I.hok.fresh (Nat.le_of_lt (hsz a ha))
  have hLn : s.heap.objs.size ∉ as := fun z => Nat.lt_irrefl _ (hsz _ z)
  have hal : as.length = kvs.length := by rw [hl, hlk2]
  refine ⟨.ref s.heap.objs.size, layT H s.heap.objs.size as kvs, I.laidH hk (lay_same hL ha) (fun b u e en => ?_), rfl, q s.heap.objs.size as hL ha hnda hLn hal⟩
  rcases lay_new hnda e en with ⟨rfl, rfl⟩ | ⟨j, p, hj, hp, rfl⟩
  · refine ⟨?_, by rw [List.length_map, hl]; exact hwz, as.map Value.ref, c, vals_refs as, ?_⟩
    · cases z : s.heap.get? s.heap.objs.size with
      | none => rfl
      | some u => exact absurd (Heap.lt_size z) (Nat.lt_irrefl _)
    · rw [hS]
      have e2 : acc = (as.map Value.ref).toArray := by rw [← hacc]
      rw [e2]
  · have hb := List.mem_of_getElem? hj
    refine ⟨?_, by show 2 ≤ sizeLine; decide, ?_⟩
    · cases z : s.heap.get? b with
      | none => rfl
      | some u => exact absurd (Heap.lt_size z) (Nat.not_lt.mpr (Nat.le_of_lt (hsz b hb)))
    · obtain ⟨p2, t, u, e3, e4⟩ := rd j b hj
      rw [hp] at e3
      cases e3
      exact ⟨[.int p.1 t, .int p.2 u], .cons ⟨t, rfl⟩ (.cons ⟨u, rfl⟩ .nil), _, e4, rfl, 0, rfl⟩
end
end L2

set_option Elab.async false
set_option linter.all false
set_option maxRecDepth 100000
set_option maxHeartbeats 4000000
namespace Go
open PySem L2
theorem boot_list5 : bootBuiltins "list" = some (.type "list") := by decide +kernel
theorem boot_sorted5 : bootBuiltins "sorted" = some (.builtin "sorted") := by decide +kernel
theorem pairs_lay {H : Hp} {L : Addr} {as : List Addr} {ps : IKV} (nd : as.Nodup) (hL : L ∉ as) (hl : as.length = ps.length) : PairsAt (layT H L as ps) L ps :=
  ⟨as, lay_list, paired_of hl.symm fun j p a hp ha => lay_tup nd hL ha hp⟩
end Go
namespace L2
theorem Room.u1 {k : Nat} {A : PySem.Around} (r : Room k A) : A.units + 1 < PySem.cLine := by have := r.un; omega
end L2
namespace Go
open PySem L2
structure TxtP (mg : Str → Option Value) : Prop where
  bits : ∃ t, mg "SLOT_BITS" = some (.int 28 t)
  count : ∃ t, mg "SLOT_COUNT" = some (.int 268435456 t)
  half : ∃ t, mg "SLOT_HALF" = some (.int 134217728 t)
  list : mg "list" = none
  sort : mg "sorted" = none
section
variable {P : Program} {w : World} {K : PySem.W.Frag} {mg : Str → Option Value} {base : Heap} {C CR fF CM : Addr}
def spNearW : Sp := fun vs H Q _ => ∃ (a : Int) (b : Nat), vs = [.int a, .int b] ∧ (0 < b ∧ b ≤ 1073741824) ∧ Q (.int (Ql89.near a b)) H
theorem scNear : FnScope ["a", "b"] ["a", "b"] (defScope sNear) := ⟨rfl, rfl, rfl, by decide +kernel, rfl, by decide +kernel, by decide +kernel⟩
theorem ok_nearW {f : Addr} {fd : FuncData} (F : Fun K "near" "near" sNear f fd) : FnOk P w K mg base CX0 1 f fd ["a", "b"] spNearW := by
  refine F.ok scNear (fun vs H Q E h => ?_) (fun cdv A outer s H vs Q E hr h => ?_)
  · obtain ⟨a, b, rfl, _⟩ := h
    rfl
  · obtain ⟨a, b, rfl, ⟨h1, h2⟩, k⟩ := h
    refine ⟨_, pss_one (ps_ret (pe_op op_fdivW (pe_op op_add (pe_op op_mul pe_int (pv 0)) (pv 1)) (pe_op op_mul pe_int (pv 1)))), ?_⟩
    refine ⟨_, rfl, _, _, rfl, rfl, .inl ⟨by decide, by decide⟩, _, rfl, _, _, rfl, rfl, _, rfl, _, _, rfl, rfl, .inl ⟨by decide, by decide⟩, _, _, rfl, rfl, ⟨?_, ?_⟩, k⟩
    · show (0 : Int) < 2 * (b : Int)
      omega
    · show 2 * (b : Int) < 18446744073709551616
      omega
def spPaL : Sp := fun vs H Q _ => ∃ (L : Addr) (r : List Int) (n : Nat), vs = [.ref L] ∧ PairsAt H L (GM.sparse 0 r) ∧ r.length = n ∧ n ≤ 4096 ∧ Small r ∧ ∀ D kvs H', H D = none → Same H H' → PairsAt H' D kvs → GM.Pk n r kvs → Q (.ref D) H'
theorem scPaL : FnScope ["line", "packed", "column", "number", "block"] ["line"] (defScope sPaL) := ⟨rfl, rfl, rfl, by decide +kernel, rfl, by decide +kernel, by decide +kernel⟩
theorem ok_PaL {f : Addr} {fd : FuncData} (F : Fun K "packed_line" "packed_line" sPaL f fd) (T2 : Txt2 K mg CM) (TP : TxtP mg) : FnOk P w K mg base CX0 1 f fd ["line"] spPaL := by
  refine F.ok scPaL (fun vs H Q E h => ?_) (fun cdv A outer s H vs Q E hr h => ?_)
  · obtain ⟨L, r, n, rfl, _⟩ := h
    rfl
  · obtain ⟨L, r, n, rfl, ⟨as, hL, hP⟩, hrl, hn, hsm, k⟩ := h
    refine ⟨_, pss_cons (ps_set (i := 1) scPaL.nd rfl (Or.inl rfl) pe_dnewK)
      (pss_cons (ps_for PassesOwn.never rfl (pi_list (pv 0)) (pg_tup (n := 2) rfl (pgs_cons (pg_name (i := 2) scPaL.nd rfl (Or.inl rfl)) (pgs_cons (pg_name (i := 3) scPaL.nd rfl (Or.inl rfl)) pgs_nil)))
        (pss_cons (ps_set (i := 4) scPaL.nd rfl (Or.inl rfl) (pe_op op_fdiv (pv 2) (pe_const T2.block rfl)))
        (pss_one (ps_dput hr.u1 (pv 1) (pv 4) (pe_op op_add (pe_dget2 hr.u1 (pv 1) (pv 4) pe_int ⟨rfl, rfl, rfl, rfl⟩) (pe_op op_shl (pv 3) (pe_op op_mul (pe_const TP.bits rfl) (pe_op op_mod (pv 2) (pe_const T2.block rfl))))) rfl))))
      (pss_one (ps_ret (pe_callTy (cr_listI rfl) rfl TP.list boot_list5 (pa_cons (pe_items (pv 1)) pa_nil))))), ?_⟩
    have hs : 100000 ≤ sizeLine := by decide
    have hsr := GM.sparse_le r 0
    have hpk := fun b => GM.pkt_sparse r b
    generalize hps : GM.sparse 0 r = ps at hP hsr hpk
    have hal : ps.length = as.length := Paired.length hP
    have hBc : n ≤ 64 * Ql89.blocks n := by unfold Ql89.blocks; omega
    have hB64 : Ql89.blocks n ≤ 64 := by unfold Ql89.blocks; omega
    refine fun S hS => ?_
    have sS := Same.new (o := .dK []) hS
    refine ⟨_, rfl, L, rfl, ⟨_, SqL.of (sS _ _ hL)⟩, for_list (K := K) (a := L) (xs := as.map V.ref) (fun i σ H' => ∃ v2 v3 v4 kvs, σ = [some (.ref L), some (.ref S), v2, v3, v4] ∧ Same H H' ∧ H' S = some (.dK (dkI kvs)) ∧ (kvs.map (·.1)).Nodup ∧ GM.Below (Ql89.blocks n) kvs ∧ ∀ b, b < Ql89.blocks n → GM.at0 kvs (b : Nat) = GM.pkt (ps.take i) (b : Nat))
      ⟨none, none, none, [], rfl, sS, upd_same, List.nodup_nil, fun _ z => by simp at z, fun b _ => by rw [List.take_zero, GM.pkt_nil]; rfl⟩ (fun i σ H' _ ⟨_, _, _, _, _, s1, _⟩ => SqL.of (s1 _ _ hL)) ?_ ?_⟩
    · rintro i x σ H' hx ⟨v2, v3, v4, kvs, rfl, s1, hS', nd, hb, hat⟩
      rw [List.getElem?_map] at hx
      obtain ⟨t, ht, rfl⟩ := Option.map_eq_some_iff.mp hx
      obtain ⟨p, hp, hpt⟩ := paired_get hP ht
      obtain ⟨j, hj, e1, e2⟩ := GM.sparse_mem r 0 p (by rw [hps]; exact List.mem_of_getElem? hp)
      rw [Nat.zero_add] at e1
      have hz := hsm p.2 (List.mem_of_getElem? e2)
      have etk : ps.take (i + 1) = ps.take i ++ [p] := by rw [List.take_add_one, hp]; rfl
      have hkl := GM.below_len hb nd
      refine ⟨t, _, rfl, SqT.of (s1 _ _ hpt), rfl, _, _, rfl, _, _, rfl, rfl, ?_⟩
      refine ⟨_, rfl, _, _, rfl, rfl, ⟨by decide, by decide⟩, ?_⟩
      refine ⟨_, rfl, S, rfl, .inl ⟨_, .inl hS'⟩, _, rfl, _, DGet.k (k := .inl (p.1 / 64)) hS', ?_⟩
      refine ⟨_, rfl, _, rfl, _, _, rfl, rfl, (by show (0 : Int) < 64; decide), _, _, rfl, rfl, .inl ⟨by decide, by decide⟩, _, _, rfl, rfl, ⟨?_, ?_, ?_⟩, GM.at0 kvs (p.1 / 64), GM.pw p, ?_, rfl, ?_⟩
      · show (0 : Int) ≤ 28 * (p.1 % 64)
        omega
      · show 28 * (p.1 % 64) ≤ 1000000
        omega
      · show p.2.natAbs < 2 ^ 64
        omega
      · show (Option.getD (valV (dkI kvs) (Sum.inl (p.1 / 64))) (V.int 0)) = V.int (GM.at0 kvs (p.1 / 64))
        rw [dk_val]
        unfold GM.at0
        cases GM.look kvs (p.1 / 64) <;> rfl
      refine ⟨_, rfl, _, rfl, S, _, rfl, DPut.k (k := .inl (p.1 / 64)) hS' (by rw [dk_len]; omega), ?_⟩
      refine ⟨_, _, _, GM.put kvs (p.1 / 64) (GM.at0 kvs (p.1 / 64) + GM.pw p), rfl, s1.updN hS, by rw [upd_same, dk_put], GM.put_nodup nd _ _, hb.put (by omega), fun b hbb => ?_⟩
      rw [GM.at0_put, etk, GM.pkt_snoc]
      by_cases hjp : ((b : Nat) : Int) = p.1 / 64
      · rw [if_pos hjp, if_pos hjp.symm, ← hjp, hat b hbb]
      · rw [if_neg hjp, if_neg (Ne.symm hjp), hat b hbb, Int.add_zero]
    · rintro σ H' ⟨v2, v3, v4, kvs, rfl, s1, hS', nd, hb, hat⟩
      rw [List.length_map, ← hal, List.take_length] at hat
      refine ⟨_, rfl, S, dkI kvs, rfl, hS', fun v hv => ?_⟩
      have sv := Same.new (o := VW v S) hv
      refine ⟨v, S, kvs, rfl, upd_same, sv _ _ hS', fun Lp asp hLp hasp ndp hnp hlp => ?_⟩
      have sl := lay_same (ps := kvs) hLp hasp
      exact k Lp kvs _ ((s1.trans sv).free hLp) ((s1.trans sv).trans sl) (pairs_lay ndp hnp hlp) ⟨nd, hb, fun b hbb => by rw [hat b hbb, hpk b]⟩
def spSlot : Sp := fun vs H Q _ => ∃ (col : Nat) (s : Nat → Int), vs = [.int col, .int (GM.tv s 0)] ∧ (∀ c, -67108864 ≤ s c ∧ s c ≤ 67108864) ∧ ∀ c D H', c ≤ 64 → (∀ c', c ≤ c' → c' < 64 → s c' = 0) → H D = none → Same H H' → PairsAt H' D (GM.slotP col s c) → Q (.ref D) H'
theorem scSlot : FnScope ["column", "total", "pairs", "number"] ["column", "total"] (defScope sSlot) := ⟨rfl, rfl, rfl, by decide +kernel, rfl, by decide +kernel, by decide +kernel⟩
def muSl (col : Nat) (σ : L2.St) (_ : Hp) : Nat := match (σ[0]? : Option (Option V)) with
  | some (some (.int z)) => ((col : Int) + 64 - z).toNat
  | _ => 0
theorem ok_Slot {f : Addr} {fd : FuncData} (F : Fun K "slot_pairs" "slot_pairs" sSlot f fd) (TP : TxtP mg) : FnOk P w K mg base CX0 1 f fd ["column", "total"] spSlot := by
  refine F.ok scSlot (fun vs H Q E h => ?_) (fun cdv A outer st H vs Q E hr h => ?_)
  · obtain ⟨col, s, rfl, _⟩ := h
    rfl
  · obtain ⟨col, s, rfl, hs, k⟩ := h
    refine ⟨_, pss_cons (ps_set (i := 2) scSlot.nd rfl (Or.inl rfl) (pe_lst pa_nil))
      (pss_cons (ps_while PassesOwn.never (pt_truth (pv 1) (fun _ => rfl))
        (pss_cons (ps_set (i := 3) scSlot.nd rfl (Or.inl rfl) (pe_op op_sub (pe_op op_mod (pe_op op_add (pv 1) (pe_const TP.half rfl)) (pe_const TP.count rfl)) (pe_const TP.half rfl)))
        (pss_cons (ps_expr (pe_bm PySem.F.plainAttrs_list PySem.F.slot_list_append PySem.F.type_list_append mt_append (pv 2) (pa_cons (pe_tup (pa_cons (pv 0) (pa_cons (pv 3) pa_nil))) pa_nil)))
        (pss_cons (ps_set (i := 1) scSlot.nd rfl (Or.inl rfl) (pe_op op_shr (pe_op op_sub (pv 1) (pv 3)) (pe_const TP.bits rfl)))
        (pss_one (ps_aug (i := 0) scSlot.nd rfl (Or.inl rfl) pe_int ip_add))))))
      (pss_one (ps_ret (pv 2)))), ?_⟩
    have hsz : 100000 ≤ sizeLine := by decide
    refine ⟨Nat.zero_le _, fun D hD => ?_⟩
    dsimp only [gName, tSeq]
    refine while_by (fun σ H' => ∃ (c : Nat) (as : List Addr) (v3 : Option V), σ = [some (.int ((col + c : Nat) : Int)), some (.int (GM.tv s c)), some (.ref D), v3] ∧ c ≤ 64 ∧ Same H H' ∧ H' D = some (.lst (as.map V.ref)) ∧ Pairs H' (GM.slotP col s c) as) (muSl col) ?_ ?_ ?_
    · exact ⟨0, [], none, rfl, by decide, Same.new hD, upd_same, .nil⟩
    · rintro σ H2 ⟨c, as, v3, rfl, hc, s2, hD2, hP2⟩
      refine ⟨_, rfl, _, rfl, ?_⟩
      refine ite2 (fun hne => ?_) (fun heq => ?_)
      · have hne := bne_iff_ne.mp hne
        have hc64 : c < 64 := by
          rcases Nat.lt_or_ge c 64 with z | z
          · exact z
          · have : c = 64 := by omega
            rw [this, GM.tv_end] at hne
            exact absurd rfl hne
        have e1 := GM.slot_now hs hc64
        have e2 := GM.slot_next hs hc64
        refine ⟨_, rfl, _, _, rfl, rfl, _, _, rfl, rfl, (by show (0 : Int) < 268435456; decide), _, _, rfl, rfl, ?_⟩
        show (tSeq _ _) _ [some (.int ((col + c : Nat) : Int)), some (.int (GM.tv s c)), some (.ref D), some (.int ((GM.tv s c + 134217728) % 268435456 - 134217728))] H2
        rw [e1]
        have hal : as.length = c := by have := Paired.length hP2; rw [GM.slotP_len] at this; omega
        refine ⟨_, rfl, .inl ⟨rfl, _, SqL.of hD2⟩, _, rfl, _, rfl, by show 2 ≤ sizeLine; decide, fun T hT => ?_⟩
        have sT := Same.new (o := .tup [V.int ((col + c : Nat) : Int), V.int (s c)]) hT
        have hTD : T ≠ D := fun z => by rw [z, hD2] at hT; cases hT
        refine ⟨D, _, _, rfl, rfl, sT _ _ hD2, by rw [List.length_map]; omega, ?_⟩
        refine ⟨_, rfl, _, rfl, _, _, rfl, rfl, _, _, rfl, rfl, (by show (0 : Int) ≤ 28; decide), ?_⟩
        refine ⟨_, rfl, _, _, rfl, rfl, ?_⟩
        refine ⟨⟨c + 1, as ++ [T], some (V.int (s c)), ?_, by omega, (s2.trans sT).updN hD, by rw [List.map_append]; exact upd_same, ?_⟩, ?_⟩
        · show [some (V.int (((col + c : Nat) : Int) + 1)), some (V.int ((GM.tv s c - s c) / 2 ^ (28 : Int).toNat)), some (V.ref D), some (V.int (s c))] = _
          rw [e2]
          have : ((col + c : Nat) : Int) + 1 = ((col + (c + 1) : Nat) : Int) := by omega
          rw [this]
        · rw [GM.slotP_snoc]
          refine paired_app (Pairs.upd (Pairs.mono hP2 sT) (sT _ _ hD2)) (.cons ?_ .nil)
          show upd _ D _ T = _
          rw [upd_ne hTD, upd_same]
        · show ((col : Int) + 64 - (((col + c : Nat) : Int) + 1)).toNat < ((col : Int) + 64 - ((col + c : Nat) : Int)).toNat
          omega
      · have h0 : GM.tv s c = 0 := by
          by_cases z : GM.tv s c = 0
          · exact z
          · exact absurd (bne_iff_ne.mpr z) heq
        exact ⟨_, rfl, k c D H2 hc (GM.tv_zero hs (64 - c) c rfl h0) hD s2 ⟨as, hD2, hP2⟩⟩
    · rintro σ H' Q Q' h ⟨v, e, kk, t, q⟩
      exact ⟨v, e, kk, t, h _ _ q⟩
end
end Go

set_option Elab.async false
set_option linter.all false
set_option maxRecDepth 100000
set_option maxHeartbeats 4000000
namespace Go
open PySem L2
section
variable {K : PySem.W.Frag} {a D : Addr} {g : TG} {te : TE} {vs : List Nat} {σ : L2.St} {H1 : Hp} {Qd : Hp → Prop}
def Packs (H : Hp) (kvss : List IKV) (as : List Addr) : Prop := Paired (fun (kvs : IKV) (a : Addr) => PairsAt H a kvs) kvss as
theorem Packs.mono {H H' : Hp} {kvss : List IKV} {as : List Addr} (h : Packs H kvss as) (s : Same H H') : Packs H' kvss as := Paired.mapP h fun c a q => PairsAt.mono q s
theorem Packs.upd {H : Hp} {L : Addr} {xs ys : List V} {kvss : List IKV} {as : List Addr} (h : Packs H kvss as) (hL : H L = some (.lst xs)) (hn : ∀ a ∈ as, a ≠ L) : Packs (L2.upd H L (.lst ys)) kvss as := by
  induction h with
  | nil => exact .nil
  | cons q t ih =>
    refine .cons ?_ (ih fun a ha => hn a (List.mem_cons_of_mem _ ha))
    obtain ⟨bs, h1, h2⟩ := q
    exact ⟨bs, by rw [upd_ne (hn _ List.mem_cons_self)]; exact h1, Pairs.upd h2 hL⟩
theorem lc_packs (R : List Int → IKV → Prop) {rows : List (List Int)} {as : List Addr} (hL : H1 a = some (.lst (as.map V.ref))) (hLs : Lines H1 rows as) (hD : H1 D = none) (hz : rows.length ≤ 4096)
    (hs : ∀ (i : Nat) (b : Addr) (r : List Int) (H : Hp) (Q : VK), as[i]? = some b → rows[i]? = some r → Same H1 H → (∀ D2 kvs H4, H D2 = none → Same H H4 → PairsAt H4 D2 kvs → R r kvs → Q (.ref D2) H4) → g (.ref b) (wipe σ vs) H fun σ2 H2 => wipe σ2 vs = wipe σ vs ∧ te σ2 H2 Q)
    (hd : ∀ H ds kvss, Same H1 H → H D = some (.lst (ds.map V.ref)) → Packs H kvss ds → Paired R rows kvss → Qd H) :
    ∃ W : Nat → Nat → Hp → Prop, (∃ m, W 0 m (upd H1 D (.lst []))) ∧ ∀ i m H, W i m H →
      ((Itl K a).stop i H ∧ Qd H) ∨ ((Itl K a).go i H ∧ ∃ Nx : Hp → Prop, (∀ H', Nx H' → ∃ m', m' < m ∧ W (i + 1) m' H') ∧ ∀ x H', (Itl K a).yld i H x H' → g x (wipe σ vs) H' fun σ2 H2 => wipe σ2 vs = wipe σ vs ∧ tYes σ2 H2 fun b H3 =>
        if b = true then te σ2 H3 fun y H4 => ∃ acc, H4 D = some (.lst acc) ∧ acc.length < sizeLine ∧ Nx (upd H4 D (.lst (acc ++ [y]))) else Nx H3) := by
  have hal : rows.length = as.length := Paired.length hLs
  have hsz : 8192 ≤ sizeLine := by decide
  refine lc_list (xs := as.map V.ref) (fun i H => ∃ (ds : List Addr) (kvss : List IKV), Same H1 H ∧ H D = some (.lst (ds.map V.ref)) ∧ Packs H kvss ds ∧ Paired R (rows.take i) kvss ∧ (∀ b ∈ ds, b ≠ D)) ⟨[], [], Same.new hD, upd_same, .nil, by rw [List.take_zero]; exact .nil, fun _ z => by simp at z⟩ (fun i H _ ⟨_, _, s1, _⟩ => SqL.of (s1 _ _ hL)) ?_ ?_
  · rintro i x H hx ⟨ds, kvss, s1, h1, h2, hR, h3⟩
    rw [List.getElem?_map] at hx
    obtain ⟨b, hb, rfl⟩ := Option.map_eq_some_iff.mp hx
    obtain ⟨r, hr, _⟩ := paired_get hLs hb
    refine hs i b r H _ hb hr s1 fun D2 kvs H4 n2 s4 hp hk => ?_
    have hne : D2 ≠ D := fun z => by rw [z, h1] at n2; cases n2
    have hdl : ds.length ≤ rows.length := by
      have e1 := Paired.length h2
      have e2 := Paired.length hR
      rw [List.length_take] at e2
      omega
    refine ⟨_, s4 _ _ h1, by rw [List.length_map]; omega, ds ++ [D2], kvss ++ [kvs], (s1.trans s4).updN hD, by rw [List.map_append]; exact upd_same, ?_, ?_, ?_⟩
    · refine paired_app (Packs.upd (h2.mono s4) (s4 _ _ h1) h3) (.cons ?_ .nil)
      obtain ⟨bs, b1, b2⟩ := hp
      exact ⟨bs, by rw [upd_ne hne]; exact b1, Pairs.upd b2 (s4 _ _ h1)⟩
    · rw [List.take_add_one, hr]
      exact paired_app hR (.cons hk .nil)
    · intro b' hb'
      rcases List.mem_append.mp hb' with z | z
      · exact h3 b' z
      · have z : b' = D2 := by simpa using z
        rw [z]; exact hne
  · rintro H ⟨ds, kvss, s1, h1, h2, hR, _⟩
    rw [List.length_map, ← hal, List.take_length] at hR
    exact hd H ds kvss s1 h1 h2 hR
end
section
variable {P : Program} {w : World} {K : PySem.W.Frag} {mg : Str → Option Value} {base : Heap} {C CR fF CM : Addr}
def prodR (n sh : Nat) (rows : List (List Int)) (r : List Int) : List Int := (List.range n).map fun (j : Nat) => Ql89.byte (Ql89.near (GM.SS r rows (j / 64) (j % 64)) (2 ^ sh))
def spPrL : Sp := fun vs H Q _ => ∃ (L PL : Addr) (ra : List Int) (rows : List (List Int)) (pas : List Addr) (kvss : List IKV) (n sh : Nat), vs = [.ref L, .ref PL, .int sh] ∧ PairsAt H L (GM.sparse 0 ra) ∧ H PL = some (.lst (pas.map V.ref)) ∧ Packs H kvss pas ∧ Paired (GM.Pk n) rows kvss ∧ ra.length = rows.length ∧ ra.length ≤ 4096 ∧ (1 ≤ n ∧ n ≤ 4096) ∧ (∀ z ∈ ra, GM.isB z) ∧ (∀ r ∈ rows, r.length = n ∧ ∀ z ∈ r, GM.isB z) ∧ sh ≤ 30 ∧
  ∀ D H', H D = none → Same H H' → PairsAt H' D (GM.sparse 0 (prodR n sh rows ra)) → Q (.ref D) H'
theorem scPrL : FnScope ["line", "packed_lines", "shift", "totals", "row", "factor", "block", "packed", "pairs", "total", "column", "number"] ["line", "packed_lines", "shift"] (defScope sPrL) := ⟨rfl, rfl, rfl, by decide +kernel, rfl, by decide +kernel, by decide +kernel⟩
theorem ok_PrL {f fS fN fH : Addr} {fd fdS fdN fdH : FuncData} (F : Fun K "product_line" "product_line" sPrL f fd) (T2 : Txt2 K mg CM) (TP : TxtP mg) (SL : GFn P w K mg base CX0 1 "slot_pairs" fS fdS ["column", "total"] spSlot) (NE : GFn P w K mg base CX0 1 "near" fN fdN ["a", "b"] spNearW)
    (HL : GFn P w K mg base CX0 2 "held_line" fH fdH ["pairs"] spHeL) : FnOk P w K mg base CX0 3 f fd ["line", "packed_lines", "shift"] spPrL := by
  refine F.ok scPrL (fun vs H Q E h => ?_) (fun cdv A outer st H vs Q E hr h => ?_)
  · obtain ⟨L, PL, ra, rows, pas, kvss, n, sh, rfl, _⟩ := h
    rfl
  · obtain ⟨L, PL, ra, rows, pas, kvss, n, sh, rfl, ⟨as, hL, hP⟩, hPL, hPk, hR, hrr, hral, ⟨hn1, hn2⟩, hab, hrb, hsh, k⟩ := h
    have hr1 : Room 1 _ := hr.mono (by decide)
    refine ⟨_, pss_cons (ps_set (i := 3) scPrL.nd rfl (Or.inl rfl) pe_dnewK)
      (pss_cons (ps_for PassesOwn.never rfl (pi_list (pv 0)) (pg_tup (n := 2) rfl (pgs_cons (pg_name (i := 4) scPrL.nd rfl (Or.inl rfl)) (pgs_cons (pg_name (i := 5) scPrL.nd rfl (Or.inl rfl)) pgs_nil)))
        (pss_one (ps_for PassesOwn.never rfl (pi_list (pe_ix ix_list (pv 1) (pv 4) (fun _ _ => rfl))) (pg_tup (n := 2) rfl (pgs_cons (pg_name (i := 6) scPrL.nd rfl (Or.inl rfl)) (pgs_cons (pg_name (i := 7) scPrL.nd rfl (Or.inl rfl)) pgs_nil)))
          (pss_one (ps_dput hr.u1 (pv 3) (pv 6) (pe_op op_add (pe_dget2 hr.u1 (pv 3) (pv 6) pe_int ⟨rfl, rfl, rfl, rfl⟩) (pe_op op_mul (pv 5) (pv 7))) rfl)))))
      (pss_cons (ps_set (i := 8) scPrL.nd rfl (Or.inl rfl) (pe_lst pa_nil))
      (pss_cons (ps_for PassesOwn.never rfl (pi_list (pe_callB (cr_sortI rfl) (by rfl) TP.sort boot_sorted5 (pa_cons (pe_items (pv 3)) pa_nil))) (pg_tup (n := 2) rfl (pgs_cons (pg_name (i := 6) scPrL.nd rfl (Or.inl rfl)) (pgs_cons (pg_name (i := 9) scPrL.nd rfl (Or.inl rfl)) pgs_nil)))
        (pss_one (ps_expr (pe_bm PySem.F.plainAttrs_list PySem.F.slot_list_extend PySem.F.type_list_extend mt_extend (pv 8) (pa_cons (pe_call SL.ok hr1 rfl SL.glo SL.kp SL.b .nil pass0 (pa_cons (pe_op op_mul (pv 6) (pe_const T2.block rfl)) (pa_cons (pv 9) pa_nil))) pa_nil)))))
      (pss_one (ps_ret (pe_call HL.ok hr rfl HL.glo HL.kp HL.b .nil pass0 (pa_cons
        (pe_lc rfl scPrL.nd (pi_list (pv 8)) (blkOk_by (own := [("column", 10), ("number", 11)]) (by kernel_rfl))
          (fun _ _ _ _ _ => pg_tupK (K := K) (n := 2) rfl rfl (pgs_cons (pg_name (i := 10) scPrL.nd rfl (Or.inl rfl)) (pgs_cons (pg_name (i := 11) scPrL.nd rfl (Or.inl rfl)) pgs_nil))) (fun _ _ _ _ _ => pts_nil)
          (fun _ _ _ _ _ => pe_tup (pa_cons (pv 10) (pa_cons (pe_call NE.ok hr1 rfl NE.glo NE.kp NE.b .nil pass0 (pa_cons (pv 11) (pa_cons (pe_op op_shl pe_int (pv 2)) pa_nil))) pa_nil)))) pa_nil))))))), ?_⟩
    have hs : 200000 ≤ sizeLine := by decide
    have hB64 : Ql89.blocks n ≤ 64 := by unfold Ql89.blocks; omega
    have hll : rows.length = kvss.length := Paired.length hR
    have hlp : kvss.length = pas.length := Paired.length hPk
    have htv : ∀ b, GM.tv (GM.SS ra rows b) 0 = GM.lin (GM.sparse 0 ra) (fun k => GM.tv (fun c => (rows.getD k.toNat []).getD (64 * b + c) 0) 0) := fun b => GM.SS_tv ra rows b
    have hsm : ∀ p ∈ GM.sparse 0 ra, ∃ j, j < ra.length ∧ p.1 = ((j : Nat) : Int) ∧ ra[j]? = some p.2 := fun p hp => by
      obtain ⟨j, hj, e1, e2⟩ := GM.sparse_mem ra 0 p hp
      exact ⟨j, hj, by rw [Nat.zero_add] at e1; exact e1, e2⟩
    generalize hqs : GM.sparse 0 ra = qs at hP htv hsm
    have hal : qs.length = as.length := Paired.length hP
    let gb : Nat → Int → Int := fun b k => GM.tv (fun c => (rows.getD k.toNat []).getD (64 * b + c) 0) 0
    refine fun S hS => ?_
    have sS := Same.new (o := .dK []) hS
    refine ⟨_, rfl, L, rfl, ⟨_, SqL.of (sS _ _ hL)⟩, for_list (K := K) (a := L) (xs := as.map V.ref) (fun i σ H' => ∃ v4 v5 v6 v7 kvs, σ = [some (.ref L), some (.ref PL), some (.int sh), some (.ref S), v4, v5, v6, v7, none, none, none, none] ∧ Same H H' ∧ H' S = some (.dK (dkI kvs)) ∧ (kvs.map (·.1)).Nodup ∧ GM.Below (Ql89.blocks n) kvs ∧ ∀ b, b < Ql89.blocks n → GM.at0 kvs (b : Nat) = GM.lin (qs.take i) (gb b))
      ⟨none, none, none, none, [], rfl, sS, upd_same, List.nodup_nil, fun _ z => by simp at z, fun b _ => by rw [List.take_zero]; rfl⟩ (fun i σ H' _ ⟨_, _, _, _, _, _, s1, _⟩ => SqL.of (s1 _ _ hL)) ?_ ?_⟩
    · rintro i x σ H' hx ⟨v4, v5, v6, v7, kvs, rfl, s1, hS', nd, hb, hat⟩
      rw [List.getElem?_map] at hx
      obtain ⟨t, ht, rfl⟩ := Option.map_eq_some_iff.mp hx
      obtain ⟨p, hp, hpt⟩ := paired_get hP ht
      obtain ⟨j, hj, e1, e2⟩ := hsm p (List.mem_of_getElem? hp)
      have hpB := hab p.2 (List.mem_of_getElem? e2)
      unfold GM.isB at hpB
      have etk : qs.take (i + 1) = qs.take i ++ [p] := by rw [List.take_add_one, hp]; rfl
      obtain ⟨pa, hpa⟩ : ∃ pa, pas[j]? = some pa := ⟨pas[j]'(by omega), by simp [show j < pas.length by omega]⟩
      obtain ⟨kk, hkk, ks, hks1, hks2⟩ := paired_get hPk hpa
      obtain ⟨rj, hrj, pk⟩ := paired_get hR hkk
      have hgd : rows.getD p.1.toNat [] = rj := by
        have : p.1.toNat = j := by omega
        rw [this, List.getD_eq_getElem?_getD, hrj]
        rfl
      have hkl : kk.length = ks.length := Paired.length hks2
      refine ⟨t, _, rfl, SqT.of (s1 _ _ hpt), rfl, _, _, rfl, _, _, rfl, rfl, ?_⟩
      refine ⟨_, rfl, _, rfl, PL, _, _, V.ref pa, rfl, rfl, SqL.of (s1 _ _ hPL), at_of e1 (by rw [List.getElem?_map, hpa]; rfl), pa, rfl, ⟨_, SqL.of (s1 _ _ hks1)⟩, ?_⟩
      refine for_list (K := K) (a := pa) (xs := ks.map V.ref) (fun m σ H'' => ∃ v6 v7 kvs', σ = [some (.ref L), some (.ref PL), some (.int sh), some (.ref S), some (.int p.1), some (.int p.2), v6, v7, none, none, none, none] ∧ Same H H'' ∧ H'' S = some (.dK (dkI kvs')) ∧ (kvs'.map (·.1)).Nodup ∧ GM.Below (Ql89.blocks n) kvs' ∧ ∀ b, b < Ql89.blocks n → GM.at0 kvs' (b : Nat) = GM.at0 kvs (b : Nat) + p.2 * GM.tot (kk.take m) (b : Nat))
        ⟨v6, v7, kvs, rfl, s1, hS', nd, hb, fun b _ => by rw [List.take_zero, GM.tot_nil, Int.mul_zero, Int.add_zero]⟩ (fun m σ H'' _ ⟨_, _, _, _, s2, _⟩ => SqL.of (s2 _ _ hks1)) ?_ ?_
      · rintro m x σ H'' hx ⟨v6, v7, kvs', rfl, s2, hS'', nd', hb', hat'⟩
        rw [List.getElem?_map] at hx
        obtain ⟨t2, ht2, rfl⟩ := Option.map_eq_some_iff.mp hx
        obtain ⟨q, hq, hqt⟩ := paired_get hks2 ht2
        have hqb := pk.below q (List.mem_of_getElem? hq)
        have etm : kk.take (m + 1) = kk.take m ++ [q] := by rw [List.take_add_one, hq]; rfl
        have hkl' := GM.below_len hb' nd'
        refine ⟨t2, _, rfl, SqT.of (s2 _ _ hqt), rfl, _, _, rfl, _, _, rfl, rfl, ?_⟩
        refine ⟨_, rfl, S, rfl, .inl ⟨_, .inl hS''⟩, _, rfl, _, DGet.k (k := .inl q.1) hS'', ?_⟩
        refine ⟨_, rfl, _, rfl, _, _, rfl, rfl, .inl ⟨by omega, by omega⟩, GM.at0 kvs' q.1, p.2 * q.2, ?_, rfl, ?_⟩
        · show (Option.getD (valV (dkI kvs') (Sum.inl q.1)) (V.int 0)) = V.int (GM.at0 kvs' q.1)
          rw [dk_val]
          unfold GM.at0
          cases GM.look kvs' q.1 <;> rfl
        refine ⟨_, rfl, _, rfl, S, _, rfl, DPut.k (k := .inl q.1) hS'' (by rw [dk_len]; omega), ?_⟩
        refine ⟨_, _, GM.put kvs' q.1 (GM.at0 kvs' q.1 + p.2 * q.2), rfl, s2.updN hS, by rw [upd_same, dk_put], GM.put_nodup nd' _ _, hb'.put hqb, fun b hbb => ?_⟩
        rw [GM.at0_put, etm, GM.tot_snoc, Int.mul_add]
        by_cases hjp : ((b : Nat) : Int) = q.1
        · rw [if_pos hjp, if_pos hjp.symm, ← hjp, hat' b hbb]
          omega
        · rw [if_neg hjp, if_neg (Ne.symm hjp), hat' b hbb, Int.mul_zero]
          omega
      · rintro σ H'' ⟨v6, v7, kvs', rfl, s2, hS'', nd', hb', hat'⟩
        rw [List.length_map, ← hkl, List.take_length] at hat'
        refine ⟨_, _, _, _, kvs', rfl, s2, hS'', nd', hb', fun b hbb => ?_⟩
        rw [hat' b hbb, hat b hbb, etk, GM.lin_snoc, GM.tot_at0 pk.nd, pk.at_ b hbb]
        show _ + _ = _ + p.2 * GM.tv (fun c => (rows.getD p.1.toNat []).getD (64 * b + c) 0) 0
        rw [hgd]
    · rintro σ H3 ⟨v4, v5, v6, v7, kvs, rfl, s3, hS3, nd, hb, hat⟩
      rw [List.length_map, ← hal, List.take_length] at hat
      have hat : ∀ b, b < Ql89.blocks n → GM.at0 kvs (b : Nat) = GM.tv (GM.SS ra rows b) 0 := fun b hbb => by rw [hat b hbb, htv b]
      have bnd := GM.SS_bound ra rows hral hab (fun r hr => (hrb r hr).2)
      refine ⟨Nat.zero_le _, fun D hD => ?_⟩
      have hSD : S ≠ D := ne_of_none hS3 hD
      have sD := Same.new (o := .lst []) hD
      refine ⟨_, rfl, S, dkI kvs, rfl, sD _ _ hS3, fun v hv => ?_⟩
      have sv := Same.new (o := VW v S) hv
      refine ⟨v, S, kvs, rfl, upd_same, sv _ _ (sD _ _ hS3), fun ts Lp asp hperm hrise hLp hasp ndp hnp hlp => ?_⟩
      have sl := lay_same (ps := ts) hLp hasp
      have hPA : PairsAt (layT (upd (upd H3 D (.lst [])) v (VW v S)) Lp asp ts) Lp ts := pairs_lay ndp hnp hlp
      have s5 : Same H3 (layT (upd (upd H3 D (.lst [])) v (VW v S)) Lp asp ts) := (sD.trans sv).trans sl
      have hD5 : layT (upd (upd H3 D (.lst [])) v (VW v S)) Lp asp ts D = some (.lst []) := sl _ _ (sv _ _ upd_same)
      have hLD : Lp ≠ D := (ne_of_none (sv _ _ (upd_same (H := H3) (a := D) (o := .lst []))) hLp).symm
      generalize layT (upd (upd H3 D (.lst [])) v (VW v S)) Lp asp ts = H5 at hPA s5 hD5
      obtain ⟨as5, hL5, hP5⟩ := hPA
      have hal5 : ts.length = as5.length := Paired.length hP5
      have htl : ts.length ≤ 64 := by rw [hperm.length_eq]; have := GM.below_len hb nd; omega
      have hD0 : H D = none := s3.free hD
      refine ⟨Lp, rfl, ⟨_, SqL.of hL5⟩, for_list (K := K) (a := Lp) (xs := as5.map V.ref) (fun i σ H' => ∃ v6 v9 ps ds, σ = [some (.ref L), some (.ref PL), some (.int sh), some (.ref S), v4, v5, v6, v7, some (.ref D), v9, none, none] ∧ (∀ b o, b ≠ D → H5 b = some o → H' b = some o) ∧ H' D = some (.lst (ds.map V.ref)) ∧ Pairs H' ps ds ∧ GM.Cols n (ts.take i) (GM.SS ra rows) ps ∧ ps.length ≤ 64 * i)
        ⟨v6, none, [], [], rfl, fun _ _ _ e => e, hD5, .nil, by rw [List.take_zero]; exact GM.cols_nil _ _, Nat.zero_le _⟩ (fun i σ H' _ ⟨_, _, _, _, _, bt, _⟩ => SqL.of (bt _ _ hLD hL5)) ?_ ?_⟩
      · rintro i x σ H' hx ⟨v6, v9, ps, ds, rfl, bt, hD', hPs, hC, hpl⟩
        rw [List.getElem?_map] at hx
        obtain ⟨a5, ha5, rfl⟩ := Option.map_eq_some_iff.mp hx
        obtain ⟨t, ht, htt⟩ := paired_get hP5 ha5
        have hi : i < ts.length := (List.getElem?_eq_some_iff.mp ht).1
        have htk := hperm.mem_iff.mp (List.mem_of_getElem? ht)
        have htb := hb t htk
        have hlk := (GM.look_mem nd t.1 t.2).mpr htk
        have et1 : ((t.1.toNat : Nat) : Int) = t.1 := by omega
        have et2 : t.2 = GM.tv (GM.SS ra rows t.1.toNat) 0 := by
          rw [← hat t.1.toNat (by omega)]
          unfold GM.at0
          rw [et1, hlk]
          rfl
        have et3 : t.1 * 64 = ((64 * t.1.toNat : Nat) : Int) := by omega
        have hneD : a5 ≠ D := fun z => by
          have htt : H5 a5 = some _ := htt
          rw [z, hD5] at htt
          cases htt
        have etk : ts.take (i + 1) = ts.take i ++ [t] := by rw [List.take_add_one, ht]; rfl
        have hdl : ps.length = ds.length := Paired.length hPs
        refine ⟨a5, _, rfl, SqT.of (bt _ _ hneD htt), rfl, _, _, rfl, _, _, rfl, rfl, ?_⟩
        refine ⟨_, rfl, .inl ⟨rfl, _, SqL.of hD'⟩, _, rfl, _, _, rfl, rfl, .inr ⟨by decide, by decide⟩, _, rfl, 64 * t.1.toNat, GM.SS ra rows t.1.toNat, ?_, bnd t.1.toNat, fun c D2 H6 hc hz n6 s6 hp6 => ?_⟩
        · show [V.int (t.1 * 64), V.int t.2] ++ [] = _
          rw [et3, et2]
          rfl
        obtain ⟨ds6, hl6, hP6⟩ := hp6
        have hdl6 : c = ds6.length := by have := Paired.length hP6; rw [GM.slotP_len] at this; exact this
        refine ⟨D, D2, _, _, rfl, rfl, s6 _ _ hD', hl6, by rw [List.length_map, List.length_map]; omega, ?_⟩
        refine ⟨_, _, ps ++ GM.slotP (64 * t.1.toNat) (GM.SS ra rows t.1.toNat) c, ds ++ ds6, rfl, fun b o hb e => by rw [upd_ne hb]; exact s6 _ _ (bt b o hb e), by rw [List.map_append]; exact upd_same, paired_app (Pairs.upd (Pairs.mono hPs s6) (s6 _ _ hD')) (Pairs.upd hP6 (s6 _ _ hD')), ?_, ?_⟩
        · rw [etk]
          refine GM.cols_step hC ?_ htb.1 hc hz
          rw [← etk]
          exact hrise.take
        · rw [List.length_append, GM.slotP_len]
          omega
      · rintro σ H6 ⟨v6, v9, ps, ds, rfl, bt, hD6, hPs, hC, hpl⟩
        rw [List.length_map, ← hal5] at hpl hC
        rw [List.take_length] at hC
        have hdl : ps.length = ds.length := Paired.length hPs
        have sH6 : Same H H6 := fun b o e => bt b o (ne_of_none e hD0) (s5 _ _ (s3 _ _ e))
        have e2s : (1 : Int) * 2 ^ (sh : Int).toNat = ((2 ^ sh : Nat) : Int) := by rw [Int.toNat_natCast, Int.one_mul]; simp
        have h2s : 2 ^ sh ≤ 2 ^ 30 := Nat.pow_le_pow_right (by decide) hsh
        refine ⟨_, rfl, D, rfl, ⟨_, SqL.of hD6⟩, fun E hE => ?_⟩
        refine lc_list (xs := ds.map V.ref) (fun i H' => ∃ es : List Addr, Same H6 H' ∧ H' E = some (.lst (es.map V.ref)) ∧ Pairs H' (GM.nearP sh (ps.take i)) es) ⟨[], Same.new hE, upd_same, by rw [List.take_zero]; exact .nil⟩ (fun i H' _ ⟨_, s1, _⟩ => SqL.of (s1 _ _ hD6)) ?_ ?_
        · rintro i x H' hx ⟨es, s7, h1, h2⟩
          rw [List.getElem?_map] at hx
          obtain ⟨q, hq, rfl⟩ := Option.map_eq_some_iff.mp hx
          obtain ⟨p, hp, hpt⟩ := paired_get hPs hq
          have hi : i < ds.length := (List.getElem?_eq_some_iff.mp hq).1
          have etk : GM.nearP sh (ps.take (i + 1)) = GM.nearP sh (ps.take i) ++ [(p.1, Ql89.near p.2 (2 ^ sh))] := by
            rw [List.take_add_one, hp]
            unfold GM.nearP
            rw [List.map_append]
            rfl
          refine ⟨q, _, rfl, SqT.of (s7 _ _ hpt), rfl, _, _, rfl, _, _, rfl, rfl, rfl, ?_⟩
          refine ⟨_, rfl, _, rfl, _, rfl, _, _, rfl, rfl, ⟨?_, ?_, by decide⟩, p.2, 2 ^ sh, ?_, ⟨Nat.two_pow_pos sh, by omega⟩, by show 2 ≤ sizeLine; decide, fun T hT => ?_⟩
          · show (0 : Int) ≤ (sh : Int)
            omega
          · show (sh : Int) ≤ 1000000
            omega
          · show [V.int p.2, V.int (1 * 2 ^ (sh : Int).toNat)] ++ [] = _
            rw [e2s]
            rfl
          have sT := Same.new (o := .tup [V.int p.1, V.int (Ql89.near p.2 (2 ^ sh))]) hT
          have hTE : T ≠ E := fun z => by rw [z, h1] at hT; cases hT
          have hel : es.length ≤ 64 * 64 := by
            have := Paired.length h2
            unfold GM.nearP at this
            rw [List.length_map, List.length_take] at this
            omega
          refine ⟨_, sT _ _ h1, by rw [List.length_map]; omega, es ++ [T], (s7.trans sT).updN hE, by rw [List.map_append]; exact upd_same, ?_⟩
          rw [etk]
          refine paired_app (Pairs.upd (Pairs.mono h2 sT) (sT _ _ h1)) (.cons ?_ .nil)
          show upd _ E _ T = _
          rw [upd_ne hTE, upd_same]
        · rintro H7 ⟨es, s7, h1, h2⟩
          rw [List.length_map, ← hdl, List.take_length] at h2
          refine ⟨E, GM.nearP sh ps, rfl, ⟨es, h1, h2⟩, by unfold GM.nearP; rw [List.length_map]; omega, fun D7 H8 n8 s8 hp8 => ?_⟩
          refine k D7 H8 ((sH6.trans s7).free n8) ((sH6.trans s7).trans s8) ?_
          have := GM.cols_held (sh := sh) hC hperm nd hb (fun b c _ hbc => GM.SS_out ra rows n b c (fun r hr => (hrb r hr).1) hbc) fun b hbb hl c hc => by
            have h0 := hat b hbb
            unfold GM.at0 at h0
            rw [hl] at h0
            exact GM.tv_zero (bnd b) 64 0 rfl h0.symm c (Nat.zero_le _) hc
          rw [this] at hp8
          exact hp8
end
end Go

set_option Elab.async false
set_option linter.all false
set_option maxRecDepth 100000
set_option maxHeartbeats 4000000
namespace Go
open PySem L2
section
variable {P : Program} {w : World} {K : PySem.W.Frag} {mg : Str → Option Value} {base : Heap} {C CR fF CM : Addr}
def spPro (CM : Addr) : Sp := fun vs H Q _ => ∃ (a b : Addr) (m n : Ql89.Matrix) (sh : Nat), vs = [.ref a, .ref b, .int sh] ∧ MatAt CM H m a ∧ MatAt CM H n b ∧ MDim m ∧ MDim n ∧ GM.MatOk m ∧ GM.MatOk n ∧ m.cols = n.rows ∧ sh ≤ 30 ∧ ∀ c H', Same H H' → MatAt CM H' (Ql89.product m n sh) c → Q (.ref c) H'
theorem scPro : FnScope ["a", "b", "shift", "packed_lines", "line"] ["a", "b", "shift"] (defScope sProd) := ⟨rfl, rfl, rfl, by decide +kernel, rfl, by decide +kernel, by decide +kernel⟩
theorem prod_dim {m n : Ql89.Matrix} {sh : Nat} (h : MDim m) (h' : MDim n) : MDim (Ql89.product m n sh) := by
  refine ⟨?_, h.rows, h'.cols, fun x hx => ?_⟩
  · show ((List.range m.rows).map _).length = m.rows
    simp
  · obtain ⟨i, _, rfl⟩ := List.mem_map.mp hx
    show ((List.range n.cols).map _).length = n.cols
    simp
theorem ok_Pro {f fP fL fMI : Addr} {fd fdP fdL fdMI : FuncData} (F : Fun K "product" "product" sProd f fd) (T2 : Txt2 K mg CM) (M : Mk K CM fMI) (FI : FnOk P w K mg base CX0 1 fMI fdMI ["self", "rows", "columns", "lines"] (spMI CM)) (bI : Binds K fdMI ["self", "rows", "columns", "lines"] [])
    (PA' : GFn P w K mg base CX0 1 "packed_line" fP fdP ["line"] spPaL) (PR : GFn P w K mg base CX0 3 "product_line" fL fdL ["line", "packed_lines", "shift"] spPrL) : FnOk P w K mg base CX0 4 f fd ["a", "b", "shift"] (spPro CM) := by
  refine F.ok scPro (fun vs H Q E h => ?_) (fun cdv A outer st H vs Q E hr h => ?_)
  · obtain ⟨a, b, m, n, sh, rfl, _⟩ := h
    rfl
  · obtain ⟨a, b, m, n, sh, rfl, hM, hN, dim, dimN, mok, nok, ec, hsh, k⟩ := h
    have hr1 : Room 1 _ := hr.mono (by decide)
    have hr2 : Room 2 _ := hr.mono (by decide)
    refine ⟨_, pss_cons (ps_set (i := 3) scPro.nd rfl (Or.inr rfl) (pe_lc rfl scPro.nd (pi_list (pe_fld (pv 1) rfl)) (blkOk_by (own := [("line", 4)]) (by kernel_rfl)) (fun _ _ _ _ _ => pg_name (i := 4) scPro.nd rfl (Or.inl rfl)) (fun _ _ _ _ _ => pts_nil) (fun _ _ _ _ _ => pe_call PA'.ok hr1 rfl PA'.glo PA'.kp PA'.b .nil pass0 (pa_cons (pv 4) pa_nil))))
      (pss_one (ps_ret (pe_make M FI hr2 rfl T2.mgM bI .nil pass0 (pa_cons (pe_fld (pv 0) rfl) (pa_cons (pe_fld (pv 1) rfl) (pa_cons
        (pe_lc rfl scPro.nd (pi_list (pe_fld (pv 0) rfl)) (blkOk_by (own := [("line", 4)]) (by kernel_rfl)) (fun _ _ _ _ _ => pg_name (i := 4) scPro.nd rfl (Or.inl rfl)) (fun _ _ _ _ _ => pts_nil)
          (fun _ _ _ _ _ => pe_call PR.ok hr rfl PR.glo PR.kp PR.b .nil pass0 (pa_cons (pv 4) (pa_cons (pv 3) (pa_cons (pv 2) pa_nil))))) pa_nil)))))), ?_⟩
    obtain ⟨dx, L, hm, as, hL, hLs⟩ := id hM
    obtain ⟨dy, L2, hn, bs, hL2, hLs2⟩ := id hN
    have hdl := dim.len
    have hdn := dimN.len
    have hrm := dim.rows
    have hrn := dimN.rows
    have hcm := dim.cols
    refine ⟨_, rfl, b, CM, dy, _, _, rfl, hn, T2.cl, T2.nL, mf_lines _ _ _, L2, rfl, ⟨_, SqL.of hL2⟩, fun D hD => ?_⟩
    refine lc_packs (GM.Pk n.cols) hL2 hLs2 hD (by omega) ?_ ?_
    · intro i b' r H' Q' hb hrr s1 kQ
      exact ⟨rfl, _, rfl, b', r, n.cols, rfl, (paired_both hLs2 hrr hb).mono s1, dimN.row r (List.mem_of_getElem? hrr), dimN.cols.2, fun z hz => by
        have := (nok.row r (List.mem_of_getElem? hrr)).2 z hz
        unfold GM.isB at this
        omega, kQ⟩
    · intro H1 pas kvss s1 hD1 hPk hR
      refine ⟨_, rfl, a, CM, dx, _, _, rfl, s1 _ _ hm, T2.cl, T2.nR, mf_rows _ _ _, _, rfl, b, CM, dy, _, _, rfl, s1 _ _ hn, T2.cl, T2.nC, mf_cols _ _ _, _, rfl, a, CM, dx, _, _, rfl, s1 _ _ hm, T2.cl, T2.nL, mf_lines _ _ _, L, rfl, ⟨_, SqL.of (s1 _ _ hL)⟩, fun E hE => ?_⟩
      refine lc_lines (prodR n.cols sh n.row) (s1 _ _ hL) (hLs.mono s1) hE (by omega) ?_ ?_
      · intro i b' r H' Q' hb hrr s2 kQ
        have hrl := dim.row r (List.mem_of_getElem? hrr)
        exact ⟨rfl, _, rfl, _, rfl, _, rfl, b', D, r, n.row, pas, kvss, n.cols, sh, rfl, ((paired_both hLs hrr hb).mono s1).mono s2, s2 _ _ hD1, hPk.mono s2, hR, by omega, by omega, dimN.cols, (mok.row r (List.mem_of_getElem? hrr)).2, fun x hx => ⟨dimN.row x hx, (nok.row x hx).2⟩, hsh, kQ⟩
      · intro H2 ds s2 hE2 hLn
        refine fun x dxm nx ndx nex => ⟨x, dxm, _, _, _, rfl, upd_same, rfl, ?_⟩
        have hrow := GM.product_row m n sh dim.len dim.row
        obtain ⟨sm, hmat⟩ := mat_new (CM := CM) (m := Ql89.product m n sh) nx ndx ⟨ds, hE2, by rw [hrow]; exact hLn⟩
        exact k x _ ((s1.trans s2).trans sm) hmat
def spFewPro (K : PySem.W.Frag) : Sp := fun vs H Q _ => ∃ (sh most : Int) (a b : Addr) (s t : List Int), vs = [.int sh, .int most, .ref a, .ref b] ∧ Src K H a s ∧ Src K H b t ∧ (GM.inForm most → most ≤ 400000) ∧ ∀ L H', H' L = some (.lst ((PyQl89.few_product sh most s t).map V.int)) → Q (.ref L) H'
theorem scFPro : FnScope ["sh", "most", "a", "b", "first", "second"] ["sh", "most", "a", "b"] (defScope sFew) := ⟨rfl, rfl, rfl, by decide +kernel, rfl, by decide +kernel, by decide +kernel⟩
theorem ok_fpro {f fO fS fN fA fSh : Addr} {fd fdO fdS fdN fdA fdSh : FuncData} (F : Fun K "few_product" "few_product" sFew f fd) (T : Txt K mg C CR fF) (T2 : Txt2 K mg CM) (hmax : mg "max" = none) (hbytes : ∃ t, mg "MOST_BYTES" = some (.int 2097152 t)) (hshift : ∃ t, mg "MOST_SHIFT" = some (.int 30 t)) (O : OutFn P w K mg base fO fdO)
    (SF : GFn P w K mg base CX0 2 "shape_fits" fSh fdSh ["rows", "columns"] spShape) (SM : GFn P w K mg base CX0 10 "sound_matrix" fS fdS ["data"] (spSM K CM)) (PR : GFn P w K mg base CX0 4 "product" fN fdN ["a", "b", "shift"] (spPro CM)) (FA : GFn P w K mg base CX0 4 "form_answer" fA fdA ["matrix", "most"] (spFAn CM)) :
    FnOk P w K mg base CX0 11 f fd ["sh", "most", "a", "b"] (spFewPro K) := by
  refine F.ok scFPro (fun vs H Q E h => ?_) (fun cdv A outer st H vs Q E hr h => ?_)
  · obtain ⟨sh, most, a, b, s, t, rfl, _⟩ := h
    rfl
  · obtain ⟨sh, most, a, b, s, t, rfl, S, S', hmost, k⟩ := h
    have hr1 : Room 1 _ := hr.mono (by decide)
    have hr2 : Room 2 _ := hr.mono (by decide)
    have hr4 : Room 4 _ := hr.mono (by decide)
    rw [GM.product_eq sh most s t S.len S'.len] at k
    refine ⟨_, pss_cons (ps_if (PW.pt (pw_or (pt_cmpR op_gt (pe_callB (call_max2 rfl) (by rfl) hmax PyProof.Rows.boot_max (pa_cons (pe_callB call_len_seq (by rfl) T.len PySem.boot_len (pa_cons (pv 2) pa_nil)) (pa_cons (pe_callB call_len_seq (by rfl) T.len PySem.boot_len (pa_cons (pv 3) pa_nil)) pa_nil))) (pe_const hbytes rfl) (nomark _)) (pw_or (pt_truth (pe_call O.ok hr1 rfl O.glo O.kp O.b .nil pass0 (pa_cons (pv 1) (pa_cons pe_int (pa_cons (pe_const hbytes rfl) pa_nil)))) (fun _ => rfl))
        (pw_or1 (pt_truth (pe_call O.ok hr1 rfl O.glo O.kp O.b .nil pass0 (pa_cons (pv 0) (pa_cons pe_int (pa_cons (pe_const hshift rfl) pa_nil)))) (fun _ => rfl)))))) (pss_one (ps_ret (pe_lst (pa_cons (pe_un un_neg pe_int) pa_nil)))) pss_nil)
      (pss_cons (ps_set (i := 4) scFPro.nd rfl (Or.inl rfl) (pe_call SM.ok hr rfl SM.glo SM.kp SM.b .nil pass0 (pa_cons (pv 2) pa_nil)))
      (pss_cons (ps_set (i := 5) scFPro.nd rfl (Or.inl rfl) (pe_call SM.ok hr rfl SM.glo SM.kp SM.b .nil pass0 (pa_cons (pv 3) pa_nil)))
      (pss_cons (ps_if (PW.pt (pw_or (pt_cmpR op_isN (pv 4) pe_non (nomark _)) (pw_or1 (pt_cmpR op_isN (pv 5) pe_non (nomark _))))) (pss_one (ps_ret (pe_lst (pa_cons (pe_un un_neg pe_int) pa_nil)))) pss_nil)
      (pss_cons (ps_if (PW.pt (pw_or (pt_cmpR op_ne (pe_fld (pv 4) rfl) (pe_fld (pv 5) rfl) (nomark _)) (pw_or1 (pt_not (pt_truth (pe_call SF.ok hr2 rfl SF.glo SF.kp SF.b .nil pass0 (pa_cons (pe_fld (pv 4) rfl) (pa_cons (pe_fld (pv 5) rfl) pa_nil))) (fun _ => rfl)))))) (pss_one (ps_ret (pe_lst (pa_cons (pe_un un_neg pe_int) pa_nil)))) pss_nil)
      (pss_one (ps_ret (pe_call FA.ok hr4 rfl FA.glo FA.kp FA.b .nil pass0 (pa_cons (pe_call PR.ok hr4 rfl PR.glo PR.kp PR.b .nil pass0 (pa_cons (pv 4) (pa_cons (pv 5) (pa_cons (pv 0) pa_nil)))) (pa_cons (pv 1) pa_nil))))))))), ?_⟩
    have hlen : (s.map V.int).length = s.length := List.length_map _
    have hlen' : (t.map V.int).length = t.length := List.length_map _
    refine ⟨_, rfl, a, _, rfl, .inl S.ls, _, rfl, b, _, rfl, .inl S'.ls, _, _, rfl, _, _, rfl, rfl, _, rfl, ?_⟩
    rw [hlen, hlen']
    refine ite2 (fun hc => ?_) (fun hc => ?_)
    · have hc := of_decide_eq_true hc
      have := S.len
      have := S'.len
      split at hc <;> omega
    refine ⟨_, rfl, _, _, _, rfl, _, rfl, ?_⟩
    refine ite2 (fun hc => ?_) (fun hc => ?_)
    · have hc := of_decide_eq_true hc
      rw [if_neg (fun z => by have := z.1; unfold GM.inForm at this; omega)] at k
      refine iteT ?_
      refine ⟨_, rfl, by show 1 ≤ sizeLine; decide, fun L' hL' => k L' _ ?_⟩
      rw [upd_same]
      rfl
    have hc : ¬ (most < 0 ∨ 2097152 < most) := fun z => hc (decide_eq_true z)
    have hin : GM.inForm most := by unfold GM.inForm; omega
    have hmost := hmost hin
    refine ⟨_, rfl, _, _, _, rfl, _, rfl, ?_⟩
    refine ite2 (fun hd => ?_) (fun hd => ?_)
    · have hd := of_decide_eq_true hd
      rw [if_neg (fun z => by have := z.2; omega)] at k
      refine ⟨_, rfl, by show 1 ≤ sizeLine; decide, fun L' hL' => k L' _ ?_⟩
      rw [upd_same]
      rfl
    have hd : ¬ (sh < 0 ∨ 30 < sh) := fun z => hd (decide_eq_true z)
    rw [if_pos ⟨hin, by omega⟩] at k
    have k : ∀ L H', H' L = some (.lst ((GM.ofWhole (readW s) fun x => GM.ofWhole (readW t) fun y => if x.cols ≠ y.rows ∨ 1048576 < x.rows * y.cols then [-3] else GM.given most (Ql89.product x y sh.toNat)).map V.int)) → Q (.ref L) H' := k
    refine ⟨_, rfl, a, s, rfl, S, ?_⟩
    cases hw : readW s with
    | error fl =>
      rw [hw] at k
      intro H2 s2
      refine ⟨_, rfl, b, t, rfl, S'.mono s2, ?_⟩
      cases hw' : readW t with
      | error fl' =>
        intro H3 s3
        refine ⟨_, rfl, rfl, _, rfl, iteT (iteT ?_)⟩
        refine ⟨_, rfl, by show 1 ≤ sizeLine; decide, fun L' hL' => k L' _ ?_⟩
        rw [upd_same]
        rfl
      | ok m =>
        intro am H3 s3 _ hM dim mok
        refine ⟨_, rfl, rfl, _, rfl, iteT (iteT ?_)⟩
        refine ⟨_, rfl, by show 1 ≤ sizeLine; decide, fun L' hL' => k L' _ ?_⟩
        rw [upd_same]
        rfl
    | ok m =>
      rw [hw] at k
      intro am H2 s2 _ hM dim mok
      refine ⟨_, rfl, b, t, rfl, S'.mono s2, ?_⟩
      cases hw' : readW t with
      | error fl' =>
        rw [hw'] at k
        intro H3 s3
        refine ⟨_, rfl, rfl, _, rfl, ite2 (fun z => ?_) (fun _ => ?_)⟩
        · have z := of_decide_eq_true z
          cases z
        refine ⟨_, rfl, rfl, _, rfl, iteT ?_⟩
        refine ⟨_, rfl, by show 1 ≤ sizeLine; decide, fun L' hL' => k L' _ ?_⟩
        rw [upd_same]
        rfl
      | ok n =>
        rw [hw'] at k
        have k : ∀ L H', H' L = some (.lst ((if m.cols ≠ n.rows ∨ 1048576 < m.rows * n.cols then [-3] else GM.given most (Ql89.product m n sh.toNat)).map V.int)) → Q (.ref L) H' := k
        intro bm H3 s3 _ hN dimN nok
        have hM3 := hM.mono s3
        obtain ⟨dx, L, hm, hL⟩ := id hM3
        obtain ⟨dy, L2, hn, hL2⟩ := id hN
        have hrm := dim.rows
        have hcn := dimN.cols
        have key : ∀ a b : Nat, ((!decide (V.int (a : Int) = V.int (b : Int))) = true ↔ a ≠ b) := fun a b => by
          rw [Bool.not_eq_true', decide_eq_false_iff_not]
          constructor
          · intro h z; exact h (by rw [z])
          · intro h z
            injection z with z
            exact h (by omega)
        refine ⟨_, rfl, rfl, _, rfl, ite2 (fun z => ?_) (fun _ => ?_)⟩
        · have z := of_decide_eq_true z
          cases z
        refine ⟨_, rfl, rfl, _, rfl, ite2 (fun z => ?_) (fun _ => ?_)⟩
        · have z := of_decide_eq_true z
          cases z
        refine ⟨_, rfl, am, CM, dx, _, _, rfl, hm, T2.cl, T2.nC, mf_cols _ _ _, _, rfl, bm, CM, dy, _, _, rfl, hn, T2.cl, T2.nR, mf_rows _ _ _, rfl, _, rfl, ?_⟩
        refine ite2 (fun he => ?_) (fun he => ?_)
        · rw [if_pos (.inl ((key _ _).mp he))] at k
          refine iteT ?_
          refine ⟨_, rfl, by show 1 ≤ sizeLine; decide, fun L' hL' => k L' _ ?_⟩
          rw [upd_same]
          rfl
        have he : m.cols = n.rows := by
          by_cases z : m.cols = n.rows
          · exact z
          · exact absurd ((key _ _).mpr z) he
        refine ⟨_, rfl, am, CM, dx, _, _, rfl, hm, T2.cl, T2.nR, mf_rows _ _ _, _, rfl, bm, CM, dy, _, _, rfl, hn, T2.cl, T2.nC, mf_cols _ _ _, _, _, rfl, _, rfl, ?_⟩
        by_cases hpl : 1048576 < m.rows * n.cols
        · rw [if_pos (.inr hpl)] at k
          refine iteNA (fun z => ?_) ?_
          · have z := z.2.2
            rw [← Int.natCast_mul] at z
            omega
          refine ⟨_, rfl, by show 1 ≤ sizeLine; decide, fun L' hL' => k L' _ ?_⟩
          rw [upd_same]
          rfl
        · rw [if_neg (fun z => z.elim (fun q => q he) hpl)] at k
          refine iteNS ⟨⟨by omega, by omega⟩, ⟨by omega, by omega⟩, by rw [← Int.natCast_mul]; omega⟩ ?_
          have esh : sh = ((sh.toNat : Nat) : Int) := by omega
          refine ⟨_, rfl, _, rfl, _, rfl, am, bm, m, n, sh.toNat, by rw [← esh]; rfl, hM3, hN, dim, dimN, mok, nok, he, by omega, fun c H4 s4 hc4 => ?_⟩
          exact ⟨_, rfl, c, _, most, rfl, hc4, prod_dim dim dimN, hmost, k⟩
end
end Go

set_option Elab.async false
set_option linter.all false
set_option maxRecDepth 100000
namespace Go
open PySem PySem.Spec PyProof.Rows L2
theorem well_ints {P : Params} {h : Heap} : ∀ {ns : List Int} {vs : List Value}, PySem.W.WellAll P h vs (ns.map .int) → IntsAre vs ns
  | [], _, x => by cases x; exact .nil
  | n :: ns, _, x => by
    cases x with
    | cons x1 x2 =>
      cases x1 with
      | int i t => exact .cons n t (well_ints x2)
theorem well_list {P : Params} {h : Heap} {ns : List Int} {v : Value} (x : PySem.W.Well P h v (.list (ns.map .int))) : ∃ a vs, v = .ref a ∧ h.get? a = some { cls := .type "list", data := .seq vs.toArray } ∧ IntsAre vs ns := by
  generalize e : PySem.W.WData.list (ns.map .int) = d at x
  cases x with
  | list h1 h2 =>
    injection e with e
    subst e
    exact ⟨_, _, rfl, h1, well_ints h2⟩
  | _ => cases e
theorem well_int {P : Params} {h : Heap} {n : Int} {v : Value} (x : PySem.W.Well P h v (.int n)) : ∃ t, v = .int n t := by
  generalize e : PySem.W.WData.int n = d at x
  cases x with
  | int i t => injection e with e; subst e; exact ⟨t, rfl⟩
  | _ => cases e
theorem in_ints {least most : Nat} {lo hi : Int} {ns : List Int} (h : (PySem.W.Codec.list least most (.int lo hi)).within ns = true) : ns.length ≤ most ∧ ∀ z ∈ ns, lo ≤ z ∧ z ≤ hi := by
  obtain ⟨h1, h2⟩ := PySem.W.Codec.and_of h
  refine ⟨(PySem.W.Codec.inNat_iff.mp h1).2, fun z hz => ?_⟩
  exact PySem.W.Codec.inInt_iff.mp (List.all_eq_true.mp h2 z hz)
end Go

set_option Elab.async false
set_option linter.all false
set_option maxRecDepth 100000
set_option maxHeartbeats 4000000
namespace Go
open PySem L2
theorem all_mk {P : Program} {w : World} {K : PySem.W.Frag} {h : Heap} {mg : Str → Option Value} {fa C CR CM fF fRI fU fS fUW fNF fO fW fMI fSh fM fL fB fE fWM fSM fHM fBC fLi fFSz fLB fFB fFA fHD fHL fNE fPA fSP fPL fPR fQ : Addr} (X : K.In h) (G : h.Ns mainGlobals mg)
    {xnm xq : Str} {xN : Addr} {xbs : List Value} {xsn : List Str} {xsub : List Value} {xab : Bool} {xcol : Option Bool} {xdd : Option Addr} {xk0 xk1 xk2 xk3 xk5 : Option Value}
    {odF anF odRI anRI odU anU odS anS odUW anUW odNF anNF odO anO odW anW odMI anMI odSh anSh odM anM odL anL odB anB odE anE odWM anWM odSM anSM odHM anHM odBC anBC odLi anLi odFSz anFSz odLB anLB odFB anFB odFA anFA odHD anHD odHL anHL odNE anNE odPA anPA odSP anSP odPL anPL odPR anPR odQ anQ : Option Addr} {slF slRI slU slS slUW slNF slO slW slMI slSh slM slL slB slE slWM slSM slHM slBC slLi slFSz slLB slFB slFA slHD slHL slNE slPA slSP slPL slPR slQ : Array (Option Value)} {ocF kVF dcF pmF cdF ctF ocRI kVRI dcRI pmRI cdRI ctRI ocU kVU dcU pmU cdU ctU ocS kVS dcS pmS cdS ctS ocUW kVUW dcUW pmUW cdUW ctUW ocNF kVNF dcNF pmNF cdNF ctNF ocO kVO dcO pmO cdO ctO ocW kVW dcW pmW cdW ctW ocMI kVMI dcMI pmMI cdMI ctMI ocSh kVSh dcSh pmSh cdSh ctSh ocM kVM dcM pmM cdM ctM ocL kVL dcL pmL cdL ctL ocB kVB dcB pmB cdB ctB ocE kVE dcE pmE cdE ctE ocWM kVWM dcWM pmWM cdWM ctWM ocSM kVSM dcSM pmSM cdSM ctSM ocHM kVHM dcHM pmHM cdHM ctHM ocBC kVBC dcBC pmBC cdBC ctBC ocLi kVLi dcLi pmLi cdLi ctLi ocFSz kVFSz dcFSz pmFSz cdFSz ctFSz ocLB kVLB dcLB pmLB cdLB ctLB ocFB kVFB dcFB pmFB cdFB ctFB ocFA kVFA dcFA pmFA cdFA ctFA ocHD kVHD dcHD pmHD cdHD ctHD ocHL kVHL dcHL pmHL cdHL ctHL ocNE kVNE dcNE pmNE cdNE ctNE ocPA kVPA dcPA pmPA cdPA ctPA ocSP kVSP dcSP pmSP cdSP ctSP ocPL kVPL dcPL pmPL cdPL ctPL ocPR kVPR dcPR pmPR cdPR ctPR ocQ kVQ dcQ pmQ cdQ ctQ : Value}
    {t_MOST_ROWS t_MOST_COLUMNS t_MOST_PLACES t_BLOCK t_MOST_BYTES t_BYTE_TOP t_SLOT_BITS t_SLOT_COUNT t_SLOT_HALF t_MOST_SHIFT : Tok}
    (gC : PySem.W.nsIn K mainGlobals "Fault" = some (some (.ref C)))
    (xo : K.lookup C = some (excClassObj xnm xq C xN xbs bmE true xsn xsub xab xcol xdd xk0 xk1 xk2 xk3 xk5 "Exception.__new__"))
    (xn : PySem.W.nsOkIn K xN = true)
    (xi : PySem.W.nsIn K xN "__init__" = some (some (.ref fF)))
    (xa0 : PySem.W.nsIn K xN "__setattr__" = some none)
    (xa1 : PySem.W.nsIn K xN "__getattribute__" = some none)
    (xa2 : PySem.W.nsIn K xN "__getattr__" = some none)
    (xa3 : PySem.W.nsIn K xN "place" = some none)
    (xa4 : PySem.W.nsIn K xN "kind" = some none)
    (iF : PySem.W.isFn K (.ref fF) = true)
    (lF : K.lookup fF = some ⟨ocF, odF, .func (PySem.W.fnOf "__init__" "Fault.__init__" (defArgs sFI) (defBody sFI) (defScope sFI) .none kVF dcF pmF anF cdF ctF), slF⟩)
    (cF : PySem.W.codeIn K cdF "Fault.__init__" = true)
    (kF : PySem.W.keepIn K (.ref fF) = true)
    (kcC : PySem.W.keepIn K (.ref C) = true)
    (xe : PySem.W.exmOne K (.ref C) (.ref C) = some true)
    (gCR : PySem.W.nsIn K mainGlobals "Reader" = some (some (.ref CR)))
    (pgCR : PySem.W.plainGet K CR Str.empty = true)
    (hdCR : PySem.W.hasDictIn K CR = true)
    (poCR : PySem.W.plainOver K CR = true)
    (saCR : PySem.W.findIn K (.ref CR) "__setattr__" = some (some (.builtin "object.__setattr__")))
    (mkCR : PySem.W.makesIn K CR = true)
    (kcCR : PySem.W.keepIn K (.ref CR) = true)
    (nCR0 : PySem.W.findIn K (.ref CR) "data" = some none)
    (nCR1 : PySem.W.findIn K (.ref CR) "at" = some none)
    (aRI : PySem.W.findIn K (.ref CR) "__init__" = some (some (.ref fRI)))
    (iRI : PySem.W.isFn K (.ref fRI) = true)
    (lRI : K.lookup fRI = some ⟨ocRI, odRI, .func (PySem.W.fnOf "__init__" "Reader.__init__" (defArgs sRI) (defBody sRI) (defScope sRI) .none kVRI dcRI pmRI anRI cdRI ctRI), slRI⟩)
    (cRI : PySem.W.codeIn K cdRI "Reader.__init__" = true)
    (kRI : PySem.W.keepIn K (.ref fRI) = true)
    (aU : PySem.W.findIn K (.ref CR) "unsigned" = some (some (.ref fU)))
    (iU : PySem.W.isFn K (.ref fU) = true)
    (lU : K.lookup fU = some ⟨ocU, odU, .func (PySem.W.fnOf "unsigned" "Reader.unsigned" (defArgs sU) (defBody sU) (defScope sU) .none kVU dcU pmU anU cdU ctU), slU⟩)
    (cU : PySem.W.codeIn K cdU "Reader.unsigned" = true)
    (kU : PySem.W.keepIn K (.ref fU) = true)
    (aS : PySem.W.findIn K (.ref CR) "signed" = some (some (.ref fS)))
    (iS : PySem.W.isFn K (.ref fS) = true)
    (lS : K.lookup fS = some ⟨ocS, odS, .func (PySem.W.fnOf "signed" "Reader.signed" (defArgs sS) (defBody sS) (defScope sS) .none kVS dcS pmS anS cdS ctS), slS⟩)
    (cS : PySem.W.codeIn K cdS "Reader.signed" = true)
    (kS : PySem.W.keepIn K (.ref fS) = true)
    (aUW : PySem.W.findIn K (.ref CR) "unsigned_within" = some (some (.ref fUW)))
    (iUW : PySem.W.isFn K (.ref fUW) = true)
    (lUW : K.lookup fUW = some ⟨ocUW, odUW, .func (PySem.W.fnOf "unsigned_within" "Reader.unsigned_within" (defArgs sUW) (defBody sUW) (defScope sUW) .none kVUW dcUW pmUW anUW cdUW ctUW), slUW⟩)
    (cUW : PySem.W.codeIn K cdUW "Reader.unsigned_within" = true)
    (kUW : PySem.W.keepIn K (.ref fUW) = true)
    (aNF : PySem.W.findIn K (.ref CR) "nothing_follows" = some (some (.ref fNF)))
    (iNF : PySem.W.isFn K (.ref fNF) = true)
    (lNF : K.lookup fNF = some ⟨ocNF, odNF, .func (PySem.W.fnOf "nothing_follows" "Reader.nothing_follows" (defArgs sNF) (defBody sNF) (defScope sNF) .none kVNF dcNF pmNF anNF cdNF ctNF), slNF⟩)
    (cNF : PySem.W.codeIn K cdNF "Reader.nothing_follows" = true)
    (kNF : PySem.W.keepIn K (.ref fNF) = true)
    (aO : PySem.W.nsIn K mainGlobals "outside" = some (some (.ref fO)))
    (lO : K.lookup fO = some ⟨ocO, odO, .func (PySem.W.fnOf "outside" "outside" (defArgs sOut) (defBody sOut) (defScope sOut) .none kVO dcO pmO anO cdO ctO), slO⟩)
    (cO : PySem.W.codeIn K cdO "outside" = true)
    (kO : PySem.W.keepIn K (.ref fO) = true)
    (aW : PySem.W.nsIn K mainGlobals "within" = some (some (.ref fW)))
    (lW : K.lookup fW = some ⟨ocW, odW, .func (PySem.W.fnOf "within" "within" (defArgs sW) (defBody sW) (defScope sW) .none kVW dcW pmW anW cdW ctW), slW⟩)
    (cW : PySem.W.codeIn K cdW "within" = true)
    (kW : PySem.W.keepIn K (.ref fW) = true)
    (gCM : PySem.W.nsIn K mainGlobals "Matrix" = some (some (.ref CM)))
    (pgCM : PySem.W.plainGet K CM Str.empty = true)
    (hdCM : PySem.W.hasDictIn K CM = true)
    (poCM : PySem.W.plainOver K CM = true)
    (saCM : PySem.W.findIn K (.ref CM) "__setattr__" = some (some (.builtin "object.__setattr__")))
    (mkCM : PySem.W.makesIn K CM = true)
    (kcCM : PySem.W.keepIn K (.ref CM) = true)
    (nCM0 : PySem.W.findIn K (.ref CM) "rows" = some none)
    (nCM1 : PySem.W.findIn K (.ref CM) "columns" = some none)
    (nCM2 : PySem.W.findIn K (.ref CM) "lines" = some none)
    (aMI : PySem.W.findIn K (.ref CM) "__init__" = some (some (.ref fMI)))
    (iMI : PySem.W.isFn K (.ref fMI) = true)
    (lMI : K.lookup fMI = some ⟨ocMI, odMI, .func (PySem.W.fnOf "__init__" "Matrix.__init__" (defArgs sMI) (defBody sMI) (defScope sMI) .none kVMI dcMI pmMI anMI cdMI ctMI), slMI⟩)
    (cMI : PySem.W.codeIn K cdMI "Matrix.__init__" = true)
    (kMI : PySem.W.keepIn K (.ref fMI) = true)
    (aSh : PySem.W.nsIn K mainGlobals "shape_fits" = some (some (.ref fSh)))
    (lSh : K.lookup fSh = some ⟨ocSh, odSh, .func (PySem.W.fnOf "shape_fits" "shape_fits" (defArgs sShape) (defBody sShape) (defScope sShape) .none kVSh dcSh pmSh anSh cdSh ctSh), slSh⟩)
    (cSh : PySem.W.codeIn K cdSh "shape_fits" = true)
    (kSh : PySem.W.keepIn K (.ref fSh) = true)
    (aM : PySem.W.nsIn K mainGlobals "read_matrix" = some (some (.ref fM)))
    (lM : K.lookup fM = some ⟨ocM, odM, .func (PySem.W.fnOf "read_matrix" "read_matrix" (defArgs sRM) (defBody sRM) (defScope sRM) .none kVM dcM pmM anM cdM ctM), slM⟩)
    (cM : PySem.W.codeIn K cdM "read_matrix" = true)
    (kM : PySem.W.keepIn K (.ref fM) = true)
    (aL : PySem.W.nsIn K mainGlobals "read_line" = some (some (.ref fL)))
    (lL : K.lookup fL = some ⟨ocL, odL, .func (PySem.W.fnOf "read_line" "read_line" (defArgs sRL) (defBody sRL) (defScope sRL) .none kVL dcL pmL anL cdL ctL), slL⟩)
    (cL : PySem.W.codeIn K cdL "read_line" = true)
    (kL : PySem.W.keepIn K (.ref fL) = true)
    (aB : PySem.W.nsIn K mainGlobals "read_block" = some (some (.ref fB)))
    (lB : K.lookup fB = some ⟨ocB, odB, .func (PySem.W.fnOf "read_block" "read_block" (defArgs sRB) (defBody sRB) (defScope sRB) .none kVB dcB pmB anB cdB ctB), slB⟩)
    (cB : PySem.W.codeIn K cdB "read_block" = true)
    (kB : PySem.W.keepIn K (.ref fB) = true)
    (aE : PySem.W.nsIn K mainGlobals "read_entry" = some (some (.ref fE)))
    (lE : K.lookup fE = some ⟨ocE, odE, .func (PySem.W.fnOf "read_entry" "read_entry" (defArgs sRE) (defBody sRE) (defScope sRE) .none kVE dcE pmE anE cdE ctE), slE⟩)
    (cE : PySem.W.codeIn K cdE "read_entry" = true)
    (kE : PySem.W.keepIn K (.ref fE) = true)
    (aWM : PySem.W.nsIn K mainGlobals "whole_matrix" = some (some (.ref fWM)))
    (lWM : K.lookup fWM = some ⟨ocWM, odWM, .func (PySem.W.fnOf "whole_matrix" "whole_matrix" (defArgs sWM) (defBody sWM) (defScope sWM) .none kVWM dcWM pmWM anWM cdWM ctWM), slWM⟩)
    (cWM : PySem.W.codeIn K cdWM "whole_matrix" = true)
    (kWM : PySem.W.keepIn K (.ref fWM) = true)
    (aSM : PySem.W.nsIn K mainGlobals "sound_matrix" = some (some (.ref fSM)))
    (lSM : K.lookup fSM = some ⟨ocSM, odSM, .func (PySem.W.fnOf "sound_matrix" "sound_matrix" (defArgs sSM) (defBody sSM) (defScope sSM) .none kVSM dcSM pmSM anSM cdSM ctSM), slSM⟩)
    (cSM : PySem.W.codeIn K cdSM "sound_matrix" = true)
    (kSM : PySem.W.keepIn K (.ref fSM) = true)
    (aHM : PySem.W.nsIn K mainGlobals "how_many" = some (some (.ref fHM)))
    (lHM : K.lookup fHM = some ⟨ocHM, odHM, .func (PySem.W.fnOf "how_many" "how_many" (defArgs sHM) (defBody sHM) (defScope sHM) .none kVHM dcHM pmHM anHM cdHM ctHM), slHM⟩)
    (cHM : PySem.W.codeIn K cdHM "how_many" = true)
    (kHM : PySem.W.keepIn K (.ref fHM) = true)
    (aBC : PySem.W.nsIn K mainGlobals "block_count" = some (some (.ref fBC)))
    (lBC : K.lookup fBC = some ⟨ocBC, odBC, .func (PySem.W.fnOf "block_count" "block_count" (defArgs sBC) (defBody sBC) (defScope sBC) .none kVBC dcBC pmBC anBC cdBC ctBC), slBC⟩)
    (cBC : PySem.W.codeIn K cdBC "block_count" = true)
    (kBC : PySem.W.keepIn K (.ref fBC) = true)
    (aLi : PySem.W.nsIn K mainGlobals "little" = some (some (.ref fLi)))
    (lLi : K.lookup fLi = some ⟨ocLi, odLi, .func (PySem.W.fnOf "little" "little" (defArgs sLit) (defBody sLit) (defScope sLit) .none kVLi dcLi pmLi anLi cdLi ctLi), slLi⟩)
    (cLi : PySem.W.codeIn K cdLi "little" = true)
    (kLi : PySem.W.keepIn K (.ref fLi) = true)
    (aFSz : PySem.W.nsIn K mainGlobals "form_size" = some (some (.ref fFSz)))
    (lFSz : K.lookup fFSz = some ⟨ocFSz, odFSz, .func (PySem.W.fnOf "form_size" "form_size" (defArgs sFSz) (defBody sFSz) (defScope sFSz) .none kVFSz dcFSz pmFSz anFSz cdFSz ctFSz), slFSz⟩)
    (cFSz : PySem.W.codeIn K cdFSz "form_size" = true)
    (kFSz : PySem.W.keepIn K (.ref fFSz) = true)
    (aLB : PySem.W.nsIn K mainGlobals "line_bytes" = some (some (.ref fLB)))
    (lLB : K.lookup fLB = some ⟨ocLB, odLB, .func (PySem.W.fnOf "line_bytes" "line_bytes" (defArgs sLiB) (defBody sLiB) (defScope sLiB) .none kVLB dcLB pmLB anLB cdLB ctLB), slLB⟩)
    (cLB : PySem.W.codeIn K cdLB "line_bytes" = true)
    (kLB : PySem.W.keepIn K (.ref fLB) = true)
    (aFB : PySem.W.nsIn K mainGlobals "form_bytes" = some (some (.ref fFB)))
    (lFB : K.lookup fFB = some ⟨ocFB, odFB, .func (PySem.W.fnOf "form_bytes" "form_bytes" (defArgs sFB) (defBody sFB) (defScope sFB) .none kVFB dcFB pmFB anFB cdFB ctFB), slFB⟩)
    (cFB : PySem.W.codeIn K cdFB "form_bytes" = true)
    (kFB : PySem.W.keepIn K (.ref fFB) = true)
    (aFA : PySem.W.nsIn K mainGlobals "form_answer" = some (some (.ref fFA)))
    (lFA : K.lookup fFA = some ⟨ocFA, odFA, .func (PySem.W.fnOf "form_answer" "form_answer" (defArgs sFAn) (defBody sFAn) (defScope sFAn) .none kVFA dcFA pmFA anFA cdFA ctFA), slFA⟩)
    (cFA : PySem.W.codeIn K cdFA "form_answer" = true)
    (kFA : PySem.W.keepIn K (.ref fFA) = true)
    (aHD : PySem.W.nsIn K mainGlobals "held" = some (some (.ref fHD)))
    (lHD : K.lookup fHD = some ⟨ocHD, odHD, .func (PySem.W.fnOf "held" "held" (defArgs sHeld) (defBody sHeld) (defScope sHeld) .none kVHD dcHD pmHD anHD cdHD ctHD), slHD⟩)
    (cHD : PySem.W.codeIn K cdHD "held" = true)
    (kHD : PySem.W.keepIn K (.ref fHD) = true)
    (aHL : PySem.W.nsIn K mainGlobals "held_line" = some (some (.ref fHL)))
    (lHL : K.lookup fHL = some ⟨ocHL, odHL, .func (PySem.W.fnOf "held_line" "held_line" (defArgs sHeL) (defBody sHeL) (defScope sHeL) .none kVHL dcHL pmHL anHL cdHL ctHL), slHL⟩)
    (cHL : PySem.W.codeIn K cdHL "held_line" = true)
    (kHL : PySem.W.keepIn K (.ref fHL) = true)
    (aNE : PySem.W.nsIn K mainGlobals "near" = some (some (.ref fNE)))
    (lNE : K.lookup fNE = some ⟨ocNE, odNE, .func (PySem.W.fnOf "near" "near" (defArgs sNear) (defBody sNear) (defScope sNear) .none kVNE dcNE pmNE anNE cdNE ctNE), slNE⟩)
    (cNE : PySem.W.codeIn K cdNE "near" = true)
    (kNE : PySem.W.keepIn K (.ref fNE) = true)
    (aPA : PySem.W.nsIn K mainGlobals "packed_line" = some (some (.ref fPA)))
    (lPA : K.lookup fPA = some ⟨ocPA, odPA, .func (PySem.W.fnOf "packed_line" "packed_line" (defArgs sPaL) (defBody sPaL) (defScope sPaL) .none kVPA dcPA pmPA anPA cdPA ctPA), slPA⟩)
    (cPA : PySem.W.codeIn K cdPA "packed_line" = true)
    (kPA : PySem.W.keepIn K (.ref fPA) = true)
    (aSP : PySem.W.nsIn K mainGlobals "slot_pairs" = some (some (.ref fSP)))
    (lSP : K.lookup fSP = some ⟨ocSP, odSP, .func (PySem.W.fnOf "slot_pairs" "slot_pairs" (defArgs sSlot) (defBody sSlot) (defScope sSlot) .none kVSP dcSP pmSP anSP cdSP ctSP), slSP⟩)
    (cSP : PySem.W.codeIn K cdSP "slot_pairs" = true)
    (kSP : PySem.W.keepIn K (.ref fSP) = true)
    (aPL : PySem.W.nsIn K mainGlobals "product_line" = some (some (.ref fPL)))
    (lPL : K.lookup fPL = some ⟨ocPL, odPL, .func (PySem.W.fnOf "product_line" "product_line" (defArgs sPrL) (defBody sPrL) (defScope sPrL) .none kVPL dcPL pmPL anPL cdPL ctPL), slPL⟩)
    (cPL : PySem.W.codeIn K cdPL "product_line" = true)
    (kPL : PySem.W.keepIn K (.ref fPL) = true)
    (aPR : PySem.W.nsIn K mainGlobals "product" = some (some (.ref fPR)))
    (lPR : K.lookup fPR = some ⟨ocPR, odPR, .func (PySem.W.fnOf "product" "product" (defArgs sProd) (defBody sProd) (defScope sProd) .none kVPR dcPR pmPR anPR cdPR ctPR), slPR⟩)
    (cPR : PySem.W.codeIn K cdPR "product" = true)
    (kPR : PySem.W.keepIn K (.ref fPR) = true)
    (z_len : PySem.W.nsIn K mainGlobals "len" = some none)
    (z_min : PySem.W.nsIn K mainGlobals "min" = some none)
    (z_range : PySem.W.nsIn K mainGlobals "range" = some none)
    (z_reversed : PySem.W.nsIn K mainGlobals "reversed" = some none)
    (z_Exception : PySem.W.nsIn K mainGlobals "Exception" = some none)
    (z_sum : PySem.W.nsIn K mainGlobals "sum" = some none)
    (z_zip : PySem.W.nsIn K mainGlobals "zip" = some none)
    (z_max : PySem.W.nsIn K mainGlobals "max" = some none)
    (z_sorted : PySem.W.nsIn K mainGlobals "sorted" = some none)
    (z_list : PySem.W.nsIn K mainGlobals "list" = some none)
    (v_MOST_ROWS : PySem.W.nsIn K mainGlobals "MOST_ROWS" = some (some (.int 4096 t_MOST_ROWS)))
    (v_MOST_COLUMNS : PySem.W.nsIn K mainGlobals "MOST_COLUMNS" = some (some (.int 4096 t_MOST_COLUMNS)))
    (v_MOST_PLACES : PySem.W.nsIn K mainGlobals "MOST_PLACES" = some (some (.int 1048576 t_MOST_PLACES)))
    (v_BLOCK : PySem.W.nsIn K mainGlobals "BLOCK" = some (some (.int 64 t_BLOCK)))
    (v_MOST_BYTES : PySem.W.nsIn K mainGlobals "MOST_BYTES" = some (some (.int 2097152 t_MOST_BYTES)))
    (v_BYTE_TOP : PySem.W.nsIn K mainGlobals "BYTE_TOP" = some (some (.int 127 t_BYTE_TOP)))
    (v_SLOT_BITS : PySem.W.nsIn K mainGlobals "SLOT_BITS" = some (some (.int 28 t_SLOT_BITS)))
    (v_SLOT_COUNT : PySem.W.nsIn K mainGlobals "SLOT_COUNT" = some (some (.int 268435456 t_SLOT_COUNT)))
    (v_SLOT_HALF : PySem.W.nsIn K mainGlobals "SLOT_HALF" = some (some (.int 134217728 t_SLOT_HALF)))
    (v_MOST_SHIFT : PySem.W.nsIn K mainGlobals "MOST_SHIFT" = some (some (.int 30 t_MOST_SHIFT)))
    (aQ : PySem.W.nsIn K mainGlobals "few_product" = some (some (.ref fQ)))
    (lQ : K.lookup fQ = some ⟨ocQ, odQ, .func (PySem.W.fnOf "few_product" "few_product" (defArgs sFew) (defBody sFew) (defScope sFew) .none kVQ dcQ pmQ anQ cdQ ctQ), slQ⟩)
    (cQ : PySem.W.codeIn K cdQ "few_product" = true)
    (kQ : PySem.W.keepIn K (.ref fQ) = true)
    (hfa : mg "few_product" = some (.ref fa)) : ∃ fd : FuncData, Binds K fd ["sh", "most", "a", "b"] [] ∧ ∀ base : Heap, K.In base → base.Ns mainGlobals mg → FnOk P w K mg base CX0 11 fa fd ["sh", "most", "a", "b"] (spFewPro K) := by
  have FF := fun_mk (st := sFI) lF cF kF
  have bF := FF.binds (ps := ["self", "place", "kind"]) fun _ _ _ _ _ _ us hl => match us, hl with | [_, _, _], _ => rfl
  have FRI := fun_mk (st := sRI) lRI cRI kRI
  have bRI := FRI.binds (ps := ["self", "data"]) fun _ _ _ _ _ _ us hl => match us, hl with | [_, _], _ => rfl
  have FU := fun_mk (st := sU) lU cU kU
  have bU := FU.binds (ps := ["self", "size"]) fun _ _ _ _ _ _ us hl => match us, hl with | [_, _], _ => rfl
  have FS := fun_mk (st := sS) lS cS kS
  have bS := FS.binds (ps := ["self", "size"]) fun _ _ _ _ _ _ us hl => match us, hl with | [_, _], _ => rfl
  have FUW := fun_mk (st := sUW) lUW cUW kUW
  have bUW := FUW.binds (ps := ["self", "size", "low", "high"]) fun _ _ _ _ _ _ us hl => match us, hl with | [_, _, _, _], _ => rfl
  have FNF := fun_mk (st := sNF) lNF cNF kNF
  have bNF := FNF.binds (ps := ["self"]) fun _ _ _ _ _ _ us hl => match us, hl with | [_], _ => rfl
  have FO := fun_mk (st := sOut) lO cO kO
  have bO := FO.binds (ps := ["number", "low", "high"]) fun _ _ _ _ _ _ us hl => match us, hl with | [_, _, _], _ => rfl
  have FW := fun_mk (st := sW) lW cW kW
  have bW := FW.binds (ps := ["number", "low", "high", "start"]) fun _ _ _ _ _ _ us hl => match us, hl with | [_, _, _, _], _ => rfl
  have FMI := fun_mk (st := sMI) lMI cMI kMI
  have bMI := FMI.binds (ps := ["self", "rows", "columns", "lines"]) fun _ _ _ _ _ _ us hl => match us, hl with | [_, _, _, _], _ => rfl
  have FSh := fun_mk (st := sShape) lSh cSh kSh
  have bSh := FSh.binds (ps := ["rows", "columns"]) fun _ _ _ _ _ _ us hl => match us, hl with | [_, _], _ => rfl
  have FM := fun_mk (st := sRM) lM cM kM
  have bM := FM.binds (ps := ["reader"]) fun _ _ _ _ _ _ us hl => match us, hl with | [_], _ => rfl
  have FL := fun_mk (st := sRL) lL cL kL
  have bL := FL.binds (ps := ["reader", "columns"]) fun _ _ _ _ _ _ us hl => match us, hl with | [_, _], _ => rfl
  have FB := fun_mk (st := sRB) lB cB kB
  have bB := FB.binds (ps := ["reader", "first", "wide"]) fun _ _ _ _ _ _ us hl => match us, hl with | [_, _, _], _ => rfl
  have FE := fun_mk (st := sRE) lE cE kE
  have bE := FE.binds (ps := ["reader"]) fun _ _ _ _ _ _ us hl => match us, hl with | [_], _ => rfl
  have FWM := fun_mk (st := sWM) lWM cWM kWM
  have bWM := FWM.binds (ps := ["data"]) fun _ _ _ _ _ _ us hl => match us, hl with | [_], _ => rfl
  have FSM := fun_mk (st := sSM) lSM cSM kSM
  have bSM := FSM.binds (ps := ["data"]) fun _ _ _ _ _ _ us hl => match us, hl with | [_], _ => rfl
  have FHM := fun_mk (st := sHM) lHM cHM kHM
  have bHM := FHM.binds (ps := ["matrix"]) fun _ _ _ _ _ _ us hl => match us, hl with | [_], _ => rfl
  have FBC := fun_mk (st := sBC) lBC cBC kBC
  have bBC := FBC.binds (ps := ["columns"]) fun _ _ _ _ _ _ us hl => match us, hl with | [_], _ => rfl
  have FLi := fun_mk (st := sLit) lLi cLi kLi
  have bLi := FLi.binds (ps := ["number", "size"]) fun _ _ _ _ _ _ us hl => match us, hl with | [_, _], _ => rfl
  have FFSz := fun_mk (st := sFSz) lFSz cFSz kFSz
  have bFSz := FFSz.binds (ps := ["matrix"]) fun _ _ _ _ _ _ us hl => match us, hl with | [_], _ => rfl
  have FLB := fun_mk (st := sLiB) lLB cLB kLB
  have bLB := FLB.binds (ps := ["line", "blocks"]) fun _ _ _ _ _ _ us hl => match us, hl with | [_, _], _ => rfl
  have FFB := fun_mk (st := sFB) lFB cFB kFB
  have bFB := FFB.binds (ps := ["matrix"]) fun _ _ _ _ _ _ us hl => match us, hl with | [_], _ => rfl
  have FFA := fun_mk (st := sFAn) lFA cFA kFA
  have bFA := FFA.binds (ps := ["matrix", "most"]) fun _ _ _ _ _ _ us hl => match us, hl with | [_, _], _ => rfl
  have FHD := fun_mk (st := sHeld) lHD cHD kHD
  have bHD := FHD.binds (ps := ["number", "top"]) fun _ _ _ _ _ _ us hl => match us, hl with | [_, _], _ => rfl
  have FHL := fun_mk (st := sHeL) lHL cHL kHL
  have bHL := FHL.binds (ps := ["pairs"]) fun _ _ _ _ _ _ us hl => match us, hl with | [_], _ => rfl
  have FNE := fun_mk (st := sNear) lNE cNE kNE
  have bNE := FNE.binds (ps := ["a", "b"]) fun _ _ _ _ _ _ us hl => match us, hl with | [_, _], _ => rfl
  have FPA := fun_mk (st := sPaL) lPA cPA kPA
  have bPA := FPA.binds (ps := ["line"]) fun _ _ _ _ _ _ us hl => match us, hl with | [_], _ => rfl
  have FSP := fun_mk (st := sSlot) lSP cSP kSP
  have bSP := FSP.binds (ps := ["column", "total"]) fun _ _ _ _ _ _ us hl => match us, hl with | [_, _], _ => rfl
  have FPL := fun_mk (st := sPrL) lPL cPL kPL
  have bPL := FPL.binds (ps := ["line", "packed_lines", "shift"]) fun _ _ _ _ _ _ us hl => match us, hl with | [_, _, _], _ => rfl
  have FPR := fun_mk (st := sProd) lPR cPR kPR
  have bPR := FPR.binds (ps := ["a", "b", "shift"]) fun _ _ _ _ _ _ us hl => match us, hl with | [_, _, _], _ => rfl
  have FQ := fun_mk (st := sFew) lQ cQ kQ
  have bQ := FQ.binds (ps := ["sh", "most", "a", "b"]) fun _ _ _ _ _ _ us hl => match us, hl with | [_, _, _, _], _ => rfl
  have e := hfa.symm.trans (PySem.W.mg_of X G aQ)
  cases e
  have T : Txt K mg C CR fF := ⟨⟨⟨xnm, xq, xN, xbs, xsn, xsub, xab, xcol, xdd, xk0, xk1, xk2, xk3, xk5, xo, xn, xi, xa0, xa1, xa2, xa3, xa4⟩, iF, kcC, xe⟩, ⟨pgCR, hdCR, poCR, saCR⟩, nCR0, nCR1, PySem.W.mg_of X G gC, PySem.W.mg_none_of X G z_len, PySem.W.mg_none_of X G z_reversed, PySem.W.mg_none_of X G z_Exception⟩
  have T2 : Txt2 K mg CM := ⟨⟨pgCM, hdCM, poCM, saCM⟩, nCM0, nCM1, nCM2, PySem.W.mg_of X G gCM, ⟨_, PySem.W.mg_of X G v_MOST_ROWS⟩, ⟨_, PySem.W.mg_of X G v_MOST_COLUMNS⟩, ⟨_, PySem.W.mg_of X G v_MOST_PLACES⟩, ⟨_, PySem.W.mg_of X G v_BLOCK⟩, PySem.W.mg_none_of X G z_min, PySem.W.mg_none_of X G z_range⟩
  refine ⟨_, bQ, fun base _ _ => ?_⟩
  have GF : FnOk P w K mg base CX0 1 fF _ ["self", "place", "kind"] (spInit C) := ok_FI FF T
  have GU := ok_U (P := P) (w := w) (base := base) FU T GF bF
  have MU : MFn P w K mg base (CXF P w C) 3 CR "unsigned" fU _ ["self", "size"] (spU K C CR) := ⟨⟨aU, iU, kU⟩, bU, GU⟩
  have GO : GFn P w K mg base CX0 1 "outside" fO _ ["number", "low", "high"] spOut := ⟨PySem.W.mg_of X G aO, kO, bO, ok_out FO⟩
  have WW : GFn P w K mg base (CXF P w C) 3 "within" fW _ ["number", "low", "high", "start"] (spW C) := ⟨PySem.W.mg_of X G aW, kW, bW, ok_W FW T GF bF GO⟩
  have MS : MFn P w K mg base (CXF P w C) 4 CR "signed" fS _ ["self", "size"] (spS K C CR) := ⟨⟨aS, iS, kS⟩, bS, ok_S FS T MU⟩
  have MUW : MFn P w K mg base (CXF P w C) 4 CR "unsigned_within" fUW _ ["self", "size", "low", "high"] (spUW K C CR) := ⟨⟨aUW, iUW, kUW⟩, bUW, ok_UW FUW T MU WW⟩
  have MNF : MFn P w K mg base (CXF P w C) 3 CR "nothing_follows" fNF _ ["self"] (spNF K C CR) := ⟨⟨aNF, iNF, kNF⟩, bNF, ok_NF FNF T GF bF⟩
  have GE : GFn P w K mg base (CXF P w C) 5 "read_entry" fE _ ["reader"] (spE K C CR) := ⟨PySem.W.mg_of X G aE, kE, bE, ok_E FE T GF bF MS⟩
  have GB : GFn P w K mg base (CXF P w C) 6 "read_block" fB _ ["reader", "first", "wide"] (spB K C CR) := ⟨PySem.W.mg_of X G aB, kB, bB, ok_B FB T GF bF MU GE⟩
  have GL : GFn P w K mg base (CXF P w C) 7 "read_line" fL _ ["reader", "columns"] (spL K C CR) := ⟨PySem.W.mg_of X G aL, kL, bL, ok_L FL T T2 GB⟩
  have GSh : GFn P w K mg base CX0 2 "shape_fits" fSh _ ["rows", "columns"] spShape := ⟨PySem.W.mg_of X G aSh, kSh, bSh, ok_shape FSh T2 GO⟩
  have GM' : GFn P w K mg base (CXF P w C) 8 "read_matrix" fM _ ["reader"] (spM K C CR CM) := ⟨PySem.W.mg_of X G aM, kM, bM, ok_M FM T T2 GF bF MUW GL ⟨mkCM, aMI, iMI, kcCM⟩ (ok_MI FMI T2) bMI GSh⟩
  have GWM : GFn P w K mg base (CXF P w C) 9 "whole_matrix" fWM _ ["data"] (spWM K C CM) := ⟨PySem.W.mg_of X G aWM, kWM, bWM, ok_WM FWM T (PySem.W.mg_of X G gCR) ⟨mkCR, aRI, iRI, kcCR⟩ (ok_RI FRI T) bRI GM' MNF⟩
  have GSM : GFn P w K mg base CX0 10 "sound_matrix" fSM _ ["data"] (spSM K CM) := ⟨PySem.W.mg_of X G aSM, kSM, bSM, ok_SM FSM T GWM⟩
  have GHM : GFn P w K mg base CX0 1 "how_many" fHM _ ["matrix"] (spHM CM) := ⟨PySem.W.mg_of X G aHM, kHM, bHM, ok_HM FHM T2 (PySem.W.mg_none_of X G z_sum) (PySem.W.mg_none_of X G z_len)⟩
  have GBC : GFn P w K mg base CX0 1 "block_count" fBC _ ["columns"] spBC := ⟨PySem.W.mg_of X G aBC, kBC, bBC, ok_BC FBC T2⟩
  have GLi : GFn P w K mg base CX0 1 "little" fLi _ ["number", "size"] spLit := ⟨PySem.W.mg_of X G aLi, kLi, bLi, ok_Lit FLi (PySem.W.mg_none_of X G z_range)⟩
  have GFS : GFn P w K mg base CX0 2 "form_size" fFSz _ ["matrix"] (spFSz CM) := ⟨PySem.W.mg_of X G aFSz, kFSz, bFSz, ok_FSz FFSz T2 GBC GHM⟩
  have GLB : GFn P w K mg base CX0 2 "line_bytes" fLB _ ["line", "blocks"] spLiB := ⟨PySem.W.mg_of X G aLB, kLB, bLB, ok_LiB FLB T2 (PySem.W.mg_none_of X G z_zip) GLi⟩
  have GFB : GFn P w K mg base CX0 3 "form_bytes" fFB _ ["matrix"] (spFB CM) := ⟨PySem.W.mg_of X G aFB, kFB, bFB, ok_FB FFB T2 GBC GLi GLB⟩
  have GFA : GFn P w K mg base CX0 4 "form_answer" fFA _ ["matrix", "most"] (spFAn CM) := ⟨PySem.W.mg_of X G aFA, kFA, bFA, ok_FAn FFA GFS GFB⟩
  have TP : TxtP mg := ⟨⟨_, PySem.W.mg_of X G v_SLOT_BITS⟩, ⟨_, PySem.W.mg_of X G v_SLOT_COUNT⟩, ⟨_, PySem.W.mg_of X G v_SLOT_HALF⟩, PySem.W.mg_none_of X G z_list, PySem.W.mg_none_of X G z_sorted⟩
  have GHD : GFn P w K mg base CX0 1 "held" fHD _ ["number", "top"] spHeld := ⟨PySem.W.mg_of X G aHD, kHD, bHD, ok_held FHD (PySem.W.mg_none_of X G z_max) (PySem.W.mg_none_of X G z_min)⟩
  have GHL : GFn P w K mg base CX0 2 "held_line" fHL _ ["pairs"] spHeL := ⟨PySem.W.mg_of X G aHL, kHL, bHL, ok_HeL FHL ⟨_, PySem.W.mg_of X G v_BYTE_TOP⟩ GHD⟩
  have GNE : GFn P w K mg base CX0 1 "near" fNE _ ["a", "b"] spNearW := ⟨PySem.W.mg_of X G aNE, kNE, bNE, ok_nearW FNE⟩
  have GPA : GFn P w K mg base CX0 1 "packed_line" fPA _ ["line"] spPaL := ⟨PySem.W.mg_of X G aPA, kPA, bPA, ok_PaL FPA T2 TP⟩
  have GSP : GFn P w K mg base CX0 1 "slot_pairs" fSP _ ["column", "total"] spSlot := ⟨PySem.W.mg_of X G aSP, kSP, bSP, ok_Slot FSP TP⟩
  have GPL : GFn P w K mg base CX0 3 "product_line" fPL _ ["line", "packed_lines", "shift"] spPrL := ⟨PySem.W.mg_of X G aPL, kPL, bPL, ok_PrL FPL T2 TP GSP GNE GHL⟩
  have GPR : GFn P w K mg base CX0 4 "product" fPR _ ["a", "b", "shift"] (spPro CM) := ⟨PySem.W.mg_of X G aPR, kPR, bPR, ok_Pro FPR T2 ⟨mkCM, aMI, iMI, kcCM⟩ (ok_MI FMI T2) bMI GPA GPL⟩
  exact ok_fpro FQ T T2 (PySem.W.mg_none_of X G z_max) ⟨_, PySem.W.mg_of X G v_MOST_BYTES⟩ ⟨_, PySem.W.mg_of X G v_MOST_SHIFT⟩ GO GSh GSM GPR GFA
theorem said : PySem.Challenge.rw_goingon_s08_few_product.wellSaid = true := by decide +kernel
theorem appN (c0 c1 c2 c3 : PySem.W.Codec) (F : PySem.W.Codec.fn Bool [c0, c1, c2, c3]) (x : PySem.W.Codec.denoteAll [c0, c1, c2, c3]) : PySem.W.Codec.app [c0, c1, c2, c3] F x = F x.1 x.2.1 x.2.2.1 x.2.2.2.1 := rfl
theorem hargs (K : PySem.W.Frag) (w : World) (h : Heap) (args : List PySem.W.WData) (vals : List Value) (hp : PySem.Challenge.rw_goingon_s08_few_product.pre args = true) (hw : PySem.W.WellAll w.params h vals args) :
    ∃ (xs : List V) (ls : Lists) (ans : List Int), Vals xs vals ∧ LiesAll h ls ∧ vals.length = 4 ∧ PySem.Challenge.rw_goingon_s08_few_product.post args (.list (ans.map .int)) = true ∧
      ∀ H : Hp, (∀ p ∈ ls, SqL K H p.1 (p.2.2.map V.int)) → spFewPro K xs H (fun v H' => ∃ l, v = .ref l ∧ H' l = some (.lst (ans.map V.int))) fun _ _ _ => False := by
  obtain ⟨x, hin, hask, rfl⟩ := (PySem.W.OpenSpec.pre_iff said args).mp hp
  obtain ⟨sh, most, a, b, u⟩ := x
  dsimp only [PySem.Challenge.rw_goingon_s08_few_product] at hask
  have hask : PyQl89.few_product_asked sh most a b = true := Eq.trans (appN (.int (.negSucc 2147483647) (.ofNat 2147483647)) (.int (.negSucc 2147483647) (.ofNat 2147483647)) (.list 0 100000 (.int (.ofNat 0) (.ofNat 255))) (.list 0 100000 (.int (.ofNat 0) (.ofNat 255))) PyQl89.few_product_asked (sh, most, a, b, u)).symm hask
  have w0 := PySem.W.Codec.and_of hin
  have w1 := PySem.W.Codec.and_of w0.2
  have w2 := PySem.W.Codec.and_of w1.2
  have b_a := in_ints w2.1
  have w3 := PySem.W.Codec.and_of w2.2
  have b_b := in_ints w3.1
  obtain ⟨v0, vs0, rfl, hv0, hw0⟩ := PySem.W.wellAll_cons_inv hw
  obtain ⟨t0, rfl⟩ := well_int (n := sh) hv0
  obtain ⟨v1, vs1, rfl, hv1, hw1⟩ := PySem.W.wellAll_cons_inv hw0
  obtain ⟨t1, rfl⟩ := well_int (n := most) hv1
  obtain ⟨v2, vs2, rfl, hv2, hw2⟩ := PySem.W.wellAll_cons_inv hw1
  obtain ⟨a_a, us_a, rfl, ha_a, hi_a⟩ := well_list (ns := a) hv2
  obtain ⟨v3, vs3, rfl, hv3, hw3⟩ := PySem.W.wellAll_cons_inv hw2
  obtain ⟨a_b, us_b, rfl, ha_b, hi_b⟩ := well_list (ns := b) hv3
  cases hw3
  refine ⟨[.int sh, .int most, .ref a_a, .ref a_b], [(a_a, us_a, a), (a_b, us_b, b)], PyQl89.few_product sh most a b, .cons ⟨_, rfl⟩ (.cons ⟨_, rfl⟩ (.cons rfl (.cons rfl (.nil)))), ⟨fun p z => ?_, fun p z => ?_, fun p z => ?_⟩, rfl, ?_, fun H hH => ?_⟩
  · rcases (show p = (a_a, us_a, a) ∨ p = (a_b, us_b, b) by simpa using z) with rfl | rfl
    · exact ha_a
    · exact ha_b
  · rcases (show p = (a_a, us_a, a) ∨ p = (a_b, us_b, b) by simpa using z) with rfl | rfl
    · exact hi_a
    · exact hi_b
  · rcases (show p = (a_a, us_a, a) ∨ p = (a_b, us_b, b) by simpa using z) with rfl | rfl
    · exact Nat.le_trans b_a.1 (by decide)
    · exact Nat.le_trans b_b.1 (by decide)
  · exact (PySem.W.OpenSpec.post_iff said hin _ []).mpr rfl
  have S_a := hH (a_a, us_a, a) (by simp)
  have S_b := hH (a_b, us_b, b) (by simp)
  exact ⟨sh, most, a_a, a_b, a, b, rfl, ⟨S_a, fun z hz => b_a.2 z hz, b_a.1⟩, ⟨S_b, fun z hz => b_b.2 z hz, b_b.1⟩, GM.room_product hask, fun L H' e => ⟨L, rfl, e⟩⟩
end Go
open PySem PySem.W PyProof.Rows
set_option maxRecDepth 100000 in
set_option maxHeartbeats 0 in
theorem PySem.Challenge.cw_goingon_s08_few_product_holds : PySem.Challenge.rw_goingon_s08_few_product.Holds := by
  w_on; k_headS; (case hw => exact ⟨[.int 0, .int 0, .list [], .list []], by decide +kernel, by decide +kernel⟩)
  k_fillS
  refine L2.spec_walk (r := PySem.Challenge.rw_goingon_s08_few_product) (k := 11) (CX := fun _ _ => L2.CX0) (sp := Go.spFewPro) (ps := ["sh", "most", "a", "b"]) ⟨rfl, by decide, by decide⟩ (fun w h Y => PySem.W.kIn_of Y) ?F Go.hargs (fun _ _ _ _ _ _ z => z)
  case F =>
    intro w mg fa h KX G hmg
    refine' Go.all_mk KX G ?gC ?xo ?xn ?xi ?xa0 ?xa1 ?xa2 ?xa3 ?xa4 ?iF ?lF ?cF ?kF ?kcC ?xe ?gCR ?pgCR ?hdCR ?poCR ?saCR ?mkCR ?kcCR ?nCR0 ?nCR1 ?aRI ?iRI ?lRI ?cRI ?kRI ?aU ?iU ?lU ?cU ?kU ?aS ?iS ?lS ?cS ?kS ?aUW ?iUW ?lUW ?cUW ?kUW ?aNF ?iNF ?lNF ?cNF ?kNF ?aO ?lO ?cO ?kO ?aW ?lW ?cW ?kW ?gCM ?pgCM ?hdCM ?poCM ?saCM ?mkCM ?kcCM ?nCM0 ?nCM1 ?nCM2 ?aMI ?iMI ?lMI ?cMI ?kMI ?aSh ?lSh ?cSh ?kSh ?aM ?lM ?cM ?kM ?aL ?lL ?cL ?kL ?aB ?lB ?cB ?kB ?aE ?lE ?cE ?kE ?aWM ?lWM ?cWM ?kWM ?aSM ?lSM ?cSM ?kSM ?aHM ?lHM ?cHM ?kHM ?aBC ?lBC ?cBC ?kBC ?aLi ?lLi ?cLi ?kLi ?aFSz ?lFSz ?cFSz ?kFSz ?aLB ?lLB ?cLB ?kLB ?aFB ?lFB ?cFB ?kFB ?aFA ?lFA ?cFA ?kFA ?aHD ?lHD ?cHD ?kHD ?aHL ?lHL ?cHL ?kHL ?aNE ?lNE ?cNE ?kNE ?aPA ?lPA ?cPA ?kPA ?aSP ?lSP ?cSP ?kSP ?aPL ?lPL ?cPL ?kPL ?aPR ?lPR ?cPR ?kPR ?z_len ?z_min ?z_range ?z_reversed ?z_Exception ?z_sum ?z_zip ?z_max ?z_sorted ?z_list ?v_MOST_ROWS ?v_MOST_COLUMNS ?v_MOST_PLACES ?v_BLOCK ?v_MOST_BYTES ?v_BYTE_TOP ?v_SLOT_BITS ?v_SLOT_COUNT ?v_SLOT_HALF ?v_MOST_SHIFT ?aQ ?lQ ?cQ ?kQ hmg
    (case gC => k_is); (case xo => k_is); (case xn => kernel_rfl); (case xi => k_is); (case xa0 => k_is); (case xa1 => k_is); (case xa2 => k_is); (case xa3 => k_is); (case xa4 => k_is); (case iF => k_is); (case lF => k_is); (case cF => k_is); (case kF => k_is); (case kcC => k_is); (case xe => first | kts_exm | kernel_rfl); (case gCR => k_is); (case pgCR => k_is); (case hdCR => k_is); (case poCR => k_is); (case saCR => k_is); (case mkCR => k_is); (case kcCR => k_is); (case nCR0 => k_is); (case nCR1 => k_is); (case aRI => k_is); (case iRI => k_is); (case lRI => k_is); (case cRI => k_is); (case kRI => k_is); (case aU => k_is); (case iU => k_is); (case lU => k_is); (case cU => k_is); (case kU => k_is); (case aS => k_is); (case iS => k_is); (case lS => k_is); (case cS => k_is); (case kS => k_is); (case aUW => k_is); (case iUW => k_is); (case lUW => k_is); (case cUW => k_is); (case kUW => k_is); (case aNF => k_is); (case iNF => k_is); (case lNF => k_is); (case cNF => k_is); (case kNF => k_is); (case aO => k_is); (case lO => k_is); (case cO => k_is); (case kO => k_is); (case aW => k_is); (case lW => k_is); (case cW => k_is); (case kW => k_is); (case gCM => k_is); (case pgCM => k_is); (case hdCM => k_is); (case poCM => k_is); (case saCM => k_is); (case mkCM => k_is); (case kcCM => k_is); (case nCM0 => k_is); (case nCM1 => k_is); (case nCM2 => k_is); (case aMI => k_is); (case iMI => k_is); (case lMI => k_is); (case cMI => k_is); (case kMI => k_is); (case aSh => k_is); (case lSh => k_is); (case cSh => k_is); (case kSh => k_is); (case aM => k_is); (case lM => k_is); (case cM => k_is); (case kM => k_is); (case aL => k_is); (case lL => k_is); (case cL => k_is); (case kL => k_is); (case aB => k_is); (case lB => k_is); (case cB => k_is); (case kB => k_is); (case aE => k_is); (case lE => k_is); (case cE => k_is); (case kE => k_is); (case aWM => k_is); (case lWM => k_is); (case cWM => k_is); (case kWM => k_is); (case aSM => k_is); (case lSM => k_is); (case cSM => k_is); (case kSM => k_is); (case aHM => k_is); (case lHM => k_is); (case cHM => k_is); (case kHM => k_is); (case aBC => k_is); (case lBC => k_is); (case cBC => k_is); (case kBC => k_is); (case aLi => k_is); (case lLi => k_is); (case cLi => k_is); (case kLi => k_is); (case aFSz => k_is); (case lFSz => k_is); (case cFSz => k_is); (case kFSz => k_is); (case aLB => k_is); (case lLB => k_is); (case cLB => k_is); (case kLB => k_is); (case aFB => k_is); (case lFB => k_is); (case cFB => k_is); (case kFB => k_is); (case aFA => k_is); (case lFA => k_is); (case cFA => k_is); (case kFA => k_is); (case aHD => k_is); (case lHD => k_is); (case cHD => k_is); (case kHD => k_is); (case aHL => k_is); (case lHL => k_is); (case cHL => k_is); (case kHL => k_is); (case aNE => k_is); (case lNE => k_is); (case cNE => k_is); (case kNE => k_is); (case aPA => k_is); (case lPA => k_is); (case cPA => k_is); (case kPA => k_is); (case aSP => k_is); (case lSP => k_is); (case cSP => k_is); (case kSP => k_is); (case aPL => k_is); (case lPL => k_is); (case cPL => k_is); (case kPL => k_is); (case aPR => k_is); (case lPR => k_is); (case cPR => k_is); (case kPR => k_is); (case z_len => k_is); (case z_min => k_is); (case z_range => k_is); (case z_reversed => k_is); (case z_Exception => k_is); (case z_sum => k_is); (case z_zip => k_is); (case z_max => k_is); (case z_sorted => k_is); (case z_list => k_is); (case v_MOST_ROWS => k_is); (case v_MOST_COLUMNS => k_is); (case v_MOST_PLACES => k_is); (case v_BLOCK => k_is); (case v_MOST_BYTES => k_is); (case v_BYTE_TOP => k_is); (case v_SLOT_BITS => k_is); (case v_SLOT_COUNT => k_is); (case v_SLOT_HALF => k_is); (case v_MOST_SHIFT => k_is); (case aQ => k_is); (case lQ => k_is); (case cQ => k_is); (case kQ => k_is)
