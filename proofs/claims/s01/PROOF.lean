import PyProof.Rows.All
import Wide.All
import OpenK.AllK
import Wide.FinOn
import PyProof.EqAt
import PyProof.EqKinds
import PyProof.TupleCall
import KE.BitLaws
import KE.OsGo
import KE.KDictSum
import PyProof.Rows.SortShellAny
import PyProof.MaxThree
import PyProof.Rows.CountFlat
import Open.SpecLaws
import PySem.Challenge.RW_jobyard_s01_answers
set_option Elab.async false
section
set_option Elab.async false
set_option linter.all false
set_option maxRecDepth 100000
namespace L2
open PySem PySem.Spec PyProof.Rows
abbrev Key := Sum Int Str
def keyIs : Key → Value → Bool
  | .inl k, v => Value.isInt k v
  | .inr x, v => Value.isStrOf x v
def keyH (w : World) : Key → Int
  | .inl k => hashInt k
  | .inr x => hashStr w x
theorem keyIs_shape : ∀ {k : Key} {v : Value}, keyIs k v = true → (∃ i t, k = Sum.inl i ∧ v = Value.int i t) ∨ (∃ x t, k = Sum.inr x ∧ v = Value.str x t)
  | .inl i, v, h => by
    obtain ⟨t, e⟩ := Value.isInt_shape (k := i) (v := v) h
    exact .inl ⟨i, t, rfl, e⟩
  | .inr x, v, h => by
    obtain ⟨t, e⟩ := Value.isStrOf_shape (x := x) (v := v) h
    exact .inr ⟨x, t, rfl, e⟩
theorem keyIs_int (i : Int) (t : Tok) : keyIs (.inl i) (.int i t) = true := by simp [keyIs, Value.isInt]
theorem keyIs_str (x : Str) (t : Tok) : keyIs (.inr x) (.str x t) = true := by simp [keyIs, Value.isStrOf]
theorem key_ll (a b : Int) : decide ((Sum.inl a : Key) = Sum.inl b) = (a == b) := by
  by_cases e : a = b
  · subst e; simp
  · have h : ¬ (Sum.inl a : Key) = Sum.inl b := fun q => e (Sum.inl.inj q)
    rw [decide_eq_false h]
    exact (beq_eq_false_iff_ne.mpr e).symm
theorem key_rr (a b : Str) : decide ((Sum.inr a : Key) = Sum.inr b) = decide (a = b) := by
  by_cases e : a = b
  · subst e; simp
  · have h : ¬ (Sum.inr a : Key) = Sum.inr b := fun q => e (Sum.inr.inj q)
    rw [decide_eq_false h, decide_eq_false e]
theorem key_lr (a : Int) (b : Str) : decide ((Sum.inl a : Key) = Sum.inr b) = false := decide_eq_false (fun q => nomatch q)
theorem key_rl (a : Str) (b : Int) : decide ((Sum.inr a : Key) = Sum.inl b) = false := decide_eq_false (fun q => nomatch q)
def mixKind (prog : Program) (w : World) : PySem.KeyKind prog w Key where
  is := keyIs
  hash := keyH w
  inj := fun v a b ha hb => by
    rcases keyIs_shape ha with ⟨i, t, rfl, rfl⟩ | ⟨x, t, rfl, rfl⟩
    · rcases keyIs_shape hb with ⟨j, u, rfl, e⟩ | ⟨y, u, rfl, e⟩
      · injection e with e1 _; rw [e1]
      · exact nomatch e
    · rcases keyIs_shape hb with ⟨j, u, rfl, e⟩ | ⟨y, u, rfl, e⟩
      · exact nomatch e
      · injection e with e1 _; rw [e1]
  byValue := fun k v h => by
    rcases keyIs_shape h with ⟨i, t, rfl, rfl⟩ | ⟨x, t, rfl, rfl⟩ <;> rfl
  pyHash := fun hv h => by
    rcases keyIs_shape hv with ⟨i, t, rfl, rfl⟩ | ⟨x, t, rfl, rfl⟩
    · exact wpAny_pyHash_int h
    · exact wpAny_pyHash_str h
  eqBool := fun hu hv h => by
    rcases keyIs_shape hu with ⟨i, t, rfl, rfl⟩ | ⟨x, t, rfl, rfl⟩
    · rcases keyIs_shape hv with ⟨j, u, rfl, rfl⟩ | ⟨y, u, rfl, rfl⟩
      · rw [key_ll] at h; exact wpAny_eqBool_int h
      · rw [key_lr] at h; exact SeqAt.EqAt.int_str i t y u _ _ _ _ h
    · rcases keyIs_shape hv with ⟨j, u, rfl, rfl⟩ | ⟨y, u, rfl, rfl⟩
      · rw [key_rl] at h; exact SeqAt.EqAt.str_int x t j u _ _ _ _ h
      · rw [key_rr] at h; exact wpAny_eqBool_str h
  «strs» := fun k x t v h => by
    rcases keyIs_shape h with ⟨i, u, rfl, e⟩ | ⟨y, u, rfl, e⟩
    · exact nomatch e
    · injection e with e1 _
      subst e1
      cases v <;> rfl
theorem mixKind_int (prog : Program) (w : World) (i : Int) (t : Tok) : (mixKind prog w).is (.inl i) (.int i t) = true := keyIs_int i t
theorem mixKind_str (prog : Program) (w : World) (x : Str) (t : Tok) : (mixKind prog w).is (.inr x) (.str x t) = true := keyIs_str x t
end L2
namespace L2
open PySem PySem.Spec PyProof.Rows
inductive V where
  | non | bl (b : Bool) | int (i : Int) | str (x : Str) | byt (b : Array UInt8) | flt (b : UInt64) | ref (a : Addr) | ty (n : String)
  deriving DecidableEq
def RelV : V → Value → Prop
  | .non, u => u = Value.none
  | .bl b, u => u = Value.bool b
  | .int i, u => ∃ t, u = Value.int i t
  | .str x, u => ∃ t, u = Value.str x t
  | .byt b, u => ∃ t, u = Value.bytes b t
  | .flt b, u => ∃ t, u = Value.float b t
  | .ref a, u => u = Value.ref a
  | .ty n, u => u = Value.type n
abbrev Vals : List V → List Value → Prop := Paired RelV
theorem Vals.length {xs : List V} {us : List Value} (r : Vals xs us) : xs.length = us.length := Paired.length r
theorem Vals.get : ∀ {xs : List V} {us : List Value} {i : Nat} {x : V}, Vals xs us → xs[i]? = some x → ∃ u, us[i]? = some u ∧ RelV x u
  | _, _, _, _, .nil, e => by simp at e
  | _, _, 0, _, .cons r _, e => by simp at e; subst e; exact ⟨_, rfl, r⟩
  | _, _, i + 1, x, .cons _ t, e => by
    obtain ⟨u, h1, h2⟩ := Vals.get (i := i) (x := x) t (by simpa using e)
    exact ⟨u, by simpa using h1, h2⟩
theorem Vals.set {x : V} {u : Value} (r : RelV x u) : ∀ {xs : List V} {us : List Value} (i : Nat), Vals xs us → Vals (xs.set i x) (us.set i u)
  | _, _, _, .nil => .nil
  | _, _, 0, .cons _ t => .cons r t
  | _, _, i + 1, .cons q t => .cons q (Vals.set r i t)
theorem Vals.append : ∀ {xs ys : List V} {us ws : List Value}, Vals xs us → Vals ys ws → Vals (xs ++ ys) (us ++ ws)
  | _, _, _, _, .nil, s => s
  | _, _, _, _, .cons r t, s => .cons r (Vals.append t s)
theorem Vals.take : ∀ {xs : List V} {us : List Value} (n : Nat), Vals xs us → Vals (xs.take n) (us.take n)
  | _, _, 0, _ => .nil
  | _, _, _ + 1, .nil => .nil
  | _, _, n + 1, .cons r t => .cons r (Vals.take n t)
theorem Vals.drop : ∀ {xs : List V} {us : List Value} (n : Nat), Vals xs us → Vals (xs.drop n) (us.drop n)
  | _, _, 0, r => r
  | _, _, _ + 1, .nil => .nil
  | _, _, n + 1, .cons _ t => Vals.drop n t
def RelO : Option V → Option Value → Prop
  | some v, some u => RelV v u
  | none, none => True
  | _, _ => False
def KV {κ : Type} : List (κ × V) → List (κ × Value) → Prop := Paired fun (p : κ × V) (q : κ × Value) => p.1 = q.1 ∧ RelV p.2 q.2
def kV : Key → V
  | .inl i => .int i
  | .inr x => .str x
inductive HO where
  /-- a list -/
  | lst (xs : List V)
  /-- a tuple (never changes) -/
  | tup (xs : List V)
  /-- a dict whose keys are ints and texts; one whose keys are tuples of ints and texts (the empty one is both) -/
  | dK (kvs : List (Key × V)) | dT (kvs : List (List Key × V))
  /-- a set of ints: its members, its size -/
  | set (S : Int → Bool) (n : Nat)
  /-- an instance of the class at C, its dict at dx, its attributes -/
  | ins (C dx : Addr) (fs : List (Str × V))
  /-- the dict of the instance at x -/
  | own (x : Addr)
  /-- the dict of an exception -/
  | xd (fs : List (Str × V))
  /-- a bound method, f of x -/
  | met (f x : Addr)
  /-- a range object lo, lo + 1, .. below hi -/
  | rng (lo hi : Int)
  /-- a thing that is known to the object (the script; a dict while a loop walks it): read, never written while it is so -/
  | frz (o : Obj) (u : HO)
  /-- a code object's table -/
  | tbl (ps : Array Value)
  /-- any other thing, by what is true of its one object (a def of one's own: SetO a S n := HO.ext fun h => ..) -/
  | ext (φ : Heap → Prop)
abbrev Hp := Addr → Option HO
def upd (H : Hp) (a : Addr) (o : HO) : Hp := fun b => if b = a then some o else H b
theorem upd_same {H : Hp} {a : Addr} {o : HO} : upd H a o a = some o := by unfold upd; rw [if_pos rfl]
theorem upd_ne {H : Hp} {a b : Addr} {o : HO} (h : b ≠ a) : upd H a o b = H b := by unfold upd; rw [if_neg h]
theorem upd_upd {H : Hp} {a : Addr} {o u : HO} : upd (upd H a o) a u = upd H a u := by
  funext b; unfold upd; split <;> rfl
theorem ne_of {H : Hp} {a b : Addr} {o u : HO} (h : H a = some o) (h' : H b = some u) (d : o ≠ u) : a ≠ b := by
  intro e; subst e; rw [h] at h'; exact d (Option.some.inj h')
theorem ne_of_none {H : Hp} {a b : Addr} {o : HO} (h : H a = some o) (h' : H b = none) : a ≠ b := by
  intro e; subst e; rw [h] at h'; cases h'
section
variable (P : Program) (w : World)
def ObjOk (H : Hp) (h : Heap) (a : Addr) : HO → Prop
  | .lst xs => xs.length ≤ sizeLine ∧ ∃ (its : List Value) (n : Nat), Vals xs its ∧ h.get? a = some { cls := .type "list", data := .seq its.toArray n }
  | .tup xs => xs.length ≤ sizeLine ∧ ∃ its : List Value, Vals xs its ∧ IsTup h a its.toArray
  | .dK kvs => kvs.length ≤ sizeLine ∧ (a == sysModules) = false ∧ ∃ vs, KV kvs vs ∧ h.DictOf (mixKind P w) a vs
  | .dT kvs => kvs.length ≤ sizeLine ∧ (a == sysModules) = false ∧ ∃ xs : List (List Key × Addr × Value),
      Paired (fun (p : List Key × V) (q : List Key × Addr × Value) => p.1 = q.1 ∧ H q.2.1 = some (.tup (p.1.map kV)) ∧ RelV p.2 q.2.2) kvs xs ∧
      ∃ o es ep, h.get? a = some o ∧ o.ExactDict ∧ o.data = .dict es ep ∧ es.toList = xs.map (entryOfKey (tupleKind (mixKind P w))) ∧ (xs.map (·.1)).Nodup
  | .set S n => h.SetOf (intKind P w) a S n
  | .ins C dx fs => H dx = some (.own a) ∧ fs.length ≤ 1000 ∧ dx ≠ a ∧ h.get? a = some (PySem.W.instObj C dx) ∧
      ∃ mA, h.Ns1 dx mA ∧ (∀ f, RelO (fs.lookup f) (mA f)) ∧ PySem.Within mA (fs.map (·.1))
  | .own _ => ∃ o, h.get? a = some o
  | .xd fs => ∃ mA, h.Ns1 a mA ∧ ∀ f, RelO (fs.lookup f) (mA f)
  | .rng lo hi => ∃ t u v, h.get? a = some { cls := .type "range", data := .fields #[.int lo t, .int hi u, .int 1 v] }
  | .frz o u => h.get? a = some o ∧ ObjOk H h a u
  | .tbl ps => h.get? a = some { cls := .none, data := .fields ps }
  | .met f x => h.get? a = some (PySem.W.methodObj (.ref f) (.ref x))
  | .ext φ => φ h ∧ (∃ o, h.get? a = some o) ∧ ∀ h1 h2 : Heap, φ h1 → (∀ o, h1.get? a = some o → h2.get? a = some o) → φ h2
def HOk (H : Hp) (h : Heap) : Prop := ∀ a o, H a = some o → ObjOk P w H h a o
end
section
variable {P : Program} {w : World} {H H' : Hp} {h h' : Heap} {a : Addr} {o : HO}
theorem ObjOk.lt (x : ObjOk P w H h a o) : a < h.objs.size := by
  cases o with
  | lst xs => obtain ⟨_, _, _, _, e⟩ := x; exact Heap.lt_size e
  | tup xs => obtain ⟨_, _, _, p⟩ := x; exact p.lt
  | dK kvs => obtain ⟨_, _, _, _, o, _, _, e, _⟩ := x; exact Heap.lt_size e
  | dT kvs => obtain ⟨_, _, _, _, o, _, _, e, _⟩ := x; exact Heap.lt_size e
  | set S n => obtain ⟨o, _, _, _, e, _⟩ := x; exact Heap.lt_size e
  | ins C dx fs => obtain ⟨_, _, _, e, _⟩ := x; exact Heap.lt_size e
  | own y => obtain ⟨_, e⟩ := x; exact Heap.lt_size e
  | xd fs => obtain ⟨_, ⟨_, _, _, e, _⟩, _⟩ := x; exact Heap.lt_size e
  | rng lo hi => obtain ⟨_, _, _, e⟩ := x; exact Heap.lt_size e
  | frz ob u => obtain ⟨e, _⟩ := x; exact Heap.lt_size e
  | tbl ps => exact Heap.lt_size (show h.get? a = some _ from x)
  | met f y => exact Heap.lt_size (show h.get? a = some _ from x)
  | ext φ => obtain ⟨_, ⟨_, e⟩, _⟩ := x; exact Heap.lt_size e
theorem Paired.mapP {α β : Type} {F G : α → β → Prop} : ∀ {l₁ : List α} {l₂ : List β}, Paired F l₁ l₂ → (∀ a b, F a b → G a b) → Paired G l₁ l₂
  | _, _, .nil, _ => .nil
  | _, _, .cons r t, f => .cons (f _ _ r) (Paired.mapP t f)
theorem ObjOk.stay (x : ObjOk P w H h a o) (k : ∀ b u, (b = a ∨ H b = some (.own a)) → h.get? b = some u → h'.get? b = some u)
    (ho : ∀ b, H b = some (.own a) → H' b = some (.own a)) (ht : ∀ b xs, H b = some (.tup xs) → H' b = some (.tup xs)) : ObjOk P w H' h' a o := by
  induction o with
  | lst xs => obtain ⟨z, its, n, r, e⟩ := x; exact ⟨z, its, n, r, k _ _ (.inl rfl) e⟩
  | tup xs => obtain ⟨z, its, r, ob, e, c⟩ := x; exact ⟨z, its, r, ob, k _ _ (.inl rfl) e, c⟩
  | dK kvs => obtain ⟨z, y, vs, r, ob, es, ep, e, c⟩ := x; exact ⟨z, y, vs, r, ob, es, ep, k _ _ (.inl rfl) e, c⟩
  | dT kvs =>
    obtain ⟨z, y, xs, r, ob, es, ep, e, c⟩ := x
    exact ⟨z, y, xs, Paired.mapP r fun p q z => ⟨z.1, ht _ _ z.2.1, z.2.2⟩, ob, es, ep, k _ _ (.inl rfl) e, c⟩
  | set S n => obtain ⟨ob, es, ep, t, e, c⟩ := x; exact ⟨ob, es, ep, t, k _ _ (.inl rfl) e, c⟩
  | ins C dx fs =>
    obtain ⟨d, z, ne, e, mA, ⟨od, es, ep, e2, c⟩, r⟩ := x
    exact ⟨ho _ d, z, ne, k _ _ (.inl rfl) e, mA, ⟨od, es, ep, k _ _ (.inr d) e2, c⟩, r⟩
  | own y => obtain ⟨ob, e⟩ := x; exact ⟨ob, k _ _ (.inl rfl) e⟩
  | xd fs => obtain ⟨mA, ⟨od, es, ep, e, c⟩, r⟩ := x; exact ⟨mA, ⟨od, es, ep, k _ _ (.inl rfl) e, c⟩, r⟩
  | rng lo hi => obtain ⟨t, u, v, e⟩ := x; exact ⟨t, u, v, k _ _ (.inl rfl) e⟩
  | frz ob u ih => obtain ⟨e, q⟩ := x; exact ⟨k _ _ (.inl rfl) e, ih q⟩
  | tbl ps =>
    have e : h.get? a = some { cls := .none, data := .fields ps } := x
    show h'.get? a = some { cls := .none, data := .fields ps }
    exact k a _ (.inl rfl) e
  | met f y =>
    have e : h.get? a = some (PySem.W.methodObj (.ref f) (.ref y)) := x
    show h'.get? a = some (PySem.W.methodObj (.ref f) (.ref y))
    exact k a _ (.inl rfl) e
  | ext φ => obtain ⟨p, ⟨o, e⟩, st⟩ := x; exact ⟨st _ _ p fun o q => k _ _ (.inl rfl) q, ⟨o, k _ _ (.inl rfl) e⟩, st⟩
theorem HOk.lt (x : HOk P w H h) (e : H a = some o) : a < h.objs.size := (x a o e).lt
theorem HOk.fresh (x : HOk P w H h) (e : h.objs.size ≤ a) : H a = none := by
  cases q : H a with
  | none => rfl
  | some u => exact absurd (Nat.lt_of_lt_of_le (x.lt q) e) (Nat.lt_irrefl _)
theorem HOk.kept (x : HOk P w H h) (k : ∀ b u, h.get? b = some u → h'.get? b = some u) : HOk P w H h' := fun a o e =>
  (x a o e).stay (fun b u _ q => k b u q) (fun _ q => q) fun _ _ q => q
theorem HOk.laid (x : HOk P w H h) (k : ∀ b u, h.get? b = some u → h'.get? b = some u) (hp : h.objs.size ≤ a) (new : ObjOk P w (upd H a o) h' a o) : HOk P w (upd H a o) h' := fun b u e => by
  have hn := x.fresh hp
  by_cases hb : b = a
  · subst hb; rw [upd_same] at e; cases e; exact new
  · rw [upd_ne hb] at e
    exact (x b u e).stay (fun c v _ q => k c v q) (fun c q => by rw [upd_ne (ne_of_none q hn)]; exact q) fun c xs q => by rw [upd_ne (ne_of_none q hn)]; exact q
end
def Rd (H : Hp) (a : Addr) (u : HO) : Prop := H a = some u ∨ ∃ o, H a = some (.frz o u)
theorem Rd.ok {P : Program} {w : World} {H : Hp} {h : Heap} {a : Addr} {u : HO} (r : Rd H a u) (x : HOk P w H h) : ObjOk P w H h a u := by
  rcases r with r | ⟨o, r⟩
  · exact x a u r
  · obtain ⟨_, q⟩ := x a _ r
    exact q
def Mut : Option HO → Prop
  | some (.lst _) => True
  | some (.dK _) => True
  | some (.dT _) => True
  | some (.set _ _) => True
  | some (.ins _ _ _) => True
  | some (.ext _) => True
  | _ => False
section
variable {P : Program} {w : World} {H : Hp} {h h' : Heap} {x e : Addr} {o' : HO}
theorem HOk.write (ok : HOk P w H h) (mu : Mut (H x)) (he : e = x ∨ H e = some (.own x)) (k : ∀ b u, b ≠ e → h.get? b = some u → h'.get? b = some u) (heo : ∃ u, h'.get? e = some u)
    (new : ObjOk P w (upd H x o') h' x o') : HOk P w (upd H x o') h' := fun b u q => by
  have nown : ∀ c y, H c = some (.own y) → c ≠ x := fun c y r z => by subst z; rw [r] at mu; exact mu
  have ntup : ∀ c xs, H c = some (.tup xs) → c ≠ x := fun c xs r z => by subst z; rw [r] at mu; exact mu
  by_cases hb : b = x
  · subst hb; rw [upd_same] at q; cases q; exact new
  · rw [upd_ne hb] at q
    by_cases hbe : b = e
    · have q' : H b = some (.own x) := by
        rcases he with z | z
        · exact absurd (hbe.trans z) hb
        · rw [hbe]; exact z
      rw [q] at q'; cases q'
      obtain ⟨v, hv⟩ := heo
      exact ⟨v, by rw [hbe]; exact hv⟩
    · refine (ok b u q).stay (fun c v hc r => k c v ?_ r) (fun c r => by rw [upd_ne (nown c b r)]; exact r) fun c xs r => by rw [upd_ne (ntup c xs r)]; exact r
      rcases hc with rfl | hc
      · exact hbe
      · rintro rfl
        rcases he with z | z
        · exact nown c b hc z
        · rw [hc] at z; cases z; exact hb rfl
end
structure Un (fs ex : List Addr) (H H' : Hp) (h h' : Heap) : Prop where
  keep : ∀ b o, h.get? b = some o → H b = none → b ∉ fs → b ∉ ex → h'.get? b = some o
  slot : ∀ b o, h.get? b = some o → H b = none → b ∈ fs → b ∉ ex → ∃ sl, h'.get? b = some { o with slots := sl }
  free : ∀ b o, h.get? b = some o → H b = none → b ∉ ex → H' b = none
  there : ∀ b o, h.get? b = some o → b ∉ ex → ∃ o', h'.get? b = some o'
  tups : ∀ b xs, H b = some (.tup xs) → H' b = some (.tup xs)
  frzs : ∀ b o u, H b = some (.frz o u) → H' b = some (.frz o u)
  tbls : ∀ b ps, H b = some (.tbl ps) → ∃ more, H' b = some (.tbl (ps ++ more))
section
variable {fs fs' ex ex' : List Addr} {H H1 H2 : Hp} {h h1 h2 h' : Heap} {a x e : Addr} {o : HO}
theorem Un.any (u : Un fs ex H H1 h h1) {b : Addr} {ob : Obj} (q : h.get? b = some ob) (n : H b = none) (hx : b ∉ ex) : ∃ sl, h1.get? b = some { ob with slots := sl } := by
  by_cases hb : b ∈ fs
  · exact u.slot b ob q n hb hx
  · exact ⟨ob.slots, u.keep b ob q n hb hx⟩
theorem Un.kept (k : ∀ b u, h.get? b = some u → h'.get? b = some u) : Un fs ex H H h h' :=
  ⟨fun b ob q _ _ _ => k b ob q, fun b ob q _ _ _ => ⟨ob.slots, k b ob q⟩, fun _ _ _ n _ => n, fun b ob q _ => ⟨ob, k b ob q⟩, fun _ _ q => q, fun _ _ _ q => q, fun _ ps q => ⟨#[], by rw [q]; simp⟩⟩
theorem Un.refl : Un fs ex H H h h := Un.kept fun _ _ q => q
theorem Un.laid (k : ∀ b u, h.get? b = some u → h'.get? b = some u) (hp : h.objs.size ≤ a) (hn : H a = none) : Un fs ex H (upd H a o) h h' where
  keep := fun b u q _ _ _ => k b u q
  slot := fun b u q _ _ _ => ⟨u.slots, k b u q⟩
  free := fun b u q n _ => by rw [upd_ne (Nat.ne_of_lt (Nat.lt_of_lt_of_le (Heap.lt_size q) hp))]; exact n
  there := fun b u q _ => ⟨u, k b u q⟩
  tups := fun b xs q => by rw [upd_ne (ne_of_none q hn)]; exact q
  frzs := fun b u xs q => by rw [upd_ne (ne_of_none q hn)]; exact q
  tbls := fun b ps q => ⟨#[], by rw [upd_ne (ne_of_none q hn), q]; simp⟩
theorem Un.write (mu : Mut (H x)) (he : e = x ∨ H e = some (.own x)) (k : ∀ b u, b ≠ e → h.get? b = some u → h'.get? b = some u) (heo : ∃ u, h'.get? e = some u) : Un fs ex H (upd H x o) h h' := by
  have hx : ∀ b, H b = none → b ≠ x := fun b n z => by subst z; rw [n] at mu; exact mu
  have hb : ∀ b, H b = none → b ≠ e := fun b n z => by
    subst z
    rcases he with r | r
    · exact hx b n r
    · rw [n] at r; cases r
  have hm : ∀ b u, H b = some u → ¬ Mut (some u) → b ≠ x := fun b u q nm z => by subst z; rw [q] at mu; exact nm mu
  refine ⟨fun b u q n _ _ => k b u (hb b n) q, fun b u q n _ _ => ⟨u.slots, k b u (hb b n) q⟩, fun b u q n _ => by rw [upd_ne (hx b n)]; exact n, fun b u q _ => ?_,
    fun b xs q => by rw [upd_ne (hm b _ q fun z => z)]; exact q, fun b u xs q => by rw [upd_ne (hm b _ q fun z => z)]; exact q, fun b ps q => ⟨#[], by rw [upd_ne (hm b _ q fun z => z), q]; simp⟩⟩
  by_cases hbe : b = e
  · subst hbe; exact heo
  · exact ⟨u, k b u hbe q⟩
end
def trk (h : Heap) (H : Hp) : List Addr := (List.range h.objs.size).filter fun a => (H a).isSome
def hidT (h : Heap) (H : Hp) : Heap := PySem.W.hideAll h (trk h H)
theorem hidT_size (h : Heap) (H : Hp) : (hidT h H).objs.size = h.objs.size := PySem.W.hideAll_size _ _
theorem hidT_get {h : Heap} {H : Hp} {b : Addr} {o : Obj} (e : h.get? b = some o) (n : H b = none) : (hidT h H).get? b = some o :=
  PySem.W.hideAll_get _ e fun hm => by
    have q : (H b).isSome = true := (List.mem_filter.mp hm).2
    rw [n] at q; simp at q
theorem of_hidT {h : Heap} {H : Hp} {b : Addr} {o : Obj} (e : (hidT h H).get? b = some o) : h.get? b = some o ∧ H b = none := by
  have e' : h.get? b = some o := PySem.W.of_hideAll (trk h H) e
  refine ⟨e', ?_⟩
  cases q : H b with
  | none => rfl
  | some x =>
    have hm : b ∈ trk h H := List.mem_filter.mpr ⟨List.mem_range.mpr (Heap.lt_size e'), by simp [q]⟩
    have z : (hidT h H).get? b = none := PySem.W.hideAll_none (trk h H) hm
    rw [z] at e; cases e
end L2
namespace L2
open PySem PySem.Spec PyProof.Rows
structure Mod (K : PySem.W.Frag) (mg : Str → Option Value) (base : Heap) : Prop where
  kin : K.In base
  glob : base.Ns mainGlobals mg
  blt : ∃ mb, base.Ns builtinsNs mb ∧ ∀ x : Str, x ≠ "__name__" → mb x = bootBuiltins x
  nolimit : base.NoLimit
structure Cx where
  prog : Program
  w : World
  K : PySem.W.Frag
  mg : Str → Option Value
  base : Heap
  A : Around
  N : List Str
  s₀ : Shared
  H₀ : Hp
  env : Env
  outer : List Env
  stack : List Env
  ex : List Addr
  fn : Str → Bool
  calm : Bool
  pn : List (Addr × Obj)
  xe : Value → Shared → Prop
def frs (l : List Env) : List Addr := l.filterMap (·.frame)
abbrev Cx.fs (X : Cx) : List Addr := frs X.outer
def Vis (sc : Scope) (x : Str) : Prop := sc.names.lookup x = some .local ∨ sc.names.lookup x = some .cell ∨ sc.names.lookup x = some .free
def Loc (sc : Scope) (x : Str) : Prop := sc.names.lookup x = some .local ∨ sc.names.lookup x = some .cell
def Look (env : Env) (h : Heap) (m : Str → Option Value) (x : Str) (u : Value) : Prop :=
  (env.kindOf x = some .local ∧ m x = some u) ∨ ((env.kindOf x = some .cell ∨ env.kindOf x = some .free) ∧ ∃ c, env.cells.lookup x = some c ∧ h.IsCell c (some u))
structure Cx.Ok (X : Cx) : Prop where
  mod : Mod X.K X.mg X.base
  kind : X.env.scope.kind = .function
  glob : X.env.globals = mainGlobals
  blt : X.env.builtins = builtinsNs
  above : X.s₀.heap.objs.size ≤ X.env.locals
  inj : ∀ x y c, X.env.cells.lookup x = some c → X.env.cells.lookup y = some c → x = y
  has : ∀ x, (X.env.kindOf x = some .cell ∨ X.env.kindOf x = some .free) → ∃ c, X.env.cells.lookup x = some c
  cab : ∀ x c, X.fn x = true → X.env.cells.lookup x = some c → X.s₀.heap.objs.size ≤ c
  hd : X.calm = true → X.A.handled = none
  frames : X.A.frames = some X.stack
  stk : X.stack = X.outer ∨ (X.stack = X.env :: X.outer ∧ X.env.frame = some X.env.locals)
  exf : ∀ b ∈ X.ex, b ≠ X.env.locals ∧ ∀ x c, X.env.cells.lookup x = some c → c ≠ b
  bs : ∀ b o, X.base.get? b = some o → X.s₀.heap.get? b = some o ∧ X.H₀ b = none
  bsz : X.base.objs.size ≤ X.s₀.heap.objs.size
  noex : ∀ b o, X.base.get? b = some o → b ∉ X.ex
  exfs : ∀ b ∈ X.ex, b ∉ X.fs
  funs : X.s₀.heap.FunFrames X.base X.outer
  frf : ∀ b ∈ X.fs, X.H₀ b = none
structure Inv (X : Cx) (pins : List (Addr × Obj)) (σ : List (Option V)) (H : Hp) (s : Shared) : Prop where
  ok : X.Ok
  os : s.os = X.s₀.os
  bare : AllBare s.gens
  base : Un X.fs X.ex X.H₀ H X.s₀.heap s.heap
  loc : ∃ m, s.heap.Ns X.env.locals m ∧ ∀ (i : Nat) (x : Str) (v : V), X.N[i]? = some x → σ[i]? = some (some v) → Vis X.env.scope x → ∃ u, RelV v u ∧ Look X.env s.heap m x u
  cell : ∀ x c, X.env.cells.lookup x = some c → ∃ v, s.heap.IsCell c v
  free : H X.env.locals = none
  freeC : ∀ x c, X.env.cells.lookup x = some c → H c = none
  pin : ∀ p ∈ X.pn ++ pins, s.heap.get? p.1 = some p.2 ∧ H p.1 = none ∧ p.1 ≠ X.env.locals ∧ p.1 ∉ X.fs ∧ ∀ v, p.2.data ≠ .cell v
  hok : HOk X.prog X.w H s.heap
  len : σ.length = X.N.length
section
variable {X : Cx} {pins : List (Addr × Obj)} {σ : List (Option V)} {H H' : Hp} {s : Shared} {h' : Heap}
theorem Cx.Ok.nofr (ok : X.Ok) {b : Addr} {o : Obj} (e : X.base.get? b = some o) : b ∉ X.fs := fun hb => by
  have := (ok.funs.mem hb).1
  rw [e] at this; cases this
theorem Inv.bs (I : Inv X pins σ H s) : ∀ b o, X.base.get? b = some o → s.heap.get? b = some o ∧ H b = none := fun b o e =>
  ⟨I.base.keep b o (I.ok.bs b o e).1 (I.ok.bs b o e).2 (I.ok.nofr e) (I.ok.noex b o e), I.base.free b o (I.ok.bs b o e).1 (I.ok.bs b o e).2 (I.ok.noex b o e)⟩
theorem Inv.bk (I : Inv X pins σ H s) : ∀ b o, X.base.get? b = some o → s.heap.get? b = some o := fun b o e => (I.bs b o e).1
theorem Inv.mod (I : Inv X pins σ H s) : Mod X.K X.mg X.base := I.ok.mod
theorem Inv.kIn (I : Inv X pins σ H s) : X.K.In s.heap := I.ok.mod.kin.keeps I.bk
theorem Inv.lt (I : Inv X pins σ H s) : X.env.locals < s.heap.objs.size := let ⟨_, hn, _⟩ := I.loc; hn.lt
theorem Inv.sz (I : Inv X pins σ H s) : X.s₀.heap.objs.size ≤ s.heap.objs.size := Nat.le_trans I.ok.above (Nat.le_of_lt I.lt)
theorem Inv.nofs (I : Inv X pins σ H s) {a : Addr} (h : s.heap.objs.size ≤ a) : a ∉ X.fs := fun hb => by
  obtain ⟨_, o, ho, _⟩ := I.ok.funs.mem hb
  exact absurd (Nat.lt_of_lt_of_le (Heap.lt_size ho) (Nat.le_trans I.sz h)) (Nat.lt_irrefl _)
theorem Inv.cne (I : Inv X pins σ H s) : ∀ x c, X.env.cells.lookup x = some c → c ≠ X.env.locals := fun x c e z => by
  obtain ⟨v, o, ho, hd⟩ := I.cell x c e
  obtain ⟨m, ⟨o', es, ep, ho', hd', _⟩, _⟩ := I.loc
  rw [z, ho'] at ho; cases ho; rw [hd'] at hd; cases hd
theorem Inv.funs (I : Inv X pins σ H s) : s.heap.FunFrames X.base X.outer := by
  have all : ∀ (l : List Env), (∀ b ∈ frs l, b ∈ X.fs) → X.s₀.heap.FunFrames X.base l → s.heap.FunFrames X.base l := by
    intro l
    induction l with
    | nil => intro _ _; trivial
    | cons env r ih =>
      intro hs hl
      obtain ⟨hk, ⟨L, o, hf, hn, ho, hd⟩, hr⟩ := hl
      have hL : L ∈ X.fs := hs L (by unfold frs; rw [List.filterMap_cons, hf]; exact List.mem_cons_self)
      obtain ⟨sl, e⟩ := I.base.slot L o ho (I.ok.frf L hL) hL fun z => I.ok.exfs L z hL
      exact ⟨hk, ⟨L, _, hf, hn, e, hd⟩, ih (fun b hb => hs b (by unfold frs; rw [List.filterMap_cons, hf]; exact List.mem_cons_of_mem _ hb)) hr⟩
  exact all X.outer (fun _ hb => hb) I.ok.funs
theorem Inv.stack (I : Inv X pins σ H s) : s.heap.FunFrames X.base X.stack := by
  rcases I.ok.stk with e | ⟨e, hf⟩
  · rw [e]; exact I.funs
  · rw [e]
    obtain ⟨m, hn, _⟩ := I.loc
    refine .cons (by rw [I.ok.kind]; decide) hf hn ?_ I.funs
    exact Heap.get?_none_of_le (Nat.le_trans I.ok.bsz I.ok.above)
theorem Inv.stkSub (I : Inv X pins σ H s) : ∀ b ∈ frs X.stack, b ∈ X.env.locals :: X.fs := fun b hb => by
  rcases I.ok.stk with e | ⟨e, hf⟩
  · rw [e] at hb; exact List.mem_cons_of_mem _ hb
  · rw [e] at hb
    unfold frs at hb
    rw [List.filterMap_cons, hf] at hb
    exact hb
theorem Inv.stkFree (I : Inv X pins σ H s) : ∀ b ∈ frs X.stack, H b = none := fun b hb => by
  rcases List.mem_cons.mp (I.stkSub b hb) with e | hb
  · rw [e]; exact I.free
  · obtain ⟨_, o, ho, _⟩ := I.ok.funs.mem hb
    exact I.base.free b o ho (I.ok.frf b hb) fun z => I.ok.exfs b z hb
theorem Inv.step {g' : Array GenState} {t' : Nat} {d' : Drawn} {ch : List Addr} (I : Inv X pins σ H s)
    (hch : ∀ b ∈ ch, (b ∈ X.ex ∨ X.s₀.heap.objs.size ≤ b) ∧ b ≠ X.env.locals ∧ (∀ x c, X.env.cells.lookup x = some c → c ≠ b) ∧ ∀ p ∈ X.pn ++ pins, p.1 ≠ b)
    (keep : ∀ b o, b ≠ X.env.locals → b ∉ X.fs → b ∉ ch → s.heap.get? b = some o → H b = none → h'.get? b = some o)
    (slot : ∀ b o, b ≠ X.env.locals → b ∈ X.fs → b ∉ ch → s.heap.get? b = some o → H b = none → ∃ sl, h'.get? b = some { o with slots := sl }) (free : ∀ b o, b ∉ ch → s.heap.get? b = some o → H b = none → H' b = none)
    (there : ∀ b o, b ∉ ch → s.heap.get? b = some o → ∃ o', h'.get? b = some o')
    (tups : ∀ b xs, H b = some (.tup xs) → H' b = some (.tup xs)) (frzs : ∀ b o u, H b = some (.frz o u) → H' b = some (.frz o u)) (tbls : ∀ b ps, H b = some (.tbl ps) → ∃ more, H' b = some (.tbl (ps ++ more)))
    (ns : ∀ m, s.heap.Ns X.env.locals m → h'.Ns X.env.locals m) (hok : HOk X.prog X.w H' h') (hg : AllBare g') :
    Inv X pins σ H' { s with heap := h', gens := g', drawn := d', toks := t' } := by
  have neL : ∀ b o, X.s₀.heap.get? b = some o → b ≠ X.env.locals := fun b o e => Nat.ne_of_lt (Nat.lt_of_lt_of_le (Heap.lt_size e) I.ok.above)
  have neC : ∀ b o, X.s₀.heap.get? b = some o → b ∉ X.ex → b ∉ ch := fun b o e hx hb => by
    rcases (hch b hb).1 with z | z
    · exact hx z
    · exact absurd (Nat.lt_of_lt_of_le (Heap.lt_size e) z) (Nat.lt_irrefl _)
  have cellK : ∀ x c, X.env.cells.lookup x = some c → ∀ v, s.heap.IsCell c v → h'.IsCell c v := fun x c e v ⟨o, ho, hd⟩ => by
    have nch : c ∉ ch := fun z => (hch c z).2.2.1 x c e rfl
    by_cases hc : c ∈ X.fs
    · obtain ⟨sl, q⟩ := slot c o (I.cne x c e) hc nch ho (I.freeC x c e)
      exact ⟨_, q, hd⟩
    · exact ⟨o, keep c o (I.cne x c e) hc nch ho (I.freeC x c e), hd⟩
  refine ⟨I.ok, I.os, hg, ⟨fun b o e n hb hx => ?_, fun b o e n hb hx => ?_, fun b o e n hx => ?_, fun b o e hx => ?_, fun b xs e => tups b xs (I.base.tups b xs e), fun b o xs e => frzs b o xs (I.base.frzs b o xs e), fun b ps e => ?_⟩, ?_, fun x c e => ?_, ?_, fun x c e => ?_, fun p hp => ?_, hok, I.len⟩
  · exact keep b o (neL b o e) hb (neC b o e hx) (I.base.keep b o e n hb hx) (I.base.free b o e n hx)
  · obtain ⟨sl, e1⟩ := I.base.slot b o e n hb hx
    obtain ⟨sl', e2⟩ := slot b _ (neL b o e) hb (neC b o e hx) e1 (I.base.free b o e n hx)
    exact ⟨sl', e2⟩
  · obtain ⟨o', e1⟩ := I.base.there b o e hx
    exact free b o' (neC b o e hx) e1 (I.base.free b o e n hx)
  · obtain ⟨o', e1⟩ := I.base.there b o e hx
    exact there b o' (neC b o e hx) e1
  · obtain ⟨m1, e1⟩ := I.base.tbls b ps e
    obtain ⟨m2, e2⟩ := tbls b _ e1
    exact ⟨m1 ++ m2, by rw [e2, Array.append_assoc]⟩
  · obtain ⟨m, hn, hl⟩ := I.loc
    refine ⟨m, ns m hn, fun i x v e1 e2 e3 => ?_⟩
    obtain ⟨u, r, l⟩ := hl i x v e1 e2 e3
    refine ⟨u, r, ?_⟩
    rcases l with l | ⟨k, c, e, z⟩
    · exact .inl l
    · exact .inr ⟨k, c, e, cellK x c e _ z⟩
  · obtain ⟨v, z⟩ := I.cell x c e
    exact ⟨v, cellK x c e v z⟩
  · obtain ⟨m, ⟨o, _, _, ho, _⟩, _⟩ := I.loc
    exact free _ o (fun z => (hch _ z).2.1 rfl) ho I.free
  · obtain ⟨v, o, ho, hd⟩ := I.cell x c e
    exact free c o (fun z => (hch c z).2.2.1 x c e rfl) ho (I.freeC x c e)
  · obtain ⟨e, n, ne, nf, d⟩ := I.pin p hp
    have nch : p.1 ∉ ch := fun z => (hch p.1 z).2.2.2 p hp rfl
    exact ⟨keep p.1 p.2 ne nf nch e n, free p.1 p.2 nch e n, ne, nf, d⟩
theorem Inv.un {t' : Nat} (I : Inv X pins σ H s) (u : Un X.fs [] H H' s.heap h') (hok : HOk X.prog X.w H' h') : Inv X pins σ H' { s with heap := h', toks := t' } := by
  obtain ⟨m, ⟨o, es, ep, ho, r⟩, _⟩ := id I.loc
  obtain ⟨sl, hL⟩ := u.any ho I.free (by simp)
  exact I.step (g' := s.gens) (d' := s.drawn) (ch := []) (fun _ z => nomatch z) (fun b o _ hb _ e n => u.keep b o e n hb (by simp)) (fun b o _ hb _ e n => u.slot b o e n hb (by simp)) (fun b o _ e n => u.free b o e n (by simp)) (fun b o _ e => u.there b o e (by simp)) u.tups u.frzs u.tbls (fun m' hm => by
    obtain ⟨o', es', ep', ho', r'⟩ := hm
    rw [ho] at ho'; cases ho'
    exact ⟨_, es', ep', hL, r'⟩) hok I.bare
theorem Inv.call {g' : Array GenState} {t' : Nat} {d' : Drawn} {ch : List Addr} (I : Inv X pins σ H s) (u : Un (frs X.stack) ch H H' s.heap h') (hok : HOk X.prog X.w H' h') (hg : AllBare g')
    (hch : ∀ b ∈ ch, (b ∈ X.ex ∨ X.s₀.heap.objs.size ≤ b) ∧ b ≠ X.env.locals ∧ (∀ x c, X.env.cells.lookup x = some c → c ≠ b) ∧ ∀ p ∈ X.pn ++ pins, p.1 ≠ b) :
    Inv X pins σ H' { s with heap := h', gens := g', drawn := d', toks := t' } := by
  obtain ⟨m, ⟨o, es, ep, ho, r⟩, _⟩ := id I.loc
  obtain ⟨sl, hL⟩ := u.any ho I.free fun z => (hch _ z).2.1 rfl
  exact I.step (ch := ch) hch (fun b o hL hb hc e n => u.keep b o e n (fun z => (List.mem_cons.mp (I.stkSub b z)).elim hL hb) hc) (fun b o _ _ hc e n => u.any e n hc) (fun b o hc e n => u.free b o e n hc) (fun b o hc e => u.there b o e hc) u.tups u.frzs u.tbls (fun m' hm => by
    obtain ⟨o', es', ep', ho', r'⟩ := hm
    rw [ho] at ho'; cases ho'
    exact ⟨_, es', ep', hL, r'⟩) hok hg
theorem Inv.turned {t' : Nat} {it : Addr} (I : Inv X pins σ H s) (k : ∀ b o, b ≠ it → s.heap.get? b = some o → h'.get? b = some o) (hn : H it = none) (hL : it ≠ X.env.locals)
    (h1 : it ∈ X.ex ∨ X.s₀.heap.objs.size ≤ it) (h2 : ∀ x c, X.env.cells.lookup x = some c → c ≠ it) (h3 : ∀ p ∈ X.pn ++ pins, p.1 ≠ it) : Inv X pins σ H { s with heap := h', toks := t' } := by
  have nit : ∀ b u, H b = some u → b ≠ it := fun b u e z => by rw [z, hn] at e; cases e
  refine I.step (g' := s.gens) (d' := s.drawn) (ch := [it]) (fun b hb => ?_) (fun b o _ _ hc e _ => k b o (fun z => hc (by simp [z])) e) (fun b o _ _ hc e _ => ⟨o.slots, k b o (fun z => hc (by simp [z])) e⟩) (fun _ _ _ _ n => n)
    (fun b o hc e => ⟨o, k b o (fun z => hc (by simp [z])) e⟩) (fun _ _ e => e) (fun _ _ _ e => e) (fun b ps e => ⟨#[], by rw [e]; simp⟩) (fun m hm => ?_) (fun b u e => ?_) I.bare
  · have e : b = it := by simpa using hb
    subst e
    exact ⟨h1, hL, h2, h3⟩
  · obtain ⟨o, es, ep, ho, r⟩ := hm
    exact ⟨o, es, ep, k _ o (Ne.symm hL) ho, r⟩
  · refine (I.hok b u e).stay (fun c v hc q => k c v ?_ q) (fun _ q => q) fun _ _ q => q
    rcases hc with z | z
    · rw [z]; exact nit b u e
    · exact nit c _ z
theorem Inv.tok (I : Inv X pins σ H s) (t : Nat) : Inv X pins σ H { s with toks := t } := I.un (h' := s.heap) (t' := t) Un.refl I.hok
theorem Inv.kept {t' : Nat} (I : Inv X pins σ H s) (k : ∀ b u, s.heap.get? b = some u → h'.get? b = some u) : Inv X pins σ H { s with heap := h', toks := t' } := I.un (Un.kept k) (I.hok.kept k)
theorem Inv.laid {a : Addr} {o : HO} {t' : Nat} (I : Inv X pins σ H s) (k : ∀ b u, s.heap.get? b = some u → h'.get? b = some u) (hp : s.heap.objs.size ≤ a) (new : ObjOk X.prog X.w (upd H a o) h' a o) :
    Inv X pins σ (upd H a o) { s with heap := h', toks := t' } := I.un (Un.laid k hp (I.hok.fresh hp)) (I.hok.laid k hp new)
theorem Inv.write {x e : Addr} {o : HO} {t' : Nat} (I : Inv X pins σ H s) (mu : Mut (H x)) (he : e = x ∨ H e = some (.own x)) (k : ∀ b u, b ≠ e → s.heap.get? b = some u → h'.get? b = some u) (heo : ∃ u, h'.get? e = some u)
    (new : ObjOk X.prog X.w (upd H x o) h' x o) : Inv X pins σ (upd H x o) { s with heap := h', toks := t' } := I.un (Un.write mu he k heo) (I.hok.write mu he k heo new)
theorem Inv.weak {σ' : List (Option V)} (I : Inv X pins σ H s) (hl : σ'.length = σ.length) (w : ∀ (i : Nat) v, σ'[i]? = some (some v) → σ[i]? = some (some v)) : Inv X pins σ' H s :=
  ⟨I.ok, I.os, I.bare, I.base, let ⟨m, hn, hl'⟩ := I.loc; ⟨m, hn, fun i x v e1 e2 e3 => hl' i x v e1 (w i v e2) e3⟩, I.cell, I.free, I.freeC, I.pin, I.hok, hl.trans I.len⟩
theorem Inv.pins_of {pins' : List (Addr × Obj)} (I : Inv X pins σ H s) (h : ∀ p ∈ pins', s.heap.get? p.1 = some p.2 ∧ H p.1 = none ∧ p.1 ≠ X.env.locals ∧ p.1 ∉ X.fs ∧ ∀ v, p.2.data ≠ .cell v) : Inv X pins' σ H s :=
  ⟨I.ok, I.os, I.bare, I.base, I.loc, I.cell, I.free, I.freeC, fun p hp => (List.mem_append.mp hp).elim (fun z => I.pin p (List.mem_append_left _ z)) (h p), I.hok, I.len⟩
theorem nodup_ix {N : List Str} (hN : N.Nodup) {i j : Nat} {x : Str} (a : N[i]? = some x) (b : N[j]? = some x) : i = j := by
  obtain ⟨h1, e1⟩ := List.getElem?_eq_some_iff.mp a
  obtain ⟨h2, e2⟩ := List.getElem?_eq_some_iff.mp b
  exact (List.getElem_inj hN).mp (e1.trans e2.symm)
theorem store_ok2 {M : Model} {A : Around} {E : Value → Shared → Prop} {i : Nat} {x : Str} {v : V} {u : Value} {Q : Unit → Shared → Prop} (I : Inv X pins σ H s) (hN : X.N.Nodup) (hi : X.N[i]? = some x) (hx : Loc X.env.scope x) (r : RelV v u)
    (h : ∀ s', Inv X pins (σ.set i (some v)) H s' → (∃ a, Heap.SameBut a s.heap s'.heap ∧ (a = X.env.locals ∨ X.env.cells.lookup x = some a)) → Q () s') (hf : X.fn x = true ∨ X.env.scope.names.lookup x = some .local := by first | exact .inl rfl | exact .inr rfl | assumption) : wpAny M A (storeName X.env x u) Q E s := by
  obtain ⟨m, hn, hl⟩ := id I.loc
  have hcls : (X.env.scope.kind == .class || (X.env.scope.kind == .module && X.env.locals != X.env.globals)) = false := by rw [I.ok.kind]; rfl
  have hiσ : i < σ.length := by rw [I.len]; exact (List.getElem?_eq_some_iff.mp hi).1
  have cne := I.cne
  have tracked : ∀ {a : Addr} {h' : Heap}, (∃ o, s.heap.get? a = some o ∧ H a = none) → Heap.SameBut a s.heap h' → HOk X.prog X.w H h' := fun {a h'} ha hs b ob e => by
    obtain ⟨_, _, hfree⟩ := ha
    refine (I.hok b ob e).stay (fun c w' hc q => (hs.2 c ?_).trans q) (fun _ q => q) fun _ _ q => q
    rintro rfl
    rcases hc with rfl | hc
    · rw [hfree] at e; cases e
    · rw [hfree] at hc; cases hc
  rcases hx with hk | hk
  · refine wpAny_storeName_local hk hn (fun h' hn' hs => ?_) hcls
    obtain ⟨oL, _, _, hoL, _⟩ := id hn
    refine h _ ⟨I.ok, I.os, I.bare, ⟨fun b o e n hb hx => ?_, fun b o e n hb hx => ?_, I.base.free, fun b o e hx => ?_, I.base.tups, I.base.frzs, I.base.tbls⟩, ⟨_, hn', fun j y v' e1 e2 e3 => ?_⟩, fun y c e => ?_, I.free, I.freeC, fun p hp => ?_, tracked ⟨oL, hoL, I.free⟩ hs, by simpa using I.len⟩ ⟨_, hs, .inl rfl⟩
    · exact (hs.2 b (Nat.ne_of_lt (Nat.lt_of_lt_of_le (Heap.lt_size e) I.ok.above))).trans (I.base.keep b o e n hb hx)
    · obtain ⟨sl, e1⟩ := I.base.slot b o e n hb hx
      exact ⟨sl, (hs.2 b (Nat.ne_of_lt (Nat.lt_of_lt_of_le (Heap.lt_size e) I.ok.above))).trans e1⟩
    · obtain ⟨o', e1⟩ := I.base.there b o e hx
      exact ⟨o', (hs.2 b (Nat.ne_of_lt (Nat.lt_of_lt_of_le (Heap.lt_size e) I.ok.above))).trans e1⟩
    · by_cases hj : j = i
      · subst hj
        rw [hi] at e1; cases e1
        rw [List.getElem?_set_self hiσ] at e2
        cases e2
        exact ⟨u, r, .inl ⟨hk, by simp⟩⟩
      · rw [List.getElem?_set_ne (Ne.symm hj)] at e2
        obtain ⟨u', r', q⟩ := hl j y v' e1 e2 e3
        refine ⟨u', r', ?_⟩
        rcases q with ⟨k, e⟩ | ⟨k, c, e, z⟩
        · refine .inl ⟨k, ?_⟩
          have : y ≠ x := fun e => hj (nodup_ix hN e1 (e ▸ hi))
          simp [this, e]
        · exact .inr ⟨k, c, e, z.sameBut hs (cne y c e)⟩
    · obtain ⟨w', z⟩ := I.cell y c e
      exact ⟨w', z.sameBut hs (cne y c e)⟩
    · obtain ⟨e, n, ne, nf, d⟩ := I.pin p hp
      exact ⟨(hs.2 p.1 ne).trans e, n, ne, nf, d⟩
  · have hfn : X.fn x = true := by
      rcases hf with z | z
      · exact z
      · rw [z] at hk; cases hk
    obtain ⟨c, hc⟩ := I.ok.has x (.inl hk)
    obtain ⟨w', z⟩ := I.cell x c hc
    refine wpAny_storeName_cell I.ok.kind hk hc z (fun h' hc' hs => ?_)
    obtain ⟨oc, hoc, hocd⟩ := id z
    refine h { s with heap := h' } ⟨I.ok, I.os, I.bare, ⟨fun b o e n hb hx => ?_, fun b o e n hb hx => ?_, I.base.free, fun b o e hx => ?_, I.base.tups, I.base.frzs, I.base.tbls⟩, ⟨m, hn.sameBut hs (Ne.symm (cne x c hc)), fun j y v' e1 e2 e3 => ?_⟩, fun y c' e => ?_, I.free, I.freeC, fun p hp => ?_, tracked ⟨oc, hoc, I.freeC x c hc⟩ hs, by simpa using I.len⟩ ⟨c, hs, .inr hc⟩
    · exact (hs.2 b (Nat.ne_of_lt (Nat.lt_of_lt_of_le (Heap.lt_size e) (I.ok.cab x c hfn hc)))).trans (I.base.keep b o e n hb hx)
    · obtain ⟨sl, e1⟩ := I.base.slot b o e n hb hx
      exact ⟨sl, (hs.2 b (Nat.ne_of_lt (Nat.lt_of_lt_of_le (Heap.lt_size e) (I.ok.cab x c hfn hc)))).trans e1⟩
    · obtain ⟨o', e1⟩ := I.base.there b o e hx
      exact ⟨o', (hs.2 b (Nat.ne_of_lt (Nat.lt_of_lt_of_le (Heap.lt_size e) (I.ok.cab x c hfn hc)))).trans e1⟩
    · by_cases hj : j = i
      · subst hj
        rw [hi] at e1; cases e1
        rw [List.getElem?_set_self hiσ] at e2
        cases e2
        exact ⟨u, r, .inr ⟨.inl hk, c, hc, hc'⟩⟩
      · rw [List.getElem?_set_ne (Ne.symm hj)] at e2
        obtain ⟨u', r', q⟩ := hl j y v' e1 e2 e3
        refine ⟨u', r', ?_⟩
        rcases q with q | ⟨k, c', e, z'⟩
        · exact .inl q
        · refine .inr ⟨k, c', e, z'.sameBut hs ?_⟩
          rintro rfl
          exact hj (nodup_ix hN e1 (I.ok.inj _ _ _ e hc ▸ hi))
    · by_cases hcc : c' = c
      · subst hcc; exact ⟨_, hc'⟩
      · obtain ⟨w2, z2⟩ := I.cell y c' e
        exact ⟨w2, z2.sameBut hs hcc⟩
    · obtain ⟨e, n, ne, nf, d⟩ := I.pin p hp
      refine ⟨(hs.2 p.1 ?_).trans e, n, ne, nf, d⟩
      intro q
      rw [q, hoc] at e
      have q' : oc = p.2 := Option.some.inj e
      exact d w' (by rw [← q']; exact hocd)
theorem store_ok {M : Model} {A : Around} {E : Value → Shared → Prop} {i : Nat} {x : Str} {v : V} {u : Value} {Q : Unit → Shared → Prop} (I : Inv X pins σ H s) (hN : X.N.Nodup) (hi : X.N[i]? = some x) (hx : Loc X.env.scope x) (r : RelV v u)
    (h : ∀ s', Inv X pins (σ.set i (some v)) H s' → Q () s') (hf : X.fn x = true ∨ X.env.scope.names.lookup x = some .local := by first | exact .inl rfl | exact .inr rfl | assumption) : wpAny M A (storeName X.env x u) Q E s :=
  store_ok2 I hN hi hx r (fun s' I' _ => h s' I') hf
theorem Inv.call' {s' : Shared} {ch : List Addr} (I : Inv X pins σ H s) (ho : s'.os = s.os) (u : Un (frs X.stack) ch H H' s.heap s'.heap) (hok : HOk X.prog X.w H' s'.heap) (hg : AllBare s'.gens)
    (hch : ∀ b ∈ ch, (b ∈ X.ex ∨ X.s₀.heap.objs.size ≤ b) ∧ b ≠ X.env.locals ∧ (∀ x c, X.env.cells.lookup x = some c → c ≠ b) ∧ ∀ p ∈ X.pn ++ pins, p.1 ≠ b) : Inv X pins σ H' s' := by
  obtain ⟨h', g', d', t', o'⟩ := s'
  have e : o' = s.os := ho
  subst e
  exact I.call (g' := g') (t' := t') (d' := d') u hok hg hch
end
abbrev XK := Value → Option Addr → Hp → Prop
abbrev St := List (Option V)
abbrev VK := V → Hp → Prop
abbrev TE := St → Hp → VK → Prop
abbrev TT := St → Hp → (Bool → Hp → Prop) → Prop
abbrev TA := St → Hp → (List V → Hp → Prop) → Prop
structure Ends where
  nx : St → Hp → Prop
  rt : VK
  bk : St → Hp → Prop := fun _ _ => False
  ct : St → Hp → Prop := fun _ _ => False
abbrev TS := Ends → St → Hp → Prop
def EP (X : Cx) (pins : List (Addr × Obj)) (σ : St) (Q : VK) (u : Value) (s' : Shared) : Prop := ∃ v H', Inv X pins σ H' s' ∧ RelV v u ∧ Q v H'
def TP (X : Cx) (pins : List (Addr × Obj)) (σ : St) (Q : Bool → Hp → Prop) (b : Bool) (s' : Shared) : Prop := ∃ H', Inv X pins σ H' s' ∧ Q b H'
def AP (X : Cx) (pins : List (Addr × Obj)) (σ : St) (Q : List V → Hp → Prop) (us : List Value) (s' : Shared) : Prop := ∃ vs H', Inv X pins σ H' s' ∧ Vals vs us ∧ Q vs H'
def SP (X : Cx) (pins : List (Addr × Obj)) (D : Ends) (f : Flow) (s' : Shared) : Prop :=
  match f with
  | .next => ∃ σ' H', Inv X pins σ' H' s' ∧ D.nx σ' H'
  | .brk => ∃ σ' H', Inv X pins σ' H' s' ∧ D.bk σ' H'
  | .cont => ∃ σ' H', Inv X pins σ' H' s' ∧ D.ct σ' H'
  | .ret u => ∃ v σ' H', Inv X pins σ' H' s' ∧ RelV v u ∧ D.rt v H'
def PE (X : Cx) (e : Expr) (t : TE) : Prop :=
  ∀ (pins : List (Addr × Obj)) (s : Shared) (σ : St) (H : Hp) (Q : VK), Inv X pins σ H s → t σ H Q → wpAny (model X.prog X.w) X.A (eval e X.env) (EP X pins σ Q) X.xe s
def PT (X : Cx) (e : Expr) (t : TT) : Prop :=
  ∀ (pins : List (Addr × Obj)) (s : Shared) (σ : St) (H : Hp) (Q : Bool → Hp → Prop), Inv X pins σ H s → t σ H Q → wpAny (model X.prog X.w) X.A (isTrue e X.env (eval e X.env)) (TP X pins σ Q) X.xe s
def PW (X : Cx) (e : Expr) (t : TT) : Prop :=
  ∀ (whole : Sem Value) (pins : List (Addr × Obj)) (s : Shared) (σ : St) (H : Hp) (Q : Bool → Hp → Prop), Inv X pins σ H s → t σ H Q → wpAny (model X.prog X.w) X.A (isTrue e X.env whole) (TP X pins σ Q) X.xe s
theorem PW.pt {X : Cx} {e : Expr} {t : TT} (h : PW X e t) : PT X e t := h _
def PA (X : Cx) (es : List Expr) (t : TA) : Prop :=
  ∀ (pos : Pos) (pins : List (Addr × Obj)) (s : Shared) (σ : St) (H : Hp) (Q : List V → Hp → Prop), Inv X pins σ H s → t σ H Q → wpAny (model X.prog X.w) X.A (spliced (backTo pos (starEach es X.env))) (AP X pins σ Q) X.xe s
def PS (X : Cx) (st : Stmt) (t : TS) : Prop :=
  ∀ (pins : List (Addr × Obj)) (s : Shared) (σ : St) (H : Hp) (D : Ends), Inv X pins σ H s → t D σ H → wpAny (model X.prog X.w) X.A (exec st X.env) (SP X pins D) X.xe s
def PSs (X : Cx) (st : List Stmt) (t : TS) : Prop :=
  ∀ (pins : List (Addr × Obj)) (s : Shared) (σ : St) (H : Hp) (D : Ends), Inv X pins σ H s → t D σ H → wpAny (model X.prog X.w) X.A (execs st X.env) (SP X pins D) X.xe s
theorem thn {α : Type} {t : Sem α} {Q Q' : α → Shared → Prop} {M : Model} {A : Around} {E : Value → Shared → Prop} {s : Shared} (h : wpAny M A t Q E s) (hQ : ∀ a s, Q a s → Q' a s) : wpAny M A t Q' E s := wpAny_mono h hQ fun _ _ x => x
end L2
namespace L2
open PySem PySem.Spec PyProof.Rows
section
variable {X : Cx}
def tVar (i : Nat) : TE := fun σ H Q => ∃ v, σ[i]? = some (some v) ∧ Q v H
def tC (v : V) : TE := fun _ H Q => Q v H
theorem pe_var {i : Nat} {x : Str} {pos : Pos} (hN : X.N[i]? = some x) (hv : Vis X.env.scope x) (hd : (x == ("__debug__" : Str)) = false := by decide) (hcd : (x == ("__classdict__" : Str)) = false := by decide) : PE X (.Name x pos) (tVar i) := by
  intro pins s σ H Q I h
  obtain ⟨v, e, h⟩ := h
  obtain ⟨m, hn, hl⟩ := I.loc
  obtain ⟨u, r, l⟩ := hl i x v hN e hv
  have fin : EP X pins σ Q u s := ⟨v, H, I, r, h⟩
  rcases l with ⟨hk, hm⟩ | ⟨hk, c, hc, hcell⟩
  · exact wpAny_Name (wpAny_loadName_local I.ok.kind hk hn hm fin) hd
  · rcases hk with hk | hk
    · exact wpAny_Name (wpAny_loadName_cell I.ok.kind hk hc hcell fin) hd
    · exact wpAny_Name (wpAny_loadName_free I.ok.kind hk hc hcell fin hcd) hd
theorem pe_int {i j pos} : PE X (.Constant (.int i) j pos) (tC (.int i)) := fun _ _ _ H _ I h => wpAny_Constant_int ⟨.int i, H, I.tok _, ⟨_, rfl⟩, h⟩
def Gl (X : Cx) (x : Str) : Prop := X.env.kindOf x = some .globalImplicit
theorem ld_glob {E : Value → Shared → Prop} {pins : List (Addr × Obj)} {s : Shared} {σ : St} {H : Hp} {x : Str} {u : Value} {pos : Pos} {Q : Value → Shared → Prop} (I : Inv X pins σ H s) (hg : Gl X x) (hm : X.mg x = some u) (h : Q u s)
    (hd : (x == ("__debug__" : Str)) = false := by decide) : wpAny (model X.prog X.w) X.A (eval (.Name x pos) X.env) Q E s :=
  Calls.Name_function_global I.ok.kind hg (Calls.loadGlobal_global (by rw [I.ok.glob]; exact I.mod.glob.keeps I.bk) hm h) hd
theorem ld_blt {E : Value → Shared → Prop} {pins : List (Addr × Obj)} {s : Shared} {σ : St} {H : Hp} {x : Str} {u : Value} {pos : Pos} {Q : Value → Shared → Prop} (I : Inv X pins σ H s) (hg : Gl X x) (hm : X.mg x = none) (hv : bootBuiltins x = some u) (h : Q u s)
    (hn : x ≠ "__name__" := by decide) (hd : (x == ("__debug__" : Str)) = false := by decide) : wpAny (model X.prog X.w) X.A (eval (.Name x pos) X.env) Q E s := by
  obtain ⟨mb, h1, h2⟩ := I.mod.blt
  exact Calls.Name_function_global I.ok.kind hg (Calls.loadGlobal_builtin (by rw [I.ok.glob]; exact I.mod.glob.keeps I.bk) hm (by rw [I.ok.blt]; exact h1.keeps I.bk) ((h2 x hn).trans hv) h) hd
theorem pe_glob {x : Str} {v : V} {u : Value} {pos : Pos} (hg : Gl X x) (hm : X.mg x = some u) (r : RelV v u) (hd : (x == ("__debug__" : Str)) = false := by decide) : PE X (.Name x pos) (tC v) :=
  fun _ _ _ H _ I h => ld_glob I hg hm ⟨v, H, I, r, h⟩ hd
variable {a b : Expr} {ta tb : TE} {pos : Pos}
def PC (X : Cx) (op : CmpOp) (a b : Expr) (t : TE) : Prop :=
  ∀ (pins : List (Addr × Obj)) (s : Shared) (σ : St) (H : Hp) (Q : VK), Inv X pins σ H s → t σ H Q →
    wpAny (model X.prog X.w) X.A (eval a X.env) (fun v s₁ => wpAny (model X.prog X.w) X.A (eval b X.env) (fun u s₂ => wpAny (model X.prog X.w) X.A (compareOp op v u) (EP X pins σ Q) X.xe s₂) X.xe s₁) X.xe s
def tB (t : TE) : TT := fun σ H Q => t σ H fun x H1 => ∃ c, x = .bl c ∧ Q c H1
theorem pt_cmp {op : CmpOp} {t : TE} (h : PC X op a b t) (h1 : behindInMarks op b = false := by first | exact nobehind _ (by decide) (by decide) | rfl) : PT X (.Compare a [op] [b] pos) (tB t) := by
  intro pins s σ H Q I hw
  refine wpAny_isTrue_Compare1 (thn (h pins s σ H _ I hw) fun v s1 h1 => thn h1 fun u s2 h2 => thn h2 fun c s3 ⟨x, H1, I1, r1, q1⟩ => ?_) h1
  obtain ⟨d, rfl, q⟩ := q1
  cases r1
  exact wpAny_truthy_bool ⟨H1, I1, q⟩
theorem pt_val {e : Expr} {t : TE} (h : PE X e t) (he : ∀ whole, isTrue e X.env whole = (do let v ← whole; standAt e.pos; holding [v] (truthy v)) := by intro _; rfl) : PT X e (tB t) := by
  intro pins s σ H Q I hw
  refine isTrue_plain (thn (h pins s σ H _ I hw) fun v s1 ⟨x, H1, I1, r1, q1⟩ => ?_) (he _)
  obtain ⟨d, rfl, q⟩ := q1
  cases r1
  exact wpAny_truthy_bool ⟨H1, I1, q⟩
variable {tA tB' : TT} {rest : List Expr}
def tAnd (t u : TT) : TT := fun σ H Q => t σ H fun c H1 => if c = true then u σ H1 Q else Q false H1
def tOr (t u : TT) : TT := fun σ H Q => t σ H fun c H1 => if c = true then Q true H1 else u σ H1 Q
def tNot (t : TT) : TT := fun σ H Q => t σ H fun c H1 => Q (!c) H1
theorem pw_and1 (ha : PT X a tA) : PW X (.BoolOp .And [a] pos) tA := by
  intro wh pins s σ H Q I h
  refine isTrue_and (thn (ha pins s σ H Q I h) fun c s1 e => ?_)
  cases c with
  | true => exact isTrue_and_nil e
  | false => exact e
theorem pw_or1 (ha : PT X a tA) : PW X (.BoolOp .Or [a] pos) tA := by
  intro wh pins s σ H Q I h
  refine isTrue_or (thn (ha pins s σ H Q I h) fun c s1 e => ?_)
  cases c with
  | false => exact isTrue_or_nil e
  | true => exact e
theorem pw_and (ha : PT X a tA) (hb : PW X (.BoolOp .And (b :: rest) pos) tB') : PW X (.BoolOp .And (a :: b :: rest) pos) (tAnd tA tB') := by
  intro wh pins s σ H Q I h
  refine isTrue_and (thn (ha pins s σ H _ I h) fun c s1 ⟨H1, I1, q1⟩ => ?_)
  cases c with
  | true => exact hb wh pins s1 σ H1 Q I1 q1
  | false => exact ⟨H1, I1, q1⟩
theorem pw_or (ha : PT X a tA) (hb : PW X (.BoolOp .Or (b :: rest) pos) tB') : PW X (.BoolOp .Or (a :: b :: rest) pos) (tOr tA tB') := by
  intro wh pins s σ H Q I h
  refine isTrue_or (thn (ha pins s σ H _ I h) fun c s1 ⟨H1, I1, q1⟩ => ?_)
  cases c with
  | true => exact ⟨H1, I1, q1⟩
  | false => exact hb wh pins s1 σ H1 Q I1 q1
theorem pt_not (ha : PT X a tA) : PT X (.UnaryOp .Not a pos) (tNot tA) := by
  intro pins s σ H Q I h
  exact isTrue_not (ha pins s σ H (fun c H1 => Q (!c) H1) I h)
def tAndV (ta tb : TE) : TE := fun σ H Q => ta σ H fun x H1 => ∃ c, x = .bl c ∧ if c = true then tb σ H1 Q else Q (.bl false) H1
theorem pe_one {op} {t : TE} (h : PE X a t) : PE X (.BoolOp op [a] pos) t := fun pins s σ H Q I hw => BoolOp_one (h pins s σ H Q I hw)
theorem pe_and (ha : PE X a ta) (hb : PE X (.BoolOp .And (b :: rest) pos) tb) : PE X (.BoolOp .And (a :: b :: rest) pos) (tAndV ta tb) := by
  intro pins s σ H Q I h
  refine BoolOp_and (thn (ha pins s σ H _ I h) fun v s1 ⟨x, H1, I1, r1, q1⟩ => ?_)
  obtain ⟨c, rfl, q1⟩ := q1
  cases r1
  refine wpAny_truthy_bool ?_
  cases c with
  | true => exact hb pins s1 σ H1 Q I1 q1
  | false => exact ⟨.bl false, H1, I1, rfl, q1⟩
def tIf (t : TT) (ta tb : TE) : TE := fun σ H Q => t σ H fun c H1 => if c = true then ta σ H1 Q else tb σ H1 Q
theorem pe_ifExp {c : Expr} (hc : PT X c tA) (ha : PE X a ta) (hb : PE X b tb) : PE X (.IfExp c a b pos) (tIf tA ta tb) := by
  intro pins s σ H Q I h
  refine wpAny_IfExp (thn (hc pins s σ H _ I h) fun d s1 ⟨H1, I1, q1⟩ => ?_)
  cases d with
  | true => exact ha pins s1 σ H1 Q I1 q1
  | false => exact hb pins s1 σ H1 Q I1 q1
end
end L2
namespace L2
open PySem PySem.Spec PyProof.Rows
def SqL (K : PySem.W.Frag) (H : Hp) (a : Addr) (xs : List V) : Prop :=
  Rd H a (.lst xs) ∨
    ∃ (o : Obj) (its : Array Value) (n : Nat), K.lookup a = some o ∧ o.cls = .type "list" ∧ o.dict = none ∧ o.data = .seq its n ∧ its.size ≤ sizeLine ∧ Vals xs its.toList
def SqT (K : PySem.W.Frag) (H : Hp) (a : Addr) (xs : List V) : Prop :=
  Rd H a (.tup xs) ∨
    ∃ (o : Obj) (its : Array Value) (n : Nat), K.lookup a = some o ∧ o.cls = .type "tuple" ∧ o.data = .seq its n ∧ its.size ≤ sizeLine ∧ Vals xs its.toList
def absV : Value → Option V
  | .none => some .non
  | .bool b => some (.bl b)
  | .int i _ => some (.int i)
  | .str x _ => some (.str x)
  | .bytes b _ => some (.byt b)
  | .float b _ => some (.flt b)
  | .ref a => some (.ref a)
  | .type n => some (.ty n)
  | _ => none
theorem RelV.abs {x : V} {u : Value} (r : RelV x u) : absV u = some x := by
  cases x with
  | non => cases r; rfl
  | bl _ => cases r; rfl
  | int _ => obtain ⟨t, rfl⟩ := r; rfl
  | str _ => obtain ⟨t, rfl⟩ := r; rfl
  | byt _ => obtain ⟨t, rfl⟩ := r; rfl
  | flt _ => obtain ⟨t, rfl⟩ := r; rfl
  | ref _ => cases r; rfl
  | ty _ => cases r; rfl
theorem RelV.inj {x y : V} {u : Value} (r : RelV x u) (q : RelV y u) : x = y := Option.some.inj (r.abs.symm.trans q.abs)
theorem Vals.inj : ∀ {xs ys : List V} {us : List Value}, Vals xs us → Vals ys us → xs = ys
  | _, _, _, .nil, .nil => rfl
  | _, _, _, .cons r t, .cons r' t' => by rw [r.inj r', Vals.inj t t']
section
variable {X : Cx} {pins : List (Addr × Obj)} {σ : St} {H : Hp} {s : Shared} {a : Addr} {xs ys : List V}
theorem SqL.of {K : PySem.W.Frag} (h : H a = some (.lst xs)) : SqL K H a xs := .inl (.inl h)
theorem SqT.of {K : PySem.W.Frag} (h : H a = some (.tup xs)) : SqT K H a xs := .inl (.inl h)
theorem Inv.list (I : Inv X pins σ H s) (h : SqL X.K H a xs) : ∃ its : List Value, Vals xs its ∧ PlainL s.heap a its.toArray ∧ xs.length ≤ sizeLine := by
  rcases h with h | ⟨o, its, n, hk, hc, hd, hs, hz, r⟩
  · obtain ⟨z, its, n, r, e⟩ := h.ok I.hok
    exact ⟨its, r, ⟨_, n, e, rfl, rfl, rfl⟩, z⟩
  · refine ⟨its.toList, r, ⟨o, n, I.kIn a o hk, hc, hd, by simpa using hs⟩, ?_⟩
    have e := r.length
    simp only [Array.length_toList] at e
    omega
theorem Inv.tuple (I : Inv X pins σ H s) (h : SqT X.K H a xs) : ∃ its : List Value, Vals xs its ∧ IsTup s.heap a its.toArray ∧ xs.length ≤ sizeLine := by
  rcases h with h | ⟨o, its, n, hk, hc, hs, hz, r⟩
  · obtain ⟨z, its, r, p⟩ := h.ok I.hok
    exact ⟨its, r, p, z⟩
  · refine ⟨its.toList, r, ⟨o, I.kIn a o hk, hc, n, by simpa using hs⟩, ?_⟩
    have e := r.length
    simp only [Array.length_toList] at e
    omega
theorem Inv.list_inj (I : Inv X pins σ H s) (h : SqL X.K H a xs) (h' : SqL X.K H a ys) : xs = ys := by
  obtain ⟨its, r, ⟨o, n, e, _, _, d⟩, _⟩ := I.list h
  obtain ⟨its', r', ⟨o', n', e', _, _, d'⟩, _⟩ := I.list h'
  rw [e] at e'; cases e'
  rw [d] at d'
  injection d' with d1 _
  have : its = its' := by simpa using congrArg Array.toList d1
  subst this
  exact r.inj r'
end
abbrev Cx.wish (X : Cx) (E : Value → Shared → Prop) : Cx := { X with xe := E }
abbrev Cx.nox (X : Cx) : Cx := X.wish fun _ _ => False
theorem Cx.Ok.wish {X : Cx} (ok : X.Ok) (E : Value → Shared → Prop) : (X.wish E).Ok :=
  ⟨ok.mod, ok.kind, ok.glob, ok.blt, ok.above, ok.inj, ok.has, ok.cab, ok.hd, ok.frames, ok.stk, ok.exf, ok.bs, ok.bsz, ok.noex, ok.exfs, ok.funs, ok.frf⟩
theorem Cx.Ok.unwish {X : Cx} {E : Value → Shared → Prop} (ok : (X.wish E).Ok) : X.Ok :=
  ⟨ok.mod, ok.kind, ok.glob, ok.blt, ok.above, ok.inj, ok.has, ok.cab, ok.hd, ok.frames, ok.stk, ok.exf, ok.bs, ok.bsz, ok.noex, ok.exfs, ok.funs, ok.frf⟩
section
variable {X : Cx} {pins : List (Addr × Obj)} {σ : St} {H : Hp} {s : Shared} {E : Value → Shared → Prop}
theorem Inv.wish (I : Inv X pins σ H s) (E : Value → Shared → Prop) : Inv (X.wish E) pins σ H s := ⟨I.ok.wish E, I.os, I.bare, I.base, I.loc, I.cell, I.free, I.freeC, I.pin, I.hok, I.len⟩
theorem Inv.unwish (I : Inv (X.wish E) pins σ H s) : Inv X pins σ H s := ⟨I.ok.unwish, I.os, I.bare, I.base, I.loc, I.cell, I.free, I.freeC, I.pin, I.hok, I.len⟩
theorem SP.unwish {D : Ends} {f : Flow} {s' : Shared} (h : SP (X.wish E) pins D f s') : SP X pins D f s' := by
  cases f with
  | next => obtain ⟨σ', H', I, q⟩ := h; exact ⟨σ', H', I.unwish, q⟩
  | brk => obtain ⟨σ', H', I, q⟩ := h; exact ⟨σ', H', I.unwish, q⟩
  | cont => obtain ⟨σ', H', I, q⟩ := h; exact ⟨σ', H', I.unwish, q⟩
  | ret u => obtain ⟨v, σ', H', I, r, q⟩ := h; exact ⟨v, σ', H', I.unwish, r, q⟩
theorem PSs.nox {st : List Stmt} {t : TS} (h : PSs X.nox st t) : PSs X st t := fun pins s σ H D I hw =>
  wpAny_mono (h pins s σ H D (I.wish _) hw) (fun _ _ q => q.unwish) fun _ _ z => False.elim z
end
section
variable {X : Cx} {st : Stmt} {rest : List Stmt} {t u : TS} {e : Expr} {te : TE} {pos : Pos}
def tNext : TS := fun D σ H => D.nx σ H
def tSeq (t u : TS) : TS := fun D σ H => t { D with nx := u D } σ H
theorem pss_nil : PSs X [] tNext := fun _ _ σ H _ I h => wpAny_execs_nil ⟨σ, H, I, h⟩
theorem pss_cons (h1 : PS X st t) (h2 : PSs X rest u) : PSs X (st :: rest) (tSeq t u) := by
  intro pins s σ H D I h
  refine wpAny_execs_cons (thn (h1 pins s σ H { D with nx := u D } I h) fun f s1 q => ?_)
  cases f with
  | next =>
    obtain ⟨σ', H', I', q⟩ := q
    exact h2 pins s1 σ' H' D I' q
  | ret v => exact q
  | brk => exact q
  | cont => exact q
theorem pss_one (h1 : PS X st t) : PSs X [st] t := by
  intro pins s σ H D I h
  refine wpAny_execs_cons (thn (h1 pins s σ H D I h) fun f s1 q => ?_)
  cases f with
  | next => exact wpAny_execs_nil q
  | ret v => exact q
  | brk => exact q
  | cont => exact q
theorem Inv.quiet {pins : List (Addr × Obj)} {σ : St} {H : Hp} {s : Shared} (I : Inv X pins σ H s) : interactive X.env = false := by simp [interactive, I.ok.kind]
def tDrop (te : TE) : TS := fun D σ H => te σ H fun _ H1 => D.nx σ H1
theorem ps_expr (he : PE X e te) (hs : swapsWith e none pos.line X.env = pure false := by rfl) : PS X (.Expr e pos) (tDrop te) := by
  intro pins s σ H D I h
  exact wpAny_Expr_any (thn (he pins s σ H _ I h) fun v s1 ⟨x, H1, I1, r1, q1⟩ => ⟨σ, H1, I1, q1⟩) I.quiet hs
def tRet (te : TE) : TS := fun D σ H => te σ H D.rt
theorem ps_ret (he : PE X e te) : PS X (.Return (some e) pos) (tRet te) := by
  intro pins s σ H D I h
  exact wpAny_Return_some (thn (he pins s σ H _ I h) fun v s1 ⟨x, H1, I1, r1, q1⟩ => ⟨x, σ, H1, I1, r1, q1⟩)
def tIfS (c : TT) (t u : TS) : TS := fun D σ H => c σ H fun b H1 => if b = true then t D σ H1 else u D σ H1
theorem ps_if {c : Expr} {a b : List Stmt} {tc : TT} (hc : PT X c tc) (ha : PSs X a t) (hb : PSs X b u) : PS X (.If c a b pos) (tIfS tc t u) := by
  intro pins s σ H D I h
  refine wpAny_If (thn (hc pins s σ H _ I h) fun d s1 ⟨H1, I1, q1⟩ => ?_)
  cases d with
  | true => exact ha pins s1 σ H1 D I1 q1
  | false => exact hb pins s1 σ H1 D I1 q1
def tNever : TS := fun _ _ _ => False
theorem ps_never : PS X st tNever := fun _ _ _ _ _ _ h => h.elim
end
abbrev TG := V → St → Hp → (St → Hp → Prop) → Prop
abbrev TGs := List V → St → Hp → (St → Hp → Prop) → Prop
def PG (X : Cx) (target : Expr) (t : TG) : Prop :=
  ∀ (pins : List (Addr × Obj)) (s : Shared) (σ : St) (H : Hp) (v : V) (u : Value) (Q : St → Hp → Prop), Inv X pins σ H s → RelV v u → t v σ H Q →
    wpAny (model X.prog X.w) X.A (assign target X.env u) (fun _ s' => ∃ σ' H', Inv X pins σ' H' s' ∧ Q σ' H') X.xe s
def PGs (X : Cx) (ts : List Expr) (t : TGs) : Prop :=
  ∀ (pins : List (Addr × Obj)) (s : Shared) (σ : St) (H : Hp) (vs : List V) (us : List Value) (Q : St → Hp → Prop), Inv X pins σ H s → Vals vs us → t vs σ H Q →
    wpAny (model X.prog X.w) X.A (assignInOrder ((assignEach ts X.env).map (·.2)) us) (fun _ s' => ∃ σ' H', Inv X pins σ' H' s' ∧ Q σ' H') X.xe s
abbrev TSet := V → V → V → Hp → (Hp → Prop) → Prop
def PSet (X : Cx) (t : TSet) : Prop :=
  ∀ (pins : List (Addr × Obj)) (s : Shared) (σ : St) (H : Hp) (o i v : V) (ov iv u : Value) (Q : Hp → Prop), Inv X pins σ H s → RelV o ov → RelV i iv → RelV v u → t o i v H Q →
    wpAny (model X.prog X.w) X.A (setItem ov iv u) (fun _ s' => ∃ H', Inv X pins σ H' s' ∧ Q H') X.xe s
abbrev TIp := V → V → Hp → VK → Prop
def PIp (X : Cx) (op : Operator) (t : TIp) : Prop :=
  ∀ (pins : List (Addr × Obj)) (s : Shared) (σ : St) (H : Hp) (x y : V) (v u : Value) (Q : VK), Inv X pins σ H s → RelV x v → RelV y u → t x y H Q →
    wpAny (model X.prog X.w) X.A (inplaceOp op v u) (EP X pins σ Q) X.xe s
section
variable {X : Cx} {pos : Pos}
def gName (i : Nat) : TG := fun v σ H Q => Q (σ.set i (some v)) H
theorem pg_name {i : Nat} {x : Str} (hN : X.N.Nodup) (hi : X.N[i]? = some x) (hx : Loc X.env.scope x) (hf : X.fn x = true ∨ X.env.scope.names.lookup x = some .local := by first | exact .inl rfl | exact .inr rfl | assumption) : PG X (.Name x pos) (gName i) := by
  intro pins s σ H v u Q I r h
  exact wpAny_assign_Name (store_ok I hN hi hx r (fun s' I' => ⟨_, H, I', h⟩) hf)
def gNil : TGs := fun vs σ H Q => vs = [] ∧ Q σ H
def gCons (t : TG) (u : TGs) : TGs := fun vs σ H Q => ∃ v r, vs = v :: r ∧ t v σ H fun σ' H' => u r σ' H' Q
theorem pgs_nil : PGs X [] gNil := by
  intro pins s σ H vs us Q I r h
  obtain ⟨e, h⟩ := h
  subst e
  cases r
  exact assignInOrder_nil ⟨σ, H, I, h⟩
theorem pgs_cons {e : Expr} {es : List Expr} {t : TG} {u : TGs} (h1 : PG X e t) (h2 : PGs X es u)
    (hs : (assignEach (e :: es) X.env).map (·.2) = assign e X.env :: (assignEach es X.env).map (·.2) := by rfl) : PGs X (e :: es) (gCons t u) := by
  intro pins s σ H vs us Q I r h
  obtain ⟨v, vr, e1, h⟩ := h
  subst e1
  cases r with
  | cons r rr =>
    rw [hs]
    refine assignInOrder_cons (thn (h1 pins s σ H _ _ _ I r h) fun _ s1 ⟨σ1, H1, I1, q1⟩ => ?_)
    exact h2 pins s1 σ1 H1 _ _ Q I1 rr q1
def gTup (K : PySem.W.Frag) (n : Nat) (t : TGs) : TG := fun v σ H Q => ∃ a xs, v = .ref a ∧ SqT K H a xs ∧ xs.length = n ∧ t xs σ H Q
theorem pg_tup {es : List Expr} {k : Nat} {t : TGs} {n : Nat} (hc : X.calm = true) (h : PGs X es t)
    (hn : (assignEach es X.env).length = n := by rfl) (hst : (assignEach es X.env).findIdx? (·.1) = none := by rfl) : PG X (.Tuple es k pos) (gTup X.K n t) := by
  intro pins s σ H v u Q I r hw
  obtain ⟨a, xs, e1, hq, hl, hw⟩ := hw
  subst e1
  cases r
  obtain ⟨its, rv, ht, hz⟩ := I.tuple hq
  refine assign_Tuple_tuple (I.ok.hd hc) ht (by simp [hn, ← hl, rv.length]) hst fun h' hx => ?_
  have I1 : Inv X pins σ H { s with heap := h' } := I.kept (t' := s.toks) fun b o e => hx b o (Nat.ne_of_lt (Heap.lt_size e)) e
  exact h pins _ σ H xs _ Q I1 (by simpa using rv) hw
def tAsg (te : TE) (g : TG) : TS := fun D σ H => te σ H fun x H1 => g x σ H1 D.nx
theorem ps_set {i : Nat} {x : Str} {e : Expr} {te : TE} {pos' : Pos} (hN : X.N.Nodup) (hi : X.N[i]? = some x) (hx : Loc X.env.scope x) (he : PE X e te) (hs : swapsWith e (some (.Name x pos')) pos.line X.env = pure false := by rfl) (hf : X.fn x = true ∨ X.env.scope.names.lookup x = some .local := by first | exact .inl rfl | exact .inr rfl | assumption) :
    PS X (.Assign [.Name x pos'] e pos) (tAsg te (gName i)) := by
  intro pins s σ H D I h
  refine wpAny_Assign_Name (thn (he pins s σ H _ I h) fun v s1 ⟨y, H1, I1, r1, q1⟩ => ?_) hs
  exact store_ok I1 hN hi hx r1 (fun s2 I2 => ⟨_, H1, I2, q1⟩) hf
def tAugS (to ti te : TE) (tget : V → V → Hp → VK → Prop) (tip : TIp) (tset : TSet) : TS := fun D σ H => to σ H fun o H1 => ti σ H1 fun i H2 => tget o i H2 fun x H3 => te σ H3 fun y H4 => tip x y H4 fun z H5 => tset o i z H5 fun H6 => D.nx σ H6
def PGet (X : Cx) (t : V → V → Hp → VK → Prop) : Prop :=
  ∀ (pins : List (Addr × Obj)) (s : Shared) (σ : St) (H : Hp) (o i : V) (ov iv : Value) (Q : VK), Inv X pins σ H s → RelV o ov → RelV i iv → t o i H Q →
    wpAny (model X.prog X.w) X.A (getItem ov iv) (EP X pins σ Q) X.xe s
theorem ps_augS {o i e : Expr} {to ti te : TE} {tget : V → V → Hp → VK → Prop} {tip : TIp} {tset : TSet} {op : Operator} {tpos : Pos} (ho : PE X o to) (hi : PE X i ti) (hg : PGet X tget) (he : PE X e te) (hp : PIp X op tip) (hs : PSet X tset)
    (ha : ∀ ov iv new, augStore i ov iv new = (do holding [new, ov, iv] (setItem ov iv new); release [new, ov, iv] []; pure .next) := by intros; rfl) : PS X (.AugAssign (.Subscript o i tpos) op e pos) (tAugS to ti te tget tip tset) := by
  intro pins s σ H D I h
  refine wpAny_AugAssign_SubscriptAny (thn (ho pins s σ H _ I h) fun ov s1 ⟨x1, H1, I1, r1, q1⟩ => ?_) ha
  refine thn (hi pins s1 σ H1 _ I1 q1) fun iv s2 ⟨x2, H2, I2, r2, q2⟩ => ?_
  refine thn (hg pins s2 σ H2 x1 x2 ov iv _ I2 r1 r2 q2) fun old s3 ⟨x3, H3, I3, r3, q3⟩ => ?_
  refine thn (he pins s3 σ H3 _ I3 q3) fun v s4 ⟨x4, H4, I4, r4, q4⟩ => ?_
  refine thn (hp pins s4 σ H4 x3 x4 old v _ I4 r3 r4 q4) fun new s5 ⟨x5, H5, I5, r5, q5⟩ => ?_
  exact thn (hs pins s5 σ H5 x1 x2 x5 ov iv new _ I5 r1 r2 r5 q5) fun _ s6 ⟨H6, I6, q6⟩ => ⟨σ, H6, I6, q6⟩
def ipI (f : Int → Int → Int) : TIp := fun x y H Q => ∃ i j, x = .int i ∧ y = .int j ∧ Q (.int (f i j)) H
theorem ip_sub : PIp X .Sub (ipI fun i j => i - j) := by
  intro pins s σ H x y v u Q I r1 r2 h
  obtain ⟨i, j, e1, e2, q⟩ := h
  subst e1; subst e2
  obtain ⟨t, rfl⟩ := r1
  obtain ⟨t', rfl⟩ := r2
  exact isub_int ⟨.int _, H, I.tok _, ⟨_, rfl⟩, q⟩
end
section
variable {X : Cx} {pos : Pos}
def tWhile (c : TT) (tb : TS) : TS := fun D σ H => ∃ W : Nat → St → Hp → Prop, (∃ m, W m σ H) ∧ ∀ m σ H, W m σ H →
  c σ H fun b H1 => if b = true then ∃ N : St → Hp → Prop, (∀ σ' H', N σ' H' → ∃ m', m' < m ∧ W m' σ' H') ∧ tb { D with nx := N, ct := N, bk := D.nx } σ H1 else D.nx σ H1
theorem ps_while {c : Expr} {body : List Stmt} {tc : TT} {tb : TS} (hp : PassesOwn (model X.prog X.w) X.A X.env X.xe) (hc : PT X c tc) (hb : PSs X body tb) : PS X (.While c body [] pos) (tWhile tc tb) := by
  intro pins s σ H D I h
  obtain ⟨W, ⟨m0, w0⟩, turn⟩ := h
  refine wpAny_While (codeAny_whileLoop (fun n s' => ∃ σ' H', Inv X pins σ' H' s' ∧ W n σ' H') ?_ m0 ⟨σ, H, I, w0⟩)
  rintro n s1 ⟨σ1, H1, I1, w1⟩
  refine wpAny_passesOwn hp (thn (hc pins s1 σ1 H1 _ I1 (turn n σ1 H1 w1)) fun b s2 ⟨H2, I2, q2⟩ => ?_)
  cases b with
  | true =>
    obtain ⟨N, hN, q2⟩ := q2
    rw [if_pos rfl]
    refine wpAny_passesOwn hp (thn (hb pins s2 σ1 H2 _ I2 q2) fun f s3 q3 => ?_)
    cases f with
    | next =>
      obtain ⟨σ3, H3, I3, n3⟩ := q3
      obtain ⟨m', hm, w3⟩ := hN σ3 H3 n3
      exact ⟨m', hm, σ3, H3, I3, w3⟩
    | cont =>
      obtain ⟨σ3, H3, I3, n3⟩ := q3
      obtain ⟨m', hm, w3⟩ := hN σ3 H3 n3
      exact ⟨m', hm, σ3, H3, I3, w3⟩
    | brk => exact q3
    | ret v => exact q3
  | false =>
    rw [if_neg Bool.false_ne_true]
    exact wpAny_execs_nil ⟨σ1, H2, I2, q2⟩
end
structure It where
  go : Nat → Hp → Prop
  yld : Nat → Hp → V → Hp → Prop
  stop : Nat → Hp → Prop
def FpOk (X : Cx) (pins : List (Addr × Obj)) (H : Hp) (b : Addr) : Prop :=
  H b = none ∧ b ≠ X.env.locals ∧ b ∉ X.fs ∧ (b ∈ X.ex ∨ X.s₀.heap.objs.size ≤ b) ∧ (∀ x c, X.env.cells.lookup x = some c → c ≠ b) ∧ ∀ p ∈ X.pn ++ pins, p.1 ≠ b
theorem Inv.fpOk {X : Cx} {pins : List (Addr × Obj)} {σ : St} {H H' : Hp} {s : Shared} {b : Addr} (I : Inv X pins σ H s) (hb : s.heap.objs.size ≤ b) (hn : H' b = none) : FpOk X pins H' b := by
  refine ⟨hn, Nat.ne_of_gt (Nat.lt_of_lt_of_le I.lt hb), I.nofs hb, .inr (Nat.le_trans I.sz hb), fun x c e z => ?_, fun p hp z => ?_⟩
  · obtain ⟨v, q⟩ := I.cell x c e
    exact absurd (Nat.lt_of_lt_of_le q.lt (by rw [z]; exact hb)) (Nat.lt_irrefl _)
  · exact absurd (Nat.lt_of_lt_of_le (Heap.lt_size (I.pin p hp).1) (by rw [z]; exact hb)) (Nat.lt_irrefl _)
structure Turn (P : Program) (w : World) (K : PySem.W.Frag) (tg : Expr) (J : It) (fp : List Addr) (it : Addr) (tn : Nat → Heap → Prop) : Prop where
  mem : it ∈ fp
  obj : ∀ i h, tn i h → ∀ b ∈ fp, ∃ o, h.get? b = some o ∧ ∀ v, o.data ≠ .cell v
  keep : ∀ i h h', tn i h → (∀ b ∈ fp, ∀ o, h.get? b = some o → h'.get? b = some o) → tn i h'
  item : ∀ (X : Cx), X.prog = P → X.w = w → X.K = K → X.calm = true → ∀ (i : Nat) (pins : List (Addr × Obj)) (s : Shared) (σ : St) (H : Hp) (E : Value → Shared → Prop), Inv X pins σ H s → (∀ b ∈ fp, FpOk X pins H b) → tn i s.heap → J.go i H →
    wpAny (model P w) X.A (pyNext (.ref it)) (fun r s1 => ∃ u, r = some u ∧
      wpAny (model P w) X.A (letOwnedTupleGo tg (.ref it) u) (fun _ s2 => ∃ x H', Inv X pins σ H' s2 ∧ RelV x u ∧ J.yld i H x H' ∧ tn (i + 1) s2.heap ∧ ∀ b ∈ fp, H' b = none) E s1) E s
  done : ∀ (X : Cx), X.prog = P → X.w = w → X.K = K → X.calm = true → ∀ (i : Nat) (pins : List (Addr × Obj)) (s : Shared) (σ : St) (H : Hp) (E : Value → Shared → Prop), Inv X pins σ H s → (∀ b ∈ fp, FpOk X pins H b) → tn i s.heap → J.stop i H →
    wpAny (model P w) X.A (pyNext (.ref it)) (fun r s1 => r = none ∧ Inv X pins σ H s1) E s
  self : ∀ (A : Around) (i : Nat) (s : Shared) (Q : Value → Shared → Prop) (E : Value → Shared → Prop), tn i s.heap → Q (.ref it) s → wpAny (model P w) A (pyIter (.ref it)) Q E s
abbrev TI := St → Hp → (It → Hp → Prop) → Prop
def PIE (X : Cx) (pins : List (Addr × Obj)) (σ : St) (tg : Expr) (R : It → Hp → Prop) (itv : Value) (s2 : Shared) : Prop :=
  ∃ (it : Addr) (fp : List Addr) (tn : Nat → Heap → Prop) (J : It) (H' : Hp), itv = .ref it ∧ Inv X pins σ H' s2 ∧ Turn X.prog X.w X.K tg J fp it tn ∧ tn 0 s2.heap ∧ (∀ b ∈ fp, FpOk X pins H' b) ∧ R J H'
def PI (X : Cx) (tg iter : Expr) (wi : TI) : Prop :=
  ∀ (pins : List (Addr × Obj)) (s : Shared) (σ : St) (H : Hp) (R : It → Hp → Prop), Inv X pins σ H s → wi σ H R →
    wpAny (model X.prog X.w) X.A (eval iter X.env) (fun v s1 => wpAny (model X.prog X.w) X.A (pyIter v) (PIE X pins σ tg R) X.xe s1) X.xe s
theorem go_of {M : Model} {A : Around} {E : Value → Shared → Prop} {s : Shared} {tg : Expr} {it : Addr} {u : Value} {o : Obj} {n : String} {vs : Array Value} {Q : Unit → Shared → Prop} (ho : s.heap.get? it = some o) (hc : o.cls = .type n) (hd : o.data = .fields vs)
    (hn : ["enumerate", "zip", "dict_itemiterator", "dict_reverseitemiterator", "odict_iterator", "itertools.zip_longest", "itertools.pairwise"].contains n = false) (hQ : Q () s) : wpAny M A (letOwnedTupleGo tg (.ref it) u) Q E s := by
  unfold letOwnedTupleGo
  cases tg <;> first
    | exact wpAny_pure hQ
    | (cases u <;> first
        | exact wpAny_pure hQ
        | (refine wpAny_bind (wpAny_load ho ?_)
           rw [hc, hd]
           show wpAny M A (if (["enumerate", "zip", "dict_itemiterator", "dict_reverseitemiterator", "odict_iterator", "itertools.zip_longest", "itertools.pairwise"].contains n && vs[0]? == some (rawInt _)) = true then _ else _) Q E s
           rw [if_neg (by intro h; rw [hn, Bool.false_and] at h; cases h)]
           exact wpAny_pure hQ))
def Itl (K : PySem.W.Frag) (a : Addr) : It :=
  ⟨fun i H => ∃ xs x, SqL K H a xs ∧ xs[i]? = some x, fun i H x H' => H' = H ∧ ∀ xs, SqL K H a xs → xs[i]? = some x, fun i H => ∃ xs, SqL K H a xs ∧ xs.length ≤ i⟩
theorem turn_list {P : Program} {w : World} {K : PySem.W.Frag} {tg : Expr} (a it : Addr) : Turn P w K tg (Itl K a) [it] it (fun i h => h.IsListIter it a i) where
  mem := by simp
  obj := fun i h st b hb => by
    have e : b = it := by simpa using hb
    subst e
    obtain ⟨o, e, c, d⟩ := st
    exact ⟨o, e, fun v z => by rw [d] at z; cases z⟩
  keep := fun i h h' st k => st.at fun o e => k it (by simp) o e
  item := by
    intro X hP hw hK hc i pins s σ H E I hf st hg
    subst hP hw hK
    obtain ⟨xs, x, hq, hx⟩ := hg
    obtain ⟨its, rv, p, hz⟩ := I.list hq
    obtain ⟨u, hu, ru⟩ := rv.get hx
    obtain ⟨f0, f1, f2, f3, f4, f5⟩ := hf it (by simp)
    refine wpAny_pyNext_list_item st p.isList (x := u) (by simpa using hu) fun h' st' sb => ?_
    have I1 : Inv X pins σ H { s with heap := h' } := I.turned (t' := s.toks) (fun b o hb e => (sb.2 b hb).trans e) f0 f1 f3 f4 f5
    obtain ⟨o, e, c, d⟩ := id st'
    exact ⟨u, rfl, go_of (s := { s with heap := h' }) e c d (by decide) ⟨x, H, I1, ru, ⟨rfl, fun ys hy => by rw [I.list_inj hy hq]; exact hx⟩, st', fun b hb => (hf b hb).1⟩⟩
  done := by
    intro X hP hw hK hc i pins s σ H E I hf st hg
    subst hP hw hK
    obtain ⟨xs, hq, hx⟩ := hg
    obtain ⟨its, rv, p, hz⟩ := I.list hq
    obtain ⟨f0, f1, f2, f3, f4, f5⟩ := hf it (by simp)
    have hl := rv.length
    exact wpAny_pyNext_list_end (I.ok.hd hc) st p.isList (by simp; omega) fun h' eb => ⟨rfl, I.turned (t' := s.toks) (fun b o hb e => eb b o hb e) f0 f1 f3 f4 f5⟩
  self := fun _ _ _ _ _ st h => wpAny_pyIter_listiter st h
end L2
namespace L2
open PySem PySem.Spec PyProof.Rows
section
variable {X : Cx} {tg : Expr}
def iList (K : PySem.W.Frag) (tl : TE) : TI := fun σ H R => tl σ H fun x H1 => ∃ a, x = .ref a ∧ (∃ xs, SqL K H1 a xs) ∧ R (Itl K a) H1
theorem pi_list {l : Expr} {tl : TE} (hl : PE X l tl) : PI X tg l (iList X.K tl) := by
  intro pins s σ H R I h
  refine thn (hl pins s σ H _ I h) fun v s1 ⟨x, H1, I1, r1, q1⟩ => ?_
  obtain ⟨a, e, ⟨xs, hq⟩, q⟩ := q1
  subst e
  cases r1
  obtain ⟨its, rv, p, hz⟩ := I1.list hq
  refine wpAny_pyIter_list p.isList ?_
  refine ⟨s1.heap.objs.size, [s1.heap.objs.size], _, _, H1, rfl, I1.kept (t' := s1.toks) fun b o e => Heap.get?_push_of_some _ e, turn_list a _, ⟨_, Heap.get?_push_size _ rfl, rfl, rfl⟩, fun b hb => ?_, q⟩
  have e : b = s1.heap.objs.size := by simpa using hb
  subst e
  exact I1.fpOk (Nat.le_refl _) (I1.hok.fresh (Nat.le_refl _))
def tFor (wi : TI) (g : TG) (tb : TS) : TS := fun D σ H => wi σ H fun J H1 => ∃ W : Nat → Nat → St → Hp → Prop, (∃ m, W 0 m σ H1) ∧ ∀ i m σ H, W i m σ H →
  (J.stop i H ∧ D.nx σ H) ∨ (J.go i H ∧ ∃ N : St → Hp → Prop, (∀ σ' H', N σ' H' → ∃ m', m' < m ∧ W (i + 1) m' σ' H') ∧ ∀ x H', J.yld i H x H' → g x σ H' fun σ2 H2 => tb { D with nx := N, ct := N, bk := D.nx } σ2 H2)
def pinsAt (fp : List Addr) (h : Heap) : List (Addr × Obj) := fp.filterMap fun b => (h.get? b).map fun o => (b, o)
theorem mem_pinsAt {fp : List Addr} {h : Heap} {b : Addr} {o : Obj} (hb : b ∈ fp) (e : h.get? b = some o) : (b, o) ∈ pinsAt fp h := List.mem_filterMap.mpr ⟨b, hb, by rw [e]; rfl⟩
theorem of_pinsAt {fp : List Addr} {h : Heap} {p : Addr × Obj} (hp : p ∈ pinsAt fp h) : p.1 ∈ fp ∧ h.get? p.1 = some p.2 := by
  obtain ⟨b, hb, e⟩ := List.mem_filterMap.mp hp
  cases q : h.get? b with
  | none => rw [q] at e; cases e
  | some o =>
    rw [q] at e
    have e' : (b, o) = p := Option.some.inj e
    subst e'
    exact ⟨hb, q⟩
theorem Inv.pinned {pins : List (Addr × Obj)} {σ : St} {H : Hp} {s : Shared} {fp : List Addr} (I : Inv X pins σ H s) (hf : ∀ b ∈ fp, FpOk X pins H b) (ho : ∀ b ∈ fp, ∃ o, s.heap.get? b = some o ∧ ∀ v, o.data ≠ .cell v) : Inv X (pins ++ pinsAt fp s.heap) σ H s :=
  I.pins_of fun p hp => (List.mem_append.mp hp).elim (fun z => I.pin p (List.mem_append_right _ z)) fun z => by
    obtain ⟨hb, e⟩ := of_pinsAt z
    obtain ⟨f0, f1, f2, _⟩ := hf p.1 hb
    obtain ⟨o, e', d⟩ := ho p.1 hb
    rw [e] at e'; cases e'
    exact ⟨e, f0, f1, f2, d⟩
theorem Inv.unpinned {pins pl : List (Addr × Obj)} {σ : St} {H : Hp} {s : Shared} (I : Inv X (pins ++ pl) σ H s) : Inv X pins σ H s := I.pins_of fun p hp => I.pin p (List.mem_append_right _ (List.mem_append_left _ hp))
theorem ps_for {iter : Expr} {body : List Stmt} {wi : TI} {g : TG} {tb : TS} {pos : Pos} (hp : PassesOwn (model X.prog X.w) X.A X.env X.xe) (hc : X.calm = true) (hi : PI X tg iter wi) (hg : PG X tg g) (hb : PSs X body tb)
    (hs : ∀ x, foldedSetIterable iter X.env x = pure x := by intro _; rfl) : PS X (.For tg iter body [] pos) (tFor wi g tb) := by
  intro pins s σ H D I h
  refine wpAny_For (thn (hi pins s σ H _ I h) fun v s1 h1 => thn h1 fun itv s2 h2 => ?_) hs
  obtain ⟨it, fp, tn, J, H2, e, I2, T, st2, f2, W, ⟨m0, w0⟩, turn⟩ := h2
  subst e
  -- what stays true of the iterator's objects through the loop
  have stat : ∀ {H' : Hp}, (∀ b ∈ fp, H' b = none) → ∀ b ∈ fp, FpOk X pins H' b := fun hn b hb => ⟨hn b hb, (f2 b hb).2⟩
  refine codeAny_forLoop_any (fun n s' => ∃ i σ' H', Inv X pins σ' H' s' ∧ tn i s'.heap ∧ (∀ b ∈ fp, H' b = none) ∧ W i n σ' H') ?_ m0 ⟨0, σ, H2, I2, st2, fun b hb => (f2 b hb).1, w0⟩
  rintro n s3 ⟨i, σ3, H3, I3, st3, fr3, w3⟩
  rcases turn i n σ3 H3 w3 with ⟨stop, qn⟩ | ⟨go, N, hN, step⟩
  · refine wpAny_passesOwn hp (thn (T.done X rfl rfl rfl hc i pins s3 σ3 H3 X.xe I3 (stat fr3) st3 stop) fun r s4 ⟨hr, I4⟩ => ?_)
    subst hr
    exact wpAny_execs_nil ⟨σ3, H3, I4, qn⟩
  · refine wpAny_passesOwn hp (thn (T.item X rfl rfl rfl hc i pins s3 σ3 H3 X.xe I3 (stat fr3) st3 go) fun r s4 ⟨u, hr, h4⟩ => ?_)
    subst hr
    refine wpAny_passesOwn hp (thn h4 fun _ s5 ⟨x, H5, I5, r5, y5, st5, fr5⟩ => ?_)
    have I5' := I5.pinned (stat fr5) (T.obj _ _ st5)
    refine wpAny_passesOwn hp (thn (hg _ s5 σ3 H5 x u _ I5' r5 (step x H5 y5)) fun _ s6 ⟨σ6, H6, I6, q6⟩ => ?_)
    refine wpAny_passesOwn hp (thn (hb _ s6 σ6 H6 _ I6 q6) fun f s7 q7 => ?_)
    have again : ∀ {σ7 : St} {H7 : Hp}, Inv X (pins ++ pinsAt fp s5.heap) σ7 H7 s7 → N σ7 H7 → ∃ m, m < n ∧ ∃ i σ' H', Inv X pins σ' H' s7 ∧ tn i s7.heap ∧ (∀ b ∈ fp, H' b = none) ∧ W i m σ' H' := fun {σ7 H7} I7 n7 => by
      obtain ⟨m', hm, w7⟩ := hN σ7 H7 n7
      refine ⟨m', hm, i + 1, σ7, H7, I7.unpinned, T.keep _ _ _ st5 fun b hb o e => (I7.pin (b, o) (List.mem_append_right _ (List.mem_append_right _ (mem_pinsAt hb e)))).1, fun b hb => ?_, w7⟩
      obtain ⟨o, e, d⟩ := T.obj _ _ st5 b hb
      exact (I7.pin (b, o) (List.mem_append_right _ (List.mem_append_right _ (mem_pinsAt hb e)))).2.1
    cases f with
    | next => obtain ⟨σ7, H7, I7, n7⟩ := q7; exact again I7 n7
    | cont => obtain ⟨σ7, H7, I7, n7⟩ := q7; exact again I7 n7
    | brk => obtain ⟨σ7, H7, I7, q7⟩ := q7; exact ⟨σ7, H7, I7.unpinned, q7⟩
    | ret v => obtain ⟨x7, σ7, H7, I7, r7, q7⟩ := q7; exact ⟨x7, σ7, H7, I7.unpinned, r7, q7⟩
end
theorem for_list {K : PySem.W.Frag} {a : Addr} {xs : List V} {g : TG} {tb : TS} {D : Ends} {σ : St} {H : Hp} (Pv : Nat → St → Hp → Prop) (h0 : Pv 0 σ H) (hl : ∀ i σ H, i ≤ xs.length → Pv i σ H → SqL K H a xs)
    (hs : ∀ i x σ H, xs[i]? = some x → Pv i σ H → g x σ H fun σ2 H2 => tb { D with nx := Pv (i + 1), ct := Pv (i + 1), bk := D.nx } σ2 H2) (hd : ∀ σ H, Pv xs.length σ H → D.nx σ H) :
    ∃ W : Nat → Nat → St → Hp → Prop, (∃ m, W 0 m σ H) ∧ ∀ i m σ H, W i m σ H →
      ((Itl K a).stop i H ∧ D.nx σ H) ∨ ((Itl K a).go i H ∧ ∃ N : St → Hp → Prop, (∀ σ' H', N σ' H' → ∃ m', m' < m ∧ W (i + 1) m' σ' H') ∧ ∀ x H', (Itl K a).yld i H x H' → g x σ H' fun σ2 H2 => tb { D with nx := N, ct := N, bk := D.nx } σ2 H2) := by
  refine ⟨fun i m σ H => m = xs.length - i ∧ i ≤ xs.length ∧ Pv i σ H, ⟨xs.length, by simp, Nat.zero_le _, h0⟩, ?_⟩
  rintro i m σ H ⟨rfl, hi, p⟩
  have q := hl i σ H hi p
  by_cases hlt : i < xs.length
  · refine .inr ⟨⟨xs, xs[i], q, by simp [hlt]⟩, Pv (i + 1), fun σ' H' p' => ⟨xs.length - (i + 1), by omega, rfl, hlt, p'⟩, fun x H' y => ?_⟩
    obtain ⟨e, y⟩ := y
    subst e
    exact hs i x σ _ (y xs q) p
  · have e : i = xs.length := by omega
    subst e
    exact .inl ⟨⟨xs, q, Nat.le_refl _⟩, hd σ H p⟩
theorem while_by {c : TT} {tb : TS} {D : Ends} {σ : St} {H : Hp} (Pv : St → Hp → Prop) (μ : St → Hp → Nat) (h0 : Pv σ H)
    (hs : ∀ σ H, Pv σ H → c σ H fun b H1 => if b = true then tb { D with nx := fun σ' H' => Pv σ' H' ∧ μ σ' H' < μ σ H, ct := fun σ' H' => Pv σ' H' ∧ μ σ' H' < μ σ H, bk := D.nx } σ H1 else D.nx σ H1)
    (mono : ∀ σ H Q Q', (∀ b H1, Q b H1 → Q' b H1) → c σ H Q → c σ H Q') : tWhile c tb D σ H := by
  refine ⟨fun m σ H => m = μ σ H ∧ Pv σ H, ⟨_, rfl, h0⟩, ?_⟩
  rintro m σ H ⟨rfl, p⟩
  refine mono σ H _ _ (fun b H1 q => ?_) (hs σ H p)
  cases b with
  | true => exact ⟨_, fun σ' H' ⟨p', l⟩ => ⟨_, l, rfl, p'⟩, q⟩
  | false => exact q
end L2
namespace L2
open PySem PySem.Spec PyProof.Rows
abbrev R2 := V → V → Hp → VK → Prop
def OpR (X : Cx) (f : Value → Value → Sem Value) (r : R2) : Prop :=
  ∀ (pins : List (Addr × Obj)) (s : Shared) (σ : St) (H : Hp) (x y : V) (v u : Value) (Q : VK), Inv X pins σ H s → RelV x v → RelV y u → r x y H Q →
    wpAny (model X.prog X.w) X.A (f v u) (EP X pins σ Q) X.xe s
def UnR (X : Cx) (f : Value → Sem Value) (r : V → Hp → VK → Prop) : Prop :=
  ∀ (pins : List (Addr × Obj)) (s : Shared) (σ : St) (H : Hp) (x : V) (v : Value) (Q : VK), Inv X pins σ H s → RelV x v → r x H Q →
    wpAny (model X.prog X.w) X.A (f v) (EP X pins σ Q) X.xe s
def CallR (X : Cx) (f : Value) (r : List V → Hp → VK → Prop) : Prop :=
  ∀ (pins : List (Addr × Obj)) (s : Shared) (σ : St) (H : Hp) (xs : List V) (us : List Value) (Q : VK), Inv X pins σ H s → Vals xs us → r xs H Q →
    wpAny (model X.prog X.w) X.A (call f us) (EP X pins σ Q) X.xe s
def TruR (X : Cx) (r : V → Hp → (Bool → Hp → Prop) → Prop) : Prop :=
  ∀ (pins : List (Addr × Obj)) (s : Shared) (σ : St) (H : Hp) (x : V) (v : Value) (Q : Bool → Hp → Prop), Inv X pins σ H s → RelV x v → r x H Q →
    wpAny (model X.prog X.w) X.A (truthy v) (TP X pins σ Q) X.xe s
def tOp (r : R2) (ta tb : TE) : TE := fun σ H Q => ta σ H fun x H1 => tb σ H1 fun y H2 => r x y H2 Q
def tUn (r : V → Hp → VK → Prop) (ta : TE) : TE := fun σ H Q => ta σ H fun x H1 => r x H1 Q
def rI (C : Int → Int → Prop) (g : Int → Int → V) : R2 := fun x y H Q => ∃ i j, x = .int i ∧ y = .int j ∧ C i j ∧ Q (g i j) H
def rI0 (g : Int → Int → V) : R2 := fun x y H Q => ∃ i j, x = .int i ∧ y = .int j ∧ Q (g i j) H
def rU (g : Int → V) : V → Hp → VK → Prop := fun x H Q => ∃ i, x = .int i ∧ Q (g i) H
section
variable {X : Cx} {a b c : Expr} {ta tb tc : TE} {pos : Pos}
theorem binT (ha : PE X a ta) (hb : PE X b tb) {pins : List (Addr × Obj)} {s : Shared} {σ : St} {H : Hp} {R : V → V → Hp → Prop} (I : Inv X pins σ H s)
    (h : ta σ H fun x H1 => tb σ H1 fun y H2 => R x y H2) {Q : Value → Shared → Prop} {f : Value → Value → Sem Value}
    (hf : ∀ v u s2 x y H2, Inv X pins σ H2 s2 → RelV x v → RelV y u → R x y H2 → wpAny (model X.prog X.w) X.A (f v u) Q X.xe s2) :
    wpAny (model X.prog X.w) X.A (eval a X.env) (fun v s₁ => wpAny (model X.prog X.w) X.A (eval b X.env) (fun u s₂ => wpAny (model X.prog X.w) X.A (f v u) Q X.xe s₂) X.xe s₁) X.xe s := by
  refine thn (ha pins s σ H _ I h) fun v s1 ⟨x, H1, I1, r1, q1⟩ => ?_
  refine thn (hb pins s1 σ H1 _ I1 q1) fun u s2 ⟨y, H2, I2, r2, q2⟩ => ?_
  exact hf v u s2 x y H2 I2 r1 r2 q2
theorem pe_op {op : Operator} {r : R2} (ho : OpR X (binaryOp op) r) (ha : PE X a ta) (hb : PE X b tb) : PE X (.BinOp a op b pos) (tOp r ta tb) := by
  intro pins s σ H Q I h
  exact wpAny_BinOp (binT ha hb I h fun v u s2 x y H2 I2 rx ry q => ho pins s2 σ H2 x y v u Q I2 rx ry q)
theorem pe_un {op : UnaryOp} {r : V → Hp → VK → Prop} (ho : UnR X (unaryOp op) r) (ha : PE X a ta) : PE X (.UnaryOp op a pos) (tUn r ta) := by
  intro pins s σ H Q I h
  exact UnaryOp_ (thn (ha pins s σ H _ I h) fun v s1 ⟨x, H1, I1, r1, q1⟩ => ho pins s1 σ H1 x v Q I1 r1 q1)
theorem opI {f : Value → Value → Sem Value} {C : Int → Int → Prop} {g : Int → Int → Int}
    (rule : ∀ (i j : Int) (t u : Tok) (s : Shared) (Q : Value → Shared → Prop) (E : Value → Shared → Prop), C i j → Q (.int (g i j) s.toks) { s with toks := s.toks + 1 } → wpAny (model X.prog X.w) X.A (f (.int i t) (.int j u)) Q E s) :
    OpR X f (rI C fun i j => .int (g i j)) := by
  intro pins s σ H x y v u Q I rx ry h
  obtain ⟨i, j, rfl, rfl, hc, q⟩ := h
  obtain ⟨t, rfl⟩ := rx
  obtain ⟨t', rfl⟩ := ry
  exact rule i j t t' s _ _ hc ⟨.int (g i j), H, I.tok _, ⟨_, rfl⟩, q⟩
theorem opI0 {f : Value → Value → Sem Value} {g : Int → Int → Int}
    (rule : ∀ (i j : Int) (t u : Tok) (s : Shared) (Q : Value → Shared → Prop) (E : Value → Shared → Prop), Q (.int (g i j) s.toks) { s with toks := s.toks + 1 } → wpAny (model X.prog X.w) X.A (f (.int i t) (.int j u)) Q E s) :
    OpR X f (rI0 fun i j => .int (g i j)) := by
  intro pins s σ H x y v u Q I rx ry h
  obtain ⟨i, j, rfl, rfl, q⟩ := h
  obtain ⟨t, rfl⟩ := rx
  obtain ⟨t', rfl⟩ := ry
  exact rule i j t t' s _ _ ⟨.int (g i j), H, I.tok _, ⟨_, rfl⟩, q⟩
theorem opB0 {f : Value → Value → Sem Value} {g : Int → Int → Bool}
    (rule : ∀ (i j : Int) (t u : Tok) (s : Shared) (Q : Value → Shared → Prop) (E : Value → Shared → Prop), Q (.bool (g i j)) s → wpAny (model X.prog X.w) X.A (f (.int i t) (.int j u)) Q E s) :
    OpR X f (rI0 fun i j => .bl (g i j)) := by
  intro pins s σ H x y v u Q I rx ry h
  obtain ⟨i, j, rfl, rfl, q⟩ := h
  obtain ⟨t, rfl⟩ := rx
  obtain ⟨t', rfl⟩ := ry
  exact rule i j t t' s _ _ ⟨.bl (g i j), H, I, rfl, q⟩
def CDiv (i j : Int) : Prop := 0 < j ∧ j < 1073741824
def CMul (i j : Int) : Prop := (-(2 ^ 64) < i ∧ i < 2 ^ 64) ∨ (-(2 ^ 64) < j ∧ j < 2 ^ 64)
theorem CMul.ok {i j : Int} (h : CMul i j) : IntMulOk i j := by
  rcases h with ⟨h1, h2⟩ | ⟨h1, h2⟩
  · exact .of_left (intBits_le_64 h1 h2)
  · exact .of_right (intBits_le_64 h1 h2)
theorem op_add : OpR X (binaryOp .Add) (rI0 fun i j => .int (i + j)) := opI0 fun _ _ _ _ _ _ _ q => add_int q
theorem op_sub : OpR X (binaryOp .Sub) (rI0 fun i j => .int (i - j)) := opI0 fun _ _ _ _ _ _ _ q => sub_int q
theorem op_mul : OpR X (binaryOp .Mult) (rI CMul fun i j => .int (i * j)) := opI fun _ _ _ _ _ _ _ hc q => mul_int q hc.ok
theorem op_fdiv : OpR X (binaryOp .FloorDiv) (rI CDiv fun i j => .int (i / j)) := opI fun i j _ _ _ _ _ hc q => by
  have h1 : (0 : Int) < j := hc.1
  have h2 : j < 1073741824 := hc.2
  exact floordiv_int (by omega) (by rw [Int.fdiv_eq_ediv_of_nonneg i (by omega)]; exact q) (.inl (PyProof.noPylong_small (by omega)))
theorem op_and : OpR X (binaryOp .BitAnd) (rI0 fun i j => .int (Builtin.bitAnd i j)) := opI0 fun _ _ _ _ _ _ _ q => and_int q
theorem unI {f : Value → Sem Value} {g : Int → Int}
    (rule : ∀ (i : Int) (t : Tok) (s : Shared) (Q : Value → Shared → Prop) (E : Value → Shared → Prop), Q (.int (g i) s.toks) { s with toks := s.toks + 1 } → wpAny (model X.prog X.w) X.A (f (.int i t)) Q E s) :
    UnR X f (rU fun i => .int (g i)) := by
  intro pins s σ H x v Q I rx h
  obtain ⟨i, rfl, q⟩ := h
  obtain ⟨t, rfl⟩ := rx
  exact rule i t s _ _ ⟨.int (g i), H, I.tok _, ⟨_, rfl⟩, q⟩
theorem un_neg : UnR X (unaryOp .USub) (rU fun i => .int (-i)) := unI fun _ _ _ _ _ q => neg_int q
end
def scal : V → V → Bool
  | .non, .non => true | .non, .int _ => true | .int _, .non => true | .non, .bl _ => true | .bl _, .non => true | .non, .str _ => true | .str _, .non => true
  | .int _, .int _ => true | .bl _, .bl _ => true | .str _, .str _ => true | .byt _, .byt _ => true
  | .int _, .str _ => true | .str _, .int _ => true | .bl _, .str _ => true | .str _, .bl _ => true
  | _, _ => false
def rEq : R2 := fun x y H Q => scal x y = true ∧ Q (.bl (decide (x = y))) H
def rNe : R2 := fun x y H Q => scal x y = true ∧ Q (.bl (!decide (x = y))) H
theorem dec_int {i j : Int} : decide (V.int i = V.int j) = (i == j) := by
  rw [Bool.eq_iff_iff]
  simp
theorem dec_bl {i j : Bool} : decide (V.bl i = V.bl j) = (i == j) := by
  rw [Bool.eq_iff_iff]
  simp
theorem dec_str {i j : Str} : decide (V.str i = V.str j) = (i == j) := by
  rw [Bool.eq_iff_iff]
  simp
theorem dec_byt {i j : Array UInt8} : decide (V.byt i = V.byt j) = (i.toList == j.toList) := by
  rw [Bool.eq_iff_iff]
  cases i
  cases j
  simp
section
variable {X : Cx} {a b c : Expr} {ta tb tc : TE} {pos : Pos}
theorem fin_bl {pins : List (Addr × Obj)} {σ : St} {H : Hp} {s : Shared} {Q : VK} {k k' : Bool} (I : Inv X pins σ H s) (q : Q (.bl k) H) (e : k = k') : EP X pins σ Q (.bool k') s := by
  subst e
  exact ⟨.bl k, H, I, rfl, q⟩
theorem op_eq : OpR X (compareOp .Eq) rEq := by
  intro pins s σ H x y v u Q I rx ry h
  obtain ⟨hs, q⟩ := h
  cases x with
  | non =>
    cases rx
    cases y with
    | non => cases ry; exact PySem.EqNone.eq_none_none (fin_bl I q (by simp))
    | bl j => cases ry; exact PySem.EqNone.eq_none_bool (fin_bl I q (by simp))
    | int j => obtain ⟨t', rfl⟩ := ry; exact PySem.EqNone.eq_none_int (fin_bl I q (by simp))
    | str j => obtain ⟨t', rfl⟩ := ry; exact PySem.EqNone.eq_none_str (fin_bl I q (by simp))
    | _ => exact absurd (show false = true from hs) Bool.false_ne_true
  | bl i =>
    cases rx
    cases y with
    | non => cases ry; exact PySem.EqNone.eq_bool_none (fin_bl I q (by simp))
    | bl j => cases ry; exact eq_bool (fin_bl I q dec_bl)
    | str j => obtain ⟨t', rfl⟩ := ry; exact PySem.EqMixed.eq_bool_str (fin_bl I q (by simp))
    | _ => exact absurd (show false = true from hs) Bool.false_ne_true
  | int i =>
    obtain ⟨t, rfl⟩ := rx
    cases y with
    | non => cases ry; exact PySem.EqNone.eq_int_none (fin_bl I q (by simp))
    | int j => obtain ⟨t', rfl⟩ := ry; exact eq_int (fin_bl I q dec_int)
    | str j => obtain ⟨t', rfl⟩ := ry; exact PySem.EqMixed.eq_int_str (fin_bl I q (by simp))
    | _ => exact absurd (show false = true from hs) Bool.false_ne_true
  | str i =>
    obtain ⟨t, rfl⟩ := rx
    cases y with
    | non => cases ry; exact PySem.EqNone.eq_str_none (fin_bl I q (by simp))
    | bl j => cases ry; exact PySem.EqMixed.eq_str_bool (fin_bl I q (by simp))
    | int j => obtain ⟨t', rfl⟩ := ry; exact PySem.EqMixed.eq_str_int (fin_bl I q (by simp))
    | str j => obtain ⟨t', rfl⟩ := ry; exact eq_str (fin_bl I q dec_str)
    | _ => exact absurd (show false = true from hs) Bool.false_ne_true
  | byt i =>
    obtain ⟨t, rfl⟩ := rx
    cases y with
    | byt j => obtain ⟨t', rfl⟩ := ry; exact PySem.W.eq_bytes (fin_bl I q dec_byt)
    | _ => exact absurd (show false = true from hs) Bool.false_ne_true
  | _ => cases y <;> exact absurd (show false = true from hs) Bool.false_ne_true
theorem op_ne : OpR X (compareOp .NotEq) rNe := by
  intro pins s σ H x y v u Q I rx ry h
  obtain ⟨hs, q⟩ := h
  cases x with
  | non =>
    cases rx
    cases y with
    | non => cases ry; exact PySem.EqNone.ne_none_none (fin_bl I q (by simp))
    | bl j => cases ry; exact PySem.EqNone.ne_none_bool (fin_bl I q (by simp))
    | int j => obtain ⟨t', rfl⟩ := ry; exact PySem.EqNone.ne_none_int (fin_bl I q (by simp))
    | str j => obtain ⟨t', rfl⟩ := ry; exact PySem.EqNone.ne_none_str (fin_bl I q (by simp))
    | _ => exact absurd (show false = true from hs) Bool.false_ne_true
  | bl i =>
    cases rx
    cases y with
    | non => cases ry; exact PySem.EqNone.ne_bool_none (fin_bl I q (by simp))
    | bl j => cases ry; exact ne_bool (fin_bl I q (congrArg not dec_bl))
    | str j => obtain ⟨t', rfl⟩ := ry; exact PySem.EqMixed.ne_bool_str (fin_bl I q (by simp))
    | _ => exact absurd (show false = true from hs) Bool.false_ne_true
  | int i =>
    obtain ⟨t, rfl⟩ := rx
    cases y with
    | non => cases ry; exact PySem.EqNone.ne_int_none (fin_bl I q (by simp))
    | int j => obtain ⟨t', rfl⟩ := ry; exact ne_int (fin_bl I q (congrArg not dec_int))
    | str j => obtain ⟨t', rfl⟩ := ry; exact PySem.EqMixed.ne_int_str (fin_bl I q (by simp))
    | _ => exact absurd (show false = true from hs) Bool.false_ne_true
  | str i =>
    obtain ⟨t, rfl⟩ := rx
    cases y with
    | non => cases ry; exact PySem.EqNone.ne_str_none (fin_bl I q (by simp))
    | bl j => cases ry; exact PySem.EqMixed.ne_str_bool (fin_bl I q (by simp))
    | int j => obtain ⟨t', rfl⟩ := ry; exact PySem.EqMixed.ne_str_int (fin_bl I q (by simp))
    | str j => obtain ⟨t', rfl⟩ := ry; exact ne_str (fin_bl I q (congrArg not dec_str))
    | _ => exact absurd (show false = true from hs) Bool.false_ne_true
  | byt i =>
    obtain ⟨t, rfl⟩ := rx
    cases y with
    | byt j => obtain ⟨t', rfl⟩ := ry; exact PySem.W.ne_bytes (fin_bl I q (congrArg not dec_byt))
    | _ => exact absurd (show false = true from hs) Bool.false_ne_true
  | _ => cases y <;> exact absurd (show false = true from hs) Bool.false_ne_true
theorem op_lt : OpR X (compareOp .Lt) (rI0 fun i j => .bl (decide (i < j))) := opB0 fun _ _ _ _ _ _ _ q => lt_int q
theorem op_le : OpR X (compareOp .LtE) (rI0 fun i j => .bl (decide (i ≤ j))) := opB0 fun _ _ _ _ _ _ _ q => le_int q
theorem op_gt : OpR X (compareOp .Gt) (rI0 fun i j => .bl (decide (j < i))) := opB0 fun _ _ _ _ _ _ _ q => gt_int q
theorem nomark (b : Expr) {op : CmpOp} (h : op ≠ .In := by decide) (h2 : op ≠ .NotIn := by decide) : behindInMarks op b = false := by
  have e1 : (op == CmpOp.In) = false := by cases op <;> first | rfl | exact absurd rfl h
  have e2 : (op == CmpOp.NotIn) = false := by cases op <;> first | rfl | exact absurd rfl h2
  cases b <;> simp [behindInMarks, e1, e2]
theorem pe_cmpR {op : CmpOp} {r : R2} (ho : OpR X (compareOp op) r) (ha : PE X a ta) (hb : PE X b tb) (hm : behindInMarks op b = false) : PE X (.Compare a [op] [b] pos) (tOp r ta tb) := by
  intro pins s σ H Q I h
  exact wpAny_Compare1 (binT ha hb I h fun v u s2 x y H2 I2 rx ry q => ho pins s2 σ H2 x y v u Q I2 rx ry q) hm
def tTest (t : TE) : TT := fun σ H Q => t σ H fun x H' => ∃ k, x = .bl k ∧ Q k H'
theorem pt_cmpR {op : CmpOp} {r : R2} (ho : OpR X (compareOp op) r) (ha : PE X a ta) (hb : PE X b tb) (hm : behindInMarks op b = false) : PT X (.Compare a [op] [b] pos) (tTest (tOp r ta tb)) := by
  intro pins s σ H Q I h
  refine wpAny_isTrue_Compare1 (thn (ha pins s σ H _ I h) fun v s1 ⟨x, H1, I1, r1, q1⟩ => thn (hb pins s1 σ H1 _ I1 q1) fun u s2 ⟨y, H2, I2, r2, q2⟩ =>
    thn (ho pins s2 σ H2 x y v u _ I2 r1 r2 q2) fun c s3 ⟨z, H3, I3, r3, k, e, q3⟩ => ?_) hm
  subst e
  cases r3
  exact wpAny_truthy_bool ⟨H3, I3, q3⟩
def tChain (r r' : R2) (ta tb tc : TE) : TE := fun σ H Q => ta σ H fun x H1 => tb σ H1 fun y H2 => r x y H2 fun z H3 => ∃ k, z = .bl k ∧
  (if k = true then tc σ H3 fun w' H4 => r' y w' H4 Q else Q (.bl false) H3)
theorem pe_chain {op op' : CmpOp} {r r' : R2} (ho : OpR X (compareOp op) r) (ho' : OpR X (compareOp op') r') (ha : PE X a ta) (hb : PE X b tb) (hc : PE X c tc)
    (hm : lastMarks [op, op'] [b, c] = false := by with_unfolding_all rfl) : PE X (.Compare a [op, op'] [b, c] pos) (tChain r r' ta tb tc) := by
  intro pins s σ H Q I h
  refine Compare_chain (thn (ha pins s σ H _ I h) fun v s1 ⟨x, H1, I1, r1, q1⟩ => chain_link (thn (hb pins s1 σ H1 _ I1 q1) fun u s2 ⟨y, H2, I2, r2, q2⟩ =>
    thn (ho pins s2 σ H2 x y v u _ I2 r1 r2 q2) fun d s3 ⟨z, H3, I3, r3, k, e, q3⟩ => ?_)) hm
  subst e
  cases r3
  refine wpAny_truthy_bool ?_
  cases k with
  | false => exact ite_ff ⟨.bl false, H3, I3, rfl, q3⟩
  | true => exact ite_tt (chain_last (thn (hc pins s3 σ H3 _ I3 q3) fun w' s4 ⟨z', H4, I4, r4, q4⟩ => ho' pins s4 σ H4 y z' u w' Q I4 r2 r4 q4))
def TruV (K : PySem.W.Frag) (x : V) (H : Hp) (k : Bool) : Prop :=
  match x with
  | .non => k = false
  | .bl b => k = b
  | .int i => k = (i != 0)
  | .str y => y.length ≤ sizeLine ∧ k = ((y.length : Int) != 0)
  | .byt y => y.size ≤ sizeLine ∧ k = ((y.size : Int) != 0)
  | .ref p => (∃ xs, SqL K H p xs ∧ k = !xs.isEmpty) ∨ (∃ xs, SqT K H p xs ∧ k = !xs.isEmpty) ∨ ∃ kvs, H p = some (.dK kvs) ∧ k = !kvs.isEmpty
  | _ => False
theorem isEmpty_kv {κ : Type} {kvs : List (κ × V)} {vs : List (κ × Value)} (r : KV kvs vs) : (!vs.isEmpty) = !kvs.isEmpty := by
  cases r <;> rfl
theorem isEmpty_of {xs : List V} {its : List Value} (r : Vals xs its) : (!its.toArray.isEmpty) = !xs.isEmpty := by
  cases r <;> simp
theorem line63 : (sizeLine : Nat) < 2 ^ 63 := by rw [sizeLine_eq]; decide
theorem tru_ok : TruR X (fun x H Q => ∃ k, TruV X.K x H k ∧ Q k H) := by
  intro pins s σ H x v Q I rx h
  obtain ⟨k, e, q⟩ := h
  have hl := line63
  have hs : sizeLine = 16777216 := sizeLine_eq
  cases x with
  | non =>
    cases rx
    have e' : k = false := e
    subst e'
    exact truthy_none ⟨H, I, q⟩
  | bl b =>
    cases rx
    have e' : k = b := e
    subst e'
    exact wpAny_truthy_bool ⟨H, I, q⟩
  | int i =>
    obtain ⟨t, rfl⟩ := rx
    have e' : k = (i != 0) := e
    subst e'
    exact PySem.P.truthy_int ⟨H, I, q⟩
  | str y =>
    obtain ⟨t, rfl⟩ := rx
    obtain ⟨hy, e'⟩ : y.length ≤ sizeLine ∧ k = ((y.length : Int) != 0) := e
    subst e'
    exact PySem.P.truthy_str (by omega) ⟨H, I.tok _, q⟩
  | byt y =>
    obtain ⟨t, rfl⟩ := rx
    obtain ⟨hy, e'⟩ : y.size ≤ sizeLine ∧ k = ((y.size : Int) != 0) := e
    subst e'
    exact PySem.W.truthy_bytes (by omega) ⟨H, I.tok _, q⟩
  | ref p =>
    cases rx
    have e' : (∃ xs, SqL X.K H p xs ∧ k = !xs.isEmpty) ∨ (∃ xs, SqT X.K H p xs ∧ k = !xs.isEmpty) ∨ ∃ kvs, H p = some (.dK kvs) ∧ k = !kvs.isEmpty := e
    rcases e' with ⟨xs, hx, e'⟩ | ⟨xs, hx, e'⟩ | ⟨kvs, hx, e'⟩
    · subst e'
      obtain ⟨its, r, pl, hz⟩ := I.list hx
      have hlen := r.length
      exact wpAny_truthy_list pl.isList (by simp only [List.size_toArray]; omega) ⟨H, I.tok _, by rw [isEmpty_of r]; exact q⟩
    · subst e'
      obtain ⟨its, r, pl, hz⟩ := I.tuple hx
      have hlen := r.length
      exact truthy_tuple pl (by simp only [List.size_toArray]; omega) ⟨H, I.tok _, by rw [isEmpty_of r]; exact q⟩
    · subst e'
      obtain ⟨hz, hS, vs, r, m⟩ : kvs.length ≤ sizeLine ∧ (p == sysModules) = false ∧ ∃ vs, KV kvs vs ∧ s.heap.DictOf (mixKind X.prog X.w) p vs := I.hok p _ hx
      have hlen : kvs.length = vs.length := Paired.length r
      exact wpAny_truthy_dict hS m (by omega) ⟨H, I.tok _, by rw [isEmpty_kv r]; exact q⟩
  | _ => exact (show False from e).elim
theorem pt_truth (ha : PE X a ta) (he : ∀ whole, isTrue a X.env whole = (do let v ← whole; standAt a.pos; holding [v] (truthy v))) :
    PT X a (fun σ H Q => ta σ H fun x H' => ∃ k, TruV X.K x H' k ∧ Q k H') := by
  intro pins s σ H Q I h
  exact isTrue_plain (thn (ha pins s σ H _ I h) fun v s1 ⟨x, H1, I1, r1, q1⟩ => tru_ok pins s1 σ H1 x v Q I1 r1 q1) (he _)
theorem vals1 {x : V} {us : List Value} (r : Vals [x] us) : ∃ u, us = [u] ∧ RelV x u := by
  cases r with
  | cons r1 r2 => cases r2; exact ⟨_, rfl, r1⟩
theorem vals2 {x y : V} {us : List Value} (r : Vals [x, y] us) : ∃ u w', us = [u, w'] ∧ RelV x u ∧ RelV y w' := by
  cases r with
  | cons r1 r2 =>
    cases r2 with
    | cons r3 r4 => cases r4; exact ⟨_, _, rfl, r1, r3⟩
theorem call_min2 (hc : X.calm = true) : CallR X (.builtin "min") (fun xs H Q => ∃ i j, xs = [.int i, .int j] ∧ Q (.int (if j < i then j else i)) H) := by
  intro pins s σ H xs us Q I r h
  obtain ⟨i, j, rfl, q⟩ := h
  obtain ⟨u, w', rfl, ⟨t, rfl⟩, ⟨t', rfl⟩⟩ := vals2 r
  refine min_two_ints (I.ok.hd hc) fun h' tk k => ⟨_, H, I.kept k, ?_, q⟩
  by_cases hj : j < i
  · rw [if_pos hj, if_pos hj]; exact ⟨_, rfl⟩
  · rw [if_neg hj, if_neg hj]; exact ⟨_, rfl⟩
end
end L2
namespace L2
open PySem PySem.Spec PyProof.Rows
structure ObjM (h : Heap) (x dx C : Addr) (mA : Str → Option Value) : Prop where
  obj : h.get? x = some (PySem.W.instObj C dx)
  ns : h.Ns1 dx mA
  ne : dx ≠ x
theorem lookIn_ns {h : Heap} {dx : Addr} {mA : Str → Option Value} (n : h.Ns1 dx mA) : ∃ od, h.get? dx = some od ∧ ∀ name, PySem.W.lookIn name od = some (mA name) := by
  obtain ⟨o, es, ep, ho, hd, hk, _, hm⟩ := n
  refine ⟨o, ho, fun name => ?_⟩
  have e := hm name
  unfold nsFind findBy at e
  rw [← Array.find?_toList] at e
  unfold PySem.W.lookIn
  rw [hd]
  dsimp only
  split
  · rename_i y q
    rw [q] at e
    exact congrArg some e
  · rename_i q
    rw [q] at e
    have a : es.toList.any (·.refKey) = false := by
      rw [List.any_eq_false]
      intro y hy
      obtain ⟨z, t, hkey⟩ := hk y (Array.mem_toList_iff.mp hy)
      simp [DictEntry.refKey, hkey]
    have a' : ¬ es.toList.any (·.refKey) = true := by rw [a]; exact Bool.false_ne_true
    rw [if_neg a']
    exact congrArg some e
theorem ObjM.look {h : Heap} {x dx C : Addr} {mA : Str → Option Value} (I : ObjM h x dx C mA) : ∃ od, PySem.W.InstAt h x (PySem.W.instObj C dx) C (some od) ∧ ∀ name, PySem.W.lookIn name od = some (mA name) :=
  let ⟨od, ho, hl⟩ := lookIn_ns I.ns
  ⟨od, ⟨I.obj, rfl, rfl, ho⟩, hl⟩
section
variable {prog : Program} {w : World} {A : Around} {E : Value → Shared → Prop} {s : Shared} {K : PySem.W.Frag} {x dx C f : Addr} {mA : Str → Option Value} {name : Str} {v : Value}
theorem get_map {expr : Bool} {Q : Value → Shared → Prop} (X : K.In s.heap) (I : ObjM s.heap x dx C mA) (hg : PySem.W.plainGet K C name = true) (hh : PySem.W.hasDictIn K C = true)
    (ha : PySem.W.findIn K (.ref C) name = some none) (hv : mA name = some v) (hv' : PySem.W.handedIn v = true) (h : Q v { s with toks := s.toks + 1 }) :
    wpAny (model prog w) A (getAttr (.ref x) name expr) Q E s := by
  obtain ⟨od, J, hl⟩ := I.look
  exact PySem.W.get_value X J (PySem.W.plainGet_of hg).1 (PySem.W.findObj_own hh ha rfl (by rw [hl, hv])) hv' h
theorem get_meth {pl : Sem Bool} {Q : Value × List Value → Shared → Prop} (X : K.In s.heap) (I : ObjM s.heap x dx C mA) (hg : PySem.W.plainGet K C name = true)
    (hf : PySem.W.findIn K (.ref C) name = some (some (.ref f))) (ht : PySem.W.isFn K (.ref f) = true) (hv : mA name = none) (h : Q (.ref f, [.ref x]) s) :
    wpAny (model prog w) A (getMethod (.ref x) name pl) Q E s := by
  obtain ⟨od, J, hl⟩ := I.look
  exact PySem.W.method_fn X J (PySem.W.plainGet_of hg).1 (PySem.W.plainGet_of hg).2 hf (beq_iff_eq.mp ht) (by show (PySem.W.lookIn name od).map (·.isSome) = some false; rw [hl, hv]; rfl) h
theorem set_map {ns : List Str} {Q : Unit → Shared → Prop} (X : K.In s.heap) (I : ObjM s.heap x dx C mA)
    (hs : PySem.W.findIn K (.ref C) "__setattr__" = some (some (.builtin "object.__setattr__"))) (hp : PySem.W.plainOver K C = true) (ht : PySem.W.takerIn K C name = some none) (hh : PySem.W.hasDictIn K C = true)
    (hw : PySem.Within mA ns) (hsz : ns.length ≤ sizeLine)
    (h : ∀ h', ObjM h' x dx C (fun y => if y = name then some v else mA y) → Heap.SameBut dx s.heap h' → Q () { s with heap := h', toks := s.toks + 2 }) :
    wpAny (model prog w) A (setAttr (.ref x) name v) Q E s := by
  obtain ⟨od, J, hl⟩ := I.look
  refine PySem.W.set_plain X J hs (PySem.W.osa_open (s := { s with toks := s.toks + 1 }) (r := none) X J hp ht fun b => ?_)
  obtain ⟨cd, hc, hd'⟩ := PySem.W.any_some hh
  have hx : s.heap.get? x = some ⟨.ref C, some dx, .plain, #[]⟩ := I.obj
  refine wpAny_bind (wpAny_pure (wpAny_bind (wpAny_bind (wpAny_loadPart hx (wpAny_bind (PySem.W.Looks.here (s := { s with toks := s.toks + 1 }) (PySem.W.looks_clsIn X hc) ?_))))))
  rw [hd']
  refine wpAny_pure (a := some dx) (wpAny_bind (wpAny_pure (wpAny_bind ?_)))
  refine wpAny_nsSet1 (s := { s with toks := s.toks + 1 }) I.ns fun h' hn2 hs2 => ?_
  obtain ⟨oD, esD, epD, hoD, hdD, hcD⟩ := hn2.count (PySem.Within.cons name v hw)
  refine wpAny_bind (wpAny_lookBehind hoD (by rw [hdD]; exact pastItsLine_dict (Nat.le_trans hcD (by rw [List.length_cons]; omega))) ?_)
  exact wpAny_pure (h _ ⟨(hs2.2 _ (Ne.symm I.ne)).trans I.obj, hn2, I.ne⟩ hs2)
theorem make_map {R : Result → Shared → Prop} {vs : List Value} {kw : List (Str × Value)} (X : K.In s.heap) (hm : PySem.W.makesIn K C = true)
    (hi : PySem.W.findIn K (.ref C) "__init__" = some (some (.ref f))) (hf : PySem.W.typeIn K (.ref f) = some (.type "function"))
    (h : codeAny (model prog w) (A.under (.builtin "type.__call__" ⟨.ref C :: vs, kw⟩)) (.call (.ref f) ⟨.ref (s.heap.objs.size + 1) :: vs, kw⟩) (PySem.W.InitBack (s.heap.objs.size + 1) R)
      { s with heap := (s.heap.push PySem.W.emptyDict).push (PySem.W.instObj C s.heap.objs.size) }) :
    codeAny (model prog w) A (.call (.ref C) ⟨vs, kw⟩) R s := by
  obtain ⟨hh, g, d, t, os⟩ := s
  exact PySem.W.make_core (PySem.W.makes_of X hm) (PySem.W.looks_findIn X hi) (fun self => PySem.W.bind_fn X self hf) (.inl rfl) h
end
def putF (f : Str) (v : V) : List (Str × V) → List (Str × V)
  | [] => [(f, v)]
  | (g, x) :: r => if g = f then (g, v) :: r else (g, x) :: putF f v r
theorem lookup_putF (f g : Str) (v : V) : ∀ fs : List (Str × V), (putF f v fs).lookup g = if g = f then some v else fs.lookup g
  | [] => by
    show List.lookup g [(f, v)] = _
    by_cases h : g = f
    · have hb : (g == f) = true := beq_iff_eq.mpr h
      simp only [List.lookup, hb, if_pos h]
    · have hb : (g == f) = false := beq_eq_false_iff_ne.mpr h
      simp only [List.lookup, hb, if_neg h]
  | (k, x) :: r => by
    have ih := lookup_putF f g v r
    rw [show putF f v ((k, x) :: r) = (if k = f then (k, v) :: r else (k, x) :: putF f v r) from rfl]
    by_cases hk : k = f
    · rw [if_pos hk]
      by_cases h : g = k
      · have hb : (g == k) = true := beq_iff_eq.mpr h
        simp only [List.lookup, hb, if_pos (h.trans hk)]
      · have hb : (g == k) = false := beq_eq_false_iff_ne.mpr h
        simp only [List.lookup, hb, if_neg (fun e : g = f => h (e.trans hk.symm))]
    · rw [if_neg hk]
      by_cases h : g = k
      · have hb : (g == k) = true := beq_iff_eq.mpr h
        simp only [List.lookup, hb, if_neg (fun e : g = f => hk (h.symm.trans e))]
      · have hb : (g == k) = false := beq_eq_false_iff_ne.mpr h
        simp only [List.lookup, hb]
        exact ih
theorem keys_putF (f : Str) (v : V) : ∀ fs : List (Str × V), f ∈ (putF f v fs).map (·.1) ∧ ∀ g, g ∈ fs.map (·.1) → g ∈ (putF f v fs).map (·.1)
  | [] => ⟨by simp [putF], fun g h => by simp at h⟩
  | (k, x) :: r => by
    obtain ⟨i1, i2⟩ := keys_putF f v r
    rw [show putF f v ((k, x) :: r) = (if k = f then (k, v) :: r else (k, x) :: putF f v r) from rfl]
    by_cases hk : k = f
    · rw [if_pos hk]
      subst hk
      exact ⟨by simp, fun g h => by simpa using h⟩
    · rw [if_neg hk]
      refine ⟨?_, fun g h => ?_⟩
      · rw [List.map_cons]
        exact List.mem_cons_of_mem _ i1
      · rw [List.map_cons] at h ⊢
        rcases List.mem_cons.mp h with e | e
        · exact List.mem_cons.mpr (.inl e)
        · exact List.mem_cons_of_mem _ (i2 g e)
theorem length_putF (f : Str) (v : V) : ∀ fs : List (Str × V), (putF f v fs).length ≤ fs.length + 1
  | [] => by simp [putF]
  | (k, x) :: r => by
    have ih := length_putF f v r
    rw [show putF f v ((k, x) :: r) = (if k = f then (k, v) :: r else (k, x) :: putF f v r) from rfl]
    by_cases hk : k = f
    · rw [if_pos hk, List.length_cons, List.length_cons]; omega
    · rw [if_neg hk, List.length_cons, List.length_cons]; omega
theorem RelO.some_of {v : V} {o : Option Value} (r : RelO (some v) o) : ∃ u, o = some u ∧ RelV v u := by
  cases o with
  | none => exact (show False from r).elim
  | some u => exact ⟨u, rfl, r⟩
theorem RelO.none_of {o : Option Value} (r : RelO none o) : o = none := by
  cases o with
  | none => rfl
  | some u => exact (show False from r).elim
theorem handed_of {v : V} {u : Value} (r : RelV v u) : PySem.W.handedIn u = true := by
  cases v with
  | non => cases (show u = Value.none from r); rfl
  | bl b => cases (show u = Value.bool b from r); rfl
  | int i => obtain ⟨t, e⟩ := (show ∃ t, u = Value.int i t from r); cases e; rfl
  | str x => obtain ⟨t, e⟩ := (show ∃ t, u = Value.str x t from r); cases e; rfl
  | byt b => obtain ⟨t, e⟩ := (show ∃ t, u = Value.bytes b t from r); cases e; rfl
  | flt b => obtain ⟨t, e⟩ := (show ∃ t, u = Value.float b t from r); cases e; rfl
  | ref a => cases (show u = Value.ref a from r); rfl
  | ty n => cases (show u = Value.type n from r); rfl
section
variable {P : Program} {w : World} {H H' : Hp} {h h' : Heap} {a C dx : Addr} {fs fs' : List (Str × V)}
theorem ins_get (hok : HOk P w H h) (e : H a = some (.ins C dx fs)) : ∃ mA, ObjM h a dx C mA ∧ (∀ f, RelO (fs.lookup f) (mA f)) ∧ PySem.Within mA (fs.map (·.1)) ∧ fs.length ≤ 1000 ∧ H dx = some (.own a) := by
  obtain ⟨d, z, ne, ob, mA, n, r, q⟩ := (show ObjOk P w H h a (.ins C dx fs) from hok a _ e)
  exact ⟨mA, ⟨ob, n, ne⟩, r, q, z, d⟩
end
structure Cls (K : PySem.W.Frag) (C : Addr) : Prop where
  pg : PySem.W.plainGet K C Str.empty = true
  hd : PySem.W.hasDictIn K C = true
  po : PySem.W.plainOver K C = true
  sa : PySem.W.findIn K (.ref C) "__setattr__" = some (some (.builtin "object.__setattr__"))
theorem Cls.get {K : PySem.W.Frag} {C : Addr} (c : Cls K C) (f : Str) : PySem.W.plainGet K C f = true := c.pg
def NoAttr (K : PySem.W.Frag) (C : Addr) (f : Str) : Prop := PySem.W.findIn K (.ref C) f = some none
theorem NoAttr.taker {K : PySem.W.Frag} {C : Addr} {f : Str} (n : NoAttr K C f) : PySem.W.takerIn K C f = some none := by
  unfold PySem.W.takerIn
  rw [show PySem.W.findIn K (.ref C) f = some none from n]
  rfl
structure Meth (K : PySem.W.Frag) (C : Addr) (m : Str) (f : Addr) : Prop where
  at_ : PySem.W.findIn K (.ref C) m = some (some (.ref f))
  fn : PySem.W.isFn K (.ref f) = true
  kp : PySem.W.keepIn K (.ref f) = true
section
variable {X : Cx} {pins : List (Addr × Obj)} {σ : St} {H : Hp} {s : Shared} {a C dx : Addr} {fs : List (Str × V)} {f : Str} {v : V} {A : Around} {E : Value → Shared → Prop}
theorem getattr_ok {b : Bool} {Q : Value → Shared → Prop} (I : Inv X pins σ H s) (e : H a = some (.ins C dx fs)) (c : Cls X.K C) (n : NoAttr X.K C f) (l : fs.lookup f = some v)
    (h : ∀ u s', Inv X pins σ H s' → RelV v u → Q u s') : wpAny (model X.prog X.w) A (getAttr (.ref a) f b) Q E s := by
  obtain ⟨mA, O, r, _, _, _⟩ := ins_get I.hok e
  obtain ⟨u, hu, ru⟩ := RelO.some_of (v := v) (o := mA f) (by rw [← l]; exact r f)
  exact get_map I.kIn O (c.get f) c.hd n hu (handed_of ru) (h u _ (I.tok _) ru)
theorem getmeth_ok {m : Str} {g : Addr} {pl : Sem Bool} {Q : Value × List Value → Shared → Prop} (I : Inv X pins σ H s) (e : H a = some (.ins C dx fs)) (c : Cls X.K C) (k : Meth X.K C m g) (l : fs.lookup m = none)
    (h : Q (.ref g, [.ref a]) s) : wpAny (model X.prog X.w) A (getMethod (.ref a) m pl) Q E s := by
  obtain ⟨mA, O, r, _, _, _⟩ := ins_get I.hok e
  have hn : mA m = none := RelO.none_of (by rw [← l]; exact r m)
  exact get_meth I.kIn O (c.get m) k.at_ k.fn hn h
theorem setattr_ok {y : V} {u : Value} {Q : Unit → Shared → Prop} (I : Inv X pins σ H s) (e : H a = some (.ins C dx fs)) (c : Cls X.K C) (n : NoAttr X.K C f) (hl : fs.length < 1000) (ry : RelV y u)
    (h : ∀ s', Inv X pins σ (upd H a (.ins C dx (putF f y fs))) s' → Q () s') : wpAny (model X.prog X.w) A (setAttr (.ref a) f u) Q E s := by
  obtain ⟨mA, O, r, wi, _, ho⟩ := ins_get I.hok e
  have hz : (fs.map (·.1)).length ≤ sizeLine := by rw [List.length_map, sizeLine_eq]; omega
  refine set_map I.kIn O c.sa c.po n.taker c.hd wi hz fun h' O' sb => h _ ?_
  have hd : ∃ o, h'.get? dx = some o := let ⟨o, _, _, e', _⟩ := O'.ns; ⟨o, e'⟩
  refine I.write (x := a) (e := dx) (by rw [e]; exact True.intro) (.inr ho) (fun b q hb z => (sb.2 b hb).trans z) hd ?_
  refine ⟨by rw [upd_ne O.ne]; exact ho, ?_, O.ne, O'.obj, _, O'.ns, fun g => ?_, fun g hg => ?_⟩
  · have := length_putF f y fs; omega
  · show RelO ((putF f y fs).lookup g) (if g = f then some u else mA g)
    rw [lookup_putF]
    by_cases q : g = f
    · rw [if_pos q, if_pos q]; exact ry
    · rw [if_neg q, if_neg q]; exact r g
  · by_cases q : g = f
    · rw [q]; exact (keys_putF f y fs).1
    · refine (keys_putF f y fs).2 g (wi g fun z => hg ?_)
      show (if g = f then some u else mA g) = none
      rw [if_neg q]; exact z
theorem Inv.made (I : Inv X pins σ H s) : Inv X pins σ (upd (upd H s.heap.objs.size (.own (s.heap.objs.size + 1))) (s.heap.objs.size + 1) (.ins C s.heap.objs.size []))
    { s with heap := (s.heap.push PySem.W.emptyDict).push (PySem.W.instObj C s.heap.objs.size) } := by
  have e1 : (s.heap.push PySem.W.emptyDict).get? s.heap.objs.size = some PySem.W.emptyDict := Heap.get?_push_size s.heap rfl
  have e2 : ((s.heap.push PySem.W.emptyDict).push (PySem.W.instObj C s.heap.objs.size)).get? (s.heap.objs.size + 1) = some (PySem.W.instObj C s.heap.objs.size) := by
    have := Heap.get?_push_size (s.heap.push PySem.W.emptyDict) (o := PySem.W.instObj C s.heap.objs.size) rfl
    rwa [Heap.size_push] at this
  have e3 : (s.heap.push PySem.W.emptyDict).Ns s.heap.objs.size (fun _ => none) := ⟨PySem.W.emptyDict, #[], _, e1, rfl, (fun e he => absurd he (by simp)), fun _ => rfl⟩
  have I1 := I.laid (a := s.heap.objs.size) (o := .own (s.heap.objs.size + 1)) (h' := s.heap.push PySem.W.emptyDict) (t' := s.toks) (fun b u q => Heap.get?_push_of_some _ q) (Nat.le_refl _) ⟨_, e1⟩
  refine I1.laid (a := s.heap.objs.size + 1) (o := .ins C s.heap.objs.size []) (t' := s.toks) (fun b u q => Heap.get?_push_of_some _ q) (Nat.le_of_eq (Heap.size_push _ _)) ?_
  have ne : s.heap.objs.size ≠ s.heap.objs.size + 1 := Nat.ne_of_lt (Nat.lt_succ_self _)
  refine ⟨by rw [upd_ne ne, upd_same], Nat.zero_le _, ne, e2, fun _ => none, (Heap.Ns1.of_empty e3).at fun o q => Heap.get?_push_of_some _ q, fun _ => True.intro, fun y hy => absurd rfl hy⟩
theorem attr_of {prog : Program} {w : World} {env : Env} {e : Expr} {f : Str} {pos : Pos} {s : Shared} {Q : Value → Shared → Prop} (hb : attributeBase e f env (eval e env) = eval e env)
    (h : wpAny (model prog w) A (eval e env) (fun o s₁ => wpAny (model prog w) A (getAttr o f true) Q E s₁) E s) : wpAny (model prog w) A (eval (.Attribute e f pos) env) Q E s :=
  Attribute_any_ h (by rw [arm_eval_Attribute, hb])
end
def tFld (K : PySem.W.Frag) (ta : TE) (f : Str) : TE := fun σ H Q => ta σ H fun x H1 => ∃ a C dx fs v, x = .ref a ∧ H1 a = some (.ins C dx fs) ∧ Cls K C ∧ NoAttr K C f ∧ fs.lookup f = some v ∧ Q v H1
def sFld (K : PySem.W.Frag) (ta tv : TE) (f : Str) : TS := fun D σ H => tv σ H fun y H1 => ta σ H1 fun x H2 => ∃ a C dx fs, x = .ref a ∧ H2 a = some (.ins C dx fs) ∧ Cls K C ∧ NoAttr K C f ∧ fs.length < 1000 ∧
  D.nx σ (upd H2 a (.ins C dx (putF f y fs)))
section
variable {X : Cx} {o e value : Expr} {f : Str} {pos pos' tpos : Pos} {ta tv : TE}
theorem pe_fld (he : PE X e ta) (hb : attributeBase e f X.env (eval e X.env) = eval e X.env) : PE X (.Attribute e f pos) (tFld X.K ta f) := by
  intro pins s σ H Q I h
  refine attr_of hb (thn (he pins s σ H _ I h) fun u s1 ⟨x, H1, I1, rx, a, C, dx, fs, v, ex, ea, c, n, l, q⟩ => ?_)
  subst ex
  obtain rfl : u = Value.ref a := rx
  exact getattr_ok I1 ea c n l fun u' s2 I2 ru => ⟨v, H1, I2, ru, q⟩
theorem ps_fld (ha : PE X o ta) (hv : PE X value tv) (hs : swapsWith value (some (.Attribute o f pos')) pos.line X.env = pure false) : PS X (.Assign [.Attribute o f pos'] value pos) (sFld X.K ta tv f) := by
  intro pins s σ H D I h
  refine plainObj_wpAny_Assign_Attribute (thn (hv pins s σ H _ I h) fun u s1 ⟨y, H1, I1, ry, q⟩ => thn (ha pins s1 σ H1 _ I1 q) fun ov s2 ⟨x, H2, I2, rx, a, C, dx, fs, ex, ea, c, n, l, q2⟩ => ?_) hs
  subst ex
  obtain rfl : ov = Value.ref a := rx
  exact setattr_ok I2 ea c n l ry fun s3 I3 => ⟨σ, _, I3, q2⟩
end
end L2
namespace L2
open PySem PySem.Spec PyProof.Rows
structure Room (k : Nat) (A : Around) : Prop where
  hd : A.handled = none
  dp : A.depth + 3 * k + 5 < recursionLimit
  un : A.units + 16 * k + 200 < cLine
theorem Room.mono {j k : Nat} {A : Around} (r : Room k A) (h : j ≤ k) : Room j A := ⟨r.hd, by have := r.dp; omega, by have := r.un; omega⟩
theorem Room.deeper {k : Nat} {A : Around} (r : Room (k + 1) A) (env : Env) : Room k (A.deeper env) :=
  ⟨r.hd, by have := r.dp; show A.depth + 1 + 3 * k + 5 < _; omega, by have := r.un; show A.units + 3 + 16 * k + 200 < _; omega⟩
theorem make_depth {A : Around} {C : Addr} {us : List Value} {kw : List (Str × Value)} : (A.under (.builtin "type.__call__" ⟨.ref C :: us, kw⟩)).depth = A.depth + 1 := by
  first | rfl | simp [Around.under, Code.weight, Code.isCreation, Code.isGuard, Code.isCaller, Code.frames, Code.isFrame, guardIds]
theorem make_units {A : Around} {C : Addr} {us : List Value} {kw : List (Str × Value)} : (A.under (.builtin "type.__call__" ⟨.ref C :: us, kw⟩)).units = A.units + 1 := by
  first | rfl | simp [Around.under, Code.cUnits, Code.frames, Code.isFrame]
theorem Room.make {k : Nat} {A : Around} (r : Room (k + 1) A) (C : Addr) (us : List Value) (kw : List (Str × Value)) : Room k (A.under (.builtin "type.__call__" ⟨.ref C :: us, kw⟩)) :=
  ⟨r.hd, by have := r.dp; rw [make_depth]; omega, by have := r.un; rw [make_units]; omega⟩
theorem Room.depth {k : Nat} {A : Around} (r : Room k A) : A.depth < recursionLimit := by have := r.dp; omega
theorem Room.units {k : Nat} {A : Around} (r : Room k A) : A.units + 64 < cLine := by have := r.un; omega
def tNil : TA := fun _ H Q => Q [] H
def tCons (ta : TE) (tr : TA) : TA := fun σ H Q => ta σ H fun x H1 => tr σ H1 fun xs H2 => Q (x :: xs) H2
section
variable {X : Cx} {e : Expr} {es : List Expr} {te : TE} {t : TA} {pos : Pos}
theorem pa_nil : PA X [] tNil := fun _ _ _ _ H Q I h => Calls.spliced_nil ⟨[], H, I, .nil, h⟩
theorem pa_cons (ha : PE X e te) (hr : PA X es t) (hs : starEach (e :: es) X.env = (false, eval e X.env) :: starEach es X.env := by rfl) : PA X (e :: es) (tCons te t) := by
  intro pos pins s σ H Q I h
  rw [hs]
  show wpAny _ _ (spliced ((false, eval e X.env) :: backTo pos (starEach es X.env))) _ _ s
  refine Calls.spliced_cons (thn (ha pins s σ H _ I h) fun u s1 ⟨x, H1, I1, r1, q1⟩ => ?_)
  exact thn (hr pos pins s1 σ H1 _ I1 q1) fun us s2 ⟨xs, H2, I2, r2, q2⟩ => ⟨x :: xs, H2, I2, .cons r1 r2, q2⟩
def tLst (t : TA) : TE := fun σ H Q => t σ H fun xs H1 => xs.length ≤ sizeLine ∧ ∀ p, H1 p = none → Q (.ref p) (upd H1 p (.lst xs))
theorem pe_lst (h : PA X es t) : PE X (.List es pos) (tLst t) := by
  intro pins s σ H Q I hq
  refine wpAny_List_spliced (thn (h pos pins s σ H _ I hq) fun us s1 ⟨xs, H1, I1, r, z, q⟩ => ⟨by rw [← r.length]; exact z, ?_⟩)
  have hf : H1 s1.heap.objs.size = none := I1.hok.fresh (Nat.le_refl _)
  refine ⟨.ref s1.heap.objs.size, upd H1 s1.heap.objs.size (.lst xs), I1.laid (t' := s1.toks) (fun b u e => Heap.get?_push_of_some _ e) (Nat.le_refl _) ?_, rfl, q _ hf⟩
  exact ⟨z, us, 0, r, Heap.get?_push_size _ rfl⟩
end
abbrev Sp := List V → Hp → VK → XK → Prop
abbrev CXT := List Env → Hp → Shared → XK → Value → Shared → Prop
structure Env0 (P : Program) (w : World) (K : PySem.W.Frag) (mg : Str → Option Value) (base : Heap) (A : Around) (outer : List Env) (s : Shared) (H : Hp) : Prop where
  frames : A.frames = some outer
  mod : Mod K mg base
  bs : ∀ b o, base.get? b = some o → s.heap.get? b = some o ∧ H b = none
  bsz : base.objs.size ≤ s.heap.objs.size
  funs : s.heap.FunFrames base outer
  frf : ∀ b ∈ frs outer, H b = none
  hok : HOk P w H s.heap
  bare : AllBare s.gens
def CE (outer : List Env) (P : Program) (w : World) (H : Hp) (s : Shared) (Q : VK) (u : Value) (s' : Shared) : Prop :=
  ∃ v H', s'.os = s.os ∧ AllBare s'.gens ∧ Un (frs outer) [] H H' s.heap s'.heap ∧ HOk P w H' s'.heap ∧ RelV v u ∧ Q v H'
def CR (CX : CXT) (outer : List Env) (P : Program) (w : World) (H : Hp) (s : Shared) (Q : VK) (E : XK) (r : Result) (s' : Shared) : Prop :=
  match r with
  | .ok (.ret u) => CE outer P w H s Q u s'
  | .ok _ => False
  | .error e => CX outer H s E e s'
structure FnOk (P : Program) (w : World) (K : PySem.W.Frag) (mg : Str → Option Value) (base : Heap) (CX : CXT) (k : Nat) (f : Addr) (fd : FuncData) (ps : List Str) (sp : Sp) : Prop where
  len : ∀ vs H Q E, sp vs H Q E → vs.length = ps.length
  run : ∀ (A : Around) (outer : List Env) (s : Shared) (H : Hp) (args : Args) (us : List Value) (vs : List V) (Q : VK) (E : XK), Room k A → Env0 P w K mg base A outer s H → BindsTo s fd args (ps.zip us) → Vals vs us → sp vs H Q E →
    codeAny (model P w) A (.call (.ref f) args) (CR CX outer P w H s Q E) s
theorem Env0.make {P : Program} {w : World} {K : PySem.W.Frag} {mg : Str → Option Value} {base : Heap} {A : Around} {outer : List Env} {s : Shared} {H : Hp} (e : Env0 P w K mg base A outer s H) (C : Addr) (us : List Value) (kw : List (Str × Value)) :
    Env0 P w K mg base (A.under (.builtin "type.__call__" ⟨.ref C :: us, kw⟩)) outer s H := ⟨by first | exact e.frames | (simpa [Around.under, Code.envs, Code.isFrame, pushEnvs] using e.frames), e.mod, e.bs, e.bsz, e.funs, e.frf, e.hok, e.bare⟩
section
variable {X : Cx} {pins : List (Addr × Obj)} {σ : St} {H : Hp} {s s' : Shared}
theorem Inv.env0 (I : Inv X pins σ H s) : Env0 X.prog X.w X.K X.mg X.base X.A X.stack s H :=
  ⟨I.ok.frames, I.ok.mod, I.bs, Nat.le_trans I.ok.bsz I.sz, I.stack, I.stkFree, I.hok, I.bare⟩
theorem Inv.after {Q : VK} {u : Value} (I : Inv X pins σ H s) (h : CE X.stack X.prog X.w H s Q u s') : EP X pins σ Q u s' := by
  obtain ⟨v, H', os, bare, un, hok, r, q⟩ := h
  obtain ⟨hh, g, d, t, os'⟩ := s'
  obtain rfl : os' = s.os := os
  exact ⟨v, H', I.call (h' := hh) (g' := g) (d' := d) (t' := t) (ch := []) un hok bare (fun b z => absurd z (by simp)), r, q⟩
end
def tCall (sp : Sp) (dvs : List V) (E : XK) (t : TA) : TE := fun σ H Q => t σ H fun vs H1 => sp (vs ++ dvs) H1 Q E
def tMeth (C : Addr) (m : Str) (sp : Sp) (dvs : List V) (E : XK) (ta : TE) (t : TA) : TE := fun σ H Q => ta σ H fun x H1 => ∃ a dx fs, x = .ref a ∧ H1 a = some (.ins C dx fs) ∧ fs.lookup m = none ∧
  t σ H1 fun vs H2 => sp (x :: (vs ++ dvs)) H2 Q E
def tMake (C : Addr) (sp : Sp) (dvs : List V) (E : XK) (t : TA) : TE := fun σ H Q => t σ H fun vs H1 => ∀ x dx, H1 x = none → H1 dx = none → dx ≠ x →
  sp (.ref x :: (vs ++ dvs)) (upd (upd H1 dx (.own x)) x (.ins C dx [])) (fun v H2 => v = .non ∧ Q (.ref x) H2) E
def Binds (K : PySem.W.Frag) (fd : FuncData) (ps : List Str) (ds : List Value) : Prop :=
  ∀ (s : Shared) (us : List Value), K.In s.heap → (us ++ ds).length = ps.length → BindsTo s fd ⟨us, []⟩ (ps.zip (us ++ ds))
theorem Binds.all {K : PySem.W.Frag} {fd : FuncData} {ps : List Str} (h : ∀ us : List Value, us.length = ps.length → bindArgs fd ⟨us, []⟩ = pure (ps.zip us)) : Binds K fd ps [] := fun s us _ hl => by
  rw [List.append_nil] at hl ⊢
  exact .of_eq (h us hl)
def Passes (CX : CXT) (X : Cx) (E : XK) : Prop := ∀ (pins : List (Addr × Obj)) (σ : St) (H : Hp) (s : Shared) (e : Value) (s' : Shared), Inv X pins σ H s → CX X.stack H s E e s' → X.xe e s'
section
variable {X : Cx} {CX : CXT} {k : Nat} {f C : Addr} {fd : FuncData} {ps : List Str} {sp : Sp} {dvs : List V} {ds : List Value} {E : XK} {x m : Str} {p pos apos : Pos} {e o : Expr} {es : List Expr} {ta : TE} {t : TA}
theorem run_fn {pins : List (Addr × Obj)} {σ : St} {H : Hp} {s : Shared} {Q : VK} {us : List Value} {vs : List V} (F : FnOk X.prog X.w X.K X.mg X.base CX k f fd ps sp) (hr : Room k X.A) (hb : Binds X.K fd ps ds) (hd : Vals dvs ds) (hx : Passes CX X E)
    (I : Inv X pins σ H s) (r : Vals vs us) (h : sp (vs ++ dvs) H Q E) : wpAny (model X.prog X.w) X.A (call (.ref f) us) (EP X pins σ Q) X.xe s := by
  have r2 : Vals (vs ++ dvs) (us ++ ds) := r.append hd
  have hl : (us ++ ds).length = ps.length := by rw [← r2.length]; exact F.len _ _ _ _ h
  refine wpAny_call (codeAny_mono (F.run X.A X.stack s H ⟨us, []⟩ (us ++ ds) (vs ++ dvs) Q E hr I.env0 (hb s us I.kIn hl) r2 h) fun r s' hq => ?_)
  cases r with
  | error e => exact hx pins σ H s e s' I hq
  | ok fl =>
    cases fl with
    | ret u => exact I.after hq
    | next => exact False.elim hq
    | brk => exact False.elim hq
    | cont => exact False.elim hq
theorem pe_call (F : FnOk X.prog X.w X.K X.mg X.base CX k f fd ps sp) (hr : Room k X.A) (hg : Gl X x) (hm : X.mg x = some (.ref f)) (hk : PySem.W.keepIn X.K (.ref f) = true) (hb : Binds X.K fd ps ds) (hd : Vals dvs ds) (hx : Passes CX X E)
    (ha : PA X (e :: es) t) (hdb : (x == ("__debug__" : Str)) = false := by decide) (he : starEach (e :: es) X.env = (false, eval e X.env) :: starEach es X.env := by rfl) (hpl : (backTo pos (starEach es X.env)).any (·.1) = false := by rfl) :
    PE X (.Call (.Name x p) (e :: es) [] pos) (tCall sp dvs E t) := by
  intro pins s σ H Q I h
  refine wpAny_Call_Name_kw (ld_glob I hg hm ?_ hdb)
  refine PySem.W.callWith_K (h₀ := X.base) I.ok.mod.kin hk (thn (ha pos pins s σ H _ I h) fun us s1 ⟨vs, H1, I1, r, q⟩ => ⟨I1.kIn, ?_⟩) he hpl
  exact run_fn F hr hb hd hx I1 r q
theorem pe_meth {pl : Sem Bool} (he : PE X o ta) (c : Cls X.K C) (hm : Meth X.K C m f) (F : FnOk X.prog X.w X.K X.mg X.base CX k f fd ps sp) (hr : Room k X.A) (hb : Binds X.K fd ps ds) (hd : Vals dvs ds) (hx : Passes CX X E) (ha : PA X (e :: es) t)
    (hst : starEach (e :: es) X.env = (false, eval e X.env) :: starEach es X.env := by rfl) (hpl : (backTo pos (starEach es X.env)).any (·.1) = false := by rfl)
    (ht : eval (.Call (.Attribute o m apos) (e :: es) [] pos) X.env = (do
      let ov ← eval o X.env
      standAt apos.atName
      let (f, first) ← holding [ov] (getMethod ov m pl)
      callWith pos f first (backTo pos (starEach (e :: es) X.env)) (backToKw pos (keywordEach [] X.env))) := by rfl) :
    PE X (.Call (.Attribute o m apos) (e :: es) [] pos) (tMeth C m sp dvs E ta t) := by
  intro pins s σ H Q I h
  refine PySem.W.methodCall_KW (pl := pl) (thn (he pins s σ H _ I h) fun u s1 ⟨x, H1, I1, rx, a, dx, fs, ex, ea, l, q⟩ => ?_) ht
  subst ex
  obtain rfl : u = Value.ref a := rx
  refine getmeth_ok I1 ea c hm l ?_
  refine PySem.W.callWith_K (first := [.ref a]) (h₀ := X.base) I.ok.mod.kin hm.kp (thn (ha pos pins s1 σ H1 _ I1 q) fun us s2 ⟨vs, H2, I2, r, q2⟩ => ⟨I2.kIn, ?_⟩) hst hpl
  exact run_fn (us := .ref a :: us) (vs := .ref a :: vs) F hr hb hd hx I2 (.cons rfl r) q2
theorem pe_meth0 {pl : Sem Bool} (he : PE X o ta) (c : Cls X.K C) (hm : Meth X.K C m f) (F : FnOk X.prog X.w X.K X.mg X.base CX k f fd ps sp) (hr : Room k X.A) (hb : Binds X.K fd ps ds) (hd : Vals dvs ds) (hx : Passes CX X E)
    (ht : eval (.Call (.Attribute o m apos) [] [] pos) X.env = (do
      let ov ← eval o X.env
      standAt apos.atName
      let (f, first) ← holding [ov] (getMethod ov m pl)
      callWith pos f first (backTo pos (starEach [] X.env)) (backToKw pos (keywordEach [] X.env))) := by rfl) :
    PE X (.Call (.Attribute o m apos) [] [] pos) (tMeth C m sp dvs E ta tNil) := by
  intro pins s σ H Q I h
  refine PySem.W.methodCall_KW (pl := pl) (thn (he pins s σ H _ I h) fun u s1 ⟨x, H1, I1, rx, a, dx, fs, ex, ea, l, q⟩ => ?_) ht
  subst ex
  obtain rfl : u = Value.ref a := rx
  refine getmeth_ok I1 ea c hm l ?_
  exact PySem.W.callWith_K0 (first := [.ref a]) I1.kIn hm.kp (run_fn (us := [.ref a]) (vs := [.ref a]) F hr hb hd hx I1 (.cons rfl .nil) q)
structure Mk (K : PySem.W.Frag) (C f : Addr) : Prop where
  makes : PySem.W.makesIn K C = true
  init : PySem.W.findIn K (.ref C) "__init__" = some (some (.ref f))
  fn : PySem.W.isFn K (.ref f) = true
  kp : PySem.W.keepIn K (.ref C) = true
theorem run_make {pins : List (Addr × Obj)} {σ : St} {H : Hp} {s : Shared} {Q : VK} {us : List Value} {vs : List V} (M : Mk X.K C f) (F : FnOk X.prog X.w X.K X.mg X.base CX k f fd ps sp) (hr : Room (k + 1) X.A) (hb : Binds X.K fd ps ds) (hd : Vals dvs ds)
    (hx : Passes CX X E) (I : Inv X pins σ H s) (r : Vals vs us)
    (h : ∀ x dx, H x = none → H dx = none → dx ≠ x → sp (.ref x :: (vs ++ dvs)) (upd (upd H dx (.own x)) x (.ins C dx [])) (fun v H2 => v = .non ∧ Q (.ref x) H2) E) :
    wpAny (model X.prog X.w) X.A (call (.ref C) us) (EP X pins σ Q) X.xe s := by
  have hq := h (s.heap.objs.size + 1) s.heap.objs.size (I.hok.fresh (Nat.le_succ _)) (I.hok.fresh (Nat.le_refl _)) (Nat.ne_of_lt (Nat.lt_succ_self _))
  have I2 := Inv.made (C := C) I
  have r2 : Vals (V.ref (s.heap.objs.size + 1) :: (vs ++ dvs)) (Value.ref (s.heap.objs.size + 1) :: (us ++ ds)) := .cons rfl (r.append hd)
  have hl : (Value.ref (s.heap.objs.size + 1) :: us ++ ds).length = ps.length := by
    have e := r2.length
    rw [F.len _ _ _ _ hq] at e
    exact e.symm
  refine wpAny_call (make_map (f := f) I.kIn M.makes M.init (beq_iff_eq.mp M.fn) (codeAny_mono (F.run _ X.stack _ _ ⟨Value.ref (s.heap.objs.size + 1) :: us, []⟩ (Value.ref (s.heap.objs.size + 1) :: (us ++ ds)) _ _ E (hr.make C us [])
    (I2.env0.make C us []) (hb _ (Value.ref (s.heap.objs.size + 1) :: us) I2.kIn hl) r2 hq) fun r s' hq' => ?_))
  cases r with
  | error e => exact hx pins σ _ _ e s' I2 hq'
  | ok fl =>
    cases fl with
    | ret u =>
      obtain ⟨v, H', I3, rv, ev, q3⟩ := I2.after hq'
      subst ev
      exact ⟨rv, ⟨V.ref (s.heap.objs.size + 1), H', I3, rfl, q3⟩⟩
    | next => exact False.elim hq'
    | brk => exact False.elim hq'
    | cont => exact False.elim hq'
theorem pe_make (M : Mk X.K C f) (F : FnOk X.prog X.w X.K X.mg X.base CX k f fd ps sp) (hr : Room (k + 1) X.A) (hg : Gl X x) (hm : X.mg x = some (.ref C)) (hb : Binds X.K fd ps ds) (hd : Vals dvs ds) (hx : Passes CX X E)
    (ha : PA X (e :: es) t) (hdb : (x == ("__debug__" : Str)) = false := by decide) (he : starEach (e :: es) X.env = (false, eval e X.env) :: starEach es X.env := by rfl) (hpl : (backTo pos (starEach es X.env)).any (·.1) = false := by rfl) :
    PE X (.Call (.Name x p) (e :: es) [] pos) (tMake C sp dvs E t) := by
  intro pins s σ H Q I h
  refine wpAny_Call_Name_kw (ld_glob I hg hm ?_ hdb)
  refine PySem.W.callWith_K (h₀ := X.base) I.ok.mod.kin M.kp (thn (ha pos pins s σ H _ I h) fun us s1 ⟨vs, H1, I1, r, q⟩ => ⟨I1.kIn, ?_⟩) he hpl
  exact run_make M F hr hb hd hx I1 r q
theorem pe_make0 (M : Mk X.K C f) (F : FnOk X.prog X.w X.K X.mg X.base CX k f fd ps sp) (hr : Room (k + 1) X.A) (hg : Gl X x) (hm : X.mg x = some (.ref C)) (hb : Binds X.K fd ps ds) (hd : Vals dvs ds) (hx : Passes CX X E)
    (hdb : (x == ("__debug__" : Str)) = false := by decide) : PE X (.Call (.Name x p) [] [] pos) (tMake C sp dvs E tNil) := by
  intro pins s σ H Q I h
  refine wpAny_Call_Name_kw (ld_glob I hg hm ?_ hdb)
  exact PySem.W.callWith_K0 I.kIn M.kp (run_make (us := []) M F hr hb hd hx I .nil h)
end
structure FnScope (N P : List Str) (sc : Scope) : Prop where
  kind : sc.kind = .function
  co : sc.isCoroutine = false
  gen : sc.isGenerator = false
  nd : N.Nodup
  pre : N.take P.length = P
  par : ∀ x ∈ P, sc.names.lookup x = some .local ∨ sc.names.lookup x = some .cell
  nofree : ∀ y ∈ sc.names, y.2 ≠ .free
theorem bindL_out {kindOf : Str → Option NameKind} {x : Str} : ∀ {binds : List (Str × Value)} {m : Str → Option Value}, (∀ v, (x, v) ∉ binds) → bindL kindOf binds m x = m x
  | [], _, _ => rfl
  | (n, v) :: r, m, h => by
    unfold bindL
    rw [bindL_out fun w hw => h w (List.mem_cons_of_mem _ hw)]
    split
    · have : x ≠ n := by rintro rfl; exact h v List.mem_cons_self
      simp [this]
    · rfl
theorem bindC_out {kindOf : Str → Option NameKind} {x : Str} : ∀ {binds : List (Str × Value)} {m : Str → Option Value}, (∀ v, (x, v) ∉ binds) → bindC kindOf binds m x = m x
  | [], _, _ => rfl
  | (n, v) :: r, m, h => by
    unfold bindC
    rw [bindC_out fun w hw => h w (List.mem_cons_of_mem _ hw)]
    split
    · rfl
    · have : x ≠ n := by rintro rfl; exact h v List.mem_cons_self
      simp [this]
theorem bindL_get {kindOf : Str → Option NameKind} {x : Str} {v : Value} : ∀ {P : List Str} {vs : List Value} {i : Nat} {m : Str → Option Value}, P.Nodup → P[i]? = some x → vs[i]? = some v → kindOf x = some .local →
    bindL kindOf (P.zip vs) m x = some v
  | [], _, _, _, _, h, _, _ => by simp at h
  | _ :: _, [], _, _, _, _, h, _ => by simp at h
  | p :: P, w :: vs, 0, m, nd, h1, h2, hk => by
    simp at h1 h2; subst h1; subst h2
    show bindL kindOf ((p, w) :: P.zip vs) m p = _
    unfold bindL
    rw [bindL_out fun v hv => (List.nodup_cons.mp nd).1 (List.of_mem_zip hv).1, if_pos hk]
    simp
  | p :: P, w :: vs, i + 1, m, nd, h1, h2, hk => by
    show bindL kindOf ((p, w) :: P.zip vs) m x = _
    unfold bindL
    exact bindL_get (i := i) (List.nodup_cons.mp nd).2 (by simpa using h1) (by simpa using h2) hk
theorem bindC_get {kindOf : Str → Option NameKind} {x : Str} {v : Value} : ∀ {P : List Str} {vs : List Value} {i : Nat} {m : Str → Option Value}, P.Nodup → P[i]? = some x → vs[i]? = some v → kindOf x ≠ some .local →
    bindC kindOf (P.zip vs) m x = some v
  | [], _, _, _, _, h, _, _ => by simp at h
  | _ :: _, [], _, _, _, _, h, _ => by simp at h
  | p :: P, w :: vs, 0, m, nd, h1, h2, hk => by
    simp at h1 h2; subst h1; subst h2
    show bindC kindOf ((p, w) :: P.zip vs) m p = _
    unfold bindC
    rw [bindC_out fun v hv => (List.nodup_cons.mp nd).1 (List.of_mem_zip hv).1, if_neg hk]
    simp
  | p :: P, w :: vs, i + 1, m, nd, h1, h2, hk => by
    show bindC kindOf ((p, w) :: P.zip vs) m x = _
    unfold bindC
    exact bindC_get (i := i) (List.nodup_cons.mp nd).2 (by simpa using h1) (by simpa using h2) hk
def start (N : List Str) (vs : List V) : St := vs.map some ++ List.replicate (N.length - vs.length) none
def cxOf (CX : CXT) (P : Program) (w : World) (K : PySem.W.Frag) (mg : Str → Option Value) (base : Heap) (N : List Str) (qual : Str) (scope : Scope) (f : Addr) (cd : Value) (A : Around) (outer : List Env) (s : Shared) (H : Hp) (E : XK) : Cx where
  prog := P
  w := w
  K := K
  mg := mg
  base := base
  A := A.deeper (envOfC qual scope s.heap.objs.size f cd)
  N := N
  s₀ := s
  H₀ := H
  env := envOfC qual scope s.heap.objs.size f cd
  outer := outer
  stack := envOfC qual scope s.heap.objs.size f cd :: outer
  ex := []
  calm := true
  fn := fun _ => true
  pn := []
  xe := fun e s' => wpAny (model P w) (A.deeper (envOfC qual scope s.heap.objs.size f cd)) (leaving (envOfC qual scope s.heap.objs.size f cd) e) (fun _ s'' => CX outer H s E e s'') (fun e' s'' => CX outer H s E e' s'') s'
theorem cell_has {sc : Scope} {n : Nat} {x : Str} (h : sc.names.lookup x = some .cell) : ∃ c, (cellsFrom n sc.names []).lookup x = some c := by
  have q := PySem.W.cellsFrom_some sc.names n [] (.inl h)
  exact Option.isSome_iff_exists.mp q
theorem inv_start {CX : CXT} {P : Program} {w : World} {K : PySem.W.Frag} {mg : Str → Option Value} {base : Heap} {N ps : List Str} {qual : Str} {scope : Scope} {f : Addr} {cd : Value} {A : Around} {outer : List Env} {s s1 : Shared} {H : Hp} {E : XK} {us : List Value} {vs : List V}
    (S : FnScope N ps scope) (hd : A.handled = none) (e0 : Env0 P w K mg base A outer s H) (hl : vs.length = ps.length) (r : Vals vs us)
    (x : InCallC s s.heap.objs.size (bindL (envOfC qual scope s.heap.objs.size f cd).kindOf (ps.zip us) fun _ => none) (cellsFrom (s.heap.objs.size + 1) scope.names []) (bindC (envOfC qual scope s.heap.objs.size f cd).kindOf (ps.zip us) fun _ => none) s1) :
    Inv (cxOf CX P w K mg base N qual scope f cd A outer s H E) [] (start N vs) H s1 := by
  have hpl : ps.length ≤ N.length := by have := congrArg List.length S.pre; rw [List.length_take] at this; omega
  obtain ⟨h1, tk, rfl, hk⟩ := x.done
  have noA : ∀ b : Addr, b ∉ (cxOf CX P w K mg base N qual scope f cd A outer s H E).ex := fun b z => absurd (show b ∈ ([] : List Addr) from z) (by simp)
  refine ⟨⟨e0.mod, S.kind, rfl, rfl, Nat.le_refl _, fun y z c h1 h2 => ?_, fun y hy => ?_, fun y c _ h => ?_, fun _ => hd, Around.frames_deeper e0.frames, .inr ⟨rfl, rfl⟩, fun b z => absurd z (noA b), e0.bs, e0.bsz, fun b _ _ => noA b, fun b z => absurd z (noA b), e0.funs, e0.frf⟩,
    rfl, e0.bare, Un.kept hk, ⟨_, x.toInCall.ns, fun i y v h1 h2 h3 => ?_⟩, fun y c h => ⟨_, x.cell y c h⟩, e0.hok.fresh (Nat.le_refl _), fun y c h => ?_, fun p hp => absurd (show p ∈ ([] : List (Addr × Obj)) from hp) (by simp), e0.hok.kept hk, ?_⟩
  · exact name_of_addr x.apart (PySem.mem_of_lookup h1) (PySem.mem_of_lookup h2)
  · have hy : scope.names.lookup y = some .cell ∨ scope.names.lookup y = some .free := hy
    rcases hy with hy | hy
    · exact cell_has hy
    · exact absurd rfl (S.nofree _ (PySem.mem_of_lookup hy))
  · exact Nat.le_of_lt (x.above y c (PySem.mem_of_lookup h))
  · have hi : i < vs.length := by
      unfold start at h2
      by_cases hi : i < vs.length
      · exact hi
      · rw [List.getElem?_append_right (by simpa using hi)] at h2
        rw [List.getElem?_replicate] at h2
        split at h2 <;> cases h2
    have ha : vs[i]? = some v := by
      unfold start at h2
      rw [List.getElem?_append_left (by simpa using hi), List.getElem?_map] at h2
      cases e : vs[i]? with
      | none => rw [e] at h2; cases h2
      | some a => rw [e] at h2; cases h2; rfl
    obtain ⟨u, hu, rv⟩ := r.get ha
    have hp : ps[i]? = some y := by
      rw [← S.pre, List.getElem?_take_of_lt (by omega)]; exact h1
    have ndP : ps.Nodup := by rw [← S.pre]; exact S.nd.sublist (List.take_sublist _ _)
    refine ⟨u, rv, ?_⟩
    rcases S.par y (List.mem_of_getElem? hp) with k | k
    · exact .inl ⟨k, bindL_get ndP hp hu k⟩
    · obtain ⟨c, e⟩ := cell_has (n := s.heap.objs.size + 1) k
      refine .inr ⟨.inl k, c, e, ?_⟩
      have q := x.cell y c e
      rw [bindC_get ndP hp hu (by show scope.names.lookup y ≠ _; rw [k]; decide)] at q
      exact q
  · exact e0.hok.fresh (Nat.le_of_lt (x.above y c (PySem.mem_of_lookup h)))
  · unfold start
    show _ = N.length
    rw [List.length_append, List.length_map, List.length_replicate]
    omega
theorem fn_of {CX : CXT} {P : Program} {w : World} {K : PySem.W.Frag} {mg : Str → Option Value} {base : Heap} {k : Nat} {f : Addr} {name qual : Str} {params : Arguments} {body : List Stmt} {scope : Scope} {dV kV doc pm cdv ct oc : Value} {an od : Option Addr}
    {osl : Array (Option Value)} {N ps : List Str} {sp : Sp} (lk : K.lookup f = some ⟨oc, od, .func (PySem.W.fnOf name qual params body scope dV kV doc pm an cdv ct), osl⟩) (hcd : PySem.W.codeIn K cdv qual = true) (S : FnScope N ps scope)
    (len : ∀ vs H Q E, sp vs H Q E → vs.length = ps.length)
    (hbody : ∀ (A : Around) (outer : List Env) (s : Shared) (H : Hp) (vs : List V) (Q : VK) (E : XK), Room k (A.deeper (envOfC qual scope s.heap.objs.size f cdv)) → sp vs H Q E →
      ∃ t, PSs (cxOf CX P w K mg base N qual scope f cdv A outer s H E) body t ∧ t { nx := fun _ H' => Q .non H', rt := Q } (start N vs) H) :
    FnOk P w K mg base CX (k + 1) f (PySem.W.fnOf name qual params body scope dV kV doc pm an cdv ct) ps sp := by
  refine ⟨len, fun A outer s H args us vs Q E hr e0 hb r hsp => ?_⟩
  have hl := len _ _ _ _ hsp
  have KX : K.In s.heap := e0.mod.kin.keeps fun b o e => (e0.bs b o e).1
  have lim : s.heap.NoLimit := e0.mod.nolimit.keeps fun b o e => (e0.bs b o e).1
  have hkind : ∀ y ∈ ps.zip us, scope.names.lookup y.1 = some .local ∨ (scope.names.lookup y.1 = some .cell ∧ ((cellsFrom (s.heap.objs.size + 1) scope.names []).lookup y.1).isSome = true) := fun ⟨n, v⟩ hy => by
    rcases S.par n (List.of_mem_zip hy).1 with q | q
    · exact .inl q
    · exact .inr ⟨q, PySem.W.cellsFrom_some _ _ _ (.inl q)⟩
  refine codeAny_call_function hr.depth (KX _ _ lk) rfl S.co S.gen rfl (PySem.W.codeRec_of KX hcd) (hb _ _ _ _ ?_)
  refine wpAny_newFunctionEnv_cells S.kind hkind fun env he s1 x => ?_
  subst he
  refine ⟨lim.keeps x.toInCall.keep, codeAny_func ?_⟩
  obtain ⟨t, ht, hq⟩ := hbody A outer s H vs Q E (hr.deeper _) hsp
  have I : Inv (cxOf CX P w K mg base N qual scope f cdv A outer s H E) [] (start N vs) H s1 := inv_start S hr.hd e0 hl r x
  refine wpAny_mono (ht [] s1 (start N vs) H _ I hq) (fun fl s' hs => ?_) fun e s' hs => hs
  have fin : ∀ {σ' : St} {H' : Hp} {v : V} {u : Value}, Inv (cxOf CX P w K mg base N qual scope f cdv A outer s H E) [] σ' H' s' → RelV v u → Q v H' → CE outer P w H s Q u s' :=
    fun {σ' H' v u} J rv q => ⟨v, H', J.os, J.bare, J.base, J.hok, rv, q⟩
  cases fl with
  | ret u =>
    obtain ⟨v, σ', H', J, rv, q⟩ := hs
    exact fin J rv q
  | next =>
    obtain ⟨σ', H', J, q⟩ := hs
    exact fin (v := V.non) (u := Value.none) J rfl q
  | brk =>
    obtain ⟨_, _, _, q⟩ := hs
    exact False.elim q
  | cont =>
    obtain ⟨_, _, _, q⟩ := hs
    exact False.elim q
end L2
namespace L2
open PySem PySem.Spec PyProof.Rows
section
variable {X : Cx} {x : Str} {p pos : Pos} {e : Expr} {es : List Expr} {t : TA} {id T : String} {r : List V → Hp → VK → Prop}
def tCB (r : List V → Hp → VK → Prop) (t : TA) : TE := fun σ H Q => t σ H fun vs H1 => r vs H1 Q
theorem pe_callB (hc : CallR X (.builtin id) r) (hg : Gl X x) (hm : X.mg x = none) (hv : bootBuiltins x = some (.builtin id)) (ha : PA X (e :: es) t) (hn : x ≠ "__name__" := by decide) (hdb : (x == ("__debug__" : Str)) = false := by decide)
    (he : starEach (e :: es) X.env = (false, eval e X.env) :: starEach es X.env := by rfl) (hpl : (backTo pos (starEach es X.env)).any (·.1) = false := by rfl) : PE X (.Call (.Name x p) (e :: es) [] pos) (tCB r t) := by
  intro pins s σ H Q I h
  refine wpAny_Call_Name_kw (ld_blt I hg hm hv ?_ hn hdb)
  exact PyProof.Rows.callWith_builtin1 (thn (ha pos pins s σ H _ I h) fun us s1 ⟨vs, H1, I1, r1, q1⟩ => hc pins s1 σ H1 vs us Q I1 r1 q1) he hpl
theorem pe_callTy (hc : CallR X (.type T) r) (hg : Gl X x) (hm : X.mg x = none) (hv : bootBuiltins x = some (.type T)) (ha : PA X (e :: es) t) (hn : x ≠ "__name__" := by decide) (hdb : (x == ("__debug__" : Str)) = false := by decide)
    (he : starEach (e :: es) X.env = (false, eval e X.env) :: starEach es X.env := by rfl) (hpl : (backTo pos (starEach es X.env)).any (·.1) = false := by rfl) : PE X (.Call (.Name x p) (e :: es) [] pos) (tCB r t) := by
  intro pins s σ H Q I h
  refine wpAny_Call_Name_kw (ld_blt I hg hm hv ?_ hn hdb)
  exact PyProof.Rows.callWith_type1 (thn (ha pos pins s σ H _ I h) fun us s1 ⟨vs, H1, I1, r1, q1⟩ => hc pins s1 σ H1 vs us Q I1 r1 q1) he hpl
end
end L2
namespace HT
open PySem PyProof.Rows
section
open PySem.SeqAt
open PySem.AutoSeq1 (wpAny_loadPart')
open PySem.MeetsSeq PySem.MeetsSeq2 PySem.MeetsSeq3
end
section
variable {prog : Program} {w : World} {A : Around} {E : Value → Shared → Prop} {s : Shared}
def sIx (n d : Nat) : Option Int → Nat
  | none => d
  | some v => if v < 0 then (v + (n : Int)).toNat else min v.toNat n
theorem sIx_nat (n d k : Nat) : sIx n d (some (k : Int)) = min k n := by
  show (if (k : Int) < 0 then ((k : Int) + (n : Int)).toNat else min (k : Int).toNat n) = min k n
  rw [if_neg (by omega), Int.toNat_natCast]
end
end HT
namespace L2
open PySem PySem.Spec PyProof.Rows
abbrev TO := St → Hp → (Option Int → Hp → Prop) → Prop
def PO (X : Cx) (e : Option Expr) (t : TO) : Prop :=
  ∀ (pins : List (Addr × Obj)) (s : Shared) (σ : St) (H : Hp) (Q : Option Int → Hp → Prop), Inv X pins σ H s → t σ H Q →
    wpAny (model X.prog X.w) X.A (evalPart e X.env) (fun u s' => ∃ o H', Inv X pins σ H' s' ∧ IsPart u o ∧ Q o H') X.xe s
def tNoPart : TO := fun _ H Q => Q none H
def tPart (t : TE) : TO := fun σ H Q => t σ H fun x H1 => ∃ i, x = .int i ∧ Q (some i) H1
section
variable {X : Cx} {e : Expr} {te : TE} {lo hi : Option Expr} {tl th : TO} {pos p2 : Pos}
theorem po_none : PO X none tNoPart := by
  intro pins s σ H Q I h
  rw [evalPart_none]
  exact wpAny_pure ⟨none, H, I, .none, h⟩
theorem po_some (h : PE X e te) : PO X (some e) (tPart te) := by
  intro pins s σ H Q I hw
  rw [evalPart_some]
  refine thn (h pins s σ H _ I hw) fun u s1 ⟨x, H1, I1, r1, q1⟩ => ?_
  obtain ⟨i, rfl, q⟩ := q1
  obtain ⟨t, rfl⟩ := r1
  exact ⟨some i, H1, I1, .int i t, q⟩
def SlR (X : Cx) (r : V → Option Int → Option Int → Hp → VK → Prop) : Prop :=
  ∀ (pins : List (Addr × Obj)) (s : Shared) (σ : St) (H : Hp) (x : V) (v vl vu : Value) (lo hi : Option Int) (sl : Addr) (Q : VK), Inv X pins σ H s → RelV x v → s.heap.IsSliceOf sl vl vu .none → IsPart vl lo → IsPart vu hi → r x lo hi H Q →
    ∃ T id, typeLookup (.type T) "__getitem__" = pure (some (.builtin id)) ∧ s.TypeIs v T ∧ wpAny (model X.prog X.w) X.A (getItem v (.ref sl)) (EP X pins σ Q) X.xe s
def tSl (r : V → Option Int → Option Int → Hp → VK → Prop) (te : TE) (tl th : TO) : TE := fun σ H Q => te σ H fun x H1 => tl σ H1 fun l H2 => th σ H2 fun u H3 => r x l u H3 Q
theorem pe_slice {r : V → Option Int → Option Int → Hp → VK → Prop} (hr : SlR X r) (he : PE X e te) (hl : PO X lo tl) (hu : PO X hi th) : PE X (.Subscript e (.Slice lo hi none p2) pos) (tSl r te tl th) := by
  intro pins s σ H Q I h
  refine Subscript_ (thn (he pins s σ H _ I h) fun v s1 ⟨x, H1, I1, r1, q1⟩ => ?_)
  refine wpAny_Slice (thn (hl pins s1 σ H1 _ I1 q1) fun vl s2 ⟨l, H2, I2, pl, q2⟩ => thn (hu pins s2 σ H2 _ I2 q2) fun vu s3 ⟨u, H3, I3, pu, q3⟩ => ?_)
  rw [evalPart_none]
  refine wpAny_pure ?_
  have I4 : Inv X pins σ H3 { s3 with heap := s3.heap.push { cls := .type "slice", data := .fields #[vl, vu, .none] } } := I3.kept (t' := s3.toks) fun b ob q => Heap.get?_push_of_some _ q
  obtain ⟨T, id, hT, ht, hg⟩ := hr pins { s3 with heap := s3.heap.push { cls := .type "slice", data := .fields #[vl, vu, .none] } } σ H3 x v vl vu l u s3.heap.objs.size Q I4 r1 (Heap.IsSliceOf.new ..) pl pu q3
  show wpAny (model X.prog X.w) X.A (subscriptTail e (.Slice lo hi none p2) v (.ref s3.heap.objs.size)) (EP X pins σ Q) X.xe { s3 with heap := s3.heap.push { cls := .type "slice", data := .fields #[vl, vu, .none] } }
  exact tail_any (ops := [.ref s3.heap.objs.size, v]) ht hT hg (by with_unfolding_all rfl)
def cutV (xs : List V) (lo hi : Option Int) : List V := (xs.drop (HT.sIx xs.length 0 lo)).take (HT.sIx xs.length xs.length hi - HT.sIx xs.length 0 lo)
theorem cutV_length (xs : List V) (lo hi : Option Int) : (cutV xs lo hi).length ≤ xs.length := by
  unfold cutV
  rw [List.length_take, List.length_drop]
  omega
end
end L2
namespace L2
open PySem PySem.Spec PyProof.Rows
def ixN (n : Nat) (i : Int) : Option Nat := if 0 ≤ i then (if i < n then some i.toNat else none) else if -(n : Int) ≤ i then some (i + n).toNat else none
def atI {α : Type} (xs : List α) (i : Int) : Option α := (ixN xs.length i).bind fun j => xs[j]?
theorem ixN_seq {n : Nat} {i : Int} {j : Nat} (h : ixN n i = some j) : seqIndex? i n = some j ∧ j < n ∧ -(n : Int) ≤ i ∧ i < n := by
  unfold ixN at h
  by_cases h0 : 0 ≤ i
  · rw [if_pos h0] at h
    by_cases h1 : i < n
    · rw [if_pos h1] at h
      have e : i.toNat = j := Option.some.inj h
      exact ⟨by rw [seqIndex_of h0 h1, e], by omega, by omega, h1⟩
    · rw [if_neg h1] at h; cases h
  · rw [if_neg h0] at h
    by_cases h1 : -(n : Int) ≤ i
    · rw [if_pos h1] at h
      have e : (i + n).toNat = j := Option.some.inj h
      exact ⟨by rw [seqIndex_neg (by omega) h1, e], by omega, h1, by omega⟩
    · rw [if_neg h1] at h; cases h
theorem atI_get {α : Type} {xs : List α} {i : Int} {v : α} (h : atI xs i = some v) : ∃ j, seqIndex? i xs.length = some j ∧ xs[j]? = some v ∧ j < xs.length ∧ -(xs.length : Int) ≤ i ∧ i < xs.length := by
  unfold atI at h
  cases e : ixN xs.length i with
  | none => rw [e] at h; cases h
  | some j =>
    rw [e] at h
    obtain ⟨h1, h2, h3, h4⟩ := ixN_seq e
    exact ⟨j, h1, h, h2, h3, h4⟩
theorem atI_nat {α : Type} {xs : List α} {j : Nat} {v : α} (h : xs[j]? = some v) : atI xs (j : Int) = some v := by
  have hj : j < xs.length := (List.getElem?_eq_some_iff.mp h).1
  have e : ixN xs.length (j : Int) = some j := by
    unfold ixN
    rw [if_pos (by omega), if_pos (by omega)]; simp
  unfold atI; rw [e]; exact h
def PlainIx (b : Expr) : Prop := ∀ o i, subscripted b false o i = operate [o, i] (getItem o i)
def IxR (X : Cx) (r : R2) : Prop :=
  ∀ (value slice : Expr) (pins : List (Addr × Obj)) (s : Shared) (σ : St) (H : Hp) (x y : V) (v u : Value) (Q : VK), Inv X pins σ H s → RelV x v → RelV y u → r x y H Q →
    subscripted slice false v u = operate [v, u] (getItem v u) → wpAny (model X.prog X.w) X.A (subscriptTail value slice v u) (EP X pins σ Q) X.xe s
def MtR (X : Cx) (id : String) (r : V → List V → Hp → VK → Prop) : Prop :=
  ∀ (pins : List (Addr × Obj)) (s : Shared) (σ : St) (H : Hp) (x : V) (xs : List V) (v : Value) (us : List Value) (Q : VK), Inv X pins σ H s → RelV x v → Vals xs us → r x xs H Q →
    wpAny (model X.prog X.w) X.A (call (.builtin id) (v :: us)) (EP X pins σ Q) X.xe s
section
variable {X : Cx} {a b : Expr} {ta tb : TE} {pos : Pos}
theorem pe_ix {r : R2} (hr : IxR X r) (ha : PE X a ta) (hb : PE X b tb) (hs : PlainIx b) : PE X (.Subscript a b pos) (tOp r ta tb) := by
  intro pins s σ H Q I h
  exact Subscript_ (binT ha hb I h fun v u s2 x y H2 I2 rx ry q => hr a b pins s2 σ H2 x y v u Q I2 rx ry q (hs _ _))
def rIxL (K : PySem.W.Frag) : R2 := fun x y H Q => ∃ p xs i v, x = .ref p ∧ y = .int i ∧ SqL K H p xs ∧ atI xs i = some v ∧ Q v H
theorem ix_list : IxR X (rIxL X.K) := by
  intro value slice pins s σ H x y v u Q I rx ry h hs
  obtain ⟨p, xs, i, z, rfl, rfl, hq, he, q⟩ := h
  cases rx
  obtain ⟨t, rfl⟩ := ry
  obtain ⟨its, r, pl, hz⟩ := I.list hq
  obtain ⟨j, h1, h2, h3, h4, h5⟩ := atI_get he
  obtain ⟨w, ew, rw'⟩ := r.get h2
  have hl := r.length
  have hn := line63
  have fin : EP X pins σ Q w s := ⟨z, H, I, rw', q⟩
  by_cases h0 : 0 ≤ i
  · have hj : i.toNat = j := by
      rw [seqIndex_of h0 h5] at h1
      exact Option.some.inj h1
    exact item_listR pl.isList h0 (by omega) (by rw [hj]; simpa using ew) fin hs
  · have hj : (i + (its.toArray.size : Int)).toNat = j := by
      rw [seqIndex_neg (by omega) h4] at h1
      rw [List.size_toArray, ← hl]
      exact Option.some.inj h1
    exact subscriptTail_builtinR (x := w) pl.isList.typeIs slot_list_getitem.lookup
      (wpAny_getItem_list_neg (Q := fun r s' => r = w ∧ EP X pins σ Q r s') pl.isList (by omega) (by rw [List.size_toArray] <;> omega) (by omega) (by rw [hj]; simpa using ew) ⟨rfl, fin⟩) hs
theorem mapSeq_set (its : List Value) (n j : Nat) (u : Value) : Obj.mapSeq (·.setIfInBounds j u) { cls := .type "list", data := .seq its.toArray n } = { cls := .type "list", data := .seq (its.set j u).toArray n } := by
  simp [Obj.mapSeq]
theorem Inv.lst {pins : List (Addr × Obj)} {σ : St} {H : Hp} {s : Shared} {p : Addr} {xs : List V} (I : Inv X pins σ H s) (h : H p = some (.lst xs)) :
    ∃ (its : List Value) (n : Nat), Vals xs its ∧ s.heap.get? p = some { cls := .type "list", data := .seq its.toArray n } ∧ xs.length ≤ sizeLine := by
  obtain ⟨z, its, n, r, e⟩ := I.hok p _ h
  exact ⟨its, n, r, e, z⟩
theorem Inv.lstUpd {pins : List (Addr × Obj)} {σ : St} {H : Hp} {s : Shared} {p : Addr} {xs ys : List V} {its its' : List Value} {n n' : Nat} {f : Obj → Obj} (I : Inv X pins σ H s) (h : H p = some (.lst xs))
    (ho : s.heap.get? p = some { cls := .type "list", data := .seq its.toArray n }) (hf : f { cls := .type "list", data := .seq its.toArray n } = { cls := .type "list", data := .seq its'.toArray n' }) (r : Vals ys its') (hz : ys.length ≤ sizeLine) (t : Nat) :
    Inv X pins σ (upd H p (.lst ys)) { s with heap := s.heap.update p f, toks := t } := by
  have e : (s.heap.update p f).get? p = some { cls := .type "list", data := .seq its'.toArray n' } := by
    rw [Heap.get?_update_self f ho (by rw [hf] <;> rfl), hf]
  refine I.write (x := p) (e := p) (by rw [h]; trivial) (.inl rfl) (fun b u hb q => (Heap.get?_update_other _ _ (Ne.symm hb)).trans q) ⟨_, e⟩ ?_
  exact ⟨hz, its', n', r, e⟩
def rSetL : V → V → V → Hp → (Hp → Prop) → Prop := fun o i v H Q => ∃ p xs k j, o = .ref p ∧ i = .int k ∧ H p = some (.lst xs) ∧ ixN xs.length k = some j ∧ Q (upd H p (.lst (xs.set j v)))
theorem set_list : PSet X rSetL := by
  intro pins s σ H o i v ov iv u Q I ro ri rv h
  obtain ⟨p, xs, k, j, rfl, rfl, hp, hj, q⟩ := h
  cases ro
  obtain ⟨t, rfl⟩ := ri
  obtain ⟨its, n, r, ho, hz⟩ := I.lst hp
  obtain ⟨h1, h2, h3, h4⟩ := ixN_seq hj
  have hl := r.length
  have hn := line63
  have I' : Inv X pins σ (upd H p (.lst (xs.set j v))) { s with heap := s.heap.update p (Obj.mapSeq (·.setIfInBounds j u)) } :=
    I.lstUpd hp ho (mapSeq_set its n j u) (r.set rv j) (by rw [List.length_set]; exact hz) s.toks
  by_cases h0 : 0 ≤ k
  · have hk : k.toNat = j := by
      rw [seqIndex_of h0 h4] at h1
      exact Option.some.inj h1
    exact PySem.W.ki_setAt ho h0 (by omega) (by rw [List.size_toArray, ← hl]; exact h4) (by rw [hk]; exact ⟨_, I', q⟩)
  · have hk : (k + (its.toArray.size : Int)).toNat = j := by
      rw [seqIndex_neg (by omega) h3] at h1
      rw [List.size_toArray, ← hl]
      exact Option.some.inj h1
    exact PySem.W.ki_setBack ho (by omega) (by rw [List.size_toArray, ← hl]; exact h3) (by omega) (by rw [hk]; exact ⟨_, I', q⟩)
theorem slice_bounds (lo hi : Option Int) (n : Nat) : (sliceBounds lo hi none n).1 = ((HT.sIx n 0 lo : Nat) : Int) ∧ (sliceBounds lo hi none n).2.1 = ((HT.sIx n n hi : Nat) : Int) ∧ (sliceBounds lo hi none n).2.2 = 1 := by
  refine ⟨?_, ?_, rfl⟩
  · cases lo with
    | none => simp [sliceBounds, HT.sIx]
    | some i =>
      simp only [sliceBounds, HT.sIx, Option.getD_none, show (1 : Int) > 0 by decide, if_true]
      by_cases h : i < 0
      · simp only [h, if_true] <;> omega
      · simp only [h, if_false] <;> omega
  · cases hi with
    | none => simp [sliceBounds, HT.sIx]
    | some i =>
      simp only [sliceBounds, HT.sIx, Option.getD_none, show (1 : Int) > 0 by decide, if_true]
      by_cases h : i < 0
      · simp only [h, if_true] <;> omega
      · simp only [h, if_false] <;> omega
theorem slicePick_cut (its : List Value) (lo hi : Option Int) : slicePick its.toArray lo hi none = ((its.drop (HT.sIx its.length 0 lo)).take (HT.sIx its.length its.length hi - HT.sIx its.length 0 lo)).toArray := by
  obtain ⟨h1, h2, h3⟩ := slice_bounds lo hi its.toArray.size
  unfold slicePick
  rw [h1, h2, h3]
  simp only [sliceRange_one, pick_run, List.size_toArray] <;> rfl
def rSlL (K : PySem.W.Frag) : V → Option Int → Option Int → Hp → VK → Prop := fun x lo hi H Q => ∃ a xs, x = .ref a ∧ SqL K H a xs ∧ ∀ p, H p = none → Q (.ref p) (upd H p (.lst (cutV xs lo hi)))
theorem sl_list : SlR X (rSlL X.K) := by
  intro pins s σ H x v vl vu lo hi sl Q I rx hs pl pu h
  obtain ⟨a, xs, rfl, hx, q⟩ := h
  cases rx
  obtain ⟨its, r, ht, hz⟩ := I.list hx
  have hlen := r.length
  refine ⟨"list", _, slot_list_getitem.lookup, ht.isList.typeIs, ?_⟩
  refine wpAny_getItem_list_slice ht.isList hs pl pu .none (by simp) ?_ (by rw [List.size_toArray] <;> omega)
  rw [slicePick_cut, ← hlen]
  refine ⟨.ref s.heap.objs.size, _, I.laid (t' := s.toks) (o := .lst (cutV xs lo hi)) (fun b ob q => Heap.get?_push_of_some _ q) (Nat.le_refl _) ?_, rfl, q _ (I.hok.fresh (Nat.le_refl _))⟩
  exact ⟨Nat.le_trans (cutV_length xs lo hi) hz, _, 0, (r.drop (HT.sIx xs.length 0 lo)).take (HT.sIx xs.length xs.length hi - HT.sIx xs.length 0 lo), Heap.get?_push_size _ rfl⟩
def flatV : V → Bool
  | .non => true
  | .bl _ => true
  | .int _ => true
  | .str _ => true
  | _ => false
def eqV : V → V → Bool
  | .non, .non => true
  | .bl a, .bl b => a == b
  | .bl a, .int b => (if a then 1 else 0) == b
  | .int a, .bl b => a == (if b then 1 else 0)
  | .int a, .int b => a == b
  | .str a, .str b => a == b
  | _, _ => false
theorem eqAt_V {A : Around} {s : Shared} {y x : V} {u v : Value} (ry : RelV y u) (rx : RelV x v) (fy : flatV y = true) (fx : flatV x = true) : SeqAt.EqAt A s u v (eqV y x) := by
  cases y with
  | non =>
    cases ry
    cases x with
    | non => cases rx; exact SeqAt.EqAt.same _
    | bl b => cases rx; exact SeqAt.EqAt.none_bool b
    | int b => obtain ⟨t, rfl⟩ := rx; exact SeqAt.EqAt.none_int b t
    | str b => obtain ⟨t, rfl⟩ := rx; exact SeqAt.EqAt.none_str b t
    | _ => exact absurd (show false = true from fx) Bool.false_ne_true
  | bl a =>
    cases ry
    cases x with
    | non => cases rx; exact SeqAt.EqAt.bool_none a
    | bl b => cases rx; exact SeqAt.EqAt.bool_bool a b
    | int b => obtain ⟨t, rfl⟩ := rx; exact SeqAt.EqAt.bool_int a b t
    | str b => obtain ⟨t, rfl⟩ := rx; exact SeqAt.EqAt.bool_str a b t
    | _ => exact absurd (show false = true from fx) Bool.false_ne_true
  | int a =>
    obtain ⟨t', rfl⟩ := ry
    cases x with
    | non => cases rx; exact SeqAt.EqAt.int_none a t'
    | bl b => cases rx; exact SeqAt.EqAt.int_bool a t' b
    | int b => obtain ⟨t, rfl⟩ := rx; exact SeqAt.EqAt.int_int a t' b t
    | str b => obtain ⟨t, rfl⟩ := rx; exact SeqAt.EqAt.int_str a t' b t
    | _ => exact absurd (show false = true from fx) Bool.false_ne_true
  | str a =>
    obtain ⟨t', rfl⟩ := ry
    cases x with
    | non => cases rx; exact SeqAt.EqAt.str_none a t'
    | bl b => cases rx; exact SeqAt.EqAt.str_bool a t' b
    | int b => obtain ⟨t, rfl⟩ := rx; exact SeqAt.EqAt.str_int a t' b t
    | str b => obtain ⟨t, rfl⟩ := rx; exact SeqAt.EqAt.str_str a t' b t
    | _ => exact absurd (show false = true from fx) Bool.false_ne_true
  | _ => exact absurd (show false = true from fy) Bool.false_ne_true
def eqU (x : V) (u : Value) : Bool := match u with
  | .none => eqV .non x
  | .bool b => eqV (.bl b) x
  | .int i _ => eqV (.int i) x
  | .str z _ => eqV (.str z) x
  | _ => false
theorem eqU_of {x y : V} {u : Value} (r : RelV y u) (f : flatV y = true) : eqU x u = eqV y x := by
  cases y with
  | non => cases r; rfl
  | bl b => cases r; rfl
  | int i => obtain ⟨t, rfl⟩ := r; rfl
  | str z => obtain ⟨t, rfl⟩ := r; rfl
  | _ => exact absurd (show false = true from f) Bool.false_ne_true
theorem any_eqU {x : V} : ∀ {xs : List V} {us : List Value}, Vals xs us → xs.all flatV = true → us.any (eqU x) = xs.any fun y => eqV y x
  | _, _, .nil, _ => rfl
  | y :: xs, u :: us, .cons r t, f => by
    rw [List.all_cons, Bool.and_eq_true] at f
    rw [List.any_cons, List.any_cons, eqU_of r f.1, any_eqU t f.2]
theorem mem_eqAt {A : Around} {s : Shared} {x : V} {v : Value} (rx : RelV x v) (fx : flatV x = true) : ∀ {xs : List V} {us : List Value}, Vals xs us → xs.all flatV = true → ∀ u ∈ us, SeqAt.EqAt A s u v (eqU x u)
  | _, _, .nil, _ => fun u hu => by cases hu
  | y :: xs, u :: us, .cons r t, f => fun u' hu => by
    rw [List.all_cons, Bool.and_eq_true] at f
    rcases List.mem_cons.mp hu with rfl | hu
    · rw [eqU_of r f.1]; exact eqAt_V r rx f.1 fx
    · exact mem_eqAt rx fx t f.2 u' hu
def inV (x : V) (xs : List V) : Bool := xs.any fun y => eqV y x
def rIn (K : PySem.W.Frag) (neg : Bool) : R2 := fun x y H Q => ∃ p xs, y = .ref p ∧ (SqL K H p xs ∨ SqT K H p xs) ∧ flatV x = true ∧ xs.all flatV = true ∧ Q (.bl (if neg then !inV x xs else inV x xs)) H
theorem op_in_seq : OpR X (compareOp .In) (rIn X.K false) := by
  intro pins s σ H x y v u Q I rx ry h
  obtain ⟨p, xs, rfl, hq, fx, fs, q⟩ := h
  cases ry
  rcases hq with hq | hq
  · obtain ⟨its, r, pl, hz⟩ := I.list hq
    refine SeqAt.in_listAt (eqU x) pl.isList (fun w hw => mem_eqAt rx fx r fs w (by simpa using hw)) ⟨.bl _, H, I, rfl, ?_⟩
    rw [show its.toArray.any (eqU x) = its.any (eqU x) by simp, any_eqU r fs]
    exact q
  · obtain ⟨its, r, pl, hz⟩ := I.tuple hq
    refine SeqAt.in_tupleAt (eqU x) pl (fun w hw => mem_eqAt rx fx r fs w (by simpa using hw)) ⟨.bl _, H, I, rfl, ?_⟩
    rw [show its.toArray.any (eqU x) = its.any (eqU x) by simp, any_eqU r fs]
    exact q
theorem call_len_seq : CallR X (.builtin "len") (fun xs H Q => ∃ p ys, xs = [.ref p] ∧ (SqL X.K H p ys ∨ SqT X.K H p ys) ∧ Q (.int ys.length) H) := by
  intro pins s σ H xs us Q I r h
  obtain ⟨p, ys, rfl, hq, q⟩ := h
  obtain ⟨u, rfl, rx⟩ := vals1 r
  cases rx
  have hn := line63
  rcases hq with hq | hq
  · obtain ⟨its, r', pl, hz⟩ := I.list hq
    have hlen := r'.length
    exact Calls.call_len_list pl.isList (by simp only [List.size_toArray] <;> omega) ⟨.int ys.length, H, I.tok _, ⟨s.toks + 1, by rw [List.size_toArray, hlen]⟩, q⟩
  · obtain ⟨its, r', pl, hz⟩ := I.tuple hq
    have hlen := r'.length
    exact len_tuple pl (by simp only [List.size_toArray] <;> omega) ⟨.int ys.length, H, I.tok _, ⟨s.toks + 1, by rw [List.size_toArray, hlen]⟩, q⟩
def tyV (K : PySem.W.Frag) (T : String) (x : V) (H : Hp) : Prop := match x with
  | .str _ => T = "str"
  | .int _ => T = "int"
  | .ref p => (T = "list" ∧ ∃ xs, SqL K H p xs) ∨ (T = "tuple" ∧ ∃ o, K.lookup p = some o ∧ o.cls = .type "tuple" ∧ o.dict = none) ∨
      (T = "dict" ∧ ((∃ kvs, H p = some (.dK kvs)) ∨ ∃ kvs, H p = some (.dT kvs))) ∨ (T = "set" ∧ ∃ S n, H p = some (.set S n))
  | _ => False
theorem tyV_is {pins : List (Addr × Obj)} {σ : St} {H : Hp} {s : Shared} {T : String} {x : V} {v : Value} (I : Inv X pins σ H s) (r : RelV x v) (ty : tyV X.K T x H) :
    s.TypeIs v T ∧ ∀ a, v = .ref a → ∃ ob, s.heap.get? a = some ob ∧ ob.dict = none := by
  cases x with
  | str z =>
    obtain ⟨t, rfl⟩ := r
    cases (show T = "str" from ty)
    exact ⟨typeIs_str s z t, fun _ e => nomatch e⟩
  | int i =>
    obtain ⟨t, rfl⟩ := r
    cases (show T = "int" from ty)
    exact ⟨typeIs_int s i t, fun _ e => nomatch e⟩
  | ref p =>
    cases r
    rcases ty with ⟨rfl, xs, hq⟩ | ⟨rfl, o, hk, hc, hd⟩ | ⟨rfl, hk⟩ | ⟨rfl, S, n, hk⟩
    · obtain ⟨its, _, pl, _⟩ := I.list hq
      refine ⟨pl.isList.typeIs, fun a e => ?_⟩
      cases e
      obtain ⟨o, n, e, c, hd, _⟩ := pl
      exact ⟨o, e, hd⟩
    · refine ⟨⟨o, I.kIn p o hk, hc⟩, fun a e => ?_⟩
      cases e
      exact ⟨o, I.kIn _ o hk, hd⟩
    · have z : ∃ o, s.heap.get? p = some o ∧ o.ExactDict := by
        rcases hk with ⟨kvs, hk⟩ | ⟨kvs, hk⟩
        · obtain ⟨_, _, _, _, o, _, _, e, ex, _⟩ := I.hok p _ hk
          exact ⟨o, e, ex⟩
        · obtain ⟨_, _, _, _, o, _, _, e, ex, _⟩ := I.hok p _ hk
          exact ⟨o, e, ex⟩
      obtain ⟨o, e, ex⟩ := z
      refine ⟨⟨o, e, ex.1⟩, fun a e2 => ?_⟩
      cases e2
      exact ⟨o, e, ex.2.1⟩
    · obtain ⟨o, _, _, _, e, ex, _⟩ := I.hok p _ hk
      refine ⟨⟨o, e, ex.1⟩, fun a e2 => ?_⟩
      cases e2
      exact ⟨o, e, ex.2.1⟩
  | _ => exact False.elim ty
def tBM (K : PySem.W.Frag) (T : String) (r : V → List V → Hp → VK → Prop) (to : TE) (t : TA) : TE := fun σ H Q => to σ H fun x H1 => tyV K T x H1 ∧ t σ H1 fun xs H2 => r x xs H2 Q
variable {o e : Expr} {es : List Expr} {to : TE} {t : TA} {name : Str} {apos cpos : Pos} {T id : String} {r : V → List V → Hp → VK → Prop}
theorem pe_bm (pa : PlainAttrs T) (slot : Slot T name id) (hty : typeOf (.builtin id) = pure (.type "method_descriptor")) (hm : MtR X id r) (ho : PE X o to) (ha : PA X (e :: es) t)
    (hbase : attributeBase o name X.env (eval o X.env) = eval o X.env := by rfl)
    (hfew : ((backTo cpos (starEach (e :: es) X.env)).all (fun x => !x.1) && (backToKw cpos (keywordEach [] X.env)).all (fun x => x.1.isSome)
      && decide ((e :: es).length + ([] : List Keyword).length + (if ([] : List Keyword).isEmpty then 0 else 1) < 30)) = true := by rfl)
    (hline : (apos.endLine == cpos.line) = true := by rfl) (hs : starEach (e :: es) X.env = (false, eval e X.env) :: starEach es X.env := by rfl) (hplain : (backTo cpos (starEach es X.env)).any (·.1) = false := by rfl) :
    PE X (.Call (.Attribute o name apos) (e :: es) [] cpos) (tBM X.K T r to t) := by
  intro pins s σ H Q I h
  refine wpAny_Call_method_late hbase hfew hline rfl (thn (ho pins s σ H _ I h) fun v s1 ⟨x, H1, I1, r1, ty, q1⟩ => ?_)
  obtain ⟨h1, h2⟩ := tyV_is I1 r1 ty
  refine ⟨T, id, pa, slot, hty, h1, h2, ?_⟩
  have hA := ha cpos pins s1 σ H1 _ I1 q1
  rw [hs] at hA ⊢
  refine Calls.callWith_builtin (by show (false || (backTo cpos (starEach es X.env)).any (·.1)) = false; rw [hplain] <;> rfl) (Calls.evalArgs_plain ?_)
  exact thn hA fun us s2 ⟨vs, H2, I2, r2, q2⟩ => hm pins s2 σ H2 x vs v us Q I2 r1 r2 q2
end
end L2
namespace L2
open PySem PySem.Spec PyProof.Rows
def MtM (X : Cx) (id : String) (r : V → List V → Hp → VK → Prop) : Prop :=
  ∀ (pins : List (Addr × Obj)) (s : Shared) (σ : St) (H : Hp) (x : V) (xs : List V) (v : Value) (us : List Value) (Q : VK), Inv X pins σ H s → RelV x v → Vals xs us → r x xs H Q →
    wpAny (model X.prog X.w) X.A (call (.builtin id) (v :: us)) (EP X pins σ Q) X.xe s
theorem Vals.one : ∀ {x : V} {us : List Value}, Vals [x] us → ∃ u, us = [u] ∧ RelV x u
  | _, _, .cons r .nil => ⟨_, rfl, r⟩
theorem Vals.rep {xs : List V} {us : List Value} (h : Vals xs us) : ∀ k : Nat, Vals (List.replicate k xs).flatten (List.replicate k us).flatten
  | 0 => .nil
  | k + 1 => by
    rw [List.replicate_succ, List.replicate_succ, List.flatten_cons, List.flatten_cons]
    exact Vals.append h (Vals.rep h k)
theorem foldl_rep (its : List Value) : ∀ (k : Nat) (acc : List Value),
    List.foldl (fun x1 x2 => x1 ++ x2) acc.toArray (List.replicate k its.toArray) = (acc ++ (List.replicate k its).flatten).toArray
  | 0, acc => by simp
  | k + 1, acc => by
    have e : acc.toArray ++ its.toArray = (acc ++ its).toArray := by simp
    have e2 : (acc ++ its) ++ (List.replicate k its).flatten = acc ++ (List.replicate (k + 1) its).flatten := by
      rw [List.replicate_succ, List.flatten_cons, List.append_assoc]
    rw [← e2, ← foldl_rep its k (acc ++ its), ← e, List.replicate_succ, List.foldl_cons]
section
variable {X : Cx} {pins : List (Addr × Obj)} {σ : St} {H : Hp} {s : Shared} {l b : Addr} {xs ys zs : List V}
theorem Inv.lset {its its' : List Value} {n : Nat} {f : Array Value → Array Value} {t' : Nat} (I : Inv X pins σ H s) (hH : H l = some (.lst xs))
    (e : s.heap.get? l = some { cls := .type "list", data := .seq its.toArray n }) (hf : f its.toArray = its'.toArray) (hv : Vals ys its') (hz : ys.length ≤ sizeLine) :
    Inv X pins σ (upd H l (.lst ys)) { s with heap := s.heap.update l (Obj.mapSeq f), toks := t' } := by
  have q := PySem.IsL.update e f
  rw [hf] at q
  refine I.write (x := l) (e := l) (by rw [hH]; exact trivial) (.inl rfl) (fun b' u hb hu => (Heap.get?_update_other s.heap (Obj.mapSeq f) (Ne.symm hb)).trans hu) ⟨_, q⟩ ?_
  exact ⟨hz, its', _, hv, q⟩
theorem Inv.lnew {its : List Value} {t' : Nat} (I : Inv X pins σ H s) (hv : Vals ys its) (hz : ys.length ≤ sizeLine) :
    Inv X pins σ (upd H s.heap.objs.size (.lst ys)) { s with heap := s.heap.push { cls := .type "list", data := .seq its.toArray }, toks := t' } :=
  I.laid (fun _ _ q => Heap.get?_push_of_some _ q) (Nat.le_refl _) ⟨hz, its, 0, hv, Heap.get?_push_size _ rfl⟩
theorem Inv.fresh (I : Inv X pins σ H s) : H s.heap.objs.size = none := I.hok.fresh (Nat.le_refl _)
theorem Inv.lstM (I : Inv X pins σ H s) (hH : H l = some (.lst xs)) : xs.length ≤ sizeLine ∧ ∃ (its : List Value) (n : Nat), Vals xs its ∧ xs.length = its.length ∧ s.heap.get? l = some { cls := .type "list", data := .seq its.toArray n } := by
  obtain ⟨z, its, n, r, e⟩ := I.hok l _ hH
  exact ⟨z, its, n, r, r.length, e⟩
theorem notLongL {n : Nat} (h : n ≤ sizeLine) : Builtin.List.listTooLong n = false := by
  unfold Builtin.List.listTooLong
  exact decide_eq_false (by omega)
end
section
variable {X : Cx}
def rAppend : V → List V → Hp → VK → Prop := fun x vs H Q => ∃ l xs y, x = .ref l ∧ vs = [y] ∧ H l = some (.lst xs) ∧ xs.length < sizeLine ∧ Q .non (upd H l (.lst (xs ++ [y])))
theorem mt_append : MtM X "list.append" rAppend := by
  intro pins s σ H x vs v us Q I rx rv h
  obtain ⟨l, xs, y, rfl, rfl, hH, hz, q⟩ := h
  cases rx
  obtain ⟨u, rfl, ru⟩ := rv.one
  obtain ⟨z, its, n, r, hl, e⟩ := I.lstM hH
  refine call_meets F.slot_list_append ⟨_, e, rfl⟩ F.entry_list_append (F.args_list_append_2 _ _) (PySem.list_append l its.toArray n u (by rw [List.size_toArray]; omega)) ⟨e, ?_⟩
  refine ⟨.non, _, I.lset (its' := its ++ [u]) hH e (by simp) (r.append (.cons ru .nil)) ?_, rfl, q⟩
  rw [List.length_append, List.length_singleton]
  omega
def rExtend : V → List V → Hp → VK → Prop := fun x vs H Q => ∃ l b xs zs, x = .ref l ∧ vs = [.ref b] ∧ H l = some (.lst xs) ∧ H b = some (.lst zs) ∧ xs.length + zs.length ≤ sizeLine ∧ Q .non (upd H l (.lst (xs ++ zs)))
theorem mt_extend : MtM X "list.extend" rExtend := by
  intro pins s σ H x vs v us Q I rx rv h
  obtain ⟨l, b, xs, zs, rfl, rfl, hH, hB, hz, q⟩ := h
  cases rx
  obtain ⟨u, rfl, ru⟩ := rv.one
  cases ru
  obtain ⟨z, its, n, r, hl, e⟩ := I.lstM hH
  obtain ⟨z2, its2, n2, r2, hl2, e2⟩ := I.lstM hB
  have hsz : its.toArray.size + its2.toArray.size ≤ sizeLine := by rw [List.size_toArray, List.size_toArray]; omega
  have hlong : ¬ (!its.toArray.isEmpty && Builtin.List.listTooLong (its.toArray.size + its2.toArray.size)) = true := by
    rw [notLongL hsz, Bool.and_false]
    exact Bool.false_ne_true
  refine call_meets F.slot_list_extend ⟨_, e, rfl⟩ F.entry_list_extend (F.args_list_extend_2 _ _)
    (AutoSeq1.list_extend_list_list_0 l its.toArray n b its2.toArray n2 hlong (by rw [List.size_toArray]; omega) (by omega)) ⟨e, e2, ?_⟩
  refine ⟨.non, _, I.lset (its' := its ++ its2) hH e (by simp) (r.append r2) ?_, rfl, q⟩
  rw [List.length_append]
  omega
def rCat : R2 := fun x y H Q => ∃ l b xs zs, x = .ref l ∧ y = .ref b ∧ H l = some (.lst xs) ∧ H b = some (.lst zs) ∧ xs.length + zs.length ≤ sizeLine ∧ ∀ p, H p = none → Q (.ref p) (upd H p (.lst (xs ++ zs)))
theorem op_cat : OpR X (binaryOp .Add) rCat := by
  intro pins s σ H x y v u Q I rx ry h
  obtain ⟨l, b, xs, zs, rfl, rfl, hH, hB, hz, q⟩ := h
  cases rx
  cases ry
  obtain ⟨z, its, n, r, hl, e⟩ := I.lstM hH
  obtain ⟨z2, its2, n2, r2, hl2, e2⟩ := I.lstM hB
  refine PySem.P.add_list e e2 ?_ (by rw [List.size_toArray, List.size_toArray]; omega)
  have ea : its.toArray ++ its2.toArray = (its ++ its2).toArray := by simp
  rw [ea]
  exact ⟨.ref _, _, I.lnew (t' := s.toks) (r.append r2) (by rw [List.length_append]; omega), rfl, q _ I.fresh⟩
def rRep : R2 := fun x y H Q => ∃ l k xs, x = .ref l ∧ y = .int k ∧ H l = some (.lst xs) ∧ -(2 ^ 63) ≤ k ∧ k < 2 ^ 63 ∧ xs.length * k.toNat ≤ sizeLine ∧
  ∀ p, H p = none → Q (.ref p) (upd H p (.lst (List.replicate k.toNat xs).flatten))
theorem len_rep {α : Type} (xs : List α) (k : Nat) : (List.replicate k xs).flatten.length = k * xs.length := by
  induction k with
  | zero => simp
  | succ k ih => rw [List.replicate_succ, List.flatten_cons, List.length_append, ih, Nat.succ_mul, Nat.add_comm]
theorem op_rep : OpR X (binaryOp .Mult) rRep := by
  intro pins s σ H x y v u Q I rx ry h
  obtain ⟨l, k, xs, rfl, rfl, hH, h1, h2, hz, q⟩ := h
  cases rx
  obtain ⟨t, rfl⟩ := ry
  obtain ⟨z, its, n, r, hl, e⟩ := I.lstM hH
  have hlen : its.toArray.size * k.toNat ≤ sizeLine := by rw [List.size_toArray, ← hl]; exact hz
  have hcap : ¬ its.toArray.size * k.toNat > (2 ^ 63 - 1) / 8 := by
    have : (sizeLine : Nat) ≤ (2 ^ 63 - 1) / 8 := by decide
    omega
  have hfit : ¬ (!Builtin.List.listFitsIndex k) = true := by
    rw [fitsIndex_both h1 h2]
    exact Bool.false_ne_true
  have hlong : ¬ Builtin.List.listTooLong (its.toArray.size * k.toNat) = true := by
    rw [notLongL hlen]
    exact Bool.false_ne_true
  have hnew : List.foldl (fun x1 x2 => x1 ++ x2) #[] (List.replicate (if its.toArray.isEmpty = true then 0 else k.toNat) its.toArray) = (List.replicate k.toNat its).flatten.toArray := by
    have f0 : ∀ m : Nat, List.foldl (fun x1 x2 => x1 ++ x2) #[] (List.replicate m its.toArray) = (List.replicate m its).flatten.toArray := fun m => by
      have := foldl_rep its m []
      rw [List.nil_append] at this
      exact this
    rw [f0]
    cases its with
    | nil => simp
    | cons a r' => rw [if_neg (by simp)]
  refine wpAny_binaryOp_repeat_ref (T := "list") (U := "int") (by decide) ⟨_, e, rfl⟩ (fun s' => typeIs_int s' k t) noFill_list_mul F.fills_int_mul F.slot_int_rmul repeat_list F.slot_int_index.lookup
    (call_meets F.slot_int_rmul (typeIs_int s k t) F.entry_int_rmul (F.args_int_rmul_2 _ _) (int___rmul___int_list k t l its.toArray n)
      ⟨e, rfl, ⟨_, e, rfl⟩, call_meets F.slot_list_mul ⟨_, e, rfl⟩ F.entry_list_mul (F.args_list_mul_2 _ _) (AutoListH.list___mul___list_int_3 l its.toArray n k t hfit hcap hlong) ⟨e, ?_⟩⟩)
  rw [hnew]
  exact ⟨.ref _, _, I.lnew (t' := s.toks) (r.rep k.toNat) (by rw [len_rep, Nat.mul_comm]; exact hz), rfl, q _ I.fresh⟩
end
end L2
namespace L2
open PySem PySem.Spec PyProof.Rows
theorem Vals.ints : ∀ {ns : List Int} {us : List Value}, Vals (ns.map V.int) us → IntsAre us ns
  | [], us, h => by
    rw [List.map_nil] at h
    cases h
    exact IntsAre.nil
  | n :: ns, us, h => by
    rw [List.map_cons] at h
    cases h with
    | cons r t =>
      obtain ⟨k, rfl⟩ := r
      exact IntsAre.cons n k (Vals.ints t)
theorem vals_of_ints : ∀ {us : List Value} {ns : List Int}, IntsAre us ns → Vals (ns.map V.int) us
  | _, _, .nil => by rw [List.map_nil]; exact Paired.nil
  | _, _, .cons n t h => by rw [List.map_cons]; exact Paired.cons (show RelV (V.int n) (Value.int n t) from ⟨t, rfl⟩) (vals_of_ints h)
theorem Vals.ref1 {a : Addr} {us : List Value} (r : Vals [V.ref a] us) : us = [Value.ref a] := by
  cases r with
  | cons r t =>
    cases t
    cases r
    rfl
section
variable {prog : Program} {w : World} {A : Around} {E : Value → Shared → Prop} {s : Shared} {l : Addr} {its : List Value} {ns : List Int} {Q : Value → Shared → Prop}
theorem max_raw (hh : A.handled = none) (hl : s.heap.IsList l its.toArray) (hi : IntsAre its ns) (hne : 0 < ns.length)
    (h : ∀ h' tk M t', (∀ b o, s.heap.get? b = some o → h'.get? b = some o) → M ∈ ns → (∀ a, a ∈ ns → a ≤ M) → Q (.int M t') { s with heap := h', toks := tk }) : wpAny (model prog w) A (call (.builtin "max") [.ref l]) Q E s := by
  obtain ⟨xs, e⟩ := hi.allInts.items
  have hn : numsOf (intItems xs).toList = ns := by rw [← e]; exact hi.numsOf
  rw [nums_intItems] at hn
  subst hn
  rw [e] at hl
  have hsz : 0 < xs.size := by simpa using hne
  refine PySem.max_intList hh hl hsz fun v h' tk hv hk => ?_
  obtain ⟨t, rfl⟩ := intItems_at hv
  obtain ⟨h1, h2⟩ := argBest_gt (numAt xs) (xs.size - 1)
  refine h h' tk _ t hk ?_ fun a ha => ?_
  · rw [numAt_eq]; exact PySem.getD_mem (by rw [List.length_map, Array.length_toList]; omega)
  · obtain ⟨j, hj, rfl⟩ := mem_getD ha
    rw [List.length_map, Array.length_toList] at hj
    rw [← numAt_eq]; exact h2 j (by omega)
theorem min_raw (hh : A.handled = none) (hl : s.heap.IsList l its.toArray) (hi : IntsAre its ns) (hne : 0 < ns.length)
    (h : ∀ h' tk M t', (∀ b o, s.heap.get? b = some o → h'.get? b = some o) → M ∈ ns → (∀ a, a ∈ ns → M ≤ a) → Q (.int M t') { s with heap := h', toks := tk }) : wpAny (model prog w) A (call (.builtin "min") [.ref l]) Q E s := by
  obtain ⟨xs, e⟩ := hi.allInts.items
  have hn : numsOf (intItems xs).toList = ns := by rw [← e]; exact hi.numsOf
  rw [nums_intItems] at hn
  subst hn
  rw [e] at hl
  have hsz : 0 < xs.size := by simpa using hne
  refine PySem.min_intList hh hl hsz fun v h' tk hv hk => ?_
  obtain ⟨t, rfl⟩ := intItems_at hv
  obtain ⟨h1, h2⟩ := argBest_lt (numAt xs) (xs.size - 1)
  refine h h' tk _ t hk ?_ fun a ha => ?_
  · rw [numAt_eq]; exact PySem.getD_mem (by rw [List.length_map, Array.length_toList]; omega)
  · obtain ⟨j, hj, rfl⟩ := mem_getD ha
    rw [List.length_map, Array.length_toList] at hj
    rw [← numAt_eq]; exact h2 j (by omega)
end
section
variable {X : Cx}
def rMax (K : PySem.W.Frag) : List V → Hp → VK → Prop := fun vs H Q => ∃ (a : Addr) (ns : List Int), vs = [V.ref a] ∧ SqL K H a (ns.map V.int) ∧ 0 < ns.length ∧ ∀ m, m ∈ ns → (∀ y, y ∈ ns → y ≤ m) → Q (.int m) H
def rMin (K : PySem.W.Frag) : List V → Hp → VK → Prop := fun vs H Q => ∃ (a : Addr) (ns : List Int), vs = [V.ref a] ∧ SqL K H a (ns.map V.int) ∧ 0 < ns.length ∧ ∀ m, m ∈ ns → (∀ y, y ∈ ns → m ≤ y) → Q (.int m) H
theorem cr_max (hc : X.calm = true) : CallR X (.builtin "max") (rMax X.K) := by
  intro pins s σ H vs us Q I r h
  obtain ⟨a, ns, rfl, hs, hne, q⟩ := h
  obtain ⟨its, rv, hl, _⟩ := I.list hs
  rw [Vals.ref1 r]
  exact max_raw (I.ok.hd hc) hl.isList rv.ints hne fun h' tk m t' hk h1 h2 => ⟨.int _, H, I.kept hk, ⟨_, rfl⟩, q m h1 h2⟩
theorem cr_min (hc : X.calm = true) : CallR X (.builtin "min") (rMin X.K) := by
  intro pins s σ H vs us Q I r h
  obtain ⟨a, ns, rfl, hs, hne, q⟩ := h
  obtain ⟨its, rv, hl, _⟩ := I.list hs
  rw [Vals.ref1 r]
  exact min_raw (I.ok.hd hc) hl.isList rv.ints hne fun h' tk m t' hk h1 h2 => ⟨.int _, H, I.kept hk, ⟨_, rfl⟩, q m h1 h2⟩
end
end L2
namespace L2
open PySem PySem.Spec PyProof.Rows
abbrev CellAt (h : Heap) (c : Addr) (v : Option Value) : Prop := h.IsCell c v
def relS (scope sc : Scope) : Scope :=
  { scope with names := scope.names.map fun (n, k) => if (k == .free && sc.kind == .function && sc.names.lookup n == some .cell) then (n, .cell) else (n, k) }
def cloFrom (cells : List (Str × Addr)) : List (Str × NameKind) → List (Str × Addr) → List (Str × Addr)
  | [], acc => acc
  | (n, k) :: r, acc => if k == .free then cloFrom cells r ((n, (cells.lookup n).getD 0) :: acc) else cloFrom cells r acc
theorem closure_loop (env : Env) (f : Str × NameKind → List (Str × Addr) → Sem (ForInStep (List (Str × Addr))))
    (hf : ∀ n k c, f (n, k) c = if k == .free then (do let a ← cellOf env n; pure (.yield ((n, a) :: c))) else pure (.yield c)) :
    ∀ (names : List (Str × NameKind)) (acc : List (Str × Addr)), (∀ y ∈ names, y.2 = .free → ∃ c, env.cells.lookup y.1 = some c) → forIn names acc f = pure (cloFrom env.cells names acc)
  | [], acc, _ => by rw [List.forIn_nil]; rfl
  | (n, k) :: r, acc, h => by
    rw [List.forIn_cons, hf]
    have ih := fun acc => closure_loop env f hf r acc fun y hy => h y (List.mem_cons_of_mem _ hy)
    unfold cloFrom
    by_cases hk : (k == NameKind.free) = true
    · rw [if_pos hk, if_pos hk]
      obtain ⟨c, hc⟩ := h (n, k) List.mem_cons_self (by simpa using hk)
      have e : cellOf env n = pure c := by unfold cellOf; rw [hc]
      rw [e]
      have e2 : (env.cells.lookup n).getD 0 = c := by rw [hc]; rfl
      rw [e2]
      exact ih _
    · rw [if_neg hk, if_neg hk]
      exact ih _
theorem closure_ok {scope : Scope} {env : Env} (h : ∀ y ∈ scope.names, y.2 = .free → ∃ c, env.cells.lookup y.1 = some c) : closureFor scope env = pure (cloFrom env.cells scope.names []) := by
  simp only [closureFor]
  rw [closure_loop env _ (fun n k c => rfl) scope.names [] h]
  rfl
theorem mem_lookup {α : Type} : ∀ {l : List (Str × α)} {n : Str} {c : α}, (n, c) ∈ l → ∃ c', l.lookup n = some c'
  | (k, v) :: r, n, c, h => by
    rw [List.lookup_cons]
    cases hb : n == k with
    | true => exact ⟨_, rfl⟩
    | false =>
      rcases List.mem_cons.mp h with e | h
      · cases e; simp at hb
      · exact mem_lookup h
theorem cloFrom_mem {cells : List (Str × Addr)} : ∀ {names : List (Str × NameKind)} {acc : List (Str × Addr)} {n : Str} {c : Addr}, (n, c) ∈ cloFrom cells names acc → (n, c) ∈ acc ∨ ((n, .free) ∈ names ∧ c = (cells.lookup n).getD 0)
  | [], _, _, _, h => .inl h
  | (m, k) :: r, acc, n, c, h => by
    unfold cloFrom at h
    split at h
    · rename_i hk
      have hk : k = .free := by simpa using hk
      rcases cloFrom_mem h with h | ⟨h1, h2⟩
      · rcases List.mem_cons.mp h with e | h
        · cases e; exact .inr ⟨hk ▸ List.mem_cons_self, rfl⟩
        · exact .inl h
      · exact .inr ⟨List.mem_cons_of_mem _ h1, h2⟩
    · rcases cloFrom_mem h with h | ⟨h1, h2⟩
      · exact .inl h
      · exact .inr ⟨List.mem_cons_of_mem _ h1, h2⟩
theorem cloFrom_acc {cells : List (Str × Addr)} : ∀ {names : List (Str × NameKind)} {acc : List (Str × Addr)} {p : Str × Addr}, p ∈ acc → p ∈ cloFrom cells names acc
  | [], _, _, h => h
  | (m, k) :: r, acc, p, h => by
    unfold cloFrom
    split
    · exact cloFrom_acc (List.mem_cons_of_mem _ h)
    · exact cloFrom_acc h
theorem cloFrom_has {cells : List (Str × Addr)} : ∀ {names : List (Str × NameKind)} {acc : List (Str × Addr)} {n : Str}, (n, .free) ∈ names → (n, (cells.lookup n).getD 0) ∈ cloFrom cells names acc
  | (m, k) :: r, acc, n, h => by
    unfold cloFrom
    rcases List.mem_cons.mp h with e | h
    · cases e
      exact cloFrom_acc List.mem_cons_self
    · split
      · exact cloFrom_has h
      · exact cloFrom_has h
theorem cells_mem : ∀ {names : List (Str × NameKind)} {h : Heap} {acc : List (Str × Addr)} {x : Str} {c : Addr}, (x, c) ∈ cellsFrom h.objs.size names acc →
    (x, c) ∈ acc ∨ ((x, .cell) ∈ names ∧ h.objs.size ≤ c ∧ CellAt (pushCells h names) c none)
  | [], _, _, _, _, h => .inl h
  | (n, k) :: r, h, acc, x, c, hm => by
    unfold cellsFrom at hm
    unfold pushCells
    split at hm
    · rename_i hk
      rw [if_pos hk]
      have hk : k = .cell := by simpa using hk
      rw [← Heap.size_push h { cls := .type "cell", data := .cell none }] at hm
      rcases cells_mem hm with hm | ⟨h1, h2, h3⟩
      · rcases List.mem_cons.mp hm with e | hm
        · cases e
          exact .inr ⟨hk ▸ List.mem_cons_self, Nat.le_refl _, _, pushCells_keeps r _ _ _ (Heap.get?_push_size _ rfl), rfl⟩
        · exact .inl hm
      · rw [Heap.size_push] at h2
        exact .inr ⟨List.mem_cons_of_mem _ h1, Nat.le_of_succ_le h2, h3⟩
    · rename_i hk
      rw [if_neg hk]
      rcases cells_mem hm with hm | ⟨h1, h2, h3⟩
      · exact .inl hm
      · exact .inr ⟨List.mem_cons_of_mem _ h1, h2, h3⟩
theorem cells_acc : ∀ {names : List (Str × NameKind)} {n : Nat} {acc : List (Str × Addr)} {p : Str × Addr}, p ∈ acc → p ∈ cellsFrom n names acc
  | [], _, _, _, h => h
  | (m, k) :: r, n, acc, p, h => by
    unfold cellsFrom
    split
    · exact cells_acc (List.mem_cons_of_mem _ h)
    · exact cells_acc h
theorem cells_has : ∀ {names : List (Str × NameKind)} {n : Nat} {acc : List (Str × Addr)} {x : Str}, (x, .cell) ∈ names → ∃ c, (x, c) ∈ cellsFrom n names acc
  | (m, k) :: r, n, acc, x, h => by
    unfold cellsFrom
    rcases List.mem_cons.mp h with e | h
    · cases e
      exact ⟨n, cells_acc List.mem_cons_self⟩
    · split
      · exact cells_has h
      · exact cells_has h
theorem cells_inj : ∀ {names : List (Str × NameKind)} {h : Heap} {acc : List (Str × Addr)} {x y : Str} {c : Addr}, (∀ p ∈ acc, p.2 < h.objs.size) → (∀ x y c, (x, c) ∈ acc → (y, c) ∈ acc → x = y) →
    (x, c) ∈ cellsFrom h.objs.size names acc → (y, c) ∈ cellsFrom h.objs.size names acc → x = y
  | [], _, _, _, _, _, _, hi, h1, h2 => hi _ _ _ h1 h2
  | (n, k) :: r, h, acc, x, y, c, hl, hi, h1, h2 => by
    unfold cellsFrom at h1 h2
    split at h1
    · rename_i hk
      rw [if_pos hk] at h2
      rw [← Heap.size_push h { cls := .type "cell", data := .cell none }] at h1 h2
      refine cells_inj (h := h.push _) (fun p hp => ?_) (fun x y c a b => ?_) h1 h2
      · rw [Heap.size_push]
        rcases List.mem_cons.mp hp with rfl | hp
        · exact Nat.lt_succ_self _
        · exact Nat.lt_succ_of_lt (hl p hp)
      · rcases List.mem_cons.mp a with e | a <;> rcases List.mem_cons.mp b with e' | b
        · cases e; cases e'; rfl
        · cases e; exact absurd (hl _ b) (Nat.lt_irrefl _)
        · cases e'; exact absurd (hl _ a) (Nat.lt_irrefl _)
        · exact hi _ _ _ a b
    · rename_i hk
      rw [if_neg hk] at h2
      exact cells_inj hl hi h1 h2
theorem newEnv_comp {M : Model} {A : Around} {E : Value → Shared → Prop} {s : Shared} {scope : Scope} {globals : Addr} {closure : List (Str × Addr)} {qual : Str} {func : Option Addr} {code : Value} {around : Env} {builtins : Addr} {Q : Env → Shared → Prop}
    (h : Q (newEnv scope s.heap.objs.size globals (cellsFrom (s.heap.objs.size + 1) scope.names closure) qual func code (some around) builtins)
      { s with heap := pushCells (s.heap.push { cls := .type "dict", data := .dict #[] }) scope.names }) :
    wpAny M A (newFunctionEnv scope globals closure [] qual func code (some around) builtins) Q E s := by
  simp only [newFunctionEnv, Option.isSome_some, if_true]
  refine wpAny_bind (wpAny_alloc ?_)
  refine wpAny_bind (wpAny_layCells _ (fun n k c => rfl) scope.names closure _ _ ?_)
  rw [show ({ s with heap := s.heap.push { cls := .type "dict", data := .dict #[] } } : Shared).heap.objs.size = s.heap.objs.size + 1 from Heap.size_push ..]
  rw [List.forIn_nil]
  exact wpAny_bind (wpAny_pure (wpAny_pure h))
theorem lookup_relS {sc : Scope} : ∀ {names : List (Str × NameKind)} {x : Str} {k : NameKind},
    (names.map fun (n, k) => if (k == NameKind.free && sc.kind == .function && sc.names.lookup n == some .cell) then (n, NameKind.cell) else (n, k)).lookup x = some k →
    ∃ k', names.lookup x = some k' ∧ (k = k' ∨ (k' = .free ∧ k = .cell))
  | [], _, _, h => by simp at h
  | (n, k₀) :: r, x, k, h => by
    have ih := @lookup_relS sc r x k
    have h' : List.lookup x ((if (k₀ == NameKind.free && sc.kind == .function && sc.names.lookup n == some .cell) = true then (n, NameKind.cell) else (n, k₀)) :: (r.map _)) = some k := h
    cases hx : x == n with
    | true =>
      simp only [List.lookup_cons, hx]
      by_cases hc : (k₀ == NameKind.free && sc.kind == .function && sc.names.lookup n == some .cell) = true
      · rw [if_pos hc] at h'
        simp only [List.lookup_cons, hx] at h'
        cases h'
        simp only [Bool.and_eq_true, beq_iff_eq] at hc
        exact ⟨k₀, rfl, .inr ⟨hc.1.1, rfl⟩⟩
      · rw [if_neg hc] at h'
        simp only [List.lookup_cons, hx] at h'
        cases h'
        exact ⟨_, rfl, .inl rfl⟩
    | false =>
      simp only [List.lookup_cons, hx]
      by_cases hc : (k₀ == NameKind.free && sc.kind == .function && sc.names.lookup n == some .cell) = true
      · rw [if_pos hc] at h'
        simp only [List.lookup_cons, hx] at h'
        exact ih h'
      · rw [if_neg hc] at h'
        simp only [List.lookup_cons, hx] at h'
        exact ih h'
structure BlkOk (N : List Str) (sc scope : Scope) (own : List (Str × Nat)) : Prop where
  kind : scope.kind = .function
  uniq : ∀ y ∈ scope.names, scope.names.lookup y.1 = some y.2
  ix : ∀ p ∈ own, N[p.2]? = some p.1
  free : ∀ y ∈ scope.names, y.2 = .free → sc.names.lookup y.1 = some .cell ∨ sc.names.lookup y.1 = some .free
  own : ∀ y ∈ scope.names, y.2 = .local ∨ y.2 = .cell → y.1 ∈ own.map (·.1) ∨ y.1 ∉ N
def wipe (σ : St) : List Nat → St
  | [] => σ
  | v :: vs => (wipe σ vs).set v none
theorem wipe_length (σ : St) : ∀ vs : List Nat, (wipe σ vs).length = σ.length
  | [] => rfl
  | v :: vs => by unfold wipe; rw [List.length_set, wipe_length σ vs]
theorem wipe_some {σ : St} {i : Nat} {x : V} : ∀ {vs : List Nat}, (wipe σ vs)[i]? = some (some x) → σ[i]? = some (some x) ∧ i ∉ vs
  | [], h => ⟨h, by simp⟩
  | v :: vs, h => by
    unfold wipe at h
    by_cases hi : v = i
    · subst hi
      by_cases hv : v < (wipe σ vs).length
      · rw [List.getElem?_set_self hv] at h; cases h
      · rw [List.getElem?_eq_none (by simpa using hv)] at h; cases h
    · rw [List.getElem?_set_ne hi] at h
      obtain ⟨h1, h2⟩ := wipe_some h
      exact ⟨h1, by simp only [List.mem_cons, not_or]; exact ⟨fun e => hi e.symm, h2⟩⟩
abbrev Cx.blk (X : Cx) (s : Shared) (H : Hp) (scope : Scope) (cenv : Env) (fp : List Addr) : Cx := { X with s₀ := s, H₀ := H, env := cenv, outer := X.stack, ex := fp, fn := fun x => scope.names.lookup x == some .cell, pn := [], xe := fun _ _ => False }
section
variable {X : Cx} {pins : List (Addr × Obj)} {σ : St} {H : Hp} {s : Shared}
theorem block_start {scope : Scope} {own : List (Str × Nat)} {fp : List Addr} (I : Inv X pins σ H s) (ok : BlkOk X.N X.env.scope scope own) (hN : X.N.Nodup) (hfp : ∀ b ∈ fp, FpOk X pins H b ∧ b < s.heap.objs.size) :
    Inv (X.blk s H scope (compEnvC scope (cellsFrom (s.heap.objs.size + 1) scope.names (cloFrom X.env.cells scope.names [])) s.heap.objs.size X.env) fp) [] (wipe σ (own.map (·.2))) H { s with heap := pushCells (s.heap.push { cls := .type "dict", data := .dict #[] }) scope.names } := by
  have hfree : ∀ y ∈ scope.names, y.2 = .free → ∃ c, X.env.cells.lookup y.1 = some c := fun y hy e => by
    rcases ok.free y hy e with k | k
    · exact I.ok.has _ (.inl k)
    · exact I.ok.has _ (.inr k)
  generalize hcenv : compEnvC scope (cellsFrom (s.heap.objs.size + 1) scope.names (cloFrom X.env.cells scope.names [])) s.heap.objs.size X.env = cenv
  have kp : ∀ b o, s.heap.get? b = some o → (pushCells (s.heap.push { cls := .type "dict", data := .dict #[] }) scope.names).get? b = some o := fun b o e => pushCells_keeps _ _ _ _ (Heap.get?_push_of_some _ e)
  have hL : cenv.locals = s.heap.objs.size := by rw [← hcenv]; rfl
  have hcl : cenv.cells = cellsFrom (s.heap.objs.size + 1) scope.names (cloFrom X.env.cells scope.names []) := by rw [← hcenv]; rfl
  have hsc : cenv.scope = relS scope X.env.scope := by rw [← hcenv]; rfl
  rw [← Heap.size_push s.heap { cls := .type "dict", data := .dict #[] }] at hcl
  have cm : ∀ {y c}, (y, c) ∈ cloFrom X.env.cells scope.names [] → X.env.cells.lookup y = some c ∧ c < s.heap.objs.size := fun {y c} hm => by
    rcases cloFrom_mem hm with hm | ⟨h1, rfl⟩
    · cases hm
    · obtain ⟨c, hc⟩ := hfree _ h1 rfl
      rw [hc]
      obtain ⟨w, z⟩ := I.cell _ _ hc
      exact ⟨rfl, z.lt⟩
  have mem : ∀ {y c}, cenv.cells.lookup y = some c → (X.env.cells.lookup y = some c ∧ c < s.heap.objs.size) ∨ (s.heap.objs.size + 1 ≤ c ∧ CellAt (pushCells (s.heap.push { cls := .type "dict", data := .dict #[] }) scope.names) c none) := fun {y c} e => by
    rw [hcl] at e
    rcases cells_mem (PySem.mem_of_lookup e) with hm | ⟨_, h2, h3⟩
    · exact .inl (cm hm)
    · rw [Heap.size_push] at h2; exact .inr ⟨h2, h3⟩
  have look : ∀ {y}, scope.names.lookup y = some .free → ∃ c, cenv.cells.lookup y = some c ∧ X.env.cells.lookup y = some c := fun {y} hl => by
    have hy : (y, NameKind.free) ∈ scope.names := PySem.mem_of_lookup hl
    obtain ⟨c', e'⟩ := mem_lookup (cells_acc (names := scope.names) (n := (s.heap.push { cls := .type "dict", data := .dict #[] }).objs.size) (cloFrom_has (cells := X.env.cells) (acc := []) hy))
    rw [← hcl] at e'
    refine ⟨c', e', ?_⟩
    rw [hcl] at e'
    rcases cells_mem (PySem.mem_of_lookup e') with hm | ⟨h1, _, _⟩
    · exact (cm hm).1
    · have := ok.uniq _ h1
      rw [hl] at this; cases this
  have okB : (X.blk s H scope cenv fp).Ok := by
    refine ⟨I.ok.mod, by show cenv.scope.kind = _; rw [hsc]; exact ok.kind, by show cenv.globals = _; rw [← hcenv]; exact I.ok.glob, by show cenv.builtins = _; rw [← hcenv]; exact I.ok.blt, by show s.heap.objs.size ≤ cenv.locals; rw [hL]; exact Nat.le_refl _,
      fun y z c e1 e2 => ?_, fun y hy => ?_, fun y c z e => ?_, I.ok.hd, I.ok.frames, .inl rfl, fun b hb => ⟨?_, fun y c e z => ?_⟩, I.bs, Nat.le_trans I.ok.bsz I.sz, fun b o e hb => ?_, fun b hb z => ?_, I.stack, I.stkFree⟩
    · have e1 : cenv.cells.lookup y = some c := e1
      have e2 : cenv.cells.lookup z = some c := e2
      rw [hcl] at e1 e2
      refine cells_inj (fun p hp => ?_) (fun y z c a b => I.ok.inj y z c (cm a).1 (cm b).1) (PySem.mem_of_lookup e1) (PySem.mem_of_lookup e2)
      rw [Heap.size_push]
      exact Nat.lt_succ_of_lt (cm (y := p.1) (c := p.2) hp).2
    · show ∃ c, cenv.cells.lookup y = some c
      have key : ∀ k, cenv.kindOf y = some k → (k = .cell ∨ k = .free) → ∃ c, cenv.cells.lookup y = some c := fun k hk hk' => by
        unfold Env.kindOf at hk
        rw [hsc] at hk
        obtain ⟨k', e, r⟩ := lookup_relS hk
        have : k' = .cell ∨ k' = .free := by
          rcases r with rfl | ⟨rfl, _⟩
          · exact hk'
          · exact .inr rfl
        rcases this with rfl | rfl
        · obtain ⟨c, hm⟩ := cells_has (n := (s.heap.push { cls := .type "dict", data := .dict #[] }).objs.size) (acc := cloFrom X.env.cells scope.names []) (PySem.mem_of_lookup e)
          obtain ⟨c', e'⟩ := mem_lookup hm
          exact ⟨c', by rw [hcl]; exact e'⟩
        · obtain ⟨c, h1, _⟩ := look e
          exact ⟨c, h1⟩
      rcases hy with hy | hy
      · exact key _ hy (.inl rfl)
      · exact key _ hy (.inr rfl)
    · have z : (scope.names.lookup y == some NameKind.cell) = true := z
      have z : scope.names.lookup y = some .cell := by simpa using z
      have e : cenv.cells.lookup y = some c := e
      rw [hcl] at e
      rcases cells_mem (PySem.mem_of_lookup e) with hm | ⟨_, h2, _⟩
      · rcases cloFrom_mem hm with hm | ⟨h1, _⟩
        · cases hm
        · have q := ok.uniq _ h1
          rw [z] at q; cases q
      · rw [Heap.size_push] at h2
        exact Nat.le_of_succ_le h2
    · show b ≠ cenv.locals
      rw [hL]; exact Nat.ne_of_lt (hfp b hb).2
    · have e : cenv.cells.lookup y = some c := e
      rcases mem e with ⟨h1, _⟩ | ⟨h1, _⟩
      · exact (hfp b hb).1.2.2.2.2.1 y c h1 z
      · have h2 : s.heap.objs.size + 1 ≤ b := by rw [← z]; exact h1
        exact absurd (Nat.lt_of_lt_of_le (hfp b hb).2 (Nat.le_of_succ_le h2)) (Nat.lt_irrefl _)
    · rcases (hfp b hb).1.2.2.2.1 with z | z
      · exact I.ok.noex b o e z
      · exact absurd (Nat.lt_of_lt_of_le (Heap.lt_size e) (Nat.le_trans I.ok.bsz z)) (Nat.lt_irrefl _)
    · rcases List.mem_cons.mp (I.stkSub b z) with z | z
      · exact (hfp b hb).1.2.1 z
      · exact (hfp b hb).1.2.2.1 z
  refine ⟨okB, rfl, I.bare, Un.kept kp, ⟨fun _ => none, ?_, fun i y av e1 e2 e3 => ?_⟩, fun y c e => ?_, ?_, fun y c e => ?_, fun p hp => ?_, I.hok.kept kp, by rw [wipe_length]; exact I.len⟩
  · show Heap.Ns _ cenv.locals _
    rw [hL]
    exact Heap.Ns.keeps (Heap.Ns.new ..) fun b o e => pushCells_keeps _ _ _ _ e
  · obtain ⟨e2, hne⟩ := wipe_some e2
    have hfr : scope.names.lookup y = some .free ∧ (cenv.kindOf y = some .cell ∨ cenv.kindOf y = some .free) := by
      have key : ∀ k, cenv.scope.names.lookup y = some k → k = .local ∨ k = .cell ∨ k = .free → scope.names.lookup y = some .free ∧ (cenv.kindOf y = some .cell ∨ cenv.kindOf y = some .free) := fun k hk hk' => by
        have hk0 := hk
        rw [hsc] at hk
        obtain ⟨k', e, r⟩ := lookup_relS hk
        have no : ¬ (k' = .local ∨ k' = .cell) := fun hh => by
          rcases ok.own _ (PySem.mem_of_lookup e) hh with e' | e'
          · obtain ⟨p, hp, hpy⟩ := List.mem_map.mp e'
            have e3 := ok.ix p hp
            have : p.1 = y := hpy
            rw [this] at e3
            exact hne (List.mem_map.mpr ⟨p, hp, nodup_ix hN e3 e1⟩)
          · exact e' (List.mem_of_getElem? e1)
        rcases r with rfl | ⟨rfl, rfl⟩
        · rcases hk' with rfl | rfl | rfl
          · exact absurd (.inl rfl) no
          · exact absurd (.inr rfl) no
          · exact ⟨e, .inr hk0⟩
        · exact ⟨e, .inl hk0⟩
      have e3 : Vis cenv.scope y := e3
      rcases e3 with e3 | e3 | e3
      · exact key _ e3 (.inl rfl)
      · exact key _ e3 (.inr (.inl rfl))
      · exact key _ e3 (.inr (.inr rfl))
    obtain ⟨m, hn, hl⟩ := I.loc
    have hvis : Vis X.env.scope y := (ok.free _ (PySem.mem_of_lookup hfr.1) rfl).elim (fun k => .inr (.inl k)) (fun k => .inr (.inr k))
    obtain ⟨w, r, q⟩ := hl i y av e1 e2 hvis
    refine ⟨w, r, .inr ⟨hfr.2, ?_⟩⟩
    obtain ⟨c, h1, h2⟩ := look hfr.1
    rcases q with ⟨k, _⟩ | ⟨_, c', e', z⟩
    · have k : X.env.scope.names.lookup y = some .local := k
      rcases ok.free _ (PySem.mem_of_lookup hfr.1) rfl with k' | k' <;> rw [show X.env.scope.names.lookup y = _ from k'] at k <;> cases k
    · rw [h2] at e'; cases e'
      exact ⟨c, h1, z.keeps kp⟩
  · have e : cenv.cells.lookup y = some c := e
    rcases mem e with ⟨h1, _⟩ | ⟨_, z⟩
    · obtain ⟨w, z⟩ := I.cell y c h1
      exact ⟨w, z.keeps kp⟩
    · exact ⟨_, z⟩
  · show H cenv.locals = none
    rw [hL]; exact I.hok.fresh (Nat.le_refl _)
  · have e : cenv.cells.lookup y = some c := e
    rcases mem e with ⟨h1, _⟩ | ⟨h1, _⟩
    · exact I.freeC y c h1
    · exact I.hok.fresh (Nat.le_of_succ_le h1)
  · exact absurd (show p ∈ ([] : List (Addr × Obj)) ++ [] from hp) (by simp)
theorem app_ok {E : Value → Shared → Prop} {D : Addr} {xs : List V} {y : V} {v : Value} {Q : Value → Shared → Prop} (I : Inv X pins σ H s) (hD : H D = some (.lst xs)) (hz : xs.length < sizeLine) (r : RelV y v)
    (h : ∀ s', Inv X pins σ (upd H D (.lst (xs ++ [y]))) s' → Q .none s') : wpAny (model X.prog X.w) X.A (call (.builtin "list.append") [.ref D, v]) Q E s := by
  obtain ⟨hz', its, n, ri, e⟩ := I.hok D _ hD
  have hl := ri.length
  refine append_at (hsz := by rw [List.size_toArray]; omega) e fun h' sb ho' => ?_
  refine h { s with heap := h' } (I.write (t' := s.toks) (by rw [hD]; trivial) (.inl rfl) (fun b u hb q => (sb.2 b hb).trans q) ⟨_, ho'⟩ ⟨by rw [List.length_append]; exact hz, its ++ [v], n + 1, ri.append (.cons r .nil), ?_⟩)
  rw [ho']
  simp
def PTs (X : Cx) (ifs : List Expr) (t : TT) : Prop :=
  ∀ (pins : List (Addr × Obj)) (s : Shared) (σ : St) (H : Hp) (Q : Bool → Hp → Prop), Inv X pins σ H s → t σ H Q →
    wpAny (model X.prog X.w) X.A (forIn ifs true fun c r => if r = true then do let ok ← isTrue c X.env (eval c X.env); pure (ForInStep.yield ok) else pure (ForInStep.yield r)) (TP X pins σ Q) X.xe s
def tYes : TT := fun _ H Q => Q true H
theorem pts_nil : PTs X [] tYes := fun _ _ _ H _ I h => wpAny_tests_nil ⟨H, I, h⟩
theorem pts_one {c : Expr} {t : TT} (h : PT X c t) : PTs X [c] t := fun pins s σ H Q I hw => wpAny_tests_one (h pins s σ H Q I hw)
end
theorem thnF {α : Type} {t : Sem α} {Q Q' : α → Shared → Prop} {M : Model} {A : Around} {E : Value → Shared → Prop} {s : Shared} (h : wpAny M A t Q (fun _ _ => False) s) (hQ : ∀ a s, Q a s → Q' a s) : wpAny M A t Q' E s := wpAny_mono h hQ fun _ _ z => False.elim z
theorem compLoop_any {prog : Program} {w : World} {A : Around} {R : Result → Shared → Prop} {s : Shared} {elt target iter : Expr} {ifs : List Expr} {scope : Scope} {pos : Pos} {it acc : Value} {env : Env} (I : Nat → Shared → Prop)
    (turn : ∀ n s, I n s → wpAny (model prog w) A (pyNext it) (fun r s₁ => match r with
      | none => R (.ok .next) s₁
      | some v => wpAny (model prog w) A (letOwnedTupleGo target it v) (fun _ s₁' => wpAny (model prog w) A (assign target env v) (fun _ s₂ =>
          wpAny (model prog w) A (forIn ifs true fun c r => if r = true then do let ok ← isTrue c env (eval c env); pure (ForInStep.yield ok) else pure (ForInStep.yield r)) (fun ok s₃ =>
            if ok = true then wpAny (model prog w) A (eval elt env) (fun x s₄ =>
              wpAny (model prog w) A (call (.builtin "list.append") [acc, x]) (fun _ s₅ => ∃ m, m < n ∧ I m s₅) (notedBy (model prog w) A env fun e s' => R (.error e) s') s₄) (notedBy (model prog w) A env fun e s' => R (.error e) s') s₃
            else ∃ m, m < n ∧ I m s₃) (notedBy (model prog w) A env fun e s' => R (.error e) s') s₂) (notedBy (model prog w) A env fun e s' => R (.error e) s') s₁') (notedBy (model prog w) A env fun e s' => R (.error e) s') s₁) (notedBy (model prog w) A env fun e s' => R (.error e) s') s)
    (n : Nat) (h : I n s) :
    codeAny (model prog w) A (.compLoop (.ListComp elt [⟨target, iter, ifs, 0⟩] scope pos) 0 it acc env) R s := by
  refine codeAny_loop rfl I (fun n s hI => ?_) n h
  show wpAny _ A ((compTurn (.ListComp elt [⟨target, iter, ifs, 0⟩] scope pos) 0 it acc env).onRaise (fun x => do noteFrame x env; theTreesLotGoes x)) _ _ s
  refine wpAny_noted ?_
  rw [compTurn_list]
  refine wpAny_bind (wpAny_standAt (wpAny_bind (wpAny_mono (turn n s hI) (fun r s₁ h₁ => ?_) fun _ _ h' => h')))
  cases r with
  | none => exact wpAny_pure h₁
  | some v =>
    refine wpAny_bind (wpAny_mono h₁ (fun _ s₁' h₁' => ?_) fun _ _ h' => h')
    refine wpAny_bind (wpAny_mono h₁' (fun _ s₂ h₂ => wpAny_bind (wpAny_mono h₂ (fun ok s₃ h₃ => ?_) fun _ _ h' => h')) fun _ _ h' => h')
    cases ok with
    | false => exact wpAny_pure ⟨rfl, h₃⟩
    | true =>
      exact wpAny_bind (wpAny_bind (wpAny_mono h₃ (fun x s₄ h₄ => wpAny_bind (wpAny_mono h₄ (fun _ s₅ h₅ => wpAny_pure (wpAny_pure ⟨rfl, h₅⟩)) fun _ _ h' => h')) fun _ _ h' => h'))
section
variable {X : Cx}
def tLc (wi : TI) (g : TG) (tt : TT) (te : TE) (vs : List Nat) : TE := fun σ H Q => wi σ H fun J H1 => ∀ D, H1 D = none → ∃ W : Nat → Nat → Hp → Prop, (∃ m, W 0 m (upd H1 D (.lst []))) ∧ ∀ i m H, W i m H →
  (J.stop i H ∧ Q (.ref D) H) ∨ (J.go i H ∧ ∃ Nx : Hp → Prop, (∀ H', Nx H' → ∃ m', m' < m ∧ W (i + 1) m' H') ∧ ∀ x H', J.yld i H x H' → g x (wipe σ vs) H' fun σ2 H2 => wipe σ2 vs = wipe σ vs ∧ tt σ2 H2 fun b H3 =>
    if b = true then te σ2 H3 fun y H4 => ∃ acc, H4 D = some (.lst acc) ∧ acc.length < sizeLine ∧ Nx (upd H4 D (.lst (acc ++ [y]))) else Nx H3)
theorem lc_core {pins : List (Addr × Obj)} {s : Shared} {σ : St} {H : Hp} {Q : VK} {elt tg iter : Expr} {ifs : List Expr} {scope : Scope} {own : List (Str × Nat)} {pos pos' : Pos} {wi : TI} {g : TG} {tt : TT} {te : TE} {use : Option (Value → Sem Unit)} {Qf : Value → Shared → Prop}
    (hc : X.calm = true) (hN : X.N.Nodup) (I : Inv X pins σ H s) (hi : PI X tg iter wi) (ok : BlkOk X.N X.env.scope scope own)
    (hg : ∀ (s : Shared) (H : Hp) (C : Addr) (cl : List (Str × Addr)) (fp : List Addr), PG (X.blk s H scope (compEnvC scope cl C X.env) fp) tg g) (ht : ∀ (s : Shared) (H : Hp) (C : Addr) (cl : List (Str × Addr)) (fp : List Addr), PTs (X.blk s H scope (compEnvC scope cl C X.env) fp) ifs tt)
    (he : ∀ (s : Shared) (H : Hp) (C : Addr) (cl : List (Str × Addr)) (fp : List Addr), PE (X.blk s H scope (compEnvC scope cl C X.env) fp) elt te) (hs : ∀ x, foldedSetIterable iter X.env x = pure x)
    (h : tLc wi g tt te (own.map (·.2)) σ H Q)
    (hRR : ∀ D C s' m H', Inv X pins σ H' s' → Q (.ref D) H' → s'.heap.Ns C m → FpOk X pins H' C → compPost (model X.prog X.w) X.A X.xe use Qf (.ref D) C (.ok .next) s') :
    wpAny (model X.prog X.w) X.A (comprehension (.ListComp elt [⟨tg, iter, ifs, 0⟩] scope pos) scope X.env pos' (newList []) false (eval iter X.env) use) Qf X.xe s := by
  have hfree : ∀ y ∈ scope.names, y.2 = .free → ∃ c, X.env.cells.lookup y.1 = some c := fun y hy e => by
    rcases ok.free y hy e with k | k
    · exact I.ok.has _ (.inl k)
    · exact I.ok.has _ (.inr k)
  refine wpAny_comprehension_free (use := use) rfl hs (closure_ok hfree) ok.kind (fun y hy e => by rw [ok.uniq y hy, e])
    (thn (hi pins s σ H _ I h) fun xv s1 hx => thn hx fun itv s2 h2 => ?_)
  obtain ⟨it, fp, tn, J, H2, e, I2, T, st2, f2, q⟩ := h2
  subst e
  refine wpAny_newObj_type (newEnv_comp ?_) (by show 0 ≤ sizeLine; decide)
  generalize hD : s2.heap.objs.size = D
  have hDn : H2 D = none := I2.hok.fresh (Nat.le_of_eq hD)
  obtain ⟨W, ⟨m0, w0⟩, turn⟩ := q D hDn
  -- the new list
  generalize hs3 : ({ s2 with heap := s2.heap.push { cls := .type "list", data := .seq ([] : List Value).toArray } } : Shared) = s3
  have I3 : Inv X pins σ (upd H2 D (.lst [])) s3 := by
    rw [← hs3]
    refine I2.laid (t' := s2.toks) (fun b o e => Heap.get?_push_of_some _ e) (Nat.le_of_eq hD) ⟨Nat.zero_le _, [], 0, .nil, ?_⟩
    rw [← hD]
    exact Heap.get?_push_size _ rfl
  have h3 : s3.heap = s2.heap.push { cls := .type "list", data := .seq ([] : List Value).toArray } := by rw [← hs3]
  have sz : ∀ b ∈ fp, b < s2.heap.objs.size := fun b hb => by
    obtain ⟨o, e, _⟩ := T.obj _ _ st2 b hb
    exact Heap.lt_size e
  have f3 : ∀ b ∈ fp, FpOk X pins (upd H2 D (.lst [])) b ∧ b < s3.heap.objs.size := fun b hb => by
    have hlt := sz b hb
    refine ⟨⟨?_, (f2 b hb).2⟩, by rw [h3, Heap.size_push]; exact Nat.lt_succ_of_lt hlt⟩
    rw [upd_ne (by rw [← hD]; exact Nat.ne_of_lt hlt)]
    exact (f2 b hb).1
  have st3 : tn 0 s3.heap := T.keep _ _ _ st2 fun b _ o e => by rw [h3]; exact Heap.get?_push_of_some _ e
  have I4 := block_start I3 ok hN f3
  have pg := hg s3 (upd H2 D (.lst [])) s3.heap.objs.size (cellsFrom (s3.heap.objs.size + 1) scope.names (cloFrom X.env.cells scope.names [])) fp
  have pt := ht s3 (upd H2 D (.lst [])) s3.heap.objs.size (cellsFrom (s3.heap.objs.size + 1) scope.names (cloFrom X.env.cells scope.names [])) fp
  have pe := he s3 (upd H2 D (.lst [])) s3.heap.objs.size (cellsFrom (s3.heap.objs.size + 1) scope.names (cloFrom X.env.cells scope.names [])) fp
  show codeAny _ _ (.compStart (.ListComp elt [⟨tg, iter, ifs, 0⟩] scope pos) 0 (.ref it) (.ref D) (compEnvC scope (cellsFrom (s3.heap.objs.size + 1) scope.names (cloFrom X.env.cells scope.names [])) s3.heap.objs.size X.env)) (compPost (model X.prog X.w) X.A X.xe use Qf (.ref D) s3.heap.objs.size) { s3 with heap := pushCells (s3.heap.push { cls := .type "dict", data := .dict #[] }) scope.names }
  have nfp : ∀ b ∈ fp, (upd H2 D (.lst [])) b = none := fun b hb => (f3 b hb).1.1
  generalize hce : compEnvC scope (cellsFrom (s3.heap.objs.size + 1) scope.names (cloFrom X.env.cells scope.names [])) s3.heap.objs.size X.env = ce at I4 pg pt pe ⊢
  have cL : ce.locals = s3.heap.objs.size := by subst hce; rfl
  generalize hH3 : upd H2 D (.lst []) = H3 at I3 I4 pg pt pe w0 nfp f3
  generalize hs4 : ({ s3 with heap := pushCells (s3.heap.push { cls := .type "dict", data := .dict #[] }) scope.names } : Shared) = s4 at I4 ⊢
  have st4 : tn 0 s4.heap := T.keep _ _ _ st3 fun b _ o e => by rw [← hs4]; exact pushCells_keeps _ _ _ _ (Heap.get?_push_of_some _ e)
  have stat : ∀ {σ' : St} {H' : Hp} {s' : Shared}, Inv (X.blk s3 H3 scope ce fp) [] σ' H' s' → (∀ b ∈ fp, H' b = none) → ∀ b ∈ fp, FpOk (X.blk s3 H3 scope ce fp) [] H' b := fun {σ' H' s'} I' hn b hb =>
    ⟨hn b hb, (I'.ok.exf b hb).1, I'.ok.exfs b hb, .inl hb, fun x c e => (I'.ok.exf b hb).2 x c e, fun p hp => absurd (show p ∈ ([] : List (Addr × Obj)) ++ [] from hp) (by simp)⟩
  have loop : codeAny (model X.prog X.w) X.A (.compLoop (.ListComp elt [⟨tg, iter, ifs, 0⟩] scope pos) 0 (.ref it) (.ref D) ce) (compPost (model X.prog X.w) X.A X.xe use Qf (.ref D) s3.heap.objs.size) s4 := by
    refine compLoop_any (fun n s' => ∃ i H', Inv (X.blk s3 H3 scope ce fp) [] (wipe σ (own.map (·.2))) H' s' ∧ tn i s'.heap ∧ (∀ b ∈ fp, H' b = none) ∧ W i n H') ?_ m0 ⟨0, H3, I4, st4, nfp, w0⟩
    rintro n s5 ⟨i, H5, I5, st5, n5, w5⟩
    rcases turn i n H5 w5 with ⟨stop, qq⟩ | ⟨go, Nx, hNx, step⟩
    · have td := T.done (X.blk s3 H3 scope ce fp) rfl rfl rfl hc i [] s5 _ H5 (fun _ _ => False) I5 (stat I5 n5) st5 stop
      refine thnF td fun r s6 ⟨hr, I6⟩ => ?_
      subst hr
      -- back in the def's context
      have I7 : Inv X pins σ H5 s6 := I3.call' (ch := fp) I6.os I6.base I6.hok I6.bare fun b hb => ⟨(f3 b hb).1.2.2.2.1, (f3 b hb).1.2.1, (f3 b hb).1.2.2.2.2.1, (f3 b hb).1.2.2.2.2.2⟩
      have nC : H5 s3.heap.objs.size = none := by
        have z : H5 ce.locals = none := I6.free
        rw [cL] at z
        exact z
      obtain ⟨m, hn, _⟩ := I6.loc
      have hn : s6.heap.Ns ce.locals m := hn
      rw [cL] at hn
      exact hRR D s3.heap.objs.size s6 m H5 I7 qq hn (I3.fpOk (Nat.le_refl _) nC)
    · have ti := T.item (X.blk s3 H3 scope ce fp) rfl rfl rfl hc i [] s5 _ H5 (fun _ _ => False) I5 (stat I5 n5) st5 go
      refine thnF ti fun r s6 ⟨u, hr, h6⟩ => ?_
      subst hr
      refine thnF h6 fun _ s7 ⟨x, H7, I7, r7, y7, st7, n7⟩ => ?_
      have I7' := I7.pinned (stat I7 n7) (T.obj _ _ st7)
      refine thnF (pg _ s7 _ H7 x u _ I7' r7 (step x H7 y7)) fun _ s8 ⟨σ8, H8, I8, hw8, q8⟩ => ?_
      refine thnF (pt _ s8 σ8 H8 _ I8 q8) fun b s9 ⟨H9, I9, q9⟩ => ?_
      -- the turn's end
      have fin : ∀ {s' : Shared} {H' : Hp}, Inv (X.blk s3 H3 scope ce fp) ([] ++ pinsAt fp s7.heap) σ8 H' s' → Nx H' → ∃ m, m < n ∧ ∃ i H', Inv (X.blk s3 H3 scope ce fp) [] (wipe σ (own.map (·.2))) H' s' ∧ tn i s'.heap ∧ (∀ b ∈ fp, H' b = none) ∧ W i m H' := fun {s' H'} I' nx => by
        obtain ⟨m', hm, w'⟩ := hNx H' nx
        have pin' : ∀ b ∈ fp, ∀ o, s7.heap.get? b = some o → s'.heap.get? b = some o ∧ H' b = none := fun b hb o e =>
          let z := I'.pin (b, o) (List.mem_append_right _ (List.mem_append_right _ (mem_pinsAt hb e)))
          ⟨z.1, z.2.1⟩
        have hl : (wipe σ (own.map (·.2))).length = σ8.length := by rw [← hw8, wipe_length]
        refine ⟨m', hm, i + 1, H', (I'.unpinned (pins := [])).weak hl (fun j v e => ?_), T.keep _ _ _ st7 fun b hb o e => (pin' b hb o e).1, fun b hb => ?_, w'⟩
        · rw [← hw8] at e
          exact (wipe_some e).1
        · obtain ⟨o, e, _⟩ := T.obj _ _ st7 b hb
          exact (pin' b hb o e).2
      cases b with
      | false =>
        simp only [Bool.false_eq_true, if_false] at q9 ⊢
        exact fin I9 q9
      | true =>
        simp only [if_true] at q9 ⊢
        refine thnF (pe _ s9 σ8 H9 _ I9 q9) fun z s10 ⟨yv, H10, I10, r10, acc, hD10, hz10, nx⟩ => ?_
        exact app_ok (X := X.blk s3 H3 scope ce fp) I10 hD10 hz10 r10 fun s11 I11 => fin I11 nx
  exact codeAny_compStart_list loop (T.self X.A 0 _ _ _ st4 loop)
theorem pe_lc {elt tg iter : Expr} {ifs : List Expr} {scope : Scope} {own : List (Str × Nat)} {pos : Pos} {wi : TI} {g : TG} {tt : TT} {te : TE} (hc : X.calm = true) (hN : X.N.Nodup) (hi : PI X tg iter wi) (ok : BlkOk X.N X.env.scope scope own)
    (hg : ∀ (s : Shared) (H : Hp) (C : Addr) (cl : List (Str × Addr)) (fp : List Addr), PG (X.blk s H scope (compEnvC scope cl C X.env) fp) tg g) (ht : ∀ (s : Shared) (H : Hp) (C : Addr) (cl : List (Str × Addr)) (fp : List Addr), PTs (X.blk s H scope (compEnvC scope cl C X.env) fp) ifs tt)
    (he : ∀ (s : Shared) (H : Hp) (C : Addr) (cl : List (Str × Addr)) (fp : List Addr), PE (X.blk s H scope (compEnvC scope cl C X.env) fp) elt te) (hs : ∀ x, foldedSetIterable iter X.env x = pure x := by intro _; rfl) :
    PE X (.ListComp elt [⟨tg, iter, ifs, 0⟩] scope pos) (tLc wi g tt te (own.map (·.2))) := by
  intro pins s σ H Q I h
  rw [eval_ListComp]
  refine lc_core hc hN I hi ok hg ht he hs h fun D C s' m H' I' q hn f => ⟨m, hn, fun h'' sb => ?_⟩
  obtain ⟨f0, f1, f2, f3, f4, f5⟩ := f
  exact ⟨.ref D, H', I'.turned (t' := s'.toks) (fun b o hb e => (sb.2 b hb).trans e) f0 f1 f3 f4 f5, rfl, q⟩
theorem ps_setLc {i : Nat} {y : Str} {py : Pos} {elt tg iter : Expr} {ifs : List Expr} {scope : Scope} {own : List (Str × Nat)} {pos spos : Pos} {wi : TI} {g : TG} {tt : TT} {te : TE} (hc : X.calm = true) (hN : X.N.Nodup) (hy : X.N[i]? = some y) (hyl : X.env.scope.names.lookup y = some .local)
    (hsw : swapsWith (.ListComp elt [⟨tg, iter, ifs, 0⟩] scope pos) (some (.Name y py)) spos.line X.env = pure true) (hi : PI X tg iter wi) (ok : BlkOk X.N X.env.scope scope own)
    (hg : ∀ (s : Shared) (H : Hp) (C : Addr) (cl : List (Str × Addr)) (fp : List Addr), PG (X.blk s H scope (compEnvC scope cl C X.env) fp) tg g) (ht : ∀ (s : Shared) (H : Hp) (C : Addr) (cl : List (Str × Addr)) (fp : List Addr), PTs (X.blk s H scope (compEnvC scope cl C X.env) fp) ifs tt)
    (he : ∀ (s : Shared) (H : Hp) (C : Addr) (cl : List (Str × Addr)) (fp : List Addr), PE (X.blk s H scope (compEnvC scope cl C X.env) fp) elt te) (hs : ∀ x, foldedSetIterable iter X.env x = pure x := by intro _; rfl) :
    PS X (.Assign [.Name y py] (.ListComp elt [⟨tg, iter, ifs, 0⟩] scope pos) spos) (tAsg (tLc wi g tt te (own.map (·.2))) (gName i)) := by
  intro pins s σ H D I h
  rw [exec_Assign_Name_used _ _ _ _ hsw]
  refine wpAny_bind (wpAny_standAt (wpAny_bind ?_))
  show wpAny _ X.A (do let _ ← comprehension (.ListComp elt [⟨tg, iter, ifs, 0⟩] scope pos) scope X.env (firstIterPos [⟨tg, iter, ifs, 0⟩] pos) (newList []) false (eval iter X.env) (some (assign (.Name y py) X.env))) _ _ s
  have h : tLc wi g tt te (own.map (·.2)) σ H (fun x H1 => gName i x σ H1 D.nx) := h
  refine wpAny_bind (thn (lc_core (Qf := fun _ s' => SP X pins D .next s') hc hN I hi ok hg ht he hs h fun L C s' m H' I' q hn f => ?_) fun _ s' hq => wpAny_pure (wpAny_pure hq))
  show wpAny _ _ (assign (.Name y py) X.env (.ref L)) _ _ _
  refine wpAny_assign_Name (store_ok2 (v := V.ref L) I' hN hy (.inl hyl) rfl (fun s2 I2 ⟨a, sb, ha⟩ => ?_) (.inr hyl))
  obtain ⟨f0, f1, f2, f3, f4, f5⟩ := f
  have haC : C ≠ a := by
    rcases ha with z | z
    · rw [z]; exact f1
    · exact fun e => f4 y a z e.symm
  refine ⟨m, hn.sameBut sb haC, fun h3 sb3 => ?_⟩
  exact ⟨_, H', I2.turned (t' := s2.toks) (fun b o hb e => (sb3.2 b hb).trans e) f0 f1 f3 f4 f5, q⟩
theorem sw_true {elt : Expr} {gs : List Comprehension} {scope : Scope} {pos py : Pos} {y : Str} {l : Nat} {env : Env} (hk : env.scope.kind = .function) (hy : env.scope.names.lookup y = some .local) (hl : (py.line == pos.line) = true)
    (ha : (scope.names.any fun (n, k) => n == y && (k == .local || k == .cell)) = false) : swapsWith (.ListComp elt gs scope pos) (some (.Name y py)) l env = pure true := by
  have ky : env.kindOf y = some .local := hy
  have hb : env.blockKind = .function := by unfold Env.blockKind; rw [hk]; rfl
  unfold swapsWith
  simp only [hb, ky, ha, Expr.pos, hl]
  rfl
end
def blkC (N : List Str) (sc scope : Scope) (own : List (Str × Nat)) : Bool :=
  (match scope.kind with | .function => true | _ => false) && (scope.names.all fun y => decide (scope.names.lookup y.1 = some y.2)) && (own.all fun p => decide (N[p.2]? = some p.1)) &&
    (scope.names.all fun y => match y.2 with
      | .free => (match sc.names.lookup y.1 with | some .cell => true | some .free => true | _ => false)
      | .local => decide (y.1 ∈ own.map (·.1)) || decide (y.1 ∉ N)
      | .cell => decide (y.1 ∈ own.map (·.1)) || decide (y.1 ∉ N)
      | _ => true)
theorem blkOk_by {N : List Str} {sc scope : Scope} {own : List (Str × Nat)} (h : blkC N sc scope own = true) : BlkOk N sc scope own := by
  unfold blkC at h
  simp only [Bool.and_eq_true, List.all_eq_true, decide_eq_true_eq] at h
  obtain ⟨⟨⟨h1, h2⟩, h3⟩, h4⟩ := h
  refine ⟨?_, h2, h3, fun y hy e => ?_, fun y hy e => ?_⟩
  · split at h1
    · assumption
    · cases h1
  · have q := h4 y hy
    simp only [e] at q
    split at q <;> first | exact .inl (by assumption) | exact .inr (by assumption) | cases q
  · have q := h4 y hy
    rcases e with e | e <;> (simp only [e, Bool.or_eq_true, decide_eq_true_eq] at q; exact q)
end L2
namespace L2
open PySem PySem.Spec PyProof.Rows
section
variable {κ : Type} [DecidableEq κ]
def valV (kvs : List (κ × V)) (k : κ) : Option V := (kvs.find? fun kv => decide (kv.1 = k)).map (·.2)
def putK (kvs : List (κ × V)) (k : κ) (v : V) : List (κ × V) :=
  if (kvs.any fun kv => decide (kv.1 = k)) = true then kvs.map (fun kv => if kv.1 = k then (kv.1, v) else kv) else kvs ++ [(k, v)]
def dropK (kvs : List (κ × V)) (k : κ) : List (κ × V) := kvs.filter fun kv => decide (kv.1 ≠ k)
theorem valV_pos {p : κ × V} {r : List (κ × V)} {k : κ} (e : p.1 = k) : valV (p :: r) k = some p.2 := by simp [valV, List.find?_cons, e]
theorem valV_neg {p : κ × V} {r : List (κ × V)} {k : κ} (e : ¬ p.1 = k) : valV (p :: r) k = valV r k := by simp [valV, List.find?_cons, e]
theorem valV_any (k : κ) : ∀ kvs : List (κ × V), (kvs.any fun kv => decide (kv.1 = k)) = (valV kvs k).isSome
  | [] => rfl
  | p :: r => by
    rw [List.any_cons]
    by_cases e : p.1 = k
    · simp only [valV_pos e, decide_eq_true e, Bool.true_or, Option.isSome_some]
    · rw [valV_neg e, decide_eq_false e, Bool.false_or]; exact valV_any k r
theorem length_putK (kvs : List (κ × V)) (k : κ) (v : V) : (putK kvs k v).length ≤ kvs.length + 1 := by
  unfold putK
  split
  · rw [List.length_map]; omega
  · rw [List.length_append, List.length_cons, List.length_nil]; omega
theorem putK_new {kvs : List (κ × V)} {k : κ} (v : V) (h : valV kvs k = none) : putK kvs k v = kvs ++ [(k, v)] := by
  unfold putK
  rw [valV_any, h]
  exact if_neg (by decide)
theorem RelO.isSome_eq {o : Option V} {u : Option Value} (r : RelO o u) : o.isSome = u.isSome := by
  cases o with
  | none => cases u with
    | none => rfl
    | some _ => exact (show False from r).elim
  | some _ => cases u with
    | none => exact (show False from r).elim
    | some _ => rfl
theorem RelO.getD {o : Option V} {u : Option Value} {d : V} {d' : Value} (r : RelO o u) (rd : RelV d d') : RelV (o.getD d) (u.getD d') := by
  cases o with
  | none => cases u with
    | none => exact rd
    | some _ => exact (show False from r).elim
  | some _ => cases u with
    | none => exact (show False from r).elim
    | some _ => exact r
theorem KV.val {kvs : List (κ × V)} {vs : List (κ × Value)} (r : KV kvs vs) (k : κ) : RelO (valV kvs k) (valueAt vs k) := by
  unfold KV at r
  induction r with
  | nil => exact True.intro
  | @cons p q ps qs h t ih =>
    obtain ⟨h1, h2⟩ := h
    by_cases e : p.1 = k
    · have e' : q.1 = k := h1.symm.trans e
      have b : valueAt (q :: qs) k = some q.2 := by simp [valueAt, List.find?_cons, e']
      rw [valV_pos e, b]; exact h2
    · have e' : ¬ q.1 = k := fun z => e (h1.trans z)
      have b : valueAt (q :: qs) k = valueAt qs k := by simp [valueAt, List.find?_cons, e']
      rw [valV_neg e, b]; exact ih
theorem KV.any {kvs : List (κ × V)} {vs : List (κ × Value)} (r : KV kvs vs) (k : κ) : (kvs.any fun kv => decide (kv.1 = k)) = vs.any fun kv => decide (kv.1 = k) := by
  unfold KV at r
  induction r with
  | nil => rfl
  | cons h t ih => rw [List.any_cons, List.any_cons, ih, h.1]
theorem KV.repl {kvs : List (κ × V)} {vs : List (κ × Value)} (r : KV kvs vs) (k : κ) {y : V} {u : Value} (ry : RelV y u) :
    KV (kvs.map fun kv => if kv.1 = k then (kv.1, y) else kv) (vs.map fun kv => if kv.1 = k then (kv.1, u) else kv) := by
  unfold KV at r ⊢
  induction r with
  | nil => exact .nil
  | @cons p q ps qs h t ih =>
    rw [List.map_cons, List.map_cons]
    refine .cons ?_ ih
    obtain ⟨h1, h2⟩ := h
    by_cases e : p.1 = k
    · rw [if_pos e, if_pos (h1.symm.trans e)]; exact ⟨h1, ry⟩
    · rw [if_neg e, if_neg (fun z => e (h1.trans z))]; exact ⟨h1, h2⟩
theorem KV.put {kvs : List (κ × V)} {vs : List (κ × Value)} (r : KV kvs vs) (k : κ) {y : V} {u : Value} (ry : RelV y u) : KV (putK kvs k y) (stored vs k u) := by
  unfold putK stored
  rw [r.any k]
  by_cases e : (vs.any fun kv => decide (kv.1 = k)) = true
  · rw [if_pos e, if_pos e]; exact r.repl k ry
  · rw [if_neg e, if_neg e]; exact Paired.snoc r ⟨rfl, ry⟩
theorem KV.drop {kvs : List (κ × V)} {vs : List (κ × Value)} (r : KV kvs vs) (k : κ) : KV (dropK kvs k) (without vs k) := by
  unfold KV at r ⊢
  unfold dropK without
  induction r with
  | nil => exact .nil
  | @cons p q ps qs h t ih =>
    obtain ⟨h1, h2⟩ := h
    rw [List.filter_cons, List.filter_cons]
    by_cases e : p.1 = k
    · have a : ¬ decide (p.1 ≠ k) = true := by simp [e]
      have b : ¬ decide (q.1 ≠ k) = true := by simp [h1.symm.trans e]
      rw [if_neg a, if_neg b]; exact ih
    · have e' : ¬ q.1 = k := fun z => e (h1.trans z)
      have a : decide (p.1 ≠ k) = true := by simp [e]
      have b : decide (q.1 ≠ k) = true := by simp [e']
      rw [if_pos a, if_pos b]; exact .cons ⟨h1, h2⟩ ih
theorem KV.length {kvs : List (κ × V)} {vs : List (κ × Value)} (r : KV kvs vs) : kvs.length = vs.length := Paired.length r
theorem dropK_le (kvs : List (κ × V)) (k : κ) : (dropK kvs k).length ≤ kvs.length := List.length_filter_le _ _
end
theorem kV_is {P : Program} {w : World} {k : Key} {u : Value} (r : RelV (kV k) u) : (mixKind P w).is k u = true := by
  cases k with
  | inl i => obtain ⟨t, e⟩ := (show ∃ t, u = Value.int i t from r); subst e; exact mixKind_int P w i t
  | inr x => obtain ⟨t, e⟩ := (show ∃ t, u = Value.str x t from r); subst e; exact mixKind_str P w x t
theorem items_are {P : Program} {w : World} : ∀ {ks : List Key} {us : List Value}, Vals (ks.map kV) us → ItemsAre (mixKind P w) ks us
  | [], _, r => by rw [List.map_nil] at r; cases r; exact .nil
  | k :: ks, _, r => by
    rw [List.map_cons] at r
    cases r with
    | cons h t => exact .cons (kV_is h) (items_are t)
abbrev KT (H : Hp) : List (List Key × V) → List (List Key × Addr × Value) → Prop := Paired fun p q => p.1 = q.1 ∧ H q.2.1 = some (.tup (p.1.map kV)) ∧ RelV p.2 q.2.2
theorem KT.val {H : Hp} {kvs : List (List Key × V)} {xs : List (List Key × Addr × Value)} (r : KT H kvs xs) (k : List Key) : RelO (valV kvs k) ((atKey xs k).map (·.2)) := by
  induction r with
  | nil => exact True.intro
  | @cons p q ps qs h t ih =>
    obtain ⟨h1, _, h2⟩ := h
    by_cases e : p.1 = k
    · have e' : q.1 = k := h1.symm.trans e
      have b : atKey (q :: qs) k = some q.2 := by simp [atKey, List.find?_cons, e']
      rw [valV_pos e, b]; exact h2
    · have e' : ¬ q.1 = k := fun z => e (h1.trans z)
      have b : atKey (q :: qs) k = atKey qs k := by simp [atKey, List.find?_cons, e']
      rw [valV_neg e, b]; exact ih
theorem KT.repl {H : Hp} {kvs : List (List Key × V)} {xs : List (List Key × Addr × Value)} (r : KT H kvs xs) (k : List Key) {y : V} {u : Value} (ry : RelV y u) :
    KT H (kvs.map fun kv => if kv.1 = k then (kv.1, y) else kv) (xs.map (putAt k u)) := by
  induction r with
  | nil => exact .nil
  | @cons p q ps qs h t ih =>
    rw [List.map_cons, List.map_cons]
    refine .cons ?_ ih
    obtain ⟨h1, h2, h3⟩ := h
    unfold putAt
    by_cases e : p.1 = k
    · rw [if_pos e, if_pos (h1.symm.trans e)]; exact ⟨h1, h2, ry⟩
    · rw [if_neg e, if_neg (fun z => e (h1.trans z))]; exact ⟨h1, h2, h3⟩
theorem KT.put {H : Hp} {kvs : List (List Key × V)} {xs : List (List Key × Addr × Value)} (r : KT H kvs xs) (k : List Key) {b : Addr} {y : V} {u : Value} (hb : H b = some (.tup (k.map kV))) (ry : RelV y u) :
    KT H (putK kvs k y) (storedH xs k b u) := by
  have e : (kvs.any fun kv => decide (kv.1 = k)) = (atKey xs k).isSome := by
    rw [valV_any, (r.val k).isSome_eq, Option.isSome_map]
  unfold putK storedH
  rw [e]
  by_cases q : (atKey xs k).isSome = true
  · rw [if_pos q, if_pos q]; exact r.repl k ry
  · rw [if_neg q, if_neg q]; exact Paired.snoc r ⟨rfl, hb, ry⟩
theorem KT.keeps {H H' : Hp} {kvs : List (List Key × V)} {xs : List (List Key × Addr × Value)} (r : KT H kvs xs) (ht : ∀ b ys, H b = some (.tup ys) → H' b = some (.tup ys)) : KT H' kvs xs :=
  Paired.mapP r fun _ _ z => ⟨z.1, ht _ _ z.2.1, z.2.2⟩
section
variable {P : Program} {w : World} {H : Hp} {h : Heap} {a : Addr}
theorem rd_of {u : HO} (ok : HOk P w H h) (e : Rd H a u) : ObjOk P w H h a u := e.ok ok
theorem dk_rd {kvs : List (Key × V)} (ok : HOk P w H h) (e : Rd H a (.dK kvs)) : kvs.length ≤ sizeLine ∧ (a == sysModules) = false ∧ ∃ vs, KV kvs vs ∧ h.DictOf (mixKind P w) a vs :=
  show ObjOk P w H h a (.dK kvs) from rd_of ok e
theorem dk_of {kvs : List (Key × V)} (ok : HOk P w H h) (e : H a = some (.dK kvs)) : kvs.length ≤ sizeLine ∧ (a == sysModules) = false ∧ ∃ vs, KV kvs vs ∧ h.DictOf (mixKind P w) a vs := dk_rd ok (.inl e)
theorem key_of {ks : List Key} (ok : HOk P w H h) (e : H a = some (.tup (ks.map kV))) : (tupleKind (mixKind P w)).is h ks a := by
  obtain ⟨_, its, r, o, h1, h2, n, h3⟩ := (show ObjOk P w H h a (.tup (ks.map kV)) from ok a _ e)
  exact ⟨o, its.toArray, n, h1, h2, h3, by simpa using items_are r⟩
theorem dt_rd {kvs : List (List Key × V)} (ok : HOk P w H h) (e : Rd H a (.dT kvs)) : kvs.length ≤ sizeLine ∧ (a == sysModules) = false ∧
    ∃ xs, KT H kvs xs ∧ h.DictOfH (tupleKind (mixKind P w)) a xs := by
  obtain ⟨z, y, xs, r, o, es, ep, h1, h2, h3, h4, h5⟩ := (show ObjOk P w H h a (.dT kvs) from rd_of ok e)
  refine ⟨z, y, xs, r, o, es, ep, h1, h2, h3, h4, fun x hx => ?_, h5⟩
  have all : ∀ {l : List (List Key × V)} {m : List (List Key × Addr × Value)}, KT H l m → ∀ x ∈ m, (tupleKind (mixKind P w)).is h x.1 x.2.1 := by
    intro l m q
    induction q with
    | nil => intro x hx; exact nomatch hx
    | @cons p q ps qs hq t ih =>
      intro x hx
      rcases List.mem_cons.mp hx with e | hx
      · subst e
        exact key_of ok (by rw [← hq.1]; exact hq.2.1)
      · exact ih x hx
  exact all r x hx
theorem dt_of {kvs : List (List Key × V)} (ok : HOk P w H h) (e : H a = some (.dT kvs)) : kvs.length ≤ sizeLine ∧ (a == sysModules) = false ∧
    ∃ xs, KT H kvs xs ∧ h.DictOfH (tupleKind (mixKind P w)) a xs := dt_rd ok (.inl e)
end
def DGet (H : Hp) (a : Addr) (y : V) (r : Option V) : Prop :=
  (∃ kvs k, Rd H a (.dK kvs) ∧ y = kV k ∧ r = valV kvs k) ∨ ∃ kvs k b, Rd H a (.dT kvs) ∧ y = .ref b ∧ H b = some (.tup (k.map kV)) ∧ r = valV kvs k
def DPut (H : Hp) (a : Addr) (y v : V) (H' : Hp) : Prop :=
  (∃ kvs k, H a = some (.dK kvs) ∧ y = kV k ∧ kvs.length < sizeLine ∧ H' = upd H a (.dK (putK kvs k v))) ∨
  ∃ kvs k b, H a = some (.dT kvs) ∧ y = .ref b ∧ H b = some (.tup (k.map kV)) ∧ kvs.length < sizeLine ∧ H' = upd H a (.dT (putK kvs k v))
theorem DPut.k {H : Hp} {a : Addr} {kvs : List (Key × V)} {k : Key} {v : V} (e : H a = some (.dK kvs)) (hl : kvs.length < sizeLine) : DPut H a (kV k) v (upd H a (.dK (putK kvs k v))) := .inl ⟨kvs, k, e, rfl, hl, rfl⟩
section
variable {X : Cx} {pins : List (Addr × Obj)} {σ : St} {H : Hp} {s : Shared} {a : Addr} {y v : V} {u r : Value} {o : Option V} {A : Around} {E : Value → Shared → Prop}
theorem Inv.big (I : Inv X pins σ H s) : sysModules < s.heap.objs.size := by
  have h : mainGlobals < s.heap.objs.size := (I.mod.glob.keeps I.bk).lt
  exact Nat.lt_trans (by decide) h
theorem d_getItem {Q : Value → Shared → Prop} (hu : A.units + 1 < cLine) (I : Inv X pins σ H s) (g : DGet H a y (some v)) (ry : RelV y u) (h : ∀ w' s', Inv X pins σ H s' → RelV v w' → Q w' s') :
    wpAny (model X.prog X.w) A (getItem (.ref a) u) Q E s := by
  rcases g with ⟨kvs, k, e, ey, l⟩ | ⟨kvs, k, b, e, ey, eb, l⟩
  · subst ey
    obtain ⟨z, hd, vs, rel, dd⟩ := dk_rd I.hok e
    obtain ⟨w', hw, rw'⟩ := RelO.some_of (v := v) (o := valueAt vs k) (by rw [l]; exact rel.val k)
    exact wpAny_getItem_of (kV_is ry) dd.mapOf hw (h w' _ (I.tok _) rw')
  · subst ey
    cases (show u = Value.ref b from ry)
    obtain ⟨z, hd, xs, rel, dd⟩ := dt_rd I.hok e
    obtain ⟨w', hw, rw'⟩ := RelO.some_of (v := v) (o := (atKey xs k).map (·.2)) (by rw [l]; exact rel.val k)
    obtain ⟨p, hp, hp2⟩ := Option.map_eq_some_iff.mp hw
    refine wpAny_getItem_heap (tupleKind_room_in1 hu) (key_of I.hok eb) dd hp ?_
    rw [hp2]
    exact h w' _ (I.tok _) rw'
theorem d_in {Q : Value → Shared → Prop} (hu : A.units + 1 < cLine) (I : Inv X pins σ H s) (g : DGet H a y o) (ry : RelV y u) (h : ∀ s', Inv X pins σ H s' → Q (.bool o.isSome) s') :
    wpAny (model X.prog X.w) A (compareOp .In u (.ref a)) Q E s := by
  rcases g with ⟨kvs, k, e, ey, l⟩ | ⟨kvs, k, b, e, ey, eb, l⟩
  · subst ey
    obtain ⟨z, hd, vs, rel, dd⟩ := dk_rd I.hok e
    refine wpAny_in_of (kV_is ry) hd dd.mapOf ?_
    rw [← (rel.val k).isSome_eq, ← l]
    exact h _ (I.tok _)
  · subst ey
    cases (show u = Value.ref b from ry)
    obtain ⟨z, hd, xs, rel, dd⟩ := dt_rd I.hok e
    refine wpAny_in_heap (tupleKind_room_in1 hu) (key_of I.hok eb) hd dd ?_
    have q := (rel.val k).isSome_eq
    rw [Option.isSome_map] at q
    rw [← q, ← l]
    exact h _ (I.tok _)
theorem d_notIn {Q : Value → Shared → Prop} (hu : A.units + 1 < cLine) (I : Inv X pins σ H s) (g : DGet H a y o) (ry : RelV y u) (h : ∀ s', Inv X pins σ H s' → Q (.bool (!o.isSome)) s') :
    wpAny (model X.prog X.w) A (compareOp .NotIn u (.ref a)) Q E s := by
  rcases g with ⟨kvs, k, e, ey, l⟩ | ⟨kvs, k, b, e, ey, eb, l⟩
  · subst ey
    obtain ⟨z, hd, vs, rel, dd⟩ := dk_rd I.hok e
    refine wpAny_notIn_of (kV_is ry) hd dd.mapOf ?_
    rw [← (rel.val k).isSome_eq, ← l]
    exact h _ (I.tok _)
  · subst ey
    cases (show u = Value.ref b from ry)
    obtain ⟨z, hd, xs, rel, dd⟩ := dt_rd I.hok e
    refine wpAny_notIn_heap (tupleKind_room_in1 hu) (key_of I.hok eb) hd dd ?_
    have q := (rel.val k).isSome_eq
    rw [Option.isSome_map] at q
    rw [← q, ← l]
    exact h _ (I.tok _)
theorem d_write {h' : Heap} {t' : Nat} {ob : HO} (I : Inv X pins σ H s) (mu : Mut (H a)) (hs : Heap.SameBut a s.heap h') (he : ∃ q, h'.get? a = some q) (new : ObjOk X.prog X.w (upd H a ob) h' a ob) :
    Inv X pins σ (upd H a ob) { s with heap := h', toks := t' } :=
  I.write (x := a) (e := a) mu (.inl rfl) (fun b q hb z => (hs.2 b hb).trans z) he new
theorem dk_new {P : Program} {w : World} {H' : Hp} {h' : Heap} {kvs : List (Key × V)} {vs : List (Key × Value)} (z : kvs.length ≤ sizeLine) (hd : (a == sysModules) = false) (rel : KV kvs vs) (dd : h'.DictOf (mixKind P w) a vs) :
    ObjOk P w H' h' a (.dK kvs) := ⟨z, hd, vs, rel, dd⟩
theorem d_setItem {H' : Hp} {Q : Unit → Shared → Prop} (hu : A.units + 1 < cLine) (I : Inv X pins σ H s) (g : DPut H a y v H') (ry : RelV y u) (rv : RelV v r) (h : ∀ s', Inv X pins σ H' s' → Q () s') :
    wpAny (model X.prog X.w) A (setItem (.ref a) u r) Q E s := by
  rcases g with ⟨kvs, k, e, ey, l, eH⟩ | ⟨kvs, k, b, e, ey, eb, l, eH⟩
  · subst ey eH
    obtain ⟨z, hd, vs, rel, dd⟩ := dk_of I.hok e
    have hz : vs.length ≤ sizeLine := by rw [← rel.length]; exact z
    have hl : (putK kvs k v).length ≤ sizeLine := by have := length_putK kvs k v; omega
    refine wpAny_setItem_pairs (hsz := hz) (kV_is ry) dd fun h' dd' hs => h _ ?_
    have he : ∃ q, h'.get? a = some q := let ⟨q, _, _, hq, _⟩ := dd'; ⟨q, hq⟩
    exact d_write I (by rw [e]; exact True.intro) hs he (dk_new hl hd (rel.put k rv) dd')
  · subst ey eH
    cases (show u = Value.ref b from ry)
    obtain ⟨z, hd, xs, rel, dd⟩ := dt_of I.hok e
    have hz : xs.length ≤ sizeLine := by rw [← Paired.length rel]; exact z
    have hl : (putK kvs k v).length ≤ sizeLine := by have := length_putK kvs k v; omega
    refine wpAny_setItem_heap (hsz := hz) (tupleKind_room_in1 hu) (key_of I.hok eb) dd fun h' dd' hs => h _ ?_
    obtain ⟨q, es, ep, hq, h2, h3, h4, _, h5⟩ := dd'
    refine d_write I (by rw [e]; exact True.intro) hs ⟨q, hq⟩ ⟨hl, hd, _, (rel.put k eb rv).keeps fun c ys ec => ?_, q, es, ep, hq, h2, h3, h4, h5⟩
    rw [upd_ne (ne_of ec e (fun z => nomatch z))]
    exact ec
end
section
variable {X : Cx} {pins : List (Addr × Obj)} {σ : St} {H : Hp} {s : Shared} {a : Addr} {kvs : List (Key × V)} {k : Key} {u : Value} {A : Around} {E : Value → Shared → Prop}
theorem d_pop {v : V} {more : List Value} {Q : Value → Shared → Prop} (I : Inv X pins σ H s) (e : H a = some (.dK kvs)) (ry : RelV (kV k) u) (l : valV kvs k = some v) (hm : more = [] ∨ ∃ x, more = [x])
    (h : ∀ w' s', Inv X pins σ (upd H a (.dK (dropK kvs k))) s' → RelV v w' → Q w' s') : wpAny (model X.prog X.w) A (call (.builtin "dict.pop") (.ref a :: u :: more)) Q E s := by
  obtain ⟨z, hd, vs, rel, dd⟩ := dk_of I.hok e
  obtain ⟨w', hw, rw'⟩ := RelO.some_of (v := v) (o := valueAt vs k) (by rw [← l]; exact rel.val k)
  have hp : (keyPart u).isSome = true := by
    cases k with
    | inl i => obtain ⟨t, q⟩ := (show ∃ t, u = Value.int i t from ry); subst q; rfl
    | inr x => obtain ⟨t, q⟩ := (show ∃ t, u = Value.str x t from ry); subst q; rfl
  have ha : argsOk "dict.pop" ⟨.ref a :: u :: more, []⟩ := by
    rcases hm with q | ⟨x, q⟩
    · subst q; exact PySem.F.args_dict_pop_2 _ _
    · subst q; exact PySem.F.args_dict_pop_3 _ _ _
  refine call_meetsIn PySem.F.slot_dict_pop dd.typeIs PySem.F.entry_dict_pop ha (meets_dict_pop_there (mixKind X.prog X.w) a (kV_is ry) more hm hp)
    ⟨vs, w', dd, by rw [← rel.length]; exact z, hw, fun h' dd' hs => h w' _ ?_ rw'⟩
  have he : ∃ q, h'.get? a = some q := let ⟨q, _, _, hq, _⟩ := dd'; ⟨q, hq⟩
  exact d_write I (by rw [e]; exact True.intro) hs he (dk_new (Nat.le_trans (dropK_le kvs k) z) hd (rel.drop k) dd')
theorem d_len {Q : Value → Shared → Prop} (I : Inv X pins σ H s) (e : Rd H a (.dK kvs)) (h : ∀ t s', Inv X pins σ H s' → Q (.int kvs.length t) s') : wpAny (model X.prog X.w) A (call (.builtin "len") [.ref a]) Q E s := by
  obtain ⟨z, hd, vs, rel, dd⟩ := dk_rd I.hok e
  refine call_len_dict hd dd (by rw [← rel.length]; rw [sizeLine_eq] at z; omega) ?_
  rw [← rel.length]
  exact h _ _ (I.tok _)
end
def NoSl (i : Expr) : Prop := ∀ ov iv, subscripted i false ov iv = operate [ov, iv] (getItem ov iv)
theorem subD_of {prog : Program} {w : World} {A : Around} {E : Value → Shared → Prop} {s : Shared} {env : Env} {value slice : Expr} {pos : Pos} {T id : String} {Q : Value → Shared → Prop}
    (hl : typeLookup (.type T) "__getitem__" = pure (some (.builtin id))) (hs : NoSl slice)
    (h : wpAny (model prog w) A (eval value env) (fun o s₁ => wpAny (model prog w) A (eval slice env) (fun i s₂ => s₂.TypeIs o T ∧ wpAny (model prog w) A (getItem o i) Q E s₂) E s₁) E s) :
    wpAny (model prog w) A (eval (.Subscript value slice pos) env) Q E s := by
  refine Subscript_ (wpAny_mono h (fun o s₁ h₁ => wpAny_mono h₁ (fun i s₂ h₂ => ?_) fun _ _ x => x) fun _ _ x => x)
  obtain ⟨hT, h₂⟩ := h₂
  unfold subscriptTail
  refine wpAny_bind ?_
  rw [getitemInPython_of_ne hT.not_modules]
  refine wpAny_bind (wpAny_specialOf hT hl ?_)
  have fin : wpAny (model prog w) A (subscripted slice false o i) (fun r s₃ => wpAny (model prog w) A (letTemporaryGo value o r >>= fun _ => pure r) Q E s₃) E s₂ := by
    rw [hs o i]
    exact wpAny_operating (wpAny_mono h₂ (fun r s₃ h₃ => wpAny_bind (wpAny_letTemporaryGo (wpAny_pure h₃))) fun _ _ x => x)
  first
    | exact wpAny_pure (wpAny_bind fin)
    | exact wpAny_bind (wpAny_pure (wpAny_bind fin))
    | exact wpAny_bind fin
theorem dict_typeIs {X : Cx} {pins : List (Addr × Obj)} {σ : St} {H : Hp} {s : Shared} {a : Addr} {y : V} {o : Option V} (I : Inv X pins σ H s) (g : DGet H a y o) : s.TypeIs (.ref a) "dict" := by
  rcases g with ⟨kvs, k, e, _, _⟩ | ⟨kvs, k, b, e, _, _, _⟩
  · obtain ⟨_, _, vs, _, dd⟩ := dk_rd I.hok e
    exact dd.typeIs
  · obtain ⟨_, _, xs, _, dd⟩ := dt_rd I.hok e
    exact dd.typeIs
def tDGet (td ty : TE) : TE := fun σ H Q => td σ H fun x H1 => ty σ H1 fun y H2 => ∃ a v, x = .ref a ∧ DGet H2 a y (some v) ∧ Q v H2
def tDIn (ty td : TE) : TE := fun σ H Q => ty σ H fun y H1 => td σ H1 fun x H2 => ∃ a o, x = .ref a ∧ DGet H2 a y o ∧ Q (.bl o.isSome) H2
def tDNotIn (ty td : TE) : TE := fun σ H Q => ty σ H fun y H1 => td σ H1 fun x H2 => ∃ a o, x = .ref a ∧ DGet H2 a y o ∧ Q (.bl (!o.isSome)) H2
def sDPut (td ty tv : TE) : TS := fun D σ H => tv σ H fun v H1 => td σ H1 fun x H2 => ty σ H2 fun y H3 => ∃ a H4, x = .ref a ∧ DPut H3 a y v H4 ∧ D.nx σ H4
section
variable {X : Cx} {o i e value : Expr} {pos pos' tpos : Pos} {td ty tv : TE}
theorem pe_dget (hu : X.A.units + 1 < cLine) (ho : PE X o td) (hi : PE X i ty) (hs : NoSl i) : PE X (.Subscript o i pos) (tDGet td ty) := by
  intro pins s σ H Q I h
  refine subD_of PySem.F.slot_dict_getitem.lookup hs (thn (ho pins s σ H _ I h) fun u s1 ⟨x, H1, I1, rx, q1⟩ => thn (hi pins s1 σ H1 _ I1 q1) fun iv s2 ⟨y, H2, I2, ry, a, v, ex, g, q2⟩ => ?_)
  subst ex
  obtain rfl : u = Value.ref a := rx
  exact ⟨dict_typeIs I2 g, d_getItem hu I2 g ry fun w' s3 I3 rw' => ⟨v, H2, I3, rw', q2⟩⟩
theorem pc_din (hu : X.A.units + 1 < cLine) (hi : PE X i ty) (ho : PE X o td) : PC X .In i o (tDIn ty td) := by
  intro pins s σ H Q I h
  refine thn (hi pins s σ H _ I h) fun iv s1 ⟨y, H1, I1, ry, q1⟩ => thn (ho pins s1 σ H1 _ I1 q1) fun u s2 ⟨x, H2, I2, rx, a, ov, ex, g, q2⟩ => ?_
  subst ex
  obtain rfl : u = Value.ref a := rx
  exact d_in hu I2 g ry fun s3 I3 => ⟨.bl ov.isSome, H2, I3, rfl, q2⟩
theorem pc_dnotin (hu : X.A.units + 1 < cLine) (hi : PE X i ty) (ho : PE X o td) : PC X .NotIn i o (tDNotIn ty td) := by
  intro pins s σ H Q I h
  refine thn (hi pins s σ H _ I h) fun iv s1 ⟨y, H1, I1, ry, q1⟩ => thn (ho pins s1 σ H1 _ I1 q1) fun u s2 ⟨x, H2, I2, rx, a, ov, ex, g, q2⟩ => ?_
  subst ex
  obtain rfl : u = Value.ref a := rx
  exact d_notIn hu I2 g ry fun s3 I3 => ⟨.bl (!ov.isSome), H2, I3, rfl, q2⟩
theorem ps_dput (hu : X.A.units + 1 < cLine) (ho : PE X o td) (hi : PE X i ty) (hv : PE X value tv) (hs : swapsWith value (some (.Subscript o i pos')) pos.line X.env = pure false) :
    PS X (.Assign [.Subscript o i pos'] value pos) (sDPut td ty tv) := by
  intro pins s σ H D I h
  refine wpAny_Assign_Subscript (thn (hv pins s σ H _ I h) fun r s1 ⟨v, H1, I1, rv, q1⟩ => thn (ho pins s1 σ H1 _ I1 q1) fun u s2 ⟨x, H2, I2, rx, q2⟩ => thn (hi pins s2 σ H2 _ I2 q2) fun iv s3 ⟨y, H3, I3, ry, a, H4, ex, g, q3⟩ => ?_) hs
  subst ex
  obtain rfl : u = Value.ref a := rx
  exact d_setItem hu I3 g ry rv fun s4 I4 => ⟨σ, H4, I4, q3⟩
end
theorem dk_empty {P : Program} {w : World} {H : Hp} (h : Heap) (hb : sysModules < h.objs.size) : ObjOk P w H (h.push { cls := .type "dict", data := .dict #[] }) h.objs.size (.dK []) :=
  ⟨Nat.zero_le _, beq_eq_false_iff_ne.mpr (Ne.symm (Nat.ne_of_lt hb)), [], .nil, Heap.DictOf.new h⟩
def tDNewK : TE := fun _ H Q => ∀ p, H p = none → Q (.ref p) (upd H p (.dK []))
section
variable {X : Cx} {pos : Pos}
theorem pe_dnewK : PE X (.Dict [] [] pos) tDNewK := fun pins s σ H Q I h =>
  wpAny_Dict_empty ⟨.ref s.heap.objs.size, _, I.laid (a := s.heap.objs.size) (o := .dK []) (t' := s.toks) (fun _ _ q => Heap.get?_push_of_some _ q) (Nat.le_refl _) (dk_empty s.heap I.big), rfl, h _ (I.hok.fresh (Nat.le_refl _))⟩
end
structure M1 (X : Cx) (o : Expr) (m : Str) (apos : Pos) (e : Expr) (cpos : Pos) : Prop where
  base : attributeBase o m X.env (eval o X.env) = eval o X.env
  few : ((backTo cpos (starEach [e] X.env)).all (fun x => !x.1) && (backToKw cpos (keywordEach [] X.env)).all (fun x => x.1.isSome)
    && decide (([e] : List Expr).length + ([] : List Keyword).length + (if ([] : List Keyword).isEmpty then 0 else 1) < 30)) = true
  line : (apos.endLine == cpos.line) = true
  trees : backTo cpos (starEach [e] X.env) = [(false, eval e X.env)]
structure M2 (X : Cx) (o : Expr) (m : Str) (apos : Pos) (e f : Expr) (cpos : Pos) : Prop where
  base : attributeBase o m X.env (eval o X.env) = eval o X.env
  few : ((backTo cpos (starEach [e, f] X.env)).all (fun x => !x.1) && (backToKw cpos (keywordEach [] X.env)).all (fun x => x.1.isSome)
    && decide (([e, f] : List Expr).length + ([] : List Keyword).length + (if ([] : List Keyword).isEmpty then 0 else 1) < 30)) = true
  line : (apos.endLine == cpos.line) = true
  trees : backTo cpos (starEach [e, f] X.env) = [(false, eval e X.env), (false, eval f X.env)]
def IsD (H : Hp) (a : Addr) : Prop := (∃ kvs, Rd H a (.dK kvs)) ∨ ∃ kvs, Rd H a (.dT kvs)
theorem isD_at {X : Cx} {pins : List (Addr × Obj)} {σ : St} {H : Hp} {s : Shared} {a : Addr} (I : Inv X pins σ H s) (d : IsD H a) :
    s.TypeIs (.ref a) "dict" ∧ (∀ b, Value.ref a = .ref b → ∃ ob, s.heap.get? b = some ob ∧ ob.dict = none) ∧ (a == sysModules) = false := by
  rcases d with ⟨kvs, e⟩ | ⟨kvs, e⟩
  · obtain ⟨_, hd, vs, _, dd⟩ := dk_rd I.hok e
    refine ⟨dd.typeIs, fun b q => ?_, hd⟩
    cases q
    obtain ⟨ob, _, _, h1, h2, _⟩ := dd
    exact ⟨ob, h1, h2.2.1⟩
  · obtain ⟨_, hd, xs, _, dd⟩ := dt_rd I.hok e
    refine ⟨dd.typeIs, fun b q => ?_, hd⟩
    cases q
    obtain ⟨ob, _, _, h1, h2, _⟩ := dd
    exact ⟨ob, h1, h2.2.1⟩
def tDPop1 (td ty : TE) : TE := fun σ H Q => td σ H fun x H1 => ∃ a, x = .ref a ∧ IsD H1 a ∧ ty σ H1 fun y H2 => ∃ kvs k v, H2 a = some (.dK kvs) ∧ y = kV k ∧ valV kvs k = some v ∧ Q v (upd H2 a (.dK (dropK kvs k)))
section
variable {X : Cx} {o e f : Expr} {apos cpos : Pos} {td ty tx : TE}
theorem pe_dpop1 (ho : PE X o td) (he : PE X e ty) (m : M1 X o "pop" apos e cpos) : PE X (.Call (.Attribute o "pop" apos) [e] [] cpos) (tDPop1 td ty) := by
  intro pins s σ H Q I h
  refine wpAny_Call_method m.base m.few m.line PySem.F.plainAttrs_dict PySem.F.slot_dict_pop PySem.F.type_dict_pop (thn (ho pins s σ H _ I h) fun u s1 ⟨x, H1, I1, rx, a, ex, d, q1⟩ => ?_)
  subst ex
  obtain rfl : u = Value.ref a := rx
  obtain ⟨t1, t2, _⟩ := isD_at I1 d
  refine ⟨t1, t2, ?_⟩
  rw [m.trees]
  refine Calls.callWith_builtin rfl (Calls.evalArgs_plain (Calls.spliced_cons (thn (he pins s1 σ H1 _ I1 q1) fun iv s2 ⟨y, H2, I2, ry, kvs, k, v, ea, ey, l, q2⟩ => Calls.spliced_nil ?_)))
  subst ey
  exact d_pop I2 ea ry l (.inl rfl) fun w' s3 I3 rw' => ⟨v, _, I3, rw', q2⟩
end
section
variable {X : Cx} {pins : List (Addr × Obj)} {σ : St} {H : Hp} {s : Shared} {a : Addr} {kvs : List (Key × V)} {A : Around} {E : Value → Shared → Prop}
theorem d_copyOf {Q : Value → Shared → Prop} (I : Inv X pins σ H s) (e : Rd H a (.dK kvs)) (h : ∀ p s', H p = none → Inv X pins σ (upd H p (.dK kvs)) s' → Q (.ref p) s') : wpAny (model X.prog X.w) A (call (.type "dict") [.ref a]) Q E s := by
  obtain ⟨z, hd, vs, rel, dd⟩ := dk_rd I.hok e
  refine kt_call_dict hd dd (by rw [← rel.length]; exact z) fun h' dd' hs => ?_
  refine h _ _ (I.hok.fresh (Nat.le_refl _)) (I.laid (a := s.heap.objs.size) (o := .dK kvs) (t' := s.toks) (fun b q hq => ?_) (Nat.le_refl _) (dk_new z (beq_eq_false_iff_ne.mpr (Ne.symm (Nat.ne_of_lt I.big))) rel dd'))
  exact (hs.2 b (Nat.ne_of_lt (Heap.lt_size hq))).trans (Heap.get?_push_of_some _ hq)
end
end L2
namespace L2
open PySem PySem.Spec PyProof.Rows
section
variable {X : Cx} {pins : List (Addr × Obj)} {σ : St} {H : Hp} {s : Shared} {h' : Heap}
theorem Inv.turnedL {t' : Nat} {ch : List Addr} (I : Inv X pins σ H s) (k : ∀ b o, b ∉ ch → s.heap.get? b = some o → h'.get? b = some o) (hf : ∀ b ∈ ch, FpOk X pins H b) : Inv X pins σ H { s with heap := h', toks := t' } := by
  have nit : ∀ b u, H b = some u → b ∉ ch := fun b u e z => by
    have q := (hf b z).1
    rw [q] at e; cases e
  refine I.step (g' := s.gens) (d' := s.drawn) (ch := ch) (fun b hb => ⟨(hf b hb).2.2.2.1, (hf b hb).2.1, (hf b hb).2.2.2.2.1, (hf b hb).2.2.2.2.2⟩) (fun b o _ _ hc e _ => k b o hc e) (fun b o _ _ hc e _ => ⟨o.slots, k b o hc e⟩)
    (fun _ _ _ _ n => n) (fun b o hc e => ⟨o, k b o hc e⟩) (fun _ _ e => e) (fun _ _ _ e => e) (fun b ps e => ⟨#[], by rw [e]; simp⟩) (fun m hm => ?_) (fun b u e => ?_) I.bare
  · obtain ⟨o, es, ep, ho, r⟩ := hm
    exact ⟨o, es, ep, k _ o (fun z => (hf _ z).2.1 rfl) ho, r⟩
  · refine (I.hok b u e).stay (fun c v hc q => k c v ?_ q) (fun _ q => q) fun _ _ q => q
    rcases hc with z | z
    · rw [z]; exact nit b u e
    · exact nit c _ z
theorem Inv.turnedNew {t' : Nat} {ch : List Addr} {T : Addr} {ob : HO} (I : Inv X pins σ H s) (k : ∀ b o, b ∉ ch → s.heap.get? b = some o → h'.get? b = some o) (hf : ∀ b ∈ ch, FpOk X pins H b) (hT : s.heap.objs.size ≤ T)
    (new : ObjOk X.prog X.w (upd H T ob) h' T ob) : Inv X pins σ (upd H T ob) { s with heap := h', toks := t' } := by
  have hn : H T = none := I.hok.fresh hT
  have nit : ∀ b u, H b = some u → b ∉ ch := fun b u e z => by
    have q := (hf b z).1
    rw [q] at e; cases e
  refine I.step (g' := s.gens) (d' := s.drawn) (ch := ch) (fun b hb => ⟨(hf b hb).2.2.2.1, (hf b hb).2.1, (hf b hb).2.2.2.2.1, (hf b hb).2.2.2.2.2⟩) (fun b o _ _ hc e _ => k b o hc e) (fun b o _ _ hc e _ => ⟨o.slots, k b o hc e⟩)
    (fun b o _ e n => ?_) (fun b o hc e => ⟨o, k b o hc e⟩) (fun b xs e => ?_) (fun b o u e => ?_) (fun b ps e => ⟨#[], ?_⟩) (fun m hm => ?_) (fun b u e => ?_) I.bare
  · rw [upd_ne (Nat.ne_of_lt (Nat.lt_of_lt_of_le (Heap.lt_size e) hT))]; exact n
  · rw [upd_ne (ne_of_none e hn)]; exact e
  · rw [upd_ne (ne_of_none e hn)]; exact e
  · rw [upd_ne (ne_of_none e hn), e]; simp
  · obtain ⟨o, es, ep, ho, r⟩ := hm
    exact ⟨o, es, ep, k _ o (fun z => (hf _ z).2.1 rfl) ho, r⟩
  · by_cases hb : b = T
    · subst hb
      rw [upd_same] at e
      cases e
      exact new
    · rw [upd_ne hb] at e
      refine (I.hok b u e).stay (fun c v hc q => k c v ?_ q) (fun c q => by rw [upd_ne (ne_of_none q hn)]; exact q) fun c xs q => by rw [upd_ne (ne_of_none q hn)]; exact q
      rcases hc with z | z
      · rw [z]; exact nit b u e
      · exact nit c _ z
theorem Inv.lock {d : Addr} {u : HO} (I : Inv X pins σ H s) (h : H d = some u) (mu : Mut (some u)) : ∃ od, Inv X pins σ (upd H d (.frz od u)) s := by
  have x := I.hok d u h
  have ex : ∃ od, s.heap.get? d = some od := by
    cases u with
    | lst xs => obtain ⟨_, _, _, _, e⟩ := x; exact ⟨_, e⟩
    | dK kvs => obtain ⟨_, _, _, _, o, _, _, e, _⟩ := x; exact ⟨o, e⟩
    | dT kvs => obtain ⟨_, _, _, _, o, _, _, e, _⟩ := x; exact ⟨o, e⟩
    | set S n => obtain ⟨o, _, _, _, e, _⟩ := x; exact ⟨o, e⟩
    | ins C dx fs => obtain ⟨_, _, _, e, _⟩ := x; exact ⟨_, e⟩
    | ext φ => obtain ⟨_, ⟨_, e⟩, _⟩ := x; exact ⟨_, e⟩
    | _ => exact False.elim mu
  obtain ⟨od, e⟩ := ex
  have new : ObjOk X.prog X.w (upd H d (.frz od u)) s.heap d (.frz od u) := by
    refine ⟨e, x.stay (fun b v _ q => q) (fun b q => ?_) fun b xs q => ?_⟩
    · rw [upd_ne (fun z => by rw [z, h] at q; cases q; exact mu)]; exact q
    · rw [upd_ne (fun z => by rw [z, h] at q; cases q; exact mu)]; exact q
  exact ⟨od, I.write (x := d) (e := d) (t' := s.toks) (h' := s.heap) (by rw [h]; exact mu) (.inl rfl) (fun b v _ q => q) ⟨od, e⟩ new⟩
theorem Inv.nofrz {d : Addr} {u : HO} (I : Inv X pins σ H s) (h : H d = some u) (mu : Mut (some u)) : ∀ o' u', X.H₀ d ≠ some (.frz o' u') := fun o' u' e => by
  have q := I.base.frzs d o' u' e
  rw [h] at q
  cases q
  exact mu
theorem Inv.unlock {d : Addr} {od : Obj} {u : HO} (I : Inv X pins σ H s) (h : H d = some (.frz od u)) (hn : ∀ o' u', X.H₀ d ≠ some (.frz o' u')) : Inv X pins σ (upd H d u) s := by
  have neH : ∀ b o, H b = some o → (∀ o' u', o ≠ .frz o' u') → b ≠ d := fun b o e hne z => by
    rw [z, h] at e
    cases e
    exact hne _ _ rfl
  have neN : ∀ b, H b = none → b ≠ d := fun b e z => by rw [z, h] at e; cases e
  refine ⟨I.ok, I.os, I.bare, ⟨I.base.keep, I.base.slot, fun b o e n hx => ?_, I.base.there, fun b xs e => ?_, fun b o x e => ?_, fun b ps e => ?_⟩, I.loc, I.cell, ?_, fun x c e => ?_, fun p hp => ?_, fun b o e => ?_, I.len⟩
  · rw [upd_ne (neN b (I.base.free b o e n hx))]; exact I.base.free b o e n hx
  · have q := I.base.tups b xs e
    rw [upd_ne (neH b _ q (fun _ _ z => nomatch z))]; exact q
  · have q := I.base.frzs b o x e
    rw [upd_ne (fun z => by rw [z] at e; exact hn _ _ e)]; exact q
  · obtain ⟨m, q⟩ := I.base.tbls b ps e
    exact ⟨m, by rw [upd_ne (neH b _ q (fun _ _ z => nomatch z))]; exact q⟩
  · rw [upd_ne (neN _ I.free)]; exact I.free
  · rw [upd_ne (neN c (I.freeC x c e))]; exact I.freeC x c e
  · obtain ⟨e, n, r⟩ := I.pin p hp
    exact ⟨e, by rw [upd_ne (neN _ n)]; exact n, r⟩
  · by_cases hb : b = d
    · rw [hb, upd_same] at e
      cases e
      rw [hb]
      obtain ⟨_, x⟩ := I.hok d _ h
      exact x.stay (fun c v _ q => q) (fun c q => by rw [upd_ne (neH c _ q (fun _ _ z => nomatch z))]; exact q) fun c xs q => by rw [upd_ne (neH c _ q (fun _ _ z => nomatch z))]; exact q
    · rw [upd_ne hb] at e
      exact (I.hok b o e).stay (fun c v _ q => q) (fun c q => by rw [upd_ne (neH c _ q (fun _ _ z => nomatch z))]; exact q) fun c xs q => by rw [upd_ne (neH c _ q (fun _ _ z => nomatch z))]; exact q
end
def tLock (t : TS) : TS := fun D σ H => ∃ d u, H d = some u ∧ Mut (some u) ∧ ∀ od, t ⟨fun σ' H' => H' d = some (.frz od u) ∧ D.nx σ' (upd H' d u), fun v H' => H' d = some (.frz od u) ∧ D.rt v (upd H' d u), fun σ' H' => H' d = some (.frz od u) ∧ D.bk σ' (upd H' d u), fun σ' H' => H' d = some (.frz od u) ∧ D.ct σ' (upd H' d u)⟩ σ (upd H d (.frz od u))
def tLockE (t : TE) : TE := fun σ H Q => ∃ d u, H d = some u ∧ Mut (some u) ∧ ∀ od, t σ (upd H d (.frz od u)) fun v H' => H' d = some (.frz od u) ∧ Q v (upd H' d u)
section
variable {X : Cx}
theorem ps_lock {st : Stmt} {t : TS} (h : PS X st t) : PS X st (tLock t) := by
  intro pins s σ H D I hw
  obtain ⟨d, u, hd, mu, hw⟩ := hw
  obtain ⟨od, I1⟩ := I.lock hd mu
  refine thn (h pins s σ _ _ I1 (hw od)) fun f s1 q => ?_
  cases f with
  | next => obtain ⟨σ', H', I2, e, q⟩ := q; exact ⟨σ', _, I2.unlock e (I.nofrz hd mu), q⟩
  | brk => obtain ⟨σ', H', I2, e, q⟩ := q; exact ⟨σ', _, I2.unlock e (I.nofrz hd mu), q⟩
  | cont => obtain ⟨σ', H', I2, e, q⟩ := q; exact ⟨σ', _, I2.unlock e (I.nofrz hd mu), q⟩
  | ret v => obtain ⟨x, σ', H', I2, r, e, q⟩ := q; exact ⟨x, σ', _, I2.unlock e (I.nofrz hd mu), r, q⟩
theorem pe_lock {e : Expr} {t : TE} (h : PE X e t) : PE X e (tLockE t) := by
  intro pins s σ H Q I hw
  obtain ⟨d, u, hd, mu, hw⟩ := hw
  obtain ⟨od, I1⟩ := I.lock hd mu
  refine thn (h pins s σ _ _ I1 (hw od)) fun v s1 ⟨x, H1, I2, r, e2, q⟩ => ?_
  exact ⟨x, _, I2.unlock e2 (I.nofrz hd mu), r, q⟩
theorem pi_one {tg : Expr} {pins : List (Addr × Obj)} {σ : St} {H : Hp} {s : Shared} {R : It → Hp → Prop} {J : It} {tn : Nat → Heap → Prop} {tk : Nat} (I : Inv X pins σ H s) (o : Obj)
    (T : Turn X.prog X.w X.K tg J [s.heap.objs.size] s.heap.objs.size tn) (st : tn 0 (s.heap.push o)) (q : R J H) : PIE X pins σ tg R (.ref s.heap.objs.size) { s with heap := s.heap.push o, toks := tk } := by
  refine ⟨s.heap.objs.size, [s.heap.objs.size], tn, J, H, rfl, I.kept fun b ob e => Heap.get?_push_of_some _ e, T, st, fun b hb => ?_, q⟩
  have e : b = s.heap.objs.size := by simpa using hb
  subst e
  exact I.fpOk (Nat.le_refl _) (I.hok.fresh (Nat.le_refl _))
end
def Itc (lo c : Int) (n : Nat) : It := ⟨fun i _ => i < n, fun i H x H' => H' = H ∧ x = .int (lo + (i : Nat) * c), fun i _ => n ≤ i⟩
theorem turn_rangeC {P : Program} {w : World} {K : PySem.W.Frag} {tg : Expr} (it : Addr) (lo c : Int) (n : Nat) : Turn P w K tg (Itc lo c n) [it] it (fun i h => IsRangeIter h it (lo + (i : Nat) * c) ((n : Int) - (i : Nat)) c) where
  mem := by simp
  obj := fun i h st b hb => by
    have e : b = it := by simpa using hb
    subst e
    exact ⟨_, st, fun v z => nomatch z⟩
  keep := fun i h h' st k => k it (by simp) _ st
  item := by
    intro X hP hw hK hc i pins s σ H E I hf st hg
    subst hP hw hK
    obtain ⟨f0, f1, f2, f3, f4, f5⟩ := hf it (by simp)
    have W := Walks.range (prog := X.prog) (w := X.w) (I.ok.hd hc) it lo c n
    refine W.item i s _ _ hg st fun v h' tk hv st' kk => ?_
    obtain ⟨t, rfl⟩ := hv
    have I1 : Inv X pins σ H { s with heap := h', toks := tk } := I.turned (fun b o hb e => kk b o (by simpa using hb) e) f0 f1 f3 f4 f5
    exact ⟨_, rfl, go_of (s := { s with heap := h', toks := tk }) (n := "range_iterator") st' rfl rfl (by decide) ⟨.int (lo + (i : Nat) * c), H, I1, ⟨t, rfl⟩, ⟨rfl, rfl⟩, st', fun b hb => (hf b hb).1⟩⟩
  done := by
    intro X hP hw hK hc i pins s σ H E I hf st hg
    subst hP hw hK
    obtain ⟨f0, f1, f2, f3, f4, f5⟩ := hf it (by simp)
    exact wpAny_pyNext_range_end (I.ok.hd hc) st (by have : n ≤ i := hg; omega) fun h' eb => ⟨rfl, I.turned (t' := s.toks) (fun b o hb e => eb b o hb e) f0 f1 f3 f4 f5⟩
  self := fun A i s Q E st h => wpAny_pyIter_rangeiter st h
def RgC (i j c : Int) (n : Nat) : Prop := c ≠ 0 ∧ c.natAbs < 1073741824 ∧ Builtin.Range.small i j c = true ∧ Builtin.Range.rangeSize i j c = n
theorem RgC.neg {i j : Int} (ha : -(2 ^ 62) ≤ i) (ha' : i < 2 ^ 62) (hb : -(2 ^ 62) ≤ j) (hb' : j < 2 ^ 62) : RgC i j (-1) (i - j).toNat :=
  ⟨by decide, by decide, PySem.W.small_down ha ha' hb hb', PySem.W.rangeSize_downNat i j⟩
def iRng3 (ta : TA) : TI := fun σ H R => ta σ H fun vs H1 => ∃ (i j c : Int) (n : Nat), vs = [.int i, .int j, .int c] ∧ RgC i j c n ∧ R (Itc i c n) H1
section
variable {X : Cx} {tg : Expr}
theorem pi_range3 {a b c : Expr} {ta : TA} {p pos : Pos} (hg : Gl X "range") (hm : X.mg "range" = none) (ha : PA X [a, b, c] ta)
    (hs : starEach [a, b, c] X.env = (false, eval a X.env) :: starEach [b, c] X.env := by rfl) (hpl : (backTo pos (starEach [b, c] X.env)).any (·.1) = false := by rfl) :
    PI X tg (.Call (.Name "range" p) [a, b, c] [] pos) (iRng3 ta) := by
  intro pins s σ H R I h
  refine Call_ (ld_blt I hg hm boot_range (PyProof.Rows.callWith_type1 (thn (ha pos pins s σ H _ I h) fun us s1 ⟨vs, H1, I1, r1, q1⟩ => ?_) hs hpl))
  obtain ⟨i, j, k, n, e, ⟨c0, c1, c2, c3⟩, q⟩ := q1
  subst e
  cases r1 with
  | cons r rr =>
    cases rr with
    | cons r' rr =>
      cases rr with
      | cons r'' rr =>
        cases rr
        obtain ⟨t, rfl⟩ := r
        obtain ⟨t', rfl⟩ := r'
        obtain ⟨t'', rfl⟩ := r''
        refine call_range_3 c0 ?_ (.inl (PyProof.noPylong_small c1))
        refine wpAny_pyIter_range (IsRange.new ..) c2 ?_
        have I2 : Inv X pins σ H1 { s1 with heap := s1.heap.push { cls := .type "range", data := .fields #[.int i t, .int j t', .int k t''] } } := I1.kept (t' := s1.toks) fun b o e => Heap.get?_push_of_some _ e
        refine pi_one (tk := s1.toks) I2 _ (turn_rangeC _ i k n) ?_ q
        have e1 : i + ((0 : Nat) : Int) * k = i := by simp
        have e2 : (n : Int) - ((0 : Nat) : Int) = Builtin.Range.rangeSize i j k := by rw [c3]; simp
        show IsRangeIter _ _ (i + ((0 : Nat) : Int) * k) ((n : Int) - ((0 : Nat) : Int)) k
        rw [e1, e2]
        exact Heap.get?_push_size _ rfl
end
theorem for_rangeC {lo c : Int} {n : Nat} {g : TG} {tb : TS} {D : Ends} {σ : St} {H : Hp} (Pv : Nat → St → Hp → Prop) (h0 : Pv 0 σ H)
    (hs : ∀ i σ H, i < n → Pv i σ H → g (.int (lo + (i : Nat) * c)) σ H fun σ2 H2 => tb { D with nx := Pv (i + 1), ct := Pv (i + 1), bk := D.nx } σ2 H2) (hd : ∀ σ H, Pv n σ H → D.nx σ H) :
    ∃ W : Nat → Nat → St → Hp → Prop, (∃ m, W 0 m σ H) ∧ ∀ i m σ H, W i m σ H →
      ((Itc lo c n).stop i H ∧ D.nx σ H) ∨ ((Itc lo c n).go i H ∧ ∃ N : St → Hp → Prop, (∀ σ' H', N σ' H' → ∃ m', m' < m ∧ W (i + 1) m' σ' H') ∧ ∀ x H', (Itc lo c n).yld i H x H' → g x σ H' fun σ2 H2 => tb { D with nx := N, ct := N, bk := D.nx } σ2 H2) := by
  refine ⟨fun i m σ H => m = n - i ∧ i ≤ n ∧ Pv i σ H, ⟨n, by simp, Nat.zero_le _, h0⟩, ?_⟩
  rintro i m σ H ⟨rfl, hi, p⟩
  by_cases hlt : i < n
  · refine .inr ⟨hlt, Pv (i + 1), fun σ' H' p' => ⟨n - (i + 1), by omega, rfl, hlt, p'⟩, fun x H' y => ?_⟩
    obtain ⟨e, y⟩ := y
    subst e y
    exact hs i σ _ hlt p
  · have e : i = n := by omega
    subst e
    exact .inl ⟨Nat.le_refl _, hd σ H p⟩
section
variable {prog : Program} {w : World} {A : Around} {E : Value → Shared → Prop} {s : Shared}
theorem iter_keys {d : Addr} {o : Obj} {es : Array DictEntry} {ep : Nat} {Q : Value → Shared → Prop} (hd : (d == sysModules) = false) (ho : s.heap.get? d = some o) (hc : o.ExactDict) (hdat : o.data = .dict es ep)
    (hQ : Q (.ref s.heap.objs.size) { s with heap := s.heap.push { cls := .type "dict_keyiterator", data := .fields #[.ref d, .int 0 0, .int es.size 0, .int ep 0] } }) :
    wpAny (model prog w) A (pyIter (.ref d)) Q E s := by
  have hT : s.TypeIs (.ref d) "dict" := ⟨o, ho, hc.1⟩
  refine wpAny_pyIter_slot hT F.slot_dict_iter (wpAny_call_entry F.slot_dict_iter hT F.entry_dict_iter ?_ (F.args_dict_iter_1 _))
  unfold Builtin.«dict.__iter__»
  refine wpAny_bind ?_
  unfold Builtin.Dict.dictSlotNone
  refine wpAny_bind (wpAny_notOrdered_dict hT ?_)
  show wpAny _ _ (pure (Value.ref d)) _ _ s
  refine wpAny_pure ?_
  show wpAny _ _ (Builtin.Dict.showsAll d >>= _) _ _ s
  unfold Builtin.Dict.showsAll
  rw [if_neg (by rw [hd]; exact Bool.false_ne_true)]
  refine wpAny_bind (wpAny_pure ?_)
  refine wpAny_bind (wpAny_dictEntries ho hdat ?_)
  refine wpAny_bind (wpAny_dictEpoch ho hdat ?_)
  refine wpAny_bind (wpAny_newObj_type (wpAny_pure ⟨_, rfl, "dict_keyiterator", _, ⟨_, Heap.get?_push_size _ rfl, rfl⟩, F.slot_dict_keyiterator_next.lookup, ?_⟩))
  simpa [rawInt] using hQ
theorem next_key_item {it d : Addr} {i n ep : Nat} {od : Obj} {es : Array DictEntry} {en : DictEntry} {Q : Option Value → Shared → Prop} (hit : s.heap.IsKeyIter it d i n ep) (hod : s.heap.get? d = some od) (hdd : od.data = .dict es ep)
    (hsz : es.size = n) (hx : es[i]? = some en) (hQ : ∀ h', h'.IsKeyIter it d (i + 1) n ep → Heap.SameBut it s.heap h' → Q (some en.key) { s with heap := h' }) : wpAny (model prog w) A (pyNext (.ref it)) Q E s := by
  obtain ⟨o, ho, hc, hd⟩ := id hit
  unfold pyNext
  refine wpAny_bind (wpAny_attempt (wpAny_callSpecial?_slot (name := Str.ofString "__next__") hit.typeIs F.slot_dict_keyiterator_next
    (wpAny_call_entry F.slot_dict_keyiterator_next hit.typeIs F.entry_dict_keyiterator_next ?_ (F.args_dict_keyiterator_next_1 _))))
  refine wpAny_bind (wpAny_pure ?_)
  refine wpAny_bind ?_
  refine wpAny_bind ?_
  first | refine wpAny_bind (wpAny_typeNameOfWhole_keyiter hit.typeIs (wpAny_pure ?_)) | refine wpAny_bind (wpAny_typeNameOf_keyiter hit.typeIs (wpAny_pure ?_))
  refine wpAny_bind (wpAny_fieldsOf ho hd ?_)
  have hown : Builtin.Dict_items.ownsTuple "dict_keyiterator" = false := by decide
  simp only [hown, Bool.false_eq_true, if_false]
  show wpAny _ _ (if (Value.ref d == Value.none) = true then _ else _) _ _ s
  rw [if_neg (show ¬ ((Value.ref d == Value.none) = true) from Bool.false_ne_true)]
  refine wpAny_bind (wpAny_pure ?_)
  refine wpAny_bind (wpAny_dictEntries hod hdd ?_)
  rw [if_neg (by rw [hsz]; simp)]
  refine wpAny_bind (wpAny_pure ?_)
  refine wpAny_bind (wpAny_dictEpoch hod hdd ?_)
  rw [if_neg (by simp)]
  refine wpAny_pure ?_
  obtain ⟨hlt', hen⟩ := Array.getElem?_eq_some_iff.mp hx
  simp only [show ¬ ((i : Int) < 0) from by omega, if_false, Int.toNat_natCast, Array.getElem?_eq_getElem hlt']
  refine wpAny_bind ?_
  first | refine wpAny_bind (wpAny_typeNameOfWhole_keyiter hit.typeIs (wpAny_pure ?_)) | refine wpAny_bind (wpAny_typeNameOf_keyiter hit.typeIs (wpAny_pure ?_))
  refine wpAny_bind (wpAny_isOneOf_keyiter hit.typeIs ?_)
  show wpAny _ _ (setField (.ref it) 1 (rawInt ((i : Int) + 1)) >>= _) _ _ s
  refine wpAny_bind (wpAny_setField ho hd (by simp) ?_)
  have hit' : (s.heap.update it (Obj.mapFields (·.setIfInBounds 1 (rawInt ((i : Int) + 1))))).IsKeyIter it d (i + 1) n ep :=
    ⟨_, Heap.get?_update_self _ ho (Obj.isFreed_of_fields (Obj.data_mapFields hd _)), (Obj.cls_mapFields ..).trans hc, by rw [Obj.data_mapFields hd]; simp [rawInt]⟩
  refine wpAny_bind (wpAny_holding ?_)
  refine wpAny_bind (wpAny_isOneOf_keyiter (s := { s with heap := s.heap.update it (Obj.mapFields (·.setIfInBounds 1 (rawInt ((i : Int) + 1)))) }) hit'.typeIs ?_)
  show wpAny _ _ (pure es[i].key) _ _ _
  rw [hen]
  exact wpAny_pure (wpAny_pure ⟨_, rfl, wpAny_pure (hQ _ hit' (Heap.SameBut.update ..))⟩)
theorem next_key_end {it d : Addr} {i n ep : Nat} {od : Obj} {es : Array DictEntry} {Q : Option Value → Shared → Prop} (hh : A.handled = none) (hit : s.heap.IsKeyIter it d i n ep) (hod : s.heap.get? d = some od) (hdd : od.data = .dict es ep)
    (hsz : es.size = n) (hge : n ≤ i) (hQ : ∀ h', Heap.ExtBut it s.heap h' → Q none { s with heap := h' }) : wpAny (model prog w) A (pyNext (.ref it)) Q E s := by
  obtain ⟨o, ho, hc, hd⟩ := id hit
  unfold pyNext
  refine wpAny_bind (wpAny_attempt (wpAny_callSpecial?_slot (name := Str.ofString "__next__") hit.typeIs F.slot_dict_keyiterator_next
    (wpAny_call_entry F.slot_dict_keyiterator_next hit.typeIs F.entry_dict_keyiterator_next ?_ (F.args_dict_keyiterator_next_1 _))))
  refine wpAny_bind (wpAny_pure ?_)
  refine wpAny_bind ?_
  refine wpAny_bind ?_
  first | refine wpAny_bind (wpAny_typeNameOfWhole_keyiter hit.typeIs (wpAny_pure ?_)) | refine wpAny_bind (wpAny_typeNameOf_keyiter hit.typeIs (wpAny_pure ?_))
  refine wpAny_bind (wpAny_fieldsOf ho hd ?_)
  have hown : Builtin.Dict_items.ownsTuple "dict_keyiterator" = false := by decide
  simp only [hown, Bool.false_eq_true, if_false]
  show wpAny _ _ (if (Value.ref d == Value.none) = true then _ else _) _ _ s
  rw [if_neg (show ¬ ((Value.ref d == Value.none) = true) from Bool.false_ne_true)]
  refine wpAny_bind (wpAny_pure ?_)
  refine wpAny_bind (wpAny_dictEntries hod hdd ?_)
  rw [if_neg (by rw [hsz]; simp)]
  refine wpAny_bind (wpAny_pure ?_)
  refine wpAny_bind (wpAny_dictEpoch hod hdd ?_)
  rw [if_neg (by simp)]
  refine wpAny_pure ?_
  have hge' : es.size ≤ i := by rw [hsz]; exact hge
  simp only [show ¬ ((i : Int) < 0) from by omega, if_false, Int.toNat_natCast, Array.getElem?_eq_none hge']
  refine wpAny_bind ?_
  first | refine wpAny_bind (wpAny_typeNameOfWhole_keyiter hit.typeIs (wpAny_pure ?_)) | refine wpAny_bind (wpAny_typeNameOf_keyiter hit.typeIs (wpAny_pure ?_))
  show wpAny _ _ (setField (.ref it) 0 .none >>= _) _ _ s
  refine wpAny_bind (wpAny_setField ho hd (by simp) ?_)
  show wpAny _ _ (newExc (.type "StopIteration") [] >>= _) _ _ _
  refine wpAny_bind ?_
  simp only [newExc, newTuple]
  refine wpAny_bind (wpAny_newObj_type ?_ (by size_fits))
  refine wpAny_bind (m := firstArgMember _ _) (wpAny_of_eq (a := Value.none) (by first | rfl | (simp only [firstArgMember]; rfl)) ?_)
  refine wpAny_newObj_type ?_ (by size_fits)
  simp only [raiseNew]
  refine wpAny_bind (wpAny_handled ?_)
  rw [show A.in1.handled = none from hh]
  refine wpAny_bind (wpAny_pure (wpAny_throw ?_))
  refine wpAny_bind (wpAny_isInstance (T := "StopIteration") (b := true) ⟨_, Heap.get?_push_size _ rfl, rfl⟩ isSubtype_stop ?_)
  exact wpAny_pure (hQ _ (((Heap.SameBut.update ..).extBut.push _).push _))
end
theorem kv_get {κ : Type} {kvs : List (κ × V)} {vs : List (κ × Value)} (h : KV kvs vs) : ∀ {i : Nat} {k : κ} {v : V}, kvs[i]? = some (k, v) → ∃ u, vs[i]? = some (k, u) ∧ RelV v u := by
  unfold KV at h
  induction h with
  | nil => intro i k v e; simp at e
  | @cons a b l₁ l₂ r t ih =>
    intro i k v e
    cases i with
    | zero =>
      simp only [List.getElem?_cons_zero, Option.some.injEq] at e
      subst e
      refine ⟨b.2, ?_, r.2⟩
      simp only [List.getElem?_cons_zero]
      exact congrArg some (Prod.ext r.1.symm rfl)
    | succ j =>
      simp only [List.getElem?_cons_succ] at e ⊢
      exact ih e
theorem paired_get {α β : Type} {G : α → β → Prop} {l₁ : List α} {l₂ : List β} (h : Paired G l₁ l₂) : ∀ {i : Nat} {a : α}, l₁[i]? = some a → ∃ b, l₂[i]? = some b ∧ G a b := by
  induction h with
  | nil => intro i a e; simp at e
  | @cons a b l₁ l₂ r t ih =>
    intro i a' e
    cases i with
    | zero =>
      simp only [List.getElem?_cons_zero, Option.some.injEq] at e
      subst e
      exact ⟨b, rfl, r⟩
    | succ j =>
      simp only [List.getElem?_cons_succ] at e ⊢
      exact ih e
theorem relV_key {k : Key} {u : Value} (h : keyIs k u = true) : RelV (kV k) u := by
  rcases keyIs_shape h with ⟨i, t, rfl, rfl⟩ | ⟨x, t, rfl, rfl⟩
  · exact ⟨t, rfl⟩
  · exact ⟨t, rfl⟩
section
variable {X : Cx} {pins : List (Addr × Obj)} {σ : St} {H : Hp} {s : Shared} {d : Addr} {o : Obj}
theorem Inv.frzK {kvs : List (Key × V)} (I : Inv X pins σ H s) (h : H d = some (.frz o (.dK kvs))) :
    (d == sysModules) = false ∧ s.heap.get? d = some o ∧ o.ExactDict ∧ ∃ (es : Array DictEntry) (ep : Nat) (vs : List (Key × Value)), o.data = .dict es ep ∧ es.size = kvs.length ∧ KV kvs vs ∧ s.heap.DictAt (mixKind X.prog X.w) d vs ep := by
  obtain ⟨hd, z, hs, vs, kv, o', es, ep, ho, hx, hdt, r⟩ := I.hok d _ h
  rw [hd] at ho
  cases ho
  refine ⟨hs, hd, hx, es, ep, vs, hdt, ?_, kv, o, es, hd, hx, hdt, r⟩
  have l1 := r.2.1.length
  have l2 : kvs.length = vs.length := Paired.length kv
  rw [Array.length_toList] at l1
  omega
theorem Inv.frzT {kvs : List (List Key × V)} (I : Inv X pins σ H s) (h : H d = some (.frz o (.dT kvs))) :
    (d == sysModules) = false ∧ s.heap.get? d = some o ∧ o.ExactDict ∧ ∃ (es : Array DictEntry) (ep : Nat), o.data = .dict es ep ∧ es.size = kvs.length ∧
      ∀ (i : Nat) (k : List Key) (v : V), kvs[i]? = some (k, v) → ∃ (en : DictEntry) (q : Addr), es[i]? = some en ∧ en.key = .ref q ∧ H q = some (.tup (k.map kV)) := by
  obtain ⟨hd, z, hs, xs, pr, o', es, ep, ho, hx, hdt, he, _⟩ := I.hok d _ h
  rw [hd] at ho
  cases ho
  refine ⟨hs, hd, hx, es, ep, hdt, ?_, fun i k v e => ?_⟩
  · have l1 : es.size = xs.length := size_of_entries he
    have l2 : kvs.length = xs.length := Paired.length pr
    omega
  · obtain ⟨b, hb, e1, e2, _⟩ := paired_get pr e
    have q := entry_at he i
    rw [hb] at q
    exact ⟨_, b.2.1, q, rfl, e2⟩
end
def Itk (d : Addr) (o : Obj) (kvs : List (Key × V)) : It :=
  ⟨fun i H => H d = some (.frz o (.dK kvs)) ∧ i < kvs.length, fun i H x H' => H' = H ∧ ∃ k v, kvs[i]? = some (k, v) ∧ x = kV k, fun i H => H d = some (.frz o (.dK kvs)) ∧ kvs.length ≤ i⟩
def Itkt (d : Addr) (o : Obj) (kvs : List (List Key × V)) : It :=
  ⟨fun i H => H d = some (.frz o (.dT kvs)) ∧ i < kvs.length, fun i H x H' => H' = H ∧ ∃ (k : List Key) (v : V) (q : Addr), kvs[i]? = some (k, v) ∧ x = .ref q ∧ H q = some (.tup (k.map kV)), fun i H => H d = some (.frz o (.dT kvs)) ∧ kvs.length ≤ i⟩
def Itd (d : Addr) (o : Obj) (kvs : List (Key × V)) : It :=
  ⟨fun i H => H d = some (.frz o (.dK kvs)) ∧ i < kvs.length, fun i H x H' => H' = H ∧ ∃ k, kvs[i]? = some (k, x), fun i H => H d = some (.frz o (.dK kvs)) ∧ kvs.length ≤ i⟩
def Iti (d : Addr) (o : Obj) (kvs : List (Key × V)) : It :=
  ⟨fun i H => H d = some (.frz o (.dK kvs)) ∧ i < kvs.length, fun i H x H' => ∃ T k v, kvs[i]? = some (k, v) ∧ x = .ref T ∧ H T = none ∧ H' = upd H T (.tup [kV k, v]), fun i H => H d = some (.frz o (.dK kvs)) ∧ kvs.length ≤ i⟩
theorem dict_ep {o : Obj} {es es' : Array DictEntry} {ep ep' : Nat} (h : o.data = .dict es ep) (h' : o.data = .dict es' ep') : es' = es ∧ ep' = ep := by
  rw [h] at h'
  cases h'
  exact ⟨rfl, rfl⟩
section
variable {P : Program} {w : World} {K : PySem.W.Frag} {tg : Expr} {d : Addr} {o : Obj} {es : Array DictEntry} {ep : Nat}
theorem turn_keys {kvs : List (Key × V)} (it : Addr) (hod : o.data = .dict es ep) : Turn P w K tg (Itk d o kvs) [it] it (fun i h => h.IsKeyIter it d i kvs.length ep) where
  mem := by simp
  obj := fun i h st b hb => by
    have e : b = it := by simpa using hb
    subst e
    obtain ⟨oi, e, c, dd⟩ := st
    exact ⟨oi, e, fun v z => by rw [dd] at z; cases z⟩
  keep := fun i h h' st k => st.at fun oi e => k it (by simp) oi e
  item := by
    intro X hP hw hK hc i pins s σ H E I hf st hg
    subst hP hw hK
    obtain ⟨hd, hi⟩ := hg
    obtain ⟨f0, f1, f2, f3, f4, f5⟩ := hf it (by simp)
    obtain ⟨hs, hgd, hx, es', ep', vs, hdt, hsz, kv, hm⟩ := I.frzK hd
    obtain ⟨rfl, rfl⟩ := dict_ep hod hdt
    obtain ⟨⟨k, v⟩, hkv⟩ : ∃ p, kvs[i]? = some p := ⟨kvs[i], List.getElem?_eq_getElem hi⟩
    obtain ⟨u, hu, ru⟩ := kv_get kv hkv
    have hl : kvs.length = vs.length := Paired.length kv
    rw [hl] at st
    refine wpAny_pyNext_dict_item st hm hu fun key h' hkey st' sb => ?_
    have I1 : Inv X pins σ H { s with heap := h' } := I.turned (t' := s.toks) (fun b ob hb e => (sb.2 b hb).trans e) f0 f1 f3 f4 f5
    obtain ⟨oi, e, c, dd⟩ := id st'
    refine ⟨key, rfl, go_of (s := { s with heap := h' }) e c dd (by decide) ⟨kV k, H, I1, relV_key (show keyIs k key = true from hkey), ⟨rfl, k, v, hkv, rfl⟩, ?_, fun b hb => (hf b hb).1⟩⟩
    show h'.IsKeyIter it d (i + 1) kvs.length _
    rw [hl]
    exact st'
  done := by
    intro X hP hw hK hc i pins s σ H E I hf st hg
    subst hP hw hK
    obtain ⟨hd, hi⟩ := hg
    obtain ⟨f0, f1, f2, f3, f4, f5⟩ := hf it (by simp)
    obtain ⟨hs, hgd, hx, es', ep', vs, hdt, hsz, kv, hm⟩ := I.frzK hd
    obtain ⟨rfl, rfl⟩ := dict_ep hod hdt
    exact next_key_end (I.ok.hd hc) st hgd hdt hsz hi fun h' eb => ⟨rfl, I.turned (t' := s.toks) (fun b ob hb e => eb b ob hb e) f0 f1 f3 f4 f5⟩
  self := fun A i s Q E st h => wpAny_pyIter_keyiter st h
theorem turn_keysT {kvs : List (List Key × V)} (it : Addr) (hod : o.data = .dict es ep) : Turn P w K tg (Itkt d o kvs) [it] it (fun i h => h.IsKeyIter it d i kvs.length ep) where
  mem := by simp
  obj := fun i h st b hb => by
    have e : b = it := by simpa using hb
    subst e
    obtain ⟨oi, e, c, dd⟩ := st
    exact ⟨oi, e, fun v z => by rw [dd] at z; cases z⟩
  keep := fun i h h' st k => st.at fun oi e => k it (by simp) oi e
  item := by
    intro X hP hw hK hc i pins s σ H E I hf st hg
    subst hP hw hK
    obtain ⟨hd, hi⟩ := hg
    obtain ⟨f0, f1, f2, f3, f4, f5⟩ := hf it (by simp)
    obtain ⟨hs, hgd, hx, es', ep', hdt, hsz, ent⟩ := I.frzT hd
    obtain ⟨rfl, rfl⟩ := dict_ep hod hdt
    obtain ⟨⟨k, v⟩, hkv⟩ : ∃ p, kvs[i]? = some p := ⟨kvs[i], List.getElem?_eq_getElem hi⟩
    obtain ⟨en, q, hen, hkey, hq⟩ := ent i k v hkv
    refine next_key_item st hgd hdt hsz hen fun h' st' sb => ?_
    have I1 : Inv X pins σ H { s with heap := h' } := I.turned (t' := s.toks) (fun b ob hb e => (sb.2 b hb).trans e) f0 f1 f3 f4 f5
    obtain ⟨oi, e, c, dd⟩ := id st'
    exact ⟨en.key, rfl, go_of (s := { s with heap := h' }) e c dd (by decide) ⟨.ref q, H, I1, hkey, ⟨rfl, k, v, q, hkv, rfl, hq⟩, st', fun b hb => (hf b hb).1⟩⟩
  done := by
    intro X hP hw hK hc i pins s σ H E I hf st hg
    subst hP hw hK
    obtain ⟨hd, hi⟩ := hg
    obtain ⟨f0, f1, f2, f3, f4, f5⟩ := hf it (by simp)
    obtain ⟨hs, hgd, hx, es', ep', hdt, hsz, ent⟩ := I.frzT hd
    obtain ⟨rfl, rfl⟩ := dict_ep hod hdt
    exact next_key_end (I.ok.hd hc) st hgd hdt hsz hi fun h' eb => ⟨rfl, I.turned (t' := s.toks) (fun b ob hb e => eb b ob hb e) f0 f1 f3 f4 f5⟩
  self := fun A i s Q E st h => by
    refine wpAny_pyIter_slot st.typeIs F.slot_dict_keyiterator_iter (wpAny_call_entry F.slot_dict_keyiterator_iter st.typeIs F.entry_dict_keyiterator_iter ?_ (F.args_dict_keyiterator_iter_1 _))
    show wpAny _ _ (ret (.ref it)) _ _ s
    exact wpAny_pure ⟨_, rfl, "dict_keyiterator", _, st.typeIs, F.slot_dict_keyiterator_next.lookup, h⟩
theorem turn_vals {kvs : List (Key × V)} (it : Addr) (hod : o.data = .dict es ep) : Turn P w K tg (Itd d o kvs) [it] it (fun i h => h.IsValIter it d i kvs.length ep) where
  mem := by simp
  obj := fun i h st b hb => by
    have e : b = it := by simpa using hb
    subst e
    obtain ⟨oi, e, c, dd⟩ := st
    exact ⟨oi, e, fun v z => by rw [dd] at z; cases z⟩
  keep := fun i h h' st k => st.at fun oi e => k it (by simp) oi e
  item := by
    intro X hP hw hK hc i pins s σ H E I hf st hg
    subst hP hw hK
    obtain ⟨hd, hi⟩ := hg
    obtain ⟨f0, f1, f2, f3, f4, f5⟩ := hf it (by simp)
    obtain ⟨hs, hgd, hx, es', ep', vs, hdt, hsz, kv, hm⟩ := I.frzK hd
    obtain ⟨rfl, rfl⟩ := dict_ep hod hdt
    obtain ⟨⟨k, v⟩, hkv⟩ : ∃ p, kvs[i]? = some p := ⟨kvs[i], List.getElem?_eq_getElem hi⟩
    obtain ⟨u, hu, ru⟩ := kv_get kv hkv
    have hl : kvs.length = vs.length := Paired.length kv
    rw [hl] at st
    refine wpAny_pyNext_values_item st hm hu fun h' st' sb => ?_
    have I1 : Inv X pins σ H { s with heap := h' } := I.turned (t' := s.toks) (fun b ob hb e => (sb.2 b hb).trans e) f0 f1 f3 f4 f5
    obtain ⟨oi, e, c, dd⟩ := id st'
    refine ⟨u, rfl, go_of (s := { s with heap := h' }) e c dd (by decide) ⟨v, H, I1, ru, ⟨rfl, k, hkv⟩, ?_, fun b hb => (hf b hb).1⟩⟩
    show h'.IsValIter it d (i + 1) kvs.length _
    rw [hl]
    exact st'
  done := by
    intro X hP hw hK hc i pins s σ H E I hf st hg
    subst hP hw hK
    obtain ⟨hd, hi⟩ := hg
    obtain ⟨f0, f1, f2, f3, f4, f5⟩ := hf it (by simp)
    obtain ⟨hs, hgd, hx, es', ep', vs, hdt, hsz, kv, hm⟩ := I.frzK hd
    obtain ⟨rfl, rfl⟩ := dict_ep hod hdt
    have hl : kvs.length = vs.length := Paired.length kv
    rw [hl] at st
    exact wpAny_pyNext_values_end (I.ok.hd hc) st hm (List.getElem?_eq_none (by omega)) fun h' eb => ⟨rfl, I.turned (t' := s.toks) (fun b ob hb e => eb b ob hb e) f0 f1 f3 f4 f5⟩
  self := fun A i s Q E st h => wpAny_pyIter_valiter st h
theorem turn_items {kvs : List (Key × V)} {elts : List Expr} {kk : Nat} {tpos : Pos} (it : Addr) (hod : o.data = .dict es ep) :
    Turn P w K (.Tuple elts kk tpos) (Iti d o kvs) [it] it (fun i h => ∃ ok ov, IsItemIter h it d i kvs.length ep ok ov) where
  mem := by simp
  obj := fun i h st b hb => by
    have e : b = it := by simpa using hb
    subst e
    obtain ⟨ok, ov, e⟩ := st
    exact ⟨_, e, fun v z => nomatch z⟩
  keep := fun i h h' st k => let ⟨ok, ov, e⟩ := st; ⟨ok, ov, k it (by simp) _ e⟩
  item := by
    intro X hP hw hK hc i pins s σ H E I hf st hg
    subst hP hw hK
    obtain ⟨hd, hi⟩ := hg
    obtain ⟨hs, hgd, hx, es', ep', vs, hdt, hsz, kv, hm⟩ := I.frzK hd
    obtain ⟨rfl, rfl⟩ := dict_ep hod hdt
    obtain ⟨⟨k, v⟩, hkv⟩ : ∃ p, kvs[i]? = some p := ⟨kvs[i], List.getElem?_eq_getElem hi⟩
    obtain ⟨u, hu, ru⟩ := kv_get kv hkv
    have hl : kvs.length = vs.length := Paired.length kv
    obtain ⟨ok, ov, he⟩ := st
    rw [hl] at he
    have hlt : it < s.heap.objs.size := Heap.lt_size he
    refine wpAny_pyNext_items_item he hm hu fun key h' hkey ho hT hz hk => ?_
    refine ⟨_, rfl, wpAny_letOwnedTupleGo_items (s := { s with heap := h' }) ho fun h'' he' sb => ?_⟩
    have hT2 : h''.get? s.heap.objs.size = some { cls := .type "tuple", data := .seq #[key, u] } := (sb.2 _ (Nat.ne_of_gt hlt)).trans hT
    have new : ObjOk X.prog X.w (upd H s.heap.objs.size (.tup [kV k, v])) h'' s.heap.objs.size (.tup [kV k, v]) :=
      ⟨by show 2 ≤ sizeLine; decide, [key, u], .cons (relV_key (show keyIs k key = true from hkey)) (.cons ru .nil), ⟨_, hT2, rfl, _, rfl⟩⟩
    have I1 : Inv X pins σ (upd H s.heap.objs.size (.tup [kV k, v])) { s with heap := h'' } :=
      I.turnedNew (t' := s.toks) (ch := [it]) (fun b ob hb e => (sb.2 b (by simpa using hb)).trans (hk b ob (by simpa using hb) e)) hf (Nat.le_refl _) new
    refine ⟨.ref s.heap.objs.size, _, I1, rfl, ⟨_, k, v, hkv, rfl, I.hok.fresh (Nat.le_refl _), rfl⟩, ⟨key, u, ?_⟩, fun b hb => ?_⟩
    · rw [hl]; exact he'
    · have e : b = it := by simpa using hb
      rw [e, upd_ne (Nat.ne_of_lt hlt)]
      exact (hf it (by simp)).1
  done := by
    intro X hP hw hK hc i pins s σ H E I hf st hg
    subst hP hw hK
    obtain ⟨hd, hi⟩ := hg
    obtain ⟨f0, f1, f2, f3, f4, f5⟩ := hf it (by simp)
    obtain ⟨hs, hgd, hx, es', ep', vs, hdt, hsz, kv, hm⟩ := I.frzK hd
    obtain ⟨rfl, rfl⟩ := dict_ep hod hdt
    have hl : kvs.length = vs.length := Paired.length kv
    obtain ⟨ok, ov, he⟩ := st
    rw [hl] at he
    exact wpAny_pyNext_items_end (I.ok.hd hc) he hm (List.getElem?_eq_none (by omega)) fun h' eb => ⟨rfl, I.turned (t' := s.toks) (fun b ob hb e => eb b ob hb e) f0 f1 f3 f4 f5⟩
  self := fun A i s Q E st h => let ⟨_, _, e⟩ := st; PySem.W.kcp_self e h
end
def iKeys (td : TE) : TI := fun σ H R => td σ H fun x H1 => ∃ d o, x = .ref d ∧ ((∃ kvs, H1 d = some (.frz o (.dK kvs)) ∧ R (Itk d o kvs) H1) ∨ ∃ kvs, H1 d = some (.frz o (.dT kvs)) ∧ R (Itkt d o kvs) H1)
def iVals (td : TE) : TI := fun σ H R => td σ H fun x H1 => ∃ d o kvs, x = .ref d ∧ H1 d = some (.frz o (.dK kvs)) ∧ R (Itd d o kvs) H1
def iItems (td : TE) : TI := fun σ H R => td σ H fun x H1 => ∃ d o kvs, x = .ref d ∧ H1 d = some (.frz o (.dK kvs)) ∧ R (Iti d o kvs) H1
section
variable {X : Cx} {tg e : Expr} {td : TE} {apos cpos : Pos}
theorem pi_keys (he : PE X e td) : PI X tg e (iKeys td) := by
  intro pins s σ H R I h
  refine thn (he pins s σ H _ I h) fun u s1 ⟨x, H1, I1, rx, d, o, ex, q⟩ => ?_
  subst ex
  obtain rfl : u = Value.ref d := rx
  rcases q with ⟨kvs, hd, q⟩ | ⟨kvs, hd, q⟩
  · obtain ⟨hs, hgd, hx, es, ep, vs, hdt, hsz, kv, hm⟩ := I1.frzK hd
    refine iter_keys hs hgd hx hdt (pi_one (tk := s1.toks) I1 _ (turn_keys _ hdt) ⟨_, Heap.get?_push_size _ rfl, rfl, ?_⟩ q)
    rw [hsz] <;> rfl
  · obtain ⟨hs, hgd, hx, es, ep, hdt, hsz, ent⟩ := I1.frzT hd
    refine iter_keys hs hgd hx hdt (pi_one (tk := s1.toks) I1 _ (turn_keysT _ hdt) ⟨_, Heap.get?_push_size _ rfl, rfl, ?_⟩ q)
    rw [hsz] <;> rfl
theorem pi_values (he : PE X e td) (hbase : attributeBase e "values" X.env (eval e X.env) = eval e X.env := by rfl) (hline : (apos.endLine == cpos.line) = true := by rfl) : PI X tg (.Call (.Attribute e "values" apos) [] [] cpos) (iVals td) := by
  intro pins s σ H R I h
  refine wpAny_Call_method (T := "dict") (id := "dict.values") hbase rfl hline F.plainAttrs_dict F.slot_dict_values F.type_dict_values (thn (he pins s σ H _ I h) fun u s1 ⟨x, H1, I1, rx, d, o, kvs, ex, hd, q⟩ => ?_)
  subst ex
  obtain rfl : u = Value.ref d := rx
  obtain ⟨hs, hgd, hx, es, ep, vs, hdt, hsz, kv, hm⟩ := I1.frzK hd
  have hl : kvs.length = vs.length := Paired.length kv
  refine ⟨hm.dictOf.typeIs, hm.dictOf.mapOf.noDict, ?_⟩
  have I2 : Inv X pins σ H1 { s1 with heap := s1.heap.push { cls := .type "dict_values", data := .fields #[.ref d] } } := I1.kept (t' := s1.toks) fun b ob q => Heap.get?_push_of_some _ q
  have fin : wpAny (model X.prog X.w) X.A (pyIter (.ref s1.heap.objs.size)) (PIE X pins σ tg R) X.xe { s1 with heap := s1.heap.push { cls := .type "dict_values", data := .fields #[.ref d] } } := by
    refine wpAny_pyIter_values (d := d) (knd := mixKind X.prog X.w) ⟨_, Heap.get?_push_size _ rfl, rfl, rfl⟩ (hm.push _) (pi_one (tk := s1.toks) I2 _ (turn_vals _ hdt) ⟨_, Heap.get?_push_size _ rfl, rfl, ?_⟩ q)
    rw [hl] <;> rfl
  show wpAny _ _ (callWith cpos (.builtin "dict.values") [.ref d] [] []) _ X.xe s1
  exact method_meetsIn F.slot_dict_values F.entry_dict_values rfl (PySem.evalArgs_none ⟨rfl, hm.dictOf.typeIs, F.args_dict_values_1 _, _, meets_dict_values (mixKind X.prog X.w) d hs, ⟨vs, hm.dictOf⟩, fin⟩)
theorem pi_items {elts : List Expr} {kk : Nat} {tpos : Pos} (he : PE X e td) (hbase : attributeBase e "items" X.env (eval e X.env) = eval e X.env := by rfl) (hline : (apos.endLine == cpos.line) = true := by rfl) :
    PI X (.Tuple elts kk tpos) (.Call (.Attribute e "items" apos) [] [] cpos) (iItems td) := by
  intro pins s σ H R I h
  refine wpAny_Call_method (T := "dict") (id := "dict.items") hbase rfl hline F.plainAttrs_dict F.slot_dict_items F.type_dict_items (thn (he pins s σ H _ I h) fun u s1 ⟨x, H1, I1, rx, d, o, kvs, ex, hd, q⟩ => ?_)
  subst ex
  obtain rfl : u = Value.ref d := rx
  obtain ⟨hs, hgd, hx, es, ep, vs, hdt, hsz, kv, hm⟩ := I1.frzK hd
  have hl : kvs.length = vs.length := Paired.length kv
  refine ⟨hm.dictOf.typeIs, hm.dictOf.mapOf.noDict, ?_⟩
  have I2 : Inv X pins σ H1 { s1 with heap := s1.heap.push { cls := .type "dict_items", data := .fields #[.ref d] } } := I1.kept (t' := s1.toks) fun b ob q => Heap.get?_push_of_some _ q
  have fin : wpAny (model X.prog X.w) X.A (pyIter (.ref s1.heap.objs.size)) (PIE X pins σ (.Tuple elts kk tpos) R) X.xe { s1 with heap := s1.heap.push { cls := .type "dict_items", data := .fields #[.ref d] } } := by
    refine wpAny_pyIter_items (d := d) (knd := mixKind X.prog X.w) ⟨_, Heap.get?_push_size _ rfl, rfl, rfl⟩ (hm.push _) (pi_one (tk := s1.toks) I2 _ (turn_items _ hdt) ⟨.none, .none, ?_⟩ q)
    rw [hl]
    exact Heap.get?_push_size _ rfl
  show wpAny _ _ (callWith cpos (.builtin "dict.items") [.ref d] [] []) _ X.xe s1
  exact method_meetsIn F.slot_dict_items F.entry_dict_items rfl (PySem.evalArgs_none ⟨rfl, hm.dictOf.typeIs, F.args_dict_items_1 _, _, meets_dict_items (mixKind X.prog X.w) d hs, ⟨vs, hm.dictOf⟩, fin⟩)
end
theorem boot_zip5 : bootBuiltins "zip" = some (.type "zip") := by decide +kernel
def Itz (K : PySem.W.Frag) (a b : Addr) : It :=
  ⟨fun i H => ∃ (xs ys : List V) (x y : V), SqL K H a xs ∧ SqL K H b ys ∧ xs[i]? = some x ∧ ys[i]? = some y,
    fun i H v H' => ∃ T x y, v = .ref T ∧ H T = none ∧ H' = upd H T (.tup [x, y]) ∧ (∀ xs, SqL K H a xs → xs[i]? = some x) ∧ ∀ ys, SqL K H b ys → ys[i]? = some y,
    fun i H => ∃ xs ys : List V, SqL K H a xs ∧ SqL K H b ys ∧ (xs.length ≤ i ∨ ys.length ≤ i)⟩
theorem turn_zip {P : Program} {w : World} {K : PySem.W.Frag} {elts : List Expr} {kk : Nat} {tpos : Pos} {a b z TI TO i1 i2 : Addr} (D : ZipApart z TI TO i1 i2 a b) :
    Turn P w K (.Tuple elts kk tpos) (Itz K a b) [z, TI, TO, i1, i2] z (fun i h => IsZip h z TI TO .none ∧ IsPair h TI (.ref i1) (.ref i2) ∧ (∃ x y, IsPair h TO x y) ∧ h.IsListIter i1 a i ∧ h.IsListIter i2 b i) where
  mem := by simp
  obj := fun i h st c hc => by
    obtain ⟨hz, hTI, ⟨x, y, hTO⟩, ⟨o1, e1, _, d1⟩, ⟨o2, e2, _, d2⟩⟩ := st
    have e' : c = z ∨ c = TI ∨ c = TO ∨ c = i1 ∨ c = i2 := by simpa using hc
    rcases e' with q | q | q | q | q
    · rw [q]; exact ⟨_, hz, fun v q => nomatch q⟩
    · rw [q]; exact ⟨_, hTI, fun v q => nomatch q⟩
    · rw [q]; exact ⟨_, hTO, fun v q => nomatch q⟩
    · rw [q]; exact ⟨o1, e1, fun v q => by rw [d1] at q; cases q⟩
    · rw [q]; exact ⟨o2, e2, fun v q => by rw [d2] at q; cases q⟩
  keep := fun i h h' st k => by
    obtain ⟨hz, hTI, ⟨x, y, hTO⟩, h1, h2⟩ := st
    exact ⟨k z (by simp) _ hz, k TI (by simp) _ hTI, ⟨x, y, k TO (by simp) _ hTO⟩, h1.at fun o q => k i1 (by simp) o q, h2.at fun o q => k i2 (by simp) o q⟩
  item := by
    intro X hP hw hK hc i pins s σ H E I hf st hg
    subst hP hw hK
    obtain ⟨hz, hTI, ⟨x0, y0, hTO⟩, h1, h2⟩ := st
    obtain ⟨xs, ys, x, y, hqx, hqy, hx, hy⟩ := hg
    obtain ⟨its, rv, p, _⟩ := I.list hqx
    obtain ⟨its2, rv2, p2, _⟩ := I.list hqy
    obtain ⟨u, hu, ru⟩ := rv.get hx
    obtain ⟨u2, hu2, ru2⟩ := rv2.get hy
    have hzl : z < s.heap.objs.size := Heap.lt_size hz
    refine wpAny_pyNext_zip_item D hz hTI hTO h1 h2 p.isList p2.isList (x := u) (y := u2) (by simpa using hu) (by simpa using hu2) fun h' z' TO' h1' h2' hT hsz hk => ?_
    refine ⟨_, rfl, wpAny_letOwnedTupleGo_zip (s := { s with heap := h' }) z' fun h'' z'' sb => ?_⟩
    have hT2 : h''.get? s.heap.objs.size = some { cls := .type "tuple", data := .seq #[u, u2] } := (sb.2 _ (Nat.ne_of_gt hzl)).trans hT
    have new : ObjOk X.prog X.w (upd H s.heap.objs.size (.tup [x, y])) h'' s.heap.objs.size (.tup [x, y]) :=
      ⟨by show 2 ≤ sizeLine; decide, [u, u2], .cons ru (.cons ru2 .nil), ⟨_, hT2, rfl, _, rfl⟩⟩
    have I1 : Inv X pins σ (upd H s.heap.objs.size (.tup [x, y])) { s with heap := h'' } :=
      I.turnedNew (t' := s.toks) (ch := [z, TI, TO, i1, i2]) (fun c o hb q => (sb.2 c (fun q' => hb (by simp [q']))).trans (hk c o (fun q' => hb (by simp [q'])) (fun q' => hb (by simp [q'])) (fun q' => hb (by simp [q'])) (fun q' => hb (by simp [q'])) q)) hf (Nat.le_refl _) new
    refine ⟨.ref s.heap.objs.size, _, I1, rfl, ⟨_, x, y, rfl, I.hok.fresh (Nat.le_refl _), rfl, fun l hl => by rw [I.list_inj hl hqx]; exact hx, fun l hl => by rw [I.list_inj hl hqy]; exact hy⟩, ⟨z'', ?_, ⟨u, u2, ?_⟩, ?_, ?_⟩, fun c hcm => ?_⟩
    · exact (sb.2 _ D.TIz).trans (hk _ _ D.TIz D.TITO D.TIi1 D.TIi2 hTI)
    · exact (sb.2 _ D.TOz).trans TO'
    · exact h1'.at fun o q => (sb.2 _ D.i1z).trans q
    · exact h2'.at fun o q => (sb.2 _ D.i2z).trans q
    · have hlt : c < s.heap.objs.size := by
        have e' : c = z ∨ c = TI ∨ c = TO ∨ c = i1 ∨ c = i2 := by simpa using hcm
        rcases e' with q | q | q | q | q
        · rw [q]; exact hzl
        · rw [q]; exact Heap.lt_size hTI
        · rw [q]; exact Heap.lt_size hTO
        · rw [q]; obtain ⟨_, e1, _⟩ := h1; exact Heap.lt_size e1
        · rw [q]; obtain ⟨_, e2, _⟩ := h2; exact Heap.lt_size e2
      rw [upd_ne (Nat.ne_of_lt hlt)]
      exact (hf c hcm).1
  done := by
    intro X hP hw hK hc i pins s σ H E I hf st hg
    subst hP hw hK
    obtain ⟨hz, hTI, ⟨x0, y0, hTO⟩, h1, h2⟩ := st
    obtain ⟨xs, ys, hqx, hqy, hend⟩ := hg
    obtain ⟨its, rv, p, _⟩ := I.list hqx
    obtain ⟨its2, rv2, p2, _⟩ := I.list hqy
    have l1 := rv.length
    have l2 := rv2.length
    have he : its.toArray[i]? = none ∨ its2.toArray[i]? = none := by
      rcases hend with q | q
      · exact .inl (by simp; omega)
      · exact .inr (by simp; omega)
    exact wpAny_pyNext_zip_end (I.ok.hd hc) D hz hTI hTO h1 h2 p.isList p2.isList he fun h' hk => ⟨rfl, I.turnedL (t' := s.toks) (ch := [z, TI, TO, i1, i2]) (fun c o hb q =>
      hk c o (fun q' => hb (by simp [q'])) (fun q' => hb (by simp [q'])) (fun q' => hb (by simp [q'])) (fun q' => hb (by simp [q'])) q) hf⟩
  self := fun A i s Q E st h => wpAny_pyIter_zip st.1 h
def iZip (K : PySem.W.Frag) (ta : TA) : TI := fun σ H R => ta σ H fun vs H1 => ∃ a b xs ys, vs = [.ref a, .ref b] ∧ SqL K H1 a xs ∧ SqL K H1 b ys ∧ R (Itz K a b) H1
theorem pi_zip {X : Cx} {e e2 : Expr} {ta : TA} {p pos tpos : Pos} {elts : List Expr} {kk : Nat} (hg : Gl X "zip") (hm : X.mg "zip" = none) (ha : PA X [e, e2] ta)
    (hs : starEach [e, e2] X.env = (false, eval e X.env) :: starEach [e2] X.env := by rfl) (hpl : (backTo pos (starEach [e2] X.env)).any (·.1) = false := by rfl) :
    PI X (.Tuple elts kk tpos) (.Call (.Name "zip" p) [e, e2] [] pos) (iZip X.K ta) := by
  intro pins s σ H R I h
  refine Call_ (ld_blt I hg hm boot_zip5 (PyProof.Rows.callWith_type1 (thn (ha pos pins s σ H _ I h) fun us s1 ⟨vs, H1, I1, r1, q1⟩ => ?_) hs hpl))
  obtain ⟨a, b, xs, ys, ex, hqx, hqy, q⟩ := q1
  subst ex
  cases r1 with
  | cons r rr =>
    cases rr with
    | cons r' rr =>
      cases rr
      cases r
      cases r'
      obtain ⟨its, rv, p1, _⟩ := I1.list hqx
      obtain ⟨its2, rv2, p2, _⟩ := I1.list hqy
      have la : a < s1.heap.objs.size := p1.lt
      have lb : b < s1.heap.objs.size := p2.lt
      refine call_zip_2 p1.isList p2.isList fun h' hz hTI hTO h1 h2 hsz hk => wpAny_pyIter_zip hz ?_
      have I2 : Inv X pins σ H1 { s1 with heap := h' } := I1.kept (t' := s1.toks) hk
      refine ⟨s1.heap.objs.size + 4, [s1.heap.objs.size + 4, s1.heap.objs.size + 2, s1.heap.objs.size + 3, s1.heap.objs.size, s1.heap.objs.size + 1], _, _, H1, rfl, I2, turn_zip (PySem.W.ktu_apart s1.heap.objs.size a b la lb), ⟨hz, hTI, ⟨_, _, hTO⟩, h1, h2⟩, fun c hcm => ?_, q⟩
      have e' : c = s1.heap.objs.size + 4 ∨ c = s1.heap.objs.size + 2 ∨ c = s1.heap.objs.size + 3 ∨ c = s1.heap.objs.size ∨ c = s1.heap.objs.size + 1 := by simpa using hcm
      have hle : s1.heap.objs.size ≤ c := by
        rcases e' with z | z | z | z | z
        · rw [z]; exact Nat.le_add_right _ _
        · rw [z]; exact Nat.le_add_right _ _
        · rw [z]; exact Nat.le_add_right _ _
        · rw [z]; exact Nat.le_refl _
        · rw [z]; exact Nat.le_add_right _ _
      exact I1.fpOk hle (I1.hok.fresh hle)
end L2
namespace Att
open PySem PySem.W PySem.Calls PyProof.Rows
theorem ints_of_wellAll {P : Params} {h : Heap} : ∀ (ns : List Int) (vs : List Value), WellAll P h vs (ns.map WData.int) → IntsAre vs ns := by
  intro ns
  induction ns with
  | nil =>
    intro vs w
    rw [List.map_nil] at w
    cases w
    exact .nil
  | cons n ns ih =>
    intro vs w
    rw [List.map_cons] at w
    cases w with
    | cons a b =>
      cases a
      exact .cons _ _ (ih _ b)
end Att
namespace L2
open PySem PySem.Spec PyProof.Rows
theorem vals_ints : ∀ {vs : List Value} {ns : List Int}, IntsAre vs ns → Vals (ns.map V.int) vs
  | _, _, .nil => .nil
  | _, _, .cons n t h => .cons ⟨t, rfl⟩ (vals_ints h)
def Only (H : Hp) : Prop := ∀ b, H b = none ∨ ∃ o xs, H b = some (.frz o (.lst xs))
end L2
namespace L2
open PySem PySem.Spec PyProof.Rows
def inClass (s : Stmt) (j : Nat) : Stmt := match s with
  | .ClassDef _ _ _ body _ _ _ _ _ _ _ => body.getD j (.Pass ⟨0, 0, 0, 0⟩)
  | _ => .Pass ⟨0, 0, 0, 0⟩
def defArgs (s : Stmt) : Arguments := match s with
  | .FunctionDef _ a _ _ _ _ _ _ _ _ => a
  | _ => { posonlyargs := [], args := [], vararg := none, kwonlyargs := [], kw_defaults := [], kwarg := none, defaults := [] }
def defBody (s : Stmt) : List Stmt := match s with
  | .FunctionDef _ _ b _ _ _ _ _ _ _ => b
  | _ => []
def defScope (s : Stmt) : Scope := match s with
  | .FunctionDef _ _ _ _ _ _ sc _ _ _ => sc
  | _ => { kind := .function, names := [], isGenerator := false, isCoroutine := false }
abbrev CX0 : CXT := fun _ _ _ _ _ _ => False
abbrev E0 : XK := fun _ _ _ => False
theorem pass0 {X : Cx} : Passes CX0 X E0 := fun _ _ _ _ _ _ _ h => h.elim
structure Fun (K : PySem.W.Frag) (x qual : Str) (st : Stmt) (f : Addr) (fd : FuncData) : Prop where
  ex : ∃ (oc : Value) (od : Option Addr) (kV doc pm : Value) (an : Option Addr) (cdv ct : Value) (osl : Array (Option Value)),
    fd = PySem.W.fnOf x qual (defArgs st) (defBody st) (defScope st) .none kV doc pm an cdv ct ∧ K.lookup f = some ⟨oc, od, .func fd, osl⟩ ∧ PySem.W.codeIn K cdv qual = true
  kp : PySem.W.keepIn K (.ref f) = true
section
variable {P : Program} {w : World} {K : PySem.W.Frag} {mg : Str → Option Value} {base : Heap}
theorem Fun.ok {x qual : Str} {st : Stmt} {f : Addr} {fd : FuncData} {N ps : List Str} {k : Nat} {sp : Sp} (F : Fun K x qual st f fd) (S : FnScope N ps (defScope st)) (len : ∀ vs H Q E, sp vs H Q E → vs.length = ps.length)
    (hbody : ∀ (cdv : Value) (A : Around) (outer : List Env) (s : Shared) (H : Hp) (vs : List V) (Q : VK) (E : XK), Room k (A.deeper (envOfC qual (defScope st) s.heap.objs.size f cdv)) → sp vs H Q E →
      ∃ t, PSs (cxOf CX0 P w K mg base N qual (defScope st) f cdv A outer s H E).nox (defBody st) t ∧ t { nx := fun _ H' => Q .non H', rt := Q } (start N vs) H) : FnOk P w K mg base CX0 (k + 1) f fd ps sp := by
  obtain ⟨oc, od, kV, doc, pm, an, cdv, ct, osl, rfl, lk, hcd⟩ := F.ex
  refine fn_of lk hcd S len fun A outer s H vs Q E hr hsp => ?_
  obtain ⟨t, h, q⟩ := hbody cdv A outer s H vs Q E hr hsp
  exact ⟨t, h.nox, q⟩
theorem Fun.binds {x qual : Str} {st : Stmt} {f : Addr} {fd : FuncData} {ps : List Str} (F : Fun K x qual st f fd)
    (h : ∀ (kV doc pm : Value) (an : Option Addr) (cdv ct : Value) (us : List Value), us.length = ps.length → bindArgs (PySem.W.fnOf x qual (defArgs st) (defBody st) (defScope st) .none kV doc pm an cdv ct) ⟨us, []⟩ = pure (ps.zip us)) : Binds K fd ps [] := by
  obtain ⟨oc, od, kV, doc, pm, an, cdv, ct, osl, rfl, lk, hcd⟩ := F.ex
  exact .all (h kV doc pm an cdv ct)
theorem fun_mk {x qual : Str} {st : Stmt} {f : Addr} {oc : Value} {od an : Option Addr} {osl : Array (Option Value)} {kV doc pm cdv ct : Value} (l : K.lookup f = some ⟨oc, od, .func (PySem.W.fnOf x qual (defArgs st) (defBody st) (defScope st) .none kV doc pm an cdv ct), osl⟩)
    (c : PySem.W.codeIn K cdv qual = true) (k : PySem.W.keepIn K (.ref f) = true) : Fun K x qual st f (PySem.W.fnOf x qual (defArgs st) (defBody st) (defScope st) .none kV doc pm an cdv ct) := ⟨⟨oc, od, kV, doc, pm, an, cdv, ct, osl, rfl, l, c⟩, k⟩
end
theorem hu_of {A : Around} {k : Nat} (hr : Room k A) : A.units + 1 < cLine := Nat.lt_of_le_of_lt (Nat.add_le_add_left (by decide : 1 ≤ 64) _) hr.units
section
variable {X : Cx}
theorem pv (i : Nat) {x : Str} {pos : Pos} (hN : X.N[i]? = some x := by rfl) (hv : Vis X.env.scope x := by first | exact Or.inl rfl | exact Or.inr (Or.inl rfl) | exact Or.inr (Or.inr rfl)) (hd : (x == ("__debug__" : Str)) = false := by decide)
    (hcd : (x == ("__classdict__" : Str)) = false := by decide) : PE X (.Name x pos) (tVar i) := pe_var hN hv hd hcd
theorem call_lenD : CallR X (.builtin "len") (fun xs H Q => ∃ a kvs, xs = [V.ref a] ∧ H a = some (.dK kvs) ∧ Q (.int kvs.length) H) := by
  intro pins s σ H xs us Q I r h
  obtain ⟨a, kvs, rfl, ha, q⟩ := h
  obtain ⟨u, rfl, ru⟩ := vals1 r
  cases ru
  exact d_len I (.inl ha) fun t s' I' => ⟨.int kvs.length, H, I', ⟨t, rfl⟩, q⟩
end
theorem iteF {A B : Prop} (h : B) : if false = true then A else B := by
  rw [if_neg Bool.false_ne_true]
  exact h
theorem iteT {A B : Prop} (h : A) : if true = true then A else B := by
  rw [if_pos rfl]
  exact h
def Same (H H' : Hp) : Prop := ∀ b o, H b = some o → H' b = some o
theorem Same.refl (H : Hp) : Same H H := fun _ _ h => h
theorem Same.trans {H H1 H2 : Hp} (a : Same H H1) (b : Same H1 H2) : Same H H2 := fun c o h => b c o (a c o h)
theorem Same.free {H H' : Hp} (e : Same H H') {l : Addr} (h : H' l = Option.none) : H l = Option.none := by
  cases q : H l with
  | none => rfl
  | some o =>
    rw [e l o q] at h
    cases h
theorem Same.seq {K : PySem.W.Frag} {H H' : Hp} {a : Addr} {xs : List V} (e : Same H H') (h : SqL K H a xs) : SqL K H' a xs := by
  rcases h with (h | ⟨o, h⟩) | h
  · exact .inl (.inl (e _ _ h))
  · exact .inl (.inr ⟨o, e _ _ h⟩)
  · exact .inr h
section
variable {κ : Type} [DecidableEq κ]
theorem nd_snoc : ∀ {l : List κ} {k : κ}, l.Nodup → ¬ k ∈ l → (l ++ [k]).Nodup
  | [], k, _, _ => by simp
  | a :: r, k, h, hk => by
    obtain ⟨h1, h2⟩ := List.nodup_cons.mp h
    show (a :: (r ++ [k])).Nodup
    refine List.nodup_cons.mpr ⟨fun m => ?_, nd_snoc h2 fun m => hk (List.mem_cons.mpr (Or.inr m))⟩
    rcases List.mem_append.mp m with q | q
    · exact h1 q
    · exact hk (List.mem_cons.mpr (Or.inl (List.mem_singleton.mp q).symm))
end
theorem at_of {xs : List V} {z : Int} {j : Nat} {v : V} (e : z = (j : Int)) (h : xs[j]? = some v) : atI xs z = some v := by
  rw [e]
  exact atI_nat h
theorem Same.made {H H1 : Hp} {x dx C : Addr} (nx : H x = Option.none) (nd : H dx = Option.none) (k : ∀ b o, (upd (upd H dx (.own x)) x (.ins C dx [])) b = some o → b ≠ x → H1 b = some o) : Same H H1 := fun b o e =>
  k b o (by rw [upd_ne (ne_of_none e nx), upd_ne (ne_of_none e nd)]; exact e) (ne_of_none e nx)
end L2
end
section
set_option autoImplicit false
namespace Jo
open Kp179 Kp179Neutral
theorem calls_more {sh : Int → Option (Nat × Nat)} : ∀ (f g : Nat) (l : List Int) (cs : List (List (List Int))), f ≤ g → PyFlat.calls sh f l = some cs → PyFlat.calls sh g l = some cs
  | f, g, [], cs, _, h => by
    have e : PyFlat.calls sh f [] = some [] := by cases f <;> rfl
    rw [e] at h; rw [← h]; cases g <;> rfl
  | 0, g, p :: r, cs, _, h => by simp [PyFlat.calls] at h
  | f + 1, 0, p :: r, cs, hg, h => by omega
  | f + 1, g + 1, p :: r, cs, hg, h => by
    simp only [PyFlat.calls] at h ⊢
    cases e : PyFlat.call sh (p :: r) with
    | none => rw [e] at h; cases h
    | some ct =>
      obtain ⟨c, t⟩ := ct
      rw [e] at h
      simp only at h ⊢
      cases e2 : PyFlat.calls sh f t with
      | none => rw [e2] at h; cases h
      | some cs2 =>
        rw [e2] at h
        rw [calls_more f g t cs2 (by omega) e2]
        exact h
def Rdy (k : Nat) (s : S) (l : List Int) : Prop := ∃ f cs, PyFlat.calls PyKp179.shape f l = some cs ∧ cs.length ≤ k ∧ askedFrom s cs = true
def outs (s : S) (l : List Int) : List Int := match PyFlat.calls PyKp179.shape l.length l with
  | none => []
  | some cs => PyFlat.told (PyFlat.played step s cs)
def enc (x : Ans) : List Int := ((wrKp179_Ans x).length : Int) :: wrKp179_Ans x
theorem call_len {sh : Int → Option (Nat × Nat)} {l : List Int} {c : List (List Int)} {t : List Int} (h : PyFlat.call sh l = some (c, t)) (hs : ∀ p n k, sh p = some (n, k) → k = 0) :
    ∃ p r n, l = p :: r ∧ sh p = some (n, 0) ∧ n ≤ r.length ∧ c = [p :: r.take n] ∧ t = r.drop n := by
  cases l with
  | nil => simp [PyFlat.call] at h
  | cons p r =>
    simp only [PyFlat.call] at h
    cases e : sh p with
    | none => rw [e] at h; cases h
    | some nk =>
      obtain ⟨n, k⟩ := nk
      have hk := hs p n k e
      subst hk
      rw [e] at h
      simp only [PyFlat.rows] at h
      by_cases hl : r.length < n
      · rw [if_pos hl] at h; cases h
      · rw [if_neg hl] at h
        simp only [Option.some.injEq, Prod.mk.injEq] at h
        exact ⟨p, r, n, rfl, e, by omega, h.1.symm, h.2.symm⟩
theorem shape_all {p : Int} {n k : Nat} (h : PyKp179.shape p = some (n, k)) :
    k = 0 ∧ ((p = 0 ∧ n = 0) ∨ (p = 1 ∧ n = 8) ∨ (p = 2 ∧ n = 1) ∨ (p = 3 ∧ n = 11) ∨ (p = 4 ∧ n = 1) ∨ (p = 5 ∧ n = 0) ∨ (p = 6 ∧ n = 1) ∨ (p = 7 ∧ n = 1)) := by
  unfold PyKp179.shape at h
  by_cases h0 : p = 0
  · rw [if_pos h0] at h
    cases h
    exact ⟨rfl, .inl ⟨h0, rfl⟩⟩
  rw [if_neg h0] at h
  by_cases h1 : p = 1
  · rw [if_pos h1] at h
    cases h
    exact ⟨rfl, .inr (.inl ⟨h1, rfl⟩)⟩
  rw [if_neg h1] at h
  by_cases h2 : p = 2
  · rw [if_pos h2] at h
    cases h
    exact ⟨rfl, .inr (.inr (.inl ⟨h2, rfl⟩))⟩
  rw [if_neg h2] at h
  by_cases h3 : p = 3
  · rw [if_pos h3] at h
    cases h
    exact ⟨rfl, .inr (.inr (.inr (.inl ⟨h3, rfl⟩)))⟩
  rw [if_neg h3] at h
  by_cases h4 : p = 4
  · rw [if_pos h4] at h
    cases h
    exact ⟨rfl, .inr (.inr (.inr (.inr (.inl ⟨h4, rfl⟩))))⟩
  rw [if_neg h4] at h
  by_cases h5 : p = 5
  · rw [if_pos h5] at h
    cases h
    exact ⟨rfl, .inr (.inr (.inr (.inr (.inr (.inl ⟨h5, rfl⟩)))))⟩
  rw [if_neg h5] at h
  by_cases h6 : p = 6
  · rw [if_pos h6] at h
    cases h
    exact ⟨rfl, .inr (.inr (.inr (.inr (.inr (.inr (.inl ⟨h6, rfl⟩))))))⟩
  rw [if_neg h6] at h
  by_cases h7 : p = 7
  · rw [if_pos h7] at h
    cases h
    exact ⟨rfl, .inr (.inr (.inr (.inr (.inr (.inr (.inr ⟨h7, rfl⟩))))))⟩
  rw [if_neg h7] at h
  cases h
theorem shape0 (p : Int) (n k : Nat) (h : PyKp179.shape p = some (n, k)) : k = 0 := (shape_all h).1
theorem calls_fuel : ∀ (f : Nat) (l : List Int) (cs : List (List (List Int))), PyFlat.calls PyKp179.shape f l = some cs → PyFlat.calls PyKp179.shape l.length l = some cs
  | f, [], cs, h => by
    have e : PyFlat.calls PyKp179.shape f [] = some [] := by cases f <;> rfl
    rw [e] at h; rw [← h]; rfl
  | 0, p :: r, cs, h => by simp [PyFlat.calls] at h
  | f + 1, p :: r, cs, h => by
    simp only [PyFlat.calls] at h
    cases e : PyFlat.call PyKp179.shape (p :: r) with
    | none => rw [e] at h; cases h
    | some ct =>
      obtain ⟨c, t⟩ := ct
      rw [e] at h
      simp only at h
      cases e2 : PyFlat.calls PyKp179.shape f t with
      | none => rw [e2] at h; cases h
      | some cs2 =>
        rw [e2] at h
        obtain ⟨p', r', n, e3, _, hn, _, ht⟩ := call_len e shape0
        have h1 := calls_fuel f t cs2 e2
        injection e3 with e4 e5
        subst e4; subst e5; subst ht
        have h2 := calls_more (r.drop n).length r.length (r.drop n) cs2 (by rw [List.length_drop]; omega) h1
        show PyFlat.calls PyKp179.shape (r.length + 1) (p :: r) = some cs
        simp only [PyFlat.calls, e]
        rw [h2]; exact h
theorem outs_nil (s : S) : outs s [] = [] := rfl
theorem outs_of {s : S} {l : List Int} {cs : List (List (List Int))} {f : Nat} (h : PyFlat.calls PyKp179.shape f l = some cs) : outs s l = PyFlat.told (PyFlat.played step s cs) := by
  unfold outs
  rw [calls_fuel f l cs h]
theorem rdy_cons {k : Nat} {s : S} {p : Int} {r : List Int} (h : Rdy k s (p :: r)) : ∃ n x, PyKp179.shape p = some (n, 0) ∧ n ≤ r.length ∧ asked1 [p :: r.take n] = true ∧ callOf [p :: r.take n] = some x ∧ may s x = true ∧ 0 < k ∧
    Rdy (k - 1) (does s x).1 (r.drop n) ∧ outs s (p :: r) = enc (does s x).2 ++ outs (does s x).1 (r.drop n) := by
  obtain ⟨f, cs, h1, h2, h3⟩ := h
  cases f with
  | zero => simp [PyFlat.calls] at h1
  | succ f =>
    have h1' := h1
    simp only [PyFlat.calls] at h1
    cases e : PyFlat.call PyKp179.shape (p :: r) with
    | none => rw [e] at h1; cases h1
    | some ct =>
      obtain ⟨c, t⟩ := ct
      rw [e] at h1
      simp only at h1
      cases e2 : PyFlat.calls PyKp179.shape f t with
      | none => rw [e2] at h1; cases h1
      | some cs2 =>
        rw [e2] at h1
        obtain ⟨p', r', n, e3, hs, hn, hc, ht⟩ := call_len e shape0
        injection e3 with e4 e5
        subst e4; subst e5; subst ht; subst hc
        have e6 : cs = [p :: r.take n] :: cs2 := (Option.some.inj h1).symm
        subst e6
        simp only [askedFrom, Bool.and_eq_true] at h3
        obtain ⟨⟨a1, a2⟩, a3⟩ := h3
        cases ex : callOf [p :: r.take n] with
        | none => rw [ex] at a2; cases a2
        | some x =>
          rw [ex] at a2
          have es : step s [p :: r.take n] = ((does s x).1, wrKp179_Ans (does s x).2) := by
            unfold step; rw [ex]
          rw [es] at a3
          refine ⟨n, x, hs, hn, a1, ex, a2, ?_, ⟨f, cs2, e2, ?_, a3⟩, ?_⟩
          · simp only [List.length_cons] at h2; omega
          · simp only [List.length_cons] at h2; omega
          · rw [outs_of h1', outs_of e2]
            simp only [PyFlat.played, PyFlat.told, List.flatMap_cons, es]
            rfl
theorem natural_iff {z : Int} {b : Nat} : natural z b = true ↔ 0 ≤ z ∧ z < 2 ^ b := by
  unfold natural
  rw [Bool.and_eq_true, decide_eq_true_iff, decide_eq_true_iff]
theorem may_some {a : Abs} {x : Kp179.Call} (h : may (some a) x = true) : Pre x := by
  unfold may at h
  rw [Bool.and_eq_true] at h
  exact @of_decide_eq_true _ (preDec x) h.2
theorem may_none {x : Kp179.Call} (h : may none x = true) : starts x = true := by
  unfold may at h
  rw [Bool.and_eq_true] at h
  simpa using h.1
theorem shape_cases {p : Int} {n : Nat} (h : PyKp179.shape p = some (n, 0)) :
    (p = 0 ∧ n = 0) ∨ (p = 1 ∧ n = 8) ∨ (p = 2 ∧ n = 1) ∨ (p = 3 ∧ n = 11) ∨ (p = 4 ∧ n = 1) ∨ (p = 5 ∧ n = 0) ∨ (p = 6 ∧ n = 1) ∨ (p = 7 ∧ n = 1) := (shape_all h).2
theorem len_cons {r : List Int} {n : Nat} (h : n + 1 ≤ r.length) : ∃ x t, r = x :: t ∧ n ≤ t.length := by
  cases r with
  | nil => simp at h
  | cons x t => exact ⟨x, t, rfl, by simpa using h⟩
theorem whole_of {p : Int} {r : List Int} {n : Nat} (hs : PyKp179.shape p = some (n, 0)) (hn : n ≤ r.length) : PyKp179.whole [p :: r.take n] = [p :: r.take n] := by
  rcases shape_cases hs with ⟨rfl, rfl⟩ | ⟨rfl, rfl⟩ | ⟨rfl, rfl⟩ | ⟨rfl, rfl⟩ | ⟨rfl, rfl⟩ | ⟨rfl, rfl⟩ | ⟨rfl, rfl⟩ | ⟨rfl, rfl⟩
  · rfl
  · obtain ⟨x0, r, rfl, hn0⟩ := len_cons hn
    obtain ⟨x1, r, rfl, hn1⟩ := len_cons hn0
    obtain ⟨x2, r, rfl, hn2⟩ := len_cons hn1
    obtain ⟨x3, r, rfl, hn3⟩ := len_cons hn2
    obtain ⟨x4, r, rfl, hn4⟩ := len_cons hn3
    obtain ⟨x5, r, rfl, hn5⟩ := len_cons hn4
    obtain ⟨x6, r, rfl, hn6⟩ := len_cons hn5
    obtain ⟨x7, r, rfl, hn7⟩ := len_cons hn6
    rfl
  · obtain ⟨x0, r, rfl, hn0⟩ := len_cons hn
    rfl
  · obtain ⟨x0, r, rfl, hn0⟩ := len_cons hn
    obtain ⟨x1, r, rfl, hn1⟩ := len_cons hn0
    obtain ⟨x2, r, rfl, hn2⟩ := len_cons hn1
    obtain ⟨x3, r, rfl, hn3⟩ := len_cons hn2
    obtain ⟨x4, r, rfl, hn4⟩ := len_cons hn3
    obtain ⟨x5, r, rfl, hn5⟩ := len_cons hn4
    obtain ⟨x6, r, rfl, hn6⟩ := len_cons hn5
    obtain ⟨x7, r, rfl, hn7⟩ := len_cons hn6
    obtain ⟨x8, r, rfl, hn8⟩ := len_cons hn7
    obtain ⟨x9, r, rfl, hn9⟩ := len_cons hn8
    obtain ⟨x10, r, rfl, hn10⟩ := len_cons hn9
    rfl
  · obtain ⟨x0, r, rfl, hn0⟩ := len_cons hn
    rfl
  · rfl
  · obtain ⟨x0, r, rfl, hn0⟩ := len_cons hn
    rfl
  · obtain ⟨x0, r, rfl, hn0⟩ := len_cons hn
    rfl
theorem whole_map : ∀ (f : Nat) (l : List Int) (cs : List (List (List Int))), PyFlat.calls PyKp179.shape f l = some cs → cs.map PyKp179.whole = cs
  | f, [], cs, h => by
    have e : PyFlat.calls PyKp179.shape f [] = some [] := by cases f <;> rfl
    rw [e] at h
    cases h
    rfl
  | 0, p :: r, cs, h => by
    have h' : (none : Option (List (List (List Int)))) = some cs := h
    cases h'
  | f + 1, p :: r, cs, h => by
    have h' : (match PyFlat.call PyKp179.shape (p :: r) with
      | none => none
      | some (c, t) => match PyFlat.calls PyKp179.shape f t with
        | none => none
        | some cs => some (c :: cs)) = some cs := h
    cases e : PyFlat.call PyKp179.shape (p :: r) with
    | none =>
      rw [e] at h'
      cases h'
    | some ct =>
      obtain ⟨c, t⟩ := ct
      rw [e] at h'
      dsimp only at h'
      cases e2 : PyFlat.calls PyKp179.shape f t with
      | none =>
        rw [e2] at h'
        cases h'
      | some cs2 =>
        rw [e2] at h'
        cases h'
        obtain ⟨p', r', n, e3, hs, hn, hc, _⟩ := call_len e shape0
        rw [List.map_cons, whole_map f t cs2 e2, hc, whole_of hs hn]
theorem out_none {k : Nat} {l : List Int} (h : Rdy k none l) (hl : l ≠ []) : Rdy k (some start) l ∧ outs none l = outs (some start) l := by
  cases l with
  | nil => exact absurd rfl hl
  | cons p r =>
    obtain ⟨f, cs, h1, h2, h3⟩ := h
    cases cs with
    | nil =>
      cases f with
      | zero => simp [PyFlat.calls] at h1
      | succ f =>
        simp only [PyFlat.calls] at h1
        repeat' split at h1
        all_goals simp at h1
    | cons c cs =>
      simp only [askedFrom, Bool.and_eq_true] at h3
      obtain ⟨⟨a1, a2⟩, a3⟩ := h3
      cases ex : callOf c with
      | none => rw [ex] at a2; cases a2
      | some x =>
        rw [ex] at a2
        have hst := may_none a2
        have hx : x = .start := by cases x <;> simp_all [starts]
        subst hx
        have e1 : step none c = (some Kp179.start, [0, 0]) := by
          unfold step; rw [ex]; rfl
        have e2 : step (some Kp179.start) c = (some Kp179.start, [0, 0]) := by
          unfold step; rw [ex]; rfl
        rw [e1] at a3
        refine ⟨⟨f, c :: cs, h1, h2, ?_⟩, ?_⟩
        · simp only [askedFrom, Bool.and_eq_true, e2]
          refine ⟨⟨a1, ?_⟩, a3⟩
          rw [ex]
          rfl
        · rw [outs_of h1, outs_of h1]
          simp only [PyFlat.played, e1, e2]
theorem asked_rdy {l : List Int} (h : PyKp179.answers_asked l = true) : l ≠ [] ∧ Rdy 600 (some Kp179.start) l ∧ PyKp179.answers l = outs (some Kp179.start) l := by
  unfold PyKp179.answers_asked PyKp179.calls at h
  cases e : PyFlat.calls PyKp179.shape l.length l with
  | none => rw [e] at h; cases h
  | some cs =>
    rw [e] at h
    have h : (PyFlat.atMost 600 (cs.map PyKp179.whole) && Kp179Neutral.asked (cs.map PyKp179.whole)) = true := h
    rw [whole_map _ _ _ e] at h
    unfold PyFlat.atMost Kp179Neutral.asked at h
    rw [Bool.and_eq_true, Bool.and_eq_true, Bool.and_eq_true, decide_eq_true_eq, decide_eq_true_eq] at h
    obtain ⟨h1, h2, h3, h4⟩ := h
    have hl : l ≠ [] := by
      rintro rfl
      have : cs = [] := (Option.some.inj e).symm
      subst this
      simp at h2
    have hr : Rdy 600 none l := ⟨l.length, cs, e, h1, h4⟩
    obtain ⟨q1, q2⟩ := out_none hr hl
    refine ⟨hl, q1, ?_⟩
    rw [← q2, outs_of e]
    unfold PyKp179.answers PyKp179.calls
    rw [e]
    show PyFlat.told (PyFlat.played step Kp179Neutral.start (cs.map PyKp179.whole)) = _
    rw [whole_map _ _ _ e]
    rfl
inductive Head : List Int → Kp179.Call → List Int → Prop
  | start (r) : Head (0 :: r) .start r
  | machine (i a b c d l z n : Nat) (r) : i < 2 ^ 32 → a < 2 ^ 32 → b < 2 ^ 32 → c < 2 ^ 32 → d < 2 ^ 32 → l < 2 ^ 16 → z < 2 ^ 63 → n < 2 ^ 63 →
      Head (1 :: (i : Int) :: (a : Int) :: (b : Int) :: (c : Int) :: (d : Int) :: (l : Int) :: (z : Int) :: (n : Int) :: r) (.machine i ⟨⟨a, b, c, d⟩, l, z, n⟩) r
  | down (i : Nat) (r) : i < 2 ^ 63 → Head (2 :: (i : Int) :: r) (.down i) r
  | job (j a b c d ne nv co ap sp rk : Nat) (r) : j < 2 ^ 32 → a < 2 ^ 32 → b < 2 ^ 32 → c < 2 ^ 32 → d < 2 ^ 32 → ne < 2 ^ 16 → nv < 2 ^ 16 → co < 2 ^ 63 → ap < 2 ^ 63 → sp < 2 ^ 63 → rk < 2 ^ 63 →
      Head (3 :: (j : Int) :: (a : Int) :: (b : Int) :: (c : Int) :: (d : Int) :: (ne : Int) :: (nv : Int) :: (co : Int) :: (ap : Int) :: (sp : Int) :: (rk : Int) :: r) (.job j ⟨⟨a, b, c, d⟩, ne, nv, co, ap, sp, rk⟩) r
  | end_ (j : Nat) (r) : j < 2 ^ 63 → Head (4 :: (j : Int) :: r) (.end_ j) r
  | turn (r) : Head (5 :: r) .turn r
  | where_ (j : Nat) (r) : j < 2 ^ 63 → Head (6 :: (j : Int) :: r) (.where_ j) r
  | free (i : Nat) (r) : i < 2 ^ 63 → Head (7 :: (i : Int) :: r) (.free i) r
theorem to_nat {z : Int} {b : Nat} (h : natural z b = true) : ∃ n : Nat, z = (n : Int) ∧ n < 2 ^ b := by
  obtain ⟨h1, h2⟩ := natural_iff.mp h
  refine ⟨z.toNat, by omega, ?_⟩
  have : ((2 ^ b : Nat) : Int) = (2 : Int) ^ b := by simp
  omega
theorem head_of {k : Nat} {a : Abs} {p : Int} {r : List Int} (h : Rdy k (some a) (p :: r)) : ∃ x t, Head (p :: r) x t ∧ t.length ≤ r.length ∧ 0 < k ∧ Rdy (k - 1) (some (act a x).1) t ∧ outs (some a) (p :: r) = enc (act a x).2 ++ outs (some (act a x).1) t := by
  obtain ⟨n, x, hs, hn, ha, hc, hm, hk, h1, h2⟩ := rdy_cons h
  have hp := may_some hm
  refine ⟨x, r.drop n, ?_, by rw [List.length_drop]; omega, hk, h1, h2⟩
  rcases shape_cases hs with ⟨rfl, rfl⟩ | ⟨rfl, rfl⟩ | ⟨rfl, rfl⟩ | ⟨rfl, rfl⟩ | ⟨rfl, rfl⟩ | ⟨rfl, rfl⟩ | ⟨rfl, rfl⟩ | ⟨rfl, rfl⟩
  · cases (show some Kp179.Call.start = some x from hc)
    exact .start r
  · obtain ⟨x0, r, rfl, hn0⟩ := len_cons hn
    obtain ⟨x1, r, rfl, hn1⟩ := len_cons hn0
    obtain ⟨x2, r, rfl, hn2⟩ := len_cons hn1
    obtain ⟨x3, r, rfl, hn3⟩ := len_cons hn2
    obtain ⟨x4, r, rfl, hn4⟩ := len_cons hn3
    obtain ⟨x5, r, rfl, hn5⟩ := len_cons hn4
    obtain ⟨x6, r, rfl, hn6⟩ := len_cons hn5
    obtain ⟨x7, r, rfl, hn7⟩ := len_cons hn6
    have ha : (natural x0 63 && natural x1 63 && natural x2 63 && natural x3 63 && natural x4 63 && natural x5 63 && natural x6 63 && natural x7 63) = true := ha
    have hc : some (Kp179.Call.machine x0.toNat ⟨⟨x1.toNat, x2.toNat, x3.toNat, x4.toNat⟩, x5.toNat, x6.toNat, x7.toNat⟩) = some x := hc
    simp only [Bool.and_eq_true] at ha
    obtain ⟨⟨⟨⟨⟨⟨⟨a0, a1⟩, a2⟩, a3⟩, a4⟩, a5⟩, a6⟩, a7⟩ := ha
    obtain ⟨n0, rfl, b0⟩ := to_nat a0
    obtain ⟨n1, rfl, b1⟩ := to_nat a1
    obtain ⟨n2, rfl, b2⟩ := to_nat a2
    obtain ⟨n3, rfl, b3⟩ := to_nat a3
    obtain ⟨n4, rfl, b4⟩ := to_nat a4
    obtain ⟨n5, rfl, b5⟩ := to_nat a5
    obtain ⟨n6, rfl, b6⟩ := to_nat a6
    obtain ⟨n7, rfl, b7⟩ := to_nat a7
    cases hc
    simp only [Int.toNat_natCast] at hp ⊢
    obtain ⟨p1, ⟨p2, p3, p4, p5⟩, p6⟩ := hp
    exact .machine _ _ _ _ _ _ _ _ _ p1 p2 p3 p4 p5 p6 b6 b7
  · obtain ⟨x0, r, rfl, hn0⟩ := len_cons hn
    obtain ⟨n0, rfl, b0⟩ := to_nat (show natural x0 63 = true from ha)
    cases (show some (Kp179.Call.down n0) = some x from hc)
    exact .down _ _ b0
  · obtain ⟨x0, r, rfl, hn0⟩ := len_cons hn
    obtain ⟨x1, r, rfl, hn1⟩ := len_cons hn0
    obtain ⟨x2, r, rfl, hn2⟩ := len_cons hn1
    obtain ⟨x3, r, rfl, hn3⟩ := len_cons hn2
    obtain ⟨x4, r, rfl, hn4⟩ := len_cons hn3
    obtain ⟨x5, r, rfl, hn5⟩ := len_cons hn4
    obtain ⟨x6, r, rfl, hn6⟩ := len_cons hn5
    obtain ⟨x7, r, rfl, hn7⟩ := len_cons hn6
    obtain ⟨x8, r, rfl, hn8⟩ := len_cons hn7
    obtain ⟨x9, r, rfl, hn9⟩ := len_cons hn8
    obtain ⟨x10, r, rfl, hn10⟩ := len_cons hn9
    have ha : (natural x0 63 && natural x1 63 && natural x2 63 && natural x3 63 && natural x4 63 && natural x5 63 && natural x6 63 && natural x7 63 && natural x8 63 && natural x9 63 && natural x10 63) = true := ha
    have hc : some (Kp179.Call.job x0.toNat ⟨⟨x1.toNat, x2.toNat, x3.toNat, x4.toNat⟩, x5.toNat, x6.toNat, x7.toNat, x8.toNat, x9.toNat, x10.toNat⟩) = some x := hc
    simp only [Bool.and_eq_true] at ha
    obtain ⟨⟨⟨⟨⟨⟨⟨⟨⟨⟨a0, a1⟩, a2⟩, a3⟩, a4⟩, a5⟩, a6⟩, a7⟩, a8⟩, a9⟩, a10⟩ := ha
    obtain ⟨n0, rfl, b0⟩ := to_nat a0
    obtain ⟨n1, rfl, b1⟩ := to_nat a1
    obtain ⟨n2, rfl, b2⟩ := to_nat a2
    obtain ⟨n3, rfl, b3⟩ := to_nat a3
    obtain ⟨n4, rfl, b4⟩ := to_nat a4
    obtain ⟨n5, rfl, b5⟩ := to_nat a5
    obtain ⟨n6, rfl, b6⟩ := to_nat a6
    obtain ⟨n7, rfl, b7⟩ := to_nat a7
    obtain ⟨n8, rfl, b8⟩ := to_nat a8
    obtain ⟨n9, rfl, b9⟩ := to_nat a9
    obtain ⟨n10, rfl, b10⟩ := to_nat a10
    cases hc
    simp only [Int.toNat_natCast] at hp ⊢
    obtain ⟨p1, ⟨p2, p3, p4, p5⟩, p6, p7⟩ := hp
    exact .job _ _ _ _ _ _ _ _ _ _ _ _ p1 p2 p3 p4 p5 p6 p7 b7 b8 b9 b10
  · obtain ⟨x0, r, rfl, hn0⟩ := len_cons hn
    obtain ⟨n0, rfl, b0⟩ := to_nat (show natural x0 63 = true from ha)
    cases (show some (Kp179.Call.end_ n0) = some x from hc)
    exact .end_ _ _ b0
  · cases (show some Kp179.Call.turn = some x from hc)
    exact .turn r
  · obtain ⟨x0, r, rfl, hn0⟩ := len_cons hn
    obtain ⟨n0, rfl, b0⟩ := to_nat (show natural x0 63 = true from ha)
    cases (show some (Kp179.Call.where_ n0) = some x from hc)
    exact .where_ _ _ b0
  · obtain ⟨x0, r, rfl, hn0⟩ := len_cons hn
    obtain ⟨n0, rfl, b0⟩ := to_nat (show natural x0 63 = true from ha)
    cases (show some (Kp179.Call.free n0) = some x from hc)
    exact .free _ _ b0
end Jo
end
section
set_option autoImplicit false
namespace Jo
open Kp179
open Kp178 (Four Machine Job)
abbrev z4 : Four := ⟨0, 0, 0, 0⟩
def Le4 (x y : Four) : Prop := x.a ≤ y.a ∧ x.b ≤ y.b ∧ x.c ≤ y.c ∧ x.d ≤ y.d
theorem four_ext {x y : Four} (h1 : x.a = y.a) (h2 : x.b = y.b) (h3 : x.c = y.c) (h4 : x.d = y.d) : x = y := by
  cases x; cases y; simp_all
theorem plus_zero (x : Four) : x.plus z4 = x := rfl
theorem zero_plus (x : Four) : z4.plus x = x := by
  apply four_ext <;> simp [Four.plus]
theorem plus_assoc (x y z : Four) : (x.plus y).plus z = x.plus (y.plus z) := by
  apply four_ext <;> simp only [Four.plus] <;> omega
theorem plus_comm (x y : Four) : x.plus y = y.plus x := by
  apply four_ext <;> simp only [Four.plus] <;> omega
theorem times_zero (x : Four) : x.times 0 = z4 := by
  apply four_ext <;> simp [Four.times]
def S4 (f : Nat → Four) : List Nat → Four
  | [] => z4
  | j :: l => (f j).plus (S4 f l)
theorem foldl_S4 (f : Nat → Four) : ∀ (l : List Nat) (v : Four), l.foldl (fun v j => v.plus (f j)) v = v.plus (S4 f l)
  | [], v => rfl
  | j :: l, v => by rw [List.foldl_cons, foldl_S4 f l]; rw [plus_assoc]; rfl
theorem S4_congr {f g : Nat → Four} : ∀ {l : List Nat}, (∀ j ∈ l, f j = g j) → S4 f l = S4 g l
  | [], _ => rfl
  | j :: l, h => by
    rw [S4, S4, h j (List.mem_cons_self), S4_congr (l := l) fun k hk => h k (List.mem_cons_of_mem _ hk)]
theorem S4_zero : ∀ (l : List Nat), S4 (fun _ => z4) l = z4
  | [] => rfl
  | j :: l => by rw [S4, S4_zero l]; rfl
theorem S4_filter (f : Nat → Four) (p : Nat → Bool) : ∀ (l : List Nat), S4 f (l.filter p) = S4 (fun j => if p j then f j else z4) l
  | [] => rfl
  | j :: l => by
    by_cases h : p j = true
    · rw [List.filter_cons_of_pos h, S4, S4, S4_filter f p l, if_pos h]
    · rw [List.filter_cons_of_neg h, S4, S4_filter f p l, if_neg h, zero_plus]
theorem S4_plus (f g : Nat → Four) : ∀ (l : List Nat), S4 (fun j => (f j).plus (g j)) l = (S4 f l).plus (S4 g l)
  | [] => rfl
  | j :: l => by
    rw [S4, S4, S4, S4_plus f g l]
    apply four_ext <;> simp only [Four.plus] <;> omega
theorem S4_one (f : Nat → Four) (k : Nat) : ∀ (l : List Nat), l.Nodup → S4 (fun j => if j = k then f j else z4) l = if k ∈ l then f k else z4
  | [], _ => rfl
  | j :: l, h => by
    have h' := List.nodup_cons.mp h
    rw [S4, S4_one f k l h'.2]
    by_cases e : j = k
    · subst e
      rw [if_pos rfl, if_neg h'.1, if_pos List.mem_cons_self, plus_zero]
    · rw [if_neg e, zero_plus]
      by_cases m : k ∈ l
      · rw [if_pos m, if_pos (List.mem_cons_of_mem _ m)]
      · rw [if_neg m, if_neg (fun q => by rcases List.mem_cons.mp q with q | q; exact e q.symm; exact m q)]
theorem S4_le {f g : Nat → Four} : ∀ {l : List Nat}, (∀ j ∈ l, Le4 (f j) (g j)) → Le4 (S4 f l) (S4 g l)
  | [], _ => ⟨Nat.le_refl _, Nat.le_refl _, Nat.le_refl _, Nat.le_refl _⟩
  | j :: l, h => by
    have h1 := h j List.mem_cons_self
    have h2 := S4_le (l := l) fun k hk => h k (List.mem_cons_of_mem _ hk)
    rw [S4, S4]
    simp only [Le4, Four.plus] at *
    omega
theorem Le4.refl (x : Four) : Le4 x x := ⟨Nat.le_refl _, Nat.le_refl _, Nat.le_refl _, Nat.le_refl _⟩
theorem Le4.trans {x y z : Four} (h : Le4 x y) (k : Le4 y z) : Le4 x z := by
  simp only [Le4] at *; omega
theorem Le4.zero (x : Four) : Le4 z4 x := ⟨Nat.zero_le _, Nat.zero_le _, Nat.zero_le _, Nat.zero_le _⟩
theorem mem_there {α : Type} {l : List (Option α)} {k : Nat} : k ∈ there l ↔ ((l[k]?).join).isSome = true := by
  unfold there
  rw [List.mem_filter, List.mem_range]
  constructor
  · intro h; exact h.2
  · intro h
    refine ⟨?_, h⟩
    cases e : l[k]? with
    | none => rw [e] at h; simp at h
    | some x => exact (List.getElem?_eq_some_iff.mp e).1
theorem there_nodup {α : Type} (l : List (Option α)) : (there l).Nodup := List.Pairwise.filter _ List.nodup_range
theorem there_sorted {α : Type} (l : List (Option α)) : (there l).Pairwise (· < ·) := List.Pairwise.filter _ List.pairwise_lt_range
def onJ (a : Abs) (i j : Nat) : Four := match job a j with
  | some r => onIt r i
  | none => z4
theorem takenBut_eq (a : Abs) (out : List Nat) (i : Nat) : takenBut a out i = S4 (onJ a i) ((there a.jobs).filter fun j => !out.contains j) := by
  unfold takenBut
  have e : (fun (v : Four) j => match job a j with
      | some r => v.plus (onIt r i)
      | none => v) = fun v j => v.plus (onJ a i j) := by
    funext v j
    unfold onJ
    cases job a j <;> rfl
  refine (congrArg (fun F : Four → Nat → Four => List.foldl F z4 ((there a.jobs).filter fun j => !out.contains j)) e).trans ?_
  show List.foldl (fun v j => v.plus (onJ a i j)) z4 _ = _
  rw [foldl_S4, zero_plus]
theorem takenBut_if (a : Abs) (out : List Nat) (i : Nat) : takenBut a out i = S4 (fun j => if out.contains j then z4 else onJ a i j) (there a.jobs) := by
  rw [takenBut_eq, S4_filter]
  refine S4_congr fun j _ => ?_
  by_cases h : out.contains j = true
  · rw [if_pos h, if_neg (by simp only [Bool.not_eq_true', Bool.not_eq_false]; exact h)]
  · rw [if_neg h, if_pos (by simpa using h)]
theorem taken_eq (a : Abs) (i : Nat) : takenBut a [] i = S4 (onJ a i) (there a.jobs) := by
  rw [takenBut_if]
  exact S4_congr fun j _ => by simp
theorem job_set {a : Abs} {ms : List (Option Machine)} {c : Nat} {j : Nat} {o : Option Run} (hj : j < a.jobs.length) (k : Nat) : job ⟨ms, a.jobs.set j o, c⟩ k = if k = j then o else job a k := by
  unfold job
  by_cases e : k = j
  · subst e
    rw [if_pos rfl]
    simp [List.getElem?_set_self hj]
  · rw [if_neg e]
    simp [List.getElem?_set_ne (Ne.symm e)]
theorem machine_set {a : Abs} {js : List (Option Run)} {c : Nat} {i : Nat} {o : Option Machine} (hi : i < a.machines.length) (k : Nat) : machine ⟨a.machines.set i o, js, c⟩ k = if k = i then o else machine a k := by
  unfold machine
  by_cases e : k = i
  · subst e
    rw [if_pos rfl]
    simp [List.getElem?_set_self hi]
  · rw [if_neg e]
    simp [List.getElem?_set_ne (Ne.symm e)]
theorem job_change (a : Abs) (j : Nat) (f : Run → Run) (k : Nat) : job (change a j f) k = if k = j then (job a k).map f else job a k := by
  unfold job change
  simp only [List.getElem?_map, List.getElem?_zipIdx]
  cases e : a.jobs[k]? with
  | none => simp
  | some x =>
    simp only [Option.map_some, Nat.zero_add, Option.join_some]
theorem change_len (a : Abs) (j : Nat) (f : Run → Run) : (change a j f).jobs.length = a.jobs.length := by
  unfold change; simp
theorem out_len : ∀ (l : List Nat) (a : Abs), (out a l).jobs.length = a.jobs.length
  | [], a => rfl
  | j :: l, a => by
    show (out (change a j _) l).jobs.length = _
    rw [out_len l, change_len]
theorem out_machines : ∀ (l : List Nat) (a : Abs), (out a l).machines = a.machines
  | [], a => rfl
  | j :: l, a => by
    show (out (change a j _) l).machines = _
    rw [out_machines l]; rfl
theorem out_clock : ∀ (l : List Nat) (a : Abs), (out a l).clock = a.clock
  | [], a => rfl
  | j :: l, a => by
    show (out (change a j _) l).clock = _
    rw [out_clock l]; rfl
theorem job_out : ∀ (l : List Nat) (a : Abs) (k : Nat), job (out a l) k = if k ∈ l then (job a k).map (fun r => { r with at_ := none }) else job a k
  | [], a, k => by simp [out]
  | j :: l, a, k => by
    show job (out (change a j _) l) k = _
    rw [job_out l, job_change]
    by_cases h : k = j
    · subst h
      rw [if_pos rfl, if_pos List.mem_cons_self]
      split
      · cases job a k <;> rfl
      · rfl
    · rw [if_neg h]
      by_cases m : k ∈ l
      · rw [if_pos m, if_pos (List.mem_cons_of_mem _ m)]
      · rw [if_neg m, if_neg (fun q => by rcases List.mem_cons.mp q with q | q; exact h q; exact m q)]
theorem mem_there_jobs {a : Abs} {j : Nat} : j ∈ there a.jobs ↔ (job a j).isSome = true := mem_there
theorem mem_there_machines {a : Abs} {i : Nat} : i ∈ there a.machines ↔ (machine a i).isSome = true := mem_there
end Jo
end
section
set_option autoImplicit false
namespace Jo
open Kp179
open Kp178 (Four Machine Job goodMachine goodJob holds zoneLeft fill places place lets)
theorem minfold_le : ∀ (l : List (Nat × Nat)) (v : Nat), l.foldl (fun v x => if x.2 = 0 then v else min v (x.1 / x.2)) v ≤ v
  | [], v => Nat.le_refl _
  | x :: l, v => by
    rw [List.foldl_cons]
    refine Nat.le_trans (minfold_le l _) ?_
    split
    · exact Nat.le_refl _
    · exact Nat.min_le_left _ _
theorem minfold_mem : ∀ (l : List (Nat × Nat)) (v : Nat) (x : Nat × Nat), x ∈ l → x.2 ≠ 0 → l.foldl (fun v x => if x.2 = 0 then v else min v (x.1 / x.2)) v ≤ x.1 / x.2
  | y :: l, v, x, h, h0 => by
    rw [List.foldl_cons]
    rcases List.mem_cons.mp h with rfl | h
    · rw [if_neg h0]
      exact Nat.le_trans (minfold_le l _) (Nat.min_le_right _ _)
    · exact minfold_mem l _ x h h0
theorem le_div_mul {c x y : Nat} (h : y ≠ 0 → c ≤ x / y) : c * y ≤ x := by
  by_cases e : y = 0
  · subst e; simp
  · exact (Nat.le_div_iff_mul_le (Nat.pos_of_ne_zero e)).mp (h e)
theorem holds_le (m : Machine) (j : Job) (most : Nat) : holds m j most ≤ most := by
  unfold holds
  split
  · exact Nat.zero_le _
  · dsimp only
    split
    · exact Nat.le_trans (Nat.min_le_left _ _) (minfold_le _ _)
    · exact minfold_le _ _
theorem holds_fold (m : Machine) (j : Job) (most : Nat) : holds m j most ≤ (List.zip m.has.list j.wants.list).foldl (fun v x => if x.2 = 0 then v else min v (x.1 / x.2)) most := by
  unfold holds
  split
  · exact Nat.zero_le _
  · dsimp only
    split
    · exact Nat.min_le_left _ _
    · exact Nat.le_refl _
theorem holds_fit {m : Machine} {j : Job} {most c : Nat} (h : c ≤ holds m j most) : Le4 (j.wants.times c) m.has := by
  have h' := Nat.le_trans h (holds_fold m j most)
  have key : ∀ x : Nat × Nat, x ∈ List.zip m.has.list j.wants.list → c * x.2 ≤ x.1 := fun x hx => le_div_mul fun h0 => Nat.le_trans h' (minfold_mem _ _ x hx h0)
  simp only [Four.list, List.zip_cons_cons, List.zip_nil_left, List.mem_cons, List.not_mem_nil, or_false, forall_eq_or_imp, forall_eq] at key
  exact key
theorem on_append (p q : List Nat) (k : Nat) : Kp178.on (p ++ q) k = Kp178.on p k + Kp178.on q k := by
  unfold Kp178.on
  rw [List.filter_append, List.length_append]
theorem on_rep (c k i : Nat) : Kp178.on (List.replicate c k) i = if i = k then c else 0 := by
  unfold Kp178.on
  by_cases e : i = k
  · subst e
    rw [if_pos rfl, List.filter_replicate_of_pos (by simp), List.length_replicate]
  · rw [if_neg e, List.filter_replicate_of_neg (by simpa using Ne.symm e)]
    rfl
theorem on_none {p : List Nat} {k : Nat} (h : k ∉ p) : Kp178.on p k = 0 := by
  unfold Kp178.on
  rw [List.length_eq_zero_iff, List.filter_eq_nil_iff]
  intro x hx
  have : x ≠ k := fun e => h (e ▸ hx)
  simpa using this
theorem fill_mem {j : Job} : ∀ {l : List Machine} {k left : Nat} {used : List Nat} {x : Nat}, x ∈ fill j k left used l → k ≤ x ∧ x < k + l.length
  | [], k, left, used, x, h => by simp [fill] at h
  | m :: l, k, left, used, x, h => by
    simp only [fill, List.mem_append, List.mem_replicate] at h
    rcases h with ⟨_, rfl⟩ | h
    · simp
    · have := fill_mem h
      simp only [List.length_cons]
      omega
theorem fill_len {j : Job} : ∀ {l : List Machine} {k left : Nat} {used : List Nat}, (fill j k left used l).length ≤ left
  | [], k, left, used => Nat.zero_le _
  | m :: l, k, left, used => by
    simp only [fill, List.length_append, List.length_replicate]
    have h1 := fill_len (j := j) (l := l) (k := k + 1) (left := left - min (holds m j left) (zoneLeft j used m.zone left)) (used := used.set m.zone (used.getD m.zone 0 + min (holds m j left) (zoneLeft j used m.zone left)))
    have h2 := holds_le m j left
    have h3 : min (holds m j left) (zoneLeft j used m.zone left) ≤ holds m j left := Nat.min_le_left _ _
    omega
theorem fill_fit {j : Job} : ∀ {l : List Machine} {k left : Nat} {used : List Nat} {i : Nat} {m : Machine}, l[i]? = some m → Le4 (j.wants.times (Kp178.on (fill j k left used l) (k + i))) m.has
  | [], k, left, used, i, m, h => by simp at h
  | m :: l, k, left, used, 0, m', h => by
    simp only [List.getElem?_cons_zero, Option.some.injEq] at h
    subst h
    simp only [fill, Nat.add_zero]
    rw [on_append, on_rep, if_pos rfl, on_none (fun q => by have := fill_mem q; omega), Nat.add_zero]
    exact holds_fit (Nat.min_le_left _ _)
  | m :: l, k, left, used, i + 1, m', h => by
    simp only [List.getElem?_cons_succ] at h
    simp only [fill]
    rw [on_append, on_rep, if_neg (by omega), Nat.zero_add]
    have e : k + (i + 1) = k + 1 + i := by omega
    rw [e]
    exact fill_fit h
theorem place_some {l : List Machine} {j : Job} {p : List Nat} (h : place l j = some p) : p.length = j.copies ∧ p = fill j 0 j.copies (List.replicate 8 0) l := by
  unfold place at h
  dsimp only at h
  split at h
  · rename_i e
    have := Option.some.inj h
    subst this
    exact ⟨e, rfl⟩
  · cases h
theorem room_fst (a : Abs) (out : List Nat) : (roomBut a out).map Prod.fst = there a.machines := by
  unfold roomBut
  have : ∀ l : List Nat, (∀ i ∈ l, (machine a i).isSome = true) → (l.filterMap fun i => (machine a i).map fun m => (i, { m with has := m.has.less (takenBut a out i) })).map Prod.fst = l := by
    intro l
    induction l with
    | nil => intro _; rfl
    | cons i l ih =>
      intro h
      have h1 := h i List.mem_cons_self
      cases e : machine a i with
      | none => rw [e] at h1; simp at h1
      | some m =>
        rw [List.filterMap_cons_some (by rw [e]; rfl), List.map_cons, ih fun k hk => h k (List.mem_cons_of_mem _ hk)]
  exact this _ fun i hi => mem_there_machines.mp hi
def roomAt (a : Abs) (out : List Nat) (i : Nat) : Machine := match machine a i with
  | some m => { m with has := m.has.less (takenBut a out i) }
  | none => ⟨z4, 0, 0, 0⟩
theorem room_eq (a : Abs) (out : List Nat) : roomBut a out = (there a.machines).map fun i => (i, roomAt a out i) := by
  unfold roomBut
  have : ∀ l : List Nat, (∀ i ∈ l, (machine a i).isSome = true) → (l.filterMap fun i => (machine a i).map fun m => (i, { m with has := m.has.less (takenBut a out i) })) = l.map fun i => (i, roomAt a out i) := by
    intro l
    induction l with
    | nil => intro _; rfl
    | cons i l ih =>
      intro h
      have h1 := h i List.mem_cons_self
      cases e : machine a i with
      | none => rw [e] at h1; simp at h1
      | some m =>
        rw [List.filterMap_cons_some (by rw [e]; rfl), List.map_cons, ih fun k hk => h k (List.mem_cons_of_mem _ hk)]
        have : roomAt a out i = { m with has := m.has.less (takenBut a out i) } := by unfold roomAt; rw [e]
        rw [this]
  exact this _ fun i hi => mem_there_machines.mp hi
theorem canHave_eq (a : Abs) (q : Job) (out : List Nat) : canHave a q out = (place ((there a.machines).map (roomAt a out)) q).map fun p => p.map fun k => (there a.machines).getD k 0 := by
  unfold canHave
  dsimp only
  rw [room_fst, room_eq, List.map_map]
  rfl
theorem on_map {T : List Nat} (hT : T.Nodup) {p : List Nat} (hp : ∀ x ∈ p, x < T.length) {k i : Nat} (h : T[k]? = some i) : Kp178.on (p.map fun x => T.getD x 0) i = Kp178.on p k := by
  unfold Kp178.on
  rw [List.filter_map, List.length_map]
  congr 1
  apply List.filter_congr
  intro x hx
  have hk := (List.getElem?_eq_some_iff.mp h)
  have hxl := hp x hx
  simp only [Function.comp]
  have e1 : T.getD x 0 = T[x] := by simp [List.getD, hxl]
  rw [e1]
  by_cases e : x = k
  · subst e
    simp [hk.2]
  · have : T[x] ≠ i := fun q => e (by
      have := hk.2.trans q.symm
      exact ((List.getElem_inj hT).mp this).symm)
    rw [beq_eq_false_iff_ne.mpr this, beq_eq_false_iff_ne.mpr e]
theorem canHave_some {a : Abs} {q : Job} {out p : List Nat} (h : canHave a q out = some p) : p.length = q.copies ∧ (∀ i ∈ p, (machine a i).isSome = true) ∧
    ∀ i m, machine a i = some m → Le4 (q.wants.times (Kp178.on p i)) (m.has.less (takenBut a out i)) := by
  rw [canHave_eq] at h
  cases e : place ((there a.machines).map (roomAt a out)) q with
  | none => rw [e] at h; cases h
  | some p0 =>
    rw [e] at h
    have hp := Option.some.inj h
    obtain ⟨h1, h2⟩ := place_some e
    have hlt : ∀ x ∈ p0, x < (there a.machines).length := fun x hx => by
      rw [h2] at hx
      have := fill_mem hx
      rw [List.length_map] at this
      omega
    subst hp
    refine ⟨by rw [List.length_map, h1], fun i hi => ?_, fun i m hm => ?_⟩
    · obtain ⟨x, hx, rfl⟩ := List.mem_map.mp hi
      have hxl := hlt x hx
      have e1 : (there a.machines).getD x 0 = (there a.machines)[x] := by simp [List.getD, hxl]
      rw [e1]
      exact mem_there_machines.mp (List.getElem_mem hxl)
    · have hi : i ∈ there a.machines := mem_there_machines.mpr (by rw [hm]; rfl)
      obtain ⟨k, hk, ek⟩ := List.mem_iff_getElem.mp hi
      have ek' : (there a.machines)[k]? = some i := by rw [List.getElem?_eq_getElem hk, ek]
      rw [on_map (there_nodup _) hlt ek', h2]
      have e2 : ((there a.machines).map (roomAt a out))[k]? = some (roomAt a out i) := by rw [List.getElem?_map, ek']; rfl
      have := fill_fit (j := q) (k := 0) (left := q.copies) (used := List.replicate 8 0) e2
      rw [Nat.zero_add] at this
      have e3 : roomAt a out i = { m with has := m.has.less (takenBut a out i) } := by unfold roomAt; rw [hm]
      rw [e3] at this
      exact this
end Jo
end
section
set_option autoImplicit false
namespace Jo
open Kp179
open Kp178 (Four Machine Job goodMachine goodJob)
theorem takenBut_range (a : Abs) (out : List Nat) (i : Nat) : takenBut a out i = S4 (fun j => if out.contains j then z4 else onJ a i j) (List.range a.jobs.length) := by
  rw [takenBut_if]
  unfold there
  rw [S4_filter]
  refine S4_congr fun j _ => ?_
  split
  · rfl
  · rename_i h
    have e : job a j = none := by
      have h' : ¬ (job a j).isSome = true := h
      cases q : job a j with
      | none => rfl
      | some x => rw [q] at h'; simp at h'
    split
    · rfl
    · unfold onJ; rw [e]
theorem taken_range (a : Abs) (i : Nat) : takenBut a [] i = S4 (onJ a i) (List.range a.jobs.length) := by
  rw [takenBut_range]
  exact S4_congr fun j _ => by simp
theorem takenBut_le (a : Abs) (out : List Nat) (i : Nat) : Le4 (takenBut a out i) (takenBut a [] i) := by
  rw [takenBut_range, taken_range]
  refine S4_le fun j _ => ?_
  split
  · exact Le4.zero _
  · exact Le4.refl _
structure Wf (a : Abs) : Prop where
  ml : a.machines.length = 64
  jl : a.jobs.length = 128
  gm : ∀ i m, machine a i = some m → goodMachine m = true
  gj : ∀ j r, job a j = some r → goodJob r.job = true
  cm : ∀ j r, job a j = some r → r.came < a.clock
  cd : ∀ i j r s, job a i = some r → job a j = some s → r.came = s.came → i = j
  pl : ∀ j r p, job a j = some r → r.at_ = some p → p.length = r.job.copies ∧ ∀ k ∈ p, (machine a k).isSome = true
  fit : ∀ i m, machine a i = some m → Le4 (takenBut a [] i) m.has
theorem Wf.jlt {a : Abs} (h : Wf a) {j : Nat} (hj : (job a j).isSome = true) : j < 128 := by
  have : j ∈ there a.jobs := mem_there_jobs.mpr hj
  unfold there at this
  have := List.mem_range.mp (List.mem_filter.mp this).1
  rw [h.jl] at this; exact this
theorem Wf.mlt {a : Abs} (h : Wf a) {i : Nat} (hi : (machine a i).isSome = true) : i < 64 := by
  have : i ∈ there a.machines := mem_there_machines.mpr hi
  unfold there at this
  have := List.mem_range.mp (List.mem_filter.mp this).1
  rw [h.ml] at this; exact this
theorem rep_none {α : Type} (n k : Nat) : (((List.replicate n (none : Option α))[k]?).join) = none := by
  rw [List.getElem?_replicate]
  split <;> rfl
theorem start_machine (k : Nat) : machine Kp179.start k = none := rep_none 64 k
theorem start_job (k : Nat) : job Kp179.start k = none := rep_none 128 k
theorem wf_start : Wf Kp179.start where
  ml := by show (List.replicate 64 none).length = 64; simp
  jl := by show (List.replicate 128 none).length = 128; simp
  gm := fun i m h => by rw [start_machine] at h; cases h
  gj := fun i m h => by rw [start_job] at h; cases h
  cm := fun i m h => by rw [start_job] at h; cases h
  cd := fun i j r s h => by rw [start_job] at h; cases h
  pl := fun i j r h => by rw [start_job] at h; cases h
  fit := fun i m h => by rw [start_machine] at h; cases h
theorem onIt_none {r : Run} {i : Nat} (h : ∀ p, r.at_ = some p → i ∉ p) : onIt r i = z4 := by
  unfold onIt
  cases e : r.at_ with
  | none => rfl
  | some p => 
    show r.job.wants.times (Kp178.on p i) = z4
    rw [on_none (h p e), times_zero]
theorem onJ_waits {a : Abs} {i j : Nat} (h : ∀ r, job a j = some r → r.at_ = none) : onJ a i j = z4 := by
  unfold onJ
  cases e : job a j with
  | none => rfl
  | some r => exact onIt_none fun p hp => by rw [h r e] at hp; cases hp
theorem Wf.onJ_off {a : Abs} (h : Wf a) {i j : Nat} (hi : machine a i = none) : onJ a i j = z4 := by
  unfold onJ
  cases e : job a j with
  | none => rfl
  | some r =>
    refine onIt_none fun p hp hm => ?_
    have := (h.pl j r p e hp).2 i hm
    rw [hi] at this; cases this
theorem Wf.taken_off {a : Abs} (h : Wf a) {i : Nat} (hi : machine a i = none) : takenBut a [] i = z4 := by
  rw [taken_range, S4_congr (g := fun _ => z4) fun j _ => h.onJ_off hi, S4_zero]
theorem wf_machine {a : Abs} (h : Wf a) {i : Nat} {m : Machine} (hi : i < 64) (hn : machine a i = none) (hg : goodMachine m = true) : Wf { a with machines := a.machines.set i (some m) } := by
  have hi' : i < a.machines.length := by rw [h.ml]; exact hi
  have hm : ∀ k, machine { a with machines := a.machines.set i (some m) } k = if k = i then some m else machine a k := machine_set hi'
  have ht : ∀ k, takenBut { a with machines := a.machines.set i (some m) } [] k = takenBut a [] k := fun k => rfl
  refine ⟨by simpa using h.ml, h.jl, fun k m' e => ?_, h.gj, h.cm, h.cd, fun j r p e1 e2 => ⟨(h.pl j r p e1 e2).1, fun k hk => ?_⟩, fun k m' e => ?_⟩
  · rw [hm] at e
    split at e
    · cases e; exact hg
    · exact h.gm k m' e
  · rw [hm]
    split
    · rfl
    · exact (h.pl j r p e1 e2).2 k hk
  · rw [hm] at e
    rw [ht]
    split at e
    · rename_i ek
      subst ek
      rw [h.taken_off hn]
      exact Le4.zero _
    · exact h.fit k m' e
def hasOn (a : Abs) (i j : Nat) : Bool := match job a j with
  | some r => (match r.at_ with
    | some p => p.contains i
    | none => false)
  | none => false
theorem act_down (a : Abs) (i : Nat) : act a (.down i) = match machine a i with
    | none => (a, .num (-2))
    | some _ => ({ out a ((there a.jobs).filter (hasOn a i)) with machines := a.machines.set i none }, .num (((there a.jobs).filter (hasOn a i)).length : Nat)) := rfl
def onO (o : Option Run) (i : Nat) : Four := match o with
  | some r => onIt r i
  | none => z4
theorem onJ_eq (a : Abs) (i j : Nat) : onJ a i j = onO (job a j) i := rfl
theorem onJ_out (a : Abs) (l : List Nat) (i k : Nat) : onJ (out a l) i k = if k ∈ l then z4 else onJ a i k := by
  show onO (job (out a l) k) i = _
  rw [job_out]
  by_cases m : k ∈ l
  · rw [if_pos m, if_pos m]
    cases job a k <;> rfl
  · rw [if_neg m, if_neg m]; rfl
theorem onJ_change (a : Abs) (j : Nat) (f : Run → Run) (i k : Nat) (h : k ≠ j) : onJ (change a j f) i k = onJ a i k := by
  unfold onJ
  rw [job_change, if_neg h]
theorem wf_out {a : Abs} (h : Wf a) (l : List Nat) : Wf (out a l) := by
  have hj : ∀ k r, job (out a l) k = some r → ∃ r', job a k = some r' ∧ r.job = r'.job ∧ r.came = r'.came ∧ ∀ p, r.at_ = some p → r'.at_ = some p := by
    intro k r e
    rw [job_out] at e
    split at e
    · cases e' : job a k with
      | none => rw [e'] at e; cases e
      | some r' =>
        rw [e'] at e
        have := Option.some.inj e
        subst this
        exact ⟨r', rfl, rfl, rfl, fun p hp => by cases hp⟩
    · exact ⟨r, e, rfl, rfl, fun p hp => hp⟩
  have hm : ∀ k, machine (out a l) k = machine a k := fun k => by unfold machine; rw [out_machines]
  refine ⟨by rw [out_machines]; exact h.ml, by rw [out_len]; exact h.jl, fun i m e => h.gm i m (by rw [← hm]; exact e), fun j r e => ?_, fun j r e => ?_, fun i j r s e1 e2 e3 => ?_, fun j r p e1 e2 => ?_, fun i m e => ?_⟩
  · obtain ⟨r', e1, e2, _⟩ := hj j r e
    rw [e2]; exact h.gj j r' e1
  · obtain ⟨r', e1, _, e2, _⟩ := hj j r e
    rw [e2, out_clock]; exact h.cm j r' e1
  · obtain ⟨r', f1, _, f2, _⟩ := hj i r e1
    obtain ⟨s', g1, _, g2, _⟩ := hj j s e2
    exact h.cd i j r' s' f1 g1 (by rw [← f2, ← g2]; exact e3)
  · obtain ⟨r', f1, f2, _, f3⟩ := hj j r e1
    rw [f2]
    have := h.pl j r' p f1 (f3 p e2)
    exact ⟨this.1, fun k hk => by rw [hm]; exact this.2 k hk⟩
  · rw [hm] at e
    refine Le4.trans ?_ (h.fit i m e)
    rw [taken_range, taken_range, out_len]
    refine S4_le fun j _ => ?_
    rw [onJ_out]
    split
    · exact Le4.zero _
    · exact Le4.refl _
theorem wf_down {a : Abs} (h : Wf a) {i : Nat} {m : Machine} (hi : machine a i = some m) : Wf { out a ((there a.jobs).filter (hasOn a i)) with machines := a.machines.set i none } := by
  have h' := wf_out h ((there a.jobs).filter (hasOn a i))
  have hil : i < a.machines.length := by
    rw [h.ml]
    exact h.mlt (by rw [hi]; rfl)
  have hm : ∀ k, machine { out a ((there a.jobs).filter (hasOn a i)) with machines := a.machines.set i none } k = if k = i then none else machine a k := fun k => machine_set (js := (out a ((there a.jobs).filter (hasOn a i))).jobs) hil k
  have hm' : ∀ k, machine (out a ((there a.jobs).filter (hasOn a i))) k = machine a k := fun k => by unfold machine; rw [out_machines]
  refine ⟨by simpa using h.ml, h'.jl, fun k m' e => ?_, h'.gj, h'.cm, h'.cd, fun j r p e1 e2 => ⟨(h'.pl j r p e1 e2).1, fun k hk => ?_⟩, fun k m' e => ?_⟩
  · rw [hm] at e
    split at e
    · cases e
    · exact h.gm k m' e
  · have e1' : job (out a ((there a.jobs).filter (hasOn a i))) j = some r := e1
    have hs := (h'.pl j r p e1 e2).2 k hk
    rw [hm'] at hs
    rw [hm]
    split
    · rename_i ek
      subst ek
      exfalso
      rw [job_out] at e1'
      split at e1'
      · cases e' : job a j with
        | none => rw [e'] at e1'; cases e1'
        | some r' =>
          rw [e'] at e1'
          have := Option.some.inj e1'
          subst this
          cases e2
      · rename_i hn
        apply hn
        refine List.mem_filter.mpr ⟨mem_there_jobs.mpr (by rw [e1']; rfl), ?_⟩
        unfold hasOn
        rw [e1']
        simp only [e2]
        simpa using hk
    · exact hs
  · rw [hm] at e
    split at e
    · cases e
    · exact h'.fit k m' (by rw [hm']; exact e)
theorem wf_job {a : Abs} (h : Wf a) {j : Nat} {q : Job} (hj : j < 128) (hn : job a j = none) (hg : goodJob q = true) : Wf ⟨a.machines, a.jobs.set j (some ⟨q, a.clock, none⟩), a.clock + 1⟩ := by
  have hjl : j < a.jobs.length := by rw [h.jl]; exact hj
  have hJ : ∀ k, job ⟨a.machines, a.jobs.set j (some ⟨q, a.clock, none⟩), a.clock + 1⟩ k = if k = j then some ⟨q, a.clock, none⟩ else job a k := job_set hjl
  refine ⟨h.ml, by simpa using h.jl, h.gm, fun k r e => ?_, fun k r e => ?_, fun k l r s e1 e2 e3 => ?_, fun k r p e1 e2 => ?_, fun i m e => ?_⟩
  · rw [hJ] at e
    split at e
    · cases e; exact hg
    · exact h.gj k r e
  · rw [hJ] at e
    show r.came < a.clock + 1
    split at e
    · cases e; exact Nat.lt_succ_self _
    · have := h.cm k r e; omega
  · rw [hJ] at e1 e2
    split at e1 <;> split at e2
    · omega
    · cases e1
      have := h.cm l s e2
      simp only at e3; omega
    · cases e2
      have := h.cm k r e1
      simp only at e3; omega
    · exact h.cd k l r s e1 e2 e3
  · rw [hJ] at e1
    split at e1
    · cases e1; cases e2
    · exact h.pl k r p e1 e2
  · refine Le4.trans ?_ (h.fit i m e)
    rw [taken_range, taken_range]
    show Le4 (S4 _ (List.range (a.jobs.set j (some ⟨q, a.clock, none⟩)).length)) _
    rw [List.length_set]
    refine S4_le fun k _ => ?_
    rw [onJ_eq, hJ]
    split
    · exact Le4.zero _
    · exact Le4.refl _
theorem wf_end {a : Abs} (h : Wf a) {j : Nat} (hj : (job a j).isSome = true) : Wf { a with jobs := a.jobs.set j none } := by
  have hjl : j < a.jobs.length := by rw [h.jl]; exact h.jlt hj
  have hJ : ∀ k, job { a with jobs := a.jobs.set j none } k = if k = j then none else job a k := job_set hjl
  have hs : ∀ k r, job { a with jobs := a.jobs.set j none } k = some r → job a k = some r := fun k r e => by
    rw [hJ] at e
    split at e
    · cases e
    · exact e
  refine ⟨h.ml, by simpa using h.jl, h.gm, fun k r e => h.gj k r (hs k r e), fun k r e => h.cm k r (hs k r e), fun k l r s e1 e2 => h.cd k l r s (hs k r e1) (hs l s e2), fun k r p e1 => h.pl k r p (hs k r e1), fun i m e => ?_⟩
  refine Le4.trans ?_ (h.fit i m e)
  rw [taken_range, taken_range]
  show Le4 (S4 _ (List.range (a.jobs.set j none).length)) _
  rw [List.length_set]
  refine S4_le fun k _ => ?_
  rw [onJ_eq, hJ]
  split
  · exact Le4.zero _
  · exact Le4.refl _
theorem wf_placed {a : Abs} (h : Wf a) {j : Nat} {r : Run} {v p : List Nat} (hj : job a j = some r) (hw : r.at_ = none) (hc : canHave a r.job v = some p) : Wf (change (out a v) j fun r => { r with at_ := some p }) := by
  have h' := wf_out h v
  obtain ⟨c1, c2, c3⟩ := canHave_some hc
  have hJo : job (out a v) j = some r := by
    rw [job_out, hj]
    split
    · show some ({ r with at_ := none } : Run) = some r
      rw [← hw]
    · rfl
  have hJ : ∀ k, job (change (out a v) j fun r => { r with at_ := some p }) k = if k = j then some { r with at_ := some p } else job (out a v) k := fun k => by
    rw [job_change]
    split
    · rename_i e
      subst e
      rw [hJo]; rfl
    · rfl
  have hm : ∀ k, machine (change (out a v) j fun r => { r with at_ := some p }) k = machine a k := fun k => by
    show ((out a v).machines[k]?).join = _
    rw [out_machines]; rfl
  have hcl : (change (out a v) j fun r => { r with at_ := some p }).clock = a.clock := out_clock v a
  refine ⟨h'.ml, by rw [change_len]; exact h'.jl, fun i m e => h.gm i m (by rw [← hm]; exact e), fun k s e => ?_, fun k s e => ?_, fun k l s t e1 e2 e3 => ?_, fun k s q e1 e2 => ?_, fun i m e => ?_⟩
  · rw [hJ] at e
    split at e
    · cases e; exact h.gj j r hj
    · exact h'.gj k s e
  · rw [hJ] at e
    rw [hcl]
    split at e
    · cases e; exact h.cm j r hj
    · have := h'.cm k s e
      rw [out_clock] at this; exact this
  · rw [hJ] at e1 e2
    split at e1 <;> split at e2
    · omega
    · rename_i ek _
      cases e1
      rw [ek]
      exact h'.cd j l r t hJo e2 e3
    · rename_i _ el
      cases e2
      rw [el]
      exact h'.cd k j s r e1 hJo e3
    · exact h'.cd k l s t e1 e2 e3
  · rw [hJ] at e1
    split at e1
    · cases e1
      have eq : p = q := Option.some.inj e2
      subst eq
      exact ⟨c1, fun i hi => by rw [hm]; exact c2 i hi⟩
    · have := h'.pl k s q e1 e2
      exact ⟨this.1, fun i hi => by
        have z := this.2 i hi
        rw [hm]
        have : machine (out a v) i = machine a i := by unfold machine; rw [out_machines]
        rw [← this]; exact z⟩
  · rw [hm] at e
    have hjl : j ∈ List.range a.jobs.length := by
      rw [List.mem_range, h.jl]
      exact h.jlt (by rw [hj]; rfl)
    have f1 := c3 i m e
    have f2 := Le4.trans (takenBut_le a v i) (h.fit i m e)
    have key : takenBut (change (out a v) j fun r => { r with at_ := some p }) [] i = (takenBut a v i).plus (r.job.wants.times (Kp178.on p i)) := by
      rw [taken_range, takenBut_range, change_len, out_len]
      have s1 := S4_one (fun _ => r.job.wants.times (Kp178.on p i)) j (List.range a.jobs.length) List.nodup_range
      rw [if_pos hjl] at s1
      rw [← s1, ← S4_plus]
      refine S4_congr fun k _ => ?_
      by_cases ek : k = j
      · subst ek
        rw [if_pos rfl]
        have w0 : onJ a i k = z4 := onJ_waits fun r' hr' => by
          rw [hj] at hr'
          have := Option.some.inj hr'
          rw [← this]; exact hw
        rw [w0]
        have : onJ (change (out a v) k fun r => { r with at_ := some p }) i k = r.job.wants.times (Kp178.on p i) := by
          unfold onJ
          rw [hJ, if_pos rfl]
          rfl
        rw [this]
        split <;> rw [zero_plus]
      · rw [if_neg ek, plus_zero, onJ_change _ _ _ _ _ ek, onJ_out]
        simp
    rw [key]
    simp only [Le4, Four.plus, Four.less] at *
    omega
theorem put_mem {a : Abs} {j k : Nat} : ∀ {l : List Nat}, k ∈ put a j l ↔ k = j ∨ k ∈ l
  | [] => by simp [put]
  | i :: l => by
    unfold put
    split
    · simp
    · rw [List.mem_cons, put_mem, List.mem_cons]
      constructor
      · rintro (h | h | h)
        · exact .inr (.inl h)
        · exact .inl h
        · exact .inr (.inr h)
      · rintro (h | h | h)
        · exact .inr (.inl h)
        · exact .inl h
        · exact .inr (.inr h)
end Jo
end
section
set_option autoImplicit false
namespace Jo
open Kp179
open Kp178 (Four Machine Job goodMachine goodJob)
def Bf (a : Abs) (i j : Nat) : Prop := before a i j = true
theorem bf_some {a : Abs} {i j : Nat} {x y : Run} (hx : job a i = some x) (hy : job a j = some y) : Bf a i j ↔ y.job.rank < x.job.rank ∨ (x.job.rank = y.job.rank ∧ x.came < y.came) := by
  unfold Bf before
  rw [hx, hy]
  simp
theorem bf_there {a : Abs} {i j : Nat} (h : Bf a i j) : ∃ x y, job a i = some x ∧ job a j = some y := by
  unfold Bf before at h
  split at h
  · rename_i x y h1 h2
    exact ⟨x, y, h1, h2⟩
  · cases h
theorem bf_trans {a : Abs} {i j k : Nat} (h1 : Bf a i j) (h2 : Bf a j k) : Bf a i k := by
  obtain ⟨x, y, hx, hy⟩ := bf_there h1
  obtain ⟨y', z, hy', hz⟩ := bf_there h2
  rw [hy] at hy'
  cases hy'
  rw [bf_some hx hy] at h1
  rw [bf_some hy hz] at h2
  rw [bf_some hx hz]
  omega
theorem bf_asymm {a : Abs} {i j : Nat} (h1 : Bf a i j) (h2 : Bf a j i) : False := by
  obtain ⟨x, y, hx, hy⟩ := bf_there h1
  rw [bf_some hx hy] at h1
  rw [bf_some hy hx] at h2
  omega
theorem bf_total {a : Abs} (h : Wf a) {i j : Nat} (hi : (job a i).isSome = true) (hj : (job a j).isSome = true) (ne : i ≠ j) (n : ¬ Bf a i j) : Bf a j i := by
  cases ex : job a i with
  | none => rw [ex] at hi; cases hi
  | some x =>
    cases ey : job a j with
    | none => rw [ey] at hj; cases hj
    | some y =>
      rw [bf_some ex ey] at n
      rw [bf_some ey ex]
      have := h.cd i j x y ex ey
      have nc : x.came ≠ y.came := fun q => ne (this q)
      omega
theorem put_perm (a : Abs) (j : Nat) : ∀ l : List Nat, (put a j l).Perm (j :: l)
  | [] => by simp [put]
  | i :: l => by
    unfold put
    split
    · exact List.Perm.refl _
    · exact (List.Perm.cons i (put_perm a j l)).trans (List.Perm.swap j i l)
theorem put_sorted {a : Abs} (h : Wf a) {j : Nat} (hj : (job a j).isSome = true) : ∀ {l : List Nat}, (∀ k ∈ l, (job a k).isSome = true) → j ∉ l → l.Pairwise (Bf a) → (put a j l).Pairwise (Bf a)
  | [], _, _, _ => by simp [put]
  | i :: l, h1, h2, h3 => by
    have h3' := List.pairwise_cons.mp h3
    unfold put
    split
    · rename_i hb
      refine List.pairwise_cons.mpr ⟨fun k hk => ?_, h3⟩
      rcases List.mem_cons.mp hk with rfl | hk
      · exact hb
      · exact bf_trans hb (h3'.1 k hk)
    · rename_i hb
      refine List.pairwise_cons.mpr ⟨fun k hk => ?_, put_sorted h hj (fun k hk => h1 k (List.mem_cons_of_mem _ hk)) (fun q => h2 (List.mem_cons_of_mem _ q)) h3'.2⟩
      rcases put_mem.mp hk with rfl | hk
      · exact bf_total h hj (h1 i List.mem_cons_self) (fun q => h2 (by rw [q]; exact List.mem_cons_self)) hb
      · exact h3'.1 k hk
theorem foldl_put_perm (a : Abs) : ∀ (l r : List Nat), (l.foldl (fun r j => put a j r) r).Perm (l ++ r)
  | [], r => List.Perm.refl _
  | j :: l, r => by
    rw [List.foldl_cons]
    refine (foldl_put_perm a l _).trans ?_
    refine ((List.Perm.append_left l (put_perm a j r))).trans ?_
    exact List.perm_middle
theorem inRow_perm (a : Abs) (l : List Nat) : (inRow a l).Perm l := by
  have := foldl_put_perm a l []
  rw [List.append_nil] at this
  exact this
theorem foldl_put_sorted {a : Abs} (h : Wf a) : ∀ {l r : List Nat}, (∀ k ∈ l ++ r, (job a k).isSome = true) → (l ++ r).Nodup → r.Pairwise (Bf a) → (l.foldl (fun r j => put a j r) r).Pairwise (Bf a)
  | [], r, _, _, h3 => h3
  | j :: l, r, h1, h2, h3 => by
    rw [List.foldl_cons]
    have hp : (l ++ put a j r).Perm (j :: l ++ r) := ((List.Perm.append_left l (put_perm a j r))).trans List.perm_middle
    have h2' := List.nodup_cons.mp h2
    refine foldl_put_sorted h (fun k hk => h1 k (hp.mem_iff.mp hk)) (hp.nodup_iff.mpr h2) (put_sorted h (h1 j (by simp)) (fun k hk => h1 k (by simp [hk])) (fun q => h2'.1 (by simp [q])) h3)
theorem inRow_sorted {a : Abs} (h : Wf a) {l : List Nat} (h1 : ∀ k ∈ l, (job a k).isSome = true) (h2 : l.Nodup) : (inRow a l).Pairwise (Bf a) :=
  foldl_put_sorted h (by simpa using h1) (by simpa using h2) List.Pairwise.nil
theorem sorted_uniq {R : Nat → Nat → Prop} (as : ∀ i j, R i j → R j i → False) : ∀ {l m : List Nat}, l.Perm m → l.Pairwise R → m.Pairwise R → l = m
  | [], m, hp, _, _ => (List.nil_perm.mp hp).symm
  | x :: l, [], hp, _, _ => by
    have := hp.length_eq
    simp at this
  | x :: l, y :: m, hp, h1, h2 => by
    have e : x = y := by
      have hx : x ∈ y :: m := hp.mem_iff.mp List.mem_cons_self
      have hy : y ∈ x :: l := hp.mem_iff.mpr List.mem_cons_self
      rcases List.mem_cons.mp hx with e | hx
      · exact e
      · rcases List.mem_cons.mp hy with e | hy
        · exact e.symm
        · exact (as x y ((List.pairwise_cons.mp h1).1 y hy) ((List.pairwise_cons.mp h2).1 x hx)).elim
    subst e
    rw [sorted_uniq as (List.Perm.cons_inv hp) (List.pairwise_cons.mp h1).2 (List.pairwise_cons.mp h2).2]
theorem inRow_eq {a : Abs} (h : Wf a) {l L : List Nat} (h1 : ∀ k ∈ l, (job a k).isSome = true) (h2 : l.Nodup) (hp : L.Perm l) (hs : L.Pairwise (Bf a)) : inRow a l = L :=
  sorted_uniq (fun _ _ => bf_asymm) ((inRow_perm a l).trans hp.symm) (inRow_sorted h h1 h2) hs
structure ByCame (a : Abs) (l : List Nat) : Prop where
  mem : ∀ j, j ∈ l ↔ (job a j).isSome = true
  srt : l.Pairwise fun i j => ∀ x y, job a i = some x → job a j = some y → x.came < y.came
theorem ByCame.nodup {a : Abs} {l : List Nat} (h : ByCame a l) : l.Nodup := by
  refine List.Pairwise.imp_of_mem (fun {i j} hi hj hij => ?_) h.srt
  rintro rfl
  cases e : job a i with
  | none =>
    have := (h.mem i).mp hi
    rw [e] at this; cases this
  | some x => exact Nat.lt_irrefl _ (hij x x e e)
theorem perm_of {l m : List Nat} (h1 : l.Nodup) (h2 : m.Nodup) (h : ∀ j, j ∈ l ↔ j ∈ m) : l.Perm m := (List.perm_ext_iff_of_nodup h1 h2).mpr h
theorem ByCame.perm {a : Abs} {l : List Nat} (h : ByCame a l) : l.Perm (there a.jobs) := perm_of h.nodup (there_nodup _) fun j => (h.mem j).trans mem_there_jobs.symm
theorem row_of {a : Abs} (h : Wf a) {l L : List Nat} (hc : ByCame a l) (p : Nat → Bool) (hp : L.Perm (l.filter p)) (hs : L.Pairwise fun i j => rankOf a j < rankOf a i ∨ (rankOf a i = rankOf a j ∧ ∀ x y, job a i = some x → job a j = some y → x.came < y.came)) :
    inRow a ((there a.jobs).filter p) = L := by
  refine inRow_eq h (fun k hk => mem_there_jobs.mp (List.mem_filter.mp hk).1) (List.Pairwise.filter _ (there_nodup _)) (hp.trans (hc.perm.filter p)) (List.Pairwise.imp_of_mem (fun {i j} hi hj hij => ?_) hs)
  have ti := (hc.mem i).mp (List.mem_filter.mp (hp.mem_iff.mp hi)).1
  have tj := (hc.mem j).mp (List.mem_filter.mp (hp.mem_iff.mp hj)).1
  cases ei : job a i with
  | none => rw [ei] at ti; cases ti
  | some x =>
    cases ej : job a j with
    | none => rw [ej] at tj; cases tj
    | some y =>
      rw [bf_some ei ej]
      have r1 : rankOf a i = x.job.rank := by unfold rankOf; rw [ei]
      have r2 : rankOf a j = y.job.rank := by unfold rankOf; rw [ej]
      rw [r1, r2] at hij
      rcases hij with hij | ⟨hr, hij⟩
      · exact .inl hij
      · exact .inr ⟨hr, hij x y ei ej⟩
theorem ByCame.start : ByCame Kp179.start [] := ⟨fun j => by rw [start_job]; simp, List.Pairwise.nil⟩
theorem ByCame.congr {a b : Abs} {l : List Nat} (h : ByCame a l) (e : ∀ j, (job b j).map (·.came) = (job a j).map (·.came)) : ByCame b l := by
  have e1 : ∀ j y, job b j = some y → ∃ x, job a j = some x ∧ x.came = y.came := fun j y hy => by
    have := e j
    rw [hy] at this
    cases q : job a j with
    | none => rw [q] at this; cases this
    | some x =>
      rw [q] at this
      exact ⟨x, rfl, (Option.some.inj this).symm⟩
  have e2 : ∀ j, (job b j).isSome = (job a j).isSome := fun j => by
    have := congrArg Option.isSome (e j)
    rw [Option.isSome_map, Option.isSome_map] at this
    exact this
  refine ⟨fun j => by rw [e2]; exact h.mem j, h.srt.imp fun {i j} hij x y hx hy => ?_⟩
  obtain ⟨x', hx', cx⟩ := e1 i x hx
  obtain ⟨y', hy', cy⟩ := e1 j y hy
  rw [← cx, ← cy]
  exact hij x' y' hx' hy'
theorem ByCame.change {a : Abs} {l : List Nat} (h : ByCame a l) (j : Nat) (p : Option (List Nat)) : ByCame (change a j fun r => { r with at_ := p }) l := h.congr fun k => by
  rw [job_change]
  split
  · cases job a k <;> rfl
  · rfl
theorem ByCame.job {a : Abs} (w : Wf a) {l : List Nat} (h : ByCame a l) {j : Nat} {q : Job} (hj : j < 128) (hn : Kp179.job a j = none) : ByCame ⟨a.machines, a.jobs.set j (some ⟨q, a.clock, none⟩), a.clock + 1⟩ (l ++ [j]) := by
  have hjl : j < a.jobs.length := by rw [w.jl]; exact hj
  have hJ : ∀ k, Kp179.job ⟨a.machines, a.jobs.set j (some ⟨q, a.clock, none⟩), a.clock + 1⟩ k = if k = j then some ⟨q, a.clock, none⟩ else Kp179.job a k := job_set hjl
  have hl : ∀ k ∈ l, k ≠ j := fun k hk e => by
    have := (h.mem k).mp hk
    rw [e, hn] at this; cases this
  refine ⟨fun k => ?_, ?_⟩
  · rw [hJ, List.mem_append, List.mem_singleton]
    by_cases e : k = j
    · rw [if_pos e]; simp [e]
    · rw [if_neg e]; simp [e, h.mem k]
  · rw [List.pairwise_append]
    refine ⟨List.Pairwise.imp_of_mem (fun {i k} hi hk hij x y hx hy => ?_) h.srt, by simp, fun i hi k hk x y hx hy => ?_⟩
    · rw [hJ, if_neg (hl i hi)] at hx
      rw [hJ, if_neg (hl k hk)] at hy
      exact hij x y hx hy
    · rw [hJ, if_neg (hl i hi)] at hx
      rw [List.mem_singleton] at hk
      rw [hJ, if_pos hk] at hy
      cases hy
      exact w.cm i x hx
theorem ByCame.end_ {a : Abs} (w : Wf a) {l : List Nat} (h : ByCame a l) {j : Nat} (hj : (Kp179.job a j).isSome = true) : ByCame { a with jobs := a.jobs.set j none } (l.filter fun k => decide (k ≠ j)) := by
  have hjl : j < a.jobs.length := by rw [w.jl]; exact w.jlt hj
  have hJ : ∀ k, Kp179.job { a with jobs := a.jobs.set j none } k = if k = j then none else Kp179.job a k := job_set hjl
  refine ⟨fun k => ?_, ?_⟩
  · rw [hJ, List.mem_filter]
    by_cases e : k = j
    · rw [if_pos e]; simp [e]
    · rw [if_neg e]; simp [e, h.mem k]
  · refine List.Pairwise.filter _ (h.srt.imp fun {i k} hij x y hx hy => ?_)
    rw [hJ] at hx hy
    split at hx
    · cases hx
    · split at hy
      · cases hy
      · exact hij x y hx hy
theorem ByCame.len {a : Abs} {l : List Nat} (h : ByCame a l) : l.length = (there a.jobs).length := h.perm.length_eq
end Jo
end
section
set_option autoImplicit false
set_option linter.all false
namespace Jo
open Kp179
open Kp178 (Four Machine Job goodMachine goodJob holds zoneLeft fill places place lets)
theorem times_succ (w : Four) (m : Nat) : w.times (m + 1) = (w.times m).plus (w.times 1) := by
  apply four_ext <;> simp [Four.times, Four.plus, Nat.add_mul]
theorem less_plus (x y z : Four) : (x.less y).less z = x.less (y.plus z) := by
  apply four_ext <;> simp [Four.less, Four.plus, Nat.sub_sub]
theorem less_succ (x w : Four) (m : Nat) : (x.less (w.times m)).less (w.times 1) = x.less (w.times (m + 1)) := by
  rw [less_plus, times_succ w m]
theorem le4_times {w x : Four} {m n : Nat} (h : m ≤ n) (hx : Le4 (w.times n) x) : Le4 (w.times m) x := by
  obtain ⟨h1, h2, h3, h4⟩ := hx
  exact ⟨Nat.le_trans (Nat.mul_le_mul_right _ h) h1, Nat.le_trans (Nat.mul_le_mul_right _ h) h2, Nat.le_trans (Nat.mul_le_mul_right _ h) h3, Nat.le_trans (Nat.mul_le_mul_right _ h) h4⟩
theorem le4_less {x y z : Four} (h : Le4 (y.plus z) x) : Le4 z (x.less y) := by
  obtain ⟨h1, h2, h3, h4⟩ := h
  simp only [Four.plus] at h1 h2 h3 h4
  refine ⟨?_, ?_, ?_, ?_⟩ <;> simp only [Four.less] <;> omega
theorem le4_one {w x : Four} {m n : Nat} (h : m + 1 ≤ n) (hx : Le4 (w.times n) x) : Le4 (w.times 1) (x.less (w.times m)) := le4_less (by rw [← times_succ]; exact le4_times h hx)
theorem on_one (x i : Nat) : Kp178.on [x] i = if i = x then 1 else 0 := on_rep 1 x i
theorem on_take_le (p : List Nat) (k i : Nat) : Kp178.on (p.take k) i ≤ Kp178.on p i := by
  have : p = p.take k ++ p.drop k := (List.take_append_drop k p).symm
  rw [this, on_append]
  simp
theorem on_le (p : List Nat) (i : Nat) : Kp178.on p i ≤ p.length := List.length_filter_le _ _
theorem on_count (p : List Nat) (i : Nat) : Kp178.on p i = p.count i := by
  unfold Kp178.on
  rw [List.count_eq_length_filter]
def fitsOf (x w : Four) : List Nat := ((x.list.zip w.list).filter fun z => decide (0 < z.2)).map fun z => z.1 / z.2
theorem fold_ge (n : Nat) : ∀ (l : List (Nat × Nat)) (v : Nat), (∀ z ∈ l, 0 < z.2 → n ≤ z.1 / z.2) → min v n ≤ l.foldl (fun v x => if x.2 = 0 then v else min v (x.1 / x.2)) v
  | [], v, _ => Nat.min_le_left _ _
  | z :: l, v, h => by
    have ih := fold_ge n l (if z.2 = 0 then v else min v (z.1 / z.2)) fun y hy => h y (List.mem_cons_of_mem _ hy)
    rw [List.foldl_cons]
    refine Nat.le_trans ?_ ih
    by_cases hz : z.2 = 0
    · rw [if_pos hz]
      exact Nat.le_refl _
    · rw [if_neg hz]
      have := h z List.mem_cons_self (Nat.pos_of_ne_zero hz)
      omega
theorem fold_min {x w : Four} {n : Nat} (h1 : n ∈ fitsOf x w) (h2 : ∀ y ∈ fitsOf x w, n ≤ y) (most : Nat) : (List.zip x.list w.list).foldl (fun v x => if x.2 = 0 then v else min v (x.1 / x.2)) most = min most n := by
  have a := minfold_le (List.zip x.list w.list) most
  have b := fold_ge n (List.zip x.list w.list) most fun z hz hp => h2 _ (List.mem_map.mpr ⟨z, List.mem_filter.mpr ⟨hz, decide_eq_true hp⟩, rfl⟩)
  obtain ⟨z, hz, e⟩ := List.mem_map.mp h1
  obtain ⟨hz1, hz2⟩ := List.mem_filter.mp hz
  have c := minfold_mem (List.zip x.list w.list) most z hz1 (by have := of_decide_eq_true hz2; omega)
  omega
theorem holds_min {m : Machine} {q : Job} {n : Nat} (hl : lets m q = true) (h1 : n ∈ fitsOf m.has q.wants) (h2 : ∀ y ∈ fitsOf m.has q.wants, n ≤ y) (most : Nat) : holds m q most = min most (if q.apart = 1 then min n 1 else n) := by
  unfold holds
  rw [if_neg (by rw [hl]; simp), fold_min h1 h2]
  dsimp only
  split <;> omega
theorem holds_not {m : Machine} {q : Job} (hl : lets m q = false) (most : Nat) : holds m q most = min most 0 := by
  unfold holds
  rw [if_pos hl]
  omega
theorem fits_some {w : Four} (x : Four) (h : w.list.any (fun x => x != 0) = true) : 0 < (fitsOf x w).length := by
  unfold fitsOf
  rw [List.length_map]
  simp only [Four.list, List.any_cons, List.any_nil, Bool.or_eq_true, bne_iff_ne, Bool.false_eq_true, or_false] at h
  refine List.length_pos_of_mem (a := if w.a ≠ 0 then (x.a, w.a) else if w.b ≠ 0 then (x.b, w.b) else if w.c ≠ 0 then (x.c, w.c) else (x.d, w.d)) (List.mem_filter.mpr ?_)
  by_cases ha : w.a ≠ 0
  · rw [if_pos ha]
    exact ⟨by simp [Four.list], by simp; omega⟩
  · rw [if_neg ha]
    by_cases hb : w.b ≠ 0
    · rw [if_pos hb]
      exact ⟨by simp [Four.list], by simp; omega⟩
    · rw [if_neg hb]
      by_cases hc : w.c ≠ 0
      · rw [if_pos hc]
        exact ⟨by simp [Four.list], by simp; omega⟩
      · rw [if_neg hc]
        exact ⟨by simp [Four.list], by simp; omega⟩
theorem fill_zero (q : Job) : ∀ (l : List Machine) (k : Nat) (used : List Nat), fill q k 0 used l = [] := fun l k used => by
  have := fill_len (j := q) (l := l) (k := k) (left := 0) (used := used)
  exact List.eq_nil_of_length_eq_zero (by omega)
def zbase (q : Job) : Nat := if q.spread = 0 then q.copies else q.spread
structure PInv (q : Job) (T : List Nat) (ms : List Machine) (k : Nat) (acc : List Nat) (left : Nat) (used : List Nat) : Prop where
  tot : (fill q 0 q.copies (List.replicate 8 0) ms).map (fun x => T.getD x 0) = acc ++ (fill q k left used (ms.drop k)).map fun x => T.getD x 0
  len : acc.length + left = q.copies
  ul : used.length = 8
  ub : ∀ u ∈ used, u ≤ zbase q
  uc : ∀ u ∈ used, u + left ≤ q.copies
theorem PInv.start (q : Job) (T : List Nat) (ms : List Machine) : PInv q T ms 0 [] q.copies (List.replicate 8 0) where
  tot := rfl
  len := by simp
  ul := List.length_replicate
  ub := fun u hu => by
    rw [(List.mem_replicate.mp hu).2]
    exact Nat.zero_le _
  uc := fun u hu => by
    rw [(List.mem_replicate.mp hu).2]
    omega
def gets (q : Job) (n left u : Nat) : Nat := min (min n (zbase q - u)) left
theorem PInv.gets_eq {q : Job} {T : List Nat} {ms : List Machine} {k left : Nat} {acc used : List Nat} (I : PInv q T ms k acc left used) {m : Machine} {n : Nat} (hn : ∀ most, holds m q most = min most n) (hz : m.zone ≤ 7) :
    gets q n left (used.getD m.zone 0) = min (holds m q left) (zoneLeft q used m.zone left) := by
  have hu : used.getD m.zone 0 ∈ used := by
    rw [List.getD_eq_getElem?_getD, List.getElem?_eq_getElem (by rw [I.ul]; omega)]
    exact List.getElem_mem _
  have h1 := I.ub _ hu
  have h2 := I.uc _ hu
  rw [hn]
  unfold gets zoneLeft
  by_cases hs : q.spread = 0
  · rw [if_pos hs]
    unfold zbase
    rw [if_pos hs]
    omega
  · rw [if_neg hs]
    unfold zbase
    rw [if_neg hs]
    omega
theorem PInv.step {q : Job} {T : List Nat} {ms : List Machine} {k left : Nat} {acc used : List Nat} (I : PInv q T ms k acc left used) {m : Machine} {n i : Nat} (hk : ms[k]? = some m) (hi : T[k]? = some i) (hn : ∀ most, holds m q most = min most n) (hz : m.zone ≤ 7) :
    PInv q T ms (k + 1) (acc ++ List.replicate (gets q n left (used.getD m.zone 0)) i) (left - gets q n left (used.getD m.zone 0)) (used.set m.zone (used.getD m.zone 0 + gets q n left (used.getD m.zone 0))) := by
  have e := I.gets_eq hn hz
  have hle : gets q n left (used.getD m.zone 0) ≤ left := Nat.min_le_right _ _
  have hu : used.getD m.zone 0 ∈ used := by
    rw [List.getD_eq_getElem?_getD, List.getElem?_eq_getElem (by rw [I.ul]; omega)]
    exact List.getElem_mem _
  have h1 := I.ub _ hu
  have h2 := I.uc _ hu
  have hc : gets q n left (used.getD m.zone 0) ≤ zbase q - used.getD m.zone 0 := by
    unfold gets
    omega
  refine ⟨?_, ?_, ?_, fun u hu' => ?_, fun u hu' => ?_⟩
  · have hd : ms.drop k = m :: ms.drop (k + 1) := by
      obtain ⟨h, e⟩ := List.getElem?_eq_some_iff.mp hk
      rw [List.drop_eq_getElem_cons h, e]
    rw [I.tot, hd]
    show acc ++ List.map _ (List.replicate (min (holds m q left) (zoneLeft q used m.zone left)) k ++ fill q (k + 1) (left - min (holds m q left) (zoneLeft q used m.zone left)) (used.set m.zone (used.getD m.zone 0 + min (holds m q left) (zoneLeft q used m.zone left))) (ms.drop (k + 1))) = _
    rw [← e, List.map_append, List.map_replicate, List.append_assoc, show T.getD k 0 = i by rw [List.getD_eq_getElem?_getD, hi]; rfl]
  · rw [List.length_append, List.length_replicate]
    have := I.len
    omega
  · rw [List.length_set]
    exact I.ul
  · rcases List.mem_or_eq_of_mem_set hu' with z | z
    · exact I.ub u z
    · omega
  · rcases List.mem_or_eq_of_mem_set hu' with z | z
    · have := I.uc u z
      omega
    · omega
theorem PInv.full {q : Job} {T : List Nat} {ms : List Machine} {k left : Nat} {acc used : List Nat} (I : PInv q T ms k acc left used) (h : acc.length = q.copies) : ((place ms q).map fun p => p.map fun x => T.getD x 0).getD [] = acc := by
  have l0 : left = 0 := by
    have := I.len
    omega
  have t := I.tot
  rw [l0, fill_zero, List.map_nil, List.append_nil] at t
  have hl : (fill q 0 q.copies (List.replicate 8 0) ms).length = q.copies := by
    have := congrArg List.length t
    rw [List.length_map] at this
    exact this.trans h
  have : place ms q = some (fill q 0 q.copies (List.replicate 8 0) ms) := by
    unfold place places
    dsimp only
    rw [if_pos hl]
  rw [this]
  exact t
theorem PInv.not_all {q : Job} {T : List Nat} {ms : List Machine} {left : Nat} {acc used : List Nat} (I : PInv q T ms ms.length acc left used) (h : acc.length ≠ q.copies) : ((place ms q).map fun p => p.map fun x => T.getD x 0).getD [] = [] := by
  have t := I.tot
  rw [List.drop_length] at t
  have t2 : (fill q 0 q.copies (List.replicate 8 0) ms).map (fun x => T.getD x 0) = acc := by
    rw [t]
    simp [fill]
  have hl : ¬ (fill q 0 q.copies (List.replicate 8 0) ms).length = q.copies := by
    rw [← t2, List.length_map] at h
    exact h
  have : place ms q = none := by
    unfold place places
    dsimp only
    rw [if_neg hl]
  rw [this]
  rfl
end Jo
end
section
set_option autoImplicit false
set_option linter.all false
namespace Jo
open Kp179
open Kp178 (Four Machine Job goodMachine goodJob holds zoneLeft fill places place lets)
def byRank (a : Abs) (l : List Nat) (p : Nat → Bool) : Nat → List Nat
  | 0 => []
  | r + 1 => (l.filter fun j => p j && rankOf a j == r) ++ byRank a l p r
theorem byRank_mem {a : Abs} {l : List Nat} {p : Nat → Bool} {j : Nat} : ∀ {r : Nat}, j ∈ byRank a l p r ↔ j ∈ l ∧ p j = true ∧ rankOf a j < r
  | 0 => by simp [byRank]
  | r + 1 => by
    unfold byRank
    rw [List.mem_append, List.mem_filter, byRank_mem (r := r)]
    simp only [Bool.and_eq_true, beq_iff_eq]
    constructor
    · rintro (⟨h1, h2, h3⟩ | ⟨h1, h2, h3⟩)
      · exact ⟨h1, h2, by omega⟩
      · exact ⟨h1, h2, by omega⟩
    · rintro ⟨h1, h2, h3⟩
      by_cases e : rankOf a j = r
      · exact .inl ⟨h1, h2, e⟩
      · exact .inr ⟨h1, h2, by omega⟩
theorem byRank_sorted {a : Abs} {l : List Nat} (hc : ByCame a l) (p : Nat → Bool) : ∀ r : Nat, (byRank a l p r).Pairwise fun i j => rankOf a j < rankOf a i ∨ (rankOf a i = rankOf a j ∧ ∀ x y, job a i = some x → job a j = some y → x.came < y.came)
  | 0 => List.Pairwise.nil
  | r + 1 => by
    unfold byRank
    refine List.pairwise_append.mpr ⟨?_, byRank_sorted hc p r, fun i hi j hj => ?_⟩
    · refine List.Pairwise.imp_of_mem (fun {i j} hi hj h => ?_) (hc.srt.filter _)
      have h1 := (List.mem_filter.mp hi).2
      have h2 := (List.mem_filter.mp hj).2
      simp only [Bool.and_eq_true, beq_iff_eq] at h1 h2
      exact .inr ⟨h1.2.trans h2.2.symm, h⟩
    · have h1 := (List.mem_filter.mp hi).2
      simp only [Bool.and_eq_true, beq_iff_eq] at h1
      have h2 := (byRank_mem.mp hj).2.2
      exact .inl (by omega)
theorem byRank_nodup {a : Abs} {l : List Nat} (hc : ByCame a l) (p : Nat → Bool) : ∀ r : Nat, (byRank a l p r).Nodup
  | 0 => List.nodup_nil
  | r + 1 => by
    unfold byRank
    refine List.nodup_append.mpr ⟨List.Pairwise.filter _ hc.nodup, byRank_nodup hc p r, fun i hi j hj e => ?_⟩
    subst e
    have h1 := (List.mem_filter.mp hi).2
    simp only [Bool.and_eq_true, beq_iff_eq] at h1
    have h2 := (byRank_mem.mp hj).2.2
    omega
theorem byRank_row {a : Abs} (h : Wf a) {l : List Nat} (hc : ByCame a l) (p : Nat → Bool) (r : Nat) : inRow a ((there a.jobs).filter fun j => p j && decide (rankOf a j < r)) = byRank a l p r := by
  refine row_of h hc _ (perm_of (byRank_nodup hc p r) (List.Pairwise.filter _ hc.nodup) fun j => ?_) (byRank_sorted hc p r)
  rw [byRank_mem, List.mem_filter]
  simp only [Bool.and_eq_true, decide_eq_true_eq]
theorem lesser_eq {a : Abs} (h : Wf a) {l : List Nat} (hc : ByCame a l) (r : Nat) : lesser a r = byRank a l (runs a) r := byRank_row h hc (runs a) r
theorem rank_lt {a : Abs} (h : Wf a) (j : Nat) : rankOf a j < 8 := by
  unfold rankOf
  cases e : job a j with
  | none => decide
  | some r =>
    have := h.gj j r e
    unfold goodJob at this
    simp only [Bool.and_eq_true, decide_eq_true_eq] at this
    have := this.2
    show r.job.rank < 8
    omega
theorem waiting_eq {a : Abs} (h : Wf a) {l : List Nat} (hc : ByCame a l) : waiting a = byRank a l (waits a) 8 := by
  rw [← byRank_row h hc]
  unfold waiting
  congr 1
  refine List.filter_congr fun j _ => ?_
  rw [decide_eq_true (rank_lt h j), Bool.and_true]
theorem contains_filter {v : List Nat} {j k : Nat} : (v.filter (· != j)).contains k = (v.contains k && k != j) := by
  rw [Bool.eq_iff_iff]
  simp [List.mem_filter]
theorem takenBut_back {a : Abs} {v : List Nat} {j : Nat} (i : Nat) (hj : v.contains j = true) (hb : (job a j).isSome = true) : takenBut a (v.filter (· != j)) i = (takenBut a v i).plus (onJ a i j) := by
  rw [takenBut_if, takenBut_if]
  have e : S4 (fun k => if (v.filter (· != j)).contains k then z4 else onJ a i k) (there a.jobs) = S4 (fun k => ((fun k => if v.contains k then z4 else onJ a i k) k).plus ((fun k => if k = j then onJ a i k else z4) k)) (there a.jobs) := by
    refine S4_congr fun k _ => ?_
    dsimp only
    rw [contains_filter]
    by_cases e : k = j
    · subst e
      rw [hj, if_pos rfl]
      simp
      rw [zero_plus]
    · rw [if_neg e]
      by_cases hv : v.contains k = true
      · rw [hv, if_pos (by simpa using e), if_pos rfl]
        rfl
      · rw [Bool.eq_false_iff.mpr hv]
        rfl
  rw [e, S4_plus, S4_one _ _ _ (there_nodup _), if_pos (mem_there_jobs.mpr hb)]
theorem takenBut_all {a : Abs} (h : Wf a) {l : List Nat} (hc : ByCame a l) (i : Nat) : takenBut a (byRank a l (runs a) 8) i = z4 := by
  rw [takenBut_if]
  rw [show S4 (fun j => if (byRank a l (runs a) 8).contains j = true then z4 else onJ a i j) (there a.jobs) = S4 (fun _ => z4) (there a.jobs) from S4_congr fun j hj => by
    by_cases hr : runs a j = true
    · rw [if_pos (List.contains_iff_mem.mpr (byRank_mem.mpr ⟨(hc.mem j).mpr (mem_there_jobs.mp hj), hr, rank_lt h j⟩))]
    · split
      · rfl
      · refine onJ_waits fun r e => ?_
        unfold runs at hr
        rw [e] at hr
        cases e2 : r.at_ with
        | none => rfl
        | some p =>
          have : r.at_.isSome = true := by rw [e2]; rfl
          exact absurd this hr]
  exact S4_zero _
theorem room_has {a : Abs} {out : List Nat} {i : Nat} {m : Machine} (e : machine a i = some m) : roomAt a out i = { m with has := m.has.less (takenBut a out i) } := by
  unfold roomAt
  rw [e]
theorem room_back {a : Abs} (h : Wf a) {v : List Nat} {j i : Nat} {m : Machine} (e : machine a i = some m) (hj : v.contains j = true) (hb : (job a j).isSome = true) :
    ((roomAt a v i).has.less (onJ a i j)) = (roomAt a (v.filter (· != j)) i).has ∧ Le4 (onJ a i j) (roomAt a v i).has := by
  rw [room_has e, room_has e]
  show (m.has.less _).less _ = m.has.less _ ∧ Le4 _ (m.has.less _)
  rw [takenBut_back i hj hb, less_plus]
  refine ⟨rfl, le4_less ?_⟩
  rw [← takenBut_back i hj hb]
  exact (takenBut_le a _ i).trans (h.fit i m e)
theorem onJ_is {a : Abs} {i j : Nat} {r : Run} (e : job a j = some r) : onJ a i j = r.job.wants.times (Kp178.on (r.at_.getD []) i) := by
  unfold onJ
  rw [e]
  show onIt r i = _
  unfold onIt
  cases r.at_ with
  | none => exact (times_zero _).symm
  | some p => rfl
theorem filter_head {j : Nat} {l : List Nat} (pre : List Nat) (h : (pre ++ j :: l).Nodup) : (pre ++ j :: l).filter (· != j) = pre ++ l := by
  have h1 := List.nodup_append.mp h
  have h2 := List.nodup_cons.mp h1.2.1
  rw [List.filter_append, List.filter_cons, if_neg (by simp), List.filter_eq_self.mpr fun k hk => ?_, List.filter_eq_self.mpr fun k hk => ?_]
  · have : k ≠ j := fun e => h2.1 (by rw [← e]; exact hk)
    simpa using this
  · have := h1.2.2 k hk j List.mem_cons_self
    simpa using this
theorem nodup_drop_head {j : Nat} {l pre : List Nat} (h : (pre ++ j :: l).Nodup) : (pre ++ l).Nodup := by
  rw [← filter_head pre h]
  exact List.Pairwise.filter _ h
def spare (a : Abs) (q : Job) (v : List Nat) (j : Nat) : List Nat := if (canHave a q (v.filter (· != j))).isSome then v.filter (· != j) else v
theorem plan_eq (a : Abs) (q : Job) : plan a q = match canHave a q (lesser a q.rank) with
    | none => none
    | some _ => (canHave a q ((lesser a q.rank).foldl (spare a q) (lesser a q.rank))).map fun p => ((lesser a q.rank).foldl (spare a q) (lesser a q.rank), p) := rfl
theorem plan_none {a : Abs} {q : Job} (h : canHave a q (lesser a q.rank) = none) : plan a q = none := by
  rw [plan_eq, h]
theorem plan_is {a : Abs} {q : Job} {p : List Nat} (h : (canHave a q (lesser a q.rank)).isSome = true) (hp : canHave a q ((lesser a q.rank).foldl (spare a q) (lesser a q.rank)) = some p) : plan a q = some ((lesser a q.rank).foldl (spare a q) (lesser a q.rank), p) := by
  rw [plan_eq]
  cases e : canHave a q (lesser a q.rank) with
  | none =>
    rw [e] at h
    cases h
  | some _ =>
    dsimp only
    rw [hp]
    rfl
structure SInv (a : Abs) (q : Job) (rest put : List Nat) : Prop where
  fold : (lesser a q.rank).foldl (spare a q) (lesser a q.rank) = rest.foldl (spare a q) (put ++ rest)
  nd : (put ++ rest).Nodup
  sub : ∀ j ∈ put ++ rest, j ∈ lesser a q.rank
  can : (canHave a q (put ++ rest)).isSome = true
  all : (canHave a q (lesser a q.rank)).isSome = true
theorem SInv.spared {a : Abs} {q : Job} {j : Nat} {rest put : List Nat} (I : SInv a q (j :: rest) put) (h : (canHave a q (put ++ rest)).isSome = true) : SInv a q rest put := by
  have e := filter_head put I.nd
  refine ⟨?_, nodup_drop_head I.nd, fun k hk => I.sub k ?_, h, I.all⟩
  · rw [I.fold, List.foldl_cons]
    unfold spare
    rw [e, if_pos h]
  · rcases List.mem_append.mp hk with z | z
    · exact List.mem_append.mpr (.inl z)
    · exact List.mem_append.mpr (.inr (List.mem_cons_of_mem _ z))
theorem SInv.out {a : Abs} {q : Job} {j : Nat} {rest put : List Nat} (I : SInv a q (j :: rest) put) (h : ¬ (canHave a q (put ++ rest)).isSome = true) : SInv a q rest (put ++ [j]) := by
  have e := filter_head put I.nd
  have e2 : (put ++ [j]) ++ rest = put ++ j :: rest := by simp
  refine ⟨?_, by rw [e2]; exact I.nd, by rw [e2]; exact I.sub, by rw [e2]; exact I.can, I.all⟩
  rw [I.fold, List.foldl_cons, e2]
  unfold spare
  rw [e, if_neg h]
theorem SInv.start {a : Abs} {q : Job} (hn : (lesser a q.rank).Nodup) (h : (canHave a q (lesser a q.rank)).isSome = true) : SInv a q (lesser a q.rank) [] := ⟨rfl, hn, fun _ h => h, h, h⟩
theorem SInv.done {a : Abs} {q : Job} {put : List Nat} (I : SInv a q [] put) : ∃ p, canHave a q put = some p ∧ plan a q = some (put, p) := by
  have hc := I.can
  rw [List.append_nil] at hc
  obtain ⟨p, hp⟩ := Option.isSome_iff_exists.mp hc
  have e : (lesser a q.rank).foldl (spare a q) (lesser a q.rank) = put := by
    have := I.fold
    rw [List.append_nil] at this
    exact this
  refine ⟨p, hp, ?_⟩
  rw [plan_is I.all (by rw [e]; exact hp), e]
end Jo
end
section
set_option autoImplicit false
set_option linter.all false
namespace Jo
open Kp179
open Kp178 (Four Machine Job goodMachine goodJob)
theorem jobs_ext {l m : List (Option Run)} (hl : l.length = m.length) (h : ∀ k : Nat, (l[k]?).join = (m[k]?).join) : l = m := by
  refine List.ext_getElem? fun k => ?_
  have hk := h k
  by_cases hlt : k < l.length
  · rw [List.getElem?_eq_getElem hlt, List.getElem?_eq_getElem (by omega)] at hk ⊢
    exact congrArg some hk
  · rw [List.getElem?_eq_none (by omega), List.getElem?_eq_none (by omega)]
theorem abs_ext {a b : Abs} (hm : a.machines = b.machines) (hc : a.clock = b.clock) (hl : a.jobs.length = b.jobs.length) (h : ∀ k, job a k = job b k) : a = b := by
  cases a
  cases b
  cases hm
  cases hc
  have := jobs_ext hl h
  cases this
  rfl
theorem out_congr {a : Abs} {l m : List Nat} (h : ∀ k, k ∈ l ↔ k ∈ m) : out a l = out a m := by
  refine abs_ext (by rw [out_machines, out_machines]) (by rw [out_clock, out_clock]) (by rw [out_len, out_len]) fun k => ?_
  rw [job_out, job_out]
  by_cases hk : k ∈ l
  · rw [if_pos hk, if_pos ((h k).mp hk)]
  · rw [if_neg hk, if_neg fun z => hk ((h k).mpr z)]
theorem S4_append (f : Nat → Four) : ∀ (l m : List Nat), S4 f (l ++ m) = (S4 f l).plus (S4 f m)
  | [], m => (zero_plus _).symm
  | x :: l, m => by
    show (f x).plus (S4 f (l ++ m)) = ((f x).plus (S4 f l)).plus (S4 f m)
    rw [S4_append f l m, plus_assoc]
theorem S4_perm (f : Nat → Four) {l m : List Nat} (h : l.Perm m) : S4 f l = S4 f m := by
  induction h with
  | nil => rfl
  | cons x _ ih =>
    show (f x).plus _ = (f x).plus _
    rw [ih]
  | swap x y l =>
    show (f y).plus ((f x).plus _) = (f x).plus ((f y).plus _)
    rw [← plus_assoc, ← plus_assoc, plus_comm (f y)]
  | trans _ _ ih1 ih2 => exact ih1.trans ih2
theorem le4_plus_left (x y : Four) : Le4 x (x.plus y) := by
  refine ⟨?_, ?_, ?_, ?_⟩ <;> simp only [Four.plus] <;> omega
theorem taken_some {a : Abs} (h : Wf a) {jk : List Nat} (hc : ByCame a jk) {i : Nat} {m : Machine} (e : machine a i = some m) (n : Nat) : Le4 (S4 (onJ a i) (jk.take n)) m.has := by
  refine Le4.trans ?_ (h.fit i m e)
  rw [taken_eq, ← S4_perm _ hc.perm]
  have : jk = jk.take n ++ jk.drop n := (List.take_append_drop n jk).symm
  rw [show S4 (onJ a i) jk = (S4 (onJ a i) (jk.take n)).plus (S4 (onJ a i) (jk.drop n)) by rw [← S4_append, List.take_append_drop]]
  exact le4_plus_left _ _
theorem taken_all {a : Abs} {jk : List Nat} (hc : ByCame a jk) (i : Nat) : S4 (onJ a i) jk = takenBut a [] i := by
  rw [taken_eq, S4_perm _ hc.perm]
theorem hasOn_is {a : Abs} {i j : Nat} {r : Run} (e : job a j = some r) : hasOn a i j = (r.at_.getD []).contains i := by
  unfold hasOn
  rw [e]
  show (match r.at_ with
    | some p => p.contains i
    | none => false) = _
  cases r.at_ <;> rfl
theorem act_machine (a : Abs) (i : Nat) (m : Machine) : act a (.machine i m) = if 64 ≤ i then (a, .num (-2)) else if (machine a i).isSome then (a, .num (-17)) else if goodMachine m = false then (a, .num (-22)) else ({ a with machines := a.machines.set i (some m) }, .num ((there a.machines).length + 1 : Nat)) := rfl
theorem act_job (a : Abs) (j : Nat) (q : Job) : act a (.job j q) = if 128 ≤ j then (a, .num (-2)) else if (job a j).isSome then (a, .num (-17)) else if goodJob q = false then (a, .num (-22)) else (⟨a.machines, a.jobs.set j (some ⟨q, a.clock, none⟩), a.clock + 1⟩, .num ((there a.jobs).length + 1 : Nat)) := rfl
theorem act_end (a : Abs) (j : Nat) : act a (.end_ j) = match job a j with
    | none => (a, .num (-2))
    | some _ => ({ a with jobs := a.jobs.set j none }, .num ((there a.jobs).length - 1 : Nat)) := rfl
theorem act_where (a : Abs) (j : Nat) : act a (.where_ j) = (a, match job a j with
    | none => .num (-2)
    | some r => match r.at_ with
      | none => .num (-11)
      | some p => .places p) := rfl
theorem act_free (a : Abs) (i : Nat) : act a (.free i) = (a, match machine a i with
    | none => .num (-2)
    | some m => .free (m.has.less (takenBut a [] i))) := rfl
end Jo
end
section
set_option Elab.async false
set_option linter.all false
set_option maxRecDepth 100000
namespace L2
open PySem PySem.Spec PyProof.Rows
theorem for_it {J : It} {n : Nat} {g : TG} {tb : TS} {D : Ends} {σ : St} {H : Hp} (Pv : Nat → St → Hp → Prop) (h0 : Pv 0 σ H) (hgo : ∀ i σ H, i < n → Pv i σ H → J.go i H) (hst : ∀ σ H, Pv n σ H → J.stop n H)
    (hs : ∀ i x σ H H', i < n → Pv i σ H → J.yld i H x H' → g x σ H' fun σ2 H2 => tb { D with nx := Pv (i + 1), ct := Pv (i + 1), bk := D.nx } σ2 H2) (hd : ∀ σ H, Pv n σ H → D.nx σ H) :
    ∃ W : Nat → Nat → St → Hp → Prop, (∃ m, W 0 m σ H) ∧ ∀ i m σ H, W i m σ H →
      (J.stop i H ∧ D.nx σ H) ∨ (J.go i H ∧ ∃ N : St → Hp → Prop, (∀ σ' H', N σ' H' → ∃ m', m' < m ∧ W (i + 1) m' σ' H') ∧ ∀ x H', J.yld i H x H' → g x σ H' fun σ2 H2 => tb { D with nx := N, ct := N, bk := D.nx } σ2 H2) := by
  refine ⟨fun i m σ H => m = n - i ∧ i ≤ n ∧ Pv i σ H, ⟨n, by simp, Nat.zero_le _, h0⟩, ?_⟩
  rintro i m σ H ⟨rfl, hi, p⟩
  by_cases hlt : i < n
  · exact .inr ⟨hgo i σ H hlt p, Pv (i + 1), fun σ' H' p' => ⟨n - (i + 1), by omega, rfl, hlt, p'⟩, fun x H' y => hs i x σ H H' hlt p y⟩
  · have e : i = n := by omega
    subst e
    exact .inl ⟨hst σ H p, hd σ H p⟩
theorem lc_it {J : It} {n : Nat} {g : TG} {tt : TT} {te : TE} {vs : List Nat} {σ : St} {H1 : Hp} {D : Addr} {Qd : Hp → Prop} (Pv : Nat → Hp → Prop) (h0 : Pv 0 (upd H1 D (.lst []))) (hgo : ∀ i H, i < n → Pv i H → J.go i H) (hst : ∀ H, Pv n H → J.stop n H)
    (hs : ∀ i x H H', i < n → Pv i H → J.yld i H x H' → g x (wipe σ vs) H' fun σ2 H2 => wipe σ2 vs = wipe σ vs ∧ tt σ2 H2 fun b H3 =>
      if b = true then te σ2 H3 fun y H4 => ∃ acc, H4 D = some (.lst acc) ∧ acc.length < sizeLine ∧ Pv (i + 1) (upd H4 D (.lst (acc ++ [y]))) else Pv (i + 1) H3) (hd : ∀ H, Pv n H → Qd H) :
    ∃ W : Nat → Nat → Hp → Prop, (∃ m, W 0 m (upd H1 D (.lst []))) ∧ ∀ i m H, W i m H →
      (J.stop i H ∧ Qd H) ∨ (J.go i H ∧ ∃ Nx : Hp → Prop, (∀ H', Nx H' → ∃ m', m' < m ∧ W (i + 1) m' H') ∧ ∀ x H', J.yld i H x H' → g x (wipe σ vs) H' fun σ2 H2 => wipe σ2 vs = wipe σ vs ∧ tt σ2 H2 fun b H3 =>
        if b = true then te σ2 H3 fun y H4 => ∃ acc, H4 D = some (.lst acc) ∧ acc.length < sizeLine ∧ Nx (upd H4 D (.lst (acc ++ [y]))) else Nx H3) := by
  refine ⟨fun i m H => m = n - i ∧ i ≤ n ∧ Pv i H, ⟨n, by simp, Nat.zero_le _, h0⟩, ?_⟩
  rintro i m H ⟨rfl, hi, p⟩
  by_cases hlt : i < n
  · exact .inr ⟨hgo i H hlt p, Pv (i + 1), fun H' p' => ⟨n - (i + 1), by omega, rfl, hlt, p'⟩, fun x H' y => hs i x H H' hlt p y⟩
  · have e : i = n := by omega
    subst e
    exact .inl ⟨hst H p, hd H p⟩
section
variable {X : Cx}
def rSortedL (K : PySem.W.Frag) : List V → Hp → VK → Prop := fun vs H Q => ∃ (a : Addr) (ns : List Int), vs = [V.ref a] ∧ SqL K H a (ns.map V.int) ∧
  ∀ (ns' : List Int) (p : Addr), ns'.Perm ns → ns'.Pairwise (· ≤ ·) → H p = none → Q (.ref p) (upd H p (.lst (ns'.map V.int)))
theorem cr_sortedL : CallR X (.builtin "sorted") (rSortedL X.K) := by
  intro pins s σ H vs us Q I r h
  obtain ⟨a, ns, rfl, hs, q⟩ := h
  obtain ⟨its, rv, hl, hz⟩ := I.list hs
  rw [Vals.ref1 r]
  have hi := rv.ints
  have hz2 : its.length ≤ sizeLine := by
    rw [← rv.length]
    exact hz
  refine PyProof.Rows.sorted_intsAny hl.isList hi hz2 fun out ns' h1 h2 h3 => ?_
  obtain ⟨ep, he'⟩ := PyProof.Rows.sortedAll_at s.heap its out
  have hlen : (ns'.map V.int).length ≤ sizeLine := by
    rw [List.length_map, h2.length_eq, ← hi.length]
    exact hz2
  exact ⟨.ref _, upd H (s.heap.objs.size + 1) (.lst (ns'.map V.int)), I.laid (t' := s.toks) (fun _ _ => PyProof.Rows.sortedAll_old) (Nat.le_succ _) ⟨hlen, out.toList, ep, vals_of_ints h1, he'⟩, rfl, q ns' _ h2 h3 (I.hok.fresh (Nat.le_succ _))⟩
theorem keys_ints {P : Program} {w : World} : ∀ {ks : List Int} {vs : List (Key × Value)} {us : List Value}, vs.map (·.1) = ks.map (fun k => (Sum.inl k : Key)) → us.length = vs.length →
    (∀ (j : Nat) (v : Value), us[j]? = some v → ∃ k x, vs[j]? = some (k, x) ∧ (mixKind P w).is k v = true) → IntsAre us ks
  | [], vs, us, e, hl, h => by
    have : vs = [] := by simpa using e
    subst this
    have : us = [] := by simpa using hl
    subst this
    exact .nil
  | k :: ks, vs, us, e, hl, h => by
    cases vs with
    | nil => simp at e
    | cons p vs =>
      cases us with
      | nil => simp at hl
      | cons u us =>
        simp only [List.map_cons, List.cons.injEq] at e
        obtain ⟨k', x, e1, e2⟩ := h 0 u rfl
        simp at e1
        subst e1
        have e3 : k' = Sum.inl k := e.1
        subst e3
        rcases keyIs_shape (show keyIs (Sum.inl k) u = true from e2) with ⟨i, t, q, rfl⟩ | ⟨_, _, q, _⟩
        · cases q
          exact .cons _ _ (keys_ints (P := P) (w := w) e.2 (by simpa using hl) fun j v hj => by
            obtain ⟨k2, x2, h1, h2⟩ := h (j + 1) v (by simpa using hj)
            exact ⟨k2, x2, by simpa using h1, h2⟩)
        · cases q
def rSortedD : List V → Hp → VK → Prop := fun vs H Q => ∃ (a : Addr) (kvs : List (Key × V)) (ks : List Int), vs = [V.ref a] ∧ Rd H a (.dK kvs) ∧ kvs.map (·.1) = ks.map (fun k => (Sum.inl k : Key)) ∧
  ∀ (ns' : List Int) (p : Addr), ns'.Perm ks → ns'.Pairwise (· ≤ ·) → H p = none → Q (.ref p) (upd H p (.lst (ns'.map V.int)))
theorem kv_keys {κ : Type} {kvs : List (κ × V)} {vs : List (κ × Value)} (h : KV kvs vs) : vs.map (·.1) = kvs.map (·.1) := by
  induction h with
  | nil => rfl
  | cons r _ ih =>
    rw [List.map_cons, List.map_cons, ih, r.1]
theorem collect_dict {P : Program} {w : World} {B : Around} {Ex : Value → Shared → Prop} {z : Shared} {a : Addr} {n : Nat} {Pk : Nat → Value → Prop} {Ok : Heap → Prop} {T : String} {R : List Value → Shared → Prop}
    (K : PySem.W.KdlSrc P w T a a n Pk Ok) (nh : B.handled = none) (ok : Ok z.heap) (small : n ≤ sizeLine)
    (fin : ∀ (h' : Heap) (tk : Nat) (got : Array Value), z.heap.objs.size < h'.objs.size → (∀ b o, z.heap.get? b = some o → h'.get? b = some o) → ItemsOf Pk got n → R got.toList { z with heap := h', toks := tk }) :
    wpAny (model P w) B (collect (.ref a)) R Ex z := by
  have lt := (K.there _ ok).1
  let z1 : Shared := { z with heap := z.heap.push { cls := .type "list", data := .seq ([] : List Value).toArray } }
  have at1 : z1.heap.get? z.heap.objs.size = some { cls := .type "list", data := .seq #[] } := Heap.get?_push_size _ rfl
  have ok1 : Ok z1.heap := K.keep _ _ ok fun b _ o e => Heap.get?_push_of_some _ e
  let Good : Result → Shared → Prop := fun q s' => ∃ (h' : Heap) (tk : Nat) (got : Array Value) (c' : Nat), q = .ok (.ret (.ref z.heap.objs.size)) ∧ s' = { z with heap := h', toks := tk } ∧ (∀ b o, z.heap.get? b = some o → h'.get? b = some o) ∧
    h'.get? z.heap.objs.size = some { cls := .type "list", dict := none, data := .seq got c', slots := #[] } ∧ ItemsOf Pk got n
  have ext := PySem.W.kdl_extend (A := B) (s := z1) (R := Good) K nh ok1 z.heap.objs.size (Nat.ne_of_gt lt) (Nat.ne_of_gt lt) (.ref z.heap.objs.size) 0 at1
    (fun h' tk got c' hk hS' hg => ⟨h', tk, got, c', rfl, rfl, fun b o e => hk b o (Nat.ne_of_lt (Heap.lt_size e)) (Heap.get?_push_of_some _ e), hS', hg⟩) small
  have back : ∀ (q : Result) (s' : Shared), Good q s' → ∃ (h' : Heap) (tk : Nat) (got : Array Value), q = .ok (.ret (.ref z.heap.objs.size)) ∧ s' = { z with heap := h', toks := tk } ∧ wpAny (model P w) B (load z.heap.objs.size >>= fun o => match o.data with
      | .seq xs _ => pure xs.toList
      | _ => unsupported "internal:collect") R Ex s' := by
    rintro q s' ⟨h', tk, got, c', e1, rfl, hk, hS', hg⟩
    exact ⟨h', tk, got, e1, rfl, wpAny_bind (wpAny_load hS' (wpAny_pure (fin h' tk got (Heap.lt_size hS') hk hg)))⟩
  unfold collect
  apply wpAny_bind
  refine wpAny_runValue (codeAny_builtin entry_proto_collect' ?_)
  rw [Around.under_plainId (PySem.F.plain_proto_collect) _]
  show wpAny _ B.in1 (newList [] >>= fun l => again (.builtin "list.__iadd__" ⟨[l, .ref a], []⟩)) _ _ z
  refine wpAny_bind (wpAny_newObj_type (wpAny_pure ⟨plainId_quiet PySem.F.plain_list_iadd _, codeAny_builtin entry_list_iadd' ?_⟩))
  rw [Around.under_plainId (PySem.F.plain_list_iadd) _]
  refine wpAny_mono ext (fun f s' x => ?_) fun e s' x => ?_
  · cases f with
    | done g =>
      obtain ⟨h', tk, got, e1, rfl, q⟩ := back _ _ x
      cases e1
      exact q
    | again c1 =>
      refine ⟨x.1, codeAny_mono x.2 fun q s2 y => ?_⟩
      obtain ⟨h', tk, got, rfl, rfl, q⟩ := back _ _ y
      exact q
  · obtain ⟨_, _, _, _, e1, _⟩ := x
    cases e1
theorem cr_sortedD (hc : X.calm = true) : CallR X (.builtin "sorted") rSortedD := by
  intro pins s σ H vs us Q I r h
  obtain ⟨a, kvs, ks, rfl, hd, hk, q⟩ := h
  obtain ⟨hz, hs, ws, kv, dd⟩ := dk_rd I.hok hd
  obtain ⟨ep, da⟩ := dd.dictAt
  have hl : kvs.length = ws.length := Paired.length kv
  rw [Vals.ref1 r]
  refine Calls.call_function_entry kind_sorted plain_sorted entry_sorted (args_sorted1 _) ?_
  unfold Builtin.«sorted»
  refine wpAny_bind (m := checkCount "sorted" 1 1 _) (wpAny_pure ?_)
  refine wpAny_bind (collect_dict (PySem.W.kdl_dict (knd := mixKind X.prog X.w) (kvs := ws) (ep := ep) hs) (show X.A.in1.handled = none from I.ok.hd hc) da (by rw [← hl]; exact hz) fun h' tk acc hbig hkp hacc => ?_)
  have hln : acc.toList.length = ws.length := by rw [Array.length_toList]; exact hacc.1
  have hln2 : acc.toList.length ≤ sizeLine := by rw [hln, ← hl]; exact hz
  have hi : IntsAre acc.toList ks := keys_ints (P := X.prog) (w := X.w) (vs := ws) (by rw [kv_keys kv]; exact hk) hln fun j v e => hacc.2 j v (by rw [← Array.getElem?_toList]; exact e)
  refine wpAny_bind (wpAny_newList ?_ hln2)
  have hoL : (h'.push (seqObj "list" acc.toList.toArray 0)).get? h'.objs.size = some (seqObj "list" acc.toList.toArray 0) := Heap.get?_push_size _ rfl
  refine wpAny_bind (wpAny_holding (wpAny_call_entry slot_list_sort ⟨_, hoL, rfl⟩ entry_list_sort (list_sort_treeAny hoL hi hln2 fun out ns' h1 h2 h3 => ⟨_, rfl, ?_⟩) (args_list_sort _)))
  refine wpAny_pure ⟨_, rfl, ?_⟩
  obtain ⟨e, he'⟩ := sortedHeap_at (out := out) hoL
  have hlen : (ns'.map V.int).length ≤ sizeLine := by
    rw [List.length_map, h2.length_eq, ← hi.length]
    exact hln2
  have hsz : s.heap.objs.size ≤ h'.objs.size := Nat.le_of_lt hbig
  refine ⟨.ref _, upd H h'.objs.size (.lst (ns'.map V.int)), I.laid (t' := tk) (fun b o ho => ?_) hsz ⟨hlen, out.toList, e, vals_of_ints h1, he'⟩, rfl, q ns' _ h2 h3 (I.hok.fresh hsz)⟩
  have ho' := hkp _ _ ho
  have hlt := Heap.lt_size ho'
  rw [sortedHeap_old (Nat.ne_of_lt hlt) (by rw [size_push']; exact Nat.lt_succ_of_lt hlt)]
  exact Heap.get?_push_of_some _ ho'
theorem call_min3 (hc : X.calm = true) : CallR X (.builtin "min") (fun xs H Q => ∃ i j k, xs = [.int i, .int j, .int k] ∧ Q (.int (min (min i j) k)) H) := by
  intro pins s σ H xs us Q I r h
  obtain ⟨i, j, k, rfl, q⟩ := h
  cases r with
  | cons r1 r =>
    cases r with
    | cons r2 r =>
      cases r with
      | cons r3 r =>
        cases r
        obtain ⟨t, rfl⟩ := r1
        obtain ⟨t2, rfl⟩ := r2
        obtain ⟨t3, rfl⟩ := r3
        refine min_three_ints (I.ok.hd hc) fun h' tk hk => ⟨_, H, I.kept hk, ?_, q⟩
        by_cases h1 : j < i
        · rw [if_pos h1]
          by_cases h2 : k < j
          · rw [if_pos h2]
            exact ⟨t3, by rw [show min (min i j) k = k by omega]⟩
          · rw [if_neg h2]
            exact ⟨t2, by rw [show min (min i j) k = j by omega]⟩
        · rw [if_neg h1]
          by_cases h2 : k < i
          · rw [if_pos h2]
            exact ⟨t3, by rw [show min (min i j) k = k by omega]⟩
          · rw [if_neg h2]
            exact ⟨t, by rw [show min (min i j) k = i by omega]⟩
theorem call_dictD : CallR X (.type "dict") (fun xs H Q => ∃ a kvs, xs = [.ref a] ∧ Rd H a (.dK kvs) ∧ ∀ p, H p = none → Q (.ref p) (upd H p (.dK kvs))) := by
  intro pins s σ H xs us Q I r h
  obtain ⟨a, kvs, rfl, hd, q⟩ := h
  rw [Vals.ref1 r]
  exact d_copyOf I hd fun p s' hp I' => ⟨.ref p, _, I', rfl, q p hp⟩
def rCount (K : PySem.W.Frag) : V → List V → Hp → VK → Prop := fun x xs H Q => ∃ (a : Addr) (ns : List Int) (i : Int), x = V.ref a ∧ xs = [.int i] ∧ SqL K H a (ns.map V.int) ∧ Q (.int (ns.count i : Nat)) H
theorem mt_lcount : MtR X "list.count" (rCount X.K) := by
  intro pins s σ H x xs v us Q I rx rxs h
  obtain ⟨a, ns, i, rfl, rfl, hs, q⟩ := h
  cases rx
  obtain ⟨u, rfl, t, rfl⟩ := rxs.one
  obtain ⟨its, rv, hl, hz⟩ := I.list hs
  refine count_list_ints hl.isList rv.ints ?_
  exact ⟨.int (ns.count i : Nat), H, I.tok _, ⟨_, rfl⟩, q⟩
def tOrI (ta tb : TE) : TE := fun σ H Q => ta σ H fun x H1 => ∃ i, x = .int i ∧ if i = 0 then tb σ H1 Q else Q (.int i) H1
theorem pe_orI {a b : Expr} {rest : List Expr} {pos : Pos} {ta tb : TE} (ha : PE X a ta) (hb : PE X (.BoolOp .Or (b :: rest) pos) tb) : PE X (.BoolOp .Or (a :: b :: rest) pos) (tOrI ta tb) := by
  intro pins s σ H Q I h
  refine BoolOp_or (thn (ha pins s σ H _ I h) fun v s1 ⟨x, H1, I1, r1, i, e, q1⟩ => ?_)
  subst e
  obtain ⟨t, rfl⟩ := r1
  refine truthy_int ?_
  by_cases hi : i = 0
  · subst hi
    rw [if_pos rfl] at q1
    rw [if_neg (by simp)]
    exact hb pins s1 σ H1 Q I1 q1
  · rw [if_neg hi] at q1
    rw [if_pos (by simpa using hi)]
    exact ⟨.int i, H1, I1, ⟨t, rfl⟩, q1⟩
end
end L2
end
section
set_option Elab.async false
set_option linter.all false
set_option maxRecDepth 100000
namespace L2
open PySem PySem.Spec PyProof.Rows
section
variable {X : Cx}
def rGetL (K : PySem.W.Frag) : V → V → Hp → VK → Prop := fun o i H Q => ∃ (p : Addr) (xs : List V) (j : Nat) (v : V), o = .ref p ∧ i = .int (j : Int) ∧ SqL K H p xs ∧ xs[j]? = some v ∧ Q v H
theorem get_list : PGet X (rGetL X.K) := by
  intro pins s σ H o i ov iv Q I ro ri h
  obtain ⟨p, xs, j, v, rfl, rfl, hq, hj, q⟩ := h
  cases ro
  obtain ⟨t, rfl⟩ := ri
  obtain ⟨its, r, pl, hz⟩ := I.list hq
  obtain ⟨u, eu, ru⟩ := r.get hj
  have hl := r.length
  have hn := line63
  have hlt : j < xs.length := (List.getElem?_eq_some_iff.mp hj).1
  exact wpAny_getItem_list pl.isList (by omega) (by omega) (by simpa using eu) ⟨v, H, I, ru, q⟩
structure KDict (K : PySem.W.Frag) (d : Addr) (kvs : List (Int × Int)) : Prop where
  ex : ∃ (es : List DictEntry) (ep : Nat), K.lookup d = some ⟨.type "dict", none, .dict es.toArray ep, #[]⟩ ∧ Paired (fun (p : Int × Int) (e : DictEntry) => e.hash = hashInt p.1 ∧ (∃ t, e.key = .int p.1 t) ∧ ∃ t, e.val = .int p.2 t) kvs es
  nd : (kvs.map (·.1)).Nodup
  lo : (d == sysModules) = false
theorem kd_of {P : Program} {w : World} : ∀ {kvs : List (Int × Int)} {es : List DictEntry}, Paired (fun (p : Int × Int) (e : DictEntry) => e.hash = hashInt p.1 ∧ (∃ t, e.key = .int p.1 t) ∧ ∃ t, e.val = .int p.2 t) kvs es →
    ∃ vs : List (Key × Value), Pairs (mixKind P w) es vs ∧ (∀ e ∈ es, ∃ k, (mixKind P w).is k e.key = true ∧ e.hash = (mixKind P w).hash k) ∧ KV (kvs.map fun p => ((Sum.inl p.1 : Key), V.int p.2)) vs
  | _, _, .nil => ⟨[], .nil, fun e he => absurd he (by simp), .nil⟩
  | _, _, .cons (a := p) (b := e) r t => by
    obtain ⟨vs, h1, h2, h3⟩ := kd_of (P := P) (w := w) t
    obtain ⟨rh, ⟨tk, rk⟩, tv, rv⟩ := r
    have hk : (mixKind P w).is (Sum.inl p.1) e.key = true := by
      rw [rk]
      exact mixKind_int P w _ _
    refine ⟨(Sum.inl p.1, .int p.2 tv) :: vs, .cons hk rv h1, fun e' he => ?_, .cons ⟨rfl, tv, rfl⟩ h3⟩
    rcases List.mem_cons.mp he with z | z
    · subst z
      exact ⟨Sum.inl p.1, hk, rh⟩
    · exact h2 e' z
theorem KDict.dictOf {K : PySem.W.Frag} {d : Addr} {kvs : List (Int × Int)} {P : Program} {w : World} {h : Heap} (D : KDict K d kvs) (hk : K.In h) : ∃ vs, KV (kvs.map fun p => ((Sum.inl p.1 : Key), V.int p.2)) vs ∧ h.DictOf (mixKind P w) d vs := by
  obtain ⟨es, ep, lk, pr⟩ := D.ex
  obtain ⟨vs, h1, h2, h3⟩ := kd_of (P := P) (w := w) pr
  refine ⟨vs, h3, _, es.toArray, ep, hk _ _ lk, ⟨rfl, rfl, rfl⟩, rfl, fun e he => h2 e (by simpa using he), by simpa using h1, ?_⟩
  rw [kv_keys h3, List.map_map]
  have e : ((fun x => x.fst) ∘ fun (p : Int × Int) => ((Sum.inl p.1 : Key), V.int p.2)) = (fun p : Int × Int => (Sum.inl p.1 : Key)) := rfl
  rw [e]
  have nd := D.nd
  refine List.pairwise_map.mpr ((List.pairwise_map.mp nd).imp fun hne z => hne (Sum.inl.inj z))
def tKGet (kvs : List (Int × Int)) (ty tx : TE) : TE := fun σ H Q => ty σ H fun y H1 => tx σ H1 fun z H2 => ∃ i, y = .int i ∧ Q ((valV (kvs.map fun p => ((Sum.inl p.1 : Key), V.int p.2)) (Sum.inl i)).getD z) H2
theorem pe_kget2 {x : Str} {d : Addr} {kvs : List (Int × Int)} {e f : Expr} {p apos cpos : Pos} {ty tx : TE} (hg : Gl X x) (hm : X.mg x = some (.ref d)) (D : KDict X.K d kvs) (he : PE X e ty) (hf : PE X f tx) (m : M2 X (.Name x p) "get" apos e f cpos)
    (hdb : (x == ("__debug__" : Str)) = false := by decide) : PE X (.Call (.Attribute (.Name x p) "get" apos) [e, f] [] cpos) (tKGet kvs ty tx) := by
  intro pins s σ H Q I h
  refine wpAny_Call_method m.base m.few m.line PySem.F.plainAttrs_dict PySem.F.slot_dict_get PySem.F.type_dict_get (ld_glob I hg hm ?_ hdb)
  obtain ⟨vs, kv, dd⟩ := D.dictOf (P := X.prog) (w := X.w) I.kIn
  refine ⟨dd.typeIs, dd.mapOf.noDict, ?_⟩
  rw [m.trees]
  refine Calls.callWith_builtin rfl (Calls.evalArgs_plain (Calls.spliced_cons (thn (he pins s σ H _ I h) fun iv s2 ⟨y, H2, I2, ry, q2⟩ => Calls.spliced_cons (thn (hf pins s2 σ H2 _ I2 q2) fun fv s3 ⟨z, H3, I3, rz, i, ey, q3⟩ => Calls.spliced_nil ?_))))
  subst ey
  obtain ⟨vs3, kv3, dd3⟩ := D.dictOf (P := X.prog) (w := X.w) I3.kIn
  refine call_meetsIn PySem.F.slot_dict_get dd3.typeIs PySem.F.entry_dict_get (PySem.F.args_dict_get_3 _ _ _) (meets_dict_get_default (mixKind X.prog X.w) d (kV_is (k := Sum.inl i) ry) D.lo fv) ⟨_, dd3.mapOf, _, H3, I3.tok _, ?_, q3⟩
  exact (kv3.val (Sum.inl i)).getD rz
end
theorem spec_call {P : Program} {w : World} {K : PySem.W.Frag} {mg mb : Str → Option Value} {CX : CXT} {k : Nat} {fa a : Addr} {fd : FuncData} {x : Str} {sp : Sp} {s₁ : Shared} {vs : List Value} {ns out : List Int}
    (KX : K.In s₁.heap) (hns : s₁.heap.Ns mainGlobals mg) (hb : s₁.heap.Ns builtinsNs mb) (hbb : ∀ x : Str, x ≠ "__name__" → mb x = bootBuiltins x) (hlim : s₁.heap.NoLimit) (hg : s₁.gens = #[])
    (ha : s₁.heap.get? a = some { cls := .type "list", data := .seq vs.toArray }) (hi : IntsAre vs ns) (hl : ns.length ≤ sizeLine) (hr : Room k callerA)
    (F : ∀ base : Heap, K.In base → base.Ns mainGlobals mg → FnOk P w K mg base CX k fa fd [x] sp) (hbind : ∀ (s : Shared) (u : Value), BindsTo s fd ⟨[u], []⟩ [(x, u)])
    (hsp : ∀ H : Hp, Only H → SqL K H a (ns.map V.int) → sp [.ref a] H (fun v H' => ∃ p, v = .ref p ∧ H' p = some (.lst (out.map V.int))) fun _ _ _ => False)
    (hCX : ∀ H e s', CX [] H s₁ (fun _ _ _ => False) e s' → False) :
    codeAny (model P w) callerA (.call (.ref fa) ⟨[.ref a], []⟩) (fun r s' => (∃ p its, r = .ok (.ret (.ref p)) ∧ s'.heap.IsList p its ∧ IntsAre its.toList out) ∧ OldK s₁.heap s'.heap ∧ s'.os = s₁.os ∧ AllBare s'.gens) s₁ := by
  have rv := vals_ints hi
  have lenV := hi.length
  -- from an abstract heap in which nothing but the script may be tracked
  have core : ∀ H : Hp, Only H → SqL K H a (ns.map V.int) → HOk P w H s₁.heap → (∀ b, H b ≠ none → b = a) → (H a ≠ none → K.lookup a = none) →
      codeAny (model P w) callerA (.call (.ref fa) ⟨[.ref a], []⟩) (fun r s' => (∃ p its, r = .ok (.ret (.ref p)) ∧ s'.heap.IsList p its ∧ IntsAre its.toList out) ∧ OldK s₁.heap s'.heap ∧ s'.os = s₁.os ∧ AllBare s'.gens) s₁ := by
    intro H hO hS hok hA hK
    have base_of : ∀ {b : Addr} {o : Obj}, s₁.heap.get? b = some o → H b = none → (hidT s₁.heap H).get? b = some o := fun e n => hidT_get e n
    have noA : ∀ {b : Addr} {o : Obj} {es : Array DictEntry} {ep : Nat}, s₁.heap.get? b = some o → o.data = .dict es ep → H b = none := fun {b o es ep} e d => by
      cases q : H b with
      | none => rfl
      | some u =>
        have e' : b = a := hA b (by rw [q]; simp)
        subst e'
        rw [ha] at e; cases e
        have d' : Data.seq vs.toArray _ = Data.dict es ep := d
        cases d'
    have nsK : ∀ {b : Addr} {m : Str → Option Value}, s₁.heap.Ns b m → (hidT s₁.heap H).Ns b m := fun {b m} ⟨o, es, ep, e, d, r⟩ => ⟨o, es, ep, base_of e (noA e d), d, r⟩
    have hKb : K.In (hidT s₁.heap H) := fun b o e => base_of (KX b o e) (by
      cases q : H b with
      | none => rfl
      | some u =>
        have e' : b = a := hA b (by rw [q]; simp)
        subst e'
        rw [hK (by rw [q]; simp)] at e; cases e)
    have hM : Mod K mg (hidT s₁.heap H) := ⟨hKb, nsK hns, ⟨mb, nsK hb, hbb⟩, let ⟨mc, h1, h2⟩ := hlim; ⟨mc, nsK h1, h2⟩⟩
    have e0 : Env0 P w K mg (hidT s₁.heap H) callerA [] s₁ H := ⟨rfl, hM, fun b o e => of_hidT e, Nat.le_of_eq (hidT_size _ _), trivial, fun b hb => absurd (show b ∈ ([] : List Addr) from hb) (by simp), hok, .of_eq hg⟩
    refine codeAny_mono ((F _ hKb (nsK hns)).run callerA [] s₁ H ⟨[.ref a], []⟩ [.ref a] [.ref a] _ _ hr e0 (hbind s₁ (.ref a)) (.cons rfl .nil) (hsp H hO hS)) fun r s' h => ?_
    cases r with
    | error e => exact (hCX H e s' h).elim
    | ok fl =>
      cases fl with
      | next => exact False.elim h
      | brk => exact False.elim h
      | cont => exact False.elim h
      | ret u =>
        obtain ⟨v, H', os, bare, un, hok', r', q⟩ := h
        obtain ⟨p, q', hp⟩ := (show ∃ p, v = .ref p ∧ H' p = some (.lst (out.map V.int)) from q)
        subst q'
        obtain rfl : u = Value.ref p := r'
        obtain ⟨_, its, n, rv', e'⟩ := hok' p _ hp
        refine ⟨⟨p, its.toArray, rfl, ⟨_, e', rfl, n, rfl⟩, by simpa using rv'.ints⟩, OldK.of_keep fun b o e => ?_, os, bare⟩
        cases q : H b with
        | none => exact un.keep b o e q (by intro z; exact absurd (show b ∈ ([] : List Addr) from z) (by simp)) (by simp)
        | some u =>
          rcases hO b with z | ⟨ob, xs, z⟩
          · rw [q] at z; cases z
          · have z2 := un.frzs b ob _ z
            obtain ⟨e1, _⟩ := hok b _ z
            obtain ⟨e2, _⟩ := hok' b _ z2
            rw [e] at e1; cases e1
            exact e2
  cases hk : K.lookup a with
  | some o =>
    -- the script is one of the module's own objects
    have e := KX a o hk
    rw [ha] at e
    cases e
    refine core (fun _ => none) (fun _ => .inl rfl) (.inr ⟨_, vs.toArray, _, hk, rfl, rfl, rfl, by rw [List.size_toArray, lenV]; exact hl, by simpa using rv⟩) (fun b u z => by have z' : (none : Option HO) = some u := z; cases z') (fun b z => absurd rfl z) fun z => absurd rfl z
  | none =>
    refine core (fun b => if b = a then some (.frz { cls := .type "list", data := .seq vs.toArray } (.lst (ns.map V.int))) else none) (fun b => ?_) (.inl (.inr ⟨{ cls := .type "list", data := .seq vs.toArray }, if_pos rfl⟩)) (fun b u z => ?_) (fun b z => ?_) fun _ => hk
    · by_cases hb : b = a
      · exact .inr ⟨_, _, if_pos hb⟩
      · exact .inl (if_neg hb)
    · by_cases hb : b = a
      · have z' := (if_pos hb).symm.trans z
        cases z'
        subst hb
        exact ⟨ha, by rw [List.length_map]; exact hl, vs, _, rv, ha⟩
      · have z' := (if_neg hb).symm.trans z
        cases z'
    · by_cases hb : b = a
      · exact hb
      · exact absurd (if_neg hb) z
end L2
namespace Jo
open PySem PySem.W PyProof.Rows
abbrev R := PySem.Challenge.rw_jobyard_s01_answers
theorem us1 {α : Type} {C : List α → Prop} : ∀ {us : List α}, us.length = 1 → (∀ a, C [a]) → C us
  | [a], _, k => k a
theorem us2 {α : Type} {C : List α → Prop} : ∀ {us : List α}, us.length = 2 → (∀ a b, C [a, b]) → C us
  | [a, b], _, k => k a b
theorem us3 {α : Type} {C : List α → Prop} : ∀ {us : List α}, us.length = 3 → (∀ a b c, C [a, b, c]) → C us
  | [a, b, c], _, k => k a b c
theorem us4 {α : Type} {C : List α → Prop} : ∀ {us : List α}, us.length = 4 → (∀ a b c d, C [a, b, c, d]) → C us
  | [a, b, c, d], _, k => k a b c d
theorem bd1 {fd : FuncData} {ps : List Str} {us : List Value} (h : us.length = 1) (k : ∀ a, bindArgs fd ⟨[a], []⟩ = pure (ps.zip [a])) : bindArgs fd ⟨us, []⟩ = pure (ps.zip us) := us1 (C := fun us => bindArgs fd ⟨us, []⟩ = pure (ps.zip us)) h k
theorem bd2 {fd : FuncData} {ps : List Str} {us : List Value} (h : us.length = 2) (k : ∀ a b, bindArgs fd ⟨[a, b], []⟩ = pure (ps.zip [a, b])) : bindArgs fd ⟨us, []⟩ = pure (ps.zip us) := us2 (C := fun us => bindArgs fd ⟨us, []⟩ = pure (ps.zip us)) h k
theorem bd3 {fd : FuncData} {ps : List Str} {us : List Value} (h : us.length = 3) (k : ∀ a b c, bindArgs fd ⟨[a, b, c], []⟩ = pure (ps.zip [a, b, c])) : bindArgs fd ⟨us, []⟩ = pure (ps.zip us) := us3 (C := fun us => bindArgs fd ⟨us, []⟩ = pure (ps.zip us)) h k
theorem bd4 {fd : FuncData} {ps : List Str} {us : List Value} (h : us.length = 4) (k : ∀ a b c d, bindArgs fd ⟨[a, b, c, d], []⟩ = pure (ps.zip [a, b, c, d])) : bindArgs fd ⟨us, []⟩ = pure (ps.zip us) := us4 (C := fun us => bindArgs fd ⟨us, []⟩ = pure (ps.zip us)) h k
theorem dec_ints {lo hi : Int} : ∀ {ds : List WData} {ns : List Int}, Codec.decItems (Codec.decInt lo hi) ds = some ns → ds = ns.map .int ∧ ∀ x ∈ ns, lo ≤ x ∧ x ≤ hi
  | [], ns, h => by
    cases h
    exact ⟨rfl, fun x hx => absurd hx (by simp)⟩
  | d :: ds, ns, h => by
    unfold Codec.decItems at h
    obtain ⟨z, r, e1, e2, rfl⟩ := Codec.both_inv _ _ _ _ h
    obtain ⟨rfl, hz⟩ := Codec.decInt_inv e1
    obtain ⟨rfl, hr⟩ := dec_ints e2
    refine ⟨rfl, fun x hx => ?_⟩
    rcases List.mem_cons.mp hx with q | q
    · subst q
      exact Codec.inInt_iff.mp hz
    · exact hr x q
theorem pre_of {args : List WData} (h : R.pre args = true) : ∃ ns : List Int, args = [.list (ns.map .int)] ∧ ns.length ≤ 16000 ∧ (∀ x ∈ ns, 0 ≤ x ∧ x ≤ 9223372036854775807) ∧ PyKp179.answers_asked ns = true ∧
    R.post args (.list ((PyKp179.answers ns).map .int)) = true := by
  unfold OpenSpec.pre at h
  cases e : Codec.decAll R.args args with
  | none =>
    rw [e] at h
    cases h
  | some a =>
    rw [e] at h
    have e0 : Codec.decAll [Codec.list 0 16000 (.int 0 9223372036854775807)] args = some a := e
    cases args with
    | nil => exact absurd e0 (by intro z; cases z)
    | cons d ds =>
      have e1 : Codec.both Prod.mk (Codec.decList 0 16000 (Codec.decInt 0 9223372036854775807) d) (Codec.decEnd ds) = some a := e0
      obtain ⟨ns, u, h1, h2, rfl⟩ := Codec.both_inv _ _ _ _ e1
      cases ds with
      | cons _ _ => cases h2
      | nil =>
        cases d with
        | list ds =>
          have h1' : (if Codec.inLen 0 16000 ds = true then Codec.decItems (Codec.decInt 0 9223372036854775807) ds else none) = some ns := h1
          by_cases hl : Codec.inLen 0 16000 ds = true
          · rw [if_pos hl] at h1'
            obtain ⟨rfl, hb⟩ := dec_ints h1'
            refine ⟨ns, rfl, ?_, hb, h, ?_⟩
            · have := (Codec.inNat_iff.mp hl).2
              simpa using this
            · unfold OpenSpec.post
              rw [e]
              exact same_iff.mpr rfl
          · rw [if_neg hl] at h1'
            cases h1'
        | _ => cases h1
theorem walk {k : Nat} {q : Program} {loose : List Str} {XP : (Str → Option Value) → Heap → Prop} {YP : World → Heap → Prop} {d : DefRec} {K : Params → Frag} {sp : World → L2.Sp} {x : Str}
    (hdf : d.params.defaults = []) (hr : L2.Room k callerA) (hY : ∀ (w : World) (h : Heap), YP w h → (K w.params).In h)
    (F : ∀ (w : World) (mg : Str → Option Value) (fa : Addr) (h : Heap), (K w.params).In h → h.Ns mainGlobals mg → mg d.name = some (.ref fa) →
      ∃ fd : FuncData, (∀ (s : Shared) (u : Value), BindsTo s fd ⟨[u], []⟩ [(x, u)]) ∧
        ∀ base : Heap, (K w.params).In base → base.Ns mainGlobals mg → L2.FnOk R.prog w (K w.params) mg base L2.CX0 k fa fd [x] (sp w))
    (hsp : ∀ (w : World) (H : L2.Hp) (a : Addr) (ns : List Int), ns.length ≤ 16000 → (∀ x ∈ ns, 0 ≤ x ∧ x ≤ 9223372036854775807) → PyKp179.answers_asked ns = true → L2.Only H → L2.SqL (K w.params) H a (ns.map L2.V.int) →
      sp w [.ref a] H (fun v H' => ∃ p, v = .ref p ∧ H' p = some (.lst ((PyKp179.answers ns).map L2.V.int))) fun _ _ _ => False) :
    WalkOS q loose XP YP R d [] (fun f vs => PySem.call f vs) := by
  intro w s₀ s₁ mg mb G Y fa o pm cd doc dV kV ho hd hcd hD hmg hg args vals as hpre hlay hrd hwl hlo
  obtain rfl : dV = .none := Dflts.none hD hdf
  obtain rfl : kV = .none := Dflts.noKw hD
  obtain ⟨ns, rfl, hlen, hb, hask, hpost⟩ := pre_of hpre
  cases hwl with
  | cons w1 w2 =>
    cases w2
    cases w1 with
    | list hobj hall =>
      have hints := Att.ints_of_wellAll ns _ hall
      have KX := hY w _ Y
      obtain ⟨fd, hbi, hF⟩ := F w mg fa _ KX G.T.g hmg
      have hz : (16000 : Nat) ≤ sizeLine := by decide
      refine enter_call (codeAny_mono (L2.spec_call (out := PyKp179.answers ns) KX G.T.g G.T.b G.T.builtins G.T.nolimit hg hobj hints (Nat.le_trans hlen hz) hr hF hbi (fun H hO hS => hsp w H _ ns hlen hb hask hO hS) fun H e s' z => z) fun r s' hq => ?_)
      obtain ⟨⟨p, its, rfl, hl, hi⟩, h2, h3, h4⟩ := hq
      have rd : Reads s'.heap (.ref p) (.list ((PyKp179.answers ns).map .int)) [p] := by
        refine reads_newList hl ?_ hi.numsOf
        have := hi.allInts
        simpa using this
      have rdW := readsW_of_reads (R := R.claim.records) (cl := classAt s₀.heap) rd
      have ew : ofPy (.list ((PyKp179.answers ns).map .int)) = .list ((PyKp179.answers ns).map .int) := by
        simp only [ofPy]
        congr 1
        induction (PyKp179.answers ns) with
        | nil => simp [ofPys]
        | cons x r ih => simp [ofPys, ofPy, ih]
      rw [ew] at rdW
      exact ⟨.inl ⟨.ref p, _, [p], rfl, fun _ => rfl, rdW, osPost hpost, fun z => absurd z Bool.false_ne_true⟩, h2, h3, h4⟩
end Jo
end
section
set_option Elab.async false
set_option linter.all false
set_option maxRecDepth 100000
-- written by tools/gen.py from the linked text
namespace Jo
open PySem L2
def top (i : Nat) : Stmt := PySem.Challenge.pw_jobyard_s01_answers.main.body.getD i (.Pass ⟨0, 0, 0, 0⟩)
abbrev s_Machine_init : Stmt := inClass (top 6) 0
abbrev s_Machine_is_as_told : Stmt := inClass (top 6) 1
abbrev s_Job_init : Stmt := inClass (top 7) 0
abbrev s_Job_is_as_told : Stmt := inClass (top 7) 1
abbrev s_Job_has_right_wants : Stmt := inClass (top 7) 2
abbrev s_Job_has_right_copies : Stmt := inClass (top 7) 3
abbrev s_Job_has_copy_on : Stmt := inClass (top 7) 4
abbrev s_Job_runs : Stmt := inClass (top 7) 5
abbrev s_Job_run_on : Stmt := inClass (top 7) 6
abbrev s_Job_wait : Stmt := inClass (top 7) 7
abbrev s_places_for : Stmt := top 9
abbrev s_copies_that_fit : Stmt := top 10
abbrev s_free_beside : Stmt := top 11
abbrev s_room_beside : Stmt := top 12
abbrev s_Yard_init : Stmt := inClass (top 35) 0
abbrev s_Yard_jo_start : Stmt := inClass (top 35) 1
abbrev s_Yard_jo_machine : Stmt := inClass (top 35) 2
abbrev s_Yard_jo_down : Stmt := inClass (top 35) 3
abbrev s_Yard_jo_job : Stmt := inClass (top 35) 4
abbrev s_Yard_jo_end : Stmt := inClass (top 35) 5
abbrev s_Yard_jo_turn : Stmt := inClass (top 35) 6
abbrev s_Yard_jo_where : Stmt := inClass (top 35) 7
abbrev s_Yard_jo_free : Stmt := inClass (top 35) 8
abbrev s_Yard_running : Stmt := inClass (top 35) 9
abbrev s_Yard_waiting : Stmt := inClass (top 35) 10
abbrev s_Yard_place : Stmt := inClass (top 35) 11
abbrev s_Yard_running_below : Stmt := inClass (top 35) 12
abbrev s_put_in : Stmt := top 36
abbrev s_answers : Stmt := top 37
abbrev s_answer_to : Stmt := top 38
abbrev s_answered_number : Stmt := top 39
theorem sc_Machine_init : FnScope ["self", "numbers"] ["self", "numbers"] (defScope s_Machine_init) := ⟨rfl, rfl, rfl, by decide +kernel, rfl, by decide +kernel, by decide +kernel⟩
theorem sc_Machine_is_as_told : FnScope ["self"] ["self"] (defScope s_Machine_is_as_told) := ⟨rfl, rfl, rfl, by decide +kernel, rfl, by decide +kernel, by decide +kernel⟩
theorem sc_Job_init : FnScope ["self", "numbers"] ["self", "numbers"] (defScope s_Job_init) := ⟨rfl, rfl, rfl, by decide +kernel, rfl, by decide +kernel, by decide +kernel⟩
theorem sc_Job_is_as_told : FnScope ["self"] ["self"] (defScope s_Job_is_as_told) := ⟨rfl, rfl, rfl, by decide +kernel, rfl, by decide +kernel, by decide +kernel⟩
theorem sc_Job_has_right_wants : FnScope ["self"] ["self"] (defScope s_Job_has_right_wants) := ⟨rfl, rfl, rfl, by decide +kernel, rfl, by decide +kernel, by decide +kernel⟩
theorem sc_Job_has_right_copies : FnScope ["self"] ["self"] (defScope s_Job_has_right_copies) := ⟨rfl, rfl, rfl, by decide +kernel, rfl, by decide +kernel, by decide +kernel⟩
theorem sc_Job_has_copy_on : FnScope ["self", "i"] ["self", "i"] (defScope s_Job_has_copy_on) := ⟨rfl, rfl, rfl, by decide +kernel, rfl, by decide +kernel, by decide +kernel⟩
theorem sc_Job_runs : FnScope ["self"] ["self"] (defScope s_Job_runs) := ⟨rfl, rfl, rfl, by decide +kernel, rfl, by decide +kernel, by decide +kernel⟩
theorem sc_Job_run_on : FnScope ["self", "places"] ["self", "places"] (defScope s_Job_run_on) := ⟨rfl, rfl, rfl, by decide +kernel, rfl, by decide +kernel, by decide +kernel⟩
theorem sc_Job_wait : FnScope ["self"] ["self"] (defScope s_Job_wait) := ⟨rfl, rfl, rfl, by decide +kernel, rfl, by decide +kernel, by decide +kernel⟩
theorem sc_places_for : FnScope ["job", "machines", "free", "places", "left_in_zone", "i", "machine", "count"] ["job", "machines", "free"] (defScope s_places_for) := ⟨rfl, rfl, rfl, by decide +kernel, rfl, by decide +kernel, by decide +kernel⟩
theorem sc_copies_that_fit : FnScope ["job", "machine", "room", "count", "have", "want"] ["job", "machine", "room"] (defScope s_copies_that_fit) := ⟨rfl, rfl, rfl, by decide +kernel, rfl, by decide +kernel, by decide +kernel⟩
theorem sc_free_beside : FnScope ["free", "job", "left", "i"] ["free", "job"] (defScope s_free_beside) := ⟨rfl, rfl, rfl, by decide +kernel, rfl, by decide +kernel, by decide +kernel⟩
theorem sc_room_beside : FnScope ["room", "job", "count", "have", "want"] ["room", "job", "count"] (defScope s_room_beside) := ⟨rfl, rfl, rfl, by decide +kernel, rfl, by decide +kernel, by decide +kernel⟩
theorem sc_Yard_init : FnScope ["self"] ["self"] (defScope s_Yard_init) := ⟨rfl, rfl, rfl, by decide +kernel, rfl, by decide +kernel, by decide +kernel⟩
theorem sc_Yard_jo_start : FnScope ["self"] ["self"] (defScope s_Yard_jo_start) := ⟨rfl, rfl, rfl, by decide +kernel, rfl, by decide +kernel, by decide +kernel⟩
theorem sc_Yard_jo_machine : FnScope ["self", "i", "machine"] ["self", "i", "machine"] (defScope s_Yard_jo_machine) := ⟨rfl, rfl, rfl, by decide +kernel, rfl, by decide +kernel, by decide +kernel⟩
theorem sc_Yard_jo_down : FnScope ["self", "i", "stopped", "job"] ["self", "i"] (defScope s_Yard_jo_down) := ⟨rfl, rfl, rfl, by decide +kernel, rfl, by decide +kernel, by decide +kernel⟩
theorem sc_Yard_jo_job : FnScope ["self", "j", "job"] ["self", "j", "job"] (defScope s_Yard_jo_job) := ⟨rfl, rfl, rfl, by decide +kernel, rfl, by decide +kernel, by decide +kernel⟩
theorem sc_Yard_jo_end : FnScope ["self", "j"] ["self", "j"] (defScope s_Yard_jo_end) := ⟨rfl, rfl, rfl, by decide +kernel, rfl, by decide +kernel, by decide +kernel⟩
theorem sc_Yard_jo_turn : FnScope ["self", "free", "i", "rank", "j", "put_out"] ["self"] (defScope s_Yard_jo_turn) := ⟨rfl, rfl, rfl, by decide +kernel, rfl, by decide +kernel, by decide +kernel⟩
theorem sc_Yard_jo_where : FnScope ["self", "j", "job"] ["self", "j"] (defScope s_Yard_jo_where) := ⟨rfl, rfl, rfl, by decide +kernel, rfl, by decide +kernel, by decide +kernel⟩
theorem sc_Yard_jo_free : FnScope ["self", "i", "room", "job"] ["self", "i"] (defScope s_Yard_jo_free) := ⟨rfl, rfl, rfl, by decide +kernel, rfl, by decide +kernel, by decide +kernel⟩
theorem sc_Yard_running : FnScope ["self", "rank", "j", "job"] ["self", "rank"] (defScope s_Yard_running) := ⟨rfl, rfl, rfl, by decide +kernel, rfl, by decide +kernel, by decide +kernel⟩
theorem sc_Yard_waiting : FnScope ["self", "rank", "j", "job"] ["self", "rank"] (defScope s_Yard_waiting) := ⟨rfl, rfl, rfl, by decide +kernel, rfl, by decide +kernel, by decide +kernel⟩
theorem sc_Yard_place : FnScope ["self", "job", "free", "put_out", "j", "beside"] ["self", "job", "free"] (defScope s_Yard_place) := ⟨rfl, rfl, rfl, by decide +kernel, rfl, by decide +kernel, by decide +kernel⟩
theorem sc_Yard_running_below : FnScope ["self", "rank", "numbers", "lesser"] ["self", "rank"] (defScope s_Yard_running_below) := ⟨rfl, rfl, rfl, by decide +kernel, rfl, by decide +kernel, by decide +kernel⟩
theorem sc_put_in : FnScope ["there", "number", "last", "record"] ["there", "number", "last", "record"] (defScope s_put_in) := ⟨rfl, rfl, rfl, by decide +kernel, rfl, by decide +kernel, by decide +kernel⟩
theorem sc_answers : FnScope ["calls", "yard", "told", "start", "call", "end", "answer"] ["calls"] (defScope s_answers) := ⟨rfl, rfl, rfl, by decide +kernel, rfl, by decide +kernel, by decide +kernel⟩
theorem sc_answer_to : FnScope ["yard", "call", "numbers"] ["yard", "call", "numbers"] (defScope s_answer_to) := ⟨rfl, rfl, rfl, by decide +kernel, rfl, by decide +kernel, by decide +kernel⟩
theorem sc_answered_number : FnScope ["yard", "call", "numbers"] ["yard", "call", "numbers"] (defScope s_answered_number) := ⟨rfl, rfl, rfl, by decide +kernel, rfl, by decide +kernel, by decide +kernel⟩
abbrev ks_Machine : List Str := ["has", "labels", "zone", "none"]
theorem nd_Machine : ks_Machine.Nodup := by decide +kernel
abbrev ks_Job : List Str := ["wants", "needs", "never", "copies", "apart", "spread", "rank", "places"]
theorem nd_Job : ks_Job.Nodup := by decide +kernel
abbrev ks_Yard : List Str := ["machines", "jobs"]
theorem nd_Yard : ks_Yard.Nodup := by decide +kernel
set_option genInjectivity false in
set_option genSizeOf false in
structure Adr where
  C_Machine : Addr
  C_Job : Addr
  C_Yard : Addr
  f_Machine_init : Addr
  fd_Machine_init : FuncData
  f_Machine_is_as_told : Addr
  fd_Machine_is_as_told : FuncData
  f_Job_init : Addr
  fd_Job_init : FuncData
  f_Job_is_as_told : Addr
  fd_Job_is_as_told : FuncData
  f_Job_has_right_wants : Addr
  fd_Job_has_right_wants : FuncData
  f_Job_has_right_copies : Addr
  fd_Job_has_right_copies : FuncData
  f_Job_has_copy_on : Addr
  fd_Job_has_copy_on : FuncData
  f_Job_runs : Addr
  fd_Job_runs : FuncData
  f_Job_run_on : Addr
  fd_Job_run_on : FuncData
  f_Job_wait : Addr
  fd_Job_wait : FuncData
  f_places_for : Addr
  fd_places_for : FuncData
  f_copies_that_fit : Addr
  fd_copies_that_fit : FuncData
  f_free_beside : Addr
  fd_free_beside : FuncData
  f_room_beside : Addr
  fd_room_beside : FuncData
  f_Yard_init : Addr
  fd_Yard_init : FuncData
  f_Yard_jo_start : Addr
  fd_Yard_jo_start : FuncData
  f_Yard_jo_machine : Addr
  fd_Yard_jo_machine : FuncData
  f_Yard_jo_down : Addr
  fd_Yard_jo_down : FuncData
  f_Yard_jo_job : Addr
  fd_Yard_jo_job : FuncData
  f_Yard_jo_end : Addr
  fd_Yard_jo_end : FuncData
  f_Yard_jo_turn : Addr
  fd_Yard_jo_turn : FuncData
  f_Yard_jo_where : Addr
  fd_Yard_jo_where : FuncData
  f_Yard_jo_free : Addr
  fd_Yard_jo_free : FuncData
  f_Yard_running : Addr
  fd_Yard_running : FuncData
  f_Yard_waiting : Addr
  fd_Yard_waiting : FuncData
  f_Yard_place : Addr
  fd_Yard_place : FuncData
  f_Yard_running_below : Addr
  fd_Yard_running_below : FuncData
  f_put_in : Addr
  fd_put_in : FuncData
  f_answers : Addr
  fd_answers : FuncData
  f_answer_to : Addr
  fd_answer_to : FuncData
  f_answered_number : Addr
  fd_answered_number : FuncData
  u_MOST_ROOM : Value
  u_LAST_ZONE : Value
  u_MOST_COPIES : Value
  u_MOST_SPREAD : Value
  u_LAST_RANK : Value
  u_LAST_MACHINE : Value
  u_LAST_JOB : Value
  u_NOT_THERE : Value
  u_WAITS : Value
  u_NONE_CAN_BE_PLACED : Value
  u_THERE_ALREADY : Value
  u_NOT_AS_TOLD : Value
  u_JO_START : Value
  u_JO_MACHINE : Value
  u_JO_DOWN : Value
  u_JO_JOB : Value
  u_JO_END : Value
  u_JO_TURN : Value
  u_JO_WHERE : Value
  u_JO_FREE : Value
  u_FORM_OF_A_NUMBER : Value
  u_FORM_OF_A_TURN : Value
  u_FORM_OF_PLACES : Value
  u_FORM_OF_ROOM : Value
  dd_NUMBERS_BEHIND : Addr
structure Txt (K : PySem.W.Frag) (mg : Str → Option Value) (A : Adr) : Prop where
  cl_Machine : Cls K A.C_Machine
  mg_Machine : mg "Machine" = some (.ref A.C_Machine)
  mk_Machine : Mk K A.C_Machine A.f_Machine_init
  na_Machine_has : NoAttr K A.C_Machine "has"
  na_Machine_labels : NoAttr K A.C_Machine "labels"
  na_Machine_zone : NoAttr K A.C_Machine "zone"
  na_Machine_none : NoAttr K A.C_Machine "none"
  cl_Job : Cls K A.C_Job
  mg_Job : mg "Job" = some (.ref A.C_Job)
  mk_Job : Mk K A.C_Job A.f_Job_init
  na_Job_wants : NoAttr K A.C_Job "wants"
  na_Job_needs : NoAttr K A.C_Job "needs"
  na_Job_never : NoAttr K A.C_Job "never"
  na_Job_copies : NoAttr K A.C_Job "copies"
  na_Job_apart : NoAttr K A.C_Job "apart"
  na_Job_spread : NoAttr K A.C_Job "spread"
  na_Job_rank : NoAttr K A.C_Job "rank"
  na_Job_places : NoAttr K A.C_Job "places"
  cl_Yard : Cls K A.C_Yard
  mg_Yard : mg "Yard" = some (.ref A.C_Yard)
  mk_Yard : Mk K A.C_Yard A.f_Yard_init
  na_Yard_machines : NoAttr K A.C_Yard "machines"
  na_Yard_jobs : NoAttr K A.C_Yard "jobs"
  F_Machine_init : Fun K "__init__" "Machine.__init__" s_Machine_init A.f_Machine_init A.fd_Machine_init
  b_Machine_init : Binds K A.fd_Machine_init ["self", "numbers"] []
  F_Machine_is_as_told : Fun K "is_as_told" "Machine.is_as_told" s_Machine_is_as_told A.f_Machine_is_as_told A.fd_Machine_is_as_told
  b_Machine_is_as_told : Binds K A.fd_Machine_is_as_told ["self"] []
  m_Machine_is_as_told : Meth K A.C_Machine "is_as_told" A.f_Machine_is_as_told
  F_Job_init : Fun K "__init__" "Job.__init__" s_Job_init A.f_Job_init A.fd_Job_init
  b_Job_init : Binds K A.fd_Job_init ["self", "numbers"] []
  F_Job_is_as_told : Fun K "is_as_told" "Job.is_as_told" s_Job_is_as_told A.f_Job_is_as_told A.fd_Job_is_as_told
  b_Job_is_as_told : Binds K A.fd_Job_is_as_told ["self"] []
  m_Job_is_as_told : Meth K A.C_Job "is_as_told" A.f_Job_is_as_told
  F_Job_has_right_wants : Fun K "has_right_wants" "Job.has_right_wants" s_Job_has_right_wants A.f_Job_has_right_wants A.fd_Job_has_right_wants
  b_Job_has_right_wants : Binds K A.fd_Job_has_right_wants ["self"] []
  m_Job_has_right_wants : Meth K A.C_Job "has_right_wants" A.f_Job_has_right_wants
  F_Job_has_right_copies : Fun K "has_right_copies" "Job.has_right_copies" s_Job_has_right_copies A.f_Job_has_right_copies A.fd_Job_has_right_copies
  b_Job_has_right_copies : Binds K A.fd_Job_has_right_copies ["self"] []
  m_Job_has_right_copies : Meth K A.C_Job "has_right_copies" A.f_Job_has_right_copies
  F_Job_has_copy_on : Fun K "has_copy_on" "Job.has_copy_on" s_Job_has_copy_on A.f_Job_has_copy_on A.fd_Job_has_copy_on
  b_Job_has_copy_on : Binds K A.fd_Job_has_copy_on ["self", "i"] []
  m_Job_has_copy_on : Meth K A.C_Job "has_copy_on" A.f_Job_has_copy_on
  F_Job_runs : Fun K "runs" "Job.runs" s_Job_runs A.f_Job_runs A.fd_Job_runs
  b_Job_runs : Binds K A.fd_Job_runs ["self"] []
  m_Job_runs : Meth K A.C_Job "runs" A.f_Job_runs
  F_Job_run_on : Fun K "run_on" "Job.run_on" s_Job_run_on A.f_Job_run_on A.fd_Job_run_on
  b_Job_run_on : Binds K A.fd_Job_run_on ["self", "places"] []
  m_Job_run_on : Meth K A.C_Job "run_on" A.f_Job_run_on
  F_Job_wait : Fun K "wait" "Job.wait" s_Job_wait A.f_Job_wait A.fd_Job_wait
  b_Job_wait : Binds K A.fd_Job_wait ["self"] []
  m_Job_wait : Meth K A.C_Job "wait" A.f_Job_wait
  F_places_for : Fun K "places_for" "places_for" s_places_for A.f_places_for A.fd_places_for
  b_places_for : Binds K A.fd_places_for ["job", "machines", "free"] []
  mg_places_for : mg "places_for" = some (.ref A.f_places_for)
  F_copies_that_fit : Fun K "copies_that_fit" "copies_that_fit" s_copies_that_fit A.f_copies_that_fit A.fd_copies_that_fit
  b_copies_that_fit : Binds K A.fd_copies_that_fit ["job", "machine", "room"] []
  mg_copies_that_fit : mg "copies_that_fit" = some (.ref A.f_copies_that_fit)
  F_free_beside : Fun K "free_beside" "free_beside" s_free_beside A.f_free_beside A.fd_free_beside
  b_free_beside : Binds K A.fd_free_beside ["free", "job"] []
  mg_free_beside : mg "free_beside" = some (.ref A.f_free_beside)
  F_room_beside : Fun K "room_beside" "room_beside" s_room_beside A.f_room_beside A.fd_room_beside
  b_room_beside : Binds K A.fd_room_beside ["room", "job", "count"] []
  mg_room_beside : mg "room_beside" = some (.ref A.f_room_beside)
  F_Yard_init : Fun K "__init__" "Yard.__init__" s_Yard_init A.f_Yard_init A.fd_Yard_init
  b_Yard_init : Binds K A.fd_Yard_init ["self"] []
  F_Yard_jo_start : Fun K "jo_start" "Yard.jo_start" s_Yard_jo_start A.f_Yard_jo_start A.fd_Yard_jo_start
  b_Yard_jo_start : Binds K A.fd_Yard_jo_start ["self"] []
  m_Yard_jo_start : Meth K A.C_Yard "jo_start" A.f_Yard_jo_start
  F_Yard_jo_machine : Fun K "jo_machine" "Yard.jo_machine" s_Yard_jo_machine A.f_Yard_jo_machine A.fd_Yard_jo_machine
  b_Yard_jo_machine : Binds K A.fd_Yard_jo_machine ["self", "i", "machine"] []
  m_Yard_jo_machine : Meth K A.C_Yard "jo_machine" A.f_Yard_jo_machine
  F_Yard_jo_down : Fun K "jo_down" "Yard.jo_down" s_Yard_jo_down A.f_Yard_jo_down A.fd_Yard_jo_down
  b_Yard_jo_down : Binds K A.fd_Yard_jo_down ["self", "i"] []
  m_Yard_jo_down : Meth K A.C_Yard "jo_down" A.f_Yard_jo_down
  F_Yard_jo_job : Fun K "jo_job" "Yard.jo_job" s_Yard_jo_job A.f_Yard_jo_job A.fd_Yard_jo_job
  b_Yard_jo_job : Binds K A.fd_Yard_jo_job ["self", "j", "job"] []
  m_Yard_jo_job : Meth K A.C_Yard "jo_job" A.f_Yard_jo_job
  F_Yard_jo_end : Fun K "jo_end" "Yard.jo_end" s_Yard_jo_end A.f_Yard_jo_end A.fd_Yard_jo_end
  b_Yard_jo_end : Binds K A.fd_Yard_jo_end ["self", "j"] []
  m_Yard_jo_end : Meth K A.C_Yard "jo_end" A.f_Yard_jo_end
  F_Yard_jo_turn : Fun K "jo_turn" "Yard.jo_turn" s_Yard_jo_turn A.f_Yard_jo_turn A.fd_Yard_jo_turn
  b_Yard_jo_turn : Binds K A.fd_Yard_jo_turn ["self"] []
  m_Yard_jo_turn : Meth K A.C_Yard "jo_turn" A.f_Yard_jo_turn
  F_Yard_jo_where : Fun K "jo_where" "Yard.jo_where" s_Yard_jo_where A.f_Yard_jo_where A.fd_Yard_jo_where
  b_Yard_jo_where : Binds K A.fd_Yard_jo_where ["self", "j"] []
  m_Yard_jo_where : Meth K A.C_Yard "jo_where" A.f_Yard_jo_where
  F_Yard_jo_free : Fun K "jo_free" "Yard.jo_free" s_Yard_jo_free A.f_Yard_jo_free A.fd_Yard_jo_free
  b_Yard_jo_free : Binds K A.fd_Yard_jo_free ["self", "i"] []
  m_Yard_jo_free : Meth K A.C_Yard "jo_free" A.f_Yard_jo_free
  F_Yard_running : Fun K "running" "Yard.running" s_Yard_running A.f_Yard_running A.fd_Yard_running
  b_Yard_running : Binds K A.fd_Yard_running ["self", "rank"] []
  m_Yard_running : Meth K A.C_Yard "running" A.f_Yard_running
  F_Yard_waiting : Fun K "waiting" "Yard.waiting" s_Yard_waiting A.f_Yard_waiting A.fd_Yard_waiting
  b_Yard_waiting : Binds K A.fd_Yard_waiting ["self", "rank"] []
  m_Yard_waiting : Meth K A.C_Yard "waiting" A.f_Yard_waiting
  F_Yard_place : Fun K "place" "Yard.place" s_Yard_place A.f_Yard_place A.fd_Yard_place
  b_Yard_place : Binds K A.fd_Yard_place ["self", "job", "free"] []
  m_Yard_place : Meth K A.C_Yard "place" A.f_Yard_place
  F_Yard_running_below : Fun K "running_below" "Yard.running_below" s_Yard_running_below A.f_Yard_running_below A.fd_Yard_running_below
  b_Yard_running_below : Binds K A.fd_Yard_running_below ["self", "rank"] []
  m_Yard_running_below : Meth K A.C_Yard "running_below" A.f_Yard_running_below
  F_put_in : Fun K "put_in" "put_in" s_put_in A.f_put_in A.fd_put_in
  b_put_in : Binds K A.fd_put_in ["there", "number", "last", "record"] []
  mg_put_in : mg "put_in" = some (.ref A.f_put_in)
  F_answers : Fun K "answers" "answers" s_answers A.f_answers A.fd_answers
  b_answers : Binds K A.fd_answers ["calls"] []
  mg_answers : mg "answers" = some (.ref A.f_answers)
  F_answer_to : Fun K "answer_to" "answer_to" s_answer_to A.f_answer_to A.fd_answer_to
  b_answer_to : Binds K A.fd_answer_to ["yard", "call", "numbers"] []
  mg_answer_to : mg "answer_to" = some (.ref A.f_answer_to)
  F_answered_number : Fun K "answered_number" "answered_number" s_answered_number A.f_answered_number A.fd_answered_number
  b_answered_number : Binds K A.fd_answered_number ["yard", "call", "numbers"] []
  mg_answered_number : mg "answered_number" = some (.ref A.f_answered_number)
  g_MOST_ROOM : mg "MOST_ROOM" = some A.u_MOST_ROOM
  r_MOST_ROOM : RelV (.int (16777216)) A.u_MOST_ROOM
  g_LAST_ZONE : mg "LAST_ZONE" = some A.u_LAST_ZONE
  r_LAST_ZONE : RelV (.int (7)) A.u_LAST_ZONE
  g_MOST_COPIES : mg "MOST_COPIES" = some A.u_MOST_COPIES
  r_MOST_COPIES : RelV (.int (16)) A.u_MOST_COPIES
  g_MOST_SPREAD : mg "MOST_SPREAD" = some A.u_MOST_SPREAD
  r_MOST_SPREAD : RelV (.int (16)) A.u_MOST_SPREAD
  g_LAST_RANK : mg "LAST_RANK" = some A.u_LAST_RANK
  r_LAST_RANK : RelV (.int (7)) A.u_LAST_RANK
  g_LAST_MACHINE : mg "LAST_MACHINE" = some A.u_LAST_MACHINE
  r_LAST_MACHINE : RelV (.int (63)) A.u_LAST_MACHINE
  g_LAST_JOB : mg "LAST_JOB" = some A.u_LAST_JOB
  r_LAST_JOB : RelV (.int (127)) A.u_LAST_JOB
  g_NOT_THERE : mg "NOT_THERE" = some A.u_NOT_THERE
  r_NOT_THERE : RelV (.int (-2)) A.u_NOT_THERE
  g_WAITS : mg "WAITS" = some A.u_WAITS
  r_WAITS : RelV (.int (-11)) A.u_WAITS
  g_NONE_CAN_BE_PLACED : mg "NONE_CAN_BE_PLACED" = some A.u_NONE_CAN_BE_PLACED
  r_NONE_CAN_BE_PLACED : RelV (.int (-11)) A.u_NONE_CAN_BE_PLACED
  g_THERE_ALREADY : mg "THERE_ALREADY" = some A.u_THERE_ALREADY
  r_THERE_ALREADY : RelV (.int (-17)) A.u_THERE_ALREADY
  g_NOT_AS_TOLD : mg "NOT_AS_TOLD" = some A.u_NOT_AS_TOLD
  r_NOT_AS_TOLD : RelV (.int (-22)) A.u_NOT_AS_TOLD
  g_JO_START : mg "JO_START" = some A.u_JO_START
  r_JO_START : RelV (.int (0)) A.u_JO_START
  g_JO_MACHINE : mg "JO_MACHINE" = some A.u_JO_MACHINE
  r_JO_MACHINE : RelV (.int (1)) A.u_JO_MACHINE
  g_JO_DOWN : mg "JO_DOWN" = some A.u_JO_DOWN
  r_JO_DOWN : RelV (.int (2)) A.u_JO_DOWN
  g_JO_JOB : mg "JO_JOB" = some A.u_JO_JOB
  r_JO_JOB : RelV (.int (3)) A.u_JO_JOB
  g_JO_END : mg "JO_END" = some A.u_JO_END
  r_JO_END : RelV (.int (4)) A.u_JO_END
  g_JO_TURN : mg "JO_TURN" = some A.u_JO_TURN
  r_JO_TURN : RelV (.int (5)) A.u_JO_TURN
  g_JO_WHERE : mg "JO_WHERE" = some A.u_JO_WHERE
  r_JO_WHERE : RelV (.int (6)) A.u_JO_WHERE
  g_JO_FREE : mg "JO_FREE" = some A.u_JO_FREE
  r_JO_FREE : RelV (.int (7)) A.u_JO_FREE
  g_FORM_OF_A_NUMBER : mg "FORM_OF_A_NUMBER" = some A.u_FORM_OF_A_NUMBER
  r_FORM_OF_A_NUMBER : RelV (.int (0)) A.u_FORM_OF_A_NUMBER
  g_FORM_OF_A_TURN : mg "FORM_OF_A_TURN" = some A.u_FORM_OF_A_TURN
  r_FORM_OF_A_TURN : RelV (.int (1)) A.u_FORM_OF_A_TURN
  g_FORM_OF_PLACES : mg "FORM_OF_PLACES" = some A.u_FORM_OF_PLACES
  r_FORM_OF_PLACES : RelV (.int (2)) A.u_FORM_OF_PLACES
  g_FORM_OF_ROOM : mg "FORM_OF_ROOM" = some A.u_FORM_OF_ROOM
  r_FORM_OF_ROOM : RelV (.int (3)) A.u_FORM_OF_ROOM
  g_NUMBERS_BEHIND : mg "NUMBERS_BEHIND" = some (.ref A.dd_NUMBERS_BEHIND)
  d_NUMBERS_BEHIND : KDict K A.dd_NUMBERS_BEHIND [(0, 0), (1, 8), (2, 1), (3, 11), (4, 1), (5, 0), (6, 1), (7, 1)]
  n_max : mg "max" = none
  n_len : mg "len" = none
  n_sorted : mg "sorted" = none
  n_min : mg "min" = none
  n_zip : mg "zip" = none
  n_dict : mg "dict" = none
  n_range : mg "range" = none
end Jo
end
section
set_option Elab.async false
set_option linter.all false
set_option maxRecDepth 100000
namespace Jo
open PySem L2
open Kp179 (Abs Run job machine there)
open Kp178 (Four Machine Job goodMachine goodJob)
theorem lookup_zip : ∀ {ks : List Str} {vs : List V} {i : Nat} {f : Str} {v : V}, ks.Nodup → ks[i]? = some f → vs[i]? = some v → (ks.zip vs).lookup f = some v
  | [], _, i, f, v, _, h, _ => by simp at h
  | k :: ks, [], i, f, v, _, _, h => by simp at h
  | k :: ks, x :: vs, 0, f, v, _, h, h' => by
    simp at h h'
    subst h h'
    simp [List.lookup]
  | k :: ks, x :: vs, i + 1, f, v, nd, h, h' => by
    obtain ⟨n1, n2⟩ := List.nodup_cons.mp nd
    have hf : ks[i]? = some f := by simpa using h
    have ne : f ≠ k := fun e => n1 (by rw [← e]; exact List.mem_of_getElem? hf)
    have hb : (f == k) = false := beq_eq_false_iff_ne.mpr ne
    rw [List.zip_cons_cons, List.lookup, hb]
    exact lookup_zip n2 hf (by simpa using h')
theorem lookup_zip_none : ∀ {ks : List Str} {vs : List V} {f : Str}, ¬ f ∈ ks → (ks.zip vs).lookup f = none
  | [], _, f, _ => by simp
  | k :: ks, [], f, _ => by simp
  | k :: ks, x :: vs, f, h => by
    have hb : (f == k) = false := beq_eq_false_iff_ne.mpr fun e => h (by simp [e])
    rw [List.zip_cons_cons, List.lookup, hb]
    exact lookup_zip_none fun m => h (by simp [m])
theorem putF_zip : ∀ {ks : List Str} {vs : List V} {i : Nat} {f : Str} {v : V}, ks.Nodup → ks[i]? = some f → i < vs.length → putF f v (ks.zip vs) = ks.zip (vs.set i v)
  | [], _, i, f, v, _, h, _ => by simp at h
  | k :: ks, [], i, f, v, _, _, h => by simp at h
  | k :: ks, x :: vs, 0, f, v, _, h, _ => by
    simp at h
    subst h
    simp [putF]
  | k :: ks, x :: vs, i + 1, f, v, nd, h, h' => by
    obtain ⟨n1, n2⟩ := List.nodup_cons.mp nd
    have hf : ks[i]? = some f := by simpa using h
    have ne : ¬ k = f := fun e => n1 (by rw [e]; exact List.mem_of_getElem? hf)
    show (if k = f then _ else (k, x) :: putF f v (ks.zip vs)) = _
    rw [if_neg ne, putF_zip n2 hf (by simpa using h')]
    rfl
theorem putF_app : ∀ {ks : List Str} {vs : List V} {f : Str} {v : V}, ks.length = vs.length → ¬ f ∈ ks → putF f v (ks.zip vs) = (ks ++ [f]).zip (vs ++ [v])
  | [], [], f, v, _, _ => rfl
  | [], _ :: _, f, v, h, _ => by simp at h
  | _ :: _, [], f, v, h, _ => by simp at h
  | k :: ks, x :: vs, f, v, h, n => by
    have ne : ¬ k = f := fun e => n (by simp [e])
    show (if k = f then _ else (k, x) :: putF f v (ks.zip vs)) = _
    rw [if_neg ne, putF_app (by simpa using h) fun m => n (by simp [m])]
    rfl
def vi (n : Nat) : V := .int (n : Int)
abbrev L4 (x : Four) : List V := [vi x.a, vi x.b, vi x.c, vi x.d]
abbrev mv (hl : Addr) (m : Machine) : List V := [.ref hl, vi m.labels, vi m.zone, vi m.none_]
abbrev jv (wl pl : Addr) (q : Job) : List V := [.ref wl, vi q.needs, vi q.never, vi q.copies, vi q.apart, vi q.spread, vi q.rank, .ref pl]
abbrev yv (md jd : Addr) : List V := [.ref md, .ref jd]
abbrev mnums (m : Machine) : List Nat := [m.has.a, m.has.b, m.has.c, m.has.d, m.labels, m.zone, m.none_]
abbrev jnums (q : Job) : List Nat := [q.wants.a, q.wants.b, q.wants.c, q.wants.d, q.needs, q.never, q.copies, q.apart, q.spread, q.rank]
def MachAt (A : Adr) (H : Hp) (p : Addr) (m : Machine) : Prop := ∃ d hl, H p = some (.ins A.C_Machine d (ks_Machine.zip (mv hl m))) ∧ H hl = some (.lst (L4 m.has))
def JobAt (A : Adr) (H : Hp) (p : Addr) (q : Job) (ps : List Nat) : Prop := ∃ d wl pl, H p = some (.ins A.C_Job d (ks_Job.zip (jv wl pl q))) ∧ H wl = some (.lst (L4 q.wants)) ∧ H pl = some (.lst (ps.map vi))
abbrev dct (l : List Nat) (f : Nat → Addr) : List (Key × V) := l.map fun (i : Nat) => ((Sum.inl (i : Int) : Key), V.ref (f i))
def FreeAt (H : Hp) (p : Addr) (mk : List Nat) (room : Nat → Four) : Prop := ∃ al : Nat → Addr, H p = some (.dK (dct mk al)) ∧ ∀ i ∈ mk, H (al i) = some (.lst (L4 (room i)))
structure YardAt (A : Adr) (H : Hp) (y : Addr) (a : Abs) (mk jk : List Nat) (am aj : Nat → Addr) : Prop where
  wf : Wf a
  mm : ∀ i, i ∈ mk ↔ (machine a i).isSome = true
  mn : mk.Nodup
  jc : ByCame a jk
  ob : ∃ dy md jd, H y = some (.ins A.C_Yard dy (ks_Yard.zip (yv md jd))) ∧ H md = some (.dK (dct mk am)) ∧ H jd = some (.dK (dct jk aj)) ∧ md ≠ jd
  ms : ∀ i m, machine a i = some m → MachAt A H (am i) m
  js : ∀ j r, job a j = some r → JobAt A H (aj j) r.job (r.at_.getD [])
  inj : ∀ i j, i ∈ jk → j ∈ jk → aj i = aj j → i = j
def Keep (H H' : Hp) : Prop := ∀ b o, H b = some o → (∀ C d f, o ≠ .ins C d f) → (∀ k, o ≠ .dK k) → H' b = some o
theorem MachAt.same {A : Adr} {H H' : Hp} {p : Addr} {m : Machine} (h : MachAt A H p m) (s : Same H H') : MachAt A H' p m := by
  obtain ⟨d, hl, h1, h2⟩ := h
  exact ⟨d, hl, s _ _ h1, s _ _ h2⟩
theorem JobAt.same {A : Adr} {H H' : Hp} {p : Addr} {q : Job} {ps : List Nat} (h : JobAt A H p q ps) (s : Same H H') : JobAt A H' p q ps := by
  obtain ⟨d, wl, pl, h1, h2, h3⟩ := h
  exact ⟨d, wl, pl, s _ _ h1, s _ _ h2, s _ _ h3⟩
theorem FreeAt.same {H H' : Hp} {p : Addr} {mk : List Nat} {room : Nat → Four} (h : FreeAt H p mk room) (s : Same H H') : FreeAt H' p mk room := by
  obtain ⟨al, h1, h2⟩ := h
  exact ⟨al, s _ _ h1, fun i hi => s _ _ (h2 i hi)⟩
theorem YardAt.same {A : Adr} {H H' : Hp} {y : Addr} {a : Abs} {mk jk : List Nat} {am aj : Nat → Addr} (h : YardAt A H y a mk jk am aj) (s : Same H H') : YardAt A H' y a mk jk am aj := by
  obtain ⟨dy, md, jd, h1, h2, h3, h4⟩ := h.ob
  exact ⟨h.wf, h.mm, h.mn, h.jc, ⟨dy, md, jd, s _ _ h1, s _ _ h2, s _ _ h3, h4⟩, fun i m e => (h.ms i m e).same s, fun j r e => (h.js j r e).same s, h.inj⟩
theorem Same.keep {H H' : Hp} (s : Same H H') : Keep H H' := fun b o h _ _ => s b o h
theorem Keep.trans {H H1 H2 : Hp} (a : Keep H H1) (b : Keep H1 H2) : Keep H H2 := fun c o h n1 n2 => b c o (a c o h n1 n2) n1 n2
theorem Keep.refl (H : Hp) : Keep H H := fun _ _ h _ _ => h
theorem same_new {H : Hp} {p : Addr} {o : HO} (h : H p = none) : Same H (upd H p o) := fun b u e => by
  rw [upd_ne (ne_of_none e h)]
  exact e
theorem same_unlock {H H' : Hp} {d : Addr} {od : Obj} {u : HO} (h : H d = some u) (s : Same (upd H d (.frz od u)) H') : H' d = some (.frz od u) ∧ Same H (upd H' d u) := by
  refine ⟨s _ _ upd_same, fun b o e => ?_⟩
  by_cases hb : b = d
  · subst hb
    rw [h] at e
    rw [upd_same]
    exact e
  · rw [upd_ne hb]
    exact s _ _ (by rw [upd_ne hb]; exact e)
theorem lock_ne {H : Hp} {d b : Addr} {od : Obj} {u o : HO} (h : H d = some u) (e : H b = some o) (n : u ≠ o) : upd H d (.frz od u) b = some o := by
  rw [upd_ne (fun z => by subst z; rw [h] at e; exact n (Option.some.inj e))]
  exact e
theorem JobAt.lock {A : Adr} {H : Hp} {d p : Addr} {od : Obj} {kvs : List (Key × V)} {q : Job} {ps : List Nat} (h : JobAt A H p q ps) (hd : H d = some (.dK kvs)) : JobAt A (upd H d (.frz od (.dK kvs))) p q ps := by
  obtain ⟨d', wl, pl, h1, h2, h3⟩ := h
  exact ⟨d', wl, pl, lock_ne hd h1 (fun z => nomatch z), lock_ne hd h2 (fun z => nomatch z), lock_ne hd h3 (fun z => nomatch z)⟩
theorem key_inj {k i : Nat} (z : (Sum.inl (k : Int) : Key) = Sum.inl (i : Int)) : k = i := Int.ofNat.inj (Sum.inl.inj z)
theorem val_dct {f : Nat → Addr} : ∀ {l : List Nat} {i : Nat}, i ∈ l → valV (dct l f) (Sum.inl (i : Int)) = some (.ref (f i))
  | [], i, h => by simp at h
  | k :: l, i, h => by
    by_cases e : k = i
    · subst e
      exact valV_pos rfl
    · rw [show dct (k :: l) f = ((Sum.inl (k : Int) : Key), V.ref (f k)) :: dct l f from rfl, valV_neg (fun z => e (key_inj z))]
      exact val_dct (by simpa [Ne.symm e] using h)
theorem val_dct_none {f : Nat → Addr} : ∀ {l : List Nat} {i : Nat}, ¬ i ∈ l → valV (dct l f) (Sum.inl (i : Int)) = none
  | [], i, h => rfl
  | k :: l, i, h => by
    have e : ¬ k = i := fun z => h (by simp [z])
    rw [show dct (k :: l) f = ((Sum.inl (k : Int) : Key), V.ref (f k)) :: dct l f from rfl, valV_neg (fun z => e (key_inj z))]
    exact val_dct_none fun m => h (by simp [m])
theorem dct_congr {l : List Nat} {f g : Nat → Addr} (h : ∀ i ∈ l, f i = g i) : dct l f = dct l g := List.map_congr_left fun i hi => by rw [h i hi]
theorem dct_len (l : List Nat) (f : Nat → Addr) : (dct l f).length = l.length := List.length_map _
theorem put_dct_new {f : Nat → Addr} {l : List Nat} {i : Nat} {p : Addr} (h : ¬ i ∈ l) : putK (dct l f) (Sum.inl (i : Int)) (.ref p) = dct (l ++ [i]) (fun k => if k = i then p else f k) := by
  rw [putK_new _ (val_dct_none h)]
  show _ = List.map _ (l ++ [i])
  rw [List.map_append]
  congr 1
  · exact dct_congr fun k hk => by rw [if_neg fun e => h (by rw [← e]; exact hk)]
  · simp
theorem put_dct_old {f : Nat → Addr} {l : List Nat} {i : Nat} {p : Addr} (h : i ∈ l) : putK (dct l f) (Sum.inl (i : Int)) (.ref p) = dct l (fun k => if k = i then p else f k) := by
  unfold putK
  rw [if_pos (by rw [valV_any, val_dct h]; rfl)]
  show List.map _ (List.map _ l) = List.map _ l
  rw [List.map_map]
  refine List.map_congr_left fun k _ => ?_
  show (if (Sum.inl (k : Int) : Key) = Sum.inl (i : Int) then ((Sum.inl (k : Int) : Key), V.ref p) else ((Sum.inl (k : Int) : Key), V.ref (f k))) = _
  by_cases e : k = i
  · rw [if_pos (by rw [e])]
    simp [e]
  · rw [if_neg (fun z => e (key_inj z))]
    simp [e]
theorem drop_dct {f : Nat → Addr} {l : List Nat} {i : Nat} : dropK (dct l f) (Sum.inl (i : Int)) = dct (l.filter fun k => decide (k ≠ i)) f := by
  unfold dropK
  show List.filter _ (List.map _ l) = List.map _ (List.filter _ l)
  rw [List.filter_map]
  congr 1
  refine List.filter_congr fun k _ => ?_
  show decide ((Sum.inl (k : Int) : Key) ≠ Sum.inl (i : Int)) = decide (k ≠ i)
  by_cases e : k = i
  · subst e
    simp
  · have h1 : decide (k ≠ i) = true := decide_eq_true e
    have h2 : decide ((Sum.inl (k : Int) : Key) ≠ Sum.inl (i : Int)) = true := decide_eq_true fun z => e (key_inj z)
    rw [h1, h2]
theorem dct_keys (l : List Nat) (f : Nat → Addr) : (dct l f).map (·.1) = (l.map fun (i : Nat) => (i : Int)).map fun k => (Sum.inl k : Key) := by
  rw [List.map_map, List.map_map]
  rfl
theorem small_len {α : Type} {l : List α} {n : Nat} (h : l.length ≤ n) (hn : n < 16777216) : l.length < sizeLine := by
  rw [sizeLine_eq]
  omega
end Jo
end
section
set_option Elab.async false
set_option linter.all false
set_option maxRecDepth 100000
namespace Jo
open PySem L2
open Kp179 (Abs Run job machine there)
open Kp178 (Four Machine Job goodMachine goodJob)
theorem keep_new {H : Hp} {p : Addr} {o : HO} (h : H p = none) : Keep H (upd H p o) := Same.keep (same_new h)
theorem keep_ins {H : Hp} {x C d : Addr} {f : List (Str × V)} {o : HO} (h : H x = some (.ins C d f)) : Keep H (upd H x o) := fun b u e n1 _ => by
  rw [upd_ne (fun z => by subst z; rw [h] at e; exact n1 _ _ _ (Option.some.inj e).symm)]
  exact e
theorem keep_dk {H : Hp} {x : Addr} {k : List (Key × V)} {o : HO} (h : H x = some (.dK k)) : Keep H (upd H x o) := fun b u e _ n2 => by
  rw [upd_ne (fun z => by subst z; rw [h] at e; exact n2 _ (Option.some.inj e).symm)]
  exact e
theorem Keep.seq {K : PySem.W.Frag} {H H' : Hp} {a : Addr} {xs : List V} (e : Keep H H') (h : SqL K H a xs) : SqL K H' a xs := by
  rcases h with (h | ⟨o, h⟩) | h
  · exact .inl (.inl (e _ _ h (fun _ _ _ z => nomatch z) (fun _ z => nomatch z)))
  · exact .inl (.inr ⟨o, e _ _ h (fun _ _ _ z => nomatch z) (fun _ z => nomatch z)⟩)
  · exact .inr h
def But (x : Addr) (H H' : Hp) : Prop := ∀ b o, H b = some o → b ≠ x → H' b = some o
theorem But.refl (x : Addr) (H : Hp) : But x H H := fun _ _ h _ => h
theorem But.new {x p : Addr} {H H' : Hp} {o : HO} (h : But x H H') (hp : H' p = none) : But x H (upd H' p o) := fun b u e n => by
  have := h b u e n
  rw [upd_ne (ne_of_none this hp)]
  exact this
theorem But.at_ {x : Addr} {H H' : Hp} {o : HO} (h : But x H H') : But x H (upd H' x o) := fun b u e n => by
  rw [upd_ne n]
  exact h b u e n
theorem fp {f : Str} {v : V} {fs : List (Str × V)} {n : Nat} (h : fs.length ≤ n) : (putF f v fs).length ≤ n + 1 := Nat.le_trans (length_putF f v fs) (Nat.succ_le_succ h)
theorem few {fs : List (Str × V)} {n : Nat} (h : fs.length ≤ n) (hn : n < 1000 := by decide) : fs.length < 1000 := Nat.lt_of_le_of_lt h hn
abbrev f0 : ([] : List (Str × V)).length ≤ 0 := Nat.le_refl 0
def spMachInit (K : PySem.W.Frag) (A : Adr) : Sp := fun vs H Q _ => ∃ (x dx l : Addr) (m : Machine), vs = [.ref x, .ref l] ∧ H x = some (.ins A.C_Machine dx []) ∧ SqL K H l ((mnums m).map vi) ∧
  ∀ H' : Hp, MachAt A H' x m → But x H H' → Q .non H'
def spJobInit (K : PySem.W.Frag) (A : Adr) : Sp := fun vs H Q _ => ∃ (x dx l : Addr) (q : Job), vs = [.ref x, .ref l] ∧ H x = some (.ins A.C_Job dx []) ∧ SqL K H l ((jnums q).map vi) ∧
  ∀ H' : Hp, JobAt A H' x q [] → But x H H' → Q .non H'
section
variable {P : Program} {w : World} {K : PySem.W.Frag} {mg : Str → Option Value} {base : Heap} {A : Adr}
theorem ok_Machine_init (T : Txt K mg A) : FnOk P w K mg base CX0 1 A.f_Machine_init A.fd_Machine_init ["self", "numbers"] (spMachInit K A) := by
  refine T.F_Machine_init.ok sc_Machine_init (fun vs H Q E h => ?_) (fun cdv Ar outer s H vs Q E hr h => ?_)
  · obtain ⟨x, dx, l, m, rfl, _⟩ := h
    rfl
  · obtain ⟨x, dx, l, m, rfl, hx, hl, k⟩ := h
    refine ⟨_, (pss_cons (ps_fld (pv 0) (pe_slice sl_list (pv 1) (po_some pe_int) (po_some pe_int)) rfl)
      (pss_cons (ps_fld (pv 0) (pe_ix ix_list (pv 1) pe_int (fun _ _ => rfl)) rfl)
      (pss_cons (ps_fld (pv 0) (pe_ix ix_list (pv 1) pe_int (fun _ _ => rfl)) rfl)
      (pss_one (ps_fld (pv 0) (pe_ix ix_list (pv 1) pe_int (fun _ _ => rfl)) rfl))))), ?_⟩
    refine ⟨_, rfl, _, rfl, _, rfl, l, _, rfl, hl, fun p hp => ?_⟩
    have k1 : Keep H (upd H p (.lst (cutV ((mnums m).map vi) (some 0) (some 4)))) := keep_new hp
    have x1 : (upd H p (.lst (cutV ((mnums m).map vi) (some 0) (some 4)))) x = some (.ins A.C_Machine dx []) := by
      rw [upd_ne (ne_of_none hx hp)]
      exact hx
    refine ⟨_, rfl, x, _, dx, _, rfl, x1, T.cl_Machine, T.na_Machine_has, by decide, ?_⟩
    refine ⟨_, rfl, l, _, _, _, rfl, rfl, (k1.trans (keep_ins x1)).seq hl, at_of (j := 4) rfl rfl, ?_⟩
    refine ⟨_, rfl, x, _, dx, _, rfl, upd_same, T.cl_Machine, T.na_Machine_labels, few (fp f0), ?_⟩
    refine ⟨_, rfl, l, _, _, _, rfl, rfl, ((k1.trans (keep_ins x1)).trans (keep_ins upd_same)).seq hl, at_of (j := 5) rfl rfl, ?_⟩
    refine ⟨_, rfl, x, _, dx, _, rfl, upd_same, T.cl_Machine, T.na_Machine_zone, few (fp (fp f0)), ?_⟩
    refine ⟨_, rfl, l, _, _, _, rfl, rfl, (((k1.trans (keep_ins x1)).trans (keep_ins upd_same)).trans (keep_ins upd_same)).seq hl, at_of (j := 6) rfl rfl, ?_⟩
    refine ⟨_, rfl, x, _, dx, _, rfl, upd_same, T.cl_Machine, T.na_Machine_none, few (fp (fp (fp f0))), ?_⟩
    refine k _ ⟨dx, p, ?_, ?_⟩ (((((But.refl x H).new hp).at_).at_).at_).at_
    · rw [upd_same]
      refine congrArg some (congrArg (HO.ins A.C_Machine dx) ?_)
      rw [show ([] : List (Str × V)) = ([] : List Str).zip ([] : List V) from rfl, putF_app rfl (by decide +kernel), putF_app rfl (by decide +kernel), putF_app rfl (by decide +kernel), putF_app rfl (by decide +kernel)]
      rfl
    · have np : p ≠ x := fun e => by
        subst e
        rw [hp] at hx
        cases hx
      rw [upd_ne np, upd_ne np, upd_ne np, upd_ne np, upd_same]
      rfl
theorem ok_Job_init (T : Txt K mg A) : FnOk P w K mg base CX0 1 A.f_Job_init A.fd_Job_init ["self", "numbers"] (spJobInit K A) := by
  refine T.F_Job_init.ok sc_Job_init (fun vs H Q E h => ?_) (fun cdv Ar outer s H vs Q E hr h => ?_)
  · obtain ⟨x, dx, l, m, rfl, _⟩ := h
    rfl
  · obtain ⟨x, dx, l, m, rfl, hx, hl, k⟩ := h
    refine ⟨_, (pss_cons (ps_fld (pv 0) (pe_slice sl_list (pv 1) (po_some pe_int) (po_some pe_int)) rfl)
      (pss_cons (ps_fld (pv 0) (pe_ix ix_list (pv 1) pe_int (fun _ _ => rfl)) rfl)
      (pss_cons (ps_fld (pv 0) (pe_ix ix_list (pv 1) pe_int (fun _ _ => rfl)) rfl)
      (pss_cons (ps_fld (pv 0) (pe_ix ix_list (pv 1) pe_int (fun _ _ => rfl)) rfl)
      (pss_cons (ps_fld (pv 0) (pe_ix ix_list (pv 1) pe_int (fun _ _ => rfl)) rfl)
      (pss_cons (ps_fld (pv 0) (pe_ix ix_list (pv 1) pe_int (fun _ _ => rfl)) rfl)
      (pss_cons (ps_fld (pv 0) (pe_ix ix_list (pv 1) pe_int (fun _ _ => rfl)) rfl)
      (pss_one (ps_fld (pv 0) (pe_lst pa_nil) rfl))))))))), ?_⟩
    refine ⟨_, rfl, _, rfl, _, rfl, l, _, rfl, hl, fun p hp => ?_⟩
    have k1 : Keep H (upd H p (.lst (cutV ((jnums m).map vi) (some 0) (some 4)))) := keep_new hp
    have x1 : (upd H p (.lst (cutV ((jnums m).map vi) (some 0) (some 4)))) x = some (.ins A.C_Job dx []) := by
      rw [upd_ne (ne_of_none hx hp)]
      exact hx
    refine ⟨_, rfl, x, _, dx, _, rfl, x1, T.cl_Job, T.na_Job_wants, by decide, ?_⟩
    refine ⟨_, rfl, l, _, _, _, rfl, rfl, (k1.trans (keep_ins x1)).seq hl, at_of (j := 4) rfl rfl, ?_⟩
    refine ⟨_, rfl, x, _, dx, _, rfl, upd_same, T.cl_Job, T.na_Job_needs, few (fp f0), ?_⟩
    refine ⟨_, rfl, l, _, _, _, rfl, rfl, ((k1.trans (keep_ins x1)).trans (keep_ins upd_same)).seq hl, at_of (j := 5) rfl rfl, ?_⟩
    refine ⟨_, rfl, x, _, dx, _, rfl, upd_same, T.cl_Job, T.na_Job_never, few (fp (fp f0)), ?_⟩
    refine ⟨_, rfl, l, _, _, _, rfl, rfl, (((k1.trans (keep_ins x1)).trans (keep_ins upd_same)).trans (keep_ins upd_same)).seq hl, at_of (j := 6) rfl rfl, ?_⟩
    refine ⟨_, rfl, x, _, dx, _, rfl, upd_same, T.cl_Job, T.na_Job_copies, few (fp (fp (fp f0))), ?_⟩
    refine ⟨_, rfl, l, _, _, _, rfl, rfl, ((((k1.trans (keep_ins x1)).trans (keep_ins upd_same)).trans (keep_ins upd_same)).trans (keep_ins upd_same)).seq hl, at_of (j := 7) rfl rfl, ?_⟩
    refine ⟨_, rfl, x, _, dx, _, rfl, upd_same, T.cl_Job, T.na_Job_apart, few (fp (fp (fp (fp f0)))), ?_⟩
    refine ⟨_, rfl, l, _, _, _, rfl, rfl, (((((k1.trans (keep_ins x1)).trans (keep_ins upd_same)).trans (keep_ins upd_same)).trans (keep_ins upd_same)).trans (keep_ins upd_same)).seq hl, at_of (j := 8) rfl rfl, ?_⟩
    refine ⟨_, rfl, x, _, dx, _, rfl, upd_same, T.cl_Job, T.na_Job_spread, few (fp (fp (fp (fp (fp f0))))), ?_⟩
    refine ⟨_, rfl, l, _, _, _, rfl, rfl, ((((((k1.trans (keep_ins x1)).trans (keep_ins upd_same)).trans (keep_ins upd_same)).trans (keep_ins upd_same)).trans (keep_ins upd_same)).trans (keep_ins upd_same)).seq hl, at_of (j := 9) rfl rfl, ?_⟩
    refine ⟨_, rfl, x, _, dx, _, rfl, upd_same, T.cl_Job, T.na_Job_rank, few (fp (fp (fp (fp (fp (fp f0)))))), ?_⟩
    refine ⟨Nat.zero_le _, fun e he => ?_⟩
    have ne : x ≠ e := fun z => by
      subst z
      rw [upd_same] at he
      cases he
    refine ⟨_, rfl, x, _, dx, _, rfl, (by rw [upd_ne ne]; exact upd_same), T.cl_Job, T.na_Job_places, few (fp (fp (fp (fp (fp (fp (fp f0))))))), ?_⟩
    refine k _ ⟨dx, p, e, ?_, ?_, ?_⟩ (((((((((But.refl x H).new hp).at_).at_).at_).at_).at_).at_).at_.new he).at_
    · rw [upd_same]
      refine congrArg some (congrArg (HO.ins A.C_Job dx) ?_)
      rw [show ([] : List (Str × V)) = ([] : List Str).zip ([] : List V) from rfl, putF_app rfl (by decide +kernel), putF_app rfl (by decide +kernel), putF_app rfl (by decide +kernel), putF_app rfl (by decide +kernel), putF_app rfl (by decide +kernel), putF_app rfl (by decide +kernel), putF_app rfl (by decide +kernel), putF_app rfl (by decide +kernel)]
      rfl
    · have np : p ≠ x := fun e => by
        subst e
        rw [hp] at hx
        cases hx
      have npe : p ≠ e := fun z => by
        subst z
        rw [upd_ne np, upd_ne np, upd_ne np, upd_ne np, upd_ne np, upd_ne np, upd_ne np, upd_same] at he
        cases he
      rw [upd_ne np, upd_ne npe, upd_ne np, upd_ne np, upd_ne np, upd_ne np, upd_ne np, upd_ne np, upd_ne np, upd_same]
      rfl
    · rw [upd_ne ne.symm, upd_same]
      rfl
def spMachTold (A : Adr) : Sp := fun vs H Q _ => ∃ (x : Addr) (m : Machine), vs = [.ref x] ∧ MachAt A H x m ∧ Q (.bl (goodMachine m)) H
def spJobBool (A : Adr) (f : Job → Bool) : Sp := fun vs H Q _ => ∃ (x : Addr) (q : Job) (ps : List Nat), vs = [.ref x] ∧ JobAt A H x q ps ∧ Q (.bl (f q)) H
def wantsOk (q : Job) : Bool := q.wants.list.all (fun x => decide (x ≤ Kp178.GREAT)) && q.wants.list.any (fun x => x != 0)
def copiesOk (q : Job) : Bool := decide (1 ≤ q.copies) && decide (q.copies ≤ 16) && decide (q.apart ≤ 1) && decide (q.spread ≤ 16)
theorem max4 {x : Four} {m : Int} (h1 : m ∈ [(x.a : Int), (x.b : Int), (x.c : Int), (x.d : Int)]) (h2 : ∀ y, y ∈ [(x.a : Int), (x.b : Int), (x.c : Int), (x.d : Int)] → y ≤ m) :
    decide (m ≤ 16777216) = x.list.all (fun x => decide (x ≤ Kp178.GREAT)) ∧ decide (0 < m) = x.list.any (fun x => x != 0) := by
  have a1 := h2 x.a (by simp)
  have a2 := h2 x.b (by simp)
  have a3 := h2 x.c (by simp)
  have a4 := h2 x.d (by simp)
  have hm : m = x.a ∨ m = x.b ∨ m = x.c ∨ m = x.d := by simpa using h1
  constructor
  · rw [Bool.eq_iff_iff]
    have hG : Kp178.GREAT = 16777216 := rfl
    simp [Four.list]
    omega
  · rw [Bool.eq_iff_iff]
    simp [Four.list]
    omega
theorem dz {n : Nat} {k : Int} {j : Nat} (h : k = (j : Int)) : decide ((n : Int) ≤ k) = decide (n ≤ j) := by
  rw [Bool.eq_iff_iff, decide_eq_true_eq, decide_eq_true_eq]
  omega
theorem dn {n : Nat} {k : Int} {j : Nat} (h : k = (j : Int)) : decide (V.int (n : Int) = V.int k) = (n == j) := by
  rw [Bool.eq_iff_iff, decide_eq_true_eq, beq_iff_eq, V.int.injEq]
  omega
abbrev I4 (x : Four) : List Int := [(x.a : Int), (x.b : Int), (x.c : Int), (x.d : Int)]
theorem I4_pos (x : Four) : 0 < (I4 x).length := Nat.succ_pos _
theorem ok_Machine_is_as_told (T : Txt K mg A) : FnOk P w K mg base CX0 1 A.f_Machine_is_as_told A.fd_Machine_is_as_told ["self"] (spMachTold A) := by
  refine T.F_Machine_is_as_told.ok sc_Machine_is_as_told (fun vs H Q E h => ?_) (fun cdv Ar outer s H vs Q E hr h => ?_)
  · obtain ⟨x, m, rfl, _⟩ := h
    rfl
  · obtain ⟨x, m, rfl, ⟨d, hl, h1, h2⟩, k⟩ := h
    refine ⟨_, (pss_one (ps_ret (pe_and (pe_cmpR op_le (pe_callB (cr_max rfl) (by rfl) T.n_max (by rfl) (pa_cons (pe_fld (pv 0) rfl) pa_nil)) (pe_glob rfl T.g_MOST_ROOM T.r_MOST_ROOM) (nomark _)) (pe_and (pe_cmpR op_le (pe_fld (pv 0) rfl) (pe_glob rfl T.g_LAST_ZONE T.r_LAST_ZONE) (nomark _)) (pe_one (pe_cmpR op_eq (pe_fld (pv 0) rfl) pe_int (nomark _))))))), ?_⟩
    refine ⟨_, rfl, x, _, d, _, _, rfl, h1, T.cl_Machine, T.na_Machine_has, lookup_zip (i := 0) nd_Machine rfl rfl, hl, I4 m.has, rfl, SqL.of h2, I4_pos _, fun mx hm1 hm2 => ?_⟩
    obtain ⟨e1, _⟩ := max4 hm1 hm2
    refine ⟨_, _, rfl, rfl, _, rfl, ?_⟩
    have fin : goodMachine m = (decide (mx ≤ 16777216) && (decide ((m.zone : Int) ≤ 7) && decide (V.int (m.none_ : Int) = V.int 0))) := by
      rw [e1, dz (k := 7) (j := 7) rfl, dn (k := 0) (j := 0) rfl, goodMachine, Bool.and_assoc]
    by_cases c1 : mx ≤ 16777216
    · rw [if_pos (decide_eq_true c1)]
      refine ⟨_, rfl, x, _, d, _, _, rfl, h1, T.cl_Machine, T.na_Machine_zone, lookup_zip (i := 2) nd_Machine rfl rfl, _, _, rfl, rfl, _, rfl, ?_⟩
      by_cases c2 : (m.zone : Int) ≤ 7
      · rw [if_pos (decide_eq_true c2)]
        refine ⟨_, rfl, x, _, d, _, _, rfl, h1, T.cl_Machine, T.na_Machine_none, lookup_zip (i := 3) nd_Machine rfl rfl, rfl, ?_⟩
        rw [fin, decide_eq_true c1, decide_eq_true c2] at k
        exact k
      · rw [if_neg (by simpa using c2)]
        rw [fin, decide_eq_true c1, decide_eq_false c2] at k
        exact k
    · rw [if_neg (by simpa using c1)]
      rw [fin, decide_eq_false c1] at k
      exact k
theorem ok_Job_has_right_wants (T : Txt K mg A) : FnOk P w K mg base CX0 1 A.f_Job_has_right_wants A.fd_Job_has_right_wants ["self"] (spJobBool A wantsOk) := by
  refine T.F_Job_has_right_wants.ok sc_Job_has_right_wants (fun vs H Q E h => ?_) (fun cdv Ar outer s H vs Q E hr h => ?_)
  · obtain ⟨x, q, ps, rfl, _⟩ := h
    rfl
  · obtain ⟨x, q, ps, rfl, ⟨d, wl, pl, h1, h2, h3⟩, k⟩ := h
    refine ⟨_, (pss_one (ps_ret (pe_chain op_lt op_le pe_int (pe_callB (cr_max rfl) (by rfl) T.n_max (by rfl) (pa_cons (pe_fld (pv 0) rfl) pa_nil)) (pe_glob rfl T.g_MOST_ROOM T.r_MOST_ROOM)))), ?_⟩
    refine ⟨_, rfl, x, _, d, _, _, rfl, h1, T.cl_Job, T.na_Job_wants, lookup_zip (i := 0) nd_Job rfl rfl, wl, I4 q.wants, rfl, SqL.of h2, I4_pos _, fun mx hm1 hm2 => ?_⟩
    obtain ⟨e1, e2⟩ := max4 hm1 hm2
    have fin : wantsOk q = (decide (0 < mx) && decide (mx ≤ 16777216)) := by
      rw [e1, e2, wantsOk, Bool.and_comm]
    refine ⟨_, _, rfl, rfl, _, rfl, ?_⟩
    by_cases c1 : (0 : Int) < mx
    · rw [if_pos (decide_eq_true c1)]
      refine ⟨_, _, rfl, rfl, ?_⟩
      rw [fin, decide_eq_true c1] at k
      exact k
    · rw [if_neg (by simpa using c1)]
      rw [fin, decide_eq_false c1] at k
      exact k
theorem ok_Job_has_right_copies (T : Txt K mg A) : FnOk P w K mg base CX0 1 A.f_Job_has_right_copies A.fd_Job_has_right_copies ["self"] (spJobBool A copiesOk) := by
  refine T.F_Job_has_right_copies.ok sc_Job_has_right_copies (fun vs H Q E h => ?_) (fun cdv Ar outer s H vs Q E hr h => ?_)
  · obtain ⟨x, q, ps, rfl, _⟩ := h
    rfl
  · obtain ⟨x, q, ps, rfl, ⟨d, wl, pl, h1, h2, h3⟩, k⟩ := h
    refine ⟨_, (pss_one (ps_ret (pe_and (pe_chain op_le op_le pe_int (pe_fld (pv 0) rfl) (pe_glob rfl T.g_MOST_COPIES T.r_MOST_COPIES)) (pe_and (pe_cmpR op_le (pe_fld (pv 0) rfl) pe_int (nomark _)) (pe_one (pe_cmpR op_le (pe_fld (pv 0) rfl) (pe_glob rfl T.g_MOST_SPREAD T.r_MOST_SPREAD) (nomark _))))))), ?_⟩
    have fin : copiesOk q = (decide ((1 : Int) ≤ (q.copies : Int)) && (decide ((q.copies : Int) ≤ 16) && (decide ((q.apart : Int) ≤ 1) && decide ((q.spread : Int) ≤ 16)))) := by
      have e0 : decide ((1 : Int) ≤ (q.copies : Int)) = decide (1 ≤ q.copies) := by
        rw [Bool.eq_iff_iff, decide_eq_true_eq, decide_eq_true_eq]
        omega
      rw [e0, dz (k := 16) (j := 16) rfl, dz (k := 1) (j := 1) rfl, dz (k := 16) (j := 16) rfl, copiesOk, Bool.and_assoc, Bool.and_assoc]
    refine ⟨_, rfl, x, _, d, _, _, rfl, h1, T.cl_Job, T.na_Job_copies, lookup_zip (i := 3) nd_Job rfl rfl, _, _, rfl, rfl, _, rfl, ?_⟩
    by_cases c1 : (1 : Int) ≤ (q.copies : Int)
    · rw [if_pos (decide_eq_true c1)]
      refine ⟨_, _, rfl, rfl, _, rfl, ?_⟩
      by_cases c2 : (q.copies : Int) ≤ 16
      · rw [if_pos (decide_eq_true c2)]
        refine ⟨_, rfl, x, _, d, _, _, rfl, h1, T.cl_Job, T.na_Job_apart, lookup_zip (i := 4) nd_Job rfl rfl, _, _, rfl, rfl, _, rfl, ?_⟩
        by_cases c3 : (q.apart : Int) ≤ 1
        · rw [if_pos (decide_eq_true c3)]
          refine ⟨_, rfl, x, _, d, _, _, rfl, h1, T.cl_Job, T.na_Job_spread, lookup_zip (i := 5) nd_Job rfl rfl, _, _, rfl, rfl, ?_⟩
          rw [fin, decide_eq_true c1, decide_eq_true c2, decide_eq_true c3] at k
          exact k
        · rw [if_neg (by simpa using c3)]
          rw [fin, decide_eq_true c1, decide_eq_true c2, decide_eq_false c3] at k
          exact k
      · rw [if_neg (by simpa using c2)]
        rw [fin, decide_eq_true c1, decide_eq_false c2] at k
        exact k
    · rw [if_neg (by simpa using c1)]
      rw [fin, decide_eq_false c1] at k
      refine ⟨false, rfl, ?_⟩
      rw [if_neg Bool.false_ne_true]
      exact k
theorem ok_Job_is_as_told (T : Txt K mg A) : FnOk P w K mg base CX0 2 A.f_Job_is_as_told A.fd_Job_is_as_told ["self"] (spJobBool A goodJob) := by
  have G_Job_has_right_wants := ok_Job_has_right_wants (P := P) (w := w) (base := base) T
  have G_Job_has_right_copies := ok_Job_has_right_copies (P := P) (w := w) (base := base) T
  refine T.F_Job_is_as_told.ok sc_Job_is_as_told (fun vs H Q E h => ?_) (fun cdv Ar outer s H vs Q E hr h => ?_)
  · obtain ⟨x, q, ps, rfl, _⟩ := h
    rfl
  · obtain ⟨x, q, ps, rfl, J, k⟩ := h
    obtain ⟨d, wl, pl, h1, h2, h3⟩ := id J
    refine ⟨_, (pss_one (ps_ret (pe_and (pe_meth0 (pv 0) T.cl_Job T.m_Job_has_right_wants G_Job_has_right_wants (hr.mono (by decide)) T.b_Job_has_right_wants .nil pass0) (pe_and (pe_meth0 (pv 0) T.cl_Job T.m_Job_has_right_copies G_Job_has_right_copies (hr.mono (by decide)) T.b_Job_has_right_copies .nil pass0) (pe_one (pe_cmpR op_le (pe_fld (pv 0) rfl) (pe_glob rfl T.g_LAST_RANK T.r_LAST_RANK) (nomark _))))))), ?_⟩
    have fin : goodJob q = (wantsOk q && (copiesOk q && decide ((q.rank : Int) ≤ 7))) := by
      rw [dz (k := 7) (j := 7) rfl, goodJob, wantsOk, copiesOk]
      simp only [Bool.and_assoc]
    refine ⟨_, rfl, x, d, _, rfl, h1, lookup_zip_none (by decide +kernel), x, q, ps, rfl, J, _, rfl, ?_⟩
    by_cases c1 : wantsOk q = true
    · rw [if_pos c1]
      refine ⟨_, rfl, x, d, _, rfl, h1, lookup_zip_none (by decide +kernel), x, q, ps, rfl, J, _, rfl, ?_⟩
      by_cases c2 : copiesOk q = true
      · rw [if_pos c2]
        refine ⟨_, rfl, x, _, d, _, _, rfl, h1, T.cl_Job, T.na_Job_rank, lookup_zip (i := 6) nd_Job rfl rfl, _, _, rfl, rfl, ?_⟩
        rw [fin, c1, c2] at k
        exact k
      · rw [if_neg c2]
        rw [fin, c1, Bool.eq_false_iff.mpr c2] at k
        exact k
    · rw [if_neg c1]
      rw [fin, Bool.eq_false_iff.mpr c1] at k
      exact k
def spHasCopy (A : Adr) : Sp := fun vs H Q _ => ∃ (x : Addr) (q : Job) (ps : List Nat) (i : Nat), vs = [.ref x, vi i] ∧ JobAt A H x q ps ∧ Q (.bl (ps.contains i)) H
def spRuns (A : Adr) : Sp := fun vs H Q _ => ∃ (x : Addr) (q : Job) (ps : List Nat), vs = [.ref x] ∧ JobAt A H x q ps ∧ Q (.bl (decide (0 < ps.length))) H
def spRunOn (A : Adr) : Sp := fun vs H Q _ => ∃ (x d wl pl l : Addr) (q : Job), vs = [.ref x, .ref l] ∧ H x = some (.ins A.C_Job d (ks_Job.zip (jv wl pl q))) ∧ Q .non (upd H x (.ins A.C_Job d (ks_Job.zip (jv wl l q))))
def spWait (A : Adr) : Sp := fun vs H Q _ => ∃ (x d wl pl : Addr) (q : Job), vs = [.ref x] ∧ H x = some (.ins A.C_Job d (ks_Job.zip (jv wl pl q))) ∧
  ∀ l, H l = none → Q .non (upd (upd H l (.lst [])) x (.ins A.C_Job d (ks_Job.zip (jv wl l q))))
theorem inV_vi (ps : List Nat) (i : Nat) : inV (vi i) (ps.map vi) = ps.contains i := by
  unfold inV
  rw [List.any_map, Bool.eq_iff_iff]
  simp only [List.any_eq_true, List.contains_iff_mem, Function.comp, vi, eqV, beq_iff_eq]
  constructor
  · rintro ⟨y, hy, e⟩
    have : y = i := by omega
    rw [← this]
    exact hy
  · intro h
    exact ⟨i, h, rfl⟩
theorem flat_vi (ps : List Nat) : (ps.map vi).all flatV = true := by
  rw [List.all_map]
  exact List.all_eq_true.mpr fun x _ => rfl
theorem ok_Job_has_copy_on (T : Txt K mg A) : FnOk P w K mg base CX0 1 A.f_Job_has_copy_on A.fd_Job_has_copy_on ["self", "i"] (spHasCopy A) := by
  refine T.F_Job_has_copy_on.ok sc_Job_has_copy_on (fun vs H Q E h => ?_) (fun cdv Ar outer s H vs Q E hr h => ?_)
  · obtain ⟨x, q, ps, i, rfl, _⟩ := h
    rfl
  · obtain ⟨x, q, ps, i, rfl, ⟨d, wl, pl, h1, h2, h3⟩, k⟩ := h
    refine ⟨_, (pss_one (ps_ret (pe_cmpR op_in_seq (pv 1) (pe_fld (pv 0) rfl) (by with_unfolding_all rfl)))), ?_⟩
    refine ⟨_, rfl, _, rfl, x, _, d, _, _, rfl, h1, T.cl_Job, T.na_Job_places, lookup_zip (i := 7) nd_Job rfl rfl, pl, _, rfl, .inl (SqL.of h3), rfl, flat_vi ps, ?_⟩
    show Q (.bl (inV (vi i) (ps.map vi))) H
    rw [inV_vi]
    exact k
theorem ok_Job_runs (T : Txt K mg A) : FnOk P w K mg base CX0 1 A.f_Job_runs A.fd_Job_runs ["self"] (spRuns A) := by
  refine T.F_Job_runs.ok sc_Job_runs (fun vs H Q E h => ?_) (fun cdv Ar outer s H vs Q E hr h => ?_)
  · obtain ⟨x, q, ps, rfl, _⟩ := h
    rfl
  · obtain ⟨x, q, ps, rfl, ⟨d, wl, pl, h1, h2, h3⟩, k⟩ := h
    refine ⟨_, (pss_one (ps_ret (pe_cmpR op_gt (pe_callB call_len_seq (by rfl) T.n_len PySem.boot_len (pa_cons (pe_fld (pv 0) rfl) pa_nil)) pe_int (nomark _)))), ?_⟩
    refine ⟨_, rfl, x, _, d, _, _, rfl, h1, T.cl_Job, T.na_Job_places, lookup_zip (i := 7) nd_Job rfl rfl, pl, _, rfl, .inl (SqL.of h3), _, _, rfl, rfl, ?_⟩
    show Q (.bl (decide ((0 : Int) < ((ps.map vi).length : Nat)))) H
    rw [List.length_map, show decide ((0 : Int) < (ps.length : Nat)) = decide (0 < ps.length) by rw [Bool.eq_iff_iff, decide_eq_true_eq, decide_eq_true_eq]; omega]
    exact k
theorem ok_Job_run_on (T : Txt K mg A) : FnOk P w K mg base CX0 1 A.f_Job_run_on A.fd_Job_run_on ["self", "places"] (spRunOn A) := by
  refine T.F_Job_run_on.ok sc_Job_run_on (fun vs H Q E h => ?_) (fun cdv Ar outer s H vs Q E hr h => ?_)
  · obtain ⟨x, d, wl, pl, l, q, rfl, _⟩ := h
    rfl
  · obtain ⟨x, d, wl, pl, l, q, rfl, h1, k⟩ := h
    refine ⟨_, (pss_one (ps_fld (pv 0) (pv 1) rfl)), ?_⟩
    refine ⟨_, rfl, _, rfl, x, _, d, _, rfl, h1, T.cl_Job, T.na_Job_places, (by show 8 < 1000; decide), ?_⟩
    rw [putF_zip (i := 7) nd_Job rfl (by show 7 < 8; decide)]
    exact k
theorem ok_Job_wait (T : Txt K mg A) : FnOk P w K mg base CX0 1 A.f_Job_wait A.fd_Job_wait ["self"] (spWait A) := by
  refine T.F_Job_wait.ok sc_Job_wait (fun vs H Q E h => ?_) (fun cdv Ar outer s H vs Q E hr h => ?_)
  · obtain ⟨x, d, wl, pl, q, rfl, _⟩ := h
    rfl
  · obtain ⟨x, d, wl, pl, q, rfl, h1, k⟩ := h
    refine ⟨_, (pss_one (ps_fld (pv 0) (pe_lst pa_nil) rfl)), ?_⟩
    refine ⟨Nat.zero_le _, fun l hl => ⟨_, rfl, x, _, d, _, rfl, (by rw [upd_ne (ne_of_none h1 hl)]; exact h1), T.cl_Job, T.na_Job_places, (by show 8 < 1000; decide), ?_⟩⟩
    rw [putF_zip (i := 7) nd_Job rfl (by show 7 < 8; decide)]
    exact k l hl
end
end Jo
end
section
set_option Elab.async false
set_option linter.all false
set_option maxRecDepth 100000
namespace Jo
open PySem L2
open Kp179 (Abs Run job machine there)
open Kp178 (Four Machine Job goodMachine goodJob)
theorem lc_zip2 {K : PySem.W.Frag} {a b : Addr} {xs ys : List V} {i j : Nat} {tt : TT} {te : TE} {vs : List Nat} {σ : St} {H1 : Hp} {D : Addr} {Qd : Hp → Prop} (F : Nat → List V) (hx : SqL K H1 a xs) (hy : SqL K H1 b ys) (hl : xs.length = ys.length) (hD : H1 D = none) (h0 : F 0 = [])
    (hw : ∀ x y, wipe (((wipe σ vs).set i (some x)).set j (some y)) vs = wipe σ vs)
    (hs : ∀ k x y H, Same H1 H → H D = some (.lst (F k)) → xs[k]? = some x → ys[k]? = some y → tt (((wipe σ vs).set i (some x)).set j (some y)) H fun b H3 =>
      if b = true then te (((wipe σ vs).set i (some x)).set j (some y)) H3 fun z H4 => ∃ acc, H4 D = some (.lst acc) ∧ acc.length < sizeLine ∧ Same H1 (upd H4 D (.lst (acc ++ [z]))) ∧ (upd H4 D (.lst (acc ++ [z]))) D = some (.lst (F (k + 1))) else Same H1 H3 ∧ H3 D = some (.lst (F (k + 1))))
    (hd : ∀ H, Same H1 H → H D = some (.lst (F xs.length)) → Qd H) :
    ∃ W : Nat → Nat → Hp → Prop, (∃ m, W 0 m (upd H1 D (.lst []))) ∧ ∀ n m H, W n m H →
      ((Itz K a b).stop n H ∧ Qd H) ∨ ((Itz K a b).go n H ∧ ∃ Nx : Hp → Prop, (∀ H', Nx H' → ∃ m', m' < m ∧ W (n + 1) m' H') ∧ ∀ x H', (Itz K a b).yld n H x H' → gTup K 2 (gCons (gName i) (gCons (gName j) gNil)) x (wipe σ vs) H' fun σ2 H2 => wipe σ2 vs = wipe σ vs ∧ tt σ2 H2 fun b H3 =>
        if b = true then te σ2 H3 fun y H4 => ∃ acc, H4 D = some (.lst acc) ∧ acc.length < sizeLine ∧ Nx (upd H4 D (.lst (acc ++ [y]))) else Nx H3) := by
  refine lc_it (n := xs.length) (fun k H => Same H1 H ∧ H D = some (.lst (F k))) ⟨same_new hD, by rw [upd_same, h0]⟩ (fun k H hk p => ?_) (fun H p => ⟨xs, ys, p.1.seq hx, p.1.seq hy, .inl (Nat.le_refl _)⟩) (fun k v H H' hk p y => ?_) (fun H p => hd H p.1 p.2)
  · exact ⟨xs, ys, xs[k], ys[k]'(by omega), p.1.seq hx, p.1.seq hy, List.getElem?_eq_getElem hk, List.getElem?_eq_getElem (by omega)⟩
  · obtain ⟨T, x, y, rfl, hT, rfl, e1, e2⟩ := y
    have s2 : Same H (upd H T (.tup [x, y])) := same_new hT
    refine ⟨T, [x, y], rfl, SqT.of upd_same, rfl, x, _, rfl, y, _, rfl, rfl, hw x y, ?_⟩
    exact hs k x y _ (p.1.trans s2) (s2 _ _ p.2) (e1 xs (p.1.seq hx)) (e2 ys (p.1.seq hy))
theorem lc_items {K : PySem.W.Frag} {d : Addr} {od : Obj} {l : List Nat} {f : Nat → Addr} {i j : Nat} {tt : TT} {te : TE} {vs : List Nat} {σ : St} {H1 : Hp} {D : Addr} {Qd : Hp → Prop} (F : Nat → List V) (hd0 : H1 d = some (.frz od (.dK (dct l f)))) (hD : H1 D = none) (h0 : F 0 = [])
    (hw : ∀ x y, wipe (((wipe σ vs).set i (some x)).set j (some y)) vs = wipe σ vs)
    (hs : ∀ (k n : Nat) H, Same H1 H → H D = some (.lst (F k)) → l[k]? = some n → tt (((wipe σ vs).set i (some (vi n))).set j (some (.ref (f n)))) H fun b H3 =>
      if b = true then te (((wipe σ vs).set i (some (vi n))).set j (some (.ref (f n)))) H3 fun z H4 => ∃ acc, H4 D = some (.lst acc) ∧ acc.length < sizeLine ∧ Same H1 (upd H4 D (.lst (acc ++ [z]))) ∧ (upd H4 D (.lst (acc ++ [z]))) D = some (.lst (F (k + 1))) else Same H1 H3 ∧ H3 D = some (.lst (F (k + 1))))
    (hd : ∀ H, Same H1 H → H D = some (.lst (F l.length)) → Qd H) :
    ∃ W : Nat → Nat → Hp → Prop, (∃ m, W 0 m (upd H1 D (.lst []))) ∧ ∀ n m H, W n m H →
      ((Iti d od (dct l f)).stop n H ∧ Qd H) ∨ ((Iti d od (dct l f)).go n H ∧ ∃ Nx : Hp → Prop, (∀ H', Nx H' → ∃ m', m' < m ∧ W (n + 1) m' H') ∧ ∀ x H', (Iti d od (dct l f)).yld n H x H' → gTup K 2 (gCons (gName i) (gCons (gName j) gNil)) x (wipe σ vs) H' fun σ2 H2 => wipe σ2 vs = wipe σ vs ∧ tt σ2 H2 fun b H3 =>
        if b = true then te σ2 H3 fun y H4 => ∃ acc, H4 D = some (.lst acc) ∧ acc.length < sizeLine ∧ Nx (upd H4 D (.lst (acc ++ [y]))) else Nx H3) := by
  refine lc_it (n := l.length) (fun k H => Same H1 H ∧ H D = some (.lst (F k))) ⟨same_new hD, by rw [upd_same, h0]⟩ (fun k H hk p => ⟨p.1 _ _ hd0, by rw [dct_len]; exact hk⟩) (fun H p => ⟨p.1 _ _ hd0, by rw [dct_len]; exact Nat.le_refl _⟩) (fun k v H H' hk p y => ?_) (fun H p => hd H p.1 p.2)
  obtain ⟨T, kk, v', e, rfl, hT, rfl⟩ := y
  have s2 : Same H (upd H T (.tup [kV kk, v'])) := same_new hT
  have e' : (dct l f)[k]? = some ((Sum.inl ((l[k] : Nat) : Int) : Key), V.ref (f l[k])) := by
    rw [List.getElem?_map, List.getElem?_eq_getElem hk]
    rfl
  rw [e'] at e
  cases e
  refine ⟨T, _, rfl, SqT.of upd_same, rfl, _, _, rfl, _, _, rfl, rfl, hw _ _, ?_⟩
  exact hs k l[k] _ (p.1.trans s2) (s2 _ _ p.2) (List.getElem?_eq_getElem hk)
theorem take_snoc {α : Type} {l : List α} {k : Nat} {x : α} (h : l[k]? = some x) : l.take k ++ [x] = l.take (k + 1) := by
  rw [List.take_add_one, h]
  rfl
def spRoom (A : Adr) : Sp := fun vs H Q _ => ∃ (r p : Addr) (x : Four) (q : Job) (ps : List Nat) (c : Nat), vs = [.ref r, .ref p, vi c] ∧ H r = some (.lst (L4 x)) ∧ JobAt A H p q ps ∧ Le4 (q.wants.times c) x ∧ c ≤ 1000 ∧
  ∀ (l : Addr) (H' : Hp), Same H H' → H' l = some (.lst (L4 (x.less (q.wants.times c)))) → Q (.ref l) H'
theorem less4 {x w : Four} {c : Nat} (h : Le4 (w.times c) x) : L4 (x.less (w.times c)) = [.int ((x.a : Int) - (c : Int) * (w.a : Int)), .int ((x.b : Int) - (c : Int) * (w.b : Int)), .int ((x.c : Int) - (c : Int) * (w.c : Int)), .int ((x.d : Int) - (c : Int) * (w.d : Int))] := by
  obtain ⟨h1, h2, h3, h4⟩ := h
  have e : ∀ (a b : Nat), c * b ≤ a → vi (a - c * b) = V.int ((a : Int) - (c : Int) * (b : Int)) := fun a b hab => by
    show V.int ((a - c * b : Nat) : Int) = _
    rw [Int.ofNat_sub hab, Int.natCast_mul]
  show [vi (x.a - c * w.a), vi (x.b - c * w.b), vi (x.c - c * w.c), vi (x.d - c * w.d)] = _
  rw [e _ _ h1, e _ _ h2, e _ _ h3, e _ _ h4]
section
variable {P : Program} {w : World} {K : PySem.W.Frag} {mg : Str → Option Value} {base : Heap} {A : Adr}
theorem ok_room_beside (T : Txt K mg A) : FnOk P w K mg base CX0 1 A.f_room_beside A.fd_room_beside ["room", "job", "count"] (spRoom A) := by
  refine T.F_room_beside.ok sc_room_beside (fun vs H Q E h => ?_) (fun cdv Ar outer s H vs Q E hr h => ?_)
  · obtain ⟨r, p, x, q, ps, c, rfl, _⟩ := h
    rfl
  · obtain ⟨r, p, x, q, ps, c, rfl, hR, ⟨d, wl, pl, h1, h2, h3⟩, hle, hc, k⟩ := h
    refine ⟨_, (pss_one (ps_ret (pe_lc (g := (gTup K 2 (gCons (gName 3) (gCons (gName 4) gNil)))) rfl sc_room_beside.nd (pi_zip rfl T.n_zip (pa_cons (pv 0) (pa_cons (pe_fld (pv 1) rfl) pa_nil))) (blkOk_by (own := [("have", 3), ("want", 4)]) (by rfl)) (fun _ _ _ _ _ => (pg_tup rfl (pgs_cons (pg_name (i := 3) sc_room_beside.nd rfl (Or.inl rfl) (.inr rfl)) (pgs_cons (pg_name (i := 4) sc_room_beside.nd rfl (Or.inl rfl) (.inr rfl)) pgs_nil)))) (fun _ _ _ _ _ => pts_nil) (fun _ _ _ _ _ => (pe_op op_sub (pv 3) (pe_op op_mul (pv 2) (pv 4))))))), ?_⟩
    refine ⟨_, rfl, _, rfl, p, _, d, _, _, rfl, h1, T.cl_Job, T.na_Job_wants, lookup_zip (i := 0) nd_Job rfl rfl, r, wl, _, _, rfl, SqL.of hR, SqL.of h2, fun D hD => ?_⟩
    refine lc_zip2 (F := fun k => (L4 (x.less (q.wants.times c))).take k) (SqL.of hR) (SqL.of h2) rfl hD rfl (fun _ _ => rfl) (fun n u v H2 s2 hD2 hu hv => ?_) (fun H2 s2 hD2 => k D H2 s2 (by simpa using hD2))
    rw [less4 hle] at hD2 ⊢
    have fin : ∀ (a b : Nat), u = vi a → v = vi b → [V.int ((x.a : Int) - (c : Int) * (q.wants.a : Int)), .int ((x.b : Int) - (c : Int) * (q.wants.b : Int)), .int ((x.c : Int) - (c : Int) * (q.wants.c : Int)), .int ((x.d : Int) - (c : Int) * (q.wants.d : Int))][n]? = some (V.int ((a : Int) - (c : Int) * (b : Int))) →
        (tOp (rI0 fun i j => V.int (i - j)) (tVar 3) (tOp (rI CMul fun i j => V.int (i * j)) (tVar 2) (tVar 4))) [some (.ref r), some (.ref p), some (vi c), some u, some v] H2 fun z H4 => ∃ acc, H4 D = some (.lst acc) ∧ acc.length < sizeLine ∧ Same H (upd H4 D (.lst (acc ++ [z]))) ∧
          (upd H4 D (.lst (acc ++ [z]))) D = some (.lst ([V.int ((x.a : Int) - (c : Int) * (q.wants.a : Int)), .int ((x.b : Int) - (c : Int) * (q.wants.b : Int)), .int ((x.c : Int) - (c : Int) * (q.wants.c : Int)), .int ((x.d : Int) - (c : Int) * (q.wants.d : Int))].take (n + 1))) := by
      intro a b ea eb hn
      subst ea eb
      refine ⟨_, rfl, _, rfl, _, rfl, _, _, rfl, rfl, .inl ⟨by omega, by omega⟩, _, _, rfl, rfl, _, hD2, ?_, ?_, ?_⟩
      · exact small_len (n := 4) (by rw [List.length_take]; exact Nat.min_le_right _ _) (by decide)
      · exact fun b' o e => by
          have := s2 b' o e
          rw [upd_ne (ne_of_none e hD)]
          exact this
      · rw [upd_same, take_snoc hn]
    match n, hu, hv with
    | 0, hu, hv => cases hu; cases hv; exact fin x.a q.wants.a rfl rfl rfl
    | 1, hu, hv => cases hu; cases hv; exact fin x.b q.wants.b rfl rfl rfl
    | 2, hu, hv => cases hu; cases hv; exact fin x.c q.wants.c rfl rfl rfl
    | 3, hu, hv => cases hu; cases hv; exact fin x.d q.wants.d rfl rfl rfl
    | n + 4, hu, _ => simp at hu
end
end Jo
end
section
set_option Elab.async false
set_option linter.all false
set_option maxRecDepth 100000
namespace Jo
open PySem L2
open Kp179 (Abs Run job machine there)
open Kp178 (Four Machine Job goodMachine goodJob)
theorem same_at {H H' : Hp} {p : Addr} {o : HO} (s : Same H H') (h : H p = none) : Same H (upd H' p o) := fun b u e => by
  rw [upd_ne (ne_of_none e h)]
  exact s b u e
def spFreeBeside (A : Adr) : Sp := fun vs H Q _ => ∃ (f p : Addr) (mk : List Nat) (room : Nat → Four) (q : Job) (ps : List Nat), vs = [.ref f, .ref p] ∧ FreeAt H f mk room ∧ mk.length ≤ 64 ∧ JobAt A H p q ps ∧ (∀ i ∈ ps, i ∈ mk) ∧
  (∀ i ∈ mk, Le4 (q.wants.times (Kp178.on ps i)) (room i)) ∧ ∀ (l : Addr) (H' : Hp), Same H H' → FreeAt H' l mk (fun i => (room i).less (q.wants.times (Kp178.on ps i))) → Q (.ref l) H'
section
variable {P : Program} {w : World} {K : PySem.W.Frag} {mg : Str → Option Value} {base : Heap} {A : Adr}
theorem ok_free_beside (T : Txt K mg A) : FnOk P w K mg base CX0 2 A.f_free_beside A.fd_free_beside ["free", "job"] (spFreeBeside A) := by
  have G_room_beside := ok_room_beside (P := P) (w := w) (base := base) T
  refine T.F_free_beside.ok sc_free_beside (fun vs H Q E h => ?_) (fun cdv Ar outer s H vs Q E hr h => ?_)
  · obtain ⟨f, p, mk, room, q, ps, rfl, _⟩ := h
    rfl
  · obtain ⟨f, p, mk, room, q, ps, rfl, ⟨al, hf, hal⟩, hmk, J, hsub, hfit, k⟩ := h
    obtain ⟨d, wl, pl, h1, h2, h3⟩ := id J
    have hu := hu_of hr
    refine ⟨_, (pss_cons (ps_set (i := 2) sc_free_beside.nd rfl (Or.inl rfl) (pe_callTy call_dictD (by rfl) T.n_dict (by rfl) (pa_cons (pv 0) pa_nil)))
      (pss_cons (ps_for PassesOwn.never rfl (pi_list (pe_fld (pv 1) rfl)) (pg_name (i := 3) sc_free_beside.nd rfl (Or.inl rfl))
        (pss_one (ps_dput hu (pv 2) (pv 3) (pe_call G_room_beside (hr.mono (by decide)) rfl T.mg_room_beside T.F_room_beside.kp T.b_room_beside .nil pass0 (pa_cons (pe_dget hu (pv 2) (pv 3) (fun _ _ => rfl)) (pa_cons (pv 1) (pa_cons pe_int pa_nil)))) rfl)))
      (pss_one (ps_ret (pv 2))))), ?_⟩
    refine ⟨_, rfl, f, _, rfl, .inl hf, fun ld hld => ?_⟩
    have s0 : Same H (upd H ld (.dK (dct mk al))) := same_new hld
    refine ⟨_, rfl, p, _, d, _, _, rfl, s0 _ _ h1, T.cl_Job, T.na_Job_places, lookup_zip (i := 7) nd_Job rfl rfl, pl, rfl, ⟨_, SqL.of (s0 _ _ h3)⟩,
      for_list (K := K) (a := pl) (xs := ps.map vi) (fun n σ H2 => ∃ (v3 : Option V) (al2 : Nat → Addr), σ = [some (.ref f), some (.ref p), some (.ref ld), v3] ∧ Same H H2 ∧ H2 ld = some (.dK (dct mk al2)) ∧
        ∀ i ∈ mk, H2 (al2 i) = some (.lst (L4 ((room i).less (q.wants.times (Kp178.on (ps.take n) i)))))) ?_ ?_ ?_ ?_⟩
    · refine ⟨none, al, rfl, s0, upd_same, fun i hi => ?_⟩
      rw [show Kp178.on (ps.take 0) i = 0 from rfl, times_zero]
      exact s0 _ _ (hal i hi)
    · rintro n σ H2 _ ⟨v3, al2, rfl, s2, _, _⟩
      exact SqL.of (s2 _ _ h3)
    · rintro n y σ H2 hn ⟨v3, al2, rfl, s2, hd2, hc2⟩
      obtain ⟨i, hi, rfl⟩ : ∃ i, ps[n]? = some i ∧ y = vi i := by
        rw [List.getElem?_map] at hn
        cases e : ps[n]? with
        | none =>
          rw [e] at hn
          cases hn
        | some i =>
          rw [e] at hn
          exact ⟨i, rfl, (Option.some.inj hn).symm⟩
      have him : i ∈ mk := hsub i (List.mem_of_getElem? hi)
      have htk : ps.take (n + 1) = ps.take n ++ [i] := (take_snoc hi).symm
      have hon : ∀ j, Kp178.on (ps.take (n + 1)) j = Kp178.on (ps.take n) j + if j = i then 1 else 0 := fun j => by
        rw [htk, on_append, on_one]
      have hle : Kp178.on (ps.take n) i + 1 ≤ Kp178.on ps i := by
        have := on_take_le ps (n + 1) i
        rw [hon, if_pos rfl] at this
        exact this
      refine ⟨_, rfl, _, rfl, ld, _, rfl, .inl ⟨_, Sum.inl (i : Int), .inl hd2, rfl, (val_dct him).symm⟩, _, rfl, ?_⟩
      refine ⟨al2 i, p, _, q, ps, 1, rfl, hc2 i him, J.same s2, le4_one hle (hfit i him), by decide, fun l H3 s3 hl3 => ?_⟩
      have hd3 := s3 _ _ hd2
      refine ⟨_, rfl, _, rfl, ld, _, rfl, DPut.k (k := Sum.inl (i : Int)) hd3 (small_len (n := 64) (by rw [dct_len]; exact hmk) (by decide)), ?_⟩
      refine ⟨_, fun j => if j = i then l else al2 j, rfl, same_at (s2.trans s3) hld, by rw [upd_same, put_dct_old him], fun j hj => ?_⟩
      show upd H3 ld _ (if j = i then l else al2 j) = _
      by_cases e : j = i
      · subst e
        rw [if_pos rfl, upd_ne (ne_of hl3 hd3 (fun z => nomatch z)), hl3, hon, if_pos rfl, less_succ]
      · have hj2 := s3 _ _ (hc2 j hj)
        rw [if_neg e, upd_ne (ne_of hj2 hd3 (fun z => nomatch z)), hj2, hon, if_neg e]
        rfl
    · rintro σ H2 ⟨v3, al2, rfl, s2, hd2, hc2⟩
      refine ⟨_, rfl, k ld H2 s2 ⟨al2, hd2, fun i hi => ?_⟩⟩
      have := hc2 i hi
      rw [List.length_map, List.take_length] at this
      exact this
def spCopies (A : Adr) : Sp := fun vs H Q _ => ∃ (p m r : Addr) (q : Job) (ps : List Nat) (mm : Machine) (x : Four), vs = [.ref p, .ref m, .ref r] ∧ JobAt A H p q ps ∧ MachAt A H m mm ∧ H r = some (.lst (L4 x)) ∧ goodJob q = true ∧
  ∀ (n : Nat) (H' : Hp), Same H H' → (∀ most, Kp178.holds { mm with has := x } q most = min most n) → Q (vi n) H'
theorem and_nat (a b : Nat) : Builtin.bitAnd (a : Int) (b : Int) = ((a &&& b : Nat) : Int) := PyProof.Rows.bitAnd_pp (by omega) (by omega)
theorem and_is (a b n : Nat) : decide (V.int (Builtin.bitAnd (a : Int) (b : Int)) = vi n) = (a &&& b == n) := by
  rw [Bool.eq_iff_iff, decide_eq_true_eq, beq_iff_eq, and_nat, vi, V.int.injEq]
  omega
theorem and_is0 (a b : Nat) : decide (V.int (Builtin.bitAnd (a : Int) (b : Int)) = V.int 0) = (a &&& b == 0) := and_is a b 0
theorem good_wants {q : Job} (h : goodJob q = true) : q.wants.list.any (fun x => x != 0) = true ∧ (q.wants.a ≤ 16777216 ∧ q.wants.b ≤ 16777216 ∧ q.wants.c ≤ 16777216 ∧ q.wants.d ≤ 16777216) ∧ 1 ≤ q.copies ∧ q.copies ≤ 16 ∧ q.apart ≤ 1 ∧ q.spread ≤ 16 ∧ q.rank ≤ 7 := by
  unfold goodJob at h
  simp only [Bool.and_eq_true, decide_eq_true_eq] at h
  obtain ⟨⟨⟨⟨⟨⟨h1, h2⟩, h3⟩, h4⟩, h5⟩, h6⟩, h7⟩ := h
  refine ⟨h2, ?_, h3, h4, h5, h6, h7⟩
  simp only [Four.list, List.all_cons, List.all_nil, Bool.and_eq_true, decide_eq_true_eq, and_true] at h1
  exact h1
def fitsTo (x w : Four) (n : Nat) : List Nat := (((x.list.zip w.list).take n).filter fun z => decide (0 < z.2)).map fun z => z.1 / z.2
theorem fitsTo_step {x w : Four} {n a b : Nat} (h : (x.list.zip w.list)[n]? = some (a, b)) : fitsTo x w (n + 1) = fitsTo x w n ++ if 0 < b then [a / b] else [] := by
  unfold fitsTo
  rw [← take_snoc h, List.filter_append, List.map_append]
  congr 1
  by_cases hb : 0 < b
  · rw [if_pos hb]
    simp [List.filter, hb]
  · rw [if_neg hb]
    simp [List.filter, hb]
theorem fitsTo_len (x w : Four) (n : Nat) : (fitsTo x w n).length ≤ 4 := by
  unfold fitsTo
  rw [List.length_map]
  refine Nat.le_trans (List.length_filter_le _ _) ?_
  rw [List.length_take]
  exact Nat.min_le_right _ _
theorem zip4 {x w : Four} {n : Nat} {u v : V} (hu : (L4 x)[n]? = some u) (hv : (L4 w)[n]? = some v) : ∃ a b, u = vi a ∧ v = vi b ∧ (x.list.zip w.list)[n]? = some (a, b) ∧ b ∈ w.list := by
  match n, hu, hv with
  | 0, hu, hv => cases hu; cases hv; exact ⟨_, _, rfl, rfl, rfl, by simp [Four.list]⟩
  | 1, hu, hv => cases hu; cases hv; exact ⟨_, _, rfl, rfl, rfl, by simp [Four.list]⟩
  | 2, hu, hv => cases hu; cases hv; exact ⟨_, _, rfl, rfl, rfl, by simp [Four.list]⟩
  | 3, hu, hv => cases hu; cases hv; exact ⟨_, _, rfl, rfl, rfl, by simp [Four.list]⟩
  | n + 4, hu, _ => simp at hu
theorem ok_copies_that_fit (T : Txt K mg A) : FnOk P w K mg base CX0 1 A.f_copies_that_fit A.fd_copies_that_fit ["job", "machine", "room"] (spCopies A) := by
  refine T.F_copies_that_fit.ok sc_copies_that_fit (fun vs H Q E h => ?_) (fun cdv Ar outer s H vs Q E hr h => ?_)
  · obtain ⟨p, m, r, q, ps, mm, x, rfl, _⟩ := h
    rfl
  · obtain ⟨p, m, r, q, ps, mm, x, rfl, ⟨d, wl, pl, h1, h2, h3⟩, ⟨dm, hl, m1, m2⟩, hR, hg, k⟩ := h
    obtain ⟨gw, ⟨w1, w2, w3, w4⟩, _⟩ := good_wants hg
    refine ⟨_, (pss_cons (ps_if (pw_or (pt_cmpR op_ne (pe_op op_and (pe_fld (pv 1) rfl) (pe_fld (pv 0) rfl)) (pe_fld (pv 0) rfl) (nomark _)) (pw_or1 (pt_cmpR op_ne (pe_op op_and (pe_fld (pv 1) rfl) (pe_fld (pv 0) rfl)) pe_int (nomark _)))).pt
        (pss_one (ps_ret pe_int))
        pss_nil)
      (pss_cons (ps_set (i := 3) sc_copies_that_fit.nd rfl (Or.inl rfl) (pe_callB (cr_min rfl) (by rfl) T.n_min (by rfl) (pa_cons (pe_lc (g := (gTup K 2 (gCons (gName 4) (gCons (gName 5) gNil)))) rfl sc_copies_that_fit.nd (pi_zip rfl T.n_zip (pa_cons (pv 2) (pa_cons (pe_fld (pv 0) rfl) pa_nil))) (blkOk_by (own := [("have", 4), ("want", 5)]) (by rfl)) (fun _ _ _ _ _ => (pg_tup rfl (pgs_cons (pg_name (i := 4) sc_copies_that_fit.nd rfl (Or.inl rfl) (.inr rfl)) (pgs_cons (pg_name (i := 5) sc_copies_that_fit.nd rfl (Or.inl rfl) (.inr rfl)) pgs_nil)))) (fun _ _ _ _ _ => (pts_one (pt_cmpR op_gt (pv 5) pe_int (nomark _)))) (fun _ _ _ _ _ => (pe_op op_fdiv (pv 4) (pv 5)))) pa_nil)))
      (pss_one (ps_ret (pe_ifExp (pt_cmpR op_eq (pe_fld (pv 0) rfl) pe_int (nomark _)) (pe_callB (call_min2 rfl) (by rfl) T.n_min (by rfl) (pa_cons (pv 3) (pa_cons pe_int pa_nil))) (pv 3)))))), ?_⟩
    have letsE : Kp178.lets { mm with has := x } q = (mm.labels &&& q.needs == q.needs && mm.labels &&& q.never == 0) := rfl
    refine ⟨_, rfl, m, _, dm, _, _, rfl, m1, T.cl_Machine, T.na_Machine_labels, lookup_zip (i := 1) nd_Machine rfl rfl, _, rfl, p, _, d, _, _, rfl, h1, T.cl_Job, T.na_Job_needs, lookup_zip (i := 1) nd_Job rfl rfl, _, _, rfl, rfl,
      _, rfl, p, _, d, _, _, rfl, h1, T.cl_Job, T.na_Job_needs, lookup_zip (i := 1) nd_Job rfl rfl, rfl, _, rfl, ?_⟩
    dsimp only
    rw [and_is]
    by_cases c1 : (mm.labels &&& q.needs == q.needs) = true
    · rw [c1]
      refine iteF ?_
      refine ⟨_, rfl, m, _, dm, _, _, rfl, m1, T.cl_Machine, T.na_Machine_labels, lookup_zip (i := 1) nd_Machine rfl rfl, _, rfl, p, _, d, _, _, rfl, h1, T.cl_Job, T.na_Job_never, lookup_zip (i := 2) nd_Job rfl rfl, _, _, rfl, rfl, rfl, _, rfl, ?_⟩
      dsimp only
      rw [and_is0]
      by_cases c2 : (mm.labels &&& q.never == 0) = true
      · rw [c2]
        refine iteF ?_
        -- count = min(..)
        have lets1 : Kp178.lets { mm with has := x } q = true := by rw [letsE, c1, c2]; rfl
        refine ⟨_, rfl, _, rfl, p, _, d, _, _, rfl, h1, T.cl_Job, T.na_Job_wants, lookup_zip (i := 0) nd_Job rfl rfl, r, wl, _, _, rfl, SqL.of hR, SqL.of h2, fun D hD => ?_⟩
        refine lc_zip2 (F := fun n => (fitsTo x q.wants n).map vi) (SqL.of hR) (SqL.of h2) rfl hD rfl (fun _ _ => rfl) (fun n u v H2 s2 hD2 hu hv => ?_) (fun H2 s2 hD2 => ?_)
        · obtain ⟨a, b, rfl, rfl, hz, hb⟩ := zip4 hu hv
          have hb2 : b ≤ 16777216 := by
            simp only [Four.list, List.mem_cons, List.not_mem_nil, or_false] at hb
            omega
          refine ⟨_, rfl, _, _, rfl, rfl, _, rfl, ?_⟩
          rw [show decide ((0 : Int) < (b : Int)) = decide (0 < b) by rw [Bool.eq_iff_iff, decide_eq_true_eq, decide_eq_true_eq]; omega]
          by_cases hp : 0 < b
          · rw [decide_eq_true hp]
            refine iteT ⟨_, rfl, _, rfl, _, _, rfl, rfl, ⟨by omega, by omega⟩, _, hD2, ?_, ?_, ?_⟩
            · exact small_len (n := 4) (by rw [List.length_map]; exact fitsTo_len _ _ _) (by decide)
            · exact same_at s2 hD
            · rw [upd_same, fitsTo_step hz, if_pos hp, List.map_append]
              refine congrArg some (congrArg HO.lst (congrArg (List.map vi (fitsTo x q.wants n) ++ ·) ?_))
              show [V.int ((a : Int) / (b : Int))] = [V.int ((a / b : Nat) : Int)]
              rw [Int.natCast_ediv]
          · rw [decide_eq_false hp]
            refine iteF ⟨s2, ?_⟩
            rw [hD2, fitsTo_step hz, if_neg hp, List.append_nil]
        · have hD3 : H2 D = some (.lst (((fitsOf x q.wants).map fun (n : Nat) => (n : Int)).map V.int)) := by
            rw [List.map_map]
            exact hD2
          refine ⟨D, _, rfl, SqL.of hD3, by rw [List.length_map]; exact fits_some x gw, fun mn hm1 hm2 => ?_⟩
          obtain ⟨n, hn, rfl⟩ := List.mem_map.mp hm1
          have hmin : ∀ y ∈ fitsOf x q.wants, n ≤ y := fun y hy => by
            have := hm2 (y : Int) (List.mem_map.mpr ⟨y, hy, rfl⟩)
            omega
          have hh := holds_min (m := { mm with has := x }) lets1 hn hmin
          refine ⟨_, rfl, p, _, d, _, _, rfl, s2 _ _ h1, T.cl_Job, T.na_Job_apart, lookup_zip (i := 4) nd_Job rfl rfl, rfl, _, rfl, ?_⟩
          dsimp only
          rw [show decide (vi q.apart = V.int 1) = (q.apart == 1) from dn (k := 1) (j := 1) rfl]
          by_cases ha : q.apart = 1
          · rw [show (q.apart == 1) = true by simpa using ha]
            refine iteT ⟨_, rfl, _, _, rfl, ?_⟩
            have e : V.int (if (1 : Int) < (n : Int) then 1 else (n : Int)) = vi (min n 1) := by
              show _ = V.int ((min n 1 : Nat) : Int)
              congr 1
              split <;> omega
            show Q (V.int (if (1 : Int) < (n : Int) then 1 else (n : Int))) H2
            rw [e]
            exact k _ H2 s2 fun most => by rw [hh, if_pos ha]
          · rw [show (q.apart == 1) = false by simpa using ha]
            refine iteF ⟨_, rfl, ?_⟩
            exact k n H2 s2 fun most => by rw [hh, if_neg ha]
      · rw [Bool.eq_false_iff.mpr c2]
        refine iteT ?_
        exact k 0 H (Same.refl H) (holds_not (by rw [letsE, c1, Bool.eq_false_iff.mpr c2]; rfl))
    · rw [Bool.eq_false_iff.mpr c1]
      refine iteT ?_
      exact k 0 H (Same.refl H) (holds_not (by rw [letsE, Bool.eq_false_iff.mpr c1]; rfl))
end
end Jo
end
section
set_option Elab.async false
set_option linter.all false
set_option maxRecDepth 100000
namespace L2
open PySem PySem.Spec PyProof.Rows
def tOrF (ta tb : TE) : TE := fun σ H Q => ∃ i j : Int, (∀ Q' : VK, Q' (.int i) H → ta σ H Q') ∧ (∀ Q' : VK, Q' (.int j) H → tb σ H Q') ∧ Q (.int (if i = 0 then j else i)) H
theorem pe_orF {X : Cx} {a b : Expr} {rest : List Expr} {pos : Pos} {ta tb : TE} (ha : PE X a ta) (hb : PE X (.BoolOp .Or (b :: rest) pos) tb) : PE X (.BoolOp .Or (a :: b :: rest) pos) (tOrF ta tb) := by
  intro pins s σ H Q I h
  refine pe_orI ha hb pins s σ H Q I ?_
  obtain ⟨i, j, h1, h2, h3⟩ := h
  refine h1 _ ⟨i, rfl, ?_⟩
  by_cases hi : i = 0
  · rw [if_pos hi] at h3 ⊢
    exact h2 _ h3
  · rw [if_neg hi] at h3 ⊢
    exact h3
theorem ixN_nat {n j : Nat} (h : j < n) : ixN n (j : Int) = some j := by
  unfold ixN
  rw [if_pos (by omega), if_pos (by omega)]
  simp
end L2
namespace Jo
open PySem L2
open Kp179 (Abs Run job machine there)
open Kp178 (Four Machine Job goodMachine goodJob)
abbrev resOf (T : List Nat) (ms : List Machine) (q : Job) : List Nat := ((Kp178.place ms q).map fun p => p.map fun x => T.getD x 0).getD []
def spPlaces (A : Adr) : Sp := fun vs H Q _ => ∃ (p md f : Addr) (q : Job) (ps mk : List Nat) (am : Nat → Addr) (T : List Nat) (mach : Nat → Machine) (room : Nat → Four), vs = [.ref p, .ref md, .ref f] ∧ JobAt A H p q ps ∧ goodJob q = true ∧ H md = some (.dK (dct mk am)) ∧
  (∀ i ∈ mk, MachAt A H (am i) (mach i) ∧ (mach i).zone ≤ 7) ∧ FreeAt H f mk room ∧ T.Perm mk ∧ T.Pairwise (· < ·) ∧
  ∀ (l : Addr) (H' : Hp), Same H H' → H' l = some (.lst ((resOf T (T.map fun i => { mach i with has := room i }) q).map vi)) → Q (.ref l) H'
theorem sorted_is {T mk : List Nat} {ns : List Int} (hT : T.Perm mk) (hs : T.Pairwise (· < ·)) (hp : ns.Perm (mk.map fun (i : Nat) => (i : Int))) (hn : ns.Pairwise (· ≤ ·)) : ns = T.map fun (i : Nat) => (i : Int) := by
  refine List.Perm.eq_of_pairwise (le := (· ≤ ·)) (fun a b _ _ h1 h2 => Int.le_antisymm h1 h2) hn (List.pairwise_map.mpr (hs.imp fun h => by omega)) (hp.trans ((hT.map _).symm))
section
variable {P : Program} {w : World} {K : PySem.W.Frag} {mg : Str → Option Value} {base : Heap} {A : Adr}
theorem ok_places_for (T : Txt K mg A) : FnOk P w K mg base CX0 2 A.f_places_for A.fd_places_for ["job", "machines", "free"] (spPlaces A) := by
  have G_copies_that_fit := ok_copies_that_fit (P := P) (w := w) (base := base) T
  refine T.F_places_for.ok sc_places_for (fun vs H Q E h => ?_) (fun cdv Ar outer s H vs Q E hr h => ?_)
  · obtain ⟨p, md, f, q, ps, mk, am, S, mach, room, rfl, _⟩ := h
    rfl
  · obtain ⟨p, md, f, q, ps, mk, am, S, mach, room, rfl, J, hg, hmd, hM, hF, hS, hSs, k⟩ := h
    obtain ⟨d, wl, pl, h1, h2, h3⟩ := id J
    obtain ⟨gw, _, gc1, gc2, ga, gs, gr⟩ := good_wants hg
    have hu := hu_of hr
    refine ⟨_, (pss_cons (ps_set (i := 3) sc_places_for.nd rfl (Or.inl rfl) (pe_lst pa_nil))
      (pss_cons (ps_set (i := 4) sc_places_for.nd rfl (Or.inl rfl) (pe_op op_rep (pe_lst (pa_cons (pe_orF (pe_fld (pv 0) rfl) (pe_one (pe_fld (pv 0) rfl))) pa_nil)) (pe_op op_add (pe_glob rfl T.g_LAST_ZONE T.r_LAST_ZONE) pe_int)))
      (pss_cons (ps_for PassesOwn.never rfl (pi_list (pe_callB (cr_sortedD rfl) (by rfl) T.n_sorted (by rfl) (pa_cons (pv 1) pa_nil))) (pg_name (i := 5) sc_places_for.nd rfl (Or.inl rfl))
        (pss_cons (ps_set (i := 6) sc_places_for.nd rfl (Or.inl rfl) (pe_dget hu (pv 1) (pv 5) (fun _ _ => rfl)))
        (pss_cons (ps_set (i := 7) sc_places_for.nd rfl (Or.inl rfl) (pe_callB (call_min3 rfl) (by rfl) T.n_min (by rfl) (pa_cons (pe_call G_copies_that_fit (hr.mono (by decide)) rfl T.mg_copies_that_fit T.F_copies_that_fit.kp T.b_copies_that_fit .nil pass0 (pa_cons (pv 0) (pa_cons (pv 6) (pa_cons (pe_dget hu (pv 2) (pv 5) (fun _ _ => rfl)) pa_nil)))) (pa_cons (pe_ix ix_list (pv 4) (pe_fld (pv 6) rfl) (fun _ _ => rfl)) (pa_cons (pe_op op_sub (pe_fld (pv 0) rfl) (pe_callB call_len_seq (by rfl) T.n_len PySem.boot_len (pa_cons (pv 3) pa_nil))) pa_nil)))))
        (pss_cons (ps_augS (pv 4) (pe_fld (pv 6) rfl) get_list (pv 7) ip_sub set_list)
        (pss_cons (ps_expr (pe_bm PySem.F.plainAttrs_list PySem.F.slot_list_extend PySem.F.type_list_extend mt_extend (pv 3) (pa_cons (pe_op op_rep (pe_lst (pa_cons (pv 5) pa_nil)) (pv 7)) pa_nil)))
        (pss_one (ps_if (pt_cmpR op_eq (pe_callB call_len_seq (by rfl) T.n_len PySem.boot_len (pa_cons (pv 3) pa_nil)) (pe_fld (pv 0) rfl) (nomark _))
          (pss_one (ps_ret (pv 3)))
          pss_nil)))))))
      (pss_one (ps_ret (pe_lst pa_nil)))))), ?_⟩
    -- places = []
    refine ⟨Nat.zero_le _, fun a3 f3 => ?_⟩
    have s1 : Same H (upd H a3 (.lst [])) := same_new f3
    -- left_in_zone = [..] * 8
    refine ⟨(q.spread : Int), (q.copies : Int), fun Q' hq => ⟨_, rfl, p, _, d, _, _, rfl, s1 _ _ h1, T.cl_Job, T.na_Job_spread, lookup_zip (i := 5) nd_Job rfl rfl, hq⟩,
      fun Q' hq => ⟨_, rfl, p, _, d, _, _, rfl, s1 _ _ h1, T.cl_Job, T.na_Job_copies, lookup_zip (i := 3) nd_Job rfl rfl, hq⟩, by show 1 ≤ sizeLine; decide, fun e1 fe1 => ?_⟩
    refine ⟨_, _, rfl, rfl, e1, _, _, rfl, rfl, upd_same, by decide, by decide, by show 1 * 8 ≤ sizeLine; decide, fun a4 f4 => ?_⟩
    have zb : (if (q.spread : Int) = 0 then (q.copies : Int) else (q.spread : Int)) = (zbase q : Int) := by
      unfold zbase
      by_cases hs : q.spread = 0
      · rw [if_pos (by omega), if_pos hs]
      · rw [if_neg (by omega), if_neg hs]
    rw [zb] at f4 ⊢
    have s2 : Same (upd H a3 (.lst [])) (upd (upd H a3 (.lst [])) e1 (.lst [V.int (zbase q : Int)])) := same_new fe1
    have s3 := same_new (o := .lst ((List.replicate 8 [V.int (zbase q : Int)]).flatten)) f4
    have s4 := (s1.trans s2).trans s3
    have n34 : a3 ≠ a4 := ne_of_none (s2 _ _ upd_same) f4
    have f4H : H a4 = none := (s1.trans s2).free f4
    -- for i in sorted(machines)
    refine ⟨_, rfl, md, _, mk.map (fun (i : Nat) => (i : Int)), rfl, .inl (s4 _ _ hmd), dct_keys mk am, fun ns sl hp hn fsl => ?_⟩
    obtain rfl := sorted_is hS hSs hp hn
    have eT : (S.map fun (i : Nat) => (i : Int)).map V.int = S.map vi := by
      rw [List.map_map]
      rfl
    rw [eT]
    have s5 := s4.trans (same_new (o := .lst (S.map vi)) fsl)
    have nsl3 : a3 ≠ sl := ne_of_none (s3 _ _ (s2 _ _ upd_same)) fsl
    have nsl4 : a4 ≠ sl := ne_of_none (upd_same : (upd _ a4 _) a4 = some _) fsl
    have hlen : (S.map fun i => ({ mach i with has := room i } : Machine)).length = (S.map vi).length := by rw [List.length_map, List.length_map]
    refine ⟨sl, rfl, ⟨_, SqL.of upd_same⟩, for_list (K := K) (a := sl) (xs := S.map vi) (fun n σ H2 => ∃ (v5 v6 v7 : Option V) (acc : List Nat) (left : Nat) (used : List Nat),
      σ = [some (.ref p), some (.ref md), some (.ref f), some (.ref a3), some (.ref a4), v5, v6, v7] ∧ Same H H2 ∧ H2 sl = some (.lst (S.map vi)) ∧ H2 a3 = some (.lst (acc.map vi)) ∧ H2 a4 = some (.lst (used.map fun (u : Nat) => V.int ((zbase q : Int) - (u : Int)))) ∧
        PInv q S (S.map fun i => { mach i with has := room i }) n acc left used ∧ acc.length ≠ q.copies) ?_ ?_ ?_ ?_⟩
    · refine ⟨none, none, none, [], q.copies, List.replicate 8 0, rfl, s5, upd_same, ?_, ?_, PInv.start _ _ _, fun z => ?_⟩
      · rw [upd_ne nsl3, upd_ne n34, upd_ne (fun z => by rw [← z] at fe1; rw [upd_same] at fe1; cases fe1), upd_same]
        rfl
      · rw [upd_ne nsl4, upd_same]
        refine congrArg some (congrArg HO.lst ?_)
        show [V.int (zbase q : Int), V.int (zbase q : Int), V.int (zbase q : Int), V.int (zbase q : Int), V.int (zbase q : Int), V.int (zbase q : Int), V.int (zbase q : Int), V.int (zbase q : Int)] = List.map _ [0, 0, 0, 0, 0, 0, 0, 0]
        simp
      · have : 0 = q.copies := z
        omega
    · rintro n σ H2 _ ⟨v5, v6, v7, acc, left, used, rfl, _, hsl, _⟩
      exact SqL.of hsl
    · rintro n y σ H2 hn ⟨v5, v6, v7, acc, left, used, rfl, t2, hsl, h3a, h4a, I, hne⟩
      obtain ⟨i, hi, rfl⟩ : ∃ i, S[n]? = some i ∧ y = vi i := by
        rw [List.getElem?_map] at hn
        cases e : S[n]? with
        | none =>
          rw [e] at hn
          cases hn
        | some i =>
          rw [e] at hn
          exact ⟨i, rfl, (Option.some.inj hn).symm⟩
      have him : i ∈ mk := hS.mem_iff.mp (List.mem_of_getElem? hi)
      obtain ⟨hMi, hz⟩ := hM i him
      obtain ⟨al, hf1, hf2⟩ := id hF
      have hk : (S.map fun i => ({ mach i with has := room i } : Machine))[n]? = some { mach i with has := room i } := by
        rw [List.getElem?_map, hi]
        rfl
      -- machine = machines[i]
      refine ⟨_, rfl, _, rfl, md, _, rfl, .inl ⟨_, Sum.inl (i : Int), .inl (t2 _ _ hmd), rfl, (val_dct him).symm⟩, ?_⟩
      -- count = min(copies_that_fit(job, machine, free[i]), left_in_zone[machine.zone], job.copies - len(places))
      refine ⟨_, rfl, _, rfl, _, rfl, _, rfl, f, _, rfl, .inl ⟨_, Sum.inl (i : Int), .inl (t2 _ _ hf1), rfl, (val_dct him).symm⟩, ?_⟩
      refine ⟨p, am i, al i, q, ps, mach i, room i, rfl, J.same t2, hMi.same t2, t2 _ _ (hf2 i him), hg, fun n' H3 t3 hn' => ?_⟩
      have t4 := t2.trans t3
      obtain ⟨dm, hl, m1, m2⟩ := hMi.same t4
      have hud : (used.map fun (u : Nat) => V.int ((zbase q : Int) - (u : Int)))[(mach i).zone]? = some (V.int ((zbase q : Int) - (used.getD (mach i).zone 0 : Nat))) := by
        rw [List.getElem?_map, List.getD_eq_getElem?_getD, List.getElem?_eq_getElem (by rw [I.ul]; omega)]
        rfl
      have humem : used.getD (mach i).zone 0 ∈ used := by
        rw [List.getD_eq_getElem?_getD, List.getElem?_eq_getElem (by rw [I.ul]; omega)]
        exact List.getElem_mem _
      have hub := I.ub _ humem
      refine ⟨_, rfl, _, rfl, am i, _, dm, _, _, rfl, m1, T.cl_Machine, T.na_Machine_zone, lookup_zip (i := 2) nd_Machine rfl rfl, a4, _, _, _, rfl, rfl, SqL.of (t3 _ _ h4a), at_of (j := (mach i).zone) rfl hud, ?_⟩
      refine ⟨_, rfl, p, _, d, _, _, rfl, t4 _ _ h1, T.cl_Job, T.na_Job_copies, lookup_zip (i := 3) nd_Job rfl rfl, _, rfl, a3, _, rfl, .inl (SqL.of (t3 _ _ h3a)), _, _, rfl, rfl, _, _, _, rfl, ?_⟩
      have hlen2 := I.len
      have ec : min (min ((n' : Nat) : Int) ((zbase q : Int) - (used.getD (mach i).zone 0 : Nat))) ((q.copies : Int) - ((acc.map vi).length : Nat)) = ((gets q n' left (used.getD (mach i).zone 0) : Nat) : Int) := by
        rw [List.length_map]
        unfold gets
        omega
      rw [ec]
      have hc0 : gets q n' left (used.getD (mach i).zone 0) ≤ left := Nat.min_le_right _ _
      have hcz : gets q n' left (used.getD (mach i).zone 0) ≤ zbase q - used.getD (mach i).zone 0 := by
        unfold gets
        omega
      have I2 := I.step hk hi hn' hz
      show _
      generalize hc : gets q n' left (used.getD (mach i).zone 0) = c at hc0 hcz I2 ⊢
      -- left_in_zone[machine.zone] -= count
      refine ⟨_, rfl, _, rfl, am i, _, dm, _, _, rfl, m1, T.cl_Machine, T.na_Machine_zone, lookup_zip (i := 2) nd_Machine rfl rfl, a4, _, (mach i).zone, _, rfl, rfl, SqL.of (t3 _ _ h4a), hud, _, rfl, _, _, rfl, rfl,
        a4, _, _, (mach i).zone, rfl, rfl, t3 _ _ h4a, ixN_nat (by rw [List.length_map, I.ul]; omega), ?_⟩
      generalize hH4 : upd H3 a4 (.lst ((used.map fun (u : Nat) => V.int ((zbase q : Int) - (u : Int))).set (mach i).zone (V.int ((zbase q : Int) - (used.getD (mach i).zone 0 : Nat) - (c : Int))))) = H4
      have t5 : Same H H4 := by
        rw [← hH4]
        exact same_at t4 f4H
      have h3b : H4 a3 = some (.lst (acc.map vi)) := by
        rw [← hH4, upd_ne n34]
        exact t3 _ _ h3a
      have hslb : H4 sl = some (.lst (S.map vi)) := by
        rw [← hH4, upd_ne nsl4.symm]
        exact t3 _ _ hsl
      have h4b : H4 a4 = some (.lst ((used.set (mach i).zone (used.getD (mach i).zone 0 + c)).map fun (u : Nat) => V.int ((zbase q : Int) - (u : Int)))) := by
        rw [← hH4, upd_same, List.map_set]
        refine congrArg some (congrArg HO.lst (congrArg (List.set _ _) ?_))
        congr 1
        omega
      -- places.extend([i] * count)
      refine ⟨_, rfl, .inl ⟨rfl, _, SqL.of h3b⟩, _, rfl, by show 1 ≤ sizeLine; decide, fun e fe => ?_⟩
      refine ⟨_, rfl, e, _, _, rfl, rfl, upd_same, by omega, by omega, ?_, fun e2 fe2 => ?_⟩
      · show 1 * (c : Int).toNat ≤ sizeLine
        rw [sizeLine_eq]
        omega
      have te := same_new (o := .lst [vi i]) fe
      have te2 := same_new (o := .lst ((List.replicate (c : Int).toNat [vi i]).flatten)) fe2
      have erep : (List.replicate (c : Int).toNat [vi i]).flatten = (List.replicate c i).map vi := by
        rw [show (c : Int).toNat = c by omega, List.map_replicate]
        clear hc hcz I2 hH4 h4b fe2 te2 hc0
        induction c with
        | zero => rfl
        | succ c ih =>
          rw [List.replicate_succ, List.flatten_cons, ih]
          rfl
      rw [erep] at te2 ⊢
      refine ⟨a3, e2, _, _, rfl, rfl, te2 _ _ (te _ _ h3b), upd_same, ?_, ?_⟩
      · rw [List.length_map, List.length_map, List.length_replicate, sizeLine_eq]
        omega
      generalize hH5 : upd (upd (upd H4 e (.lst [vi i])) e2 (.lst ((List.replicate c i).map vi))) a3 (.lst (acc.map vi ++ (List.replicate c i).map vi)) = H5
      have t6 : Same H H5 := by
        rw [← hH5]
        exact same_at ((t5.trans te).trans te2) f3
      have h3c : H5 a3 = some (.lst ((acc ++ List.replicate c i).map vi)) := by
        rw [← hH5, upd_same, List.map_append]
      have h4c : H5 a4 = some (.lst ((used.set (mach i).zone (used.getD (mach i).zone 0 + c)).map fun (u : Nat) => V.int ((zbase q : Int) - (u : Int)))) := by
        rw [← hH5, upd_ne n34.symm]
        exact te2 _ _ (te _ _ h4b)
      have hslc : H5 sl = some (.lst (S.map vi)) := by
        rw [← hH5, upd_ne nsl3.symm]
        exact te2 _ _ (te _ _ hslb)
      -- if len(places) == job.copies: return places
      refine ⟨_, rfl, a3, _, rfl, .inl (SqL.of h3c), _, rfl, p, _, d, _, _, rfl, t6 _ _ h1, T.cl_Job, T.na_Job_copies, lookup_zip (i := 3) nd_Job rfl rfl, rfl, _, rfl, ?_⟩
      dsimp only
      rw [show decide (V.int (((acc ++ List.replicate c i).map vi).length : Nat) = vi q.copies) = ((acc ++ List.replicate c i).length == q.copies) by rw [List.length_map]; exact dn rfl]
      by_cases hfull : (acc ++ List.replicate c i).length = q.copies
      · rw [show ((acc ++ List.replicate c i).length == q.copies) = true by simpa using hfull]
        refine iteT ⟨_, rfl, ?_⟩
        refine k a3 H5 t6 ?_
        rw [resOf, I2.full hfull]
        exact h3c
      · rw [show ((acc ++ List.replicate c i).length == q.copies) = false by simpa using hfull]
        refine iteF ?_
        exact ⟨_, _, _, _, _, _, rfl, t6, hslc, h3c, h4c, I2, hfull⟩
    · rintro σ H2 ⟨v5, v6, v7, acc, left, used, rfl, t2, hsl, h3a, h4a, I, hne⟩
      refine ⟨Nat.zero_le _, fun l fl => k l _ (t2.trans (same_new fl)) ?_⟩
      rw [← hlen] at I
      rw [upd_same, resOf, I.not_all hne]
      rfl
end
end Jo
end
section
set_option Elab.async false
set_option linter.all false
set_option maxRecDepth 100000
namespace Jo
open PySem L2
open Kp179 (Abs Run job machine there runs waits rankOf lesser)
open Kp178 (Four Machine Job goodMachine goodJob)
def spByRank (A : Adr) (p : Abs → Nat → Bool) : Sp := fun vs H Q _ => ∃ (y : Addr) (a : Abs) (mk jk : List Nat) (am aj : Nat → Addr) (r : Nat), vs = [.ref y, vi r] ∧ YardAt A H y a mk jk am aj ∧
  ∀ (l : Addr) (H' : Hp), Same H H' → H' l = some (.lst ((jk.filter fun j => p a j && rankOf a j == r).map vi)) → Q (.ref l) H'
theorem at_len {a : Abs} (h : Wf a) {j : Nat} {r : Kp179.Run} (e : job a j = some r) : decide (0 < (r.at_.getD []).length) = r.at_.isSome := by
  cases e2 : r.at_ with
  | none => rfl
  | some p =>
    have h1 := (h.pl j r p e e2).1
    obtain ⟨_, _, h2, _⟩ := good_wants (h.gj j r e)
    have : 0 < p.length := by omega
    exact decide_eq_true this
theorem runs_is {a : Abs} (h : Wf a) {j : Nat} {r : Kp179.Run} (e : job a j = some r) : decide (0 < (r.at_.getD []).length) = runs a j := by
  rw [at_len h e]
  unfold runs
  rw [e]
theorem waits_is {a : Abs} (h : Wf a) {j : Nat} {r : Kp179.Run} (e : job a j = some r) : (!decide (0 < (r.at_.getD []).length)) = waits a j := by
  rw [at_len h e]
  unfold waits
  rw [e]
  show (!r.at_.isSome) = r.at_.isNone
  cases r.at_ <;> rfl
theorem rank_is {a : Abs} {j : Nat} {r : Kp179.Run} (e : job a j = some r) : rankOf a j = r.job.rank := by
  unfold rankOf
  rw [e]
theorem some_of {a : Abs} {jk : List Nat} (hc : ByCame a jk) {j : Nat} (h : j ∈ jk) : ∃ r, job a j = some r := Option.isSome_iff_exists.mp ((hc.mem j).mp h)
theorem jk_len {a : Abs} (h : Wf a) {jk : List Nat} (hc : ByCame a jk) : jk.length ≤ 128 := by
  rw [hc.len]
  unfold there
  refine Nat.le_trans (List.length_filter_le _ _) ?_
  rw [List.length_range, h.jl]
  exact Nat.le_refl _
theorem filt_snoc {l : List Nat} {p : Nat → Bool} {k j : Nat} (h : l[k]? = some j) : ((l.take (k + 1)).filter p) = (l.take k).filter p ++ if p j = true then [j] else [] := by
  rw [← take_snoc h, List.filter_append]
  congr 1
  by_cases hp : p j = true
  · rw [if_pos hp]
    simp [List.filter, hp]
  · rw [if_neg hp]
    simp [List.filter, hp]
theorem filt_small {l : List Nat} {p : Nat → Bool} {k n : Nat} (h : l.length ≤ n) : (((l.take k).filter p).map vi).length ≤ n := by
  rw [List.length_map]
  refine Nat.le_trans (List.length_filter_le _ _) (Nat.le_trans ?_ h)
  rw [List.length_take]
  exact Nat.min_le_right _ _
section
variable {P : Program} {w : World} {K : PySem.W.Frag} {mg : Str → Option Value} {base : Heap} {A : Adr}
theorem ok_Yard_running (T : Txt K mg A) : FnOk P w K mg base CX0 2 A.f_Yard_running A.fd_Yard_running ["self", "rank"] (spByRank A runs) := by
  have G_Job_runs := ok_Job_runs (P := P) (w := w) (base := base) T
  refine T.F_Yard_running.ok sc_Yard_running (fun vs H Q E h => ?_) (fun cdv Ar outer s H vs Q E hr h => ?_)
  · obtain ⟨y, a, mk, jk, am, aj, r, rfl, _⟩ := h
    rfl
  · obtain ⟨y, a, mk, jk, am, aj, r, rfl, Y, k⟩ := h
    obtain ⟨dy, md, jd, y1, y2, y3, y4⟩ := Y.ob
    refine ⟨_, (pss_one (ps_ret (pe_lock (pe_lc (g := (gTup K 2 (gCons (gName 2) (gCons (gName 3) gNil)))) (tt := tAnd (tTest (tOp rEq (tFld K (tVar 3) "rank") (tVar 1))) (tB (tMeth A.C_Job "runs" (spRuns A) [] E0 (tVar 3) tNil))) rfl sc_Yard_running.nd (pi_items (pe_fld (pv 0) rfl)) (blkOk_by (own := [("j", 2), ("job", 3)]) (by rfl)) (fun _ _ _ _ _ => (pg_tup rfl (pgs_cons (pg_name (i := 2) sc_Yard_running.nd rfl (Or.inl rfl) (.inr rfl)) (pgs_cons (pg_name (i := 3) sc_Yard_running.nd rfl (Or.inl rfl) (.inr rfl)) pgs_nil)))) (fun _ _ _ _ _ => (pts_one (pw_and (pt_cmpR op_eq (pe_fld (pv 3) rfl) (pv 1) (nomark _)) (pw_and1 (pt_val (pe_meth0 (pv 3) T.cl_Job T.m_Job_runs G_Job_runs (hr.mono (by decide)) T.b_Job_runs .nil pass0)))).pt)) (fun _ _ _ _ _ => (pv 2)))))), ?_⟩
    refine ⟨jd, _, y3, trivial, fun od => ?_⟩
    refine ⟨_, rfl, y, _, dy, _, _, rfl, lock_ne y3 y1 (fun z => nomatch z), T.cl_Yard, T.na_Yard_jobs, lookup_zip (i := 1) nd_Yard rfl rfl, jd, od, _, rfl, upd_same, fun D hD => ?_⟩
    refine lc_items (F := fun n => ((jk.take n).filter fun j => runs a j && rankOf a j == r).map vi) upd_same hD rfl (fun _ _ => rfl) (fun n j H2 s2 hD2 hj => ?_) (fun H2 s2 hD2 => ?_)
    · obtain ⟨rr, er⟩ := some_of Y.jc (List.mem_of_getElem? hj)
      have J := ((Y.js j rr er).lock (od := od) y3).same s2
      obtain ⟨d, wl, pl, h1, h2, h3⟩ := id J
      refine ⟨_, rfl, aj j, _, d, _, _, rfl, h1, T.cl_Job, T.na_Job_rank, lookup_zip (i := 6) nd_Job rfl rfl, _, rfl, rfl, _, rfl, ?_⟩
      rw [show decide (vi rr.job.rank = vi r) = (rankOf a j == r) by rw [rank_is er]; exact dn rfl]
      by_cases c1 : (rankOf a j == r) = true
      · rw [c1]
        refine iteT ⟨_, rfl, aj j, d, _, rfl, h1, lookup_zip_none (by decide +kernel), aj j, _, _, rfl, J, _, rfl, ?_⟩
        rw [runs_is Y.wf er]
        by_cases c2 : runs a j = true
        · rw [c2]
          refine iteT ⟨_, rfl, _, hD2, small_len (filt_small (jk_len Y.wf Y.jc)) (by decide), same_at s2 hD, ?_⟩
          rw [upd_same, filt_snoc hj, if_pos (by rw [c1, c2]; rfl), List.map_append]
          rfl
        · rw [Bool.eq_false_iff.mpr c2]
          refine iteF ⟨s2, ?_⟩
          rw [hD2, filt_snoc hj, if_neg (by rw [Bool.eq_false_iff.mpr c2]; simp), List.append_nil]
      · rw [Bool.eq_false_iff.mpr c1]
        refine iteF (iteF ⟨s2, ?_⟩)
        rw [hD2, filt_snoc hj, if_neg (by rw [Bool.eq_false_iff.mpr c1]; simp), List.append_nil]
    · obtain ⟨u1, u2⟩ := same_unlock y3 s2
      refine ⟨u1, k D _ u2 ?_⟩
      rw [upd_ne (fun z => by rw [z, u1] at hD2; cases hD2), hD2, List.take_length]
theorem ok_Yard_waiting (T : Txt K mg A) : FnOk P w K mg base CX0 2 A.f_Yard_waiting A.fd_Yard_waiting ["self", "rank"] (spByRank A waits) := by
  have G_Job_runs := ok_Job_runs (P := P) (w := w) (base := base) T
  refine T.F_Yard_waiting.ok sc_Yard_waiting (fun vs H Q E h => ?_) (fun cdv Ar outer s H vs Q E hr h => ?_)
  · obtain ⟨y, a, mk, jk, am, aj, r, rfl, _⟩ := h
    rfl
  · obtain ⟨y, a, mk, jk, am, aj, r, rfl, Y, k⟩ := h
    obtain ⟨dy, md, jd, y1, y2, y3, y4⟩ := Y.ob
    refine ⟨_, (pss_one (ps_ret (pe_lock (pe_lc (g := (gTup K 2 (gCons (gName 2) (gCons (gName 3) gNil)))) (tt := tAnd (tTest (tOp rEq (tFld K (tVar 3) "rank") (tVar 1))) (tNot (tB (tMeth A.C_Job "runs" (spRuns A) [] E0 (tVar 3) tNil)))) rfl sc_Yard_waiting.nd (pi_items (pe_fld (pv 0) rfl)) (blkOk_by (own := [("j", 2), ("job", 3)]) (by rfl)) (fun _ _ _ _ _ => (pg_tup rfl (pgs_cons (pg_name (i := 2) sc_Yard_waiting.nd rfl (Or.inl rfl) (.inr rfl)) (pgs_cons (pg_name (i := 3) sc_Yard_waiting.nd rfl (Or.inl rfl) (.inr rfl)) pgs_nil)))) (fun _ _ _ _ _ => (pts_one (pw_and (pt_cmpR op_eq (pe_fld (pv 3) rfl) (pv 1) (nomark _)) (pw_and1 (pt_not (pt_val (pe_meth0 (pv 3) T.cl_Job T.m_Job_runs G_Job_runs (hr.mono (by decide)) T.b_Job_runs .nil pass0))))).pt)) (fun _ _ _ _ _ => (pv 2)))))), ?_⟩
    refine ⟨jd, _, y3, trivial, fun od => ?_⟩
    refine ⟨_, rfl, y, _, dy, _, _, rfl, lock_ne y3 y1 (fun z => nomatch z), T.cl_Yard, T.na_Yard_jobs, lookup_zip (i := 1) nd_Yard rfl rfl, jd, od, _, rfl, upd_same, fun D hD => ?_⟩
    refine lc_items (F := fun n => ((jk.take n).filter fun j => waits a j && rankOf a j == r).map vi) upd_same hD rfl (fun _ _ => rfl) (fun n j H2 s2 hD2 hj => ?_) (fun H2 s2 hD2 => ?_)
    · obtain ⟨rr, er⟩ := some_of Y.jc (List.mem_of_getElem? hj)
      have J := ((Y.js j rr er).lock (od := od) y3).same s2
      obtain ⟨d, wl, pl, h1, h2, h3⟩ := id J
      refine ⟨_, rfl, aj j, _, d, _, _, rfl, h1, T.cl_Job, T.na_Job_rank, lookup_zip (i := 6) nd_Job rfl rfl, _, rfl, rfl, _, rfl, ?_⟩
      rw [show decide (vi rr.job.rank = vi r) = (rankOf a j == r) by rw [rank_is er]; exact dn rfl]
      by_cases c1 : (rankOf a j == r) = true
      · rw [c1]
        refine iteT ⟨_, rfl, aj j, d, _, rfl, h1, lookup_zip_none (by decide +kernel), aj j, _, _, rfl, J, _, rfl, ?_⟩
        dsimp only
        rw [waits_is Y.wf er]
        by_cases c2 : waits a j = true
        · rw [c2]
          refine iteT ⟨_, rfl, _, hD2, small_len (filt_small (jk_len Y.wf Y.jc)) (by decide), same_at s2 hD, ?_⟩
          rw [upd_same, filt_snoc hj, if_pos (by rw [c1, c2]; rfl), List.map_append]
          rfl
        · rw [Bool.eq_false_iff.mpr c2]
          refine iteF ⟨s2, ?_⟩
          rw [hD2, filt_snoc hj, if_neg (by rw [Bool.eq_false_iff.mpr c2]; simp), List.append_nil]
      · rw [Bool.eq_false_iff.mpr c1]
        refine iteF (iteF ⟨s2, ?_⟩)
        rw [hD2, filt_snoc hj, if_neg (by rw [Bool.eq_false_iff.mpr c1]; simp), List.append_nil]
    · obtain ⟨u1, u2⟩ := same_unlock y3 s2
      refine ⟨u1, k D _ u2 ?_⟩
      rw [upd_ne (fun z => by rw [z, u1] at hD2; cases hD2), hD2, List.take_length]
def spBelow (A : Adr) : Sp := fun vs H Q _ => ∃ (y : Addr) (a : Abs) (mk jk : List Nat) (am aj : Nat → Addr) (r : Nat), vs = [.ref y, vi r] ∧ YardAt A H y a mk jk am aj ∧ r ≤ 7 ∧
  ∀ (l : Addr) (H' : Hp), Same H H' → H' l = some (.lst ((lesser a r).map vi)) → Q (.ref l) H'
theorem byRank_len {a : Abs} (h : Wf a) {jk : List Nat} (hc : ByCame a jk) (p : Nat → Bool) (r : Nat) : (byRank a jk p r).length ≤ 128 := by
  refine Nat.le_trans ?_ (jk_len h hc)
  have hp : (byRank a jk p r).Perm (jk.filter fun j => p j && decide (rankOf a j < r)) := perm_of (byRank_nodup hc p r) (List.Pairwise.filter _ hc.nodup) fun j => by
    rw [byRank_mem, List.mem_filter]
    simp only [Bool.and_eq_true, decide_eq_true_eq]
  rw [hp.length_eq]
  exact List.length_filter_le _ _
theorem ok_Yard_running_below (T : Txt K mg A) : FnOk P w K mg base CX0 3 A.f_Yard_running_below A.fd_Yard_running_below ["self", "rank"] (spBelow A) := by
  have G_Yard_running := ok_Yard_running (P := P) (w := w) (base := base) T
  refine T.F_Yard_running_below.ok sc_Yard_running_below (fun vs H Q E h => ?_) (fun cdv Ar outer s H vs Q E hr h => ?_)
  · obtain ⟨y, a, mk, jk, am, aj, r, rfl, _⟩ := h
    rfl
  · obtain ⟨y, a, mk, jk, am, aj, r, rfl, Y, hr7, k⟩ := h
    obtain ⟨dy, md, jd, y1, y2, y3, y4⟩ := Y.ob
    refine ⟨_, (pss_cons (ps_set (i := 2) sc_Yard_running_below.nd rfl (Or.inl rfl) (pe_lst pa_nil))
      (pss_cons (ps_for PassesOwn.never rfl (pi_range3 rfl T.n_range (pa_cons (pe_op op_sub (pv 1) pe_int) (pa_cons (pe_un un_neg pe_int) (pa_cons (pe_un un_neg pe_int) pa_nil)))) (pg_name (i := 3) sc_Yard_running_below.nd rfl (Or.inl rfl))
        (pss_one (ps_expr (pe_bm PySem.F.plainAttrs_list PySem.F.slot_list_extend PySem.F.type_list_extend mt_extend (pv 2) (pa_cons (pe_meth (pv 0) T.cl_Yard T.m_Yard_running G_Yard_running (hr.mono (by decide)) T.b_Yard_running .nil pass0 (pa_cons (pv 3) pa_nil)) pa_nil)))))
      (pss_one (ps_ret (pv 2))))), ?_⟩
    refine ⟨Nat.zero_le _, fun nl fnl => ?_⟩
    have s0 := same_new (o := .lst []) fnl
    refine ⟨_, rfl, _, _, rfl, rfl, _, rfl, _, rfl, (r : Int) - 1, -1, -1, ((r : Int) - 1 - -1).toNat, rfl, RgC.neg (by omega) (by omega) (by decide) (by decide), ?_⟩
    rw [show ((r : Int) - 1 - -1).toNat = r by omega]
    refine for_rangeC (fun n σ H2 => ∃ (v3 : Option V) (acc : List Nat), σ = [some (.ref y), some (vi r), some (.ref nl), v3] ∧ Same H H2 ∧ H2 nl = some (.lst (acc.map vi)) ∧ acc ++ byRank a jk (runs a) (r - n) = byRank a jk (runs a) r) ⟨none, [], rfl, s0, upd_same, rfl⟩ ?_ ?_
    · rintro n σ H2 hn ⟨v3, acc, rfl, s2, hl, hacc⟩
      have er : (r : Int) - 1 + (n : Nat) * -1 = ((r - n - 1 : Nat) : Int) := by omega
      rw [er]
      obtain ⟨m, hm⟩ : ∃ m, r - n = m + 1 := ⟨r - n - 1, by omega⟩
      refine ⟨_, rfl, .inl ⟨rfl, _, SqL.of hl⟩, _, rfl, y, dy, _, rfl, s2 _ _ y1, lookup_zip_none (by decide +kernel), _, rfl, y, a, mk, jk, am, aj, r - n - 1, rfl, Y.same s2, fun l H3 s3 hl3 => ?_⟩
      have e1 : acc ++ (jk.filter fun j => runs a j && rankOf a j == r - n - 1) ++ byRank a jk (runs a) (r - (n + 1)) = byRank a jk (runs a) r := by
        rw [← hacc, List.append_assoc, hm, show m + 1 - 1 = m by omega, show r - (n + 1) = m by omega]
        rfl
      have hlen := byRank_len Y.wf Y.jc (runs a) r
      rw [← e1, List.length_append, List.length_append] at hlen
      refine ⟨nl, l, _, _, rfl, rfl, s3 _ _ hl, hl3, ?_, ?_⟩
      · rw [List.length_map, List.length_map, sizeLine_eq]
        omega
      · exact ⟨_, acc ++ (jk.filter fun j => runs a j && rankOf a j == r - n - 1), rfl, same_at (s2.trans s3) fnl, by rw [upd_same, List.map_append], e1⟩
    · rintro σ H2 ⟨v3, acc, rfl, s2, hl, hacc⟩
      refine ⟨_, rfl, k nl H2 s2 ?_⟩
      rw [lesser_eq Y.wf Y.jc, ← hacc, Nat.sub_self]
      show H2 nl = some (.lst ((acc ++ []).map vi))
      rw [List.append_nil]
      exact hl
end
end Jo
end
section
set_option Elab.async false
set_option linter.all false
set_option maxRecDepth 100000
namespace Jo
open PySem L2
open Kp179 (Abs job machine there runs waits rankOf lesser canHave plan change)
open Kp178 (Four Machine Job goodMachine goodJob)
def KeepI (H H' : Hp) : Prop := ∀ b o, H b = some o → (∀ C d f, o ≠ .ins C d f) → H' b = some o
theorem Same.keepI {H H' : Hp} (s : Same H H') : KeepI H H' := fun b o h _ => s b o h
theorem KeepI.trans {H H1 H2 : Hp} (a : KeepI H H1) (b : KeepI H1 H2) : KeepI H H2 := fun c o h n => b c o (a c o h n) n
theorem KeepI.refl (H : Hp) : KeepI H H := fun _ _ h _ => h
theorem KeepI.keep {H H' : Hp} (s : KeepI H H') : Keep H H' := fun b o h n _ => s b o h n
theorem KeepI.lst {H H' : Hp} {a : Addr} {xs : List V} (e : KeepI H H') (h : H a = some (.lst xs)) : H' a = some (.lst xs) := e _ _ h fun _ _ _ z => nomatch z
theorem KeepI.dk {H H' : Hp} {a : Addr} {xs : List (Key × V)} (e : KeepI H H') (h : H a = some (.dK xs)) : H' a = some (.dK xs) := e _ _ h fun _ _ _ z => nomatch z
theorem keepI_ins {H : Hp} {x C d : Addr} {f : List (Str × V)} {o : HO} (h : H x = some (.ins C d f)) : KeepI H (upd H x o) := fun b u e n => by
  rw [upd_ne (fun z => by subst z; rw [h] at e; exact n _ _ _ (Option.some.inj e).symm)]
  exact e
theorem FreeAt.keepI {H H' : Hp} {p : Addr} {mk : List Nat} {room : Nat → Four} (h : FreeAt H p mk room) (s : KeepI H H') : FreeAt H' p mk room := by
  obtain ⟨al, h1, h2⟩ := h
  exact ⟨al, s.dk h1, fun i hi => s.lst (h2 i hi)⟩
theorem FreeAt.congr {H : Hp} {p : Addr} {mk : List Nat} {room room' : Nat → Four} (h : FreeAt H p mk room) (e : ∀ i ∈ mk, room i = room' i) : FreeAt H p mk room' := by
  obtain ⟨al, h1, h2⟩ := h
  exact ⟨al, h1, fun i hi => by rw [← e i hi]; exact h2 i hi⟩
theorem ins_ne {C C' d d' : Addr} {ks ks' : List Str} {vs vs' : List V} (h : (ks.zip vs).length ≠ (ks'.zip vs').length) : HO.ins C d (ks.zip vs) ≠ HO.ins C' d' (ks'.zip vs') := fun z => by
  injection z with _ _ z3
  exact h (by rw [z3])
theorem YardAt.put {A : Adr} {H H1 : Hp} {y : Addr} {a b : Abs} {mk jk : List Nat} {am aj : Nat → Addr} {j : Nat} {r : Kp179.Run} {d wl pl l : Addr} {ps : List Nat} (Y : YardAt A H y a mk jk am aj) (s : Same H H1) (e : job a j = some r)
    (h : H1 (aj j) = some (.ins A.C_Job d (ks_Job.zip (jv wl pl r.job)))) (hw : H1 wl = some (.lst (L4 r.job.wants))) (hl : H1 l = some (.lst (ps.map vi))) (wf : Wf b) (bm : ∀ i, machine b i = machine a i) (bc : ByCame b jk)
    (bj : ∀ k, k ≠ j → job b k = job a k) (bjj : ∃ r', job b j = some r' ∧ r'.job = r.job ∧ r'.at_.getD [] = ps) : YardAt A (upd H1 (aj j) (.ins A.C_Job d (ks_Job.zip (jv wl l r.job)))) y b mk jk am aj := by
  have Y1 := Y.same s
  have kp := keepI_ins (o := .ins A.C_Job d (ks_Job.zip (jv wl l r.job))) h
  have hj : j ∈ jk := (Y.jc.mem j).mpr (by rw [e]; rfl)
  obtain ⟨dy, md, jd, y1, y2, y3, y4⟩ := Y1.ob
  refine ⟨wf, fun i => ?_, Y.mn, bc, ⟨dy, md, jd, ?_, kp.dk y2, kp.dk y3, y4⟩, fun i m em => ?_, fun k rk ek => ?_, Y.inj⟩
  · rw [bm]
    exact Y.mm i
  · rw [upd_ne (ne_of y1 h (ins_ne (by show (2 : Nat) ≠ 8; decide)))]
    exact y1
  · rw [bm] at em
    obtain ⟨dm, hl', m1, m2⟩ := Y1.ms i m em
    exact ⟨dm, hl', by rw [upd_ne (ne_of m1 h (ins_ne (by show (4 : Nat) ≠ 8; decide)))]; exact m1, kp.lst m2⟩
  · by_cases hk : k = j
    · subst hk
      obtain ⟨r', e1, e2, e3⟩ := bjj
      rw [e1] at ek
      cases ek
      rw [e2, e3]
      exact ⟨d, wl, l, upd_same, kp.lst hw, kp.lst hl⟩
    · rw [bj k hk] at ek
      obtain ⟨dk, wk, pk, k1, k2, k3⟩ := Y1.js k rk ek
      have hkm : k ∈ jk := (Y.jc.mem k).mpr (by rw [ek]; rfl)
      exact ⟨dk, wk, pk, by rw [upd_ne (fun z => hk (Y.inj k j hkm hj z))]; exact k1, kp.lst k2, kp.lst k3⟩
theorem YardAt.machs {A : Adr} {H : Hp} {y : Addr} {a : Abs} {mk jk : List Nat} {am aj : Nat → Addr} (Y : YardAt A H y a mk jk am aj) : ∀ i ∈ mk, MachAt A H (am i) ((machine a i).getD default) ∧ ((machine a i).getD default).zone ≤ 7 := fun i hi => by
  obtain ⟨m, e⟩ := Option.isSome_iff_exists.mp ((Y.mm i).mp hi)
  rw [e]
  refine ⟨Y.ms i m e, ?_⟩
  have := Y.wf.gm i m e
  unfold goodMachine at this
  simp only [Bool.and_eq_true, decide_eq_true_eq] at this
  exact this.1.2
theorem YardAt.perm {A : Adr} {H : Hp} {y : Addr} {a : Abs} {mk jk : List Nat} {am aj : Nat → Addr} (Y : YardAt A H y a mk jk am aj) : (there a.machines).Perm mk := perm_of (there_nodup _) Y.mn fun i => mem_there_machines.trans (Y.mm i).symm
theorem mk_len {a : Abs} (h : Wf a) {mk : List Nat} (hp : (there a.machines).Perm mk) : mk.length ≤ 64 := by
  rw [← hp.length_eq]
  unfold there
  refine Nat.le_trans (List.length_filter_le _ _) ?_
  rw [List.length_range, h.ml]
  exact Nat.le_refl _
theorem res_can (a : Abs) (q : Job) (out : List Nat) : resOf (there a.machines) ((there a.machines).map fun i => { (machine a i).getD default with has := (roomAt a out i).has }) q = (canHave a q out).getD [] := by
  rw [canHave_eq]
  unfold resOf
  have e : (there a.machines).map (fun i => ({ (machine a i).getD default with has := (roomAt a out i).has } : Machine)) = (there a.machines).map (roomAt a out) := List.map_congr_left fun i hi => by
    obtain ⟨m, e⟩ := Option.isSome_iff_exists.mp (mem_there_machines.mp hi)
    rw [room_has e, e]
    rfl
  rw [e]
theorem can_empty {a : Abs} {q : Job} {out : List Nat} (hg : goodJob q = true) : (!(((canHave a q out).getD []).map vi).isEmpty) = (canHave a q out).isSome := by
  cases e : canHave a q out with
  | none => rfl
  | some p =>
    have h1 := (canHave_some e).1
    obtain ⟨_, _, h2, _⟩ := good_wants hg
    cases p with
    | nil =>
      have : (0 : Nat) = q.copies := h1
      omega
    | cons x p => rfl
theorem room_less {A : Adr} {H : Hp} {y : Addr} {a : Abs} {mk jk : List Nat} {am aj : Nat → Addr} (Y : YardAt A H y a mk jk am aj) {v : List Nat} {j : Nat} {r : Kp179.Run} (e : job a j = some r) (hv : j ∈ v) :
    (∀ i ∈ mk, ((roomAt a v i).has.less (r.job.wants.times (Kp178.on (r.at_.getD []) i))) = (roomAt a (v.filter (· != j)) i).has) ∧ (∀ i ∈ mk, Le4 (r.job.wants.times (Kp178.on (r.at_.getD []) i)) (roomAt a v i).has) ∧ ∀ i ∈ r.at_.getD [], i ∈ mk := by
  have hs : (job a j).isSome = true := by rw [e]; rfl
  refine ⟨fun i hi => ?_, fun i hi => ?_, fun i hi => ?_⟩
  · obtain ⟨m, em⟩ := Option.isSome_iff_exists.mp ((Y.mm i).mp hi)
    rw [← onJ_is e]
    exact (room_back Y.wf em (List.contains_iff_mem.mpr hv) hs).1
  · obtain ⟨m, em⟩ := Option.isSome_iff_exists.mp ((Y.mm i).mp hi)
    rw [← onJ_is e]
    exact (room_back Y.wf em (List.contains_iff_mem.mpr hv) hs).2
  · cases e2 : r.at_ with
    | none =>
      rw [e2] at hi
      exact absurd hi (by simp)
    | some p =>
      rw [e2] at hi
      exact (Y.mm i).mpr ((Y.wf.pl j r p e e2).2 i hi)
theorem out_snoc (a : Abs) (l : List Nat) (j : Nat) : Kp179.out a (l ++ [j]) = change (Kp179.out a l) j fun r => { r with at_ := none } := by
  unfold Kp179.out
  rw [List.foldl_append]
  rfl
theorem out_machine (a : Abs) (l : List Nat) (i : Nat) : machine (Kp179.out a l) i = machine a i := by
  unfold machine
  rw [out_machines]
theorem drop_cons {l : List Nat} {n j : Nat} (h : l[n]? = some j) : l.drop n = j :: l.drop (n + 1) := by
  obtain ⟨h1, e⟩ := List.getElem?_eq_some_iff.mp h
  rw [List.drop_eq_getElem_cons h1, e]
theorem at_vi {l : List Nat} {n : Nat} {y : V} (hn : (l.map vi)[n]? = some y) : ∃ i, l[n]? = some i ∧ y = vi i := by
  rw [List.getElem?_map] at hn
  cases e : l[n]? with
  | none =>
    rw [e] at hn
    cases hn
  | some i =>
    rw [e] at hn
    exact ⟨i, rfl, (Option.some.inj hn).symm⟩
def msk (x : Addr) (H : Hp) : Hp := upd H x (.own x)
theorem msk_ne {x b : Addr} {H : Hp} {o : HO} (h : msk x H b = some o) (n : o ≠ .own x) : b ≠ x ∧ H b = some o := by
  have hb : b ≠ x := fun z => by
    subst z
    unfold msk at h
    rw [upd_same] at h
    exact n (Option.some.inj h).symm
  refine ⟨hb, ?_⟩
  unfold msk at h
  rw [upd_ne hb] at h
  exact h
theorem msk_of {x b : Addr} {H : Hp} {o : HO} (h : H b = some o) (n : b ≠ x) : msk x H b = some o := by
  unfold msk
  rw [upd_ne n]
  exact h
theorem msk_upd (x : Addr) (H : Hp) (o : HO) : msk x (upd H x o) = msk x H := upd_upd
theorem FreeAt.unmask {x p : Addr} {H : Hp} {mk : List Nat} {room : Nat → Four} (h : FreeAt (msk x H) p mk room) : FreeAt H p mk room := by
  obtain ⟨al, h1, h2⟩ := h
  exact ⟨al, (msk_ne h1 fun z => nomatch z).2, fun i hi => (msk_ne (h2 i hi) fun z => nomatch z).2⟩
theorem FreeAt.mask {x p : Addr} {H : Hp} {mk : List Nat} {room : Nat → Four} (h : FreeAt H p mk room) (n : ∀ xs, H x ≠ some (.lst xs)) (n2 : ∀ xs, H x ≠ some (.dK xs)) : FreeAt (msk x H) p mk room := by
  obtain ⟨al, h1, h2⟩ := h
  exact ⟨al, msk_of h1 fun z => n2 _ (by rw [← z]; exact h1), fun i hi => msk_of (h2 i hi) fun z => n _ (by rw [← z]; exact h2 i hi)⟩
theorem msk_same {x : Addr} {H H' : Hp} (s : Same H H') : Same (msk x H) (msk x H') := fun b o e => by
  by_cases hb : b = x
  · subst hb
    unfold msk at e ⊢
    rw [upd_same] at e ⊢
    exact e
  · unfold msk at e ⊢
    rw [upd_ne hb] at e ⊢
    exact s b o e
def spPlace (A : Adr) : Sp := fun vs H Q _ => ∃ (y f : Addr) (a : Abs) (mk jk : List Nat) (am aj : Nat → Addr) (j : Nat) (r : Kp179.Run), vs = [.ref y, .ref (aj j), .ref f] ∧ YardAt A H y a mk jk am aj ∧ job a j = some r ∧ r.at_ = none ∧
  FreeAt H f mk (fun i => (roomAt a (lesser a r.job.rank) i).has) ∧ (canHave a r.job (lesser a r.job.rank)).isSome = true ∧
  ∀ (v p : List Nat) (l : Addr) (H' : Hp), plan a r.job = some (v, p) → YardAt A H' y (change (Kp179.out a v) j fun r => { r with at_ := some p }) mk jk am aj → Keep H H' → H' l = some (.lst (((there a.jobs).filter fun k => v.contains k).map vi)) → Q (.ref l) H'
section
variable {P : Program} {w : World} {K : PySem.W.Frag} {mg : Str → Option Value} {base : Heap} {A : Adr}
theorem ok_Yard_place (T : Txt K mg A) : FnOk P w K mg base CX0 4 A.f_Yard_place A.fd_Yard_place ["self", "job", "free"] (spPlace A) := by
  have G_Job_run_on := ok_Job_run_on (P := P) (w := w) (base := base) T
  have G_Job_wait := ok_Job_wait (P := P) (w := w) (base := base) T
  have G_Yard_running_below := ok_Yard_running_below (P := P) (w := w) (base := base) T
  have G_free_beside := ok_free_beside (P := P) (w := w) (base := base) T
  have G_places_for := ok_places_for (P := P) (w := w) (base := base) T
  refine T.F_Yard_place.ok sc_Yard_place (fun vs H Q E h => ?_) (fun cdv Ar outer s H vs Q E hr h => ?_)
  · obtain ⟨y, f, a, mk, jk, am, aj, j, r, rfl, _⟩ := h
    rfl
  · obtain ⟨y, f, a, mk, jk, am, aj, j, r, rfl, Y, er, hwt, hF, hcan, k⟩ := h
    obtain ⟨dy, md, jd, y1, y2, y3, y4⟩ := Y.ob
    have J := Y.js j r er
    obtain ⟨d, wl, pl, h1, h2, h3⟩ := id J
    have hg := Y.wf.gj j r er
    obtain ⟨_, _, gc1, gc2, _, _, gr⟩ := good_wants hg
    have hu := hu_of hr
    have hmk := mk_len Y.wf Y.perm
    have eL := lesser_eq Y.wf Y.jc r.job.rank
    have ndL : (lesser a r.job.rank).Nodup := by
      rw [eL]
      exact byRank_nodup Y.jc _ _
    have memL : ∀ k, k ∈ lesser a r.job.rank → k ∈ jk ∧ runs a k = true := fun k hk => by
      rw [eL] at hk
      have := byRank_mem.mp hk
      exact ⟨this.1, this.2.1⟩
    refine ⟨_, (pss_cons (ps_set (i := 3) sc_Yard_place.nd rfl (Or.inl rfl) (pe_lst pa_nil))
      (pss_cons (ps_for PassesOwn.never rfl (pi_list (pe_lock (pe_meth (pv 0) T.cl_Yard T.m_Yard_running_below G_Yard_running_below (hr.mono (by decide)) T.b_Yard_running_below .nil pass0 (pa_cons (pe_fld (pv 1) rfl) pa_nil)))) (pg_name (i := 4) sc_Yard_place.nd rfl (Or.inl rfl))
        (pss_cons (ps_lock (ps_set (i := 5) sc_Yard_place.nd rfl (Or.inl rfl) (pe_call G_free_beside (hr.mono (by decide)) rfl T.mg_free_beside T.F_free_beside.kp T.b_free_beside .nil pass0 (pa_cons (pv 2) (pa_cons (pe_dget hu (pe_fld (pv 0) rfl) (pv 4) (fun _ _ => rfl)) pa_nil)))))
        (pss_one (ps_if (pt_truth (pe_call G_places_for (hr.mono (by decide)) rfl T.mg_places_for T.F_places_for.kp T.b_places_for .nil pass0 (pa_cons (pv 1) (pa_cons (pe_fld (pv 0) rfl) (pa_cons (pv 5) pa_nil)))) (fun _ => rfl))
          (pss_one (ps_set (i := 2) sc_Yard_place.nd rfl (Or.inl rfl) (pv 5)))
          (pss_one (ps_expr (pe_bm PySem.F.plainAttrs_list PySem.F.slot_list_append PySem.F.type_list_append mt_append (pv 3) (pa_cons (pv 4) pa_nil))))))))
      (pss_cons (ps_for PassesOwn.never rfl (pi_list (pv 3)) (pg_name (i := 4) sc_Yard_place.nd rfl (Or.inl rfl))
        (pss_one (ps_expr (pe_meth0 (pe_dget hu (pe_fld (pv 0) rfl) (pv 4) (fun _ _ => rfl)) T.cl_Job T.m_Job_wait G_Job_wait (hr.mono (by decide)) T.b_Job_wait .nil pass0))))
      (pss_cons (ps_expr (pe_meth (pv 1) T.cl_Job T.m_Job_run_on G_Job_run_on (hr.mono (by decide)) T.b_Job_run_on .nil pass0 (pa_cons (pe_call G_places_for (hr.mono (by decide)) rfl T.mg_places_for T.F_places_for.kp T.b_places_for .nil pass0 (pa_cons (pv 1) (pa_cons (pe_fld (pv 0) rfl) (pa_cons (pv 2) pa_nil)))) pa_nil)))
      (pss_one (ps_ret (pe_callB cr_sortedL (by rfl) T.n_sorted (by rfl) (pa_cons (pv 3) pa_nil)))))))), ?_⟩
    -- put_out = []
    refine ⟨Nat.zero_le _, fun ol fol => ?_⟩
    have s0 := same_new (o := .lst []) fol
    -- for j in self.running_below(job.rank)
    have nol : ∀ {b' : Addr} {o : HO}, H b' = some o → b' ≠ ol := fun e => ne_of_none e fol
    refine ⟨ol, _, upd_same, trivial, fun od => ?_⟩
    generalize hHl : upd (upd H ol (.lst [])) ol (.frz od (.lst [])) = Hl
    have hol0 : Hl ol = some (.frz od (.lst [])) := by
      rw [← hHl]
      exact upd_same
    have sl : Same H Hl := by
      rw [← hHl, upd_upd]
      exact same_new fol
    refine ⟨_, rfl, y, dy, _, rfl, sl _ _ y1, lookup_zip_none (by decide +kernel), _, rfl, aj j, _, d, _, _, rfl, sl _ _ h1, T.cl_Job, T.na_Job_rank, lookup_zip (i := 6) nd_Job rfl rfl,
      y, a, mk, jk, am, aj, r.job.rank, rfl, Y.same sl, gr, fun rl H1 s1 hrl => ?_⟩
    have hol1 := s1 _ _ hol0
    have nrl : rl ≠ ol := ne_of hrl hol1 fun z => nomatch z
    refine ⟨hol1, ?_⟩
    have t1 : Same H (upd H1 ol (.lst [])) := same_at (sl.trans s1) fol
    have hrl' : (upd H1 ol (.lst [])) rl = some (.lst ((lesser a r.job.rank).map vi)) := by
      rw [upd_ne nrl]
      exact hrl
    refine ⟨rl, rfl, ⟨_, SqL.of hrl'⟩, for_list (K := K) (a := rl) (xs := (lesser a r.job.rank).map vi) (fun n σ H2 => ∃ (v4 v5 : Option V) (fa : Addr) (put : List Nat), σ = [some (.ref y), some (.ref (aj j)), some (.ref fa), some (.ref ol), v4, v5] ∧ Same H H2 ∧
      H2 rl = some (.lst ((lesser a r.job.rank).map vi)) ∧ H2 ol = some (.lst (put.map vi)) ∧ FreeAt (msk ol H2) fa mk (fun i => (roomAt a (put ++ (lesser a r.job.rank).drop n) i).has) ∧ SInv a r.job ((lesser a r.job.rank).drop n) put) ?_ ?_ ?_ ?_⟩
    · refine ⟨none, none, f, [], rfl, t1, hrl', upd_same, ?_, SInv.start ndL hcan⟩
      rw [msk_upd]
      exact (hF.same (sl.trans s1)).mask (fun xs z => by rw [hol1] at z; cases z) (fun xs z => by rw [hol1] at z; cases z)
    · rintro n σ H2 _ ⟨v4, v5, fa, put, rfl, _, hrl2, _⟩
      exact SqL.of hrl2
    · rintro n yv' σ H2 hn ⟨v4, v5, fa, put, rfl, t2, hrl2, hol, hFa, I⟩
      obtain ⟨j', hj', rfl⟩ := at_vi hn
      have hd := drop_cons hj'
      rw [hd] at hFa I
      have hjm := (memL j' (List.mem_of_getElem? hj')).1
      obtain ⟨r', er'⟩ := some_of Y.jc hjm
      obtain ⟨q1, q2, q3⟩ := room_less Y er' (v := put ++ j' :: (lesser a r.job.rank).drop (n + 1)) (by simp)
      rw [filter_head put I.nd] at q1
      -- beside = free_beside(free, self.jobs[j])
      refine ⟨ol, _, hol, trivial, fun od2 => ?_⟩
      have hl2 : Same H (upd H2 ol (.frz od2 (.lst (put.map vi)))) := same_at t2 fol
      have hFl : FreeAt (upd H2 ol (.frz od2 (.lst (put.map vi)))) fa mk (fun i => (roomAt a (put ++ j' :: (lesser a r.job.rank).drop (n + 1)) i).has) := by
        rw [← msk_upd ol H2 (.frz od2 (.lst (put.map vi)))] at hFa
        exact hFa.unmask
      refine ⟨_, rfl, _, rfl, y, _, dy, _, _, rfl, hl2 _ _ y1, T.cl_Yard, T.na_Yard_jobs, lookup_zip (i := 1) nd_Yard rfl rfl, _, rfl, jd, _, rfl, .inl ⟨_, Sum.inl (j' : Int), .inl (hl2 _ _ y3), rfl, (val_dct hjm).symm⟩,
        fa, aj j', mk, _, r'.job, _, rfl, hFl, hmk, (Y.js j' r' er').same hl2, q3, q2, fun b H3 s3 hFb => ?_⟩
      have hFb := hFb.congr q1
      have hol3 := s3 _ _ (upd_same : (upd H2 ol (.frz od2 (.lst (put.map vi)))) ol = _)
      refine ⟨hol3, ?_⟩
      have t3 : Same H (upd H3 ol (.lst (put.map vi))) := same_at (hl2.trans s3) fol
      have hFm : FreeAt (msk ol (upd H3 ol (.lst (put.map vi)))) b mk (fun i => (roomAt a (put ++ (lesser a r.job.rank).drop (n + 1)) i).has) := by
        rw [msk_upd]
        exact hFb.mask (fun xs z => by rw [hol3] at z; cases z) (fun xs z => by rw [hol3] at z; cases z)
      have hFa3 : FreeAt (msk ol (upd H3 ol (.lst (put.map vi)))) fa mk (fun i => (roomAt a (put ++ j' :: (lesser a r.job.rank).drop (n + 1)) i).has) := by
        rw [msk_upd]
        exact (hFl.same s3).mask (fun xs z => by rw [hol3] at z; cases z) (fun xs z => by rw [hol3] at z; cases z)
      have hrl3 : (upd H3 ol (.lst (put.map vi))) rl = some (.lst ((lesser a r.job.rank).map vi)) := by
        rw [upd_ne nrl]
        exact s3 _ _ (by rw [upd_ne nrl]; exact hrl2)
      have hol4 : (upd H3 ol (.lst (put.map vi))) ol = some (.lst (put.map vi)) := upd_same
      generalize upd H3 ol (.lst (put.map vi)) = H4 at t3 hFm hFa3 hrl3 hol4 ⊢
      -- if places_for(job, self.machines, beside)
      refine ⟨_, rfl, _, rfl, y, _, dy, _, _, rfl, t3 _ _ y1, T.cl_Yard, T.na_Yard_machines, lookup_zip (i := 0) nd_Yard rfl rfl, _, rfl,
        aj j, md, b, r.job, _, mk, am, there a.machines, fun i => (machine a i).getD default, _, rfl, J.same t3, hg, t3 _ _ y2, fun i hi => ⟨((Y.machs i hi).1).same t3, (Y.machs i hi).2⟩, hFm.unmask, Y.perm, there_sorted _, fun l4 H5 s4 hl4 => ?_⟩
      rw [res_can] at hl4
      have t4 := t3.trans s4
      refine ⟨_, .inl ⟨_, SqL.of hl4, rfl⟩, ?_⟩
      rw [can_empty hg]
      by_cases c : (canHave a r.job (put ++ (lesser a r.job.rank).drop (n + 1))).isSome = true
      · rw [c]
        refine iteT ⟨_, rfl, ?_⟩
        exact ⟨_, _, b, put, rfl, t4, s4 _ _ hrl3, s4 _ _ hol4, hFm.same (msk_same s4), I.spared c⟩
      · rw [Bool.eq_false_iff.mpr c]
        have holH := s4 _ _ hol4
        have hlen : put.length ≤ 128 := by
          have h1 := (List.nodup_append.mp I.nd).1
          have h2 := byRank_len Y.wf Y.jc (runs a) r.job.rank
          rw [← eL] at h2
          have h3 : put.Perm ((lesser a r.job.rank).filter fun k => put.contains k) := perm_of h1 (List.Pairwise.filter _ ndL) fun k => by
            rw [List.mem_filter, List.contains_iff_mem]
            exact ⟨fun hk => ⟨I.sub k (List.mem_append.mpr (.inl hk)), hk⟩, fun hk => hk.2⟩
          rw [h3.length_eq]
          exact Nat.le_trans (List.length_filter_le _ _) h2
        refine iteF ⟨_, rfl, .inl ⟨rfl, _, SqL.of holH⟩, _, rfl, ol, _, _, rfl, rfl, holH, small_len (n := 128) (by rw [List.length_map]; exact hlen) (by decide), ?_⟩
        refine ⟨_, _, fa, put ++ [j'], rfl, same_at t4 fol, by rw [upd_ne nrl]; exact s4 _ _ hrl3, by rw [upd_same, List.map_append]; rfl, ?_, I.out c⟩
        rw [msk_upd, show (put ++ [j']) ++ (lesser a r.job.rank).drop (n + 1) = put ++ j' :: (lesser a r.job.rank).drop (n + 1) by simp]
        exact hFa3.same (msk_same s4)
    · rintro σ H2 ⟨v4, v5, fa, put, rfl, t2, hrl2, hol, hFa, I⟩
      rw [List.length_map, List.drop_length] at hFa I
      rw [List.append_nil] at hFa
      obtain ⟨pp, hpp, hplan⟩ := I.done
      have hputs : ∀ k ∈ put, k ∈ jk ∧ runs a k = true := fun k hk => memL k (I.sub k (List.mem_append.mpr (.inl hk)))
      have hjput : ¬ j ∈ put := fun hm => by
        have := (hputs j hm).2
        unfold runs at this
        rw [er] at this
        have : r.at_.isSome = true := this
        rw [hwt] at this
        cases this
      have ndput : put.Nodup := (List.nodup_append.mp I.nd).1
      -- for j in put_out: self.jobs[j].wait()
      refine ⟨_, rfl, ol, rfl, ⟨_, SqL.of hol⟩, for_list (K := K) (a := ol) (xs := put.map vi) (fun n σ H3 => ∃ (v4 v5 : Option V), σ = [some (.ref y), some (.ref (aj j)), some (.ref fa), some (.ref ol), v4, v5] ∧ KeepI H2 H3 ∧ YardAt A H3 y (Kp179.out a (put.take n)) mk jk am aj) ?_ ?_ ?_ ?_⟩
      · exact ⟨v4, v5, rfl, KeepI.refl _, Y.same t2⟩
      · rintro n σ H3 _ ⟨v4, v5, rfl, kp, _⟩
        exact SqL.of (kp.lst hol)
      · rintro n yv' σ H3 hn ⟨v4, v5, rfl, kp, Y3⟩
        obtain ⟨j', hj', rfl⟩ := at_vi hn
        have hjm := (hputs j' (List.mem_of_getElem? hj')).1
        obtain ⟨r', er'⟩ := some_of Y3.jc hjm
        obtain ⟨dy3, md3, jd3, z1, z2, z3, z4⟩ := Y3.ob
        obtain ⟨d', wl', pl', g1, g2, g3⟩ := Y3.js j' r' er'
        refine ⟨_, rfl, y, _, dy3, _, _, rfl, z1, T.cl_Yard, T.na_Yard_jobs, lookup_zip (i := 1) nd_Yard rfl rfl, _, rfl, jd3, _, rfl, .inl ⟨_, Sum.inl (j' : Int), .inl z3, rfl, (val_dct hjm).symm⟩,
          aj j', d', _, rfl, g1, lookup_zip_none (by decide +kernel), aj j', d', wl', pl', r'.job, rfl, g1, fun l hl => ?_⟩
        have sn := same_new (o := .lst []) hl
        refine ⟨_, _, rfl, kp.trans ((Same.keepI sn).trans (keepI_ins (sn _ _ g1))), ?_⟩
        rw [← take_snoc hj', out_snoc]
        refine Y3.put sn er' (sn _ _ g1) (sn _ _ g2) (ps := []) upd_same ?_ (fun i => rfl) (Y3.jc.change j' none) (fun k hk => by rw [job_change, if_neg hk]) ⟨{ r' with at_ := none }, by rw [job_change, if_pos rfl, er']; rfl, rfl, rfl⟩
        rw [← out_snoc]
        exact wf_out Y.wf _
      · rintro σ H3 ⟨v4, v5, rfl, kp, Y3⟩
        rw [List.length_map, List.take_length] at Y3
        obtain ⟨dy3, md3, jd3, z1, z2, z3, z4⟩ := Y3.ob
        have er3 : job (Kp179.out a put) j = some r := by
          rw [job_out, if_neg hjput, er]
        have J3 := Y3.js j r er3
        obtain ⟨d', wl', pl', g1, g2, g3⟩ := id J3
        have hF3 := (hFa.unmask).keepI kp
        -- job.run_on(places_for(job, self.machines, free))
        refine ⟨_, rfl, aj j, d', _, rfl, g1, lookup_zip_none (by decide +kernel), _, rfl, _, rfl, y, _, dy3, _, _, rfl, z1, T.cl_Yard, T.na_Yard_machines, lookup_zip (i := 0) nd_Yard rfl rfl, _, rfl,
          aj j, md3, fa, r.job, _, mk, am, there a.machines, fun i => (machine a i).getD default, _, rfl, J3, hg, z2, fun i hi => ?_, hF3, Y.perm, there_sorted _, fun l4 H4 s4 hl4 => ?_⟩
        · have := Y3.machs i hi
          rw [out_machine] at this
          exact this
        rw [res_can, hpp] at hl4
        refine ⟨aj j, d', wl', pl', l4, r.job, rfl, s4 _ _ g1, ?_⟩
        have kp4 := (kp.trans (Same.keepI s4)).trans (keepI_ins (o := .ins A.C_Job d' (ks_Job.zip (jv wl' l4 r.job))) (s4 _ _ g1))
        have Y5 := Y3.put (b := change (Kp179.out a put) j fun r => { r with at_ := some pp }) s4 er3 (s4 _ _ g1) (s4 _ _ g2) (ps := pp) hl4 (wf_placed Y.wf er hwt hpp) (fun i => rfl) (Y3.jc.change j (some pp)) (fun k hk => by rw [job_change, if_neg hk])
          ⟨{ r with at_ := some pp }, by rw [job_change, if_pos rfl, er3]; rfl, rfl, rfl⟩
        generalize upd H4 (aj j) (.ins A.C_Job d' (ks_Job.zip (jv wl' l4 r.job))) = H5 at kp4 Y5 ⊢
        -- return sorted(put_out)
        have hol5 := kp4.lst hol
        refine ⟨_, rfl, ol, put.map (fun (i : Nat) => (i : Int)), rfl, SqL.of (by rw [hol5, List.map_map]; rfl), fun ns' lp hperm hsort hlp => ?_⟩
        have hS : ((there a.jobs).filter fun k => put.contains k).Perm put := perm_of (List.Pairwise.filter _ (there_nodup _)) ndput fun k => by
          rw [List.mem_filter, List.contains_iff_mem]
          exact ⟨fun h => h.2, fun h => ⟨mem_there_jobs.mpr ((Y.jc.mem k).mp (hputs k h).1), h⟩⟩
        have ens := sorted_is hS (List.Pairwise.filter _ (there_sorted _)) hperm hsort
        have sn := same_new (o := .lst (ns'.map V.int)) hlp
        refine k put pp lp _ hplan (Y5.same sn) ((Same.keep t2).trans (kp4.keep.trans (Same.keep sn))) ?_
        rw [upd_same, ens, List.map_map]
        rfl
end
end Jo
end
section
set_option Elab.async false
set_option linter.all false
set_option maxRecDepth 100000
namespace Jo
open PySem L2
open Kp179 (Abs job machine there runs waits rankOf lesser canHave plan change act waiting)
open Kp178 (Four Machine Job goodMachine goodJob)
def YardIs (A : Adr) (H : Hp) (y : Addr) (a : Abs) : Prop := ∃ mk jk am aj, YardAt A H y a mk jk am aj
abbrev wr (x : Kp179.Ans) : List V := (Kp179Neutral.wrKp179_Ans x).map V.int
def firstOf (a : Abs) (j : Nat) : Option (Nat × List Nat × List Nat) := match job a j with
  | some r => (plan a r.job).map fun p => (j, p)
  | none => none
theorem act_turn' (a : Abs) : act a .turn = match (waiting a).findSome? (firstOf a) with
    | none => (a, .num (-11))
    | some (j, v, p) => (change (Kp179.out a v) j fun r => { r with at_ := some p }, .turned j ((there a.jobs).filter fun k => v.contains k)) := rfl
theorem first_is {a : Abs} {j : Nat} {r : Kp179.Run} (e : job a j = some r) : firstOf a j = (plan a r.job).map fun p => (j, p) := by
  unfold firstOf
  rw [e]
theorem flat_nat (l : List Nat) : l.flatMap Kp179Neutral.wrNat = l.map fun (n : Nat) => (n : Int) := by
  induction l with
  | nil => rfl
  | cons x l ih =>
    rw [List.flatMap_cons, ih]
    rfl
theorem wr_turned (j : Nat) (l : List Nat) : wr (.turned j l) = [V.int 1, vi j, V.int (l.length : Nat)] ++ l.map vi := by
  show List.map V.int ([1] ++ [(j : Int)] ++ ((l.length : Int) :: l.flatMap Kp179Neutral.wrNat)) = _
  rw [flat_nat]
  simp [vi]
def spTurn (A : Adr) : Sp := fun vs H Q _ => ∃ (y : Addr) (a : Abs), vs = [.ref y] ∧ YardIs A H y a ∧
  ∀ (l : Addr) (H' : Hp), YardIs A H' y (act a .turn).1 → Keep H H' → H' l = some (.lst (wr (act a .turn).2)) → Q (.ref l) H'
theorem has_of {A : Adr} {H : Hp} {y : Addr} {a : Abs} {mk jk : List Nat} {am aj : Nat → Addr} (Y : YardAt A H y a mk jk am aj) : ∃ hf : Nat → Addr, ∀ i, i ∈ mk → ∃ dm m, machine a i = some m ∧ H (am i) = some (.ins A.C_Machine dm (ks_Machine.zip (mv (hf i) m))) ∧ H (hf i) = some (.lst (L4 m.has)) := by
  refine Classical.skolem (b := fun _ : Nat => Addr) (p := fun i q => i ∈ mk → ∃ dm m, machine a i = some m ∧ H (am i) = some (.ins A.C_Machine dm (ks_Machine.zip (mv q m))) ∧ H q = some (.lst (L4 m.has))) |>.mp fun i => ?_
  by_cases hi : i ∈ mk
  · obtain ⟨m, e⟩ := Option.isSome_iff_exists.mp ((Y.mm i).mp hi)
    obtain ⟨dm, hl, h1, h2⟩ := Y.ms i m e
    exact ⟨hl, fun _ => ⟨dm, m, e, h1, h2⟩⟩
  · exact ⟨0, fun z => absurd z hi⟩
section
variable {P : Program} {w : World} {K : PySem.W.Frag} {mg : Str → Option Value} {base : Heap} {A : Adr}
theorem ok_Yard_jo_turn (T : Txt K mg A) : FnOk P w K mg base CX0 5 A.f_Yard_jo_turn A.fd_Yard_jo_turn ["self"] (spTurn A) := by
  have G_Yard_place := ok_Yard_place (P := P) (w := w) (base := base) T
  have G_Yard_running := ok_Yard_running (P := P) (w := w) (base := base) T
  have G_Yard_waiting := ok_Yard_waiting (P := P) (w := w) (base := base) T
  have G_free_beside := ok_free_beside (P := P) (w := w) (base := base) T
  have G_places_for := ok_places_for (P := P) (w := w) (base := base) T
  refine T.F_Yard_jo_turn.ok sc_Yard_jo_turn (fun vs H Q E h => ?_) (fun cdv Ar outer s H vs Q E hr h => ?_)
  · obtain ⟨y, a, rfl, _⟩ := h
    rfl
  · obtain ⟨y, a, rfl, ⟨mk, jk, am, aj, Y⟩, k⟩ := h
    obtain ⟨dy, md, jd, y1, y2, y3, y4⟩ := Y.ob
    have hu := hu_of hr
    have hmk := mk_len Y.wf Y.perm
    obtain ⟨hf, hhf⟩ := has_of Y
    refine ⟨_, (pss_cons (ps_set (i := 1) sc_Yard_jo_turn.nd rfl (Or.inl rfl) pe_dnewK)
      (pss_cons (ps_lock (ps_for PassesOwn.never rfl (pi_keys (pe_fld (pv 0) rfl)) (pg_name (i := 2) sc_Yard_jo_turn.nd rfl (Or.inl rfl))
        (pss_one (ps_dput hu (pv 1) (pv 2) (pe_fld (pe_dget hu (pe_fld (pv 0) rfl) (pv 2) (fun _ _ => rfl)) rfl) rfl))))
      (pss_cons (ps_for PassesOwn.never rfl (pi_range3 rfl T.n_range (pa_cons (pe_glob rfl T.g_LAST_RANK T.r_LAST_RANK) (pa_cons (pe_un un_neg pe_int) (pa_cons (pe_un un_neg pe_int) pa_nil)))) (pg_name (i := 3) sc_Yard_jo_turn.nd rfl (Or.inl rfl))
        (pss_cons (ps_for PassesOwn.never rfl (pi_list (pe_meth (pv 0) T.cl_Yard T.m_Yard_running G_Yard_running (hr.mono (by decide)) T.b_Yard_running .nil pass0 (pa_cons (pv 3) pa_nil))) (pg_name (i := 4) sc_Yard_jo_turn.nd rfl (Or.inl rfl))
          (pss_one (ps_set (i := 1) sc_Yard_jo_turn.nd rfl (Or.inl rfl) (pe_call G_free_beside (hr.mono (by decide)) rfl T.mg_free_beside T.F_free_beside.kp T.b_free_beside .nil pass0 (pa_cons (pv 1) (pa_cons (pe_dget hu (pe_fld (pv 0) rfl) (pv 4) (fun _ _ => rfl)) pa_nil))))))
        (pss_one (ps_for PassesOwn.never rfl (pi_list (pe_meth (pv 0) T.cl_Yard T.m_Yard_waiting G_Yard_waiting (hr.mono (by decide)) T.b_Yard_waiting .nil pass0 (pa_cons (pv 3) pa_nil))) (pg_name (i := 4) sc_Yard_jo_turn.nd rfl (Or.inl rfl))
          (pss_one (ps_if (pt_truth (pe_call G_places_for (hr.mono (by decide)) rfl T.mg_places_for T.F_places_for.kp T.b_places_for .nil pass0 (pa_cons (pe_dget hu (pe_fld (pv 0) rfl) (pv 4) (fun _ _ => rfl)) (pa_cons (pe_fld (pv 0) rfl) (pa_cons (pv 1) pa_nil)))) (fun _ => rfl))
            (pss_cons (ps_set (i := 5) sc_Yard_jo_turn.nd rfl (Or.inl rfl) (pe_meth (pv 0) T.cl_Yard T.m_Yard_place G_Yard_place (hr.mono (by decide)) T.b_Yard_place .nil pass0 (pa_cons (pe_dget hu (pe_fld (pv 0) rfl) (pv 4) (fun _ _ => rfl)) (pa_cons (pv 1) pa_nil))))
            (pss_one (ps_ret (pe_op op_cat (pe_lst (pa_cons (pe_glob rfl T.g_FORM_OF_A_TURN T.r_FORM_OF_A_TURN) (pa_cons (pv 4) (pa_cons (pe_callB call_len_seq (by rfl) T.n_len PySem.boot_len (pa_cons (pv 5) pa_nil)) pa_nil)))) (pv 5)))))
            pss_nil))))))
      (pss_one (ps_ret (pe_lst (pa_cons (pe_glob rfl T.g_FORM_OF_A_NUMBER T.r_FORM_OF_A_NUMBER) (pa_cons (pe_glob rfl T.g_NONE_CAN_BE_PLACED T.r_NONE_CAN_BE_PLACED) pa_nil)))))))), ?_⟩
    -- free = {}
    intro fd ffd
    have s0 := same_new (o := .dK []) ffd
    -- for i in self.machines
    refine ⟨md, _, s0 _ _ y2, trivial, fun od => ?_⟩
    generalize hHl : upd (upd H fd (.dK [])) md (.frz od (.dK (dct mk am))) = Hl
    have nmd : md ≠ fd := ne_of_none y2 ffd
    have sl : ∀ b o, H b = some o → (∀ kvs, o ≠ .dK kvs) → Hl b = some o := fun b o e n => by
      rw [← hHl, upd_ne (fun z => by subst z; rw [y2] at e; exact n _ (Option.some.inj e).symm)]
      exact s0 _ _ e
    have hmdl : Hl md = some (.frz od (.dK (dct mk am))) := by
      rw [← hHl]
      exact upd_same
    have hy1 : Hl y = some (.ins A.C_Yard dy (ks_Yard.zip (yv md jd))) := sl _ _ y1 fun _ z => nomatch z
    refine ⟨_, rfl, y, _, dy, _, _, rfl, hy1, T.cl_Yard, T.na_Yard_machines, lookup_zip (i := 0) nd_Yard rfl rfl, md, od, rfl, .inl ⟨_, hmdl, ?_⟩⟩
    refine for_it (n := mk.length) (fun n σ H2 => ∃ (v2 v3 v4 v5 : Option V), σ = [some (.ref y), some (.ref fd), v2, v3, v4, v5] ∧ But fd Hl H2 ∧ H2 fd = some (.dK (dct (mk.take n) hf))) ?_ ?_ ?_ ?_ ?_
    · refine ⟨none, none, none, none, rfl, But.refl _ _, ?_⟩
      rw [← hHl, upd_ne nmd.symm, upd_same]
      rfl
    · rintro n σ H2 hn ⟨v2, v3, v4, v5, rfl, b2, _⟩
      exact ⟨b2 _ _ hmdl nmd, by rw [dct_len]; exact hn⟩
    · rintro σ H2 ⟨v2, v3, v4, v5, rfl, b2, _⟩
      exact ⟨b2 _ _ hmdl nmd, by rw [dct_len]; exact Nat.le_refl _⟩
    · rintro n x σ H2 H2' hn ⟨v2, v3, v4, v5, rfl, b2, hfd⟩ ⟨rfl, kk, vv, ekk, rfl⟩
      have e' : (dct mk am)[n]? = some ((Sum.inl ((mk[n] : Nat) : Int) : Key), V.ref (am mk[n])) := by
        rw [List.getElem?_map, List.getElem?_eq_getElem hn]
        rfl
      rw [e'] at ekk
      cases ekk
      have hin : mk[n]? = some mk[n] := List.getElem?_eq_getElem hn
      generalize mk[n] = i at hin
      have him : i ∈ mk := List.mem_of_getElem? hin
      obtain ⟨dm, m, em, m1, m2⟩ := hhf i him
      have nfd : ∀ {b : Addr} {o : HO}, H b = some o → b ≠ fd := fun e => ne_of_none e ffd
      have hni : ¬ i ∈ mk.take n := fun hm => by
        have hnd := Y.mn
        rw [← List.take_append_drop n mk] at hnd
        exact (List.nodup_append.mp hnd).2.2 i hm i (by rw [drop_cons hin]; exact List.mem_cons_self) rfl
      refine ⟨_, rfl, y, _, dy, _, _, rfl, b2 _ _ hy1 (nfd y1), T.cl_Yard, T.na_Yard_machines, lookup_zip (i := 0) nd_Yard rfl rfl, _, rfl, md, _, rfl, .inl ⟨_, Sum.inl (i : Int), .inr ⟨od, b2 _ _ hmdl nmd⟩, rfl, (val_dct him).symm⟩,
        am i, _, dm, _, _, rfl, b2 _ _ (sl _ _ m1 fun _ z => nomatch z) (nfd m1), T.cl_Machine, T.na_Machine_has, lookup_zip (i := 0) nd_Machine rfl rfl, ?_⟩
      refine ⟨_, rfl, _, rfl, fd, _, rfl, DPut.k (k := Sum.inl (i : Int)) hfd (small_len (n := 64) (by rw [dct_len, List.length_take]; exact Nat.le_trans (Nat.min_le_right _ _) hmk) (by decide)), ?_⟩
      refine ⟨_, _, _, _, rfl, b2.at_, ?_⟩
      rw [upd_same, put_dct_new hni, take_snoc hin]
      refine congrArg some (congrArg HO.dK (dct_congr fun k' _ => ?_))
      by_cases e : k' = i
      · rw [if_pos e, e]
      · rw [if_neg e]
    · rintro σ H2 ⟨v2, v3, v4, v5, rfl, b2, hfd⟩
      rw [List.take_length] at hfd
      have hmd2 := b2 _ _ hmdl nmd
      refine ⟨hmd2, ?_⟩
      have t2 : Same H (upd H2 md (.dK (dct mk am))) := fun b o e => by
        by_cases hb : b = md
        · subst hb
          rw [y2] at e
          rw [upd_same]
          exact e
        · rw [upd_ne hb]
          refine b2 _ _ ?_ (ne_of_none e ffd)
          rw [← hHl, upd_ne hb]
          exact s0 _ _ e
      have hF2 : FreeAt (upd H2 md (.dK (dct mk am))) fd mk (fun i => (roomAt a (byRank a jk (runs a) 8) i).has) := by
        refine ⟨hf, by rw [upd_ne nmd.symm]; exact hfd, fun i hi => ?_⟩
        obtain ⟨dm, m, em, m1, m2⟩ := hhf i hi
        show _ = some (HO.lst (L4 (roomAt a (byRank a jk (runs a) 8) i).has))
        rw [room_has em, takenBut_all Y.wf Y.jc]
        exact t2 _ _ m2
      generalize upd H2 md (.dK (dct mk am)) = H3 at t2 hF2 ⊢
      -- for rank in range(LAST_RANK, -1, -1)
      refine ⟨_, rfl, _, rfl, 7, -1, -1, ((7 : Int) - -1).toNat, rfl, RgC.neg (by decide) (by decide) (by decide) (by decide), ?_⟩
      rw [show ((7 : Int) - -1).toNat = 8 by decide]
      refine for_rangeC (fun n σ H4 => ∃ (v2 v3 v4 v5 : Option V) (fa : Addr), σ = [some (.ref y), some (.ref fa), v2, v3, v4, v5] ∧ Same H H4 ∧ FreeAt H4 fa mk (fun i => (roomAt a (byRank a jk (runs a) (8 - n)) i).has) ∧
        (waiting a).findSome? (firstOf a) = (byRank a jk (waits a) (8 - n)).findSome? (firstOf a)) ⟨_, _, _, _, fd, rfl, t2, hF2, by rw [waiting_eq Y.wf Y.jc]⟩ ?_ ?_
      · rintro n σ H4 hn ⟨v2, v3, v4, v5, fa, rfl, t4, hF4, hW4⟩
        obtain ⟨r, hr8⟩ : ∃ r, 8 - n = r + 1 := ⟨7 - n, by omega⟩
        rw [show (7 : Int) + (n : Nat) * -1 = (r : Nat) by omega]
        rw [hr8] at hF4 hW4
        have hr7 : r ≤ 7 := by omega
        -- for j in self.running(rank)
        refine ⟨_, rfl, y, dy, _, rfl, t4 _ _ y1, lookup_zip_none (by decide +kernel), _, rfl, y, a, mk, jk, am, aj, r, rfl, Y.same t4, fun rl H5 s5 hrl => ?_⟩
        have t5 := t4.trans s5
        generalize hR : (jk.filter fun j => runs a j && rankOf a j == r) = R at hrl
        have hRL : byRank a jk (runs a) (r + 1) = R ++ byRank a jk (runs a) r := by
          rw [← hR]
          rfl
        have ndR : (R ++ byRank a jk (runs a) r).Nodup := by
          rw [← hRL]
          exact byRank_nodup Y.jc _ _
        have memR : ∀ k ∈ R, k ∈ jk := fun k hk => by
          rw [← hR] at hk
          exact (List.mem_filter.mp hk).1
        rw [hRL] at hF4
        refine ⟨rl, rfl, ⟨_, SqL.of hrl⟩, for_list (K := K) (a := rl) (xs := R.map vi) (fun t σ H6 => ∃ (v4 : Option V) (fa : Addr), σ = [some (.ref y), some (.ref fa), v2, some (vi r), v4, v5] ∧ Same H5 H6 ∧ FreeAt H6 fa mk (fun i => (roomAt a (R.drop t ++ byRank a jk (runs a) r) i).has)) ?_ ?_ ?_ ?_⟩
        · exact ⟨v4, fa, rfl, Same.refl _, hF4.same s5⟩
        · rintro t σ H6 _ ⟨v4, fa, rfl, s6, _⟩
          exact SqL.of (s6 _ _ hrl)
        · rintro t yv' σ H6 ht ⟨v4, fa, rfl, s6, hF6⟩
          obtain ⟨j', hj', rfl⟩ := at_vi ht
          have hjm := memR j' (List.mem_of_getElem? hj')
          obtain ⟨r', er'⟩ := some_of Y.jc hjm
          have t6 := t5.trans s6
          rw [drop_cons hj', List.cons_append] at hF6
          obtain ⟨q1, q2, q3⟩ := room_less Y er' (v := j' :: (R.drop (t + 1) ++ byRank a jk (runs a) r)) (by simp)
          have nd6 : ([] ++ j' :: (R.drop (t + 1) ++ byRank a jk (runs a) r)).Nodup := by
            have h0 : (R.drop t ++ byRank a jk (runs a) r).Nodup := by
              have h1 := ndR
              rw [← List.take_append_drop t R, List.append_assoc] at h1
              exact (List.nodup_append.mp h1).2.1
            rw [drop_cons hj'] at h0
            exact h0
          have ef := filter_head [] nd6
          simp only [List.nil_append] at ef
          rw [ef] at q1
          refine ⟨_, rfl, _, rfl, y, _, dy, _, _, rfl, t6 _ _ y1, T.cl_Yard, T.na_Yard_jobs, lookup_zip (i := 1) nd_Yard rfl rfl, _, rfl, jd, _, rfl, .inl ⟨_, Sum.inl (j' : Int), .inl (t6 _ _ y3), rfl, (val_dct hjm).symm⟩,
            fa, aj j', mk, _, r'.job, _, rfl, hF6, hmk, (Y.js j' r' er').same t6, q3, q2, fun b H7 s7 hFb => ?_⟩
          exact ⟨_, b, rfl, s6.trans s7, hFb.congr q1⟩
        · rintro σ H6 ⟨v4, fa, rfl, s6, hF6⟩
          rw [List.length_map, List.drop_length, List.nil_append] at hF6
          have t6 := t5.trans s6
          have eL := lesser_eq Y.wf Y.jc r
          -- for j in self.waiting(rank)
          refine ⟨_, rfl, y, dy, _, rfl, t6 _ _ y1, lookup_zip_none (by decide +kernel), _, rfl, y, a, mk, jk, am, aj, r, rfl, Y.same t6, fun wl H7 s7 hwl => ?_⟩
          have t7 := t6.trans s7
          generalize hW : (jk.filter fun j => waits a j && rankOf a j == r) = W at hwl
          have hWL : byRank a jk (waits a) (r + 1) = W ++ byRank a jk (waits a) r := by
            rw [← hW]
            rfl
          rw [hWL] at hW4
          refine ⟨wl, rfl, ⟨_, SqL.of hwl⟩, for_list (K := K) (a := wl) (xs := W.map vi) (fun t σ H8 => ∃ (v4 : Option V), σ = [some (.ref y), some (.ref fa), v2, some (vi r), v4, v5] ∧ Same H7 H8 ∧
            (waiting a).findSome? (firstOf a) = (W.drop t ++ byRank a jk (waits a) r).findSome? (firstOf a)) ?_ ?_ ?_ ?_⟩
          · exact ⟨v4, rfl, Same.refl _, hW4⟩
          · rintro t σ H8 _ ⟨v4, rfl, s8, _⟩
            exact SqL.of (s8 _ _ hwl)
          · rintro t yv' σ H8 ht ⟨v4, rfl, s8, hW8⟩
            obtain ⟨j', hj', rfl⟩ := at_vi ht
            have hjW : j' ∈ W := List.mem_of_getElem? hj'
            rw [← hW] at hjW
            obtain ⟨hjm, hjp⟩ := List.mem_filter.mp hjW
            simp only [Bool.and_eq_true, beq_iff_eq] at hjp
            obtain ⟨r', er'⟩ := some_of Y.jc hjm
            have hrk : r'.job.rank = r := by
              rw [← hjp.2, rank_is er']
            have hwt : r'.at_ = none := by
              have := hjp.1
              unfold waits at this
              rw [er'] at this
              exact Option.isNone_iff_eq_none.mp this
            have t8 := t7.trans s8
            have hF8 := (hF6.same s7).same s8
            have hg := Y.wf.gj j' r' er'
            rw [← eL, ← hrk] at hF8
            -- if places_for(self.jobs[j], self.machines, free)
            refine ⟨_, rfl, y, _, dy, _, _, rfl, t8 _ _ y1, T.cl_Yard, T.na_Yard_jobs, lookup_zip (i := 1) nd_Yard rfl rfl, _, rfl, jd, _, rfl, .inl ⟨_, Sum.inl (j' : Int), .inl (t8 _ _ y3), rfl, (val_dct hjm).symm⟩,
              _, rfl, y, _, dy, _, _, rfl, t8 _ _ y1, T.cl_Yard, T.na_Yard_machines, lookup_zip (i := 0) nd_Yard rfl rfl, _, rfl,
              aj j', md, fa, r'.job, _, mk, am, there a.machines, fun i => (machine a i).getD default, _, rfl, (Y.js j' r' er').same t8, hg, t8 _ _ y2, fun i hi => ⟨((Y.machs i hi).1).same t8, (Y.machs i hi).2⟩, hF8, Y.perm, there_sorted _, fun l9 H9 s9 hl9 => ?_⟩
            rw [res_can] at hl9
            have t9 := t8.trans s9
            refine ⟨_, .inl ⟨_, SqL.of hl9, rfl⟩, ?_⟩
            rw [can_empty hg]
            rw [drop_cons hj', List.cons_append, List.findSome?_cons, first_is er'] at hW8
            by_cases c : (canHave a r'.job (lesser a r'.job.rank)).isSome = true
            · rw [c]
              -- put_out = self.place(self.jobs[j], free)
              refine iteT ⟨_, rfl, y, dy, _, rfl, t9 _ _ y1, lookup_zip_none (by decide +kernel), _, rfl, y, _, dy, _, _, rfl, t9 _ _ y1, T.cl_Yard, T.na_Yard_jobs, lookup_zip (i := 1) nd_Yard rfl rfl, _, rfl, jd, _, rfl, .inl ⟨_, Sum.inl (j' : Int), .inl (t9 _ _ y3), rfl, (val_dct hjm).symm⟩,
                _, rfl, y, fa, a, mk, jk, am, aj, j', r', rfl, Y.same t9, er', hwt, hF8.same s9, c, fun v p pl H10 hplan Y10 k10 hpl => ?_⟩
              have eact : act a .turn = (change (Kp179.out a v) j' (fun r => { r with at_ := some p }), .turned j' ((there a.jobs).filter fun k => v.contains k)) := by
                rw [act_turn', hW8, hplan]
                rfl
              -- return [1, j, len(put_out)] + put_out
              refine ⟨_, rfl, _, rfl, pl, _, rfl, .inl (SqL.of hpl), by show 3 ≤ sizeLine; decide, fun e1 fe1 => ?_⟩
              have se := same_new (o := .lst [V.int 1, vi j', V.int ((((there a.jobs).filter fun k => v.contains k).map vi).length : Nat)]) fe1
              refine ⟨_, rfl, e1, pl, _, _, rfl, rfl, upd_same, se _ _ hpl, ?_, fun lp flp => ?_⟩
              · rw [List.length_map, sizeLine_eq]
                have h1 : ((there a.jobs).filter fun k => v.contains k).length ≤ (there a.jobs).length := List.length_filter_le _ _
                have h2 := jk_len Y.wf Y.jc
                rw [Y.jc.len] at h2
                show 3 + _ ≤ _
                omega
              · have sp := same_new (o := .lst ([V.int 1, vi j', V.int ((((there a.jobs).filter fun k => v.contains k).map vi).length : Nat)] ++ ((there a.jobs).filter fun k => v.contains k).map vi)) flp
                rw [eact] at k
                refine k lp _ ⟨mk, jk, am, aj, Y10.same (se.trans sp)⟩ (((Same.keep t9).trans k10).trans (Same.keep (se.trans sp))) ?_
                rw [upd_same, wr_turned, List.length_map]
            · rw [Bool.eq_false_iff.mpr c]
              refine iteF ?_
              have hn0 : canHave a r'.job (lesser a r'.job.rank) = none := by
                cases e : canHave a r'.job (lesser a r'.job.rank) with
                | none => rfl
                | some _ =>
                  rw [e] at c
                  exact absurd rfl c
              rw [plan_none hn0] at hW8
              exact ⟨_, rfl, s8.trans s9, hW8⟩
          · rintro σ H8 ⟨v4, rfl, s8, hW8⟩
            rw [List.length_map, List.drop_length, List.nil_append] at hW8
            rw [show 8 - (n + 1) = r by omega]
            exact ⟨_, _, _, _, fa, rfl, t7.trans s8, (hF6.same s7).same s8, hW8⟩
      · rintro σ H4 ⟨v2, v3, v4, v5, fa, rfl, t4, hF4, hW4⟩
        have eact : act a .turn = (a, .num (-11)) := by
          rw [act_turn', hW4]
          rfl
        refine ⟨by show 2 ≤ sizeLine; decide, fun lp flp => ?_⟩
        have sp := same_new (o := .lst [V.int 0, V.int (-11)]) flp
        rw [eact] at k
        exact k lp _ ⟨mk, jk, am, aj, Y.same (t4.trans sp)⟩ (Same.keep (t4.trans sp)) upd_same
end
end Jo
end
section
set_option Elab.async false
set_option linter.all false
set_option maxRecDepth 100000
namespace Jo
open PySem L2
open Kp179 (Abs job machine there runs waits rankOf lesser canHave plan change act waiting)
open Kp178 (Four Machine Job goodMachine goodJob)
def numPost (A : Adr) (H : Hp) (Q : VK) (y : Addr) (a : Abs) (c : Kp179.Call) : Prop := ∀ (v : Int) (H' : Hp), (act a c).2 = .num v → YardIs A H' y (act a c).1 → Keep H H' → Q (.int v) H'
def lstPost (A : Adr) (H : Hp) (Q : VK) (y : Addr) (a : Abs) (c : Kp179.Call) : Prop := ∀ (l : Addr) (H' : Hp), YardIs A H' y (act a c).1 → Keep H H' → H' l = some (.lst (wr (act a c).2)) → Q (.ref l) H'
theorem yard_start {A : Adr} {H : Hp} {y dy md jd : Addr} (h1 : H y = some (.ins A.C_Yard dy (ks_Yard.zip (yv md jd)))) (h2 : H md = some (.dK [])) (h3 : H jd = some (.dK [])) (h4 : md ≠ jd) : YardIs A H y Kp179.start := by
  refine ⟨[], [], fun _ => 0, fun _ => 0, wf_start, fun i => ?_, List.nodup_nil, ByCame.start, ⟨dy, md, jd, h1, h2, h3, h4⟩, fun i m e => ?_, fun j r e => ?_, fun i j hi => absurd hi (by simp)⟩
  · rw [start_machine]
    simp
  · rw [start_machine] at e
    cases e
  · rw [start_job] at e
    cases e
def spYardInit (A : Adr) : Sp := fun vs H Q _ => ∃ (x dx : Addr), vs = [.ref x] ∧ H x = some (.ins A.C_Yard dx []) ∧ ∀ H' : Hp, YardIs A H' x Kp179.start → But x H H' → Q .non H'
def spStart (A : Adr) : Sp := fun vs H Q _ => ∃ (y : Addr) (a : Abs), vs = [.ref y] ∧ YardIs A H y a ∧ numPost A H Q y a .start
section
variable {P : Program} {w : World} {K : PySem.W.Frag} {mg : Str → Option Value} {base : Heap} {A : Adr}
theorem ok_Yard_init (T : Txt K mg A) : FnOk P w K mg base CX0 1 A.f_Yard_init A.fd_Yard_init ["self"] (spYardInit A) := by
  refine T.F_Yard_init.ok sc_Yard_init (fun vs H Q E h => ?_) (fun cdv Ar outer s H vs Q E hr h => ?_)
  · obtain ⟨x, dx, rfl, _⟩ := h
    rfl
  · obtain ⟨x, dx, rfl, hx, k⟩ := h
    refine ⟨_, (pss_cons (ps_fld (pv 0) pe_dnewK rfl)
      (pss_one (ps_fld (pv 0) pe_dnewK rfl))), ?_⟩
    intro md fmd
    have x1 : (upd H md (.dK [])) x = some (.ins A.C_Yard dx []) := same_new fmd _ _ hx
    have nx : md ≠ x := fun z => by rw [z, hx] at fmd; cases fmd
    refine ⟨_, rfl, x, _, dx, _, rfl, x1, T.cl_Yard, T.na_Yard_machines, by decide, ?_⟩
    intro jd fjd
    have njx : jd ≠ x := fun z => by rw [z, upd_same] at fjd; cases fjd
    have nmj : md ≠ jd := fun z => by rw [← z, upd_ne nx, upd_same] at fjd; cases fjd
    refine ⟨_, rfl, x, _, dx, _, rfl, (by rw [upd_ne njx.symm]; exact upd_same), T.cl_Yard, T.na_Yard_jobs, few (fp f0), ?_⟩
    refine k _ (yard_start (dy := dx) (md := md) (jd := jd) ?_ ?_ ?_ nmj) (((((But.refl x H).new fmd).at_).new fjd).at_)
    · rw [upd_same]
      refine congrArg some (congrArg (HO.ins A.C_Yard dx) ?_)
      rw [show ([] : List (Str × V)) = ([] : List Str).zip ([] : List V) from rfl, putF_app rfl (by decide +kernel), putF_app rfl (by decide +kernel)]
      rfl
    · rw [upd_ne nx, upd_ne nmj, upd_ne nx, upd_same]
    · rw [upd_ne njx, upd_same]
theorem ok_Yard_jo_start (T : Txt K mg A) : FnOk P w K mg base CX0 1 A.f_Yard_jo_start A.fd_Yard_jo_start ["self"] (spStart A) := by
  refine T.F_Yard_jo_start.ok sc_Yard_jo_start (fun vs H Q E h => ?_) (fun cdv Ar outer s H vs Q E hr h => ?_)
  · obtain ⟨y, a, rfl, _⟩ := h
    rfl
  · obtain ⟨y, a, rfl, ⟨mk, jk, am, aj, Y⟩, k⟩ := h
    obtain ⟨dy, md0, jd0, y1, _, _, _⟩ := Y.ob
    refine ⟨_, (pss_cons (ps_fld (pv 0) pe_dnewK rfl)
      (pss_cons (ps_fld (pv 0) pe_dnewK rfl)
      (pss_one (ps_ret pe_int)))), ?_⟩
    intro md fmd
    have x1 := same_new (o := .dK []) fmd _ _ y1
    have nx : md ≠ y := fun z => by rw [z, y1] at fmd; cases fmd
    refine ⟨_, rfl, y, _, dy, _, rfl, x1, T.cl_Yard, T.na_Yard_machines, (by show 2 < 1000; decide), ?_⟩
    rw [putF_zip (i := 0) nd_Yard rfl (by show 0 < 2; decide)]
    intro jd fjd
    have njx : jd ≠ y := fun z => by rw [z, upd_same] at fjd; cases fjd
    have nmj : md ≠ jd := fun z => by rw [← z, upd_ne nx, upd_same] at fjd; cases fjd
    have x2 : (upd (upd (upd H md (.dK [])) y (.ins A.C_Yard dy (ks_Yard.zip ((yv md0 jd0).set 0 (.ref md))))) jd (.dK [])) y = some (.ins A.C_Yard dy (ks_Yard.zip ((yv md0 jd0).set 0 (.ref md)))) := by
      rw [upd_ne njx.symm]
      exact upd_same
    refine ⟨_, rfl, y, _, dy, _, rfl, x2, T.cl_Yard, T.na_Yard_jobs, (by show 2 < 1000; decide), ?_⟩
    rw [putF_zip (i := 1) nd_Yard rfl (by show 1 < 2; decide)]
    refine k 0 _ rfl (yard_start (dy := dy) (md := md) (jd := jd) upd_same ?_ ?_ nmj) ((((keep_new fmd).trans (keep_ins x1)).trans (keep_new fjd)).trans (keep_ins x2))
    · rw [upd_ne nx, upd_ne nmj, upd_ne nx, upd_same]
    · rw [upd_ne njx, upd_same]
def spPut (told : Hp → Addr → Bool → Prop) : Sp := fun vs H Q _ => ∃ (d p : Addr) (i last : Nat) (l : List Nat) (f : Nat → Addr) (g : Bool), vs = [.ref d, vi i, vi last, .ref p] ∧ H d = some (.dK (dct l f)) ∧ l.length ≤ 1000 ∧ told H p g ∧ (last < i → Q (.int (-2)) H) ∧ (i ≤ last → i ∈ l → Q (.int (-17)) H) ∧
  (i ≤ last → ¬ i ∈ l → g = false → Q (.int (-22)) H) ∧ (i ≤ last → ¬ i ∈ l → g = true → Q (.int ((l.length + 1 : Nat) : Int)) (upd H d (.dK (dct (l ++ [i]) fun k => if k = i then p else f k))))
def toldM (A : Adr) (H : Hp) (p : Addr) (g : Bool) : Prop := ∃ m, MachAt A H p m ∧ goodMachine m = g
def toldJ (A : Adr) (H : Hp) (p : Addr) (g : Bool) : Prop := ∃ q ps, JobAt A H p q ps ∧ goodJob q = g
theorem gt_nat (i j : Nat) : decide ((j : Int) < (i : Int)) = decide (j < i) := by
  rw [Bool.eq_iff_iff, decide_eq_true_eq, decide_eq_true_eq]
  omega
theorem ok_put_in_M (T : Txt K mg A) : FnOk P w K mg base CX0 3 A.f_put_in A.fd_put_in ["there", "number", "last", "record"] (spPut (toldM A)) := by
  have G_Machine_is_as_told := ok_Machine_is_as_told (P := P) (w := w) (base := base) T
  refine T.F_put_in.ok sc_put_in (fun vs H Q E h => ?_) (fun cdv Ar outer s H vs Q E hr h => ?_)
  · obtain ⟨d, p, i, last, l, f, g, rfl, _⟩ := h
    rfl
  · obtain ⟨d, p, i, last, l, f, g, rfl, hd, hl, ⟨m, hM, hg⟩, k1, k2, k3, k4⟩ := h
    obtain ⟨dm, hl', m1, m2⟩ := id hM
    have hu := hu_of hr
    refine ⟨_, (pss_cons (ps_if (pt_cmpR op_gt (pv 1) (pv 2) (nomark _))
        (pss_one (ps_ret (pe_glob rfl T.g_NOT_THERE T.r_NOT_THERE)))
        pss_nil)
      (pss_cons (ps_if (pt_cmp (pc_din hu (pv 1) (pv 0)))
        (pss_one (ps_ret (pe_glob rfl T.g_THERE_ALREADY T.r_THERE_ALREADY)))
        pss_nil)
      (pss_cons (ps_if (pt_not (pt_val (pe_meth0 (pv 3) T.cl_Machine T.m_Machine_is_as_told G_Machine_is_as_told (hr.mono (by decide)) T.b_Machine_is_as_told .nil pass0)))
        (pss_one (ps_ret (pe_glob rfl T.g_NOT_AS_TOLD T.r_NOT_AS_TOLD)))
        pss_nil)
      (pss_cons (ps_dput hu (pv 0) (pv 1) (pv 3) rfl)
      (pss_one (ps_ret (pe_callB call_lenD (by rfl) T.n_len PySem.boot_len (pa_cons (pv 0) pa_nil)))))))), ?_⟩
    refine ⟨_, rfl, _, rfl, _, _, rfl, rfl, _, rfl, ?_⟩
    rw [gt_nat]
    by_cases c1 : last < i
    · rw [decide_eq_true c1]
      exact iteT (k1 c1)
    · rw [decide_eq_false c1]
      refine iteF ?_
      refine ⟨_, rfl, _, rfl, d, _, rfl, .inl ⟨_, Sum.inl (i : Int), .inl hd, rfl, rfl⟩, _, rfl, ?_⟩
      by_cases c2 : i ∈ l
      · rw [val_dct c2]
        exact iteT (k2 (by omega) c2)
      · rw [val_dct_none c2]
        refine iteF ?_
        refine ⟨_, rfl, p, dm, _, rfl, m1, lookup_zip_none (by decide +kernel), p, m, rfl, hM, _, rfl, ?_⟩
        rw [hg]
        by_cases c3 : g = true
        · subst c3
          refine iteF ?_
          refine ⟨_, rfl, _, rfl, _, rfl, d, _, rfl, DPut.k (k := Sum.inl (i : Int)) hd (small_len (n := 1000) (by rw [dct_len]; exact hl) (by decide)), ?_⟩
          rw [put_dct_new c2]
          refine ⟨_, rfl, d, _, rfl, upd_same, ?_⟩
          rw [dct_len, List.length_append]
          exact k4 (by omega) c2 rfl
        · rw [Bool.eq_false_iff.mpr c3]
          exact iteT (k3 (by omega) c2 (Bool.eq_false_iff.mpr c3))
theorem ok_put_in_J (T : Txt K mg A) : FnOk P w K mg base CX0 3 A.f_put_in A.fd_put_in ["there", "number", "last", "record"] (spPut (toldJ A)) := by
  have G_Job_is_as_told := ok_Job_is_as_told (P := P) (w := w) (base := base) T
  refine T.F_put_in.ok sc_put_in (fun vs H Q E h => ?_) (fun cdv Ar outer s H vs Q E hr h => ?_)
  · obtain ⟨d, p, i, last, l, f, g, rfl, _⟩ := h
    rfl
  · obtain ⟨d, p, i, last, l, f, g, rfl, hd, hl, ⟨q, ps, hM, hg⟩, k1, k2, k3, k4⟩ := h
    obtain ⟨dm, wl', pl', m1, m2, m3⟩ := id hM
    have hu := hu_of hr
    refine ⟨_, (pss_cons (ps_if (pt_cmpR op_gt (pv 1) (pv 2) (nomark _))
        (pss_one (ps_ret (pe_glob rfl T.g_NOT_THERE T.r_NOT_THERE)))
        pss_nil)
      (pss_cons (ps_if (pt_cmp (pc_din hu (pv 1) (pv 0)))
        (pss_one (ps_ret (pe_glob rfl T.g_THERE_ALREADY T.r_THERE_ALREADY)))
        pss_nil)
      (pss_cons (ps_if (pt_not (pt_val (pe_meth0 (pv 3) T.cl_Job T.m_Job_is_as_told G_Job_is_as_told (hr.mono (by decide)) T.b_Job_is_as_told .nil pass0)))
        (pss_one (ps_ret (pe_glob rfl T.g_NOT_AS_TOLD T.r_NOT_AS_TOLD)))
        pss_nil)
      (pss_cons (ps_dput hu (pv 0) (pv 1) (pv 3) rfl)
      (pss_one (ps_ret (pe_callB call_lenD (by rfl) T.n_len PySem.boot_len (pa_cons (pv 0) pa_nil)))))))), ?_⟩
    refine ⟨_, rfl, _, rfl, _, _, rfl, rfl, _, rfl, ?_⟩
    rw [gt_nat]
    by_cases c1 : last < i
    · rw [decide_eq_true c1]
      exact iteT (k1 c1)
    · rw [decide_eq_false c1]
      refine iteF ?_
      refine ⟨_, rfl, _, rfl, d, _, rfl, .inl ⟨_, Sum.inl (i : Int), .inl hd, rfl, rfl⟩, _, rfl, ?_⟩
      by_cases c2 : i ∈ l
      · rw [val_dct c2]
        exact iteT (k2 (by omega) c2)
      · rw [val_dct_none c2]
        refine iteF ?_
        refine ⟨_, rfl, p, dm, _, rfl, m1, lookup_zip_none (by decide +kernel), p, q, ps, rfl, hM, _, rfl, ?_⟩
        rw [hg]
        by_cases c3 : g = true
        · subst c3
          refine iteF ?_
          refine ⟨_, rfl, _, rfl, _, rfl, d, _, rfl, DPut.k (k := Sum.inl (i : Int)) hd (small_len (n := 1000) (by rw [dct_len]; exact hl) (by decide)), ?_⟩
          rw [put_dct_new c2]
          refine ⟨_, rfl, d, _, rfl, upd_same, ?_⟩
          rw [dct_len, List.length_append]
          exact k4 (by omega) c2 rfl
        · rw [Bool.eq_false_iff.mpr c3]
          exact iteT (k3 (by omega) c2 (Bool.eq_false_iff.mpr c3))
end
def spMachine (A : Adr) : Sp := fun vs H Q _ => ∃ (y p : Addr) (a : Abs) (i : Nat) (m : Machine), vs = [.ref y, vi i, .ref p] ∧ YardIs A H y a ∧ MachAt A H p m ∧ numPost A H Q y a (.machine i m)
def spJob (A : Adr) : Sp := fun vs H Q _ => ∃ (y p : Addr) (a : Abs) (mk jk : List Nat) (am aj : Nat → Addr) (j : Nat) (q : Job), vs = [.ref y, vi j, .ref p] ∧ YardAt A H y a mk jk am aj ∧ JobAt A H p q [] ∧ (∀ k ∈ jk, aj k ≠ p) ∧ numPost A H Q y a (.job j q)
theorem dk_ne {H : Hp} {d b : Addr} {l : List (Key × V)} {o u : HO} (hd : H d = some (.dK l)) (h : H b = some o) (n : ∀ k, o ≠ .dK k) : (upd H d u) b = some o := by
  rw [upd_ne (fun z => by subst z; rw [hd] at h; exact n _ (Option.some.inj h).symm)]
  exact h
theorem MachAt.dk {A : Adr} {H : Hp} {d p : Addr} {l : List (Key × V)} {u : HO} {m : Machine} (h : MachAt A H p m) (hd : H d = some (.dK l)) : MachAt A (upd H d u) p m := by
  obtain ⟨d', hl, h1, h2⟩ := h
  exact ⟨d', hl, dk_ne hd h1 (fun _ z => nomatch z), dk_ne hd h2 (fun _ z => nomatch z)⟩
theorem JobAt.dk {A : Adr} {H : Hp} {d p : Addr} {l : List (Key × V)} {u : HO} {q : Job} {ps : List Nat} (h : JobAt A H p q ps) (hd : H d = some (.dK l)) : JobAt A (upd H d u) p q ps := by
  obtain ⟨d', wl, pl, h1, h2, h3⟩ := h
  exact ⟨d', wl, pl, dk_ne hd h1 (fun _ z => nomatch z), dk_ne hd h2 (fun _ z => nomatch z), dk_ne hd h3 (fun _ z => nomatch z)⟩
theorem not_some {α : Type} {o : Option α} (h : ¬ o.isSome = true) : o = none := by
  cases o with
  | none => rfl
  | some _ => exact absurd rfl h
section
variable {P : Program} {w : World} {K : PySem.W.Frag} {mg : Str → Option Value} {base : Heap} {A : Adr}
theorem ok_Yard_jo_machine (T : Txt K mg A) : FnOk P w K mg base CX0 4 A.f_Yard_jo_machine A.fd_Yard_jo_machine ["self", "i", "machine"] (spMachine A) := by
  have G_put_in := ok_put_in_M (P := P) (w := w) (base := base) T
  refine T.F_Yard_jo_machine.ok sc_Yard_jo_machine (fun vs H Q E h => ?_) (fun cdv Ar outer s H vs Q E hr h => ?_)
  · obtain ⟨y, p, a, i, m, rfl, _⟩ := h
    rfl
  · obtain ⟨y, p, a, i, m, rfl, ⟨mk, jk, am, aj, Y⟩, hM, k⟩ := h
    obtain ⟨dy, md, jd, y1, y2, y3, y4⟩ := Y.ob
    have hmk := mk_len Y.wf Y.perm
    refine ⟨_, (pss_one (ps_ret (pe_call G_put_in (hr.mono (by decide)) rfl T.mg_put_in T.F_put_in.kp T.b_put_in .nil pass0 (pa_cons (pe_fld (pv 0) rfl) (pa_cons (pv 1) (pa_cons (pe_glob rfl T.g_LAST_MACHINE T.r_LAST_MACHINE) (pa_cons (pv 2) pa_nil))))))), ?_⟩
    refine ⟨_, rfl, y, _, dy, _, _, rfl, y1, T.cl_Yard, T.na_Yard_machines, lookup_zip (i := 0) nd_Yard rfl rfl, _, rfl, _, rfl, md, p, i, 63, mk, am, goodMachine m, rfl, y2, by omega, ⟨m, hM, rfl⟩, fun h1 => ?_, fun h1 h2 => ?_, fun h1 h2 h3 => ?_, fun h1 h2 h3 => ?_⟩
    · have e : act a (.machine i m) = (a, .num (-2)) := by rw [act_machine, if_pos (by omega)]
      unfold numPost at k
      rw [e] at k
      exact k _ H rfl ⟨mk, jk, am, aj, Y⟩ (Keep.refl H)
    · have e : act a (.machine i m) = (a, .num (-17)) := by rw [act_machine, if_neg (by omega), if_pos ((Y.mm i).mp h2)]
      unfold numPost at k
      rw [e] at k
      exact k _ H rfl ⟨mk, jk, am, aj, Y⟩ (Keep.refl H)
    · have e : act a (.machine i m) = (a, .num (-22)) := by rw [act_machine, if_neg (by omega), if_neg (fun z => h2 ((Y.mm i).mpr z)), if_pos h3]
      unfold numPost at k
      rw [e] at k
      exact k _ H rfl ⟨mk, jk, am, aj, Y⟩ (Keep.refl H)
    · have hn : machine a i = none := not_some fun z => h2 ((Y.mm i).mpr z)
      have e : act a (.machine i m) = ({ a with machines := a.machines.set i (some m) }, .num ((there a.machines).length + 1 : Nat)) := by
        rw [act_machine, if_neg (by omega), if_neg (by rw [hn]; simp), if_neg (by rw [h3]; simp)]
      unfold numPost at k
      rw [e] at k
      have ms : ∀ k, machine { a with machines := a.machines.set i (some m) } k = if k = i then some m else machine a k := fun k => machine_set (by rw [Y.wf.ml]; omega) k
      refine k _ _ (by rw [Y.perm.length_eq]) ⟨mk ++ [i], jk, _, aj, wf_machine Y.wf (by omega) hn h3, fun k' => ?_, nd_snoc Y.mn h2, ⟨Y.jc.mem, Y.jc.srt⟩, ⟨dy, md, jd, dk_ne y2 y1 (fun _ z => nomatch z), upd_same, by rw [upd_ne y4.symm]; exact y3, y4⟩, fun k' m' e' => ?_, fun j r e' => (Y.js j r e').dk y2, Y.inj⟩ (keep_dk y2)
      · rw [ms, List.mem_append, List.mem_singleton, Y.mm]
        by_cases hk : k' = i
        · rw [if_pos hk]
          simp [hk]
        · rw [if_neg hk]
          simp [hk]
      · rw [ms] at e'
        by_cases hk : k' = i
        · rw [if_pos hk] at e'
          cases e'
          show MachAt A _ (if k' = i then p else am k') m
          rw [if_pos hk]
          exact hM.dk y2
        · rw [if_neg hk] at e'
          show MachAt A _ (if k' = i then p else am k') m'
          rw [if_neg hk]
          exact (Y.ms k' m' e').dk y2
theorem ok_Yard_jo_job (T : Txt K mg A) : FnOk P w K mg base CX0 4 A.f_Yard_jo_job A.fd_Yard_jo_job ["self", "j", "job"] (spJob A) := by
  have G_put_in := ok_put_in_J (P := P) (w := w) (base := base) T
  refine T.F_Yard_jo_job.ok sc_Yard_jo_job (fun vs H Q E h => ?_) (fun cdv Ar outer s H vs Q E hr h => ?_)
  · obtain ⟨y, p, a, mk, jk, am, aj, j, q, rfl, _⟩ := h
    rfl
  · obtain ⟨y, p, a, mk, jk, am, aj, j, q, rfl, Y, hJ, hnew, k⟩ := h
    obtain ⟨dy, md, jd, y1, y2, y3, y4⟩ := Y.ob
    have hjk := jk_len Y.wf Y.jc
    refine ⟨_, (pss_one (ps_ret (pe_call G_put_in (hr.mono (by decide)) rfl T.mg_put_in T.F_put_in.kp T.b_put_in .nil pass0 (pa_cons (pe_fld (pv 0) rfl) (pa_cons (pv 1) (pa_cons (pe_glob rfl T.g_LAST_JOB T.r_LAST_JOB) (pa_cons (pv 2) pa_nil))))))), ?_⟩
    refine ⟨_, rfl, y, _, dy, _, _, rfl, y1, T.cl_Yard, T.na_Yard_jobs, lookup_zip (i := 1) nd_Yard rfl rfl, _, rfl, _, rfl, jd, p, j, 127, jk, aj, goodJob q, rfl, y3, by omega, ⟨q, [], hJ, rfl⟩, fun h1 => ?_, fun h1 h2 => ?_, fun h1 h2 h3 => ?_, fun h1 h2 h3 => ?_⟩
    · have e : act a (.job j q) = (a, .num (-2)) := by rw [act_job, if_pos (by omega)]
      unfold numPost at k
      rw [e] at k
      exact k _ H rfl ⟨mk, jk, am, aj, Y⟩ (Keep.refl H)
    · have e : act a (.job j q) = (a, .num (-17)) := by rw [act_job, if_neg (by omega), if_pos ((Y.jc.mem j).mp h2)]
      unfold numPost at k
      rw [e] at k
      exact k _ H rfl ⟨mk, jk, am, aj, Y⟩ (Keep.refl H)
    · have e : act a (.job j q) = (a, .num (-22)) := by rw [act_job, if_neg (by omega), if_neg (fun z => h2 ((Y.jc.mem j).mpr z)), if_pos h3]
      unfold numPost at k
      rw [e] at k
      exact k _ H rfl ⟨mk, jk, am, aj, Y⟩ (Keep.refl H)
    · have hn : job a j = none := not_some fun z => h2 ((Y.jc.mem j).mpr z)
      have e : act a (.job j q) = (⟨a.machines, a.jobs.set j (some ⟨q, a.clock, none⟩), a.clock + 1⟩, .num ((there a.jobs).length + 1 : Nat)) := by
        rw [act_job, if_neg (by omega), if_neg (by rw [hn]; simp), if_neg (by rw [h3]; simp)]
      unfold numPost at k
      rw [e] at k
      have js : ∀ k, job ⟨a.machines, a.jobs.set j (some ⟨q, a.clock, none⟩), a.clock + 1⟩ k = if k = j then some ⟨q, a.clock, none⟩ else job a k := fun k => job_set (by rw [Y.wf.jl]; omega) k
      refine k _ _ (by rw [Y.jc.len]) ⟨mk, jk ++ [j], am, _, wf_job Y.wf (by omega) hn h3, Y.mm, Y.mn, Y.jc.job Y.wf (by omega) hn, ⟨dy, md, jd, dk_ne y3 y1 (fun _ z => nomatch z), by rw [upd_ne y4]; exact y2, upd_same, y4⟩, fun i m' e' => (Y.ms i m' e').dk y3, fun k' r' e' => ?_, fun i1 i2 g1 g2 ge => ?_⟩ (keep_dk y3)
      · rw [js] at e'
        by_cases hk : k' = j
        · rw [if_pos hk] at e'
          cases e'
          show JobAt A _ (if k' = j then p else aj k') q []
          rw [if_pos hk]
          exact hJ.dk y3
        · rw [if_neg hk] at e'
          show JobAt A _ (if k' = j then p else aj k') r'.job _
          rw [if_neg hk]
          exact (Y.js k' r' e').dk y3
      · have ge : (if i1 = j then p else aj i1) = (if i2 = j then p else aj i2) := ge
        rcases List.mem_append.mp g1 with g1 | g1
        · have n1 : i1 ≠ j := fun z => h2 (by rw [← z]; exact g1)
          rw [if_neg n1] at ge
          rcases List.mem_append.mp g2 with g2 | g2
          · have n2 : i2 ≠ j := fun z => h2 (by rw [← z]; exact g2)
            rw [if_neg n2] at ge
            exact Y.inj _ _ g1 g2 ge
          · rw [List.mem_singleton.mp g2, if_pos rfl] at ge
            exact absurd ge (hnew i1 g1)
        · have e1 := List.mem_singleton.mp g1
          rcases List.mem_append.mp g2 with g2 | g2
          · have n2 : i2 ≠ j := fun z => h2 (by rw [← z]; exact g2)
            rw [if_pos e1, if_neg n2] at ge
            exact absurd ge.symm (hnew i2 g2)
          · exact e1.trans (List.mem_singleton.mp g2).symm
end
end Jo
end
section
set_option Elab.async false
set_option linter.all false
set_option maxRecDepth 100000
namespace Jo
open PySem L2
open Kp179 (Abs job machine there runs waits rankOf lesser canHave plan change act waiting)
open Kp178 (Four Machine Job goodMachine goodJob)
theorem lc_vals {d : Addr} {od : Obj} {l : List Nat} {f : Nat → Addr} {i : Nat} {tt : TT} {te : TE} {vs : List Nat} {σ : St} {H1 : Hp} {D : Addr} {Qd : Hp → Prop} (F : Nat → List V) (hd0 : H1 d = some (.frz od (.dK (dct l f)))) (hD : H1 D = none) (h0 : F 0 = [])
    (hw : ∀ x, wipe ((wipe σ vs).set i (some x)) vs = wipe σ vs)
    (hs : ∀ (k n : Nat) H, Same H1 H → H D = some (.lst (F k)) → l[k]? = some n → tt ((wipe σ vs).set i (some (.ref (f n)))) H fun b H3 =>
      if b = true then te ((wipe σ vs).set i (some (.ref (f n)))) H3 fun z H4 => ∃ acc, H4 D = some (.lst acc) ∧ acc.length < sizeLine ∧ Same H1 (upd H4 D (.lst (acc ++ [z]))) ∧ (upd H4 D (.lst (acc ++ [z]))) D = some (.lst (F (k + 1))) else Same H1 H3 ∧ H3 D = some (.lst (F (k + 1))))
    (hd : ∀ H, Same H1 H → H D = some (.lst (F l.length)) → Qd H) :
    ∃ W : Nat → Nat → Hp → Prop, (∃ m, W 0 m (upd H1 D (.lst []))) ∧ ∀ n m H, W n m H →
      ((Itd d od (dct l f)).stop n H ∧ Qd H) ∨ ((Itd d od (dct l f)).go n H ∧ ∃ Nx : Hp → Prop, (∀ H', Nx H' → ∃ m', m' < m ∧ W (n + 1) m' H') ∧ ∀ x H', (Itd d od (dct l f)).yld n H x H' → gName i x (wipe σ vs) H' fun σ2 H2 => wipe σ2 vs = wipe σ vs ∧ tt σ2 H2 fun b H3 =>
        if b = true then te σ2 H3 fun y H4 => ∃ acc, H4 D = some (.lst acc) ∧ acc.length < sizeLine ∧ Nx (upd H4 D (.lst (acc ++ [y]))) else Nx H3) := by
  refine lc_it (n := l.length) (fun k H => Same H1 H ∧ H D = some (.lst (F k))) ⟨same_new hD, by rw [upd_same, h0]⟩ (fun k H hk p => ⟨p.1 _ _ hd0, by rw [dct_len]; exact hk⟩) (fun H p => ⟨p.1 _ _ hd0, by rw [dct_len]; exact Nat.le_refl _⟩) (fun k v H H' hk p y => ?_) (fun H p => hd H p.1 p.2)
  obtain ⟨rfl, kk, e⟩ := y
  have e' : (dct l f)[k]? = some ((Sum.inl ((l[k] : Nat) : Int) : Key), V.ref (f l[k])) := by
    rw [List.getElem?_map, List.getElem?_eq_getElem hk]
    rfl
  rw [e'] at e
  cases e
  exact ⟨hw _, hs k l[k] _ p.1 p.2 (List.getElem?_eq_getElem hk)⟩
def spEnd (A : Adr) : Sp := fun vs H Q _ => ∃ (y : Addr) (a : Abs) (j : Nat), vs = [.ref y, vi j] ∧ YardIs A H y a ∧ numPost A H Q y a (.end_ j)
def spDown (A : Adr) : Sp := fun vs H Q _ => ∃ (y : Addr) (a : Abs) (i : Nat), vs = [.ref y, vi i] ∧ YardIs A H y a ∧ numPost A H Q y a (.down i)
def spWhere (A : Adr) : Sp := fun vs H Q _ => ∃ (y : Addr) (a : Abs) (j : Nat), vs = [.ref y, vi j] ∧ YardIs A H y a ∧ lstPost A H Q y a (.where_ j)
def spFree (A : Adr) : Sp := fun vs H Q _ => ∃ (y : Addr) (a : Abs) (i : Nat), vs = [.ref y, vi i] ∧ YardIs A H y a ∧ lstPost A H Q y a (.free i)
theorem count_vi (ps : List Nat) (i : Nat) : (ps.map fun (n : Nat) => (n : Int)).count (i : Int) = Kp178.on ps i := by
  rw [on_count]
  induction ps with
  | nil => rfl
  | cons x ps ih =>
    rw [List.map_cons, List.count_cons, List.count_cons, ih]
    congr 1
    by_cases e : x = i
    · subst e
      simp
    · rw [if_neg (by simp; omega), if_neg (by simpa using e)]
section
variable {P : Program} {w : World} {K : PySem.W.Frag} {mg : Str → Option Value} {base : Heap} {A : Adr}
theorem ok_Yard_jo_end (T : Txt K mg A) : FnOk P w K mg base CX0 1 A.f_Yard_jo_end A.fd_Yard_jo_end ["self", "j"] (spEnd A) := by
  refine T.F_Yard_jo_end.ok sc_Yard_jo_end (fun vs H Q E h => ?_) (fun cdv Ar outer s H vs Q E hr h => ?_)
  · obtain ⟨y, a, j, rfl, _⟩ := h
    rfl
  · obtain ⟨y, a, j, rfl, ⟨mk, jk, am, aj, Y⟩, k⟩ := h
    obtain ⟨dy, md, jd, y1, y2, y3, y4⟩ := Y.ob
    have hu := hu_of hr
    refine ⟨_, (pss_cons (ps_if (pt_cmp (pc_dnotin hu (pv 1) (pe_fld (pv 0) rfl)))
        (pss_one (ps_ret (pe_glob rfl T.g_NOT_THERE T.r_NOT_THERE)))
        pss_nil)
      (pss_cons (ps_expr (pe_dpop1 (pe_fld (pv 0) rfl) (pv 1) ⟨rfl, rfl, rfl, rfl⟩))
      (pss_one (ps_ret (pe_callB call_lenD (by rfl) T.n_len PySem.boot_len (pa_cons (pe_fld (pv 0) rfl) pa_nil)))))), ?_⟩
    refine ⟨_, rfl, _, rfl, y, _, dy, _, _, rfl, y1, T.cl_Yard, T.na_Yard_jobs, lookup_zip (i := 1) nd_Yard rfl rfl, jd, _, rfl, .inl ⟨_, Sum.inl (j : Int), .inl y3, rfl, rfl⟩, _, rfl, ?_⟩
    by_cases c : j ∈ jk
    · rw [val_dct c]
      refine iteF ?_
      obtain ⟨r, er⟩ := some_of Y.jc c
      refine ⟨_, rfl, y, _, dy, _, _, rfl, y1, T.cl_Yard, T.na_Yard_jobs, lookup_zip (i := 1) nd_Yard rfl rfl, jd, rfl, .inl ⟨_, .inl y3⟩, _, rfl, _, Sum.inl (j : Int), _, y3, rfl, val_dct c, ?_⟩
      rw [drop_dct]
      refine ⟨_, rfl, y, _, dy, _, _, rfl, dk_ne y3 y1 (fun _ z => nomatch z), T.cl_Yard, T.na_Yard_jobs, lookup_zip (i := 1) nd_Yard rfl rfl, jd, _, rfl, upd_same, ?_⟩
      rw [dct_len]
      have e : act a (.end_ j) = ({ a with jobs := a.jobs.set j none }, .num ((there a.jobs).length - 1 : Nat)) := by
        rw [act_end, er]
      unfold numPost at k
      rw [e] at k
      have jl : j < 128 := Y.wf.jlt (by rw [er]; rfl)
      have js : ∀ k, job { a with jobs := a.jobs.set j none } k = if k = j then none else job a k := fun k => job_set (by rw [Y.wf.jl]; omega) k
      have hlen : (jk.filter fun k => decide (k ≠ j)).length = (there a.jobs).length - 1 := by
        have h1 := (Y.jc.end_ Y.wf (by rw [er]; rfl) (j := j)).nodup
        rw [← Y.jc.len]
        have h2 : jk.Perm (j :: jk.filter fun k => decide (k ≠ j)) := perm_of Y.jc.nodup (List.nodup_cons.mpr ⟨fun z => by have := (List.mem_filter.mp z).2; simp at this, h1⟩) fun k' => by
          rw [List.mem_cons, List.mem_filter, decide_eq_true_eq]
          constructor
          · intro hk
            by_cases z : k' = j
            · exact .inl z
            · exact .inr ⟨hk, z⟩
          · rintro (z | z)
            · rw [z]
              exact c
            · exact z.1
        rw [h2.length_eq]
        simp
      rw [hlen]
      refine k _ _ rfl ⟨mk, jk.filter fun k => decide (k ≠ j), am, aj, wf_end Y.wf (by rw [er]; rfl), Y.mm, Y.mn, Y.jc.end_ Y.wf (by rw [er]; rfl), ⟨dy, md, jd, dk_ne y3 y1 (fun _ z => nomatch z), by rw [upd_ne y4]; exact y2, upd_same, y4⟩, fun i m' e' => (Y.ms i m' e').dk y3, fun k' r' e' => ?_, fun i1 i2 g1 g2 ge => Y.inj _ _ (List.mem_filter.mp g1).1 (List.mem_filter.mp g2).1 ge⟩ (keep_dk y3)
      rw [js] at e'
      by_cases hk : k' = j
      · rw [if_pos hk] at e'
        cases e'
      · rw [if_neg hk] at e'
        exact (Y.js k' r' e').dk y3
    · rw [val_dct_none c]
      refine iteT ?_
      have e : act a (.end_ j) = (a, .num (-2)) := by
        rw [act_end, not_some fun z => c ((Y.jc.mem j).mpr z)]
      unfold numPost at k
      rw [e] at k
      exact k _ H rfl ⟨mk, jk, am, aj, Y⟩ (Keep.refl H)
theorem ok_Yard_jo_where (T : Txt K mg A) : FnOk P w K mg base CX0 2 A.f_Yard_jo_where A.fd_Yard_jo_where ["self", "j"] (spWhere A) := by
  have G_Job_runs := ok_Job_runs (P := P) (w := w) (base := base) T
  refine T.F_Yard_jo_where.ok sc_Yard_jo_where (fun vs H Q E h => ?_) (fun cdv Ar outer s H vs Q E hr h => ?_)
  · obtain ⟨y, a, j, rfl, _⟩ := h
    rfl
  · obtain ⟨y, a, j, rfl, ⟨mk, jk, am, aj, Y⟩, k⟩ := h
    obtain ⟨dy, md, jd, y1, y2, y3, y4⟩ := Y.ob
    have hu := hu_of hr
    unfold lstPost at k
    refine ⟨_, (pss_cons (ps_if (pt_cmp (pc_dnotin hu (pv 1) (pe_fld (pv 0) rfl)))
        (pss_one (ps_ret (pe_lst (pa_cons (pe_glob rfl T.g_FORM_OF_A_NUMBER T.r_FORM_OF_A_NUMBER) (pa_cons (pe_glob rfl T.g_NOT_THERE T.r_NOT_THERE) pa_nil)))))
        pss_nil)
      (pss_cons (ps_set (i := 2) sc_Yard_jo_where.nd rfl (Or.inl rfl) (pe_dget hu (pe_fld (pv 0) rfl) (pv 1) (fun _ _ => rfl)))
      (pss_cons (ps_if (pt_not (pt_val (pe_meth0 (pv 2) T.cl_Job T.m_Job_runs G_Job_runs (hr.mono (by decide)) T.b_Job_runs .nil pass0)))
        (pss_one (ps_ret (pe_lst (pa_cons (pe_glob rfl T.g_FORM_OF_A_NUMBER T.r_FORM_OF_A_NUMBER) (pa_cons (pe_glob rfl T.g_WAITS T.r_WAITS) pa_nil)))))
        pss_nil)
      (pss_one (ps_ret (pe_op op_cat (pe_lst (pa_cons (pe_glob rfl T.g_FORM_OF_PLACES T.r_FORM_OF_PLACES) (pa_cons (pe_callB call_len_seq (by rfl) T.n_len PySem.boot_len (pa_cons (pe_fld (pv 2) rfl) pa_nil)) pa_nil))) (pe_fld (pv 2) rfl))))))), ?_⟩
    refine ⟨_, rfl, _, rfl, y, _, dy, _, _, rfl, y1, T.cl_Yard, T.na_Yard_jobs, lookup_zip (i := 1) nd_Yard rfl rfl, jd, _, rfl, .inl ⟨_, Sum.inl (j : Int), .inl y3, rfl, rfl⟩, _, rfl, ?_⟩
    by_cases c : j ∈ jk
    · rw [val_dct c]
      refine iteF ?_
      obtain ⟨r, er⟩ := some_of Y.jc c
      have J := Y.js j r er
      obtain ⟨d, wl, pl, h1, h2, h3⟩ := id J
      refine ⟨_, rfl, y, _, dy, _, _, rfl, y1, T.cl_Yard, T.na_Yard_jobs, lookup_zip (i := 1) nd_Yard rfl rfl, _, rfl, jd, _, rfl, .inl ⟨_, Sum.inl (j : Int), .inl y3, rfl, (val_dct c).symm⟩, ?_⟩
      refine ⟨_, rfl, aj j, d, _, rfl, h1, lookup_zip_none (by decide +kernel), aj j, _, _, rfl, J, _, rfl, ?_⟩
      dsimp only
      rw [at_len Y.wf er]
      cases ea : r.at_ with
      | none =>
        have e : act a (.where_ j) = (a, .num (-11)) := by
          rw [act_where, er]
          dsimp only
          rw [ea]
        rw [e] at k
        refine iteT ⟨by show 2 ≤ sizeLine; decide, fun lp flp => ?_⟩
        have sp := same_new (o := .lst [V.int 0, V.int (-11)]) flp
        exact k lp _ ⟨mk, jk, am, aj, Y.same sp⟩ (Same.keep sp) upd_same
      | some p =>
        have e : act a (.where_ j) = (a, .places p) := by
          rw [act_where, er]
          dsimp only
          rw [ea]
        rw [e] at k
        rw [ea] at h3
        have hp := (Y.wf.pl j r p er ea).1
        obtain ⟨_, _, _, gc2, _⟩ := good_wants (Y.wf.gj j r er)
        refine iteF ⟨_, rfl, aj j, _, d, _, _, rfl, h1, T.cl_Job, T.na_Job_places, lookup_zip (i := 7) nd_Job rfl rfl, pl, _, rfl, .inl (SqL.of h3), by show 2 ≤ sizeLine; decide, fun e1 fe1 => ?_⟩
        have se := same_new (o := .lst [V.int 2, V.int (((p.map vi)).length : Nat)]) fe1
        refine ⟨_, rfl, aj j, _, d, _, _, rfl, se _ _ h1, T.cl_Job, T.na_Job_places, lookup_zip (i := 7) nd_Job rfl rfl, e1, pl, _, _, rfl, rfl, upd_same, se _ _ h3, ?_, fun lp flp => ?_⟩
        · show 2 + (p.map vi).length ≤ sizeLine
          rw [List.length_map, sizeLine_eq]
          omega
        · have sp := same_new (o := .lst ([V.int 2, V.int (((p.map vi)).length : Nat)] ++ p.map vi)) flp
          refine k lp _ ⟨mk, jk, am, aj, Y.same (se.trans sp)⟩ (Same.keep (se.trans sp)) ?_
          rw [upd_same]
          refine congrArg some (congrArg HO.lst ?_)
          show [V.int 2, V.int (((p.map vi)).length : Nat)] ++ p.map vi = List.map V.int ([2] ++ ((p.length : Int) :: p.flatMap Kp179Neutral.wrNat))
          rw [flat_nat, List.length_map]
          simp [vi]
    · rw [val_dct_none c]
      have e : act a (.where_ j) = (a, .num (-2)) := by
        rw [act_where, not_some fun z => c ((Y.jc.mem j).mpr z)]
      rw [e] at k
      refine iteT ⟨by show 2 ≤ sizeLine; decide, fun lp flp => ?_⟩
      have sp := same_new (o := .lst [V.int 0, V.int (-2)]) flp
      exact k lp _ ⟨mk, jk, am, aj, Y.same sp⟩ (Same.keep sp) upd_same
theorem ok_Yard_jo_free (T : Txt K mg A) : FnOk P w K mg base CX0 2 A.f_Yard_jo_free A.fd_Yard_jo_free ["self", "i"] (spFree A) := by
  have G_room_beside := ok_room_beside (P := P) (w := w) (base := base) T
  refine T.F_Yard_jo_free.ok sc_Yard_jo_free (fun vs H Q E h => ?_) (fun cdv Ar outer s H vs Q E hr h => ?_)
  · obtain ⟨y, a, i, rfl, _⟩ := h
    rfl
  · obtain ⟨y, a, i, rfl, ⟨mk, jk, am, aj, Y⟩, k⟩ := h
    obtain ⟨dy, md, jd, y1, y2, y3, y4⟩ := Y.ob
    have hu := hu_of hr
    unfold lstPost at k
    refine ⟨_, (pss_cons (ps_if (pt_cmp (pc_dnotin hu (pv 1) (pe_fld (pv 0) rfl)))
        (pss_one (ps_ret (pe_lst (pa_cons (pe_glob rfl T.g_FORM_OF_A_NUMBER T.r_FORM_OF_A_NUMBER) (pa_cons (pe_glob rfl T.g_NOT_THERE T.r_NOT_THERE) pa_nil)))))
        pss_nil)
      (pss_cons (ps_set (i := 2) sc_Yard_jo_free.nd rfl (Or.inl rfl) (pe_fld (pe_dget hu (pe_fld (pv 0) rfl) (pv 1) (fun _ _ => rfl)) rfl))
      (pss_cons (ps_lock (ps_for PassesOwn.never rfl (pi_values (pe_fld (pv 0) rfl)) (pg_name (i := 3) sc_Yard_jo_free.nd rfl (Or.inl rfl))
        (pss_one (ps_set (i := 2) sc_Yard_jo_free.nd rfl (Or.inl rfl) (pe_call G_room_beside (hr.mono (by decide)) rfl T.mg_room_beside T.F_room_beside.kp T.b_room_beside .nil pass0 (pa_cons (pv 2) (pa_cons (pv 3) (pa_cons (pe_bm PySem.F.plainAttrs_list PySem.F.slot_list_count PySem.F.type_list_count mt_lcount (pe_fld (pv 3) rfl) (pa_cons (pv 1) pa_nil)) pa_nil))))))))
      (pss_one (ps_ret (pe_op op_cat (pe_lst (pa_cons (pe_glob rfl T.g_FORM_OF_ROOM T.r_FORM_OF_ROOM) pa_nil)) (pv 2))))))), ?_⟩
    refine ⟨_, rfl, _, rfl, y, _, dy, _, _, rfl, y1, T.cl_Yard, T.na_Yard_machines, lookup_zip (i := 0) nd_Yard rfl rfl, md, _, rfl, .inl ⟨_, Sum.inl (i : Int), .inl y2, rfl, rfl⟩, _, rfl, ?_⟩
    by_cases c : i ∈ mk
    · rw [val_dct c]
      refine iteF ?_
      obtain ⟨m, em⟩ := Option.isSome_iff_exists.mp ((Y.mm i).mp c)
      obtain ⟨dm, hl, m1, m2⟩ := Y.ms i m em
      have e : act a (.free i) = (a, .free (m.has.less (Kp179.takenBut a [] i))) := by
        rw [act_free, em]
      rw [e] at k
      refine ⟨_, rfl, y, _, dy, _, _, rfl, y1, T.cl_Yard, T.na_Yard_machines, lookup_zip (i := 0) nd_Yard rfl rfl, _, rfl, md, _, rfl, .inl ⟨_, Sum.inl (i : Int), .inl y2, rfl, (val_dct c).symm⟩,
        am i, _, dm, _, _, rfl, m1, T.cl_Machine, T.na_Machine_has, lookup_zip (i := 0) nd_Machine rfl rfl, ?_⟩
      refine ⟨jd, _, y3, trivial, fun od => ?_⟩
      generalize hHl : upd H jd (.frz od (.dK (dct jk aj))) = Hl
      have hjl : Hl jd = some (.frz od (.dK (dct jk aj))) := by
        rw [← hHl]
        exact upd_same
      have hyl : Hl y = some (.ins A.C_Yard dy (ks_Yard.zip (yv md jd))) := by
        rw [← hHl]
        exact lock_ne y3 y1 (fun z => nomatch z)
      refine ⟨_, rfl, y, _, dy, _, _, rfl, hyl, T.cl_Yard, T.na_Yard_jobs, lookup_zip (i := 1) nd_Yard rfl rfl, jd, od, _, rfl, hjl, ?_⟩
      refine for_it (n := jk.length) (fun n σ H2 => ∃ (v3 : Option V) (rl : Addr), σ = [some (.ref y), some (vi i), some (.ref rl), v3] ∧ Same Hl H2 ∧ H2 rl = some (.lst (L4 (m.has.less (S4 (onJ a i) (jk.take n)))))) ?_ ?_ ?_ ?_ ?_
      · refine ⟨none, hl, rfl, Same.refl _, ?_⟩
        rw [← hHl]
        exact lock_ne y3 m2 (fun z => nomatch z)
      · rintro n σ H2 hn ⟨v3, rl, rfl, s2, _⟩
        exact ⟨s2 _ _ hjl, by rw [dct_len]; exact hn⟩
      · rintro σ H2 ⟨v3, rl, rfl, s2, _⟩
        exact ⟨s2 _ _ hjl, by rw [dct_len]; exact Nat.le_refl _⟩
      · rintro n x σ H2 H2' hn ⟨v3, rl, rfl, s2, hrl⟩ ⟨rfl, kk, ekk⟩
        have e' : (dct jk aj)[n]? = some ((Sum.inl ((jk[n] : Nat) : Int) : Key), V.ref (aj jk[n])) := by
          rw [List.getElem?_map, List.getElem?_eq_getElem hn]
          rfl
        rw [e'] at ekk
        cases ekk
        have hjn : jk[n]? = some jk[n] := List.getElem?_eq_getElem hn
        generalize jk[n] = j at hjn
        obtain ⟨r, er⟩ := some_of Y.jc (List.mem_of_getElem? hjn)
        have J : JobAt A H2' (aj j) r.job (r.at_.getD []) := by
          refine JobAt.same ?_ s2
          rw [← hHl]
          exact (Y.js j r er).lock y3
        obtain ⟨d, wl, pl, h1, h2, h3⟩ := id J
        have es : S4 (onJ a i) (jk.take (n + 1)) = (S4 (onJ a i) (jk.take n)).plus (onJ a i j) := by
          rw [← take_snoc hjn, S4_append]
          rfl
        have hfit := taken_some Y.wf Y.jc em (n + 1)
        rw [es] at hfit
        have hon : onJ a i j = r.job.wants.times (Kp178.on (r.at_.getD []) i) := onJ_is er
        refine ⟨_, rfl, _, rfl, _, rfl, aj j, _, d, _, _, rfl, h1, T.cl_Job, T.na_Job_places, lookup_zip (i := 7) nd_Job rfl rfl, .inl ⟨rfl, _, SqL.of h3⟩, _, rfl, pl, (r.at_.getD []).map (fun (n : Nat) => (n : Int)), (i : Int), rfl, rfl, SqL.of (by rw [h3, List.map_map]; rfl), ?_⟩
        rw [count_vi]
        refine ⟨rl, aj j, _, r.job, _, Kp178.on (r.at_.getD []) i, rfl, hrl, J, by rw [← hon]; exact le4_less hfit, ?_, fun l H3 s3 hl3 => ?_⟩
        · refine Nat.le_trans (on_le _ _) ?_
          cases ea : r.at_ with
          | none => exact Nat.zero_le _
          | some p =>
            have hp := (Y.wf.pl j r p er ea).1
            obtain ⟨_, _, _, gc2, _⟩ := good_wants (Y.wf.gj j r er)
            show p.length ≤ 1000
            omega
        · refine ⟨_, l, rfl, s2.trans s3, ?_⟩
          rw [hl3, es, ← less_plus, hon]
      · rintro σ H2 ⟨v3, rl, rfl, s2, hrl⟩
        rw [List.take_length, taken_all Y.jc] at hrl
        rw [← hHl] at s2
        obtain ⟨u1, u2⟩ := same_unlock y3 s2
        refine ⟨u1, ?_⟩
        have hrl' : (upd H2 jd (.dK (dct jk aj))) rl = some (.lst (L4 (m.has.less (Kp179.takenBut a [] i)))) := by
          rw [upd_ne (fun z => by rw [z, u1] at hrl; cases hrl)]
          exact hrl
        refine ⟨by show 1 ≤ sizeLine; decide, fun e1 fe1 => ?_⟩
        have se := same_new (o := .lst [V.int 3]) fe1
        refine ⟨_, rfl, e1, rl, _, _, rfl, rfl, upd_same, se _ _ hrl', by show 1 + 4 ≤ sizeLine; decide, fun lp flp => ?_⟩
        have sp := same_new (o := .lst ([V.int 3] ++ L4 (m.has.less (Kp179.takenBut a [] i)))) flp
        exact k lp _ ⟨mk, jk, am, aj, Y.same (u2.trans (se.trans sp))⟩ (Same.keep (u2.trans (se.trans sp))) (by rw [upd_same]; rfl)
    · rw [val_dct_none c]
      have e : act a (.free i) = (a, .num (-2)) := by
        rw [act_free, not_some fun z => c ((Y.mm i).mpr z)]
      rw [e] at k
      refine iteT ⟨by show 2 ≤ sizeLine; decide, fun lp flp => ?_⟩
      have sp := same_new (o := .lst [V.int 0, V.int (-2)]) flp
      exact k lp _ ⟨mk, jk, am, aj, Y.same sp⟩ (Same.keep sp) upd_same
theorem ok_Yard_jo_down (T : Txt K mg A) : FnOk P w K mg base CX0 2 A.f_Yard_jo_down A.fd_Yard_jo_down ["self", "i"] (spDown A) := by
  have G_Job_has_copy_on := ok_Job_has_copy_on (P := P) (w := w) (base := base) T
  have G_Job_wait := ok_Job_wait (P := P) (w := w) (base := base) T
  refine T.F_Yard_jo_down.ok sc_Yard_jo_down (fun vs H Q E h => ?_) (fun cdv Ar outer s H vs Q E hr h => ?_)
  · obtain ⟨y, a, i, rfl, _⟩ := h
    rfl
  · obtain ⟨y, a, i, rfl, ⟨mk, jk, am, aj, Y⟩, k⟩ := h
    obtain ⟨dy, md, jd, y1, y2, y3, y4⟩ := Y.ob
    have hu := hu_of hr
    unfold numPost at k
    refine ⟨_, (pss_cons (ps_if (pt_cmp (pc_dnotin hu (pv 1) (pe_fld (pv 0) rfl)))
        (pss_one (ps_ret (pe_glob rfl T.g_NOT_THERE T.r_NOT_THERE)))
        pss_nil)
      (pss_cons (ps_lock (ps_setLc (g := (gName 3)) (i := 2) rfl sc_Yard_jo_down.nd rfl rfl (sw_true rfl rfl rfl (by decide +kernel)) (pi_values (pe_fld (pv 0) rfl)) (blkOk_by (own := [("job", 3)]) (by rfl)) (fun _ _ _ _ _ => (pg_name (i := 3) sc_Yard_jo_down.nd rfl (Or.inl rfl) (.inr rfl))) (fun _ _ _ _ _ => (pts_one (pt_val (pe_meth (pv 3) T.cl_Job T.m_Job_has_copy_on G_Job_has_copy_on (hr.mono (by decide)) T.b_Job_has_copy_on .nil pass0 (pa_cons (pv 1) pa_nil))))) (fun _ _ _ _ _ => (pv 3))))
      (pss_cons (ps_for PassesOwn.never rfl (pi_list (pv 2)) (pg_name (i := 3) sc_Yard_jo_down.nd rfl (Or.inl rfl))
        (pss_one (ps_expr (pe_meth0 (pv 3) T.cl_Job T.m_Job_wait G_Job_wait (hr.mono (by decide)) T.b_Job_wait .nil pass0))))
      (pss_cons (ps_expr (pe_dpop1 (pe_fld (pv 0) rfl) (pv 1) ⟨rfl, rfl, rfl, rfl⟩))
      (pss_one (ps_ret (pe_callB call_len_seq (by rfl) T.n_len PySem.boot_len (pa_cons (pv 2) pa_nil)))))))), ?_⟩
    refine ⟨_, rfl, _, rfl, y, _, dy, _, _, rfl, y1, T.cl_Yard, T.na_Yard_machines, lookup_zip (i := 0) nd_Yard rfl rfl, md, _, rfl, .inl ⟨_, Sum.inl (i : Int), .inl y2, rfl, rfl⟩, _, rfl, ?_⟩
    by_cases c : i ∈ mk
    · rw [val_dct c]
      refine iteF ?_
      obtain ⟨m, em⟩ := Option.isSome_iff_exists.mp ((Y.mm i).mp c)
      generalize hS : jk.filter (hasOn a i) = S
      have memS : ∀ j, j ∈ S ↔ j ∈ jk ∧ hasOn a i j = true := fun j => by
        rw [← hS]
        exact List.mem_filter
      have eout : Kp179.out a ((there a.jobs).filter (hasOn a i)) = Kp179.out a S := out_congr fun j => by
        rw [memS, List.mem_filter, mem_there_jobs, Y.jc.mem]
      have e : act a (.down i) = ({ Kp179.out a S with machines := a.machines.set i none }, .num (S.length : Nat)) := by
        rw [act_down, em]
        dsimp only
        rw [eout, ← hS, (Y.jc.perm.filter (hasOn a i)).length_eq]
      rw [e] at k
      -- stopped = [..]
      refine ⟨jd, _, y3, trivial, fun od => ?_⟩
      refine ⟨_, rfl, y, _, dy, _, _, rfl, lock_ne y3 y1 (fun z => nomatch z), T.cl_Yard, T.na_Yard_jobs, lookup_zip (i := 1) nd_Yard rfl rfl, jd, od, _, rfl, upd_same, fun D hD => ?_⟩
      refine lc_vals (F := fun n => ((jk.take n).filter (hasOn a i)).map fun j => V.ref (aj j)) upd_same hD rfl (fun _ => rfl) (fun n j H2 s2 hD2 hj => ?_) (fun H2 s2 hD2 => ?_)
      · obtain ⟨rr, er⟩ := some_of Y.jc (List.mem_of_getElem? hj)
        have J := ((Y.js j rr er).lock (od := od) y3).same s2
        obtain ⟨d, wl, pl, h1, h2, h3⟩ := id J
        refine ⟨_, rfl, aj j, d, _, rfl, h1, lookup_zip_none (by decide +kernel), _, rfl, aj j, _, _, i, rfl, J, _, rfl, ?_⟩
        rw [← hasOn_is er]
        by_cases c2 : hasOn a i j = true
        · rw [c2]
          refine iteT ⟨_, rfl, _, hD2, small_len (n := 128) (by rw [List.length_map]; have := filt_small (p := hasOn a i) (k := n) (jk_len Y.wf Y.jc); rw [List.length_map] at this; exact this) (by decide), same_at s2 hD, ?_⟩
          rw [upd_same, filt_snoc hj, if_pos c2, List.map_append]
          rfl
        · rw [Bool.eq_false_iff.mpr c2]
          refine iteF ⟨s2, ?_⟩
          rw [hD2, filt_snoc hj, if_neg c2, List.append_nil]
      · obtain ⟨u1, u2⟩ := same_unlock y3 s2
        refine ⟨u1, ?_⟩
        rw [List.take_length, hS] at hD2
        have hD3 : (upd H2 jd (.dK (dct jk aj))) D = some (.lst (S.map fun j => V.ref (aj j))) := by
          rw [upd_ne (fun z => by rw [z, u1] at hD2; cases hD2)]
          exact hD2
        generalize upd H2 jd (.dK (dct jk aj)) = H3 at u2 hD3 ⊢
        -- for job in stopped: job.wait()
        refine ⟨_, rfl, D, rfl, ⟨_, SqL.of hD3⟩, for_list (K := K) (a := D) (xs := S.map fun j => V.ref (aj j)) (fun n σ H4 => ∃ (v3 : Option V), σ = [some (.ref y), some (vi i), some (.ref D), v3] ∧ KeepI H3 H4 ∧ YardAt A H4 y (Kp179.out a (S.take n)) mk jk am aj) ?_ ?_ ?_ ?_⟩
        · exact ⟨none, rfl, KeepI.refl _, Y.same u2⟩
        · rintro n σ H4 _ ⟨v3, rfl, kp, _⟩
          exact SqL.of (kp.lst hD3)
        · rintro n x σ H4 hn ⟨v3, rfl, kp, Y4⟩
          obtain ⟨j', hj', rfl⟩ : ∃ j', S[n]? = some j' ∧ x = V.ref (aj j') := by
            rw [List.getElem?_map] at hn
            cases ez : S[n]? with
            | none =>
              rw [ez] at hn
              cases hn
            | some j' =>
              rw [ez] at hn
              exact ⟨j', rfl, (Option.some.inj hn).symm⟩
          have hjm := ((memS j').mp (List.mem_of_getElem? hj')).1
          obtain ⟨r', er'⟩ := some_of Y4.jc hjm
          obtain ⟨d', wl', pl', g1, g2, g3⟩ := Y4.js j' r' er'
          refine ⟨_, rfl, aj j', d', _, rfl, g1, lookup_zip_none (by decide +kernel), aj j', d', wl', pl', r'.job, rfl, g1, fun l hl => ?_⟩
          have sn := same_new (o := .lst []) hl
          refine ⟨_, rfl, kp.trans ((Same.keepI sn).trans (keepI_ins (sn _ _ g1))), ?_⟩
          rw [← take_snoc hj', out_snoc]
          refine Y4.put sn er' (sn _ _ g1) (sn _ _ g2) (ps := []) upd_same ?_ (fun i => rfl) (Y4.jc.change j' none) (fun k hk => by rw [job_change, if_neg hk]) ⟨{ r' with at_ := none }, by rw [job_change, if_pos rfl, er']; rfl, rfl, rfl⟩
          rw [← out_snoc]
          exact wf_out Y.wf _
        · rintro σ H4 ⟨v3, rfl, kp, Y4⟩
          rw [List.length_map, List.take_length] at Y4
          obtain ⟨dy4, md4, jd4, z1, z2, z3, z4⟩ := Y4.ob
          -- self.machines.pop(i)
          refine ⟨_, rfl, y, _, dy4, _, _, rfl, z1, T.cl_Yard, T.na_Yard_machines, lookup_zip (i := 0) nd_Yard rfl rfl, md4, rfl, .inl ⟨_, .inl z2⟩, _, rfl, _, Sum.inl (i : Int), _, z2, rfl, val_dct c, ?_⟩
          rw [drop_dct]
          -- return len(stopped)
          refine ⟨_, rfl, D, _, rfl, .inl (SqL.of (dk_ne z2 (kp.lst hD3) (fun _ z => nomatch z))), ?_⟩
          rw [List.length_map]
          have il : i < a.machines.length := by
            rw [Y.wf.ml]
            exact Y.wf.mlt (by rw [em]; rfl)
          have ms : ∀ k, machine { Kp179.out a S with machines := a.machines.set i none } k = if k = i then none else machine a k := fun k => machine_set (js := (Kp179.out a S).jobs) il k
          have wfd := wf_down Y.wf em
          rw [eout] at wfd
          refine k _ _ rfl ⟨mk.filter fun k => decide (k ≠ i), jk, am, aj, wfd, fun k' => ?_, List.Pairwise.filter _ Y.mn, ⟨Y4.jc.mem, Y4.jc.srt⟩, ⟨dy4, md4, jd4, dk_ne z2 z1 (fun _ z => nomatch z), upd_same, by rw [upd_ne z4.symm]; exact z3, z4⟩, fun k' m' e' => ?_, fun j r e' => (Y4.js j r e').dk z2, Y4.inj⟩
            ((Same.keep u2).trans (kp.keep.trans (keep_dk z2)))
          · rw [ms, List.mem_filter, decide_eq_true_eq]
            by_cases hk : k' = i
            · rw [if_pos hk]
              simp [hk]
            · rw [if_neg hk, ← Y.mm]
              simp [hk]
          · rw [ms] at e'
            by_cases hk : k' = i
            · rw [if_pos hk] at e'
              cases e'
            · rw [if_neg hk] at e'
              refine (Y4.ms k' m' ?_).dk z2
              rw [out_machine]
              exact e'
    · rw [val_dct_none c]
      refine iteT ?_
      have e : act a (.down i) = (a, .num (-2)) := by
        rw [act_down, not_some fun z => c ((Y.mm i).mpr z)]
      rw [e] at k
      exact k _ H rfl ⟨mk, jk, am, aj, Y⟩ (Keep.refl H)
end
end Jo
end
section
set_option Elab.async false
set_option linter.all false
set_option maxRecDepth 100000
namespace Jo
open PySem L2
open Kp179 (Abs job machine there runs waits rankOf lesser canHave plan change act waiting)
open Kp178 (Four Machine Job goodMachine goodJob)
inductive Enc : Nat → List Nat → Kp179.Call → Prop
  | start : Enc 0 [] .start
  | machine (i : Nat) (m : Machine) : Enc 1 (i :: mnums m) (.machine i m)
  | down (i : Nat) : Enc 2 [i] (.down i)
  | job (j : Nat) (q : Job) : Enc 3 (j :: jnums q) (.job j q)
  | end_ (j : Nat) : Enc 4 [j] (.end_ j)
  | turn : Enc 5 [] .turn
  | where_ (j : Nat) : Enc 6 [j] (.where_ j)
  | free (i : Nat) : Enc 7 [i] (.free i)
def isNum : Kp179.Call → Prop
  | .turn => False
  | .where_ _ => False
  | .free _ => False
  | _ => True
abbrev nbk : List (Int × Int) := [(0, 0), (1, 8), (2, 1), (3, 11), (4, 1), (5, 0), (6, 1), (7, 1)]
theorem head_enc {l t : List Int} {x : Kp179.Call} (h : Head l x t) : ∃ (code : Nat) (ns : List Nat), l = (code : Int) :: (ns.map (fun (n : Nat) => (n : Int)) ++ t) ∧ Enc code ns x ∧
    (valV (nbk.map fun p => ((Sum.inl p.1 : Key), V.int p.2)) (Sum.inl (code : Int))).getD (V.int 0) = V.int (ns.length : Nat) ∧ ns.length ≤ 11 := by
  cases h with
  | start r => exact ⟨0, [], rfl, .start, rfl, by decide⟩
  | machine i a b c d l z n r => exact ⟨1, _, rfl, .machine i ⟨⟨a, b, c, d⟩, l, z, n⟩, rfl, by show 8 ≤ 11; decide⟩
  | down i r => exact ⟨2, _, rfl, .down i, rfl, by show 1 ≤ 11; decide⟩
  | job j a b c d ne nv co ap sp rk r => exact ⟨3, _, rfl, .job j ⟨⟨a, b, c, d⟩, ne, nv, co, ap, sp, rk⟩, rfl, by show 11 ≤ 11; decide⟩
  | end_ j r => exact ⟨4, _, rfl, .end_ j, rfl, by show 1 ≤ 11; decide⟩
  | turn r => exact ⟨5, [], rfl, .turn, rfl, by decide⟩
  | where_ j r => exact ⟨6, _, rfl, .where_ j, rfl, by show 1 ≤ 11; decide⟩
  | free i r => exact ⟨7, _, rfl, .free i, rfl, by show 1 ≤ 11; decide⟩
theorem numPost.same {A : Adr} {H H' : Hp} {Q : VK} {y : Addr} {a : Abs} {c : Kp179.Call} (h : numPost A H Q y a c) (s : Same H H') : numPost A H' Q y a c := fun v H'' e Y k => h v H'' e Y ((Same.keep s).trans k)
def spAnsNum (K : PySem.W.Frag) (A : Adr) : Sp := fun vs H Q _ => ∃ (y l : Addr) (a : Abs) (c : Kp179.Call) (code : Nat) (ns : List Nat), vs = [.ref y, vi code, .ref l] ∧ YardIs A H y a ∧ SqL K H l (ns.map vi) ∧ Enc code ns c ∧ isNum c ∧ numPost A H Q y a c
def spAnswer (K : PySem.W.Frag) (A : Adr) : Sp := fun vs H Q _ => ∃ (y l : Addr) (a : Abs) (c : Kp179.Call) (code : Nat) (ns : List Nat), vs = [.ref y, vi code, .ref l] ∧ YardIs A H y a ∧ SqL K H l (ns.map vi) ∧ Enc code ns c ∧ lstPost A H Q y a c
section
variable {P : Program} {w : World} {K : PySem.W.Frag} {mg : Str → Option Value} {base : Heap} {A : Adr}
theorem ok_answered_number (T : Txt K mg A) : FnOk P w K mg base CX0 5 A.f_answered_number A.fd_answered_number ["yard", "call", "numbers"] (spAnsNum K A) := by
  have G_Yard_jo_start := ok_Yard_jo_start (P := P) (w := w) (base := base) T
  have G_Yard_jo_machine := ok_Yard_jo_machine (P := P) (w := w) (base := base) T
  have G_Yard_jo_down := ok_Yard_jo_down (P := P) (w := w) (base := base) T
  have G_Yard_jo_job := ok_Yard_jo_job (P := P) (w := w) (base := base) T
  have G_Yard_jo_end := ok_Yard_jo_end (P := P) (w := w) (base := base) T
  have G_Machine_init := ok_Machine_init (P := P) (w := w) (base := base) T
  have G_Job_init := ok_Job_init (P := P) (w := w) (base := base) T
  refine T.F_answered_number.ok sc_answered_number (fun vs H Q E h => ?_) (fun cdv Ar outer s H vs Q E hr h => ?_)
  · obtain ⟨y, l, a, c, code, ns, rfl, _⟩ := h
    rfl
  · obtain ⟨y, l, a, c, code, ns, rfl, hY, hS, hE, hN, k⟩ := h
    obtain ⟨mk, jk, am, aj, Y⟩ := id hY
    obtain ⟨dy, md, jd, y1, y2, y3, y4⟩ := Y.ob
    refine ⟨_, (pss_cons (ps_if (pt_cmpR op_eq (pv 1) (pe_glob rfl T.g_JO_START T.r_JO_START) (nomark _))
        (pss_one (ps_ret (pe_meth0 (pv 0) T.cl_Yard T.m_Yard_jo_start G_Yard_jo_start (hr.mono (by decide)) T.b_Yard_jo_start .nil pass0)))
        pss_nil)
      (pss_cons (ps_if (pt_cmpR op_eq (pv 1) (pe_glob rfl T.g_JO_MACHINE T.r_JO_MACHINE) (nomark _))
        (pss_one (ps_ret (pe_meth (pv 0) T.cl_Yard T.m_Yard_jo_machine G_Yard_jo_machine (hr.mono (by decide)) T.b_Yard_jo_machine .nil pass0 (pa_cons (pe_ix ix_list (pv 2) pe_int (fun _ _ => rfl)) (pa_cons (pe_make T.mk_Machine G_Machine_init (hr.mono (by decide)) rfl T.mg_Machine T.b_Machine_init .nil pass0 (pa_cons (pe_slice sl_list (pv 2) (po_some pe_int) po_none) pa_nil)) pa_nil)))))
        pss_nil)
      (pss_cons (ps_if (pt_cmpR op_eq (pv 1) (pe_glob rfl T.g_JO_DOWN T.r_JO_DOWN) (nomark _))
        (pss_one (ps_ret (pe_meth (pv 0) T.cl_Yard T.m_Yard_jo_down G_Yard_jo_down (hr.mono (by decide)) T.b_Yard_jo_down .nil pass0 (pa_cons (pe_ix ix_list (pv 2) pe_int (fun _ _ => rfl)) pa_nil))))
        pss_nil)
      (pss_cons (ps_if (pt_cmpR op_eq (pv 1) (pe_glob rfl T.g_JO_JOB T.r_JO_JOB) (nomark _))
        (pss_one (ps_ret (pe_meth (pv 0) T.cl_Yard T.m_Yard_jo_job G_Yard_jo_job (hr.mono (by decide)) T.b_Yard_jo_job .nil pass0 (pa_cons (pe_ix ix_list (pv 2) pe_int (fun _ _ => rfl)) (pa_cons (pe_make T.mk_Job G_Job_init (hr.mono (by decide)) rfl T.mg_Job T.b_Job_init .nil pass0 (pa_cons (pe_slice sl_list (pv 2) (po_some pe_int) po_none) pa_nil)) pa_nil)))))
        pss_nil)
      (pss_cons (ps_if (pt_cmpR op_eq (pv 1) (pe_glob rfl T.g_JO_END T.r_JO_END) (nomark _))
        (pss_one (ps_ret (pe_meth (pv 0) T.cl_Yard T.m_Yard_jo_end G_Yard_jo_end (hr.mono (by decide)) T.b_Yard_jo_end .nil pass0 (pa_cons (pe_ix ix_list (pv 2) pe_int (fun _ _ => rfl)) pa_nil))))
        pss_nil)
      (pss_one ps_never)))))), ?_⟩
    refine ⟨_, rfl, rfl, _, rfl, ?_⟩
    cases hE with
    | start =>
      refine iteT ⟨_, rfl, y, dy, _, rfl, y1, lookup_zip_none (by decide +kernel), y, a, rfl, hY, k⟩
    | machine i m =>
      refine iteF ⟨_, rfl, rfl, _, rfl, iteT ?_⟩
      refine ⟨_, rfl, y, dy, _, rfl, y1, lookup_zip_none (by decide +kernel), _, rfl, l, _, _, _, rfl, rfl, hS, at_of (j := 0) rfl rfl, _, rfl, _, rfl, l, _, rfl, hS, fun p fp' => ?_⟩
      intro x dx fx fdx ne
      have s1 := same_new (o := .lst (cutV ((i :: mnums m).map vi) (some 1) none)) fp'
      refine ⟨x, dx, p, m, rfl, upd_same, SqL.of ?_, fun H' hM hb => ⟨rfl, ?_⟩⟩
      · rw [upd_ne (fun z => by rw [← z, upd_same] at fx; cases fx), upd_ne (fun z => by rw [← z, upd_same] at fdx; cases fdx), upd_same]
        rfl
      · have s2 : Same H H' := s1.trans (Same.made fx fdx hb)
        exact ⟨y, x, a, i, m, rfl, ⟨mk, jk, am, aj, Y.same s2⟩, hM, k.same s2⟩
    | down i =>
      refine iteF ⟨_, rfl, rfl, _, rfl, iteF ⟨_, rfl, rfl, _, rfl, iteT ?_⟩⟩
      exact ⟨_, rfl, y, dy, _, rfl, y1, lookup_zip_none (by decide +kernel), _, rfl, l, _, _, _, rfl, rfl, hS, at_of (j := 0) rfl rfl, y, a, i, rfl, hY, k⟩
    | job j q =>
      refine iteF ⟨_, rfl, rfl, _, rfl, iteF ⟨_, rfl, rfl, _, rfl, iteF ⟨_, rfl, rfl, _, rfl, iteT ?_⟩⟩⟩
      refine ⟨_, rfl, y, dy, _, rfl, y1, lookup_zip_none (by decide +kernel), _, rfl, l, _, _, _, rfl, rfl, hS, at_of (j := 0) rfl rfl, _, rfl, _, rfl, l, _, rfl, hS, fun p fp' => ?_⟩
      intro x dx fx fdx ne
      have s1 := same_new (o := .lst (cutV ((j :: jnums q).map vi) (some 1) none)) fp'
      refine ⟨x, dx, p, q, rfl, upd_same, SqL.of ?_, fun H' hM hb => ⟨rfl, ?_⟩⟩
      · rw [upd_ne (fun z => by rw [← z, upd_same] at fx; cases fx), upd_ne (fun z => by rw [← z, upd_same] at fdx; cases fdx), upd_same]
        rfl
      · have s2 : Same H H' := s1.trans (Same.made fx fdx hb)
        refine ⟨y, x, a, mk, jk, am, aj, j, q, rfl, Y.same s2, hM, fun k' hk => ?_, k.same s2⟩
        obtain ⟨r, er⟩ := some_of Y.jc hk
        obtain ⟨d, wl, pl, h1, _, _⟩ := Y.js k' r er
        exact ne_of_none (s1 _ _ h1) fx
    | end_ j =>
      refine iteF ⟨_, rfl, rfl, _, rfl, iteF ⟨_, rfl, rfl, _, rfl, iteF ⟨_, rfl, rfl, _, rfl, iteF ⟨_, rfl, rfl, _, rfl, iteT ?_⟩⟩⟩⟩
      exact ⟨_, rfl, y, dy, _, rfl, y1, lookup_zip_none (by decide +kernel), _, rfl, l, _, _, _, rfl, rfl, hS, at_of (j := 0) rfl rfl, y, a, j, rfl, hY, k⟩
    | turn => exact hN.elim
    | where_ j => exact hN.elim
    | free i => exact hN.elim
theorem act_num {a : Abs} {c : Kp179.Call} (h : isNum c) : ∃ v, (act a c).2 = .num v := by
  cases c with
  | start => exact ⟨_, rfl⟩
  | machine i m =>
    rw [act_machine]
    split
    · exact ⟨_, rfl⟩
    · split
      · exact ⟨_, rfl⟩
      · split
        · exact ⟨_, rfl⟩
        · exact ⟨_, rfl⟩
  | down i =>
    rw [act_down]
    split
    · exact ⟨_, rfl⟩
    · exact ⟨_, rfl⟩
  | job j q =>
    rw [act_job]
    split
    · exact ⟨_, rfl⟩
    · split
      · exact ⟨_, rfl⟩
      · split
        · exact ⟨_, rfl⟩
        · exact ⟨_, rfl⟩
  | end_ j =>
    rw [act_end]
    split
    · exact ⟨_, rfl⟩
    · exact ⟨_, rfl⟩
  | turn => exact h.elim
  | where_ j => exact h.elim
  | free i => exact h.elim
theorem ok_answer_to (T : Txt K mg A) : FnOk P w K mg base CX0 6 A.f_answer_to A.fd_answer_to ["yard", "call", "numbers"] (spAnswer K A) := by
  have G_Yard_jo_turn := ok_Yard_jo_turn (P := P) (w := w) (base := base) T
  have G_Yard_jo_where := ok_Yard_jo_where (P := P) (w := w) (base := base) T
  have G_Yard_jo_free := ok_Yard_jo_free (P := P) (w := w) (base := base) T
  have G_answered_number := ok_answered_number (P := P) (w := w) (base := base) T
  refine T.F_answer_to.ok sc_answer_to (fun vs H Q E h => ?_) (fun cdv Ar outer s H vs Q E hr h => ?_)
  · obtain ⟨y, l, a, c, code, ns, rfl, _⟩ := h
    rfl
  · obtain ⟨y, l, a, c, code, ns, rfl, hY, hS, hE, k⟩ := h
    obtain ⟨mk, jk, am, aj, Y⟩ := id hY
    obtain ⟨dy, md, jd, y1, y2, y3, y4⟩ := Y.ob
    refine ⟨_, (pss_cons (ps_if (pt_cmpR op_eq (pv 1) (pe_glob rfl T.g_JO_TURN T.r_JO_TURN) (nomark _))
        (pss_one (ps_ret (pe_meth0 (pv 0) T.cl_Yard T.m_Yard_jo_turn G_Yard_jo_turn (hr.mono (by decide)) T.b_Yard_jo_turn .nil pass0)))
        pss_nil)
      (pss_cons (ps_if (pt_cmpR op_eq (pv 1) (pe_glob rfl T.g_JO_WHERE T.r_JO_WHERE) (nomark _))
        (pss_one (ps_ret (pe_meth (pv 0) T.cl_Yard T.m_Yard_jo_where G_Yard_jo_where (hr.mono (by decide)) T.b_Yard_jo_where .nil pass0 (pa_cons (pe_ix ix_list (pv 2) pe_int (fun _ _ => rfl)) pa_nil))))
        pss_nil)
      (pss_cons (ps_if (pt_cmpR op_eq (pv 1) (pe_glob rfl T.g_JO_FREE T.r_JO_FREE) (nomark _))
        (pss_one (ps_ret (pe_meth (pv 0) T.cl_Yard T.m_Yard_jo_free G_Yard_jo_free (hr.mono (by decide)) T.b_Yard_jo_free .nil pass0 (pa_cons (pe_ix ix_list (pv 2) pe_int (fun _ _ => rfl)) pa_nil))))
        pss_nil)
      (pss_one (ps_ret (pe_lst (pa_cons (pe_glob rfl T.g_FORM_OF_A_NUMBER T.r_FORM_OF_A_NUMBER) (pa_cons (pe_call G_answered_number (hr.mono (by decide)) rfl T.mg_answered_number T.F_answered_number.kp T.b_answered_number .nil pass0 (pa_cons (pv 0) (pa_cons (pv 1) (pa_cons (pv 2) pa_nil)))) pa_nil)))))))), ?_⟩
    have num : isNum c → spAnsNum K A [.ref y, vi code, .ref l] H (fun v H1 => [V.int 0, v].length ≤ sizeLine ∧ ∀ p, H1 p = none → Q (.ref p) (upd H1 p (.lst [V.int 0, v]))) E0 := fun hN => by
      refine ⟨y, l, a, c, code, ns, rfl, hY, hS, hE, hN, fun v H' e Y' kp => ⟨by show 2 ≤ sizeLine; decide, fun p fp' => ?_⟩⟩
      have s1 := same_new (o := .lst [V.int 0, V.int v]) fp'
      obtain ⟨mk', jk', am', aj', Y'⟩ := Y'
      refine k p _ ⟨mk', jk', am', aj', Y'.same s1⟩ (kp.trans (Same.keep s1)) ?_
      rw [upd_same, e]
      rfl
    refine ⟨_, rfl, rfl, _, rfl, ?_⟩
    cases hE with
    | start => exact iteF ⟨_, rfl, rfl, _, rfl, iteF ⟨_, rfl, rfl, _, rfl, iteF ⟨_, rfl, _, rfl, _, rfl, num trivial⟩⟩⟩
    | machine i m => exact iteF ⟨_, rfl, rfl, _, rfl, iteF ⟨_, rfl, rfl, _, rfl, iteF ⟨_, rfl, _, rfl, _, rfl, num trivial⟩⟩⟩
    | down i => exact iteF ⟨_, rfl, rfl, _, rfl, iteF ⟨_, rfl, rfl, _, rfl, iteF ⟨_, rfl, _, rfl, _, rfl, num trivial⟩⟩⟩
    | job j q => exact iteF ⟨_, rfl, rfl, _, rfl, iteF ⟨_, rfl, rfl, _, rfl, iteF ⟨_, rfl, _, rfl, _, rfl, num trivial⟩⟩⟩
    | end_ j => exact iteF ⟨_, rfl, rfl, _, rfl, iteF ⟨_, rfl, rfl, _, rfl, iteF ⟨_, rfl, _, rfl, _, rfl, num trivial⟩⟩⟩
    | turn => exact iteT ⟨_, rfl, y, dy, _, rfl, y1, lookup_zip_none (by decide +kernel), y, a, rfl, hY, k⟩
    | where_ j => exact iteF ⟨_, rfl, rfl, _, rfl, iteT ⟨_, rfl, y, dy, _, rfl, y1, lookup_zip_none (by decide +kernel), _, rfl, l, _, _, _, rfl, rfl, hS, at_of (j := 0) rfl rfl, y, a, j, rfl, hY, k⟩⟩
    | free i => exact iteF ⟨_, rfl, rfl, _, rfl, iteF ⟨_, rfl, rfl, _, rfl, iteT ⟨_, rfl, y, dy, _, rfl, y1, lookup_zip_none (by decide +kernel), _, rfl, l, _, _, _, rfl, rfl, hS, at_of (j := 0) rfl rfl, y, a, i, rfl, hY, k⟩⟩⟩
end
end Jo
end
section
set_option Elab.async false
set_option linter.all false
set_option maxRecDepth 100000
namespace Jo
open PySem L2
open Kp179 (Abs job machine there runs waits rankOf lesser canHave plan change act waiting)
open Kp178 (Four Machine Job goodMachine goodJob)
theorem YardAt.move {A : Adr} {H H' : Hp} {y : Addr} {a : Abs} {mk jk : List Nat} {am aj : Nat → Addr} (Y : YardAt A H y a mk jk am aj) (h1 : ∀ b C d f, H b = some (.ins C d f) → H' b = some (.ins C d f)) (h2 : ∀ b xs, H b = some (.lst xs) → H' b = some (.lst xs)) (h3 : ∀ b k, H b = some (.dK k) → H' b = some (.dK k)) :
    YardAt A H' y a mk jk am aj := by
  obtain ⟨dy, md, jd, y1, y2, y3, y4⟩ := Y.ob
  refine ⟨Y.wf, Y.mm, Y.mn, Y.jc, ⟨dy, md, jd, h1 _ _ _ _ y1, h3 _ _ y2, h3 _ _ y3, y4⟩, fun i m e => ?_, fun j r e => ?_, Y.inj⟩
  · obtain ⟨d, hl, g1, g2⟩ := Y.ms i m e
    exact ⟨d, hl, h1 _ _ _ _ g1, h2 _ _ g2⟩
  · obtain ⟨d, wl, pl, g1, g2, g3⟩ := Y.js j r e
    exact ⟨d, wl, pl, h1 _ _ _ _ g1, h2 _ _ g2, h2 _ _ g3⟩
theorem YardIs.unmask {A : Adr} {H : Hp} {x y : Addr} {a : Abs} (h : YardIs A (msk x H) y a) : YardIs A H y a := by
  obtain ⟨mk, jk, am, aj, Y⟩ := h
  exact ⟨mk, jk, am, aj, Y.move (fun b C d f e => (msk_ne e fun z => nomatch z).2) (fun b xs e => (msk_ne e fun z => nomatch z).2) (fun b k e => (msk_ne e fun z => nomatch z).2)⟩
theorem YardIs.mask {A : Adr} {H : Hp} {x y : Addr} {a : Abs} {o : Obj} {u : HO} (h : YardIs A H y a) (hx : H x = some (.frz o u)) : YardIs A (msk x H) y a := by
  obtain ⟨mk, jk, am, aj, Y⟩ := h
  exact ⟨mk, jk, am, aj, Y.move (fun b C d f e => msk_of e fun z => by rw [z, hx] at e; cases e) (fun b xs e => msk_of e fun z => by rw [z, hx] at e; cases e) (fun b k e => msk_of e fun z => by rw [z, hx] at e; cases e)⟩
theorem YardIs.same {A : Adr} {H H' : Hp} {y : Addr} {a : Abs} (h : YardIs A H y a) (s : Same H H') : YardIs A H' y a := by
  obtain ⟨mk, jk, am, aj, Y⟩ := h
  exact ⟨mk, jk, am, aj, Y.same s⟩
theorem sq_move {K : PySem.W.Frag} {H H' : Hp} {x c : Addr} {xs : List V} (h : SqL K (msk x H) c xs) (kp : ∀ b o, b ≠ x → H b = some o → (∀ C d f, o ≠ .ins C d f) → (∀ k, o ≠ .dK k) → H' b = some o) : SqL K (msk x H') c xs := by
  rcases h with (h | ⟨o, h⟩) | h
  · obtain ⟨n, e⟩ := msk_ne h fun z => nomatch z
    exact .inl (.inl (msk_of (kp _ _ n e (fun _ _ _ z => nomatch z) (fun _ z => nomatch z)) n))
  · obtain ⟨n, e⟩ := msk_ne h fun z => nomatch z
    exact .inl (.inr ⟨o, msk_of (kp _ _ n e (fun _ _ _ z => nomatch z) (fun _ z => nomatch z)) n⟩)
  · exact .inr h
theorem sq_unmask {K : PySem.W.Frag} {H : Hp} {x c : Addr} {xs : List V} (h : SqL K (msk x H) c xs) : SqL K H c xs := by
  rcases h with (h | ⟨o, h⟩) | h
  · exact .inl (.inl (msk_ne h fun z => nomatch z).2)
  · exact .inl (.inr ⟨o, (msk_ne h fun z => nomatch z).2⟩)
  · exact .inr h
theorem ans_len {a : Abs} (h : Wf a) (c : Kp179.Call) : (Kp179Neutral.wrKp179_Ans (act a c).2).length ≤ 150 := by
  have num : ∀ v, (Kp179Neutral.wrKp179_Ans (.num v)).length ≤ 150 := fun v => by
    show 2 ≤ 150
    decide
  by_cases hN : isNum c
  · obtain ⟨v, e⟩ := act_num (a := a) hN
    rw [e]
    exact num v
  · cases c with
    | turn =>
      rw [act_turn']
      cases (waiting a).findSome? (firstOf a) with
      | none => exact num _
      | some z =>
        obtain ⟨j, v, p⟩ := z
        show ([1] ++ [(j : Int)] ++ (((((there a.jobs).filter fun k => v.contains k).length : Nat) : Int) :: ((there a.jobs).filter fun k => v.contains k).flatMap Kp179Neutral.wrNat)).length ≤ 150
        rw [flat_nat]
        have h1 : ((there a.jobs).filter fun k => v.contains k).length ≤ (there a.jobs).length := List.length_filter_le _ _
        have h2 : (there a.jobs).length ≤ 128 := by
          unfold there
          refine Nat.le_trans (List.length_filter_le _ _) ?_
          rw [List.length_range, h.jl]
          exact Nat.le_refl _
        simp only [List.length_append, List.length_cons, List.length_nil, List.length_map]
        omega
    | where_ j =>
      rw [act_where]
      cases e : job a j with
      | none => exact num _
      | some r =>
        cases e2 : r.at_ with
        | none =>
          show (Kp179Neutral.wrKp179_Ans (match r.at_ with
            | none => .num (-11)
            | some p => .places p)).length ≤ 150
          rw [e2]
          exact num _
        | some p =>
          show (Kp179Neutral.wrKp179_Ans (match r.at_ with
            | none => .num (-11)
            | some p => .places p)).length ≤ 150
          rw [e2]
          have h1 := (h.pl j r p e e2).1
          obtain ⟨_, _, _, h2, _⟩ := good_wants (h.gj j r e)
          show ([2] ++ ((p.length : Int) :: p.flatMap Kp179Neutral.wrNat)).length ≤ 150
          rw [flat_nat]
          simp only [List.length_append, List.length_cons, List.length_nil, List.length_map]
          omega
    | free i =>
      rw [act_free]
      cases machine a i with
      | none => exact num _
      | some m =>
        show 5 ≤ 150
        decide
    | start => exact absurd trivial hN
    | machine i m => exact absurd trivial hN
    | down i => exact absurd trivial hN
    | job j q => exact absurd trivial hN
    | end_ j => exact absurd trivial hN
theorem cut_at {ns : List Int} {n : Nat} {code : Nat} {args : List Nat} {t : List Int} (h : ns.drop n = (code : Int) :: (args.map (fun (k : Nat) => (k : Int)) ++ t)) : cutV (ns.map V.int) (some ((n : Int) + 1)) (some ((n : Int) + 1 + (args.length : Nat))) = args.map vi := by
  have hlen := congrArg List.length h
  rw [List.length_drop, List.length_cons, List.length_append, List.length_map] at hlen
  unfold cutV
  rw [List.length_map, show ((n : Int) + 1) = ((n + 1 : Nat) : Int) by omega, show (((n + 1 : Nat) : Int) + (args.length : Nat)) = ((n + 1 + args.length : Nat) : Int) by omega, HT.sIx_nat, HT.sIx_nat, Nat.min_eq_left (by omega), Nat.min_eq_left (by omega), ← List.map_drop, ← List.map_take]
  have e1 : ns.drop (n + 1) = args.map (fun (k : Nat) => (k : Int)) ++ t := by
    have : ns.drop (n + 1) = (ns.drop n).drop 1 := by rw [List.drop_drop]
    rw [this, h]
    rfl
  rw [e1, show n + 1 + args.length - (n + 1) = args.length by omega, List.take_append_of_le_length (by rw [List.length_map]; exact Nat.le_refl _), List.take_of_length_le (by rw [List.length_map]; exact Nat.le_refl _), List.map_map]
  rfl
def spAns (K : PySem.W.Frag) : Sp := fun vs H Q _ => ∃ (cl : Addr) (ns : List Int), vs = [.ref cl] ∧ SqL K H cl (ns.map V.int) ∧ ns.length ≤ 16000 ∧ PyKp179.answers_asked ns = true ∧ ∀ (l : Addr) (H' : Hp), H' l = some (.lst ((PyKp179.answers ns).map V.int)) → Q (.ref l) H'
def startOf (ns : List Int) (σ : List (Option V)) : Nat := match σ[3]? with
  | some (some (V.int i)) => ns.length - i.toNat
  | _ => 0
section
variable {P : Program} {w : World} {K : PySem.W.Frag} {mg : Str → Option Value} {base : Heap} {A : Adr}
theorem ok_answers (T : Txt K mg A) : FnOk P w K mg base CX0 7 A.f_answers A.fd_answers ["calls"] (spAns K) := by
  have G_Yard_init := ok_Yard_init (P := P) (w := w) (base := base) T
  have G_answer_to := ok_answer_to (P := P) (w := w) (base := base) T
  refine T.F_answers.ok sc_answers (fun vs H Q E h => ?_) (fun cdv Ar outer s H vs Q E hr h => ?_)
  · obtain ⟨cl, ns, rfl, _⟩ := h
    rfl
  · obtain ⟨cl, ns, rfl, hS, hlen, hask, k⟩ := h
    obtain ⟨_, hrdy, hans⟩ := asked_rdy hask
    refine ⟨_, (pss_cons (ps_set (i := 1) sc_answers.nd rfl (Or.inl rfl) (pe_make0 T.mk_Yard G_Yard_init (hr.mono (by decide)) rfl T.mg_Yard T.b_Yard_init .nil pass0))
      (pss_cons (ps_set (i := 2) sc_answers.nd rfl (Or.inl rfl) (pe_lst pa_nil))
      (pss_cons (ps_set (i := 3) sc_answers.nd rfl (Or.inl rfl) pe_int)
      (pss_cons (ps_while PassesOwn.never (pt_cmpR op_lt (pv 3) (pe_callB call_len_seq (by rfl) T.n_len PySem.boot_len (pa_cons (pv 0) pa_nil)) (nomark _))
        (pss_cons (ps_set (i := 4) sc_answers.nd rfl (Or.inl rfl) (pe_ix ix_list (pv 0) (pv 3) (fun _ _ => rfl)))
        (pss_cons (ps_set (i := 5) sc_answers.nd rfl (Or.inl rfl) (pe_op op_add (pe_op op_add (pv 3) pe_int) (pe_kget2 rfl T.g_NUMBERS_BEHIND T.d_NUMBERS_BEHIND (pv 4) pe_int ⟨rfl, rfl, rfl, rfl⟩)))
        (pss_cons (ps_lock (ps_set (i := 6) sc_answers.nd rfl (Or.inl rfl) (pe_call G_answer_to (hr.mono (by decide)) rfl T.mg_answer_to T.F_answer_to.kp T.b_answer_to .nil pass0 (pa_cons (pv 1) (pa_cons (pv 4) (pa_cons (pe_slice sl_list (pv 0) (po_some (pe_op op_add (pv 3) pe_int)) (po_some (pv 5))) pa_nil))))))
        (pss_cons (ps_expr (pe_bm PySem.F.plainAttrs_list PySem.F.slot_list_append PySem.F.type_list_append mt_append (pv 2) (pa_cons (pe_callB call_len_seq (by rfl) T.n_len PySem.boot_len (pa_cons (pv 6) pa_nil)) pa_nil)))
        (pss_cons (ps_expr (pe_bm PySem.F.plainAttrs_list PySem.F.slot_list_extend PySem.F.type_list_extend mt_extend (pv 2) (pa_cons (pv 6) pa_nil)))
        (pss_one (ps_set (i := 3) sc_answers.nd rfl (Or.inl rfl) (pv 5)))))))))
      (pss_one (ps_ret (pv 2))))))), ?_⟩
    -- yard = Yard()
    intro x dx fx fdx ne
    refine ⟨x, dx, rfl, upd_same, fun H1 hY1 hb => ⟨rfl, ?_⟩⟩
    have s1 : Same H H1 := Same.made fx fdx hb
    -- told = []; start = 0
    refine ⟨Nat.zero_le _, fun tl ftl => ?_⟩
    refine while_by (fun σ H2 => ∃ (n : Nat) (a : Abs) (kk : Nat) (tld : List Int) (v4 v5 v6 : Option V), σ = [some (.ref cl), some (.ref x), some (.ref tl), some (vi n), v4, v5, v6] ∧ H2 tl = some (.lst (tld.map V.int)) ∧ YardIs A (msk tl H2) x a ∧ SqL K (msk tl H2) cl (ns.map V.int) ∧ n ≤ ns.length ∧
      Rdy kk (some a) (ns.drop n) ∧ tld ++ outs (some a) (ns.drop n) = PyKp179.answers ns ∧ tld.length + 200 * kk ≤ 120000) (fun σ _ => startOf ns σ) ?_ ?_ ?_
    · refine ⟨0, Kp179.start, 600, [], none, none, none, rfl, upd_same, ?_, ?_, Nat.zero_le _, hrdy, hans.symm, by decide⟩
      · rw [msk_upd]
        exact hY1.same (same_new ftl)
      · rw [msk_upd]
        exact (same_new ftl).seq (s1.seq hS)
    · rintro σ H2 ⟨n, a, kk, tld, v4, v5, v6, rfl, htl, hY, hC, hn, hR, ho, hz⟩
      refine ⟨_, rfl, _, rfl, cl, _, rfl, .inl (sq_unmask hC), _, _, rfl, rfl, _, rfl, ?_⟩
      rw [List.length_map, gt_nat]
      by_cases hlt : n < ns.length
      · rw [decide_eq_true hlt]
        refine iteT ?_
        obtain ⟨p, r, hd⟩ : ∃ p r, ns.drop n = p :: r := ⟨_, _, List.drop_eq_getElem_cons hlt⟩
        rw [hd] at hR ho
        obtain ⟨c, t, hH, _, hk0, hR', ho'⟩ := head_of hR
        obtain ⟨code, args, el, hE, hnb, _⟩ := head_enc hH
        rw [el] at hd
        have hdl := congrArg List.length hd
        rw [List.length_drop, List.length_cons, List.length_append, List.length_map] at hdl
        have hcode : (ns.map V.int)[n]? = some (vi code) := by
          have : ns[n]? = some (code : Int) := by
            have h0 : (ns.drop n)[0]? = some (code : Int) := by rw [hd]; rfl
            rw [List.getElem?_drop] at h0
            exact h0
          rw [List.getElem?_map, this]
          rfl
        -- call = calls[start]
        refine ⟨_, rfl, _, rfl, cl, _, _, _, rfl, rfl, sq_unmask hC, at_of (j := n) rfl hcode, ?_⟩
        -- end = start + 1 + NUMBERS_BEHIND.get(call, 0)
        refine ⟨_, rfl, _, _, rfl, rfl, _, rfl, (code : Int), rfl, ?_⟩
        rw [hnb]
        refine ⟨_, _, rfl, rfl, ?_⟩
        -- answer = answer_to(yard, call, calls[start + 1:end])
        refine ⟨tl, _, htl, trivial, fun od => ?_⟩
        generalize hHl : upd H2 tl (.frz od (.lst (tld.map V.int))) = Hl
        have htll : Hl tl = some (.frz od (.lst (tld.map V.int))) := by
          rw [← hHl]
          exact upd_same
        have eml : msk tl Hl = msk tl H2 := by
          rw [← hHl, msk_upd]
        rw [← eml] at hY hC
        have hYl := hY.unmask
        have hCl := sq_unmask hC
        refine ⟨_, rfl, _, rfl, _, rfl, _, rfl, _, _, rfl, rfl, _, rfl, _, rfl, _, rfl, cl, _, rfl, hCl, fun pp fpp => ?_⟩
        have sp := same_new (o := .lst (cutV (ns.map V.int) (some ((n : Int) + 1)) (some ((n : Int) + 1 + (args.length : Nat))))) fpp
        refine ⟨x, pp, a, c, code, args, rfl, hYl.same sp, SqL.of ?_, hE, fun l H3 hY3 kp3 hl3 => ?_⟩
        · rw [upd_same]
          exact congrArg some (congrArg HO.lst (cut_at hd))
        have kp : Keep Hl H3 := (Same.keep sp).trans kp3
        have htl3 : H3 tl = some (.frz od (.lst (tld.map V.int))) := kp _ _ htll (fun _ _ _ z => nomatch z) (fun _ z => nomatch z)
        have nl : l ≠ tl := ne_of hl3 htl3 fun z => nomatch z
        refine ⟨htl3, ?_⟩
        have hY4 := hY3.mask htl3
        have hC4 : SqL K (msk tl H3) cl (ns.map V.int) := sq_move hC fun b o _ e n1 n2 => kp b o e n1 n2
        obtain ⟨mk, jk, am, aj, Ya⟩ := hYl
        have hal := ans_len Ya.wf c
        have hlw : (wr (act a c).2).length = (Kp179Neutral.wrKp179_Ans (act a c).2).length := List.length_map _
        -- told.append(len(answer))
        have l4 : (upd H3 tl (.lst (tld.map V.int))) l = some (.lst (wr (act a c).2)) := by
          rw [upd_ne nl]
          exact hl3
        refine ⟨_, rfl, .inl ⟨rfl, _, SqL.of upd_same⟩, _, rfl, l, _, rfl, .inl (SqL.of l4), tl, _, _, rfl, rfl, upd_same, small_len (n := 120000) (by rw [List.length_map]; omega) (by decide), ?_⟩
        rw [upd_upd, hlw]
        -- told.extend(answer)
        have l5 : ∀ o, (upd H3 tl o) l = some (.lst (wr (act a c).2)) := fun o => by
          rw [upd_ne nl]
          exact hl3
        refine ⟨_, rfl, .inl ⟨rfl, _, SqL.of upd_same⟩, _, rfl, tl, l, _, _, rfl, rfl, upd_same, l5 _, ?_, ?_⟩
        · rw [List.length_append, List.length_map, hlw, sizeLine_eq]
          show tld.length + 1 + _ ≤ _
          omega
        rw [upd_upd]
        -- start = end
        refine ⟨_, rfl, ⟨n + 1 + args.length, (act a c).1, kk - 1, tld ++ enc (act a c).2, _, _, _, rfl, ?_, ?_, ?_, by omega, ?_, ?_, ?_⟩, ?_⟩
        · rw [upd_same, List.map_append, List.append_assoc]
          rfl
        · rw [msk_upd]
          exact hY4
        · rw [msk_upd]
          exact hC4
        · have : ns.drop (n + 1 + args.length) = t := by
            have e1 : ns.drop (n + 1 + args.length) = (ns.drop n).drop (1 + args.length) := by
              rw [List.drop_drop]
              congr 1
              omega
            rw [e1, hd, show 1 + args.length = args.length + 1 by omega, List.drop_succ_cons, List.drop_left' (by rw [List.length_map])]
          rw [this]
          exact hR'
        · have : ns.drop (n + 1 + args.length) = t := by
            have e1 : ns.drop (n + 1 + args.length) = (ns.drop n).drop (1 + args.length) := by
              rw [List.drop_drop]
              congr 1
              omega
            rw [e1, hd, show 1 + args.length = args.length + 1 by omega, List.drop_succ_cons, List.drop_left' (by rw [List.length_map])]
          rw [this, List.append_assoc, ← ho']
          exact ho
        · rw [List.length_append]
          show tld.length + ((Kp179Neutral.wrKp179_Ans (act a c).2).length + 1) + 200 * (kk - 1) ≤ 120000
          omega
        · show ns.length - ((n : Int) + 1 + (args.length : Nat)).toNat < ns.length - (n : Int).toNat
          omega
      · rw [decide_eq_false hlt]
        refine iteF ⟨_, rfl, k tl H2 ?_⟩
        have e0 : ns.drop n = [] := List.drop_of_length_le (by omega)
        rw [e0, outs_nil, List.append_nil] at ho
        rw [← ho]
        exact htl
    · rintro σ H2 Q1 Q2 hq ⟨v, hv, u, hu, p, ys, e1, e2, i, j, e3, e4, b, e5, q⟩
      exact ⟨v, hv, u, hu, p, ys, e1, e2, i, j, e3, e4, b, e5, hq _ _ q⟩
end
end Jo
end
section
set_option Elab.async false
set_option linter.all false
set_option maxRecDepth 100000
namespace Jo
open PySem L2 PySem.W PyProof.Rows
theorem walkA {q : Program} {loose : List Str} {XP : (Str → Option Value) → Heap → Prop} {YP : World → Heap → Prop} {d : DefRec} {K : PySem.Params → PySem.W.Frag} (hdf : d.params.defaults = []) (hY : ∀ (w : World) (h : Heap), YP w h → (K w.params).In h)
    (F : ∀ (w : World) (mg : Str → Option Value) (fa : Addr) (h : Heap), (K w.params).In h → h.Ns mainGlobals mg → mg d.name = some (.ref fa) →
      ∃ fd : FuncData, (∀ (s : Shared) (u : Value), BindsTo s fd ⟨[u], []⟩ [("calls", u)]) ∧ ∀ base : Heap, (K w.params).In base → base.Ns mainGlobals mg → FnOk R.prog w (K w.params) mg base CX0 7 fa fd ["calls"] (spAns (K w.params))) :
    PySem.W.WalkOS q loose XP YP R d [] (fun f vs => PySem.call f vs) :=
  walk (k := 7) (x := "calls") (sp := fun w => spAns (K w.params)) hdf ⟨rfl, by decide, by decide⟩ hY F fun w H a ns h1 _ h3 _ hS => ⟨a, ns, rfl, hS, h1, h3, fun l H' hl => ⟨l, rfl, hl⟩⟩
set_option maxHeartbeats 4000000 in
theorem top_mk {K : PySem.W.Frag} {h : Heap} {mg : Str → Option Value} {fa : Addr} {w : World} (X : K.In h) (G : h.Ns mainGlobals mg) (hmg : mg "answers" = some (.ref fa))
    {C_Machine : Addr}
    {C_Job : Addr}
    {C_Yard : Addr}
    {f_Machine_init : Addr} {od_Machine_init an_Machine_init : Option Addr} {sl_Machine_init : Array (Option Value)} {oc_Machine_init kV_Machine_init dc_Machine_init pm_Machine_init cd_Machine_init ct_Machine_init : Value}
    {f_Machine_is_as_told : Addr} {od_Machine_is_as_told an_Machine_is_as_told : Option Addr} {sl_Machine_is_as_told : Array (Option Value)} {oc_Machine_is_as_told kV_Machine_is_as_told dc_Machine_is_as_told pm_Machine_is_as_told cd_Machine_is_as_told ct_Machine_is_as_told : Value}
    {f_Job_init : Addr} {od_Job_init an_Job_init : Option Addr} {sl_Job_init : Array (Option Value)} {oc_Job_init kV_Job_init dc_Job_init pm_Job_init cd_Job_init ct_Job_init : Value}
    {f_Job_is_as_told : Addr} {od_Job_is_as_told an_Job_is_as_told : Option Addr} {sl_Job_is_as_told : Array (Option Value)} {oc_Job_is_as_told kV_Job_is_as_told dc_Job_is_as_told pm_Job_is_as_told cd_Job_is_as_told ct_Job_is_as_told : Value}
    {f_Job_has_right_wants : Addr} {od_Job_has_right_wants an_Job_has_right_wants : Option Addr} {sl_Job_has_right_wants : Array (Option Value)} {oc_Job_has_right_wants kV_Job_has_right_wants dc_Job_has_right_wants pm_Job_has_right_wants cd_Job_has_right_wants ct_Job_has_right_wants : Value}
    {f_Job_has_right_copies : Addr} {od_Job_has_right_copies an_Job_has_right_copies : Option Addr} {sl_Job_has_right_copies : Array (Option Value)} {oc_Job_has_right_copies kV_Job_has_right_copies dc_Job_has_right_copies pm_Job_has_right_copies cd_Job_has_right_copies ct_Job_has_right_copies : Value}
    {f_Job_has_copy_on : Addr} {od_Job_has_copy_on an_Job_has_copy_on : Option Addr} {sl_Job_has_copy_on : Array (Option Value)} {oc_Job_has_copy_on kV_Job_has_copy_on dc_Job_has_copy_on pm_Job_has_copy_on cd_Job_has_copy_on ct_Job_has_copy_on : Value}
    {f_Job_runs : Addr} {od_Job_runs an_Job_runs : Option Addr} {sl_Job_runs : Array (Option Value)} {oc_Job_runs kV_Job_runs dc_Job_runs pm_Job_runs cd_Job_runs ct_Job_runs : Value}
    {f_Job_run_on : Addr} {od_Job_run_on an_Job_run_on : Option Addr} {sl_Job_run_on : Array (Option Value)} {oc_Job_run_on kV_Job_run_on dc_Job_run_on pm_Job_run_on cd_Job_run_on ct_Job_run_on : Value}
    {f_Job_wait : Addr} {od_Job_wait an_Job_wait : Option Addr} {sl_Job_wait : Array (Option Value)} {oc_Job_wait kV_Job_wait dc_Job_wait pm_Job_wait cd_Job_wait ct_Job_wait : Value}
    {f_places_for : Addr} {od_places_for an_places_for : Option Addr} {sl_places_for : Array (Option Value)} {oc_places_for kV_places_for dc_places_for pm_places_for cd_places_for ct_places_for : Value}
    {f_copies_that_fit : Addr} {od_copies_that_fit an_copies_that_fit : Option Addr} {sl_copies_that_fit : Array (Option Value)} {oc_copies_that_fit kV_copies_that_fit dc_copies_that_fit pm_copies_that_fit cd_copies_that_fit ct_copies_that_fit : Value}
    {f_free_beside : Addr} {od_free_beside an_free_beside : Option Addr} {sl_free_beside : Array (Option Value)} {oc_free_beside kV_free_beside dc_free_beside pm_free_beside cd_free_beside ct_free_beside : Value}
    {f_room_beside : Addr} {od_room_beside an_room_beside : Option Addr} {sl_room_beside : Array (Option Value)} {oc_room_beside kV_room_beside dc_room_beside pm_room_beside cd_room_beside ct_room_beside : Value}
    {f_Yard_init : Addr} {od_Yard_init an_Yard_init : Option Addr} {sl_Yard_init : Array (Option Value)} {oc_Yard_init kV_Yard_init dc_Yard_init pm_Yard_init cd_Yard_init ct_Yard_init : Value}
    {f_Yard_jo_start : Addr} {od_Yard_jo_start an_Yard_jo_start : Option Addr} {sl_Yard_jo_start : Array (Option Value)} {oc_Yard_jo_start kV_Yard_jo_start dc_Yard_jo_start pm_Yard_jo_start cd_Yard_jo_start ct_Yard_jo_start : Value}
    {f_Yard_jo_machine : Addr} {od_Yard_jo_machine an_Yard_jo_machine : Option Addr} {sl_Yard_jo_machine : Array (Option Value)} {oc_Yard_jo_machine kV_Yard_jo_machine dc_Yard_jo_machine pm_Yard_jo_machine cd_Yard_jo_machine ct_Yard_jo_machine : Value}
    {f_Yard_jo_down : Addr} {od_Yard_jo_down an_Yard_jo_down : Option Addr} {sl_Yard_jo_down : Array (Option Value)} {oc_Yard_jo_down kV_Yard_jo_down dc_Yard_jo_down pm_Yard_jo_down cd_Yard_jo_down ct_Yard_jo_down : Value}
    {f_Yard_jo_job : Addr} {od_Yard_jo_job an_Yard_jo_job : Option Addr} {sl_Yard_jo_job : Array (Option Value)} {oc_Yard_jo_job kV_Yard_jo_job dc_Yard_jo_job pm_Yard_jo_job cd_Yard_jo_job ct_Yard_jo_job : Value}
    {f_Yard_jo_end : Addr} {od_Yard_jo_end an_Yard_jo_end : Option Addr} {sl_Yard_jo_end : Array (Option Value)} {oc_Yard_jo_end kV_Yard_jo_end dc_Yard_jo_end pm_Yard_jo_end cd_Yard_jo_end ct_Yard_jo_end : Value}
    {f_Yard_jo_turn : Addr} {od_Yard_jo_turn an_Yard_jo_turn : Option Addr} {sl_Yard_jo_turn : Array (Option Value)} {oc_Yard_jo_turn kV_Yard_jo_turn dc_Yard_jo_turn pm_Yard_jo_turn cd_Yard_jo_turn ct_Yard_jo_turn : Value}
    {f_Yard_jo_where : Addr} {od_Yard_jo_where an_Yard_jo_where : Option Addr} {sl_Yard_jo_where : Array (Option Value)} {oc_Yard_jo_where kV_Yard_jo_where dc_Yard_jo_where pm_Yard_jo_where cd_Yard_jo_where ct_Yard_jo_where : Value}
    {f_Yard_jo_free : Addr} {od_Yard_jo_free an_Yard_jo_free : Option Addr} {sl_Yard_jo_free : Array (Option Value)} {oc_Yard_jo_free kV_Yard_jo_free dc_Yard_jo_free pm_Yard_jo_free cd_Yard_jo_free ct_Yard_jo_free : Value}
    {f_Yard_running : Addr} {od_Yard_running an_Yard_running : Option Addr} {sl_Yard_running : Array (Option Value)} {oc_Yard_running kV_Yard_running dc_Yard_running pm_Yard_running cd_Yard_running ct_Yard_running : Value}
    {f_Yard_waiting : Addr} {od_Yard_waiting an_Yard_waiting : Option Addr} {sl_Yard_waiting : Array (Option Value)} {oc_Yard_waiting kV_Yard_waiting dc_Yard_waiting pm_Yard_waiting cd_Yard_waiting ct_Yard_waiting : Value}
    {f_Yard_place : Addr} {od_Yard_place an_Yard_place : Option Addr} {sl_Yard_place : Array (Option Value)} {oc_Yard_place kV_Yard_place dc_Yard_place pm_Yard_place cd_Yard_place ct_Yard_place : Value}
    {f_Yard_running_below : Addr} {od_Yard_running_below an_Yard_running_below : Option Addr} {sl_Yard_running_below : Array (Option Value)} {oc_Yard_running_below kV_Yard_running_below dc_Yard_running_below pm_Yard_running_below cd_Yard_running_below ct_Yard_running_below : Value}
    {f_put_in : Addr} {od_put_in an_put_in : Option Addr} {sl_put_in : Array (Option Value)} {oc_put_in kV_put_in dc_put_in pm_put_in cd_put_in ct_put_in : Value}
    {f_answers : Addr} {od_answers an_answers : Option Addr} {sl_answers : Array (Option Value)} {oc_answers kV_answers dc_answers pm_answers cd_answers ct_answers : Value}
    {f_answer_to : Addr} {od_answer_to an_answer_to : Option Addr} {sl_answer_to : Array (Option Value)} {oc_answer_to kV_answer_to dc_answer_to pm_answer_to cd_answer_to ct_answer_to : Value}
    {f_answered_number : Addr} {od_answered_number an_answered_number : Option Addr} {sl_answered_number : Array (Option Value)} {oc_answered_number kV_answered_number dc_answered_number pm_answered_number cd_answered_number ct_answered_number : Value}
    {t_MOST_ROOM : Tok}
    {t_LAST_ZONE : Tok}
    {t_MOST_COPIES : Tok}
    {t_MOST_SPREAD : Tok}
    {t_LAST_RANK : Tok}
    {t_LAST_MACHINE : Tok}
    {t_LAST_JOB : Tok}
    {t_NOT_THERE : Tok}
    {t_WAITS : Tok}
    {t_NONE_CAN_BE_PLACED : Tok}
    {t_THERE_ALREADY : Tok}
    {t_NOT_AS_TOLD : Tok}
    {t_JO_START : Tok}
    {t_JO_MACHINE : Tok}
    {t_JO_DOWN : Tok}
    {t_JO_JOB : Tok}
    {t_JO_END : Tok}
    {t_JO_TURN : Tok}
    {t_JO_WHERE : Tok}
    {t_JO_FREE : Tok}
    {t_FORM_OF_A_NUMBER : Tok}
    {t_FORM_OF_A_TURN : Tok}
    {t_FORM_OF_PLACES : Tok}
    {t_FORM_OF_ROOM : Tok}
    {dd_NUMBERS_BEHIND : Addr} {ep_NUMBERS_BEHIND : Nat} {t_NUMBERS_BEHIND_0 u_NUMBERS_BEHIND_0 t_NUMBERS_BEHIND_1 u_NUMBERS_BEHIND_1 t_NUMBERS_BEHIND_2 u_NUMBERS_BEHIND_2 t_NUMBERS_BEHIND_3 u_NUMBERS_BEHIND_3 t_NUMBERS_BEHIND_4 u_NUMBERS_BEHIND_4 t_NUMBERS_BEHIND_5 u_NUMBERS_BEHIND_5 t_NUMBERS_BEHIND_6 u_NUMBERS_BEHIND_6 t_NUMBERS_BEHIND_7 u_NUMBERS_BEHIND_7 : Tok}
    (aC_Machine : PySem.W.nsIn K mainGlobals "Machine" = some (some (.ref C_Machine)))
    (aC_Job : PySem.W.nsIn K mainGlobals "Job" = some (some (.ref C_Job)))
    (aC_Yard : PySem.W.nsIn K mainGlobals "Yard" = some (some (.ref C_Yard)))
    (a_Machine_init : PySem.W.findIn K (.ref C_Machine) "__init__" = some (some (.ref f_Machine_init)))
    (i_Machine_init : PySem.W.isFn K (.ref f_Machine_init) = true)
    (l_Machine_init : K.lookup f_Machine_init = some ⟨oc_Machine_init, od_Machine_init, .func (PySem.W.fnOf "__init__" "Machine.__init__" (defArgs s_Machine_init) (defBody s_Machine_init) (defScope s_Machine_init) .none kV_Machine_init dc_Machine_init pm_Machine_init an_Machine_init cd_Machine_init ct_Machine_init), sl_Machine_init⟩)
    (c_Machine_init : PySem.W.codeIn K cd_Machine_init "Machine.__init__" = true)
    (k_Machine_init : PySem.W.keepIn K (.ref f_Machine_init) = true)
    (a_Machine_is_as_told : PySem.W.findIn K (.ref C_Machine) "is_as_told" = some (some (.ref f_Machine_is_as_told)))
    (i_Machine_is_as_told : PySem.W.isFn K (.ref f_Machine_is_as_told) = true)
    (l_Machine_is_as_told : K.lookup f_Machine_is_as_told = some ⟨oc_Machine_is_as_told, od_Machine_is_as_told, .func (PySem.W.fnOf "is_as_told" "Machine.is_as_told" (defArgs s_Machine_is_as_told) (defBody s_Machine_is_as_told) (defScope s_Machine_is_as_told) .none kV_Machine_is_as_told dc_Machine_is_as_told pm_Machine_is_as_told an_Machine_is_as_told cd_Machine_is_as_told ct_Machine_is_as_told), sl_Machine_is_as_told⟩)
    (c_Machine_is_as_told : PySem.W.codeIn K cd_Machine_is_as_told "Machine.is_as_told" = true)
    (k_Machine_is_as_told : PySem.W.keepIn K (.ref f_Machine_is_as_told) = true)
    (a_Job_init : PySem.W.findIn K (.ref C_Job) "__init__" = some (some (.ref f_Job_init)))
    (i_Job_init : PySem.W.isFn K (.ref f_Job_init) = true)
    (l_Job_init : K.lookup f_Job_init = some ⟨oc_Job_init, od_Job_init, .func (PySem.W.fnOf "__init__" "Job.__init__" (defArgs s_Job_init) (defBody s_Job_init) (defScope s_Job_init) .none kV_Job_init dc_Job_init pm_Job_init an_Job_init cd_Job_init ct_Job_init), sl_Job_init⟩)
    (c_Job_init : PySem.W.codeIn K cd_Job_init "Job.__init__" = true)
    (k_Job_init : PySem.W.keepIn K (.ref f_Job_init) = true)
    (a_Job_is_as_told : PySem.W.findIn K (.ref C_Job) "is_as_told" = some (some (.ref f_Job_is_as_told)))
    (i_Job_is_as_told : PySem.W.isFn K (.ref f_Job_is_as_told) = true)
    (l_Job_is_as_told : K.lookup f_Job_is_as_told = some ⟨oc_Job_is_as_told, od_Job_is_as_told, .func (PySem.W.fnOf "is_as_told" "Job.is_as_told" (defArgs s_Job_is_as_told) (defBody s_Job_is_as_told) (defScope s_Job_is_as_told) .none kV_Job_is_as_told dc_Job_is_as_told pm_Job_is_as_told an_Job_is_as_told cd_Job_is_as_told ct_Job_is_as_told), sl_Job_is_as_told⟩)
    (c_Job_is_as_told : PySem.W.codeIn K cd_Job_is_as_told "Job.is_as_told" = true)
    (k_Job_is_as_told : PySem.W.keepIn K (.ref f_Job_is_as_told) = true)
    (a_Job_has_right_wants : PySem.W.findIn K (.ref C_Job) "has_right_wants" = some (some (.ref f_Job_has_right_wants)))
    (i_Job_has_right_wants : PySem.W.isFn K (.ref f_Job_has_right_wants) = true)
    (l_Job_has_right_wants : K.lookup f_Job_has_right_wants = some ⟨oc_Job_has_right_wants, od_Job_has_right_wants, .func (PySem.W.fnOf "has_right_wants" "Job.has_right_wants" (defArgs s_Job_has_right_wants) (defBody s_Job_has_right_wants) (defScope s_Job_has_right_wants) .none kV_Job_has_right_wants dc_Job_has_right_wants pm_Job_has_right_wants an_Job_has_right_wants cd_Job_has_right_wants ct_Job_has_right_wants), sl_Job_has_right_wants⟩)
    (c_Job_has_right_wants : PySem.W.codeIn K cd_Job_has_right_wants "Job.has_right_wants" = true)
    (k_Job_has_right_wants : PySem.W.keepIn K (.ref f_Job_has_right_wants) = true)
    (a_Job_has_right_copies : PySem.W.findIn K (.ref C_Job) "has_right_copies" = some (some (.ref f_Job_has_right_copies)))
    (i_Job_has_right_copies : PySem.W.isFn K (.ref f_Job_has_right_copies) = true)
    (l_Job_has_right_copies : K.lookup f_Job_has_right_copies = some ⟨oc_Job_has_right_copies, od_Job_has_right_copies, .func (PySem.W.fnOf "has_right_copies" "Job.has_right_copies" (defArgs s_Job_has_right_copies) (defBody s_Job_has_right_copies) (defScope s_Job_has_right_copies) .none kV_Job_has_right_copies dc_Job_has_right_copies pm_Job_has_right_copies an_Job_has_right_copies cd_Job_has_right_copies ct_Job_has_right_copies), sl_Job_has_right_copies⟩)
    (c_Job_has_right_copies : PySem.W.codeIn K cd_Job_has_right_copies "Job.has_right_copies" = true)
    (k_Job_has_right_copies : PySem.W.keepIn K (.ref f_Job_has_right_copies) = true)
    (a_Job_has_copy_on : PySem.W.findIn K (.ref C_Job) "has_copy_on" = some (some (.ref f_Job_has_copy_on)))
    (i_Job_has_copy_on : PySem.W.isFn K (.ref f_Job_has_copy_on) = true)
    (l_Job_has_copy_on : K.lookup f_Job_has_copy_on = some ⟨oc_Job_has_copy_on, od_Job_has_copy_on, .func (PySem.W.fnOf "has_copy_on" "Job.has_copy_on" (defArgs s_Job_has_copy_on) (defBody s_Job_has_copy_on) (defScope s_Job_has_copy_on) .none kV_Job_has_copy_on dc_Job_has_copy_on pm_Job_has_copy_on an_Job_has_copy_on cd_Job_has_copy_on ct_Job_has_copy_on), sl_Job_has_copy_on⟩)
    (c_Job_has_copy_on : PySem.W.codeIn K cd_Job_has_copy_on "Job.has_copy_on" = true)
    (k_Job_has_copy_on : PySem.W.keepIn K (.ref f_Job_has_copy_on) = true)
    (a_Job_runs : PySem.W.findIn K (.ref C_Job) "runs" = some (some (.ref f_Job_runs)))
    (i_Job_runs : PySem.W.isFn K (.ref f_Job_runs) = true)
    (l_Job_runs : K.lookup f_Job_runs = some ⟨oc_Job_runs, od_Job_runs, .func (PySem.W.fnOf "runs" "Job.runs" (defArgs s_Job_runs) (defBody s_Job_runs) (defScope s_Job_runs) .none kV_Job_runs dc_Job_runs pm_Job_runs an_Job_runs cd_Job_runs ct_Job_runs), sl_Job_runs⟩)
    (c_Job_runs : PySem.W.codeIn K cd_Job_runs "Job.runs" = true)
    (k_Job_runs : PySem.W.keepIn K (.ref f_Job_runs) = true)
    (a_Job_run_on : PySem.W.findIn K (.ref C_Job) "run_on" = some (some (.ref f_Job_run_on)))
    (i_Job_run_on : PySem.W.isFn K (.ref f_Job_run_on) = true)
    (l_Job_run_on : K.lookup f_Job_run_on = some ⟨oc_Job_run_on, od_Job_run_on, .func (PySem.W.fnOf "run_on" "Job.run_on" (defArgs s_Job_run_on) (defBody s_Job_run_on) (defScope s_Job_run_on) .none kV_Job_run_on dc_Job_run_on pm_Job_run_on an_Job_run_on cd_Job_run_on ct_Job_run_on), sl_Job_run_on⟩)
    (c_Job_run_on : PySem.W.codeIn K cd_Job_run_on "Job.run_on" = true)
    (k_Job_run_on : PySem.W.keepIn K (.ref f_Job_run_on) = true)
    (a_Job_wait : PySem.W.findIn K (.ref C_Job) "wait" = some (some (.ref f_Job_wait)))
    (i_Job_wait : PySem.W.isFn K (.ref f_Job_wait) = true)
    (l_Job_wait : K.lookup f_Job_wait = some ⟨oc_Job_wait, od_Job_wait, .func (PySem.W.fnOf "wait" "Job.wait" (defArgs s_Job_wait) (defBody s_Job_wait) (defScope s_Job_wait) .none kV_Job_wait dc_Job_wait pm_Job_wait an_Job_wait cd_Job_wait ct_Job_wait), sl_Job_wait⟩)
    (c_Job_wait : PySem.W.codeIn K cd_Job_wait "Job.wait" = true)
    (k_Job_wait : PySem.W.keepIn K (.ref f_Job_wait) = true)
    (a_places_for : PySem.W.nsIn K mainGlobals "places_for" = some (some (.ref f_places_for)))
    (l_places_for : K.lookup f_places_for = some ⟨oc_places_for, od_places_for, .func (PySem.W.fnOf "places_for" "places_for" (defArgs s_places_for) (defBody s_places_for) (defScope s_places_for) .none kV_places_for dc_places_for pm_places_for an_places_for cd_places_for ct_places_for), sl_places_for⟩)
    (c_places_for : PySem.W.codeIn K cd_places_for "places_for" = true)
    (k_places_for : PySem.W.keepIn K (.ref f_places_for) = true)
    (a_copies_that_fit : PySem.W.nsIn K mainGlobals "copies_that_fit" = some (some (.ref f_copies_that_fit)))
    (l_copies_that_fit : K.lookup f_copies_that_fit = some ⟨oc_copies_that_fit, od_copies_that_fit, .func (PySem.W.fnOf "copies_that_fit" "copies_that_fit" (defArgs s_copies_that_fit) (defBody s_copies_that_fit) (defScope s_copies_that_fit) .none kV_copies_that_fit dc_copies_that_fit pm_copies_that_fit an_copies_that_fit cd_copies_that_fit ct_copies_that_fit), sl_copies_that_fit⟩)
    (c_copies_that_fit : PySem.W.codeIn K cd_copies_that_fit "copies_that_fit" = true)
    (k_copies_that_fit : PySem.W.keepIn K (.ref f_copies_that_fit) = true)
    (a_free_beside : PySem.W.nsIn K mainGlobals "free_beside" = some (some (.ref f_free_beside)))
    (l_free_beside : K.lookup f_free_beside = some ⟨oc_free_beside, od_free_beside, .func (PySem.W.fnOf "free_beside" "free_beside" (defArgs s_free_beside) (defBody s_free_beside) (defScope s_free_beside) .none kV_free_beside dc_free_beside pm_free_beside an_free_beside cd_free_beside ct_free_beside), sl_free_beside⟩)
    (c_free_beside : PySem.W.codeIn K cd_free_beside "free_beside" = true)
    (k_free_beside : PySem.W.keepIn K (.ref f_free_beside) = true)
    (a_room_beside : PySem.W.nsIn K mainGlobals "room_beside" = some (some (.ref f_room_beside)))
    (l_room_beside : K.lookup f_room_beside = some ⟨oc_room_beside, od_room_beside, .func (PySem.W.fnOf "room_beside" "room_beside" (defArgs s_room_beside) (defBody s_room_beside) (defScope s_room_beside) .none kV_room_beside dc_room_beside pm_room_beside an_room_beside cd_room_beside ct_room_beside), sl_room_beside⟩)
    (c_room_beside : PySem.W.codeIn K cd_room_beside "room_beside" = true)
    (k_room_beside : PySem.W.keepIn K (.ref f_room_beside) = true)
    (a_Yard_init : PySem.W.findIn K (.ref C_Yard) "__init__" = some (some (.ref f_Yard_init)))
    (i_Yard_init : PySem.W.isFn K (.ref f_Yard_init) = true)
    (l_Yard_init : K.lookup f_Yard_init = some ⟨oc_Yard_init, od_Yard_init, .func (PySem.W.fnOf "__init__" "Yard.__init__" (defArgs s_Yard_init) (defBody s_Yard_init) (defScope s_Yard_init) .none kV_Yard_init dc_Yard_init pm_Yard_init an_Yard_init cd_Yard_init ct_Yard_init), sl_Yard_init⟩)
    (c_Yard_init : PySem.W.codeIn K cd_Yard_init "Yard.__init__" = true)
    (k_Yard_init : PySem.W.keepIn K (.ref f_Yard_init) = true)
    (a_Yard_jo_start : PySem.W.findIn K (.ref C_Yard) "jo_start" = some (some (.ref f_Yard_jo_start)))
    (i_Yard_jo_start : PySem.W.isFn K (.ref f_Yard_jo_start) = true)
    (l_Yard_jo_start : K.lookup f_Yard_jo_start = some ⟨oc_Yard_jo_start, od_Yard_jo_start, .func (PySem.W.fnOf "jo_start" "Yard.jo_start" (defArgs s_Yard_jo_start) (defBody s_Yard_jo_start) (defScope s_Yard_jo_start) .none kV_Yard_jo_start dc_Yard_jo_start pm_Yard_jo_start an_Yard_jo_start cd_Yard_jo_start ct_Yard_jo_start), sl_Yard_jo_start⟩)
    (c_Yard_jo_start : PySem.W.codeIn K cd_Yard_jo_start "Yard.jo_start" = true)
    (k_Yard_jo_start : PySem.W.keepIn K (.ref f_Yard_jo_start) = true)
    (a_Yard_jo_machine : PySem.W.findIn K (.ref C_Yard) "jo_machine" = some (some (.ref f_Yard_jo_machine)))
    (i_Yard_jo_machine : PySem.W.isFn K (.ref f_Yard_jo_machine) = true)
    (l_Yard_jo_machine : K.lookup f_Yard_jo_machine = some ⟨oc_Yard_jo_machine, od_Yard_jo_machine, .func (PySem.W.fnOf "jo_machine" "Yard.jo_machine" (defArgs s_Yard_jo_machine) (defBody s_Yard_jo_machine) (defScope s_Yard_jo_machine) .none kV_Yard_jo_machine dc_Yard_jo_machine pm_Yard_jo_machine an_Yard_jo_machine cd_Yard_jo_machine ct_Yard_jo_machine), sl_Yard_jo_machine⟩)
    (c_Yard_jo_machine : PySem.W.codeIn K cd_Yard_jo_machine "Yard.jo_machine" = true)
    (k_Yard_jo_machine : PySem.W.keepIn K (.ref f_Yard_jo_machine) = true)
    (a_Yard_jo_down : PySem.W.findIn K (.ref C_Yard) "jo_down" = some (some (.ref f_Yard_jo_down)))
    (i_Yard_jo_down : PySem.W.isFn K (.ref f_Yard_jo_down) = true)
    (l_Yard_jo_down : K.lookup f_Yard_jo_down = some ⟨oc_Yard_jo_down, od_Yard_jo_down, .func (PySem.W.fnOf "jo_down" "Yard.jo_down" (defArgs s_Yard_jo_down) (defBody s_Yard_jo_down) (defScope s_Yard_jo_down) .none kV_Yard_jo_down dc_Yard_jo_down pm_Yard_jo_down an_Yard_jo_down cd_Yard_jo_down ct_Yard_jo_down), sl_Yard_jo_down⟩)
    (c_Yard_jo_down : PySem.W.codeIn K cd_Yard_jo_down "Yard.jo_down" = true)
    (k_Yard_jo_down : PySem.W.keepIn K (.ref f_Yard_jo_down) = true)
    (a_Yard_jo_job : PySem.W.findIn K (.ref C_Yard) "jo_job" = some (some (.ref f_Yard_jo_job)))
    (i_Yard_jo_job : PySem.W.isFn K (.ref f_Yard_jo_job) = true)
    (l_Yard_jo_job : K.lookup f_Yard_jo_job = some ⟨oc_Yard_jo_job, od_Yard_jo_job, .func (PySem.W.fnOf "jo_job" "Yard.jo_job" (defArgs s_Yard_jo_job) (defBody s_Yard_jo_job) (defScope s_Yard_jo_job) .none kV_Yard_jo_job dc_Yard_jo_job pm_Yard_jo_job an_Yard_jo_job cd_Yard_jo_job ct_Yard_jo_job), sl_Yard_jo_job⟩)
    (c_Yard_jo_job : PySem.W.codeIn K cd_Yard_jo_job "Yard.jo_job" = true)
    (k_Yard_jo_job : PySem.W.keepIn K (.ref f_Yard_jo_job) = true)
    (a_Yard_jo_end : PySem.W.findIn K (.ref C_Yard) "jo_end" = some (some (.ref f_Yard_jo_end)))
    (i_Yard_jo_end : PySem.W.isFn K (.ref f_Yard_jo_end) = true)
    (l_Yard_jo_end : K.lookup f_Yard_jo_end = some ⟨oc_Yard_jo_end, od_Yard_jo_end, .func (PySem.W.fnOf "jo_end" "Yard.jo_end" (defArgs s_Yard_jo_end) (defBody s_Yard_jo_end) (defScope s_Yard_jo_end) .none kV_Yard_jo_end dc_Yard_jo_end pm_Yard_jo_end an_Yard_jo_end cd_Yard_jo_end ct_Yard_jo_end), sl_Yard_jo_end⟩)
    (c_Yard_jo_end : PySem.W.codeIn K cd_Yard_jo_end "Yard.jo_end" = true)
    (k_Yard_jo_end : PySem.W.keepIn K (.ref f_Yard_jo_end) = true)
    (a_Yard_jo_turn : PySem.W.findIn K (.ref C_Yard) "jo_turn" = some (some (.ref f_Yard_jo_turn)))
    (i_Yard_jo_turn : PySem.W.isFn K (.ref f_Yard_jo_turn) = true)
    (l_Yard_jo_turn : K.lookup f_Yard_jo_turn = some ⟨oc_Yard_jo_turn, od_Yard_jo_turn, .func (PySem.W.fnOf "jo_turn" "Yard.jo_turn" (defArgs s_Yard_jo_turn) (defBody s_Yard_jo_turn) (defScope s_Yard_jo_turn) .none kV_Yard_jo_turn dc_Yard_jo_turn pm_Yard_jo_turn an_Yard_jo_turn cd_Yard_jo_turn ct_Yard_jo_turn), sl_Yard_jo_turn⟩)
    (c_Yard_jo_turn : PySem.W.codeIn K cd_Yard_jo_turn "Yard.jo_turn" = true)
    (k_Yard_jo_turn : PySem.W.keepIn K (.ref f_Yard_jo_turn) = true)
    (a_Yard_jo_where : PySem.W.findIn K (.ref C_Yard) "jo_where" = some (some (.ref f_Yard_jo_where)))
    (i_Yard_jo_where : PySem.W.isFn K (.ref f_Yard_jo_where) = true)
    (l_Yard_jo_where : K.lookup f_Yard_jo_where = some ⟨oc_Yard_jo_where, od_Yard_jo_where, .func (PySem.W.fnOf "jo_where" "Yard.jo_where" (defArgs s_Yard_jo_where) (defBody s_Yard_jo_where) (defScope s_Yard_jo_where) .none kV_Yard_jo_where dc_Yard_jo_where pm_Yard_jo_where an_Yard_jo_where cd_Yard_jo_where ct_Yard_jo_where), sl_Yard_jo_where⟩)
    (c_Yard_jo_where : PySem.W.codeIn K cd_Yard_jo_where "Yard.jo_where" = true)
    (k_Yard_jo_where : PySem.W.keepIn K (.ref f_Yard_jo_where) = true)
    (a_Yard_jo_free : PySem.W.findIn K (.ref C_Yard) "jo_free" = some (some (.ref f_Yard_jo_free)))
    (i_Yard_jo_free : PySem.W.isFn K (.ref f_Yard_jo_free) = true)
    (l_Yard_jo_free : K.lookup f_Yard_jo_free = some ⟨oc_Yard_jo_free, od_Yard_jo_free, .func (PySem.W.fnOf "jo_free" "Yard.jo_free" (defArgs s_Yard_jo_free) (defBody s_Yard_jo_free) (defScope s_Yard_jo_free) .none kV_Yard_jo_free dc_Yard_jo_free pm_Yard_jo_free an_Yard_jo_free cd_Yard_jo_free ct_Yard_jo_free), sl_Yard_jo_free⟩)
    (c_Yard_jo_free : PySem.W.codeIn K cd_Yard_jo_free "Yard.jo_free" = true)
    (k_Yard_jo_free : PySem.W.keepIn K (.ref f_Yard_jo_free) = true)
    (a_Yard_running : PySem.W.findIn K (.ref C_Yard) "running" = some (some (.ref f_Yard_running)))
    (i_Yard_running : PySem.W.isFn K (.ref f_Yard_running) = true)
    (l_Yard_running : K.lookup f_Yard_running = some ⟨oc_Yard_running, od_Yard_running, .func (PySem.W.fnOf "running" "Yard.running" (defArgs s_Yard_running) (defBody s_Yard_running) (defScope s_Yard_running) .none kV_Yard_running dc_Yard_running pm_Yard_running an_Yard_running cd_Yard_running ct_Yard_running), sl_Yard_running⟩)
    (c_Yard_running : PySem.W.codeIn K cd_Yard_running "Yard.running" = true)
    (k_Yard_running : PySem.W.keepIn K (.ref f_Yard_running) = true)
    (a_Yard_waiting : PySem.W.findIn K (.ref C_Yard) "waiting" = some (some (.ref f_Yard_waiting)))
    (i_Yard_waiting : PySem.W.isFn K (.ref f_Yard_waiting) = true)
    (l_Yard_waiting : K.lookup f_Yard_waiting = some ⟨oc_Yard_waiting, od_Yard_waiting, .func (PySem.W.fnOf "waiting" "Yard.waiting" (defArgs s_Yard_waiting) (defBody s_Yard_waiting) (defScope s_Yard_waiting) .none kV_Yard_waiting dc_Yard_waiting pm_Yard_waiting an_Yard_waiting cd_Yard_waiting ct_Yard_waiting), sl_Yard_waiting⟩)
    (c_Yard_waiting : PySem.W.codeIn K cd_Yard_waiting "Yard.waiting" = true)
    (k_Yard_waiting : PySem.W.keepIn K (.ref f_Yard_waiting) = true)
    (a_Yard_place : PySem.W.findIn K (.ref C_Yard) "place" = some (some (.ref f_Yard_place)))
    (i_Yard_place : PySem.W.isFn K (.ref f_Yard_place) = true)
    (l_Yard_place : K.lookup f_Yard_place = some ⟨oc_Yard_place, od_Yard_place, .func (PySem.W.fnOf "place" "Yard.place" (defArgs s_Yard_place) (defBody s_Yard_place) (defScope s_Yard_place) .none kV_Yard_place dc_Yard_place pm_Yard_place an_Yard_place cd_Yard_place ct_Yard_place), sl_Yard_place⟩)
    (c_Yard_place : PySem.W.codeIn K cd_Yard_place "Yard.place" = true)
    (k_Yard_place : PySem.W.keepIn K (.ref f_Yard_place) = true)
    (a_Yard_running_below : PySem.W.findIn K (.ref C_Yard) "running_below" = some (some (.ref f_Yard_running_below)))
    (i_Yard_running_below : PySem.W.isFn K (.ref f_Yard_running_below) = true)
    (l_Yard_running_below : K.lookup f_Yard_running_below = some ⟨oc_Yard_running_below, od_Yard_running_below, .func (PySem.W.fnOf "running_below" "Yard.running_below" (defArgs s_Yard_running_below) (defBody s_Yard_running_below) (defScope s_Yard_running_below) .none kV_Yard_running_below dc_Yard_running_below pm_Yard_running_below an_Yard_running_below cd_Yard_running_below ct_Yard_running_below), sl_Yard_running_below⟩)
    (c_Yard_running_below : PySem.W.codeIn K cd_Yard_running_below "Yard.running_below" = true)
    (k_Yard_running_below : PySem.W.keepIn K (.ref f_Yard_running_below) = true)
    (a_put_in : PySem.W.nsIn K mainGlobals "put_in" = some (some (.ref f_put_in)))
    (l_put_in : K.lookup f_put_in = some ⟨oc_put_in, od_put_in, .func (PySem.W.fnOf "put_in" "put_in" (defArgs s_put_in) (defBody s_put_in) (defScope s_put_in) .none kV_put_in dc_put_in pm_put_in an_put_in cd_put_in ct_put_in), sl_put_in⟩)
    (c_put_in : PySem.W.codeIn K cd_put_in "put_in" = true)
    (k_put_in : PySem.W.keepIn K (.ref f_put_in) = true)
    (a_answers : PySem.W.nsIn K mainGlobals "answers" = some (some (.ref f_answers)))
    (l_answers : K.lookup f_answers = some ⟨oc_answers, od_answers, .func (PySem.W.fnOf "answers" "answers" (defArgs s_answers) (defBody s_answers) (defScope s_answers) .none kV_answers dc_answers pm_answers an_answers cd_answers ct_answers), sl_answers⟩)
    (c_answers : PySem.W.codeIn K cd_answers "answers" = true)
    (k_answers : PySem.W.keepIn K (.ref f_answers) = true)
    (a_answer_to : PySem.W.nsIn K mainGlobals "answer_to" = some (some (.ref f_answer_to)))
    (l_answer_to : K.lookup f_answer_to = some ⟨oc_answer_to, od_answer_to, .func (PySem.W.fnOf "answer_to" "answer_to" (defArgs s_answer_to) (defBody s_answer_to) (defScope s_answer_to) .none kV_answer_to dc_answer_to pm_answer_to an_answer_to cd_answer_to ct_answer_to), sl_answer_to⟩)
    (c_answer_to : PySem.W.codeIn K cd_answer_to "answer_to" = true)
    (k_answer_to : PySem.W.keepIn K (.ref f_answer_to) = true)
    (a_answered_number : PySem.W.nsIn K mainGlobals "answered_number" = some (some (.ref f_answered_number)))
    (l_answered_number : K.lookup f_answered_number = some ⟨oc_answered_number, od_answered_number, .func (PySem.W.fnOf "answered_number" "answered_number" (defArgs s_answered_number) (defBody s_answered_number) (defScope s_answered_number) .none kV_answered_number dc_answered_number pm_answered_number an_answered_number cd_answered_number ct_answered_number), sl_answered_number⟩)
    (c_answered_number : PySem.W.codeIn K cd_answered_number "answered_number" = true)
    (k_answered_number : PySem.W.keepIn K (.ref f_answered_number) = true)
    (pg_Machine : PySem.W.plainGet K C_Machine Str.empty = true)
    (hd_Machine : PySem.W.hasDictIn K C_Machine = true)
    (po_Machine : PySem.W.plainOver K C_Machine = true)
    (sa_Machine : PySem.W.findIn K (.ref C_Machine) "__setattr__" = some (some (.builtin "object.__setattr__")))
    (mk_Machine : PySem.W.makesIn K C_Machine = true)
    (kc_Machine : PySem.W.keepIn K (.ref C_Machine) = true)
    (na_Machine_has : PySem.W.findIn K (.ref C_Machine) "has" = some none)
    (na_Machine_labels : PySem.W.findIn K (.ref C_Machine) "labels" = some none)
    (na_Machine_zone : PySem.W.findIn K (.ref C_Machine) "zone" = some none)
    (na_Machine_none : PySem.W.findIn K (.ref C_Machine) "none" = some none)
    (pg_Job : PySem.W.plainGet K C_Job Str.empty = true)
    (hd_Job : PySem.W.hasDictIn K C_Job = true)
    (po_Job : PySem.W.plainOver K C_Job = true)
    (sa_Job : PySem.W.findIn K (.ref C_Job) "__setattr__" = some (some (.builtin "object.__setattr__")))
    (mk_Job : PySem.W.makesIn K C_Job = true)
    (kc_Job : PySem.W.keepIn K (.ref C_Job) = true)
    (na_Job_wants : PySem.W.findIn K (.ref C_Job) "wants" = some none)
    (na_Job_needs : PySem.W.findIn K (.ref C_Job) "needs" = some none)
    (na_Job_never : PySem.W.findIn K (.ref C_Job) "never" = some none)
    (na_Job_copies : PySem.W.findIn K (.ref C_Job) "copies" = some none)
    (na_Job_apart : PySem.W.findIn K (.ref C_Job) "apart" = some none)
    (na_Job_spread : PySem.W.findIn K (.ref C_Job) "spread" = some none)
    (na_Job_rank : PySem.W.findIn K (.ref C_Job) "rank" = some none)
    (na_Job_places : PySem.W.findIn K (.ref C_Job) "places" = some none)
    (pg_Yard : PySem.W.plainGet K C_Yard Str.empty = true)
    (hd_Yard : PySem.W.hasDictIn K C_Yard = true)
    (po_Yard : PySem.W.plainOver K C_Yard = true)
    (sa_Yard : PySem.W.findIn K (.ref C_Yard) "__setattr__" = some (some (.builtin "object.__setattr__")))
    (mk_Yard : PySem.W.makesIn K C_Yard = true)
    (kc_Yard : PySem.W.keepIn K (.ref C_Yard) = true)
    (na_Yard_machines : PySem.W.findIn K (.ref C_Yard) "machines" = some none)
    (na_Yard_jobs : PySem.W.findIn K (.ref C_Yard) "jobs" = some none)
    (g_MOST_ROOM : PySem.W.nsIn K mainGlobals "MOST_ROOM" = some (some (.int (16777216) t_MOST_ROOM)))
    (g_LAST_ZONE : PySem.W.nsIn K mainGlobals "LAST_ZONE" = some (some (.int (7) t_LAST_ZONE)))
    (g_MOST_COPIES : PySem.W.nsIn K mainGlobals "MOST_COPIES" = some (some (.int (16) t_MOST_COPIES)))
    (g_MOST_SPREAD : PySem.W.nsIn K mainGlobals "MOST_SPREAD" = some (some (.int (16) t_MOST_SPREAD)))
    (g_LAST_RANK : PySem.W.nsIn K mainGlobals "LAST_RANK" = some (some (.int (7) t_LAST_RANK)))
    (g_LAST_MACHINE : PySem.W.nsIn K mainGlobals "LAST_MACHINE" = some (some (.int (63) t_LAST_MACHINE)))
    (g_LAST_JOB : PySem.W.nsIn K mainGlobals "LAST_JOB" = some (some (.int (127) t_LAST_JOB)))
    (g_NOT_THERE : PySem.W.nsIn K mainGlobals "NOT_THERE" = some (some (.int (-2) t_NOT_THERE)))
    (g_WAITS : PySem.W.nsIn K mainGlobals "WAITS" = some (some (.int (-11) t_WAITS)))
    (g_NONE_CAN_BE_PLACED : PySem.W.nsIn K mainGlobals "NONE_CAN_BE_PLACED" = some (some (.int (-11) t_NONE_CAN_BE_PLACED)))
    (g_THERE_ALREADY : PySem.W.nsIn K mainGlobals "THERE_ALREADY" = some (some (.int (-17) t_THERE_ALREADY)))
    (g_NOT_AS_TOLD : PySem.W.nsIn K mainGlobals "NOT_AS_TOLD" = some (some (.int (-22) t_NOT_AS_TOLD)))
    (g_JO_START : PySem.W.nsIn K mainGlobals "JO_START" = some (some (.int (0) t_JO_START)))
    (g_JO_MACHINE : PySem.W.nsIn K mainGlobals "JO_MACHINE" = some (some (.int (1) t_JO_MACHINE)))
    (g_JO_DOWN : PySem.W.nsIn K mainGlobals "JO_DOWN" = some (some (.int (2) t_JO_DOWN)))
    (g_JO_JOB : PySem.W.nsIn K mainGlobals "JO_JOB" = some (some (.int (3) t_JO_JOB)))
    (g_JO_END : PySem.W.nsIn K mainGlobals "JO_END" = some (some (.int (4) t_JO_END)))
    (g_JO_TURN : PySem.W.nsIn K mainGlobals "JO_TURN" = some (some (.int (5) t_JO_TURN)))
    (g_JO_WHERE : PySem.W.nsIn K mainGlobals "JO_WHERE" = some (some (.int (6) t_JO_WHERE)))
    (g_JO_FREE : PySem.W.nsIn K mainGlobals "JO_FREE" = some (some (.int (7) t_JO_FREE)))
    (g_FORM_OF_A_NUMBER : PySem.W.nsIn K mainGlobals "FORM_OF_A_NUMBER" = some (some (.int (0) t_FORM_OF_A_NUMBER)))
    (g_FORM_OF_A_TURN : PySem.W.nsIn K mainGlobals "FORM_OF_A_TURN" = some (some (.int (1) t_FORM_OF_A_TURN)))
    (g_FORM_OF_PLACES : PySem.W.nsIn K mainGlobals "FORM_OF_PLACES" = some (some (.int (2) t_FORM_OF_PLACES)))
    (g_FORM_OF_ROOM : PySem.W.nsIn K mainGlobals "FORM_OF_ROOM" = some (some (.int (3) t_FORM_OF_ROOM)))
    (g_NUMBERS_BEHIND : PySem.W.nsIn K mainGlobals "NUMBERS_BEHIND" = some (some (.ref dd_NUMBERS_BEHIND)))
    (l_NUMBERS_BEHIND : K.lookup dd_NUMBERS_BEHIND = some ⟨.type "dict", none, .dict #[⟨0, .int 0 t_NUMBERS_BEHIND_0, .int 0 u_NUMBERS_BEHIND_0⟩, ⟨1, .int 1 t_NUMBERS_BEHIND_1, .int 8 u_NUMBERS_BEHIND_1⟩, ⟨2, .int 2 t_NUMBERS_BEHIND_2, .int 1 u_NUMBERS_BEHIND_2⟩, ⟨3, .int 3 t_NUMBERS_BEHIND_3, .int 11 u_NUMBERS_BEHIND_3⟩, ⟨4, .int 4 t_NUMBERS_BEHIND_4, .int 1 u_NUMBERS_BEHIND_4⟩, ⟨5, .int 5 t_NUMBERS_BEHIND_5, .int 0 u_NUMBERS_BEHIND_5⟩, ⟨6, .int 6 t_NUMBERS_BEHIND_6, .int 1 u_NUMBERS_BEHIND_6⟩, ⟨7, .int 7 t_NUMBERS_BEHIND_7, .int 1 u_NUMBERS_BEHIND_7⟩] ep_NUMBERS_BEHIND, #[]⟩)
    (lo_NUMBERS_BEHIND : (dd_NUMBERS_BEHIND == sysModules) = false)
    (z_max : PySem.W.nsIn K mainGlobals "max" = some none)
    (z_len : PySem.W.nsIn K mainGlobals "len" = some none)
    (z_sorted : PySem.W.nsIn K mainGlobals "sorted" = some none)
    (z_min : PySem.W.nsIn K mainGlobals "min" = some none)
    (z_zip : PySem.W.nsIn K mainGlobals "zip" = some none)
    (z_dict : PySem.W.nsIn K mainGlobals "dict" = some none)
    (z_range : PySem.W.nsIn K mainGlobals "range" = some none) :
    ∃ fd : FuncData, (∀ (s : Shared) (u : Value), BindsTo s fd ⟨[u], []⟩ [("calls", u)]) ∧ ∀ base : Heap, K.In base → base.Ns mainGlobals mg → FnOk R.prog w K mg base CX0 7 fa fd ["calls"] (spAns K) := by
  have F_Machine_init := fun_mk (st := s_Machine_init) l_Machine_init c_Machine_init k_Machine_init
  have b_Machine_init := F_Machine_init.binds (ps := ["self", "numbers"]) fun _ _ _ _ _ _ us hl => bd2 hl fun _ _ => rfl
  have F_Machine_is_as_told := fun_mk (st := s_Machine_is_as_told) l_Machine_is_as_told c_Machine_is_as_told k_Machine_is_as_told
  have b_Machine_is_as_told := F_Machine_is_as_told.binds (ps := ["self"]) fun _ _ _ _ _ _ us hl => bd1 hl fun _ => rfl
  have F_Job_init := fun_mk (st := s_Job_init) l_Job_init c_Job_init k_Job_init
  have b_Job_init := F_Job_init.binds (ps := ["self", "numbers"]) fun _ _ _ _ _ _ us hl => bd2 hl fun _ _ => rfl
  have F_Job_is_as_told := fun_mk (st := s_Job_is_as_told) l_Job_is_as_told c_Job_is_as_told k_Job_is_as_told
  have b_Job_is_as_told := F_Job_is_as_told.binds (ps := ["self"]) fun _ _ _ _ _ _ us hl => bd1 hl fun _ => rfl
  have F_Job_has_right_wants := fun_mk (st := s_Job_has_right_wants) l_Job_has_right_wants c_Job_has_right_wants k_Job_has_right_wants
  have b_Job_has_right_wants := F_Job_has_right_wants.binds (ps := ["self"]) fun _ _ _ _ _ _ us hl => bd1 hl fun _ => rfl
  have F_Job_has_right_copies := fun_mk (st := s_Job_has_right_copies) l_Job_has_right_copies c_Job_has_right_copies k_Job_has_right_copies
  have b_Job_has_right_copies := F_Job_has_right_copies.binds (ps := ["self"]) fun _ _ _ _ _ _ us hl => bd1 hl fun _ => rfl
  have F_Job_has_copy_on := fun_mk (st := s_Job_has_copy_on) l_Job_has_copy_on c_Job_has_copy_on k_Job_has_copy_on
  have b_Job_has_copy_on := F_Job_has_copy_on.binds (ps := ["self", "i"]) fun _ _ _ _ _ _ us hl => bd2 hl fun _ _ => rfl
  have F_Job_runs := fun_mk (st := s_Job_runs) l_Job_runs c_Job_runs k_Job_runs
  have b_Job_runs := F_Job_runs.binds (ps := ["self"]) fun _ _ _ _ _ _ us hl => bd1 hl fun _ => rfl
  have F_Job_run_on := fun_mk (st := s_Job_run_on) l_Job_run_on c_Job_run_on k_Job_run_on
  have b_Job_run_on := F_Job_run_on.binds (ps := ["self", "places"]) fun _ _ _ _ _ _ us hl => bd2 hl fun _ _ => rfl
  have F_Job_wait := fun_mk (st := s_Job_wait) l_Job_wait c_Job_wait k_Job_wait
  have b_Job_wait := F_Job_wait.binds (ps := ["self"]) fun _ _ _ _ _ _ us hl => bd1 hl fun _ => rfl
  have F_places_for := fun_mk (st := s_places_for) l_places_for c_places_for k_places_for
  have b_places_for := F_places_for.binds (ps := ["job", "machines", "free"]) fun _ _ _ _ _ _ us hl => bd3 hl fun _ _ _ => rfl
  have F_copies_that_fit := fun_mk (st := s_copies_that_fit) l_copies_that_fit c_copies_that_fit k_copies_that_fit
  have b_copies_that_fit := F_copies_that_fit.binds (ps := ["job", "machine", "room"]) fun _ _ _ _ _ _ us hl => bd3 hl fun _ _ _ => rfl
  have F_free_beside := fun_mk (st := s_free_beside) l_free_beside c_free_beside k_free_beside
  have b_free_beside := F_free_beside.binds (ps := ["free", "job"]) fun _ _ _ _ _ _ us hl => bd2 hl fun _ _ => rfl
  have F_room_beside := fun_mk (st := s_room_beside) l_room_beside c_room_beside k_room_beside
  have b_room_beside := F_room_beside.binds (ps := ["room", "job", "count"]) fun _ _ _ _ _ _ us hl => bd3 hl fun _ _ _ => rfl
  have F_Yard_init := fun_mk (st := s_Yard_init) l_Yard_init c_Yard_init k_Yard_init
  have b_Yard_init := F_Yard_init.binds (ps := ["self"]) fun _ _ _ _ _ _ us hl => bd1 hl fun _ => rfl
  have F_Yard_jo_start := fun_mk (st := s_Yard_jo_start) l_Yard_jo_start c_Yard_jo_start k_Yard_jo_start
  have b_Yard_jo_start := F_Yard_jo_start.binds (ps := ["self"]) fun _ _ _ _ _ _ us hl => bd1 hl fun _ => rfl
  have F_Yard_jo_machine := fun_mk (st := s_Yard_jo_machine) l_Yard_jo_machine c_Yard_jo_machine k_Yard_jo_machine
  have b_Yard_jo_machine := F_Yard_jo_machine.binds (ps := ["self", "i", "machine"]) fun _ _ _ _ _ _ us hl => bd3 hl fun _ _ _ => rfl
  have F_Yard_jo_down := fun_mk (st := s_Yard_jo_down) l_Yard_jo_down c_Yard_jo_down k_Yard_jo_down
  have b_Yard_jo_down := F_Yard_jo_down.binds (ps := ["self", "i"]) fun _ _ _ _ _ _ us hl => bd2 hl fun _ _ => rfl
  have F_Yard_jo_job := fun_mk (st := s_Yard_jo_job) l_Yard_jo_job c_Yard_jo_job k_Yard_jo_job
  have b_Yard_jo_job := F_Yard_jo_job.binds (ps := ["self", "j", "job"]) fun _ _ _ _ _ _ us hl => bd3 hl fun _ _ _ => rfl
  have F_Yard_jo_end := fun_mk (st := s_Yard_jo_end) l_Yard_jo_end c_Yard_jo_end k_Yard_jo_end
  have b_Yard_jo_end := F_Yard_jo_end.binds (ps := ["self", "j"]) fun _ _ _ _ _ _ us hl => bd2 hl fun _ _ => rfl
  have F_Yard_jo_turn := fun_mk (st := s_Yard_jo_turn) l_Yard_jo_turn c_Yard_jo_turn k_Yard_jo_turn
  have b_Yard_jo_turn := F_Yard_jo_turn.binds (ps := ["self"]) fun _ _ _ _ _ _ us hl => bd1 hl fun _ => rfl
  have F_Yard_jo_where := fun_mk (st := s_Yard_jo_where) l_Yard_jo_where c_Yard_jo_where k_Yard_jo_where
  have b_Yard_jo_where := F_Yard_jo_where.binds (ps := ["self", "j"]) fun _ _ _ _ _ _ us hl => bd2 hl fun _ _ => rfl
  have F_Yard_jo_free := fun_mk (st := s_Yard_jo_free) l_Yard_jo_free c_Yard_jo_free k_Yard_jo_free
  have b_Yard_jo_free := F_Yard_jo_free.binds (ps := ["self", "i"]) fun _ _ _ _ _ _ us hl => bd2 hl fun _ _ => rfl
  have F_Yard_running := fun_mk (st := s_Yard_running) l_Yard_running c_Yard_running k_Yard_running
  have b_Yard_running := F_Yard_running.binds (ps := ["self", "rank"]) fun _ _ _ _ _ _ us hl => bd2 hl fun _ _ => rfl
  have F_Yard_waiting := fun_mk (st := s_Yard_waiting) l_Yard_waiting c_Yard_waiting k_Yard_waiting
  have b_Yard_waiting := F_Yard_waiting.binds (ps := ["self", "rank"]) fun _ _ _ _ _ _ us hl => bd2 hl fun _ _ => rfl
  have F_Yard_place := fun_mk (st := s_Yard_place) l_Yard_place c_Yard_place k_Yard_place
  have b_Yard_place := F_Yard_place.binds (ps := ["self", "job", "free"]) fun _ _ _ _ _ _ us hl => bd3 hl fun _ _ _ => rfl
  have F_Yard_running_below := fun_mk (st := s_Yard_running_below) l_Yard_running_below c_Yard_running_below k_Yard_running_below
  have b_Yard_running_below := F_Yard_running_below.binds (ps := ["self", "rank"]) fun _ _ _ _ _ _ us hl => bd2 hl fun _ _ => rfl
  have F_put_in := fun_mk (st := s_put_in) l_put_in c_put_in k_put_in
  have b_put_in := F_put_in.binds (ps := ["there", "number", "last", "record"]) fun _ _ _ _ _ _ us hl => bd4 hl fun _ _ _ _ => rfl
  have F_answers := fun_mk (st := s_answers) l_answers c_answers k_answers
  have b_answers := F_answers.binds (ps := ["calls"]) fun _ _ _ _ _ _ us hl => bd1 hl fun _ => rfl
  have F_answer_to := fun_mk (st := s_answer_to) l_answer_to c_answer_to k_answer_to
  have b_answer_to := F_answer_to.binds (ps := ["yard", "call", "numbers"]) fun _ _ _ _ _ _ us hl => bd3 hl fun _ _ _ => rfl
  have F_answered_number := fun_mk (st := s_answered_number) l_answered_number c_answered_number k_answered_number
  have b_answered_number := F_answered_number.binds (ps := ["yard", "call", "numbers"]) fun _ _ _ _ _ _ us hl => bd3 hl fun _ _ _ => rfl
  have T : Txt K mg ⟨C_Machine, C_Job, C_Yard, f_Machine_init, PySem.W.fnOf "__init__" "Machine.__init__" (defArgs s_Machine_init) (defBody s_Machine_init) (defScope s_Machine_init) .none kV_Machine_init dc_Machine_init pm_Machine_init an_Machine_init cd_Machine_init ct_Machine_init, f_Machine_is_as_told, PySem.W.fnOf "is_as_told" "Machine.is_as_told" (defArgs s_Machine_is_as_told) (defBody s_Machine_is_as_told) (defScope s_Machine_is_as_told) .none kV_Machine_is_as_told dc_Machine_is_as_told pm_Machine_is_as_told an_Machine_is_as_told cd_Machine_is_as_told ct_Machine_is_as_told, f_Job_init, PySem.W.fnOf "__init__" "Job.__init__" (defArgs s_Job_init) (defBody s_Job_init) (defScope s_Job_init) .none kV_Job_init dc_Job_init pm_Job_init an_Job_init cd_Job_init ct_Job_init, f_Job_is_as_told, PySem.W.fnOf "is_as_told" "Job.is_as_told" (defArgs s_Job_is_as_told) (defBody s_Job_is_as_told) (defScope s_Job_is_as_told) .none kV_Job_is_as_told dc_Job_is_as_told pm_Job_is_as_told an_Job_is_as_told cd_Job_is_as_told ct_Job_is_as_told, f_Job_has_right_wants, PySem.W.fnOf "has_right_wants" "Job.has_right_wants" (defArgs s_Job_has_right_wants) (defBody s_Job_has_right_wants) (defScope s_Job_has_right_wants) .none kV_Job_has_right_wants dc_Job_has_right_wants pm_Job_has_right_wants an_Job_has_right_wants cd_Job_has_right_wants ct_Job_has_right_wants, f_Job_has_right_copies, PySem.W.fnOf "has_right_copies" "Job.has_right_copies" (defArgs s_Job_has_right_copies) (defBody s_Job_has_right_copies) (defScope s_Job_has_right_copies) .none kV_Job_has_right_copies dc_Job_has_right_copies pm_Job_has_right_copies an_Job_has_right_copies cd_Job_has_right_copies ct_Job_has_right_copies, f_Job_has_copy_on, PySem.W.fnOf "has_copy_on" "Job.has_copy_on" (defArgs s_Job_has_copy_on) (defBody s_Job_has_copy_on) (defScope s_Job_has_copy_on) .none kV_Job_has_copy_on dc_Job_has_copy_on pm_Job_has_copy_on an_Job_has_copy_on cd_Job_has_copy_on ct_Job_has_copy_on, f_Job_runs, PySem.W.fnOf "runs" "Job.runs" (defArgs s_Job_runs) (defBody s_Job_runs) (defScope s_Job_runs) .none kV_Job_runs dc_Job_runs pm_Job_runs an_Job_runs cd_Job_runs ct_Job_runs, f_Job_run_on, PySem.W.fnOf "run_on" "Job.run_on" (defArgs s_Job_run_on) (defBody s_Job_run_on) (defScope s_Job_run_on) .none kV_Job_run_on dc_Job_run_on pm_Job_run_on an_Job_run_on cd_Job_run_on ct_Job_run_on, f_Job_wait, PySem.W.fnOf "wait" "Job.wait" (defArgs s_Job_wait) (defBody s_Job_wait) (defScope s_Job_wait) .none kV_Job_wait dc_Job_wait pm_Job_wait an_Job_wait cd_Job_wait ct_Job_wait, f_places_for, PySem.W.fnOf "places_for" "places_for" (defArgs s_places_for) (defBody s_places_for) (defScope s_places_for) .none kV_places_for dc_places_for pm_places_for an_places_for cd_places_for ct_places_for, f_copies_that_fit, PySem.W.fnOf "copies_that_fit" "copies_that_fit" (defArgs s_copies_that_fit) (defBody s_copies_that_fit) (defScope s_copies_that_fit) .none kV_copies_that_fit dc_copies_that_fit pm_copies_that_fit an_copies_that_fit cd_copies_that_fit ct_copies_that_fit, f_free_beside, PySem.W.fnOf "free_beside" "free_beside" (defArgs s_free_beside) (defBody s_free_beside) (defScope s_free_beside) .none kV_free_beside dc_free_beside pm_free_beside an_free_beside cd_free_beside ct_free_beside, f_room_beside, PySem.W.fnOf "room_beside" "room_beside" (defArgs s_room_beside) (defBody s_room_beside) (defScope s_room_beside) .none kV_room_beside dc_room_beside pm_room_beside an_room_beside cd_room_beside ct_room_beside, f_Yard_init, PySem.W.fnOf "__init__" "Yard.__init__" (defArgs s_Yard_init) (defBody s_Yard_init) (defScope s_Yard_init) .none kV_Yard_init dc_Yard_init pm_Yard_init an_Yard_init cd_Yard_init ct_Yard_init, f_Yard_jo_start, PySem.W.fnOf "jo_start" "Yard.jo_start" (defArgs s_Yard_jo_start) (defBody s_Yard_jo_start) (defScope s_Yard_jo_start) .none kV_Yard_jo_start dc_Yard_jo_start pm_Yard_jo_start an_Yard_jo_start cd_Yard_jo_start ct_Yard_jo_start, f_Yard_jo_machine, PySem.W.fnOf "jo_machine" "Yard.jo_machine" (defArgs s_Yard_jo_machine) (defBody s_Yard_jo_machine) (defScope s_Yard_jo_machine) .none kV_Yard_jo_machine dc_Yard_jo_machine pm_Yard_jo_machine an_Yard_jo_machine cd_Yard_jo_machine ct_Yard_jo_machine, f_Yard_jo_down, PySem.W.fnOf "jo_down" "Yard.jo_down" (defArgs s_Yard_jo_down) (defBody s_Yard_jo_down) (defScope s_Yard_jo_down) .none kV_Yard_jo_down dc_Yard_jo_down pm_Yard_jo_down an_Yard_jo_down cd_Yard_jo_down ct_Yard_jo_down, f_Yard_jo_job, PySem.W.fnOf "jo_job" "Yard.jo_job" (defArgs s_Yard_jo_job) (defBody s_Yard_jo_job) (defScope s_Yard_jo_job) .none kV_Yard_jo_job dc_Yard_jo_job pm_Yard_jo_job an_Yard_jo_job cd_Yard_jo_job ct_Yard_jo_job, f_Yard_jo_end, PySem.W.fnOf "jo_end" "Yard.jo_end" (defArgs s_Yard_jo_end) (defBody s_Yard_jo_end) (defScope s_Yard_jo_end) .none kV_Yard_jo_end dc_Yard_jo_end pm_Yard_jo_end an_Yard_jo_end cd_Yard_jo_end ct_Yard_jo_end, f_Yard_jo_turn, PySem.W.fnOf "jo_turn" "Yard.jo_turn" (defArgs s_Yard_jo_turn) (defBody s_Yard_jo_turn) (defScope s_Yard_jo_turn) .none kV_Yard_jo_turn dc_Yard_jo_turn pm_Yard_jo_turn an_Yard_jo_turn cd_Yard_jo_turn ct_Yard_jo_turn, f_Yard_jo_where, PySem.W.fnOf "jo_where" "Yard.jo_where" (defArgs s_Yard_jo_where) (defBody s_Yard_jo_where) (defScope s_Yard_jo_where) .none kV_Yard_jo_where dc_Yard_jo_where pm_Yard_jo_where an_Yard_jo_where cd_Yard_jo_where ct_Yard_jo_where, f_Yard_jo_free, PySem.W.fnOf "jo_free" "Yard.jo_free" (defArgs s_Yard_jo_free) (defBody s_Yard_jo_free) (defScope s_Yard_jo_free) .none kV_Yard_jo_free dc_Yard_jo_free pm_Yard_jo_free an_Yard_jo_free cd_Yard_jo_free ct_Yard_jo_free, f_Yard_running, PySem.W.fnOf "running" "Yard.running" (defArgs s_Yard_running) (defBody s_Yard_running) (defScope s_Yard_running) .none kV_Yard_running dc_Yard_running pm_Yard_running an_Yard_running cd_Yard_running ct_Yard_running, f_Yard_waiting, PySem.W.fnOf "waiting" "Yard.waiting" (defArgs s_Yard_waiting) (defBody s_Yard_waiting) (defScope s_Yard_waiting) .none kV_Yard_waiting dc_Yard_waiting pm_Yard_waiting an_Yard_waiting cd_Yard_waiting ct_Yard_waiting, f_Yard_place, PySem.W.fnOf "place" "Yard.place" (defArgs s_Yard_place) (defBody s_Yard_place) (defScope s_Yard_place) .none kV_Yard_place dc_Yard_place pm_Yard_place an_Yard_place cd_Yard_place ct_Yard_place, f_Yard_running_below, PySem.W.fnOf "running_below" "Yard.running_below" (defArgs s_Yard_running_below) (defBody s_Yard_running_below) (defScope s_Yard_running_below) .none kV_Yard_running_below dc_Yard_running_below pm_Yard_running_below an_Yard_running_below cd_Yard_running_below ct_Yard_running_below, f_put_in, PySem.W.fnOf "put_in" "put_in" (defArgs s_put_in) (defBody s_put_in) (defScope s_put_in) .none kV_put_in dc_put_in pm_put_in an_put_in cd_put_in ct_put_in, f_answers, PySem.W.fnOf "answers" "answers" (defArgs s_answers) (defBody s_answers) (defScope s_answers) .none kV_answers dc_answers pm_answers an_answers cd_answers ct_answers, f_answer_to, PySem.W.fnOf "answer_to" "answer_to" (defArgs s_answer_to) (defBody s_answer_to) (defScope s_answer_to) .none kV_answer_to dc_answer_to pm_answer_to an_answer_to cd_answer_to ct_answer_to, f_answered_number, PySem.W.fnOf "answered_number" "answered_number" (defArgs s_answered_number) (defBody s_answered_number) (defScope s_answered_number) .none kV_answered_number dc_answered_number pm_answered_number an_answered_number cd_answered_number ct_answered_number, .int (16777216) t_MOST_ROOM, .int (7) t_LAST_ZONE, .int (16) t_MOST_COPIES, .int (16) t_MOST_SPREAD, .int (7) t_LAST_RANK, .int (63) t_LAST_MACHINE, .int (127) t_LAST_JOB, .int (-2) t_NOT_THERE, .int (-11) t_WAITS, .int (-11) t_NONE_CAN_BE_PLACED, .int (-17) t_THERE_ALREADY, .int (-22) t_NOT_AS_TOLD, .int (0) t_JO_START, .int (1) t_JO_MACHINE, .int (2) t_JO_DOWN, .int (3) t_JO_JOB, .int (4) t_JO_END, .int (5) t_JO_TURN, .int (6) t_JO_WHERE, .int (7) t_JO_FREE, .int (0) t_FORM_OF_A_NUMBER, .int (1) t_FORM_OF_A_TURN, .int (2) t_FORM_OF_PLACES, .int (3) t_FORM_OF_ROOM, dd_NUMBERS_BEHIND⟩ := ⟨⟨pg_Machine, hd_Machine, po_Machine, sa_Machine⟩, PySem.W.mg_of X G aC_Machine, ⟨mk_Machine, a_Machine_init, i_Machine_init, kc_Machine⟩, na_Machine_has, na_Machine_labels, na_Machine_zone, na_Machine_none, ⟨pg_Job, hd_Job, po_Job, sa_Job⟩, PySem.W.mg_of X G aC_Job, ⟨mk_Job, a_Job_init, i_Job_init, kc_Job⟩, na_Job_wants, na_Job_needs, na_Job_never, na_Job_copies, na_Job_apart, na_Job_spread, na_Job_rank, na_Job_places, ⟨pg_Yard, hd_Yard, po_Yard, sa_Yard⟩, PySem.W.mg_of X G aC_Yard, ⟨mk_Yard, a_Yard_init, i_Yard_init, kc_Yard⟩, na_Yard_machines, na_Yard_jobs, F_Machine_init, b_Machine_init, F_Machine_is_as_told, b_Machine_is_as_told, ⟨a_Machine_is_as_told, i_Machine_is_as_told, k_Machine_is_as_told⟩, F_Job_init, b_Job_init, F_Job_is_as_told, b_Job_is_as_told, ⟨a_Job_is_as_told, i_Job_is_as_told, k_Job_is_as_told⟩, F_Job_has_right_wants, b_Job_has_right_wants, ⟨a_Job_has_right_wants, i_Job_has_right_wants, k_Job_has_right_wants⟩, F_Job_has_right_copies, b_Job_has_right_copies, ⟨a_Job_has_right_copies, i_Job_has_right_copies, k_Job_has_right_copies⟩, F_Job_has_copy_on, b_Job_has_copy_on, ⟨a_Job_has_copy_on, i_Job_has_copy_on, k_Job_has_copy_on⟩, F_Job_runs, b_Job_runs, ⟨a_Job_runs, i_Job_runs, k_Job_runs⟩, F_Job_run_on, b_Job_run_on, ⟨a_Job_run_on, i_Job_run_on, k_Job_run_on⟩, F_Job_wait, b_Job_wait, ⟨a_Job_wait, i_Job_wait, k_Job_wait⟩, F_places_for, b_places_for, PySem.W.mg_of X G a_places_for, F_copies_that_fit, b_copies_that_fit, PySem.W.mg_of X G a_copies_that_fit, F_free_beside, b_free_beside, PySem.W.mg_of X G a_free_beside, F_room_beside, b_room_beside, PySem.W.mg_of X G a_room_beside, F_Yard_init, b_Yard_init, F_Yard_jo_start, b_Yard_jo_start, ⟨a_Yard_jo_start, i_Yard_jo_start, k_Yard_jo_start⟩, F_Yard_jo_machine, b_Yard_jo_machine, ⟨a_Yard_jo_machine, i_Yard_jo_machine, k_Yard_jo_machine⟩, F_Yard_jo_down, b_Yard_jo_down, ⟨a_Yard_jo_down, i_Yard_jo_down, k_Yard_jo_down⟩, F_Yard_jo_job, b_Yard_jo_job, ⟨a_Yard_jo_job, i_Yard_jo_job, k_Yard_jo_job⟩, F_Yard_jo_end, b_Yard_jo_end, ⟨a_Yard_jo_end, i_Yard_jo_end, k_Yard_jo_end⟩, F_Yard_jo_turn, b_Yard_jo_turn, ⟨a_Yard_jo_turn, i_Yard_jo_turn, k_Yard_jo_turn⟩, F_Yard_jo_where, b_Yard_jo_where, ⟨a_Yard_jo_where, i_Yard_jo_where, k_Yard_jo_where⟩, F_Yard_jo_free, b_Yard_jo_free, ⟨a_Yard_jo_free, i_Yard_jo_free, k_Yard_jo_free⟩, F_Yard_running, b_Yard_running, ⟨a_Yard_running, i_Yard_running, k_Yard_running⟩, F_Yard_waiting, b_Yard_waiting, ⟨a_Yard_waiting, i_Yard_waiting, k_Yard_waiting⟩, F_Yard_place, b_Yard_place, ⟨a_Yard_place, i_Yard_place, k_Yard_place⟩, F_Yard_running_below, b_Yard_running_below, ⟨a_Yard_running_below, i_Yard_running_below, k_Yard_running_below⟩, F_put_in, b_put_in, PySem.W.mg_of X G a_put_in, F_answers, b_answers, PySem.W.mg_of X G a_answers, F_answer_to, b_answer_to, PySem.W.mg_of X G a_answer_to, F_answered_number, b_answered_number, PySem.W.mg_of X G a_answered_number, PySem.W.mg_of X G g_MOST_ROOM, ⟨t_MOST_ROOM, rfl⟩, PySem.W.mg_of X G g_LAST_ZONE, ⟨t_LAST_ZONE, rfl⟩, PySem.W.mg_of X G g_MOST_COPIES, ⟨t_MOST_COPIES, rfl⟩, PySem.W.mg_of X G g_MOST_SPREAD, ⟨t_MOST_SPREAD, rfl⟩, PySem.W.mg_of X G g_LAST_RANK, ⟨t_LAST_RANK, rfl⟩, PySem.W.mg_of X G g_LAST_MACHINE, ⟨t_LAST_MACHINE, rfl⟩, PySem.W.mg_of X G g_LAST_JOB, ⟨t_LAST_JOB, rfl⟩, PySem.W.mg_of X G g_NOT_THERE, ⟨t_NOT_THERE, rfl⟩, PySem.W.mg_of X G g_WAITS, ⟨t_WAITS, rfl⟩, PySem.W.mg_of X G g_NONE_CAN_BE_PLACED, ⟨t_NONE_CAN_BE_PLACED, rfl⟩, PySem.W.mg_of X G g_THERE_ALREADY, ⟨t_THERE_ALREADY, rfl⟩, PySem.W.mg_of X G g_NOT_AS_TOLD, ⟨t_NOT_AS_TOLD, rfl⟩, PySem.W.mg_of X G g_JO_START, ⟨t_JO_START, rfl⟩, PySem.W.mg_of X G g_JO_MACHINE, ⟨t_JO_MACHINE, rfl⟩, PySem.W.mg_of X G g_JO_DOWN, ⟨t_JO_DOWN, rfl⟩, PySem.W.mg_of X G g_JO_JOB, ⟨t_JO_JOB, rfl⟩, PySem.W.mg_of X G g_JO_END, ⟨t_JO_END, rfl⟩, PySem.W.mg_of X G g_JO_TURN, ⟨t_JO_TURN, rfl⟩, PySem.W.mg_of X G g_JO_WHERE, ⟨t_JO_WHERE, rfl⟩, PySem.W.mg_of X G g_JO_FREE, ⟨t_JO_FREE, rfl⟩, PySem.W.mg_of X G g_FORM_OF_A_NUMBER, ⟨t_FORM_OF_A_NUMBER, rfl⟩, PySem.W.mg_of X G g_FORM_OF_A_TURN, ⟨t_FORM_OF_A_TURN, rfl⟩, PySem.W.mg_of X G g_FORM_OF_PLACES, ⟨t_FORM_OF_PLACES, rfl⟩, PySem.W.mg_of X G g_FORM_OF_ROOM, ⟨t_FORM_OF_ROOM, rfl⟩, PySem.W.mg_of X G g_NUMBERS_BEHIND, ⟨⟨[⟨0, .int 0 t_NUMBERS_BEHIND_0, .int 0 u_NUMBERS_BEHIND_0⟩, ⟨1, .int 1 t_NUMBERS_BEHIND_1, .int 8 u_NUMBERS_BEHIND_1⟩, ⟨2, .int 2 t_NUMBERS_BEHIND_2, .int 1 u_NUMBERS_BEHIND_2⟩, ⟨3, .int 3 t_NUMBERS_BEHIND_3, .int 11 u_NUMBERS_BEHIND_3⟩, ⟨4, .int 4 t_NUMBERS_BEHIND_4, .int 1 u_NUMBERS_BEHIND_4⟩, ⟨5, .int 5 t_NUMBERS_BEHIND_5, .int 0 u_NUMBERS_BEHIND_5⟩, ⟨6, .int 6 t_NUMBERS_BEHIND_6, .int 1 u_NUMBERS_BEHIND_6⟩, ⟨7, .int 7 t_NUMBERS_BEHIND_7, .int 1 u_NUMBERS_BEHIND_7⟩], ep_NUMBERS_BEHIND, l_NUMBERS_BEHIND, .cons ⟨rfl, ⟨_, rfl⟩, ⟨_, rfl⟩⟩ (.cons ⟨rfl, ⟨_, rfl⟩, ⟨_, rfl⟩⟩ (.cons ⟨rfl, ⟨_, rfl⟩, ⟨_, rfl⟩⟩ (.cons ⟨rfl, ⟨_, rfl⟩, ⟨_, rfl⟩⟩ (.cons ⟨rfl, ⟨_, rfl⟩, ⟨_, rfl⟩⟩ (.cons ⟨rfl, ⟨_, rfl⟩, ⟨_, rfl⟩⟩ (.cons ⟨rfl, ⟨_, rfl⟩, ⟨_, rfl⟩⟩ (.cons ⟨rfl, ⟨_, rfl⟩, ⟨_, rfl⟩⟩ (.nil))))))))⟩, by decide, lo_NUMBERS_BEHIND⟩, PySem.W.mg_none_of X G z_max, PySem.W.mg_none_of X G z_len, PySem.W.mg_none_of X G z_sorted, PySem.W.mg_none_of X G z_min, PySem.W.mg_none_of X G z_zip, PySem.W.mg_none_of X G z_dict, PySem.W.mg_none_of X G z_range⟩
  have e0 := hmg.symm.trans T.mg_answers
  cases e0
  exact ⟨_, fun s u => .of_eq rfl, fun base _ _ => ok_answers T⟩
end Jo
end
set_option Elab.async false
open PySem PySem.W
set_option maxRecDepth 100000 in
set_option maxHeartbeats 0 in
theorem PySem.Challenge.cw_jobyard_s01_answers_holds : PySem.Challenge.rw_jobyard_s01_answers.Holds := by
  w_on; k_headS; (case hw => exact ⟨[.list [.int 0]], by decide +kernel, by decide +kernel⟩)
  k_fillS
  refine Jo.walkA rfl (fun w h Y => PySem.W.kIn_of Y) ?F
  case F =>
    intro w mg fa h KX G hmg
    refine' Jo.top_mk KX G hmg ?aC_Machine ?aC_Job ?aC_Yard ?a_Machine_init ?i_Machine_init ?l_Machine_init ?c_Machine_init ?k_Machine_init ?a_Machine_is_as_told ?i_Machine_is_as_told ?l_Machine_is_as_told ?c_Machine_is_as_told ?k_Machine_is_as_told ?a_Job_init ?i_Job_init ?l_Job_init ?c_Job_init ?k_Job_init ?a_Job_is_as_told ?i_Job_is_as_told ?l_Job_is_as_told ?c_Job_is_as_told ?k_Job_is_as_told ?a_Job_has_right_wants ?i_Job_has_right_wants ?l_Job_has_right_wants ?c_Job_has_right_wants ?k_Job_has_right_wants ?a_Job_has_right_copies ?i_Job_has_right_copies ?l_Job_has_right_copies ?c_Job_has_right_copies ?k_Job_has_right_copies ?a_Job_has_copy_on ?i_Job_has_copy_on ?l_Job_has_copy_on ?c_Job_has_copy_on ?k_Job_has_copy_on ?a_Job_runs ?i_Job_runs ?l_Job_runs ?c_Job_runs ?k_Job_runs ?a_Job_run_on ?i_Job_run_on ?l_Job_run_on ?c_Job_run_on ?k_Job_run_on ?a_Job_wait ?i_Job_wait ?l_Job_wait ?c_Job_wait ?k_Job_wait ?a_places_for ?l_places_for ?c_places_for ?k_places_for ?a_copies_that_fit ?l_copies_that_fit ?c_copies_that_fit ?k_copies_that_fit ?a_free_beside ?l_free_beside ?c_free_beside ?k_free_beside ?a_room_beside ?l_room_beside ?c_room_beside ?k_room_beside ?a_Yard_init ?i_Yard_init ?l_Yard_init ?c_Yard_init ?k_Yard_init ?a_Yard_jo_start ?i_Yard_jo_start ?l_Yard_jo_start ?c_Yard_jo_start ?k_Yard_jo_start ?a_Yard_jo_machine ?i_Yard_jo_machine ?l_Yard_jo_machine ?c_Yard_jo_machine ?k_Yard_jo_machine ?a_Yard_jo_down ?i_Yard_jo_down ?l_Yard_jo_down ?c_Yard_jo_down ?k_Yard_jo_down ?a_Yard_jo_job ?i_Yard_jo_job ?l_Yard_jo_job ?c_Yard_jo_job ?k_Yard_jo_job ?a_Yard_jo_end ?i_Yard_jo_end ?l_Yard_jo_end ?c_Yard_jo_end ?k_Yard_jo_end ?a_Yard_jo_turn ?i_Yard_jo_turn ?l_Yard_jo_turn ?c_Yard_jo_turn ?k_Yard_jo_turn ?a_Yard_jo_where ?i_Yard_jo_where ?l_Yard_jo_where ?c_Yard_jo_where ?k_Yard_jo_where ?a_Yard_jo_free ?i_Yard_jo_free ?l_Yard_jo_free ?c_Yard_jo_free ?k_Yard_jo_free ?a_Yard_running ?i_Yard_running ?l_Yard_running ?c_Yard_running ?k_Yard_running ?a_Yard_waiting ?i_Yard_waiting ?l_Yard_waiting ?c_Yard_waiting ?k_Yard_waiting ?a_Yard_place ?i_Yard_place ?l_Yard_place ?c_Yard_place ?k_Yard_place ?a_Yard_running_below ?i_Yard_running_below ?l_Yard_running_below ?c_Yard_running_below ?k_Yard_running_below ?a_put_in ?l_put_in ?c_put_in ?k_put_in ?a_answers ?l_answers ?c_answers ?k_answers ?a_answer_to ?l_answer_to ?c_answer_to ?k_answer_to ?a_answered_number ?l_answered_number ?c_answered_number ?k_answered_number ?pg_Machine ?hd_Machine ?po_Machine ?sa_Machine ?mk_Machine ?kc_Machine ?na_Machine_has ?na_Machine_labels ?na_Machine_zone ?na_Machine_none ?pg_Job ?hd_Job ?po_Job ?sa_Job ?mk_Job ?kc_Job ?na_Job_wants ?na_Job_needs ?na_Job_never ?na_Job_copies ?na_Job_apart ?na_Job_spread ?na_Job_rank ?na_Job_places ?pg_Yard ?hd_Yard ?po_Yard ?sa_Yard ?mk_Yard ?kc_Yard ?na_Yard_machines ?na_Yard_jobs ?g_MOST_ROOM ?g_LAST_ZONE ?g_MOST_COPIES ?g_MOST_SPREAD ?g_LAST_RANK ?g_LAST_MACHINE ?g_LAST_JOB ?g_NOT_THERE ?g_WAITS ?g_NONE_CAN_BE_PLACED ?g_THERE_ALREADY ?g_NOT_AS_TOLD ?g_JO_START ?g_JO_MACHINE ?g_JO_DOWN ?g_JO_JOB ?g_JO_END ?g_JO_TURN ?g_JO_WHERE ?g_JO_FREE ?g_FORM_OF_A_NUMBER ?g_FORM_OF_A_TURN ?g_FORM_OF_PLACES ?g_FORM_OF_ROOM ?g_NUMBERS_BEHIND ?l_NUMBERS_BEHIND ?lo_NUMBERS_BEHIND ?z_max ?z_len ?z_sorted ?z_min ?z_zip ?z_dict ?z_range
    (case aC_Machine => k_is)
    (case aC_Job => k_is)
    (case aC_Yard => k_is)
    (case a_Machine_init => k_is)
    (case i_Machine_init => k_is)
    (case l_Machine_init => k_is)
    (case c_Machine_init => k_is)
    (case k_Machine_init => k_is)
    (case a_Machine_is_as_told => k_is)
    (case i_Machine_is_as_told => k_is)
    (case l_Machine_is_as_told => k_is)
    (case c_Machine_is_as_told => k_is)
    (case k_Machine_is_as_told => k_is)
    (case a_Job_init => k_is)
    (case i_Job_init => k_is)
    (case l_Job_init => k_is)
    (case c_Job_init => k_is)
    (case k_Job_init => k_is)
    (case a_Job_is_as_told => k_is)
    (case i_Job_is_as_told => k_is)
    (case l_Job_is_as_told => k_is)
    (case c_Job_is_as_told => k_is)
    (case k_Job_is_as_told => k_is)
    (case a_Job_has_right_wants => k_is)
    (case i_Job_has_right_wants => k_is)
    (case l_Job_has_right_wants => k_is)
    (case c_Job_has_right_wants => k_is)
    (case k_Job_has_right_wants => k_is)
    (case a_Job_has_right_copies => k_is)
    (case i_Job_has_right_copies => k_is)
    (case l_Job_has_right_copies => k_is)
    (case c_Job_has_right_copies => k_is)
    (case k_Job_has_right_copies => k_is)
    (case a_Job_has_copy_on => k_is)
    (case i_Job_has_copy_on => k_is)
    (case l_Job_has_copy_on => k_is)
    (case c_Job_has_copy_on => k_is)
    (case k_Job_has_copy_on => k_is)
    (case a_Job_runs => k_is)
    (case i_Job_runs => k_is)
    (case l_Job_runs => k_is)
    (case c_Job_runs => k_is)
    (case k_Job_runs => k_is)
    (case a_Job_run_on => k_is)
    (case i_Job_run_on => k_is)
    (case l_Job_run_on => k_is)
    (case c_Job_run_on => k_is)
    (case k_Job_run_on => k_is)
    (case a_Job_wait => k_is)
    (case i_Job_wait => k_is)
    (case l_Job_wait => k_is)
    (case c_Job_wait => k_is)
    (case k_Job_wait => k_is)
    (case a_places_for => k_is)
    (case l_places_for => k_is)
    (case c_places_for => k_is)
    (case k_places_for => k_is)
    (case a_copies_that_fit => k_is)
    (case l_copies_that_fit => k_is)
    (case c_copies_that_fit => k_is)
    (case k_copies_that_fit => k_is)
    (case a_free_beside => k_is)
    (case l_free_beside => k_is)
    (case c_free_beside => k_is)
    (case k_free_beside => k_is)
    (case a_room_beside => k_is)
    (case l_room_beside => k_is)
    (case c_room_beside => k_is)
    (case k_room_beside => k_is)
    (case a_Yard_init => k_is)
    (case i_Yard_init => k_is)
    (case l_Yard_init => k_is)
    (case c_Yard_init => k_is)
    (case k_Yard_init => k_is)
    (case a_Yard_jo_start => k_is)
    (case i_Yard_jo_start => k_is)
    (case l_Yard_jo_start => k_is)
    (case c_Yard_jo_start => k_is)
    (case k_Yard_jo_start => k_is)
    (case a_Yard_jo_machine => k_is)
    (case i_Yard_jo_machine => k_is)
    (case l_Yard_jo_machine => k_is)
    (case c_Yard_jo_machine => k_is)
    (case k_Yard_jo_machine => k_is)
    (case a_Yard_jo_down => k_is)
    (case i_Yard_jo_down => k_is)
    (case l_Yard_jo_down => k_is)
    (case c_Yard_jo_down => k_is)
    (case k_Yard_jo_down => k_is)
    (case a_Yard_jo_job => k_is)
    (case i_Yard_jo_job => k_is)
    (case l_Yard_jo_job => k_is)
    (case c_Yard_jo_job => k_is)
    (case k_Yard_jo_job => k_is)
    (case a_Yard_jo_end => k_is)
    (case i_Yard_jo_end => k_is)
    (case l_Yard_jo_end => k_is)
    (case c_Yard_jo_end => k_is)
    (case k_Yard_jo_end => k_is)
    (case a_Yard_jo_turn => k_is)
    (case i_Yard_jo_turn => k_is)
    (case l_Yard_jo_turn => k_is)
    (case c_Yard_jo_turn => k_is)
    (case k_Yard_jo_turn => k_is)
    (case a_Yard_jo_where => k_is)
    (case i_Yard_jo_where => k_is)
    (case l_Yard_jo_where => k_is)
    (case c_Yard_jo_where => k_is)
    (case k_Yard_jo_where => k_is)
    (case a_Yard_jo_free => k_is)
    (case i_Yard_jo_free => k_is)
    (case l_Yard_jo_free => k_is)
    (case c_Yard_jo_free => k_is)
    (case k_Yard_jo_free => k_is)
    (case a_Yard_running => k_is)
    (case i_Yard_running => k_is)
    (case l_Yard_running => k_is)
    (case c_Yard_running => k_is)
    (case k_Yard_running => k_is)
    (case a_Yard_waiting => k_is)
    (case i_Yard_waiting => k_is)
    (case l_Yard_waiting => k_is)
    (case c_Yard_waiting => k_is)
    (case k_Yard_waiting => k_is)
    (case a_Yard_place => k_is)
    (case i_Yard_place => k_is)
    (case l_Yard_place => k_is)
    (case c_Yard_place => k_is)
    (case k_Yard_place => k_is)
    (case a_Yard_running_below => k_is)
    (case i_Yard_running_below => k_is)
    (case l_Yard_running_below => k_is)
    (case c_Yard_running_below => k_is)
    (case k_Yard_running_below => k_is)
    (case a_put_in => k_is)
    (case l_put_in => k_is)
    (case c_put_in => k_is)
    (case k_put_in => k_is)
    (case a_answers => k_is)
    (case l_answers => k_is)
    (case c_answers => k_is)
    (case k_answers => k_is)
    (case a_answer_to => k_is)
    (case l_answer_to => k_is)
    (case c_answer_to => k_is)
    (case k_answer_to => k_is)
    (case a_answered_number => k_is)
    (case l_answered_number => k_is)
    (case c_answered_number => k_is)
    (case k_answered_number => k_is)
    (case pg_Machine => k_is)
    (case hd_Machine => k_is)
    (case po_Machine => k_is)
    (case sa_Machine => k_is)
    (case mk_Machine => k_is)
    (case kc_Machine => k_is)
    (case na_Machine_has => k_is)
    (case na_Machine_labels => k_is)
    (case na_Machine_zone => k_is)
    (case na_Machine_none => k_is)
    (case pg_Job => k_is)
    (case hd_Job => k_is)
    (case po_Job => k_is)
    (case sa_Job => k_is)
    (case mk_Job => k_is)
    (case kc_Job => k_is)
    (case na_Job_wants => k_is)
    (case na_Job_needs => k_is)
    (case na_Job_never => k_is)
    (case na_Job_copies => k_is)
    (case na_Job_apart => k_is)
    (case na_Job_spread => k_is)
    (case na_Job_rank => k_is)
    (case na_Job_places => k_is)
    (case pg_Yard => k_is)
    (case hd_Yard => k_is)
    (case po_Yard => k_is)
    (case sa_Yard => k_is)
    (case mk_Yard => k_is)
    (case kc_Yard => k_is)
    (case na_Yard_machines => k_is)
    (case na_Yard_jobs => k_is)
    (case g_MOST_ROOM => k_is)
    (case g_LAST_ZONE => k_is)
    (case g_MOST_COPIES => k_is)
    (case g_MOST_SPREAD => k_is)
    (case g_LAST_RANK => k_is)
    (case g_LAST_MACHINE => k_is)
    (case g_LAST_JOB => k_is)
    (case g_NOT_THERE => k_is)
    (case g_WAITS => k_is)
    (case g_NONE_CAN_BE_PLACED => k_is)
    (case g_THERE_ALREADY => k_is)
    (case g_NOT_AS_TOLD => k_is)
    (case g_JO_START => k_is)
    (case g_JO_MACHINE => k_is)
    (case g_JO_DOWN => k_is)
    (case g_JO_JOB => k_is)
    (case g_JO_END => k_is)
    (case g_JO_TURN => k_is)
    (case g_JO_WHERE => k_is)
    (case g_JO_FREE => k_is)
    (case g_FORM_OF_A_NUMBER => k_is)
    (case g_FORM_OF_A_TURN => k_is)
    (case g_FORM_OF_PLACES => k_is)
    (case g_FORM_OF_ROOM => k_is)
    (case g_NUMBERS_BEHIND => k_is)
    (case l_NUMBERS_BEHIND => k_is)
    (case lo_NUMBERS_BEHIND => decide +kernel)
    (case z_max => k_is)
    (case z_len => k_is)
    (case z_sorted => k_is)
    (case z_min => k_is)
    (case z_zip => k_is)
    (case z_dict => k_is)
    (case z_range => k_is)
#print axioms PySem.Challenge.cw_jobyard_s01_answers_holds
