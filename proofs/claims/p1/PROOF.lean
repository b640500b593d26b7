import PyProof.Rows.All
import Wide.All
import OpenK.AllK
import Wide.FinOn
import PyProof.EqAt
import PyProof.EqKinds
import PyProof.TupleCall
import KE.BitLaws
import PyProof.SetScanFacts
import PyProof.SetKind
import PyProof.TupleKey
import PyProof.IsRules
import PyProof.Rows.SetFrom
import PyProof.CollectWalk
import PyProof.SetRoads
import PyProof.FactsAll.set_1
import PyProof.TupleIter
import PyProof.ForAny
import KE.KSortTupG
import PyProof.Rows.SortWalk
import KE.KSortTupUse
import Open.SpecLaws
import KE.OsHead
import KE.OsGo
import PySem.Challenge.RW_hullpoints_s01_answers
set_option Elab.async false
set_option linter.all false
set_option maxRecDepth 100000
set_option maxHeartbeats 4000000
section
namespace L2
open PySem PySem.Spec PyProof.Rows
abbrev Key := Sum Int Str
def keyIs : Key → Value → Bool
  | .inl k, v => Value.isInt k v
  | .inr x, v => Value.isStrOf x v
def keyH (w : World) : Key → Int
  | .inl k => hashInt k
  | .inr x => hashStr w x
theorem keyIs_shape : ∀ {k : Key} {v : Value}, keyIs k v = true → (∃ i t, k = Sum.inl i ∧ v = Value.int i t) ∨ (∃ x t, k = Sum.inr x ∧ v = Value.str x t)
  | .inl i, v, h => by
    obtain ⟨t, e⟩ := Value.isInt_shape (k := i) (v := v) h
    exact .inl ⟨i, t, rfl, e⟩
  | .inr x, v, h => by
    obtain ⟨t, e⟩ := Value.isStrOf_shape (x := x) (v := v) h
    exact .inr ⟨x, t, rfl, e⟩
theorem key_ll (a b : Int) : decide ((Sum.inl a : Key) = Sum.inl b) = (a == b) := by
  by_cases e : a = b
  · subst e; simp
  · have h : ¬ (Sum.inl a : Key) = Sum.inl b := fun q => e (Sum.inl.inj q)
    rw [decide_eq_false h]
    exact (beq_eq_false_iff_ne.mpr e).symm
theorem key_rr (a b : Str) : decide ((Sum.inr a : Key) = Sum.inr b) = decide (a = b) := by
  by_cases e : a = b
  · subst e; simp
  · have h : ¬ (Sum.inr a : Key) = Sum.inr b := fun q => e (Sum.inr.inj q)
    rw [decide_eq_false h, decide_eq_false e]
theorem key_lr (a : Int) (b : Str) : decide ((Sum.inl a : Key) = Sum.inr b) = false := decide_eq_false (fun q => nomatch q)
theorem key_rl (a : Str) (b : Int) : decide ((Sum.inr a : Key) = Sum.inl b) = false := decide_eq_false (fun q => nomatch q)
def mixKind (prog : Program) (w : World) : PySem.KeyKind prog w Key where
  is := keyIs
  hash := keyH w
  inj := fun v a b ha hb => by
    rcases keyIs_shape ha with ⟨i, t, rfl, rfl⟩ | ⟨x, t, rfl, rfl⟩
    · rcases keyIs_shape hb with ⟨j, u, rfl, e⟩ | ⟨y, u, rfl, e⟩
      · injection e with e1 _; rw [e1]
      · exact nomatch e
    · rcases keyIs_shape hb with ⟨j, u, rfl, e⟩ | ⟨y, u, rfl, e⟩
      · exact nomatch e
      · injection e with e1 _; rw [e1]
  byValue := fun k v h => by
    rcases keyIs_shape h with ⟨i, t, rfl, rfl⟩ | ⟨x, t, rfl, rfl⟩ <;> rfl
  pyHash := fun hv h => by
    rcases keyIs_shape hv with ⟨i, t, rfl, rfl⟩ | ⟨x, t, rfl, rfl⟩
    · exact wpAny_pyHash_int h
    · exact wpAny_pyHash_str h
  eqBool := fun hu hv h => by
    rcases keyIs_shape hu with ⟨i, t, rfl, rfl⟩ | ⟨x, t, rfl, rfl⟩
    · rcases keyIs_shape hv with ⟨j, u, rfl, rfl⟩ | ⟨y, u, rfl, rfl⟩
      · rw [key_ll] at h; exact wpAny_eqBool_int h
      · rw [key_lr] at h; exact SeqAt.EqAt.int_str i t y u _ _ _ _ h
    · rcases keyIs_shape hv with ⟨j, u, rfl, rfl⟩ | ⟨y, u, rfl, rfl⟩
      · rw [key_rl] at h; exact SeqAt.EqAt.str_int x t j u _ _ _ _ h
      · rw [key_rr] at h; exact wpAny_eqBool_str h
  «strs» := fun k x t v h => by
    rcases keyIs_shape h with ⟨i, u, rfl, e⟩ | ⟨y, u, rfl, e⟩
    · exact nomatch e
    · injection e with e1 _
      subst e1
      cases v <;> rfl
end L2
namespace L2
open PySem PySem.Spec PyProof.Rows
inductive V where
  | non | bl (b : Bool) | int (i : Int) | str (x : Str) | byt (b : Array UInt8) | flt (b : UInt64) | ref (a : Addr) | ty (n : String)
  deriving DecidableEq
def RelV : V → Value → Prop
  | .non, u => u = Value.none
  | .bl b, u => u = Value.bool b
  | .int i, u => ∃ t, u = Value.int i t
  | .str x, u => ∃ t, u = Value.str x t
  | .byt b, u => ∃ t, u = Value.bytes b t
  | .flt b, u => ∃ t, u = Value.float b t
  | .ref a, u => u = Value.ref a
  | .ty n, u => u = Value.type n
abbrev Vals : List V → List Value → Prop := Paired RelV
theorem Vals.length {xs : List V} {us : List Value} (r : Vals xs us) : xs.length = us.length := Paired.length r
theorem Vals.get : ∀ {xs : List V} {us : List Value} {i : Nat} {x : V}, Vals xs us → xs[i]? = some x → ∃ u, us[i]? = some u ∧ RelV x u
  | _, _, _, _, .nil, e => by simp at e
  | _, _, 0, _, .cons r _, e => by simp at e; subst e; exact ⟨_, rfl, r⟩
  | _, _, i + 1, x, .cons _ t, e => by
    obtain ⟨u, h1, h2⟩ := Vals.get (i := i) (x := x) t (by simpa using e)
    exact ⟨u, by simpa using h1, h2⟩
theorem Vals.set {x : V} {u : Value} (r : RelV x u) : ∀ {xs : List V} {us : List Value} (i : Nat), Vals xs us → Vals (xs.set i x) (us.set i u)
  | _, _, _, .nil => .nil
  | _, _, 0, .cons _ t => .cons r t
  | _, _, i + 1, .cons q t => .cons q (Vals.set r i t)
theorem Vals.append : ∀ {xs ys : List V} {us ws : List Value}, Vals xs us → Vals ys ws → Vals (xs ++ ys) (us ++ ws)
  | _, _, _, _, .nil, s => s
  | _, _, _, _, .cons r t, s => .cons r (Vals.append t s)
theorem Vals.take : ∀ {xs : List V} {us : List Value} (n : Nat), Vals xs us → Vals (xs.take n) (us.take n)
  | _, _, 0, _ => .nil
  | _, _, _ + 1, .nil => .nil
  | _, _, n + 1, .cons r t => .cons r (Vals.take n t)
theorem Vals.drop : ∀ {xs : List V} {us : List Value} (n : Nat), Vals xs us → Vals (xs.drop n) (us.drop n)
  | _, _, 0, r => r
  | _, _, _ + 1, .nil => .nil
  | _, _, n + 1, .cons _ t => Vals.drop n t
def RelO : Option V → Option Value → Prop
  | some v, some u => RelV v u
  | none, none => True
  | _, _ => False
def KV {κ : Type} : List (κ × V) → List (κ × Value) → Prop := Paired fun (p : κ × V) (q : κ × Value) => p.1 = q.1 ∧ RelV p.2 q.2
def kV : Key → V
  | .inl i => .int i
  | .inr x => .str x
inductive HO where
  /-- a list -/
  | lst (xs : List V)
  /-- a tuple (never changes) -/
  | tup (xs : List V)
  /-- a dict whose keys are ints and texts; one whose keys are tuples of ints and texts (the empty one is both) -/
  | dK (kvs : List (Key × V)) | dT (kvs : List (List Key × V))
  /-- a set of ints: its members, its size -/
  | set (S : Int → Bool) (n : Nat)
  /-- an instance of the class at C, its dict at dx, its attributes -/
  | ins (C dx : Addr) (fs : List (Str × V))
  /-- the dict of the instance at x -/
  | own (x : Addr)
  /-- the dict of an exception -/
  | xd (fs : List (Str × V))
  /-- a bound method, f of x -/
  | met (f x : Addr)
  /-- a range object lo, lo + 1, .. below hi -/
  | rng (lo hi : Int)
  /-- a thing that is known to the object (the script; a dict while a loop walks it): read, never written while it is so -/
  | frz (o : Obj) (u : HO)
  /-- a code object's table -/
  | tbl (ps : Array Value)
  /-- any other thing, by what is true of its one object (a def of one's own: SetO a S n := HO.ext fun h => ..) -/
  | ext (φ : Heap → Prop)
abbrev Hp := Addr → Option HO
def upd (H : Hp) (a : Addr) (o : HO) : Hp := fun b => if b = a then some o else H b
theorem upd_same {H : Hp} {a : Addr} {o : HO} : upd H a o a = some o := by unfold upd; rw [if_pos rfl]
theorem upd_ne {H : Hp} {a b : Addr} {o : HO} (h : b ≠ a) : upd H a o b = H b := by unfold upd; rw [if_neg h]
theorem upd_upd {H : Hp} {a : Addr} {o u : HO} : upd (upd H a o) a u = upd H a u := by
  funext b; unfold upd; split <;> rfl
theorem ne_of_none {H : Hp} {a b : Addr} {o : HO} (h : H a = some o) (h' : H b = none) : a ≠ b := by
  intro e; subst e; rw [h] at h'; cases h'
section
variable (P : Program) (w : World)
def ObjOk (H : Hp) (h : Heap) (a : Addr) : HO → Prop
  | .lst xs => xs.length ≤ sizeLine ∧ ∃ (its : List Value) (n : Nat), Vals xs its ∧ h.get? a = some { cls := .type "list", data := .seq its.toArray n }
  | .tup xs => xs.length ≤ sizeLine ∧ ∃ its : List Value, Vals xs its ∧ IsTup h a its.toArray
  | .dK kvs => kvs.length ≤ sizeLine ∧ (a == sysModules) = false ∧ ∃ vs, KV kvs vs ∧ h.DictOf (mixKind P w) a vs
  | .dT kvs => kvs.length ≤ sizeLine ∧ (a == sysModules) = false ∧ ∃ xs : List (List Key × Addr × Value),
      Paired (fun (p : List Key × V) (q : List Key × Addr × Value) => p.1 = q.1 ∧ H q.2.1 = some (.tup (p.1.map kV)) ∧ RelV p.2 q.2.2) kvs xs ∧
      ∃ o es ep, h.get? a = some o ∧ o.ExactDict ∧ o.data = .dict es ep ∧ es.toList = xs.map (entryOfKey (tupleKind (mixKind P w))) ∧ (xs.map (·.1)).Nodup
  | .set S n => h.SetOf (intKind P w) a S n
  | .ins C dx fs => H dx = some (.own a) ∧ fs.length ≤ 1000 ∧ dx ≠ a ∧ h.get? a = some (PySem.W.instObj C dx) ∧
      ∃ mA, h.Ns1 dx mA ∧ (∀ f, RelO (fs.lookup f) (mA f)) ∧ PySem.Within mA (fs.map (·.1))
  | .own _ => ∃ o, h.get? a = some o
  | .xd fs => ∃ mA, h.Ns1 a mA ∧ ∀ f, RelO (fs.lookup f) (mA f)
  | .rng lo hi => ∃ t u v, h.get? a = some { cls := .type "range", data := .fields #[.int lo t, .int hi u, .int 1 v] }
  | .frz o u => h.get? a = some o ∧ ObjOk H h a u
  | .tbl ps => h.get? a = some { cls := .none, data := .fields ps }
  | .met f x => h.get? a = some (PySem.W.methodObj (.ref f) (.ref x))
  | .ext φ => φ h ∧ (∃ o, h.get? a = some o) ∧ ∀ h1 h2 : Heap, φ h1 → (∀ o, h1.get? a = some o → h2.get? a = some o) → φ h2
def HOk (H : Hp) (h : Heap) : Prop := ∀ a o, H a = some o → ObjOk P w H h a o
end
section
variable {P : Program} {w : World} {H H' : Hp} {h h' : Heap} {a : Addr} {o : HO}
theorem ObjOk.lt (x : ObjOk P w H h a o) : a < h.objs.size := by
  cases o with
  | lst xs => obtain ⟨_, _, _, _, e⟩ := x; exact Heap.lt_size e
  | tup xs => obtain ⟨_, _, _, p⟩ := x; exact p.lt
  | dK kvs => obtain ⟨_, _, _, _, o, _, _, e, _⟩ := x; exact Heap.lt_size e
  | dT kvs => obtain ⟨_, _, _, _, o, _, _, e, _⟩ := x; exact Heap.lt_size e
  | set S n => obtain ⟨o, _, _, _, e, _⟩ := x; exact Heap.lt_size e
  | ins C dx fs => obtain ⟨_, _, _, e, _⟩ := x; exact Heap.lt_size e
  | own y => obtain ⟨_, e⟩ := x; exact Heap.lt_size e
  | xd fs => obtain ⟨_, ⟨_, _, _, e, _⟩, _⟩ := x; exact Heap.lt_size e
  | rng lo hi => obtain ⟨_, _, _, e⟩ := x; exact Heap.lt_size e
  | frz ob u => obtain ⟨e, _⟩ := x; exact Heap.lt_size e
  | tbl ps => exact Heap.lt_size (show h.get? a = some _ from x)
  | met f y => exact Heap.lt_size (show h.get? a = some _ from x)
  | ext φ => obtain ⟨_, ⟨_, e⟩, _⟩ := x; exact Heap.lt_size e
theorem Paired.mapP {α β : Type} {F G : α → β → Prop} : ∀ {l₁ : List α} {l₂ : List β}, Paired F l₁ l₂ → (∀ a b, F a b → G a b) → Paired G l₁ l₂
  | _, _, .nil, _ => .nil
  | _, _, .cons r t, f => .cons (f _ _ r) (Paired.mapP t f)
theorem ObjOk.stay (x : ObjOk P w H h a o) (k : ∀ b u, (b = a ∨ H b = some (.own a)) → h.get? b = some u → h'.get? b = some u)
    (ho : ∀ b, H b = some (.own a) → H' b = some (.own a)) (ht : ∀ b xs, H b = some (.tup xs) → H' b = some (.tup xs)) : ObjOk P w H' h' a o := by
  induction o with
  | lst xs => obtain ⟨z, its, n, r, e⟩ := x; exact ⟨z, its, n, r, k _ _ (.inl rfl) e⟩
  | tup xs => obtain ⟨z, its, r, ob, e, c⟩ := x; exact ⟨z, its, r, ob, k _ _ (.inl rfl) e, c⟩
  | dK kvs => obtain ⟨z, y, vs, r, ob, es, ep, e, c⟩ := x; exact ⟨z, y, vs, r, ob, es, ep, k _ _ (.inl rfl) e, c⟩
  | dT kvs =>
    obtain ⟨z, y, xs, r, ob, es, ep, e, c⟩ := x
    exact ⟨z, y, xs, Paired.mapP r fun p q z => ⟨z.1, ht _ _ z.2.1, z.2.2⟩, ob, es, ep, k _ _ (.inl rfl) e, c⟩
  | set S n => obtain ⟨ob, es, ep, t, e, c⟩ := x; exact ⟨ob, es, ep, t, k _ _ (.inl rfl) e, c⟩
  | ins C dx fs =>
    obtain ⟨d, z, ne, e, mA, ⟨od, es, ep, e2, c⟩, r⟩ := x
    exact ⟨ho _ d, z, ne, k _ _ (.inl rfl) e, mA, ⟨od, es, ep, k _ _ (.inr d) e2, c⟩, r⟩
  | own y => obtain ⟨ob, e⟩ := x; exact ⟨ob, k _ _ (.inl rfl) e⟩
  | xd fs => obtain ⟨mA, ⟨od, es, ep, e, c⟩, r⟩ := x; exact ⟨mA, ⟨od, es, ep, k _ _ (.inl rfl) e, c⟩, r⟩
  | rng lo hi => obtain ⟨t, u, v, e⟩ := x; exact ⟨t, u, v, k _ _ (.inl rfl) e⟩
  | frz ob u ih => obtain ⟨e, q⟩ := x; exact ⟨k _ _ (.inl rfl) e, ih q⟩
  | tbl ps =>
    have e : h.get? a = some { cls := .none, data := .fields ps } := x
    show h'.get? a = some { cls := .none, data := .fields ps }
    exact k a _ (.inl rfl) e
  | met f y =>
    have e : h.get? a = some (PySem.W.methodObj (.ref f) (.ref y)) := x
    show h'.get? a = some (PySem.W.methodObj (.ref f) (.ref y))
    exact k a _ (.inl rfl) e
  | ext φ => obtain ⟨p, ⟨o, e⟩, st⟩ := x; exact ⟨st _ _ p fun o q => k _ _ (.inl rfl) q, ⟨o, k _ _ (.inl rfl) e⟩, st⟩
theorem HOk.lt (x : HOk P w H h) (e : H a = some o) : a < h.objs.size := (x a o e).lt
theorem HOk.fresh (x : HOk P w H h) (e : h.objs.size ≤ a) : H a = none := by
  cases q : H a with
  | none => rfl
  | some u => exact absurd (Nat.lt_of_lt_of_le (x.lt q) e) (Nat.lt_irrefl _)
theorem HOk.kept (x : HOk P w H h) (k : ∀ b u, h.get? b = some u → h'.get? b = some u) : HOk P w H h' := fun a o e =>
  (x a o e).stay (fun b u _ q => k b u q) (fun _ q => q) fun _ _ q => q
theorem HOk.laid (x : HOk P w H h) (k : ∀ b u, h.get? b = some u → h'.get? b = some u) (hp : h.objs.size ≤ a) (new : ObjOk P w (upd H a o) h' a o) : HOk P w (upd H a o) h' := fun b u e => by
  have hn := x.fresh hp
  by_cases hb : b = a
  · subst hb; rw [upd_same] at e; cases e; exact new
  · rw [upd_ne hb] at e
    exact (x b u e).stay (fun c v _ q => k c v q) (fun c q => by rw [upd_ne (ne_of_none q hn)]; exact q) fun c xs q => by rw [upd_ne (ne_of_none q hn)]; exact q
end
def Rd (H : Hp) (a : Addr) (u : HO) : Prop := H a = some u ∨ ∃ o, H a = some (.frz o u)
theorem Rd.ok {P : Program} {w : World} {H : Hp} {h : Heap} {a : Addr} {u : HO} (r : Rd H a u) (x : HOk P w H h) : ObjOk P w H h a u := by
  rcases r with r | ⟨o, r⟩
  · exact x a u r
  · obtain ⟨_, q⟩ := x a _ r
    exact q
def Mut : Option HO → Prop
  | some (.lst _) => True
  | some (.dK _) => True
  | some (.dT _) => True
  | some (.set _ _) => True
  | some (.ins _ _ _) => True
  | some (.ext _) => True
  | _ => False
section
variable {P : Program} {w : World} {H : Hp} {h h' : Heap} {x e : Addr} {o' : HO}
theorem HOk.write (ok : HOk P w H h) (mu : Mut (H x)) (he : e = x ∨ H e = some (.own x)) (k : ∀ b u, b ≠ e → h.get? b = some u → h'.get? b = some u) (heo : ∃ u, h'.get? e = some u)
    (new : ObjOk P w (upd H x o') h' x o') : HOk P w (upd H x o') h' := fun b u q => by
  have nown : ∀ c y, H c = some (.own y) → c ≠ x := fun c y r z => by subst z; rw [r] at mu; exact mu
  have ntup : ∀ c xs, H c = some (.tup xs) → c ≠ x := fun c xs r z => by subst z; rw [r] at mu; exact mu
  by_cases hb : b = x
  · subst hb; rw [upd_same] at q; cases q; exact new
  · rw [upd_ne hb] at q
    by_cases hbe : b = e
    · have q' : H b = some (.own x) := by
        rcases he with z | z
        · exact absurd (hbe.trans z) hb
        · rw [hbe]; exact z
      rw [q] at q'; cases q'
      obtain ⟨v, hv⟩ := heo
      exact ⟨v, by rw [hbe]; exact hv⟩
    · refine (ok b u q).stay (fun c v hc r => k c v ?_ r) (fun c r => by rw [upd_ne (nown c b r)]; exact r) fun c xs r => by rw [upd_ne (ntup c xs r)]; exact r
      rcases hc with rfl | hc
      · exact hbe
      · rintro rfl
        rcases he with z | z
        · exact nown c b hc z
        · rw [hc] at z; cases z; exact hb rfl
end
structure Un (fs ex : List Addr) (H H' : Hp) (h h' : Heap) : Prop where
  keep : ∀ b o, h.get? b = some o → H b = none → b ∉ fs → b ∉ ex → h'.get? b = some o
  slot : ∀ b o, h.get? b = some o → H b = none → b ∈ fs → b ∉ ex → ∃ sl, h'.get? b = some { o with slots := sl }
  free : ∀ b o, h.get? b = some o → H b = none → b ∉ ex → H' b = none
  there : ∀ b o, h.get? b = some o → b ∉ ex → ∃ o', h'.get? b = some o'
  tups : ∀ b xs, H b = some (.tup xs) → H' b = some (.tup xs)
  frzs : ∀ b o u, H b = some (.frz o u) → H' b = some (.frz o u)
  tbls : ∀ b ps, H b = some (.tbl ps) → ∃ more, H' b = some (.tbl (ps ++ more))
section
variable {fs fs' ex ex' : List Addr} {H H1 H2 : Hp} {h h1 h2 h' : Heap} {a x e : Addr} {o : HO}
theorem Un.any (u : Un fs ex H H1 h h1) {b : Addr} {ob : Obj} (q : h.get? b = some ob) (n : H b = none) (hx : b ∉ ex) : ∃ sl, h1.get? b = some { ob with slots := sl } := by
  by_cases hb : b ∈ fs
  · exact u.slot b ob q n hb hx
  · exact ⟨ob.slots, u.keep b ob q n hb hx⟩
theorem Un.kept (k : ∀ b u, h.get? b = some u → h'.get? b = some u) : Un fs ex H H h h' :=
  ⟨fun b ob q _ _ _ => k b ob q, fun b ob q _ _ _ => ⟨ob.slots, k b ob q⟩, fun _ _ _ n _ => n, fun b ob q _ => ⟨ob, k b ob q⟩, fun _ _ q => q, fun _ _ _ q => q, fun _ ps q => ⟨#[], by rw [q]; simp⟩⟩
theorem Un.refl : Un fs ex H H h h := Un.kept fun _ _ q => q
theorem Un.laid (k : ∀ b u, h.get? b = some u → h'.get? b = some u) (hp : h.objs.size ≤ a) (hn : H a = none) : Un fs ex H (upd H a o) h h' where
  keep := fun b u q _ _ _ => k b u q
  slot := fun b u q _ _ _ => ⟨u.slots, k b u q⟩
  free := fun b u q n _ => by rw [upd_ne (Nat.ne_of_lt (Nat.lt_of_lt_of_le (Heap.lt_size q) hp))]; exact n
  there := fun b u q _ => ⟨u, k b u q⟩
  tups := fun b xs q => by rw [upd_ne (ne_of_none q hn)]; exact q
  frzs := fun b u xs q => by rw [upd_ne (ne_of_none q hn)]; exact q
  tbls := fun b ps q => ⟨#[], by rw [upd_ne (ne_of_none q hn), q]; simp⟩
theorem Un.write (mu : Mut (H x)) (he : e = x ∨ H e = some (.own x)) (k : ∀ b u, b ≠ e → h.get? b = some u → h'.get? b = some u) (heo : ∃ u, h'.get? e = some u) : Un fs ex H (upd H x o) h h' := by
  have hx : ∀ b, H b = none → b ≠ x := fun b n z => by subst z; rw [n] at mu; exact mu
  have hb : ∀ b, H b = none → b ≠ e := fun b n z => by
    subst z
    rcases he with r | r
    · exact hx b n r
    · rw [n] at r; cases r
  have hm : ∀ b u, H b = some u → ¬ Mut (some u) → b ≠ x := fun b u q nm z => by subst z; rw [q] at mu; exact nm mu
  refine ⟨fun b u q n _ _ => k b u (hb b n) q, fun b u q n _ _ => ⟨u.slots, k b u (hb b n) q⟩, fun b u q n _ => by rw [upd_ne (hx b n)]; exact n, fun b u q _ => ?_,
    fun b xs q => by rw [upd_ne (hm b _ q fun z => z)]; exact q, fun b u xs q => by rw [upd_ne (hm b _ q fun z => z)]; exact q, fun b ps q => ⟨#[], by rw [upd_ne (hm b _ q fun z => z), q]; simp⟩⟩
  by_cases hbe : b = e
  · subst hbe; exact heo
  · exact ⟨u, k b u hbe q⟩
end
def trk (h : Heap) (H : Hp) : List Addr := (List.range h.objs.size).filter fun a => (H a).isSome
def hidT (h : Heap) (H : Hp) : Heap := PySem.W.hideAll h (trk h H)
theorem hidT_size (h : Heap) (H : Hp) : (hidT h H).objs.size = h.objs.size := PySem.W.hideAll_size _ _
theorem hidT_get {h : Heap} {H : Hp} {b : Addr} {o : Obj} (e : h.get? b = some o) (n : H b = none) : (hidT h H).get? b = some o :=
  PySem.W.hideAll_get _ e fun hm => by
    have q : (H b).isSome = true := (List.mem_filter.mp hm).2
    rw [n] at q; simp at q
theorem of_hidT {h : Heap} {H : Hp} {b : Addr} {o : Obj} (e : (hidT h H).get? b = some o) : h.get? b = some o ∧ H b = none := by
  have e' : h.get? b = some o := PySem.W.of_hideAll (trk h H) e
  refine ⟨e', ?_⟩
  cases q : H b with
  | none => rfl
  | some x =>
    have hm : b ∈ trk h H := List.mem_filter.mpr ⟨List.mem_range.mpr (Heap.lt_size e'), by simp [q]⟩
    have z : (hidT h H).get? b = none := PySem.W.hideAll_none (trk h H) hm
    rw [z] at e; cases e
end L2
namespace L2
open PySem PySem.Spec PyProof.Rows
structure Mod (K : PySem.W.Frag) (mg : Str → Option Value) (base : Heap) : Prop where
  kin : K.In base
  glob : base.Ns mainGlobals mg
  blt : ∃ mb, base.Ns builtinsNs mb ∧ ∀ x : Str, x ≠ "__name__" → mb x = bootBuiltins x
  nolimit : base.NoLimit
structure Cx where
  prog : Program
  w : World
  K : PySem.W.Frag
  mg : Str → Option Value
  base : Heap
  A : Around
  N : List Str
  s_0 : Shared
  H_0 : Hp
  env : Env
  outer : List Env
  stack : List Env
  ex : List Addr
  fn : Str → Bool
  calm : Bool
  pn : List (Addr × Obj)
  xe : Value → Shared → Prop
def frs (l : List Env) : List Addr := l.filterMap (·.frame)
abbrev Cx.fs (X : Cx) : List Addr := frs X.outer
def Vis (sc : Scope) (x : Str) : Prop := sc.names.lookup x = some .local ∨ sc.names.lookup x = some .cell ∨ sc.names.lookup x = some .free
def Loc (sc : Scope) (x : Str) : Prop := sc.names.lookup x = some .local ∨ sc.names.lookup x = some .cell
def Look (env : Env) (h : Heap) (m : Str → Option Value) (x : Str) (u : Value) : Prop :=
  (env.kindOf x = some .local ∧ m x = some u) ∨ ((env.kindOf x = some .cell ∨ env.kindOf x = some .free) ∧ ∃ c, env.cells.lookup x = some c ∧ h.IsCell c (some u))
structure Cx.Ok (X : Cx) : Prop where
  mod : Mod X.K X.mg X.base
  kind : X.env.scope.kind = .function
  glob : X.env.globals = mainGlobals
  blt : X.env.builtins = builtinsNs
  above : X.s_0.heap.objs.size ≤ X.env.locals
  inj : ∀ x y c, X.env.cells.lookup x = some c → X.env.cells.lookup y = some c → x = y
  has : ∀ x, (X.env.kindOf x = some .cell ∨ X.env.kindOf x = some .free) → ∃ c, X.env.cells.lookup x = some c
  cab : ∀ x c, X.fn x = true → X.env.cells.lookup x = some c → X.s_0.heap.objs.size ≤ c
  hd : X.calm = true → X.A.handled = none
  frames : X.A.frames = some X.stack
  stk : X.stack = X.outer ∨ (X.stack = X.env :: X.outer ∧ X.env.frame = some X.env.locals)
  exf : ∀ b ∈ X.ex, b ≠ X.env.locals ∧ ∀ x c, X.env.cells.lookup x = some c → c ≠ b
  bs : ∀ b o, X.base.get? b = some o → X.s_0.heap.get? b = some o ∧ X.H_0 b = none
  bsz : X.base.objs.size ≤ X.s_0.heap.objs.size
  noex : ∀ b o, X.base.get? b = some o → b ∉ X.ex
  exfs : ∀ b ∈ X.ex, b ∉ X.fs
  funs : X.s_0.heap.FunFrames X.base X.outer
  frf : ∀ b ∈ X.fs, X.H_0 b = none
structure Inv (X : Cx) (pins : List (Addr × Obj)) (σ : List (Option V)) (H : Hp) (s : Shared) : Prop where
  ok : X.Ok
  os : s.os = X.s_0.os
  bare : AllBare s.gens
  base : Un X.fs X.ex X.H_0 H X.s_0.heap s.heap
  loc : ∃ m, s.heap.Ns X.env.locals m ∧ ∀ (i : Nat) (x : Str) (v : V), X.N[i]? = some x → σ[i]? = some (some v) → Vis X.env.scope x → ∃ u, RelV v u ∧ Look X.env s.heap m x u
  cell : ∀ x c, X.env.cells.lookup x = some c → ∃ v, s.heap.IsCell c v
  free : H X.env.locals = none
  freeC : ∀ x c, X.env.cells.lookup x = some c → H c = none
  pin : ∀ p ∈ X.pn ++ pins, s.heap.get? p.1 = some p.2 ∧ H p.1 = none ∧ p.1 ≠ X.env.locals ∧ p.1 ∉ X.fs ∧ ∀ v, p.2.data ≠ .cell v
  hok : HOk X.prog X.w H s.heap
  len : σ.length = X.N.length
section
variable {X : Cx} {pins : List (Addr × Obj)} {σ : List (Option V)} {H H' : Hp} {s : Shared} {h' : Heap}
theorem Cx.Ok.nofr (ok : X.Ok) {b : Addr} {o : Obj} (e : X.base.get? b = some o) : b ∉ X.fs := fun hb => by
  have := (ok.funs.mem hb).1
  rw [e] at this; cases this
theorem Inv.bs (I : Inv X pins σ H s) : ∀ b o, X.base.get? b = some o → s.heap.get? b = some o ∧ H b = none := fun b o e =>
  ⟨I.base.keep b o (I.ok.bs b o e).1 (I.ok.bs b o e).2 (I.ok.nofr e) (I.ok.noex b o e), I.base.free b o (I.ok.bs b o e).1 (I.ok.bs b o e).2 (I.ok.noex b o e)⟩
theorem Inv.bk (I : Inv X pins σ H s) : ∀ b o, X.base.get? b = some o → s.heap.get? b = some o := fun b o e => (I.bs b o e).1
theorem Inv.mod (I : Inv X pins σ H s) : Mod X.K X.mg X.base := I.ok.mod
theorem Inv.kIn (I : Inv X pins σ H s) : X.K.In s.heap := I.ok.mod.kin.keeps I.bk
theorem Inv.lt (I : Inv X pins σ H s) : X.env.locals < s.heap.objs.size := let ⟨_, hn, _⟩ := I.loc; hn.lt
theorem Inv.sz (I : Inv X pins σ H s) : X.s_0.heap.objs.size ≤ s.heap.objs.size := Nat.le_trans I.ok.above (Nat.le_of_lt I.lt)
theorem Inv.nofs (I : Inv X pins σ H s) {a : Addr} (h : s.heap.objs.size ≤ a) : a ∉ X.fs := fun hb => by
  obtain ⟨_, o, ho, _⟩ := I.ok.funs.mem hb
  exact absurd (Nat.lt_of_lt_of_le (Heap.lt_size ho) (Nat.le_trans I.sz h)) (Nat.lt_irrefl _)
theorem Inv.cne (I : Inv X pins σ H s) : ∀ x c, X.env.cells.lookup x = some c → c ≠ X.env.locals := fun x c e z => by
  obtain ⟨v, o, ho, hd⟩ := I.cell x c e
  obtain ⟨m, ⟨o', es, ep, ho', hd', _⟩, _⟩ := I.loc
  rw [z, ho'] at ho; cases ho; rw [hd'] at hd; cases hd
theorem Inv.funs (I : Inv X pins σ H s) : s.heap.FunFrames X.base X.outer := by
  have all : ∀ (l : List Env), (∀ b ∈ frs l, b ∈ X.fs) → X.s_0.heap.FunFrames X.base l → s.heap.FunFrames X.base l := by
    intro l
    induction l with
    | nil => intro _ _; trivial
    | cons env r ih =>
      intro hs hl
      obtain ⟨hk, ⟨L, o, hf, hn, ho, hd⟩, hr⟩ := hl
      have hL : L ∈ X.fs := hs L (by unfold frs; rw [List.filterMap_cons, hf]; exact List.mem_cons_self)
      obtain ⟨sl, e⟩ := I.base.slot L o ho (I.ok.frf L hL) hL fun z => I.ok.exfs L z hL
      exact ⟨hk, ⟨L, _, hf, hn, e, hd⟩, ih (fun b hb => hs b (by unfold frs; rw [List.filterMap_cons, hf]; exact List.mem_cons_of_mem _ hb)) hr⟩
  exact all X.outer (fun _ hb => hb) I.ok.funs
theorem Inv.stack (I : Inv X pins σ H s) : s.heap.FunFrames X.base X.stack := by
  rcases I.ok.stk with e | ⟨e, hf⟩
  · rw [e]; exact I.funs
  · rw [e]
    obtain ⟨m, hn, _⟩ := I.loc
    refine .cons (by rw [I.ok.kind]; decide) hf hn ?_ I.funs
    exact Heap.get?_none_of_le (Nat.le_trans I.ok.bsz I.ok.above)
theorem Inv.stkSub (I : Inv X pins σ H s) : ∀ b ∈ frs X.stack, b ∈ X.env.locals :: X.fs := fun b hb => by
  rcases I.ok.stk with e | ⟨e, hf⟩
  · rw [e] at hb; exact List.mem_cons_of_mem _ hb
  · rw [e] at hb
    unfold frs at hb
    rw [List.filterMap_cons, hf] at hb
    exact hb
theorem Inv.stkFree (I : Inv X pins σ H s) : ∀ b ∈ frs X.stack, H b = none := fun b hb => by
  rcases List.mem_cons.mp (I.stkSub b hb) with e | hb
  · rw [e]; exact I.free
  · obtain ⟨_, o, ho, _⟩ := I.ok.funs.mem hb
    exact I.base.free b o ho (I.ok.frf b hb) fun z => I.ok.exfs b z hb
theorem Inv.step {g' : Array GenState} {t' : Nat} {d' : Drawn} {ch : List Addr} (I : Inv X pins σ H s)
    (hch : ∀ b ∈ ch, (b ∈ X.ex ∨ X.s_0.heap.objs.size ≤ b) ∧ b ≠ X.env.locals ∧ (∀ x c, X.env.cells.lookup x = some c → c ≠ b) ∧ ∀ p ∈ X.pn ++ pins, p.1 ≠ b)
    (keep : ∀ b o, b ≠ X.env.locals → b ∉ X.fs → b ∉ ch → s.heap.get? b = some o → H b = none → h'.get? b = some o)
    (slot : ∀ b o, b ≠ X.env.locals → b ∈ X.fs → b ∉ ch → s.heap.get? b = some o → H b = none → ∃ sl, h'.get? b = some { o with slots := sl }) (free : ∀ b o, b ∉ ch → s.heap.get? b = some o → H b = none → H' b = none)
    (there : ∀ b o, b ∉ ch → s.heap.get? b = some o → ∃ o', h'.get? b = some o')
    (tups : ∀ b xs, H b = some (.tup xs) → H' b = some (.tup xs)) (frzs : ∀ b o u, H b = some (.frz o u) → H' b = some (.frz o u)) (tbls : ∀ b ps, H b = some (.tbl ps) → ∃ more, H' b = some (.tbl (ps ++ more)))
    (ns : ∀ m, s.heap.Ns X.env.locals m → h'.Ns X.env.locals m) (hok : HOk X.prog X.w H' h') (hg : AllBare g') :
    Inv X pins σ H' { s with heap := h', gens := g', drawn := d', toks := t' } := by
  have neL : ∀ b o, X.s_0.heap.get? b = some o → b ≠ X.env.locals := fun b o e => Nat.ne_of_lt (Nat.lt_of_lt_of_le (Heap.lt_size e) I.ok.above)
  have neC : ∀ b o, X.s_0.heap.get? b = some o → b ∉ X.ex → b ∉ ch := fun b o e hx hb => by
    rcases (hch b hb).1 with z | z
    · exact hx z
    · exact absurd (Nat.lt_of_lt_of_le (Heap.lt_size e) z) (Nat.lt_irrefl _)
  have cellK : ∀ x c, X.env.cells.lookup x = some c → ∀ v, s.heap.IsCell c v → h'.IsCell c v := fun x c e v ⟨o, ho, hd⟩ => by
    have nch : c ∉ ch := fun z => (hch c z).2.2.1 x c e rfl
    by_cases hc : c ∈ X.fs
    · obtain ⟨sl, q⟩ := slot c o (I.cne x c e) hc nch ho (I.freeC x c e)
      exact ⟨_, q, hd⟩
    · exact ⟨o, keep c o (I.cne x c e) hc nch ho (I.freeC x c e), hd⟩
  refine ⟨I.ok, I.os, hg, ⟨fun b o e n hb hx => ?_, fun b o e n hb hx => ?_, fun b o e n hx => ?_, fun b o e hx => ?_, fun b xs e => tups b xs (I.base.tups b xs e), fun b o xs e => frzs b o xs (I.base.frzs b o xs e), fun b ps e => ?_⟩, ?_, fun x c e => ?_, ?_, fun x c e => ?_, fun p hp => ?_, hok, I.len⟩
  · exact keep b o (neL b o e) hb (neC b o e hx) (I.base.keep b o e n hb hx) (I.base.free b o e n hx)
  · obtain ⟨sl, e1⟩ := I.base.slot b o e n hb hx
    obtain ⟨sl', e2⟩ := slot b _ (neL b o e) hb (neC b o e hx) e1 (I.base.free b o e n hx)
    exact ⟨sl', e2⟩
  · obtain ⟨o', e1⟩ := I.base.there b o e hx
    exact free b o' (neC b o e hx) e1 (I.base.free b o e n hx)
  · obtain ⟨o', e1⟩ := I.base.there b o e hx
    exact there b o' (neC b o e hx) e1
  · obtain ⟨m1, e1⟩ := I.base.tbls b ps e
    obtain ⟨m2, e2⟩ := tbls b _ e1
    exact ⟨m1 ++ m2, by rw [e2, Array.append_assoc]⟩
  · obtain ⟨m, hn, hl⟩ := I.loc
    refine ⟨m, ns m hn, fun i x v e1 e2 e3 => ?_⟩
    obtain ⟨u, r, l⟩ := hl i x v e1 e2 e3
    refine ⟨u, r, ?_⟩
    rcases l with l | ⟨k, c, e, z⟩
    · exact .inl l
    · exact .inr ⟨k, c, e, cellK x c e _ z⟩
  · obtain ⟨v, z⟩ := I.cell x c e
    exact ⟨v, cellK x c e v z⟩
  · obtain ⟨m, ⟨o, _, _, ho, _⟩, _⟩ := I.loc
    exact free _ o (fun z => (hch _ z).2.1 rfl) ho I.free
  · obtain ⟨v, o, ho, hd⟩ := I.cell x c e
    exact free c o (fun z => (hch c z).2.2.1 x c e rfl) ho (I.freeC x c e)
  · obtain ⟨e, n, ne, nf, d⟩ := I.pin p hp
    have nch : p.1 ∉ ch := fun z => (hch p.1 z).2.2.2 p hp rfl
    exact ⟨keep p.1 p.2 ne nf nch e n, free p.1 p.2 nch e n, ne, nf, d⟩
theorem Inv.un {t' : Nat} (I : Inv X pins σ H s) (u : Un X.fs [] H H' s.heap h') (hok : HOk X.prog X.w H' h') : Inv X pins σ H' { s with heap := h', toks := t' } := by
  obtain ⟨m, ⟨o, es, ep, ho, r⟩, _⟩ := id I.loc
  obtain ⟨sl, hL⟩ := u.any ho I.free (by simp)
  exact I.step (g' := s.gens) (d' := s.drawn) (ch := []) (fun _ z => nomatch z) (fun b o _ hb _ e n => u.keep b o e n hb (by simp)) (fun b o _ hb _ e n => u.slot b o e n hb (by simp)) (fun b o _ e n => u.free b o e n (by simp)) (fun b o _ e => u.there b o e (by simp)) u.tups u.frzs u.tbls (fun m' hm => by
    obtain ⟨o', es', ep', ho', r'⟩ := hm
    rw [ho] at ho'; cases ho'
    exact ⟨_, es', ep', hL, r'⟩) hok I.bare
theorem Inv.call {g' : Array GenState} {t' : Nat} {d' : Drawn} {ch : List Addr} (I : Inv X pins σ H s) (u : Un (frs X.stack) ch H H' s.heap h') (hok : HOk X.prog X.w H' h') (hg : AllBare g')
    (hch : ∀ b ∈ ch, (b ∈ X.ex ∨ X.s_0.heap.objs.size ≤ b) ∧ b ≠ X.env.locals ∧ (∀ x c, X.env.cells.lookup x = some c → c ≠ b) ∧ ∀ p ∈ X.pn ++ pins, p.1 ≠ b) :
    Inv X pins σ H' { s with heap := h', gens := g', drawn := d', toks := t' } := by
  obtain ⟨m, ⟨o, es, ep, ho, r⟩, _⟩ := id I.loc
  obtain ⟨sl, hL⟩ := u.any ho I.free fun z => (hch _ z).2.1 rfl
  exact I.step (ch := ch) hch (fun b o hL hb hc e n => u.keep b o e n (fun z => (List.mem_cons.mp (I.stkSub b z)).elim hL hb) hc) (fun b o _ _ hc e n => u.any e n hc) (fun b o hc e n => u.free b o e n hc) (fun b o hc e => u.there b o e hc) u.tups u.frzs u.tbls (fun m' hm => by
    obtain ⟨o', es', ep', ho', r'⟩ := hm
    rw [ho] at ho'; cases ho'
    exact ⟨_, es', ep', hL, r'⟩) hok hg
theorem Inv.turned {t' : Nat} {it : Addr} (I : Inv X pins σ H s) (k : ∀ b o, b ≠ it → s.heap.get? b = some o → h'.get? b = some o) (hn : H it = none) (hL : it ≠ X.env.locals)
    (h1 : it ∈ X.ex ∨ X.s_0.heap.objs.size ≤ it) (h2 : ∀ x c, X.env.cells.lookup x = some c → c ≠ it) (h3 : ∀ p ∈ X.pn ++ pins, p.1 ≠ it) : Inv X pins σ H { s with heap := h', toks := t' } := by
  have nit : ∀ b u, H b = some u → b ≠ it := fun b u e z => by rw [z, hn] at e; cases e
  refine I.step (g' := s.gens) (d' := s.drawn) (ch := [it]) (fun b hb => ?_) (fun b o _ _ hc e _ => k b o (fun z => hc (by simp [z])) e) (fun b o _ _ hc e _ => ⟨o.slots, k b o (fun z => hc (by simp [z])) e⟩) (fun _ _ _ _ n => n)
    (fun b o hc e => ⟨o, k b o (fun z => hc (by simp [z])) e⟩) (fun _ _ e => e) (fun _ _ _ e => e) (fun b ps e => ⟨#[], by rw [e]; simp⟩) (fun m hm => ?_) (fun b u e => ?_) I.bare
  · have e : b = it := by simpa using hb
    subst e
    exact ⟨h1, hL, h2, h3⟩
  · obtain ⟨o, es, ep, ho, r⟩ := hm
    exact ⟨o, es, ep, k _ o (Ne.symm hL) ho, r⟩
  · refine (I.hok b u e).stay (fun c v hc q => k c v ?_ q) (fun _ q => q) fun _ _ q => q
    rcases hc with z | z
    · rw [z]; exact nit b u e
    · exact nit c _ z
theorem Inv.tok (I : Inv X pins σ H s) (t : Nat) : Inv X pins σ H { s with toks := t } := I.un (h' := s.heap) (t' := t) Un.refl I.hok
theorem Inv.kept {t' : Nat} (I : Inv X pins σ H s) (k : ∀ b u, s.heap.get? b = some u → h'.get? b = some u) : Inv X pins σ H { s with heap := h', toks := t' } := I.un (Un.kept k) (I.hok.kept k)
theorem Inv.laid {a : Addr} {o : HO} {t' : Nat} (I : Inv X pins σ H s) (k : ∀ b u, s.heap.get? b = some u → h'.get? b = some u) (hp : s.heap.objs.size ≤ a) (new : ObjOk X.prog X.w (upd H a o) h' a o) :
    Inv X pins σ (upd H a o) { s with heap := h', toks := t' } := I.un (Un.laid k hp (I.hok.fresh hp)) (I.hok.laid k hp new)
theorem Inv.write {x e : Addr} {o : HO} {t' : Nat} (I : Inv X pins σ H s) (mu : Mut (H x)) (he : e = x ∨ H e = some (.own x)) (k : ∀ b u, b ≠ e → s.heap.get? b = some u → h'.get? b = some u) (heo : ∃ u, h'.get? e = some u)
    (new : ObjOk X.prog X.w (upd H x o) h' x o) : Inv X pins σ (upd H x o) { s with heap := h', toks := t' } := I.un (Un.write mu he k heo) (I.hok.write mu he k heo new)
theorem Inv.weak {σ' : List (Option V)} (I : Inv X pins σ H s) (hl : σ'.length = σ.length) (w : ∀ (i : Nat) v, σ'[i]? = some (some v) → σ[i]? = some (some v)) : Inv X pins σ' H s :=
  ⟨I.ok, I.os, I.bare, I.base, let ⟨m, hn, hl'⟩ := I.loc; ⟨m, hn, fun i x v e1 e2 e3 => hl' i x v e1 (w i v e2) e3⟩, I.cell, I.free, I.freeC, I.pin, I.hok, hl.trans I.len⟩
theorem Inv.pins_of {pins' : List (Addr × Obj)} (I : Inv X pins σ H s) (h : ∀ p ∈ pins', s.heap.get? p.1 = some p.2 ∧ H p.1 = none ∧ p.1 ≠ X.env.locals ∧ p.1 ∉ X.fs ∧ ∀ v, p.2.data ≠ .cell v) : Inv X pins' σ H s :=
  ⟨I.ok, I.os, I.bare, I.base, I.loc, I.cell, I.free, I.freeC, fun p hp => (List.mem_append.mp hp).elim (fun z => I.pin p (List.mem_append_left _ z)) (h p), I.hok, I.len⟩
theorem nodup_ix {N : List Str} (hN : N.Nodup) {i j : Nat} {x : Str} (a : N[i]? = some x) (b : N[j]? = some x) : i = j := by
  obtain ⟨h1, e1⟩ := List.getElem?_eq_some_iff.mp a
  obtain ⟨h2, e2⟩ := List.getElem?_eq_some_iff.mp b
  exact (List.getElem_inj hN).mp (e1.trans e2.symm)
theorem store_ok2 {M : Model} {A : Around} {E : Value → Shared → Prop} {i : Nat} {x : Str} {v : V} {u : Value} {Q : Unit → Shared → Prop} (I : Inv X pins σ H s) (hN : X.N.Nodup) (hi : X.N[i]? = some x) (hx : Loc X.env.scope x) (r : RelV v u)
    (h : ∀ s', Inv X pins (σ.set i (some v)) H s' → (∃ a, Heap.SameBut a s.heap s'.heap ∧ (a = X.env.locals ∨ X.env.cells.lookup x = some a)) → Q () s') (hf : X.fn x = true ∨ X.env.scope.names.lookup x = some .local := by first | exact .inl rfl | exact .inr rfl | assumption) : wpAny M A (storeName X.env x u) Q E s := by
  obtain ⟨m, hn, hl⟩ := id I.loc
  have hcls : (X.env.scope.kind == .class || (X.env.scope.kind == .module && X.env.locals != X.env.globals)) = false := by rw [I.ok.kind]; rfl
  have hiσ : i < σ.length := by rw [I.len]; exact (List.getElem?_eq_some_iff.mp hi).1
  have cne := I.cne
  have tracked : ∀ {a : Addr} {h' : Heap}, (∃ o, s.heap.get? a = some o ∧ H a = none) → Heap.SameBut a s.heap h' → HOk X.prog X.w H h' := fun {a h'} ha hs b ob e => by
    obtain ⟨_, _, hfree⟩ := ha
    refine (I.hok b ob e).stay (fun c w' hc q => (hs.2 c ?_).trans q) (fun _ q => q) fun _ _ q => q
    rintro rfl
    rcases hc with rfl | hc
    · rw [hfree] at e; cases e
    · rw [hfree] at hc; cases hc
  rcases hx with hk | hk
  · refine wpAny_storeName_local hk hn (fun h' hn' hs => ?_) hcls
    obtain ⟨oL, _, _, hoL, _⟩ := id hn
    refine h _ ⟨I.ok, I.os, I.bare, ⟨fun b o e n hb hx => ?_, fun b o e n hb hx => ?_, I.base.free, fun b o e hx => ?_, I.base.tups, I.base.frzs, I.base.tbls⟩, ⟨_, hn', fun j y v' e1 e2 e3 => ?_⟩, fun y c e => ?_, I.free, I.freeC, fun p hp => ?_, tracked ⟨oL, hoL, I.free⟩ hs, by simpa using I.len⟩ ⟨_, hs, .inl rfl⟩
    · exact (hs.2 b (Nat.ne_of_lt (Nat.lt_of_lt_of_le (Heap.lt_size e) I.ok.above))).trans (I.base.keep b o e n hb hx)
    · obtain ⟨sl, e1⟩ := I.base.slot b o e n hb hx
      exact ⟨sl, (hs.2 b (Nat.ne_of_lt (Nat.lt_of_lt_of_le (Heap.lt_size e) I.ok.above))).trans e1⟩
    · obtain ⟨o', e1⟩ := I.base.there b o e hx
      exact ⟨o', (hs.2 b (Nat.ne_of_lt (Nat.lt_of_lt_of_le (Heap.lt_size e) I.ok.above))).trans e1⟩
    · by_cases hj : j = i
      · subst hj
        rw [hi] at e1; cases e1
        rw [List.getElem?_set_self hiσ] at e2
        cases e2
        exact ⟨u, r, .inl ⟨hk, by simp⟩⟩
      · rw [List.getElem?_set_ne (Ne.symm hj)] at e2
        obtain ⟨u', r', q⟩ := hl j y v' e1 e2 e3
        refine ⟨u', r', ?_⟩
        rcases q with ⟨k, e⟩ | ⟨k, c, e, z⟩
        · refine .inl ⟨k, ?_⟩
          have : y ≠ x := fun e => hj (nodup_ix hN e1 (e ▸ hi))
          simp [this, e]
        · exact .inr ⟨k, c, e, z.sameBut hs (cne y c e)⟩
    · obtain ⟨w', z⟩ := I.cell y c e
      exact ⟨w', z.sameBut hs (cne y c e)⟩
    · obtain ⟨e, n, ne, nf, d⟩ := I.pin p hp
      exact ⟨(hs.2 p.1 ne).trans e, n, ne, nf, d⟩
  · have hfn : X.fn x = true := by
      rcases hf with z | z
      · exact z
      · rw [z] at hk; cases hk
    obtain ⟨c, hc⟩ := I.ok.has x (.inl hk)
    obtain ⟨w', z⟩ := I.cell x c hc
    refine wpAny_storeName_cell I.ok.kind hk hc z (fun h' hc' hs => ?_)
    obtain ⟨oc, hoc, hocd⟩ := id z
    refine h { s with heap := h' } ⟨I.ok, I.os, I.bare, ⟨fun b o e n hb hx => ?_, fun b o e n hb hx => ?_, I.base.free, fun b o e hx => ?_, I.base.tups, I.base.frzs, I.base.tbls⟩, ⟨m, hn.sameBut hs (Ne.symm (cne x c hc)), fun j y v' e1 e2 e3 => ?_⟩, fun y c' e => ?_, I.free, I.freeC, fun p hp => ?_, tracked ⟨oc, hoc, I.freeC x c hc⟩ hs, by simpa using I.len⟩ ⟨c, hs, .inr hc⟩
    · exact (hs.2 b (Nat.ne_of_lt (Nat.lt_of_lt_of_le (Heap.lt_size e) (I.ok.cab x c hfn hc)))).trans (I.base.keep b o e n hb hx)
    · obtain ⟨sl, e1⟩ := I.base.slot b o e n hb hx
      exact ⟨sl, (hs.2 b (Nat.ne_of_lt (Nat.lt_of_lt_of_le (Heap.lt_size e) (I.ok.cab x c hfn hc)))).trans e1⟩
    · obtain ⟨o', e1⟩ := I.base.there b o e hx
      exact ⟨o', (hs.2 b (Nat.ne_of_lt (Nat.lt_of_lt_of_le (Heap.lt_size e) (I.ok.cab x c hfn hc)))).trans e1⟩
    · by_cases hj : j = i
      · subst hj
        rw [hi] at e1; cases e1
        rw [List.getElem?_set_self hiσ] at e2
        cases e2
        exact ⟨u, r, .inr ⟨.inl hk, c, hc, hc'⟩⟩
      · rw [List.getElem?_set_ne (Ne.symm hj)] at e2
        obtain ⟨u', r', q⟩ := hl j y v' e1 e2 e3
        refine ⟨u', r', ?_⟩
        rcases q with q | ⟨k, c', e, z'⟩
        · exact .inl q
        · refine .inr ⟨k, c', e, z'.sameBut hs ?_⟩
          rintro rfl
          exact hj (nodup_ix hN e1 (I.ok.inj _ _ _ e hc ▸ hi))
    · by_cases hcc : c' = c
      · subst hcc; exact ⟨_, hc'⟩
      · obtain ⟨w2, z2⟩ := I.cell y c' e
        exact ⟨w2, z2.sameBut hs hcc⟩
    · obtain ⟨e, n, ne, nf, d⟩ := I.pin p hp
      refine ⟨(hs.2 p.1 ?_).trans e, n, ne, nf, d⟩
      intro q
      rw [q, hoc] at e
      have q' : oc = p.2 := Option.some.inj e
      exact d w' (by rw [← q']; exact hocd)
theorem store_ok {M : Model} {A : Around} {E : Value → Shared → Prop} {i : Nat} {x : Str} {v : V} {u : Value} {Q : Unit → Shared → Prop} (I : Inv X pins σ H s) (hN : X.N.Nodup) (hi : X.N[i]? = some x) (hx : Loc X.env.scope x) (r : RelV v u)
    (h : ∀ s', Inv X pins (σ.set i (some v)) H s' → Q () s') (hf : X.fn x = true ∨ X.env.scope.names.lookup x = some .local := by first | exact .inl rfl | exact .inr rfl | assumption) : wpAny M A (storeName X.env x u) Q E s :=
  store_ok2 I hN hi hx r (fun s' I' _ => h s' I') hf
theorem Inv.call' {s' : Shared} {ch : List Addr} (I : Inv X pins σ H s) (ho : s'.os = s.os) (u : Un (frs X.stack) ch H H' s.heap s'.heap) (hok : HOk X.prog X.w H' s'.heap) (hg : AllBare s'.gens)
    (hch : ∀ b ∈ ch, (b ∈ X.ex ∨ X.s_0.heap.objs.size ≤ b) ∧ b ≠ X.env.locals ∧ (∀ x c, X.env.cells.lookup x = some c → c ≠ b) ∧ ∀ p ∈ X.pn ++ pins, p.1 ≠ b) : Inv X pins σ H' s' := by
  obtain ⟨h', g', d', t', o'⟩ := s'
  have e : o' = s.os := ho
  subst e
  exact I.call (g' := g') (t' := t') (d' := d') u hok hg hch
end
abbrev XK := Value → Option Addr → Hp → Prop
abbrev St := List (Option V)
abbrev VK := V → Hp → Prop
abbrev TE := St → Hp → VK → Prop
abbrev TT := St → Hp → (Bool → Hp → Prop) → Prop
abbrev TA := St → Hp → (List V → Hp → Prop) → Prop
structure Ends where
  nx : St → Hp → Prop
  rt : VK
  bk : St → Hp → Prop := fun _ _ => False
  ct : St → Hp → Prop := fun _ _ => False
abbrev TS := Ends → St → Hp → Prop
def EP (X : Cx) (pins : List (Addr × Obj)) (σ : St) (Q : VK) (u : Value) (s' : Shared) : Prop := ∃ v H', Inv X pins σ H' s' ∧ RelV v u ∧ Q v H'
def TP (X : Cx) (pins : List (Addr × Obj)) (σ : St) (Q : Bool → Hp → Prop) (b : Bool) (s' : Shared) : Prop := ∃ H', Inv X pins σ H' s' ∧ Q b H'
def AP (X : Cx) (pins : List (Addr × Obj)) (σ : St) (Q : List V → Hp → Prop) (us : List Value) (s' : Shared) : Prop := ∃ vs H', Inv X pins σ H' s' ∧ Vals vs us ∧ Q vs H'
def SP (X : Cx) (pins : List (Addr × Obj)) (D : Ends) (f : Flow) (s' : Shared) : Prop :=
  match f with
  | .next => ∃ σ' H', Inv X pins σ' H' s' ∧ D.nx σ' H'
  | .brk => ∃ σ' H', Inv X pins σ' H' s' ∧ D.bk σ' H'
  | .cont => ∃ σ' H', Inv X pins σ' H' s' ∧ D.ct σ' H'
  | .ret u => ∃ v σ' H', Inv X pins σ' H' s' ∧ RelV v u ∧ D.rt v H'
def PE (X : Cx) (e : Expr) (t : TE) : Prop :=
  ∀ (pins : List (Addr × Obj)) (s : Shared) (σ : St) (H : Hp) (Q : VK), Inv X pins σ H s → t σ H Q → wpAny (model X.prog X.w) X.A (eval e X.env) (EP X pins σ Q) X.xe s
def PT (X : Cx) (e : Expr) (t : TT) : Prop :=
  ∀ (pins : List (Addr × Obj)) (s : Shared) (σ : St) (H : Hp) (Q : Bool → Hp → Prop), Inv X pins σ H s → t σ H Q → wpAny (model X.prog X.w) X.A (isTrue e X.env (eval e X.env)) (TP X pins σ Q) X.xe s
def PW (X : Cx) (e : Expr) (t : TT) : Prop :=
  ∀ (whole : Sem Value) (pins : List (Addr × Obj)) (s : Shared) (σ : St) (H : Hp) (Q : Bool → Hp → Prop), Inv X pins σ H s → t σ H Q → wpAny (model X.prog X.w) X.A (isTrue e X.env whole) (TP X pins σ Q) X.xe s
theorem PW.pt {X : Cx} {e : Expr} {t : TT} (h : PW X e t) : PT X e t := h _
def PA (X : Cx) (es : List Expr) (t : TA) : Prop :=
  ∀ (pos : Pos) (pins : List (Addr × Obj)) (s : Shared) (σ : St) (H : Hp) (Q : List V → Hp → Prop), Inv X pins σ H s → t σ H Q → wpAny (model X.prog X.w) X.A (spliced (backTo pos (starEach es X.env))) (AP X pins σ Q) X.xe s
def PS (X : Cx) (st : Stmt) (t : TS) : Prop :=
  ∀ (pins : List (Addr × Obj)) (s : Shared) (σ : St) (H : Hp) (D : Ends), Inv X pins σ H s → t D σ H → wpAny (model X.prog X.w) X.A (exec st X.env) (SP X pins D) X.xe s
def PSs (X : Cx) (st : List Stmt) (t : TS) : Prop :=
  ∀ (pins : List (Addr × Obj)) (s : Shared) (σ : St) (H : Hp) (D : Ends), Inv X pins σ H s → t D σ H → wpAny (model X.prog X.w) X.A (execs st X.env) (SP X pins D) X.xe s
theorem thn {α : Type} {t : Sem α} {Q Q' : α → Shared → Prop} {M : Model} {A : Around} {E : Value → Shared → Prop} {s : Shared} (h : wpAny M A t Q E s) (hQ : ∀ a s, Q a s → Q' a s) : wpAny M A t Q' E s := wpAny_mono h hQ fun _ _ x => x
end L2
namespace L2
open PySem PySem.Spec PyProof.Rows
section
variable {X : Cx}
def tVar (i : Nat) : TE := fun σ H Q => ∃ v, σ[i]? = some (some v) ∧ Q v H
def tC (v : V) : TE := fun _ H Q => Q v H
theorem pe_var {i : Nat} {x : Str} {pos : Pos} (hN : X.N[i]? = some x) (hv : Vis X.env.scope x) (hd : (x == ("__debug__" : Str)) = false := by decide) (hcd : (x == ("__classdict__" : Str)) = false := by decide) : PE X (.Name x pos) (tVar i) := by
  intro pins s σ H Q I h
  obtain ⟨v, e, h⟩ := h
  obtain ⟨m, hn, hl⟩ := I.loc
  obtain ⟨u, r, l⟩ := hl i x v hN e hv
  have fin : EP X pins σ Q u s := ⟨v, H, I, r, h⟩
  rcases l with ⟨hk, hm⟩ | ⟨hk, c, hc, hcell⟩
  · exact wpAny_Name (wpAny_loadName_local I.ok.kind hk hn hm fin) hd
  · rcases hk with hk | hk
    · exact wpAny_Name (wpAny_loadName_cell I.ok.kind hk hc hcell fin) hd
    · exact wpAny_Name (wpAny_loadName_free I.ok.kind hk hc hcell fin hcd) hd
theorem pe_int {i j pos} : PE X (.Constant (.int i) j pos) (tC (.int i)) := fun _ _ _ H _ I h => wpAny_Constant_int ⟨.int i, H, I.tok _, ⟨_, rfl⟩, h⟩
theorem pe_bl {b j pos} : PE X (.Constant (.bool b) j pos) (tC (.bl b)) := fun _ _ _ H _ I h => Constant_bool ⟨.bl b, H, I, rfl, h⟩
def Gl (X : Cx) (x : Str) : Prop := X.env.kindOf x = some .globalImplicit
theorem ld_glob {E : Value → Shared → Prop} {pins : List (Addr × Obj)} {s : Shared} {σ : St} {H : Hp} {x : Str} {u : Value} {pos : Pos} {Q : Value → Shared → Prop} (I : Inv X pins σ H s) (hg : Gl X x) (hm : X.mg x = some u) (h : Q u s)
    (hd : (x == ("__debug__" : Str)) = false := by decide) : wpAny (model X.prog X.w) X.A (eval (.Name x pos) X.env) Q E s :=
  Calls.Name_function_global I.ok.kind hg (Calls.loadGlobal_global (by rw [I.ok.glob]; exact I.mod.glob.keeps I.bk) hm h) hd
theorem ld_blt {E : Value → Shared → Prop} {pins : List (Addr × Obj)} {s : Shared} {σ : St} {H : Hp} {x : Str} {u : Value} {pos : Pos} {Q : Value → Shared → Prop} (I : Inv X pins σ H s) (hg : Gl X x) (hm : X.mg x = none) (hv : bootBuiltins x = some u) (h : Q u s)
    (hn : x ≠ "__name__" := by decide) (hd : (x == ("__debug__" : Str)) = false := by decide) : wpAny (model X.prog X.w) X.A (eval (.Name x pos) X.env) Q E s := by
  obtain ⟨mb, h1, h2⟩ := I.mod.blt
  exact Calls.Name_function_global I.ok.kind hg (Calls.loadGlobal_builtin (by rw [I.ok.glob]; exact I.mod.glob.keeps I.bk) hm (by rw [I.ok.blt]; exact h1.keeps I.bk) ((h2 x hn).trans hv) h) hd
theorem pe_glob {x : Str} {v : V} {u : Value} {pos : Pos} (hg : Gl X x) (hm : X.mg x = some u) (r : RelV v u) (hd : (x == ("__debug__" : Str)) = false := by decide) : PE X (.Name x pos) (tC v) :=
  fun _ _ _ H _ I h => ld_glob I hg hm ⟨v, H, I, r, h⟩ hd
variable {a b : Expr} {ta tb : TE} {pos : Pos}
def tB (t : TE) : TT := fun σ H Q => t σ H fun x H1 => ∃ c, x = .bl c ∧ Q c H1
theorem pt_val {e : Expr} {t : TE} (h : PE X e t) (he : ∀ whole, isTrue e X.env whole = (do let v ← whole; standAt e.pos; holding [v] (truthy v)) := by intro _; rfl) : PT X e (tB t) := by
  intro pins s σ H Q I hw
  refine isTrue_plain (thn (h pins s σ H _ I hw) fun v s1 ⟨x, H1, I1, r1, q1⟩ => ?_) (he _)
  obtain ⟨d, rfl, q⟩ := q1
  cases r1
  exact wpAny_truthy_bool ⟨H1, I1, q⟩
variable {tA tB' : TT} {rest : List Expr}
def tAnd (t u : TT) : TT := fun σ H Q => t σ H fun c H1 => if c = true then u σ H1 Q else Q false H1
def tOr (t u : TT) : TT := fun σ H Q => t σ H fun c H1 => if c = true then Q true H1 else u σ H1 Q
def tNot (t : TT) : TT := fun σ H Q => t σ H fun c H1 => Q (!c) H1
theorem pw_and1 (ha : PT X a tA) : PW X (.BoolOp .And [a] pos) tA := by
  intro wh pins s σ H Q I h
  refine isTrue_and (thn (ha pins s σ H Q I h) fun c s1 e => ?_)
  cases c with
  | true => exact isTrue_and_nil e
  | false => exact e
theorem pw_or1 (ha : PT X a tA) : PW X (.BoolOp .Or [a] pos) tA := by
  intro wh pins s σ H Q I h
  refine isTrue_or (thn (ha pins s σ H Q I h) fun c s1 e => ?_)
  cases c with
  | false => exact isTrue_or_nil e
  | true => exact e
theorem pw_and (ha : PT X a tA) (hb : PW X (.BoolOp .And (b :: rest) pos) tB') : PW X (.BoolOp .And (a :: b :: rest) pos) (tAnd tA tB') := by
  intro wh pins s σ H Q I h
  refine isTrue_and (thn (ha pins s σ H _ I h) fun c s1 ⟨H1, I1, q1⟩ => ?_)
  cases c with
  | true => exact hb wh pins s1 σ H1 Q I1 q1
  | false => exact ⟨H1, I1, q1⟩
theorem pw_or (ha : PT X a tA) (hb : PW X (.BoolOp .Or (b :: rest) pos) tB') : PW X (.BoolOp .Or (a :: b :: rest) pos) (tOr tA tB') := by
  intro wh pins s σ H Q I h
  refine isTrue_or (thn (ha pins s σ H _ I h) fun c s1 ⟨H1, I1, q1⟩ => ?_)
  cases c with
  | true => exact ⟨H1, I1, q1⟩
  | false => exact hb wh pins s1 σ H1 Q I1 q1
theorem pt_not (ha : PT X a tA) : PT X (.UnaryOp .Not a pos) (tNot tA) := by
  intro pins s σ H Q I h
  exact isTrue_not (ha pins s σ H (fun c H1 => Q (!c) H1) I h)
def tAndV (ta tb : TE) : TE := fun σ H Q => ta σ H fun x H1 => ∃ c, x = .bl c ∧ if c = true then tb σ H1 Q else Q (.bl false) H1
def tOrV (ta tb : TE) : TE := fun σ H Q => ta σ H fun x H1 => ∃ c, x = .bl c ∧ if c = true then Q (.bl true) H1 else tb σ H1 Q
theorem pe_one {op} {t : TE} (h : PE X a t) : PE X (.BoolOp op [a] pos) t := fun pins s σ H Q I hw => BoolOp_one (h pins s σ H Q I hw)
theorem pe_and (ha : PE X a ta) (hb : PE X (.BoolOp .And (b :: rest) pos) tb) : PE X (.BoolOp .And (a :: b :: rest) pos) (tAndV ta tb) := by
  intro pins s σ H Q I h
  refine BoolOp_and (thn (ha pins s σ H _ I h) fun v s1 ⟨x, H1, I1, r1, q1⟩ => ?_)
  obtain ⟨c, rfl, q1⟩ := q1
  cases r1
  refine wpAny_truthy_bool ?_
  cases c with
  | true => exact hb pins s1 σ H1 Q I1 q1
  | false => exact ⟨.bl false, H1, I1, rfl, q1⟩
theorem pe_or (ha : PE X a ta) (hb : PE X (.BoolOp .Or (b :: rest) pos) tb) : PE X (.BoolOp .Or (a :: b :: rest) pos) (tOrV ta tb) := by
  intro pins s σ H Q I h
  refine BoolOp_or (thn (ha pins s σ H _ I h) fun v s1 ⟨x, H1, I1, r1, q1⟩ => ?_)
  obtain ⟨c, rfl, q1⟩ := q1
  cases r1
  refine wpAny_truthy_bool ?_
  cases c with
  | false => exact hb pins s1 σ H1 Q I1 q1
  | true => exact ⟨.bl true, H1, I1, rfl, q1⟩
def tIf (t : TT) (ta tb : TE) : TE := fun σ H Q => t σ H fun c H1 => if c = true then ta σ H1 Q else tb σ H1 Q
theorem pe_ifExp {c : Expr} (hc : PT X c tA) (ha : PE X a ta) (hb : PE X b tb) : PE X (.IfExp c a b pos) (tIf tA ta tb) := by
  intro pins s σ H Q I h
  refine wpAny_IfExp (thn (hc pins s σ H _ I h) fun d s1 ⟨H1, I1, q1⟩ => ?_)
  cases d with
  | true => exact ha pins s1 σ H1 Q I1 q1
  | false => exact hb pins s1 σ H1 Q I1 q1
end
end L2
namespace L2
open PySem PySem.Spec PyProof.Rows
def SqL (K : PySem.W.Frag) (H : Hp) (a : Addr) (xs : List V) : Prop :=
  Rd H a (.lst xs) ∨
    ∃ (o : Obj) (its : Array Value) (n : Nat), K.lookup a = some o ∧ o.cls = .type "list" ∧ o.dict = none ∧ o.data = .seq its n ∧ its.size ≤ sizeLine ∧ Vals xs its.toList
def SqT (K : PySem.W.Frag) (H : Hp) (a : Addr) (xs : List V) : Prop :=
  Rd H a (.tup xs) ∨
    ∃ (o : Obj) (its : Array Value) (n : Nat), K.lookup a = some o ∧ o.cls = .type "tuple" ∧ o.data = .seq its n ∧ its.size ≤ sizeLine ∧ Vals xs its.toList
def absV : Value → Option V
  | .none => some .non
  | .bool b => some (.bl b)
  | .int i _ => some (.int i)
  | .str x _ => some (.str x)
  | .bytes b _ => some (.byt b)
  | .float b _ => some (.flt b)
  | .ref a => some (.ref a)
  | .type n => some (.ty n)
  | _ => none
theorem RelV.abs {x : V} {u : Value} (r : RelV x u) : absV u = some x := by
  cases x with
  | non => cases r; rfl
  | bl _ => cases r; rfl
  | int _ => obtain ⟨t, rfl⟩ := r; rfl
  | str _ => obtain ⟨t, rfl⟩ := r; rfl
  | byt _ => obtain ⟨t, rfl⟩ := r; rfl
  | flt _ => obtain ⟨t, rfl⟩ := r; rfl
  | ref _ => cases r; rfl
  | ty _ => cases r; rfl
theorem RelV.inj {x y : V} {u : Value} (r : RelV x u) (q : RelV y u) : x = y := Option.some.inj (r.abs.symm.trans q.abs)
theorem Vals.inj : ∀ {xs ys : List V} {us : List Value}, Vals xs us → Vals ys us → xs = ys
  | _, _, _, .nil, .nil => rfl
  | _, _, _, .cons r t, .cons r' t' => by rw [r.inj r', Vals.inj t t']
section
variable {X : Cx} {pins : List (Addr × Obj)} {σ : St} {H : Hp} {s : Shared} {a : Addr} {xs ys : List V}
theorem SqL.of {K : PySem.W.Frag} (h : H a = some (.lst xs)) : SqL K H a xs := .inl (.inl h)
theorem Inv.list (I : Inv X pins σ H s) (h : SqL X.K H a xs) : ∃ its : List Value, Vals xs its ∧ PlainL s.heap a its.toArray ∧ xs.length ≤ sizeLine := by
  rcases h with h | ⟨o, its, n, hk, hc, hd, hs, hz, r⟩
  · obtain ⟨z, its, n, r, e⟩ := h.ok I.hok
    exact ⟨its, r, ⟨_, n, e, rfl, rfl, rfl⟩, z⟩
  · refine ⟨its.toList, r, ⟨o, n, I.kIn a o hk, hc, hd, by simpa using hs⟩, ?_⟩
    have e := r.length
    simp only [Array.length_toList] at e
    omega
theorem Inv.tuple (I : Inv X pins σ H s) (h : SqT X.K H a xs) : ∃ its : List Value, Vals xs its ∧ IsTup s.heap a its.toArray ∧ xs.length ≤ sizeLine := by
  rcases h with h | ⟨o, its, n, hk, hc, hs, hz, r⟩
  · obtain ⟨z, its, r, p⟩ := h.ok I.hok
    exact ⟨its, r, p, z⟩
  · refine ⟨its.toList, r, ⟨o, I.kIn a o hk, hc, n, by simpa using hs⟩, ?_⟩
    have e := r.length
    simp only [Array.length_toList] at e
    omega
theorem Inv.list_inj (I : Inv X pins σ H s) (h : SqL X.K H a xs) (h' : SqL X.K H a ys) : xs = ys := by
  obtain ⟨its, r, ⟨o, n, e, _, _, d⟩, _⟩ := I.list h
  obtain ⟨its', r', ⟨o', n', e', _, _, d'⟩, _⟩ := I.list h'
  rw [e] at e'; cases e'
  rw [d] at d'
  injection d' with d1 _
  have : its = its' := by simpa using congrArg Array.toList d1
  subst this
  exact r.inj r'
end
abbrev Cx.wish (X : Cx) (E : Value → Shared → Prop) : Cx := { X with xe := E }
abbrev Cx.nox (X : Cx) : Cx := X.wish fun _ _ => False
theorem Cx.Ok.wish {X : Cx} (ok : X.Ok) (E : Value → Shared → Prop) : (X.wish E).Ok :=
  ⟨ok.mod, ok.kind, ok.glob, ok.blt, ok.above, ok.inj, ok.has, ok.cab, ok.hd, ok.frames, ok.stk, ok.exf, ok.bs, ok.bsz, ok.noex, ok.exfs, ok.funs, ok.frf⟩
theorem Cx.Ok.unwish {X : Cx} {E : Value → Shared → Prop} (ok : (X.wish E).Ok) : X.Ok :=
  ⟨ok.mod, ok.kind, ok.glob, ok.blt, ok.above, ok.inj, ok.has, ok.cab, ok.hd, ok.frames, ok.stk, ok.exf, ok.bs, ok.bsz, ok.noex, ok.exfs, ok.funs, ok.frf⟩
section
variable {X : Cx} {pins : List (Addr × Obj)} {σ : St} {H : Hp} {s : Shared} {E : Value → Shared → Prop}
theorem Inv.wish (I : Inv X pins σ H s) (E : Value → Shared → Prop) : Inv (X.wish E) pins σ H s := ⟨I.ok.wish E, I.os, I.bare, I.base, I.loc, I.cell, I.free, I.freeC, I.pin, I.hok, I.len⟩
theorem Inv.unwish (I : Inv (X.wish E) pins σ H s) : Inv X pins σ H s := ⟨I.ok.unwish, I.os, I.bare, I.base, I.loc, I.cell, I.free, I.freeC, I.pin, I.hok, I.len⟩
theorem SP.unwish {D : Ends} {f : Flow} {s' : Shared} (h : SP (X.wish E) pins D f s') : SP X pins D f s' := by
  cases f with
  | next => obtain ⟨σ', H', I, q⟩ := h; exact ⟨σ', H', I.unwish, q⟩
  | brk => obtain ⟨σ', H', I, q⟩ := h; exact ⟨σ', H', I.unwish, q⟩
  | cont => obtain ⟨σ', H', I, q⟩ := h; exact ⟨σ', H', I.unwish, q⟩
  | ret u => obtain ⟨v, σ', H', I, r, q⟩ := h; exact ⟨v, σ', H', I.unwish, r, q⟩
theorem PSs.nox {st : List Stmt} {t : TS} (h : PSs X.nox st t) : PSs X st t := fun pins s σ H D I hw =>
  wpAny_mono (h pins s σ H D (I.wish _) hw) (fun _ _ q => q.unwish) fun _ _ z => False.elim z
end
section
variable {X : Cx} {st : Stmt} {rest : List Stmt} {t u : TS} {e : Expr} {te : TE} {pos : Pos}
def tNext : TS := fun D σ H => D.nx σ H
def tSeq (t u : TS) : TS := fun D σ H => t { D with nx := u D } σ H
theorem pss_nil : PSs X [] tNext := fun _ _ σ H _ I h => wpAny_execs_nil ⟨σ, H, I, h⟩
theorem pss_cons (h1 : PS X st t) (h2 : PSs X rest u) : PSs X (st :: rest) (tSeq t u) := by
  intro pins s σ H D I h
  refine wpAny_execs_cons (thn (h1 pins s σ H { D with nx := u D } I h) fun f s1 q => ?_)
  cases f with
  | next =>
    obtain ⟨σ', H', I', q⟩ := q
    exact h2 pins s1 σ' H' D I' q
  | ret v => exact q
  | brk => exact q
  | cont => exact q
theorem pss_one (h1 : PS X st t) : PSs X [st] t := by
  intro pins s σ H D I h
  refine wpAny_execs_cons (thn (h1 pins s σ H D I h) fun f s1 q => ?_)
  cases f with
  | next => exact wpAny_execs_nil q
  | ret v => exact q
  | brk => exact q
  | cont => exact q
theorem Inv.quiet {pins : List (Addr × Obj)} {σ : St} {H : Hp} {s : Shared} (I : Inv X pins σ H s) : interactive X.env = false := by simp [interactive, I.ok.kind]
def tDrop (te : TE) : TS := fun D σ H => te σ H fun _ H1 => D.nx σ H1
theorem ps_expr (he : PE X e te) (hs : swapsWith e none pos.line X.env = pure false := by rfl) : PS X (.Expr e pos) (tDrop te) := by
  intro pins s σ H D I h
  exact wpAny_Expr_any (thn (he pins s σ H _ I h) fun v s1 ⟨x, H1, I1, r1, q1⟩ => ⟨σ, H1, I1, q1⟩) I.quiet hs
def tRet (te : TE) : TS := fun D σ H => te σ H D.rt
theorem ps_ret (he : PE X e te) : PS X (.Return (some e) pos) (tRet te) := by
  intro pins s σ H D I h
  exact wpAny_Return_some (thn (he pins s σ H _ I h) fun v s1 ⟨x, H1, I1, r1, q1⟩ => ⟨x, σ, H1, I1, r1, q1⟩)
def tIfS (c : TT) (t u : TS) : TS := fun D σ H => c σ H fun b H1 => if b = true then t D σ H1 else u D σ H1
theorem ps_if {c : Expr} {a b : List Stmt} {tc : TT} (hc : PT X c tc) (ha : PSs X a t) (hb : PSs X b u) : PS X (.If c a b pos) (tIfS tc t u) := by
  intro pins s σ H D I h
  refine wpAny_If (thn (hc pins s σ H _ I h) fun d s1 ⟨H1, I1, q1⟩ => ?_)
  cases d with
  | true => exact ha pins s1 σ H1 D I1 q1
  | false => exact hb pins s1 σ H1 D I1 q1
def tNever : TS := fun _ _ _ => False
theorem ps_never : PS X st tNever := fun _ _ _ _ _ _ h => h.elim
end
abbrev TG := V → St → Hp → (St → Hp → Prop) → Prop
abbrev TGs := List V → St → Hp → (St → Hp → Prop) → Prop
def PG (X : Cx) (target : Expr) (t : TG) : Prop :=
  ∀ (pins : List (Addr × Obj)) (s : Shared) (σ : St) (H : Hp) (v : V) (u : Value) (Q : St → Hp → Prop), Inv X pins σ H s → RelV v u → t v σ H Q →
    wpAny (model X.prog X.w) X.A (assign target X.env u) (fun _ s' => ∃ σ' H', Inv X pins σ' H' s' ∧ Q σ' H') X.xe s
def PGs (X : Cx) (ts : List Expr) (t : TGs) : Prop :=
  ∀ (pins : List (Addr × Obj)) (s : Shared) (σ : St) (H : Hp) (vs : List V) (us : List Value) (Q : St → Hp → Prop), Inv X pins σ H s → Vals vs us → t vs σ H Q →
    wpAny (model X.prog X.w) X.A (assignInOrder ((assignEach ts X.env).map (·.2)) us) (fun _ s' => ∃ σ' H', Inv X pins σ' H' s' ∧ Q σ' H') X.xe s
abbrev TSet := V → V → V → Hp → (Hp → Prop) → Prop
def PSet (X : Cx) (t : TSet) : Prop :=
  ∀ (pins : List (Addr × Obj)) (s : Shared) (σ : St) (H : Hp) (o i v : V) (ov iv u : Value) (Q : Hp → Prop), Inv X pins σ H s → RelV o ov → RelV i iv → RelV v u → t o i v H Q →
    wpAny (model X.prog X.w) X.A (setItem ov iv u) (fun _ s' => ∃ H', Inv X pins σ H' s' ∧ Q H') X.xe s
abbrev TIp := V → V → Hp → VK → Prop
def PIp (X : Cx) (op : Operator) (t : TIp) : Prop :=
  ∀ (pins : List (Addr × Obj)) (s : Shared) (σ : St) (H : Hp) (x y : V) (v u : Value) (Q : VK), Inv X pins σ H s → RelV x v → RelV y u → t x y H Q →
    wpAny (model X.prog X.w) X.A (inplaceOp op v u) (EP X pins σ Q) X.xe s
section
variable {X : Cx} {pos : Pos}
def gName (i : Nat) : TG := fun v σ H Q => Q (σ.set i (some v)) H
theorem pg_name {i : Nat} {x : Str} (hN : X.N.Nodup) (hi : X.N[i]? = some x) (hx : Loc X.env.scope x) (hf : X.fn x = true ∨ X.env.scope.names.lookup x = some .local := by first | exact .inl rfl | exact .inr rfl | assumption) : PG X (.Name x pos) (gName i) := by
  intro pins s σ H v u Q I r h
  exact wpAny_assign_Name (store_ok I hN hi hx r (fun s' I' => ⟨_, H, I', h⟩) hf)
def gNil : TGs := fun vs σ H Q => vs = [] ∧ Q σ H
def gCons (t : TG) (u : TGs) : TGs := fun vs σ H Q => ∃ v r, vs = v :: r ∧ t v σ H fun σ' H' => u r σ' H' Q
theorem pgs_nil : PGs X [] gNil := by
  intro pins s σ H vs us Q I r h
  obtain ⟨e, h⟩ := h
  subst e
  cases r
  exact assignInOrder_nil ⟨σ, H, I, h⟩
theorem pgs_cons {e : Expr} {es : List Expr} {t : TG} {u : TGs} (h1 : PG X e t) (h2 : PGs X es u)
    (hs : (assignEach (e :: es) X.env).map (·.2) = assign e X.env :: (assignEach es X.env).map (·.2) := by rfl) : PGs X (e :: es) (gCons t u) := by
  intro pins s σ H vs us Q I r h
  obtain ⟨v, vr, e1, h⟩ := h
  subst e1
  cases r with
  | cons r rr =>
    rw [hs]
    refine assignInOrder_cons (thn (h1 pins s σ H _ _ _ I r h) fun _ s1 ⟨σ1, H1, I1, q1⟩ => ?_)
    exact h2 pins s1 σ1 H1 _ _ Q I1 rr q1
def gTup (K : PySem.W.Frag) (n : Nat) (t : TGs) : TG := fun v σ H Q => ∃ a xs, v = .ref a ∧ SqT K H a xs ∧ xs.length = n ∧ t xs σ H Q
theorem pg_tup {es : List Expr} {k : Nat} {t : TGs} {n : Nat} (hc : X.calm = true) (h : PGs X es t)
    (hn : (assignEach es X.env).length = n := by rfl) (hst : (assignEach es X.env).findIdx? (·.1) = none := by rfl) : PG X (.Tuple es k pos) (gTup X.K n t) := by
  intro pins s σ H v u Q I r hw
  obtain ⟨a, xs, e1, hq, hl, hw⟩ := hw
  subst e1
  cases r
  obtain ⟨its, rv, ht, hz⟩ := I.tuple hq
  refine assign_Tuple_tuple (I.ok.hd hc) ht (by simp [hn, ← hl, rv.length]) hst fun h' hx => ?_
  have I1 : Inv X pins σ H { s with heap := h' } := I.kept (t' := s.toks) fun b o e => hx b o (Nat.ne_of_lt (Heap.lt_size e)) e
  exact h pins _ σ H xs _ Q I1 (by simpa using rv) hw
def tAsg (te : TE) (g : TG) : TS := fun D σ H => te σ H fun x H1 => g x σ H1 D.nx
theorem ps_set {i : Nat} {x : Str} {e : Expr} {te : TE} {pos' : Pos} (hN : X.N.Nodup) (hi : X.N[i]? = some x) (hx : Loc X.env.scope x) (he : PE X e te) (hs : swapsWith e (some (.Name x pos')) pos.line X.env = pure false := by rfl) (hf : X.fn x = true ∨ X.env.scope.names.lookup x = some .local := by first | exact .inl rfl | exact .inr rfl | assumption) :
    PS X (.Assign [.Name x pos'] e pos) (tAsg te (gName i)) := by
  intro pins s σ H D I h
  refine wpAny_Assign_Name (thn (he pins s σ H _ I h) fun v s1 ⟨y, H1, I1, r1, q1⟩ => ?_) hs
  exact store_ok I1 hN hi hx r1 (fun s2 I2 => ⟨_, H1, I2, q1⟩) hf
def tAug (i : Nat) (te : TE) (ti : TIp) : TS := fun D σ H => ∃ x, σ[i]? = some (some x) ∧ te σ H fun y H1 => ti x y H1 fun z H2 => D.nx (σ.set i (some z)) H2
theorem ps_aug {i : Nat} {x : Str} {e : Expr} {te : TE} {op : Operator} {ti : TIp} {pos' : Pos} (hN : X.N.Nodup) (hi : X.N[i]? = some x) (hx : Loc X.env.scope x) (he : PE X e te) (ho : PIp X op ti) (hf : X.fn x = true ∨ X.env.scope.names.lookup x = some .local := by first | exact .inl rfl | exact .inr rfl | assumption) :
    PS X (.AugAssign (.Name x pos') op e pos) (tAug i te ti) := by
  intro pins s σ H D I h
  obtain ⟨v, e1, h⟩ := h
  obtain ⟨m, hn, hl⟩ := I.loc
  have vis : Vis X.env.scope x := by rcases hx with k | k; exact .inl k; exact .inr (.inl k)
  obtain ⟨u, r, l⟩ := hl i x v hi e1 vis
  refine wpAny_AugAssign_Name ?_
  have go : wpAny (model X.prog X.w) X.A (eval e X.env) (fun w s₂ => wpAny (model X.prog X.w) X.A (inplaceOp op u w) (fun r s₃ => wpAny (model X.prog X.w) X.A (storeName X.env x r) (fun _ => SP X pins D .next) X.xe s₃) X.xe s₂) X.xe s := by
    refine thn (he pins s σ H _ I h) fun w s1 ⟨y, H1, I1, r1, q1⟩ => ?_
    refine thn (ho pins s1 σ H1 v y u w _ I1 r r1 q1) fun z s2 ⟨zv, H2, I2, r2, q2⟩ => ?_
    exact store_ok I2 hN hi hx r2 (fun s3 I3 => ⟨_, H2, I3, q2⟩) hf
  rcases l with ⟨hk, hm⟩ | ⟨hk, c, hc, hcell⟩
  · exact wpAny_loadName_local I.ok.kind hk hn hm go
  · rcases hk with hk | hk
    · exact wpAny_loadName_cell I.ok.kind hk hc hcell go
    · rcases hx with k | k
      · have : X.env.scope.names.lookup x = some .free := hk
        rw [k] at this; cases this
      · have : X.env.scope.names.lookup x = some .free := hk
        rw [k] at this; cases this
def tAugS (to ti te : TE) (tget : V → V → Hp → VK → Prop) (tip : TIp) (tset : TSet) : TS := fun D σ H => to σ H fun o H1 => ti σ H1 fun i H2 => tget o i H2 fun x H3 => te σ H3 fun y H4 => tip x y H4 fun z H5 => tset o i z H5 fun H6 => D.nx σ H6
def PGet (X : Cx) (t : V → V → Hp → VK → Prop) : Prop :=
  ∀ (pins : List (Addr × Obj)) (s : Shared) (σ : St) (H : Hp) (o i : V) (ov iv : Value) (Q : VK), Inv X pins σ H s → RelV o ov → RelV i iv → t o i H Q →
    wpAny (model X.prog X.w) X.A (getItem ov iv) (EP X pins σ Q) X.xe s
theorem ps_augS {o i e : Expr} {to ti te : TE} {tget : V → V → Hp → VK → Prop} {tip : TIp} {tset : TSet} {op : Operator} {tpos : Pos} (ho : PE X o to) (hi : PE X i ti) (hg : PGet X tget) (he : PE X e te) (hp : PIp X op tip) (hs : PSet X tset)
    (ha : ∀ ov iv new, augStore i ov iv new = (do holding [new, ov, iv] (setItem ov iv new); release [new, ov, iv] []; pure .next) := by intros; rfl) : PS X (.AugAssign (.Subscript o i tpos) op e pos) (tAugS to ti te tget tip tset) := by
  intro pins s σ H D I h
  refine wpAny_AugAssign_SubscriptAny (thn (ho pins s σ H _ I h) fun ov s1 ⟨x1, H1, I1, r1, q1⟩ => ?_) ha
  refine thn (hi pins s1 σ H1 _ I1 q1) fun iv s2 ⟨x2, H2, I2, r2, q2⟩ => ?_
  refine thn (hg pins s2 σ H2 x1 x2 ov iv _ I2 r1 r2 q2) fun old s3 ⟨x3, H3, I3, r3, q3⟩ => ?_
  refine thn (he pins s3 σ H3 _ I3 q3) fun v s4 ⟨x4, H4, I4, r4, q4⟩ => ?_
  refine thn (hp pins s4 σ H4 x3 x4 old v _ I4 r3 r4 q4) fun new s5 ⟨x5, H5, I5, r5, q5⟩ => ?_
  exact thn (hs pins s5 σ H5 x1 x2 x5 ov iv new _ I5 r1 r2 r5 q5) fun _ s6 ⟨H6, I6, q6⟩ => ⟨σ, H6, I6, q6⟩
def ipI (f : Int → Int → Int) : TIp := fun x y H Q => ∃ i j, x = .int i ∧ y = .int j ∧ Q (.int (f i j)) H
theorem ip_add : PIp X .Add (ipI fun i j => i + j) := by
  intro pins s σ H x y v u Q I r1 r2 h
  obtain ⟨i, j, e1, e2, q⟩ := h
  subst e1; subst e2
  obtain ⟨t, rfl⟩ := r1
  obtain ⟨t', rfl⟩ := r2
  exact iadd_int ⟨.int _, H, I.tok _, ⟨_, rfl⟩, q⟩
end
section
variable {X : Cx} {pos : Pos}
def tWhile (c : TT) (tb : TS) : TS := fun D σ H => ∃ W : Nat → St → Hp → Prop, (∃ m, W m σ H) ∧ ∀ m σ H, W m σ H →
  c σ H fun b H1 => if b = true then ∃ N : St → Hp → Prop, (∀ σ' H', N σ' H' → ∃ m', m' < m ∧ W m' σ' H') ∧ tb { D with nx := N, ct := N, bk := D.nx } σ H1 else D.nx σ H1
theorem ps_while {c : Expr} {body : List Stmt} {tc : TT} {tb : TS} (hp : PassesOwn (model X.prog X.w) X.A X.env X.xe) (hc : PT X c tc) (hb : PSs X body tb) : PS X (.While c body [] pos) (tWhile tc tb) := by
  intro pins s σ H D I h
  obtain ⟨W, ⟨m0, w0⟩, turn⟩ := h
  refine wpAny_While (codeAny_whileLoop (fun n s' => ∃ σ' H', Inv X pins σ' H' s' ∧ W n σ' H') ?_ m0 ⟨σ, H, I, w0⟩)
  rintro n s1 ⟨σ1, H1, I1, w1⟩
  refine wpAny_passesOwn hp (thn (hc pins s1 σ1 H1 _ I1 (turn n σ1 H1 w1)) fun b s2 ⟨H2, I2, q2⟩ => ?_)
  cases b with
  | true =>
    obtain ⟨N, hN, q2⟩ := q2
    rw [if_pos rfl]
    refine wpAny_passesOwn hp (thn (hb pins s2 σ1 H2 _ I2 q2) fun f s3 q3 => ?_)
    cases f with
    | next =>
      obtain ⟨σ3, H3, I3, n3⟩ := q3
      obtain ⟨m', hm, w3⟩ := hN σ3 H3 n3
      exact ⟨m', hm, σ3, H3, I3, w3⟩
    | cont =>
      obtain ⟨σ3, H3, I3, n3⟩ := q3
      obtain ⟨m', hm, w3⟩ := hN σ3 H3 n3
      exact ⟨m', hm, σ3, H3, I3, w3⟩
    | brk => exact q3
    | ret v => exact q3
  | false =>
    rw [if_neg Bool.false_ne_true]
    exact wpAny_execs_nil ⟨σ1, H2, I2, q2⟩
end
structure It where
  go : Nat → Hp → Prop
  yld : Nat → Hp → V → Hp → Prop
  stop : Nat → Hp → Prop
def FpOk (X : Cx) (pins : List (Addr × Obj)) (H : Hp) (b : Addr) : Prop :=
  H b = none ∧ b ≠ X.env.locals ∧ b ∉ X.fs ∧ (b ∈ X.ex ∨ X.s_0.heap.objs.size ≤ b) ∧ (∀ x c, X.env.cells.lookup x = some c → c ≠ b) ∧ ∀ p ∈ X.pn ++ pins, p.1 ≠ b
theorem Inv.fpOk {X : Cx} {pins : List (Addr × Obj)} {σ : St} {H H' : Hp} {s : Shared} {b : Addr} (I : Inv X pins σ H s) (hb : s.heap.objs.size ≤ b) (hn : H' b = none) : FpOk X pins H' b := by
  refine ⟨hn, Nat.ne_of_gt (Nat.lt_of_lt_of_le I.lt hb), I.nofs hb, .inr (Nat.le_trans I.sz hb), fun x c e z => ?_, fun p hp z => ?_⟩
  · obtain ⟨v, q⟩ := I.cell x c e
    exact absurd (Nat.lt_of_lt_of_le q.lt (by rw [z]; exact hb)) (Nat.lt_irrefl _)
  · exact absurd (Nat.lt_of_lt_of_le (Heap.lt_size (I.pin p hp).1) (by rw [z]; exact hb)) (Nat.lt_irrefl _)
structure Turn (P : Program) (w : World) (K : PySem.W.Frag) (tg : Expr) (J : It) (fp : List Addr) (it : Addr) (tn : Nat → Heap → Prop) : Prop where
  mem : it ∈ fp
  obj : ∀ i h, tn i h → ∀ b ∈ fp, ∃ o, h.get? b = some o ∧ ∀ v, o.data ≠ .cell v
  keep : ∀ i h h', tn i h → (∀ b ∈ fp, ∀ o, h.get? b = some o → h'.get? b = some o) → tn i h'
  item : ∀ (X : Cx), X.prog = P → X.w = w → X.K = K → X.calm = true → ∀ (i : Nat) (pins : List (Addr × Obj)) (s : Shared) (σ : St) (H : Hp) (E : Value → Shared → Prop), Inv X pins σ H s → (∀ b ∈ fp, FpOk X pins H b) → tn i s.heap → J.go i H →
    wpAny (model P w) X.A (pyNext (.ref it)) (fun r s1 => ∃ u, r = some u ∧
      wpAny (model P w) X.A (letOwnedTupleGo tg (.ref it) u) (fun _ s2 => ∃ x H', Inv X pins σ H' s2 ∧ RelV x u ∧ J.yld i H x H' ∧ tn (i + 1) s2.heap ∧ ∀ b ∈ fp, H' b = none) E s1) E s
  done : ∀ (X : Cx), X.prog = P → X.w = w → X.K = K → X.calm = true → ∀ (i : Nat) (pins : List (Addr × Obj)) (s : Shared) (σ : St) (H : Hp) (E : Value → Shared → Prop), Inv X pins σ H s → (∀ b ∈ fp, FpOk X pins H b) → tn i s.heap → J.stop i H →
    wpAny (model P w) X.A (pyNext (.ref it)) (fun r s1 => r = none ∧ Inv X pins σ H s1) E s
  self : ∀ (A : Around) (i : Nat) (s : Shared) (Q : Value → Shared → Prop) (E : Value → Shared → Prop), tn i s.heap → Q (.ref it) s → wpAny (model P w) A (pyIter (.ref it)) Q E s
abbrev TI := St → Hp → (It → Hp → Prop) → Prop
def PIE (X : Cx) (pins : List (Addr × Obj)) (σ : St) (tg : Expr) (R : It → Hp → Prop) (itv : Value) (s2 : Shared) : Prop :=
  ∃ (it : Addr) (fp : List Addr) (tn : Nat → Heap → Prop) (J : It) (H' : Hp), itv = .ref it ∧ Inv X pins σ H' s2 ∧ Turn X.prog X.w X.K tg J fp it tn ∧ tn 0 s2.heap ∧ (∀ b ∈ fp, FpOk X pins H' b) ∧ R J H'
def PI (X : Cx) (tg iter : Expr) (wi : TI) : Prop :=
  ∀ (pins : List (Addr × Obj)) (s : Shared) (σ : St) (H : Hp) (R : It → Hp → Prop), Inv X pins σ H s → wi σ H R →
    wpAny (model X.prog X.w) X.A (eval iter X.env) (fun v s1 => wpAny (model X.prog X.w) X.A (pyIter v) (PIE X pins σ tg R) X.xe s1) X.xe s
theorem go_of {M : Model} {A : Around} {E : Value → Shared → Prop} {s : Shared} {tg : Expr} {it : Addr} {u : Value} {o : Obj} {n : String} {vs : Array Value} {Q : Unit → Shared → Prop} (ho : s.heap.get? it = some o) (hc : o.cls = .type n) (hd : o.data = .fields vs)
    (hn : ["enumerate", "zip", "dict_itemiterator", "dict_reverseitemiterator", "odict_iterator", "itertools.zip_longest", "itertools.pairwise"].contains n = false) (hQ : Q () s) : wpAny M A (letOwnedTupleGo tg (.ref it) u) Q E s := by
  unfold letOwnedTupleGo
  cases tg <;> first
    | exact wpAny_pure hQ
    | (cases u <;> first
        | exact wpAny_pure hQ
        | (refine wpAny_bind (wpAny_load ho ?_)
           rw [hc, hd]
           show wpAny M A (if (["enumerate", "zip", "dict_itemiterator", "dict_reverseitemiterator", "odict_iterator", "itertools.zip_longest", "itertools.pairwise"].contains n && vs[0]? == some (rawInt _)) = true then _ else _) Q E s
           rw [if_neg (by intro h; rw [hn, Bool.false_and] at h; cases h)]
           exact wpAny_pure hQ))
def Itl (K : PySem.W.Frag) (a : Addr) : It :=
  ⟨fun i H => ∃ xs x, SqL K H a xs ∧ xs[i]? = some x, fun i H x H' => H' = H ∧ ∀ xs, SqL K H a xs → xs[i]? = some x, fun i H => ∃ xs, SqL K H a xs ∧ xs.length ≤ i⟩
def Itr (lo : Int) (n : Nat) : It := ⟨fun i _ => i < n, fun i H x H' => H' = H ∧ x = .int (lo + i), fun i _ => n ≤ i⟩
theorem turn_list {P : Program} {w : World} {K : PySem.W.Frag} {tg : Expr} (a it : Addr) : Turn P w K tg (Itl K a) [it] it (fun i h => h.IsListIter it a i) where
  mem := by simp
  obj := fun i h st b hb => by
    have e : b = it := by simpa using hb
    subst e
    obtain ⟨o, e, c, d⟩ := st
    exact ⟨o, e, fun v z => by rw [d] at z; cases z⟩
  keep := fun i h h' st k => st.at fun o e => k it (by simp) o e
  item := by
    intro X hP hw hK hc i pins s σ H E I hf st hg
    subst hP hw hK
    obtain ⟨xs, x, hq, hx⟩ := hg
    obtain ⟨its, rv, p, hz⟩ := I.list hq
    obtain ⟨u, hu, ru⟩ := rv.get hx
    obtain ⟨f0, f1, f2, f3, f4, f5⟩ := hf it (by simp)
    refine wpAny_pyNext_list_item st p.isList (x := u) (by simpa using hu) fun h' st' sb => ?_
    have I1 : Inv X pins σ H { s with heap := h' } := I.turned (t' := s.toks) (fun b o hb e => (sb.2 b hb).trans e) f0 f1 f3 f4 f5
    obtain ⟨o, e, c, d⟩ := id st'
    exact ⟨u, rfl, go_of (s := { s with heap := h' }) e c d (by decide) ⟨x, H, I1, ru, ⟨rfl, fun ys hy => by rw [I.list_inj hy hq]; exact hx⟩, st', fun b hb => (hf b hb).1⟩⟩
  done := by
    intro X hP hw hK hc i pins s σ H E I hf st hg
    subst hP hw hK
    obtain ⟨xs, hq, hx⟩ := hg
    obtain ⟨its, rv, p, hz⟩ := I.list hq
    obtain ⟨f0, f1, f2, f3, f4, f5⟩ := hf it (by simp)
    have hl := rv.length
    exact wpAny_pyNext_list_end (I.ok.hd hc) st p.isList (by simp; omega) fun h' eb => ⟨rfl, I.turned (t' := s.toks) (fun b o hb e => eb b o hb e) f0 f1 f3 f4 f5⟩
  self := fun _ _ _ _ _ st h => wpAny_pyIter_listiter st h
theorem turn_range {P : Program} {w : World} {K : PySem.W.Frag} {tg : Expr} (it : Addr) (lo : Int) (n : Nat) : Turn P w K tg (Itr lo n) [it] it (fun i h => IsRangeIter h it (lo + (i : Nat) * 1) ((n : Int) - (i : Nat)) 1) where
  mem := by simp
  obj := fun i h st b hb => by
    have e : b = it := by simpa using hb
    subst e
    exact ⟨_, st, fun v z => by
      have z' : Data.fields _ = Data.cell v := z
      cases z'⟩
  keep := fun i h h' st k => k it (by simp) _ st
  item := by
    intro X hP hw hK hc i pins s σ H E I hf st hg
    subst hP hw hK
    obtain ⟨f0, f1, f2, f3, f4, f5⟩ := hf it (by simp)
    have W := Walks.range (prog := X.prog) (w := X.w) (I.ok.hd hc) it lo 1 n
    refine W.item i s _ _ hg st fun v h' tk hv st' kk => ?_
    obtain ⟨t, rfl⟩ := hv
    have I1 : Inv X pins σ H { s with heap := h', toks := tk } := I.turned (fun b o hb e => kk b o (by simpa using hb) e) f0 f1 f3 f4 f5
    refine ⟨_, rfl, go_of (s := { s with heap := h', toks := tk }) (n := "range_iterator") st' rfl rfl (by decide) ⟨.int (lo + i), H, I1, ⟨t, ?_⟩, ⟨rfl, rfl⟩, st', fun b hb => (hf b hb).1⟩⟩
    rw [Int.mul_one]
  done := by
    intro X hP hw hK hc i pins s σ H E I hf st hg
    subst hP hw hK
    obtain ⟨f0, f1, f2, f3, f4, f5⟩ := hf it (by simp)
    exact wpAny_pyNext_range_end (I.ok.hd hc) st (by have : n ≤ i := hg; omega) fun h' eb => ⟨rfl, I.turned (t' := s.toks) (fun b o hb e => eb b o hb e) f0 f1 f3 f4 f5⟩
  self := fun _ _ _ _ _ st h => wpAny_pyIter_rangeiter st h
end L2
namespace L2
open PySem PySem.Spec PyProof.Rows
section
variable {X : Cx} {tg : Expr}
def iList (K : PySem.W.Frag) (tl : TE) : TI := fun σ H R => tl σ H fun x H1 => ∃ a, x = .ref a ∧ (∃ xs, SqL K H1 a xs) ∧ R (Itl K a) H1
theorem pi_list {l : Expr} {tl : TE} (hl : PE X l tl) : PI X tg l (iList X.K tl) := by
  intro pins s σ H R I h
  refine thn (hl pins s σ H _ I h) fun v s1 ⟨x, H1, I1, r1, q1⟩ => ?_
  obtain ⟨a, e, ⟨xs, hq⟩, q⟩ := q1
  subst e
  cases r1
  obtain ⟨its, rv, p, hz⟩ := I1.list hq
  refine wpAny_pyIter_list p.isList ?_
  refine ⟨s1.heap.objs.size, [s1.heap.objs.size], _, _, H1, rfl, I1.kept (t' := s1.toks) fun b o e => Heap.get?_push_of_some _ e, turn_list a _, ⟨_, Heap.get?_push_size _ rfl, rfl, rfl⟩, fun b hb => ?_, q⟩
  have e : b = s1.heap.objs.size := by simpa using hb
  subst e
  exact I1.fpOk (Nat.le_refl _) (I1.hok.fresh (Nat.le_refl _))
theorem range_it {pins : List (Addr × Obj)} {σ : St} {H : Hp} {s : Shared} {R : It → Hp → Prop} {E : Value → Shared → Prop} {lo hi : Int} {t u v : Tok} {tk : Nat} (I : Inv X pins σ H s) (h1 : -(2 ^ 62) ≤ lo) (h2 : lo < 2 ^ 62) (h3 : -(2 ^ 62) ≤ hi) (h4 : hi < 2 ^ 62)
    (q : R (Itr lo (hi - lo).toNat) H) : wpAny (model X.prog X.w) X.A (pyIter (.ref s.heap.objs.size)) (PIE X pins σ tg R) E { s with heap := s.heap.push { cls := .type "range", data := .fields #[.int lo t, .int hi u, .int 1 v] }, toks := tk } := by
  refine wpAny_pyIter_range (IsRange.new ..) (small_one h1 h2 h3 h4) ?_
  have I1 : Inv X pins σ H { s with heap := s.heap.push { cls := .type "range", data := .fields #[.int lo t, .int hi u, .int 1 v] }, toks := tk } := I.kept fun b o e => Heap.get?_push_of_some _ e
  refine ⟨(s.heap.push { cls := .type "range", data := .fields #[.int lo t, .int hi u, .int 1 v] }).objs.size, [(s.heap.push { cls := .type "range", data := .fields #[.int lo t, .int hi u, .int 1 v] }).objs.size], _, _, H, rfl,
    I1.kept (t' := tk) fun b o e => Heap.get?_push_of_some _ e, turn_range _ lo (hi - lo).toNat, ?_, fun b hb => ?_, q⟩
  · have e1 : lo + ((0 : Nat) : Int) * 1 = lo := by simp
    have e2 : (((hi - lo).toNat : Nat) : Int) - ((0 : Nat) : Int) = Builtin.Range.rangeSize lo hi 1 := by rw [rangeSize_one]; split <;> omega
    show IsRangeIter _ _ (lo + ((0 : Nat) : Int) * 1) ((((hi - lo).toNat : Nat) : Int) - ((0 : Nat) : Int)) 1
    rw [e1, e2]
    exact Heap.get?_push_size _ rfl
  · have e : b = (s.heap.push { cls := .type "range", data := .fields #[.int lo t, .int hi u, .int 1 v] }).objs.size := by simpa using hb
    subst e
    exact I1.fpOk (Nat.le_refl _) (I1.hok.fresh (Nat.le_refl _))
def iRng1 (ta : TA) : TI := fun σ H R => ta σ H fun vs H1 => ∃ j : Int, vs = [.int j] ∧ -(2 ^ 62) ≤ j ∧ j < 2 ^ 62 ∧ R (Itr 0 j.toNat) H1
def iRng2 (ta : TA) : TI := fun σ H R => ta σ H fun vs H1 => ∃ i j : Int, vs = [.int i, .int j] ∧ (-(2 ^ 62) ≤ i ∧ i < 2 ^ 62 ∧ -(2 ^ 62) ≤ j ∧ j < 2 ^ 62) ∧ R (Itr i (j - i).toNat) H1
theorem pi_range1 {a : Expr} {ta : TA} {p pos : Pos} (hg : Gl X "range") (hm : X.mg "range" = none) (ha : PA X [a] ta) (hs : starEach [a] X.env = [(false, eval a X.env)] := by rfl) : PI X tg (.Call (.Name "range" p) [a] [] pos) (iRng1 ta) := by
  intro pins s σ H R I h
  refine Call_ (ld_blt I hg hm boot_range (PyProof.Rows.callWith_type1 (thn (ha pos pins s σ H _ I h) fun us s1 ⟨vs, H1, I1, r1, q1⟩ => ?_) hs rfl))
  obtain ⟨j, e, q1, q2, q⟩ := q1
  subst e
  cases r1 with
  | cons r rr =>
    cases rr
    obtain ⟨t, rfl⟩ := r
    exact call_range_1 (range_it I1 (by omega) (by omega) q1 q2 (by simpa using q))
theorem pi_range2 {a b : Expr} {ta : TA} {p pos : Pos} (hg : Gl X "range") (hm : X.mg "range" = none) (ha : PA X [a, b] ta) (hs : starEach [a, b] X.env = [(false, eval a X.env), (false, eval b X.env)] := by rfl) (hs2 : starEach [b] X.env = [(false, eval b X.env)] := by rfl) :
    PI X tg (.Call (.Name "range" p) [a, b] [] pos) (iRng2 ta) := by
  intro pins s σ H R I h
  refine Call_ (ld_blt I hg hm boot_range (PyProof.Rows.callWith_type1 (thn (ha pos pins s σ H _ I h) fun us s1 ⟨vs, H1, I1, r1, q1⟩ => ?_) (by rw [hs, hs2]) (by rw [hs2]; rfl)))
  obtain ⟨i, j, e, ⟨q1, q2, q3, q4⟩, q⟩ := q1
  subst e
  cases r1 with
  | cons r rr =>
    cases rr with
    | cons r' rr =>
      cases rr
      obtain ⟨t, rfl⟩ := r
      obtain ⟨t', rfl⟩ := r'
      exact call_range_2 (range_it I1 q1 q2 q3 q4 q)
def tFor (wi : TI) (g : TG) (tb : TS) : TS := fun D σ H => wi σ H fun J H1 => ∃ W : Nat → Nat → St → Hp → Prop, (∃ m, W 0 m σ H1) ∧ ∀ i m σ H, W i m σ H →
  (J.stop i H ∧ D.nx σ H) ∨ (J.go i H ∧ ∃ N : St → Hp → Prop, (∀ σ' H', N σ' H' → ∃ m', m' < m ∧ W (i + 1) m' σ' H') ∧ ∀ x H', J.yld i H x H' → g x σ H' fun σ2 H2 => tb { D with nx := N, ct := N, bk := D.nx } σ2 H2)
def pinsAt (fp : List Addr) (h : Heap) : List (Addr × Obj) := fp.filterMap fun b => (h.get? b).map fun o => (b, o)
theorem mem_pinsAt {fp : List Addr} {h : Heap} {b : Addr} {o : Obj} (hb : b ∈ fp) (e : h.get? b = some o) : (b, o) ∈ pinsAt fp h := List.mem_filterMap.mpr ⟨b, hb, by rw [e]; rfl⟩
theorem of_pinsAt {fp : List Addr} {h : Heap} {p : Addr × Obj} (hp : p ∈ pinsAt fp h) : p.1 ∈ fp ∧ h.get? p.1 = some p.2 := by
  obtain ⟨b, hb, e⟩ := List.mem_filterMap.mp hp
  cases q : h.get? b with
  | none => rw [q] at e; cases e
  | some o =>
    rw [q] at e
    have e' : (b, o) = p := Option.some.inj e
    subst e'
    exact ⟨hb, q⟩
theorem Inv.pinned {pins : List (Addr × Obj)} {σ : St} {H : Hp} {s : Shared} {fp : List Addr} (I : Inv X pins σ H s) (hf : ∀ b ∈ fp, FpOk X pins H b) (ho : ∀ b ∈ fp, ∃ o, s.heap.get? b = some o ∧ ∀ v, o.data ≠ .cell v) : Inv X (pins ++ pinsAt fp s.heap) σ H s :=
  I.pins_of fun p hp => (List.mem_append.mp hp).elim (fun z => I.pin p (List.mem_append_right _ z)) fun z => by
    obtain ⟨hb, e⟩ := of_pinsAt z
    obtain ⟨f0, f1, f2, _⟩ := hf p.1 hb
    obtain ⟨o, e', d⟩ := ho p.1 hb
    rw [e] at e'; cases e'
    exact ⟨e, f0, f1, f2, d⟩
theorem Inv.unpinned {pins pl : List (Addr × Obj)} {σ : St} {H : Hp} {s : Shared} (I : Inv X (pins ++ pl) σ H s) : Inv X pins σ H s := I.pins_of fun p hp => I.pin p (List.mem_append_right _ (List.mem_append_left _ hp))
theorem ps_for {iter : Expr} {body : List Stmt} {wi : TI} {g : TG} {tb : TS} {pos : Pos} (hp : PassesOwn (model X.prog X.w) X.A X.env X.xe) (hc : X.calm = true) (hi : PI X tg iter wi) (hg : PG X tg g) (hb : PSs X body tb)
    (hs : ∀ x, foldedSetIterable iter X.env x = pure x := by intro _; rfl) : PS X (.For tg iter body [] pos) (tFor wi g tb) := by
  intro pins s σ H D I h
  refine wpAny_For (thn (hi pins s σ H _ I h) fun v s1 h1 => thn h1 fun itv s2 h2 => ?_) hs
  obtain ⟨it, fp, tn, J, H2, e, I2, T, st2, f2, W, ⟨m0, w0⟩, turn⟩ := h2
  subst e
  -- what stays true of the iterator's objects through the loop
  have stat : ∀ {H' : Hp}, (∀ b ∈ fp, H' b = none) → ∀ b ∈ fp, FpOk X pins H' b := fun hn b hb => ⟨hn b hb, (f2 b hb).2⟩
  refine codeAny_forLoop_any (fun n s' => ∃ i σ' H', Inv X pins σ' H' s' ∧ tn i s'.heap ∧ (∀ b ∈ fp, H' b = none) ∧ W i n σ' H') ?_ m0 ⟨0, σ, H2, I2, st2, fun b hb => (f2 b hb).1, w0⟩
  rintro n s3 ⟨i, σ3, H3, I3, st3, fr3, w3⟩
  rcases turn i n σ3 H3 w3 with ⟨stop, qn⟩ | ⟨go, N, hN, step⟩
  · refine wpAny_passesOwn hp (thn (T.done X rfl rfl rfl hc i pins s3 σ3 H3 X.xe I3 (stat fr3) st3 stop) fun r s4 ⟨hr, I4⟩ => ?_)
    subst hr
    exact wpAny_execs_nil ⟨σ3, H3, I4, qn⟩
  · refine wpAny_passesOwn hp (thn (T.item X rfl rfl rfl hc i pins s3 σ3 H3 X.xe I3 (stat fr3) st3 go) fun r s4 ⟨u, hr, h4⟩ => ?_)
    subst hr
    refine wpAny_passesOwn hp (thn h4 fun _ s5 ⟨x, H5, I5, r5, y5, st5, fr5⟩ => ?_)
    have I5' := I5.pinned (stat fr5) (T.obj _ _ st5)
    refine wpAny_passesOwn hp (thn (hg _ s5 σ3 H5 x u _ I5' r5 (step x H5 y5)) fun _ s6 ⟨σ6, H6, I6, q6⟩ => ?_)
    refine wpAny_passesOwn hp (thn (hb _ s6 σ6 H6 _ I6 q6) fun f s7 q7 => ?_)
    have again : ∀ {σ7 : St} {H7 : Hp}, Inv X (pins ++ pinsAt fp s5.heap) σ7 H7 s7 → N σ7 H7 → ∃ m, m < n ∧ ∃ i σ' H', Inv X pins σ' H' s7 ∧ tn i s7.heap ∧ (∀ b ∈ fp, H' b = none) ∧ W i m σ' H' := fun {σ7 H7} I7 n7 => by
      obtain ⟨m', hm, w7⟩ := hN σ7 H7 n7
      refine ⟨m', hm, i + 1, σ7, H7, I7.unpinned, T.keep _ _ _ st5 fun b hb o e => (I7.pin (b, o) (List.mem_append_right _ (List.mem_append_right _ (mem_pinsAt hb e)))).1, fun b hb => ?_, w7⟩
      obtain ⟨o, e, d⟩ := T.obj _ _ st5 b hb
      exact (I7.pin (b, o) (List.mem_append_right _ (List.mem_append_right _ (mem_pinsAt hb e)))).2.1
    cases f with
    | next => obtain ⟨σ7, H7, I7, n7⟩ := q7; exact again I7 n7
    | cont => obtain ⟨σ7, H7, I7, n7⟩ := q7; exact again I7 n7
    | brk => obtain ⟨σ7, H7, I7, q7⟩ := q7; exact ⟨σ7, H7, I7.unpinned, q7⟩
    | ret v => obtain ⟨x7, σ7, H7, I7, r7, q7⟩ := q7; exact ⟨x7, σ7, H7, I7.unpinned, r7, q7⟩
end
theorem for_list {K : PySem.W.Frag} {a : Addr} {xs : List V} {g : TG} {tb : TS} {D : Ends} {σ : St} {H : Hp} (Pv : Nat → St → Hp → Prop) (h0 : Pv 0 σ H) (hl : ∀ i σ H, i ≤ xs.length → Pv i σ H → SqL K H a xs)
    (hs : ∀ i x σ H, xs[i]? = some x → Pv i σ H → g x σ H fun σ2 H2 => tb { D with nx := Pv (i + 1), ct := Pv (i + 1), bk := D.nx } σ2 H2) (hd : ∀ σ H, Pv xs.length σ H → D.nx σ H) :
    ∃ W : Nat → Nat → St → Hp → Prop, (∃ m, W 0 m σ H) ∧ ∀ i m σ H, W i m σ H →
      ((Itl K a).stop i H ∧ D.nx σ H) ∨ ((Itl K a).go i H ∧ ∃ N : St → Hp → Prop, (∀ σ' H', N σ' H' → ∃ m', m' < m ∧ W (i + 1) m' σ' H') ∧ ∀ x H', (Itl K a).yld i H x H' → g x σ H' fun σ2 H2 => tb { D with nx := N, ct := N, bk := D.nx } σ2 H2) := by
  refine ⟨fun i m σ H => m = xs.length - i ∧ i ≤ xs.length ∧ Pv i σ H, ⟨xs.length, by simp, Nat.zero_le _, h0⟩, ?_⟩
  rintro i m σ H ⟨rfl, hi, p⟩
  have q := hl i σ H hi p
  by_cases hlt : i < xs.length
  · refine .inr ⟨⟨xs, xs[i], q, by simp [hlt]⟩, Pv (i + 1), fun σ' H' p' => ⟨xs.length - (i + 1), by omega, rfl, hlt, p'⟩, fun x H' y => ?_⟩
    obtain ⟨e, y⟩ := y
    subst e
    exact hs i x σ _ (y xs q) p
  · have e : i = xs.length := by omega
    subst e
    exact .inl ⟨⟨xs, q, Nat.le_refl _⟩, hd σ H p⟩
theorem for_range {lo : Int} {n : Nat} {g : TG} {tb : TS} {D : Ends} {σ : St} {H : Hp} (Pv : Nat → St → Hp → Prop) (h0 : Pv 0 σ H)
    (hs : ∀ i σ H, i < n → Pv i σ H → g (.int (lo + i)) σ H fun σ2 H2 => tb { D with nx := Pv (i + 1), ct := Pv (i + 1), bk := D.nx } σ2 H2) (hd : ∀ σ H, Pv n σ H → D.nx σ H) :
    ∃ W : Nat → Nat → St → Hp → Prop, (∃ m, W 0 m σ H) ∧ ∀ i m σ H, W i m σ H →
      ((Itr lo n).stop i H ∧ D.nx σ H) ∨ ((Itr lo n).go i H ∧ ∃ N : St → Hp → Prop, (∀ σ' H', N σ' H' → ∃ m', m' < m ∧ W (i + 1) m' σ' H') ∧ ∀ x H', (Itr lo n).yld i H x H' → g x σ H' fun σ2 H2 => tb { D with nx := N, ct := N, bk := D.nx } σ2 H2) := by
  refine ⟨fun i m σ H => m = n - i ∧ i ≤ n ∧ Pv i σ H, ⟨n, by simp, Nat.zero_le _, h0⟩, ?_⟩
  rintro i m σ H ⟨rfl, hi, p⟩
  by_cases hlt : i < n
  · refine .inr ⟨hlt, Pv (i + 1), fun σ' H' p' => ⟨n - (i + 1), by omega, rfl, hlt, p'⟩, fun x H' y => ?_⟩
    obtain ⟨e, y⟩ := y
    subst e y
    exact hs i σ _ hlt p
  · have e : i = n := by omega
    subst e
    exact .inl ⟨Nat.le_refl _, hd σ H p⟩
theorem while_by {c : TT} {tb : TS} {D : Ends} {σ : St} {H : Hp} (Pv : St → Hp → Prop) (μ : St → Hp → Nat) (h0 : Pv σ H)
    (hs : ∀ σ H, Pv σ H → c σ H fun b H1 => if b = true then tb { D with nx := fun σ' H' => Pv σ' H' ∧ μ σ' H' < μ σ H, ct := fun σ' H' => Pv σ' H' ∧ μ σ' H' < μ σ H, bk := D.nx } σ H1 else D.nx σ H1)
    (mono : ∀ σ H Q Q', (∀ b H1, Q b H1 → Q' b H1) → c σ H Q → c σ H Q') : tWhile c tb D σ H := by
  refine ⟨fun m σ H => m = μ σ H ∧ Pv σ H, ⟨_, rfl, h0⟩, ?_⟩
  rintro m σ H ⟨rfl, p⟩
  refine mono σ H _ _ (fun b H1 q => ?_) (hs σ H p)
  cases b with
  | true => exact ⟨_, fun σ' H' ⟨p', l⟩ => ⟨_, l, rfl, p'⟩, q⟩
  | false => exact q
end L2
namespace L2
open PySem PySem.Spec PyProof.Rows
abbrev R2 := V → V → Hp → VK → Prop
def OpR (X : Cx) (f : Value → Value → Sem Value) (r : R2) : Prop :=
  ∀ (pins : List (Addr × Obj)) (s : Shared) (σ : St) (H : Hp) (x y : V) (v u : Value) (Q : VK), Inv X pins σ H s → RelV x v → RelV y u → r x y H Q →
    wpAny (model X.prog X.w) X.A (f v u) (EP X pins σ Q) X.xe s
def UnR (X : Cx) (f : Value → Sem Value) (r : V → Hp → VK → Prop) : Prop :=
  ∀ (pins : List (Addr × Obj)) (s : Shared) (σ : St) (H : Hp) (x : V) (v : Value) (Q : VK), Inv X pins σ H s → RelV x v → r x H Q →
    wpAny (model X.prog X.w) X.A (f v) (EP X pins σ Q) X.xe s
def CallR (X : Cx) (f : Value) (r : List V → Hp → VK → Prop) : Prop :=
  ∀ (pins : List (Addr × Obj)) (s : Shared) (σ : St) (H : Hp) (xs : List V) (us : List Value) (Q : VK), Inv X pins σ H s → Vals xs us → r xs H Q →
    wpAny (model X.prog X.w) X.A (call f us) (EP X pins σ Q) X.xe s
def TruR (X : Cx) (r : V → Hp → (Bool → Hp → Prop) → Prop) : Prop :=
  ∀ (pins : List (Addr × Obj)) (s : Shared) (σ : St) (H : Hp) (x : V) (v : Value) (Q : Bool → Hp → Prop), Inv X pins σ H s → RelV x v → r x H Q →
    wpAny (model X.prog X.w) X.A (truthy v) (TP X pins σ Q) X.xe s
def tOp (r : R2) (ta tb : TE) : TE := fun σ H Q => ta σ H fun x H1 => tb σ H1 fun y H2 => r x y H2 Q
def tUn (r : V → Hp → VK → Prop) (ta : TE) : TE := fun σ H Q => ta σ H fun x H1 => r x H1 Q
def rI (C : Int → Int → Prop) (g : Int → Int → V) : R2 := fun x y H Q => ∃ i j, x = .int i ∧ y = .int j ∧ C i j ∧ Q (g i j) H
def rI0 (g : Int → Int → V) : R2 := fun x y H Q => ∃ i j, x = .int i ∧ y = .int j ∧ Q (g i j) H
def rU (g : Int → V) : V → Hp → VK → Prop := fun x H Q => ∃ i, x = .int i ∧ Q (g i) H
section
variable {X : Cx} {a b c : Expr} {ta tb tc : TE} {pos : Pos}
theorem binT (ha : PE X a ta) (hb : PE X b tb) {pins : List (Addr × Obj)} {s : Shared} {σ : St} {H : Hp} {R : V → V → Hp → Prop} (I : Inv X pins σ H s)
    (h : ta σ H fun x H1 => tb σ H1 fun y H2 => R x y H2) {Q : Value → Shared → Prop} {f : Value → Value → Sem Value}
    (hf : ∀ v u s2 x y H2, Inv X pins σ H2 s2 → RelV x v → RelV y u → R x y H2 → wpAny (model X.prog X.w) X.A (f v u) Q X.xe s2) :
    wpAny (model X.prog X.w) X.A (eval a X.env) (fun v s₁ => wpAny (model X.prog X.w) X.A (eval b X.env) (fun u s₂ => wpAny (model X.prog X.w) X.A (f v u) Q X.xe s₂) X.xe s₁) X.xe s := by
  refine thn (ha pins s σ H _ I h) fun v s1 ⟨x, H1, I1, r1, q1⟩ => ?_
  refine thn (hb pins s1 σ H1 _ I1 q1) fun u s2 ⟨y, H2, I2, r2, q2⟩ => ?_
  exact hf v u s2 x y H2 I2 r1 r2 q2
theorem pe_op {op : Operator} {r : R2} (ho : OpR X (binaryOp op) r) (ha : PE X a ta) (hb : PE X b tb) : PE X (.BinOp a op b pos) (tOp r ta tb) := by
  intro pins s σ H Q I h
  exact wpAny_BinOp (binT ha hb I h fun v u s2 x y H2 I2 rx ry q => ho pins s2 σ H2 x y v u Q I2 rx ry q)
theorem pe_un {op : UnaryOp} {r : V → Hp → VK → Prop} (ho : UnR X (unaryOp op) r) (ha : PE X a ta) : PE X (.UnaryOp op a pos) (tUn r ta) := by
  intro pins s σ H Q I h
  exact UnaryOp_ (thn (ha pins s σ H _ I h) fun v s1 ⟨x, H1, I1, r1, q1⟩ => ho pins s1 σ H1 x v Q I1 r1 q1)
theorem opI {f : Value → Value → Sem Value} {C : Int → Int → Prop} {g : Int → Int → Int}
    (rule : ∀ (i j : Int) (t u : Tok) (s : Shared) (Q : Value → Shared → Prop) (E : Value → Shared → Prop), C i j → Q (.int (g i j) s.toks) { s with toks := s.toks + 1 } → wpAny (model X.prog X.w) X.A (f (.int i t) (.int j u)) Q E s) :
    OpR X f (rI C fun i j => .int (g i j)) := by
  intro pins s σ H x y v u Q I rx ry h
  obtain ⟨i, j, rfl, rfl, hc, q⟩ := h
  obtain ⟨t, rfl⟩ := rx
  obtain ⟨t', rfl⟩ := ry
  exact rule i j t t' s _ _ hc ⟨.int (g i j), H, I.tok _, ⟨_, rfl⟩, q⟩
theorem opI0 {f : Value → Value → Sem Value} {g : Int → Int → Int}
    (rule : ∀ (i j : Int) (t u : Tok) (s : Shared) (Q : Value → Shared → Prop) (E : Value → Shared → Prop), Q (.int (g i j) s.toks) { s with toks := s.toks + 1 } → wpAny (model X.prog X.w) X.A (f (.int i t) (.int j u)) Q E s) :
    OpR X f (rI0 fun i j => .int (g i j)) := by
  intro pins s σ H x y v u Q I rx ry h
  obtain ⟨i, j, rfl, rfl, q⟩ := h
  obtain ⟨t, rfl⟩ := rx
  obtain ⟨t', rfl⟩ := ry
  exact rule i j t t' s _ _ ⟨.int (g i j), H, I.tok _, ⟨_, rfl⟩, q⟩
theorem opB0 {f : Value → Value → Sem Value} {g : Int → Int → Bool}
    (rule : ∀ (i j : Int) (t u : Tok) (s : Shared) (Q : Value → Shared → Prop) (E : Value → Shared → Prop), Q (.bool (g i j)) s → wpAny (model X.prog X.w) X.A (f (.int i t) (.int j u)) Q E s) :
    OpR X f (rI0 fun i j => .bl (g i j)) := by
  intro pins s σ H x y v u Q I rx ry h
  obtain ⟨i, j, rfl, rfl, q⟩ := h
  obtain ⟨t, rfl⟩ := rx
  obtain ⟨t', rfl⟩ := ry
  exact rule i j t t' s _ _ ⟨.bl (g i j), H, I, rfl, q⟩
def CPow (i j : Int) : Prop := 0 ≤ j ∧ j ≤ 1000000 ∧ i.natAbs < 2 ^ 64
def CMul (i j : Int) : Prop := (-(2 ^ 64) < i ∧ i < 2 ^ 64) ∨ (-(2 ^ 64) < j ∧ j < 2 ^ 64)
theorem CMul.ok {i j : Int} (h : CMul i j) : IntMulOk i j := by
  rcases h with ⟨h1, h2⟩ | ⟨h1, h2⟩
  · exact .of_left (intBits_le_64 h1 h2)
  · exact .of_right (intBits_le_64 h1 h2)
theorem two_pow_nn (k : Nat) : (0 : Int) ≤ 2 ^ k := by
  rw [two_pow_cast]
  exact Int.natCast_nonneg _
theorem op_add : OpR X (binaryOp .Add) (rI0 fun i j => .int (i + j)) := opI0 fun _ _ _ _ _ _ _ q => add_int q
theorem op_sub : OpR X (binaryOp .Sub) (rI0 fun i j => .int (i - j)) := opI0 fun _ _ _ _ _ _ _ q => sub_int q
theorem op_mul : OpR X (binaryOp .Mult) (rI CMul fun i j => .int (i * j)) := opI fun _ _ _ _ _ _ _ hc q => mul_int q hc.ok
theorem op_shl : OpR X (binaryOp .LShift) (rI CPow fun i j => .int (i * 2 ^ j.toNat)) := opI fun _ _ _ _ _ _ _ hc q => lshift_int_small hc.1 hc.2.1 hc.2.2 q
theorem op_shr : OpR X (binaryOp .RShift) (rI (fun _ j => 0 ≤ j) fun i j => .int (i / 2 ^ j.toNat)) := opI fun i j _ _ _ _ _ hc q =>
  rshift_int hc (by rw [Int.fdiv_eq_ediv_of_nonneg i (two_pow_nn _)]; exact q)
theorem op_and : OpR X (binaryOp .BitAnd) (rI0 fun i j => .int (Builtin.bitAnd i j)) := opI0 fun _ _ _ _ _ _ _ q => and_int q
theorem op_or : OpR X (binaryOp .BitOr) (rI0 fun i j => .int (Builtin.bitOr i j)) := opI0 fun _ _ _ _ _ _ _ q => or_int q
theorem iop_and : OpR X (inplaceOp .BitAnd) (rI0 fun i j => .int (Builtin.bitAnd i j)) := opI0 fun _ _ _ _ _ _ _ q => iand_int q
theorem iop_or : OpR X (inplaceOp .BitOr) (rI0 fun i j => .int (Builtin.bitOr i j)) := opI0 fun _ _ _ _ _ _ _ q => ior_int q
theorem unI {f : Value → Sem Value} {g : Int → Int}
    (rule : ∀ (i : Int) (t : Tok) (s : Shared) (Q : Value → Shared → Prop) (E : Value → Shared → Prop), Q (.int (g i) s.toks) { s with toks := s.toks + 1 } → wpAny (model X.prog X.w) X.A (f (.int i t)) Q E s) :
    UnR X f (rU fun i => .int (g i)) := by
  intro pins s σ H x v Q I rx h
  obtain ⟨i, rfl, q⟩ := h
  obtain ⟨t, rfl⟩ := rx
  exact rule i t s _ _ ⟨.int (g i), H, I.tok _, ⟨_, rfl⟩, q⟩
theorem un_neg : UnR X (unaryOp .USub) (rU fun i => .int (-i)) := unI fun _ _ _ _ _ q => neg_int q
end
def scal : V → V → Bool
  | .non, .non => true | .non, .int _ => true | .int _, .non => true | .non, .bl _ => true | .bl _, .non => true | .non, .str _ => true | .str _, .non => true
  | .int _, .int _ => true | .bl _, .bl _ => true | .str _, .str _ => true | .byt _, .byt _ => true
  | .int _, .str _ => true | .str _, .int _ => true | .bl _, .str _ => true | .str _, .bl _ => true
  | _, _ => false
def rEq : R2 := fun x y H Q => scal x y = true ∧ Q (.bl (decide (x = y))) H
def rNe : R2 := fun x y H Q => scal x y = true ∧ Q (.bl (!decide (x = y))) H
theorem dec_int {i j : Int} : decide (V.int i = V.int j) = (i == j) := by
  rw [Bool.eq_iff_iff]
  simp
theorem dec_bl {i j : Bool} : decide (V.bl i = V.bl j) = (i == j) := by
  rw [Bool.eq_iff_iff]
  simp
theorem dec_str {i j : Str} : decide (V.str i = V.str j) = (i == j) := by
  rw [Bool.eq_iff_iff]
  simp
theorem dec_byt {i j : Array UInt8} : decide (V.byt i = V.byt j) = (i.toList == j.toList) := by
  rw [Bool.eq_iff_iff]
  cases i
  cases j
  simp
section
variable {X : Cx} {a b c : Expr} {ta tb tc : TE} {pos : Pos}
theorem fin_bl {pins : List (Addr × Obj)} {σ : St} {H : Hp} {s : Shared} {Q : VK} {k k' : Bool} (I : Inv X pins σ H s) (q : Q (.bl k) H) (e : k = k') : EP X pins σ Q (.bool k') s := by
  subst e
  exact ⟨.bl k, H, I, rfl, q⟩
theorem op_eq : OpR X (compareOp .Eq) rEq := by
  intro pins s σ H x y v u Q I rx ry h
  obtain ⟨hs, q⟩ := h
  cases x with
  | non =>
    cases rx
    cases y with
    | non => cases ry; exact PySem.EqNone.eq_none_none (fin_bl I q (by simp))
    | bl j => cases ry; exact PySem.EqNone.eq_none_bool (fin_bl I q (by simp))
    | int j => obtain ⟨t', rfl⟩ := ry; exact PySem.EqNone.eq_none_int (fin_bl I q (by simp))
    | str j => obtain ⟨t', rfl⟩ := ry; exact PySem.EqNone.eq_none_str (fin_bl I q (by simp))
    | _ => exact absurd (show false = true from hs) Bool.false_ne_true
  | bl i =>
    cases rx
    cases y with
    | non => cases ry; exact PySem.EqNone.eq_bool_none (fin_bl I q (by simp))
    | bl j => cases ry; exact eq_bool (fin_bl I q dec_bl)
    | str j => obtain ⟨t', rfl⟩ := ry; exact PySem.EqMixed.eq_bool_str (fin_bl I q (by simp))
    | _ => exact absurd (show false = true from hs) Bool.false_ne_true
  | int i =>
    obtain ⟨t, rfl⟩ := rx
    cases y with
    | non => cases ry; exact PySem.EqNone.eq_int_none (fin_bl I q (by simp))
    | int j => obtain ⟨t', rfl⟩ := ry; exact eq_int (fin_bl I q dec_int)
    | str j => obtain ⟨t', rfl⟩ := ry; exact PySem.EqMixed.eq_int_str (fin_bl I q (by simp))
    | _ => exact absurd (show false = true from hs) Bool.false_ne_true
  | str i =>
    obtain ⟨t, rfl⟩ := rx
    cases y with
    | non => cases ry; exact PySem.EqNone.eq_str_none (fin_bl I q (by simp))
    | bl j => cases ry; exact PySem.EqMixed.eq_str_bool (fin_bl I q (by simp))
    | int j => obtain ⟨t', rfl⟩ := ry; exact PySem.EqMixed.eq_str_int (fin_bl I q (by simp))
    | str j => obtain ⟨t', rfl⟩ := ry; exact eq_str (fin_bl I q dec_str)
    | _ => exact absurd (show false = true from hs) Bool.false_ne_true
  | byt i =>
    obtain ⟨t, rfl⟩ := rx
    cases y with
    | byt j => obtain ⟨t', rfl⟩ := ry; exact PySem.W.eq_bytes (fin_bl I q dec_byt)
    | _ => exact absurd (show false = true from hs) Bool.false_ne_true
  | _ => cases y <;> exact absurd (show false = true from hs) Bool.false_ne_true
theorem op_ne : OpR X (compareOp .NotEq) rNe := by
  intro pins s σ H x y v u Q I rx ry h
  obtain ⟨hs, q⟩ := h
  cases x with
  | non =>
    cases rx
    cases y with
    | non => cases ry; exact PySem.EqNone.ne_none_none (fin_bl I q (by simp))
    | bl j => cases ry; exact PySem.EqNone.ne_none_bool (fin_bl I q (by simp))
    | int j => obtain ⟨t', rfl⟩ := ry; exact PySem.EqNone.ne_none_int (fin_bl I q (by simp))
    | str j => obtain ⟨t', rfl⟩ := ry; exact PySem.EqNone.ne_none_str (fin_bl I q (by simp))
    | _ => exact absurd (show false = true from hs) Bool.false_ne_true
  | bl i =>
    cases rx
    cases y with
    | non => cases ry; exact PySem.EqNone.ne_bool_none (fin_bl I q (by simp))
    | bl j => cases ry; exact ne_bool (fin_bl I q (congrArg not dec_bl))
    | str j => obtain ⟨t', rfl⟩ := ry; exact PySem.EqMixed.ne_bool_str (fin_bl I q (by simp))
    | _ => exact absurd (show false = true from hs) Bool.false_ne_true
  | int i =>
    obtain ⟨t, rfl⟩ := rx
    cases y with
    | non => cases ry; exact PySem.EqNone.ne_int_none (fin_bl I q (by simp))
    | int j => obtain ⟨t', rfl⟩ := ry; exact ne_int (fin_bl I q (congrArg not dec_int))
    | str j => obtain ⟨t', rfl⟩ := ry; exact PySem.EqMixed.ne_int_str (fin_bl I q (by simp))
    | _ => exact absurd (show false = true from hs) Bool.false_ne_true
  | str i =>
    obtain ⟨t, rfl⟩ := rx
    cases y with
    | non => cases ry; exact PySem.EqNone.ne_str_none (fin_bl I q (by simp))
    | bl j => cases ry; exact PySem.EqMixed.ne_str_bool (fin_bl I q (by simp))
    | int j => obtain ⟨t', rfl⟩ := ry; exact PySem.EqMixed.ne_str_int (fin_bl I q (by simp))
    | str j => obtain ⟨t', rfl⟩ := ry; exact ne_str (fin_bl I q (congrArg not dec_str))
    | _ => exact absurd (show false = true from hs) Bool.false_ne_true
  | byt i =>
    obtain ⟨t, rfl⟩ := rx
    cases y with
    | byt j => obtain ⟨t', rfl⟩ := ry; exact PySem.W.ne_bytes (fin_bl I q (congrArg not dec_byt))
    | _ => exact absurd (show false = true from hs) Bool.false_ne_true
  | _ => cases y <;> exact absurd (show false = true from hs) Bool.false_ne_true
theorem op_lt : OpR X (compareOp .Lt) (rI0 fun i j => .bl (decide (i < j))) := opB0 fun _ _ _ _ _ _ _ q => lt_int q
theorem op_le : OpR X (compareOp .LtE) (rI0 fun i j => .bl (decide (i ≤ j))) := opB0 fun _ _ _ _ _ _ _ q => le_int q
theorem op_gt : OpR X (compareOp .Gt) (rI0 fun i j => .bl (decide (j < i))) := opB0 fun _ _ _ _ _ _ _ q => gt_int q
theorem nomark (b : Expr) {op : CmpOp} (h : op ≠ .In := by decide) (h2 : op ≠ .NotIn := by decide) : behindInMarks op b = false := by
  have e1 : (op == CmpOp.In) = false := by cases op <;> first | rfl | exact absurd rfl h
  have e2 : (op == CmpOp.NotIn) = false := by cases op <;> first | rfl | exact absurd rfl h2
  cases b <;> simp [behindInMarks, e1, e2]
theorem pe_cmpR {op : CmpOp} {r : R2} (ho : OpR X (compareOp op) r) (ha : PE X a ta) (hb : PE X b tb) (hm : behindInMarks op b = false) : PE X (.Compare a [op] [b] pos) (tOp r ta tb) := by
  intro pins s σ H Q I h
  exact wpAny_Compare1 (binT ha hb I h fun v u s2 x y H2 I2 rx ry q => ho pins s2 σ H2 x y v u Q I2 rx ry q) hm
def tTest (t : TE) : TT := fun σ H Q => t σ H fun x H' => ∃ k, x = .bl k ∧ Q k H'
theorem pt_cmpR {op : CmpOp} {r : R2} (ho : OpR X (compareOp op) r) (ha : PE X a ta) (hb : PE X b tb) (hm : behindInMarks op b = false) : PT X (.Compare a [op] [b] pos) (tTest (tOp r ta tb)) := by
  intro pins s σ H Q I h
  refine wpAny_isTrue_Compare1 (thn (ha pins s σ H _ I h) fun v s1 ⟨x, H1, I1, r1, q1⟩ => thn (hb pins s1 σ H1 _ I1 q1) fun u s2 ⟨y, H2, I2, r2, q2⟩ =>
    thn (ho pins s2 σ H2 x y v u _ I2 r1 r2 q2) fun c s3 ⟨z, H3, I3, r3, k, e, q3⟩ => ?_) hm
  subst e
  cases r3
  exact wpAny_truthy_bool ⟨H3, I3, q3⟩
def tChain (r r' : R2) (ta tb tc : TE) : TE := fun σ H Q => ta σ H fun x H1 => tb σ H1 fun y H2 => r x y H2 fun z H3 => ∃ k, z = .bl k ∧
  (if k = true then tc σ H3 fun w' H4 => r' y w' H4 Q else Q (.bl false) H3)
theorem pe_chain {op op' : CmpOp} {r r' : R2} (ho : OpR X (compareOp op) r) (ho' : OpR X (compareOp op') r') (ha : PE X a ta) (hb : PE X b tb) (hc : PE X c tc)
    (hm : lastMarks [op, op'] [b, c] = false := by with_unfolding_all rfl) : PE X (.Compare a [op, op'] [b, c] pos) (tChain r r' ta tb tc) := by
  intro pins s σ H Q I h
  refine Compare_chain (thn (ha pins s σ H _ I h) fun v s1 ⟨x, H1, I1, r1, q1⟩ => chain_link (thn (hb pins s1 σ H1 _ I1 q1) fun u s2 ⟨y, H2, I2, r2, q2⟩ =>
    thn (ho pins s2 σ H2 x y v u _ I2 r1 r2 q2) fun d s3 ⟨z, H3, I3, r3, k, e, q3⟩ => ?_)) hm
  subst e
  cases r3
  refine wpAny_truthy_bool ?_
  cases k with
  | false => exact ite_ff ⟨.bl false, H3, I3, rfl, q3⟩
  | true => exact ite_tt (chain_last (thn (hc pins s3 σ H3 _ I3 q3) fun w' s4 ⟨z', H4, I4, r4, q4⟩ => ho' pins s4 σ H4 y z' u w' Q I4 r2 r4 q4))
theorem pt_chain {op op' : CmpOp} {r r' : R2} (ho : OpR X (compareOp op) r) (ho' : OpR X (compareOp op') r') (ha : PE X a ta) (hb : PE X b tb) (hc : PE X c tc)
    (hm : lastMarks [op, op'] [b, c] = false := by with_unfolding_all rfl) : PT X (.Compare a [op, op'] [b, c] pos) (tTest (tChain r r' ta tb tc)) := by
  intro pins s σ H Q I h
  refine isTrue_chain (thn (ha pins s σ H _ I h) fun v s1 ⟨x, H1, I1, r1, q1⟩ => test_link (thn (hb pins s1 σ H1 _ I1 q1) fun u s2 ⟨y, H2, I2, r2, q2⟩ =>
    thn (ho pins s2 σ H2 x y v u _ I2 r1 r2 q2) fun d s3 ⟨z, H3, I3, r3, k, e, q3⟩ => ?_)) hm
  subst e
  cases r3
  refine wpAny_truthy_bool ?_
  cases k with
  | false =>
    obtain ⟨k', e', q'⟩ := q3
    cases e'
    exact ite_ff ⟨H3, I3, q'⟩
  | true =>
    refine ite_tt (test_last (thn (hc pins s3 σ H3 _ I3 q3) fun w' s4 ⟨z', H4, I4, r4, q4⟩ => thn (ho' pins s4 σ H4 y z' u w' _ I4 r2 r4 q4) fun d' s5 ⟨z2, H5, I5, r5, k2, e2, q5⟩ => ?_))
    subst e2
    cases r5
    exact wpAny_truthy_bool ⟨H5, I5, q5⟩
def TruV (K : PySem.W.Frag) (x : V) (H : Hp) (k : Bool) : Prop :=
  match x with
  | .non => k = false
  | .bl b => k = b
  | .int i => k = (i != 0)
  | .str y => y.length ≤ sizeLine ∧ k = ((y.length : Int) != 0)
  | .byt y => y.size ≤ sizeLine ∧ k = ((y.size : Int) != 0)
  | .ref p => (∃ xs, SqL K H p xs ∧ k = !xs.isEmpty) ∨ (∃ xs, SqT K H p xs ∧ k = !xs.isEmpty) ∨ ∃ kvs, H p = some (.dK kvs) ∧ k = !kvs.isEmpty
  | _ => False
theorem isEmpty_kv {κ : Type} {kvs : List (κ × V)} {vs : List (κ × Value)} (r : KV kvs vs) : (!vs.isEmpty) = !kvs.isEmpty := by
  cases r <;> rfl
theorem isEmpty_of {xs : List V} {its : List Value} (r : Vals xs its) : (!its.toArray.isEmpty) = !xs.isEmpty := by
  cases r <;> simp
theorem line63 : (sizeLine : Nat) < 2 ^ 63 := by rw [sizeLine_eq]; decide
theorem tru_ok : TruR X (fun x H Q => ∃ k, TruV X.K x H k ∧ Q k H) := by
  intro pins s σ H x v Q I rx h
  obtain ⟨k, e, q⟩ := h
  have hl := line63
  have hs : sizeLine = 16777216 := sizeLine_eq
  cases x with
  | non =>
    cases rx
    have e' : k = false := e
    subst e'
    exact truthy_none ⟨H, I, q⟩
  | bl b =>
    cases rx
    have e' : k = b := e
    subst e'
    exact wpAny_truthy_bool ⟨H, I, q⟩
  | int i =>
    obtain ⟨t, rfl⟩ := rx
    have e' : k = (i != 0) := e
    subst e'
    exact PySem.P.truthy_int ⟨H, I, q⟩
  | str y =>
    obtain ⟨t, rfl⟩ := rx
    obtain ⟨hy, e'⟩ : y.length ≤ sizeLine ∧ k = ((y.length : Int) != 0) := e
    subst e'
    exact PySem.P.truthy_str (by omega) ⟨H, I.tok _, q⟩
  | byt y =>
    obtain ⟨t, rfl⟩ := rx
    obtain ⟨hy, e'⟩ : y.size ≤ sizeLine ∧ k = ((y.size : Int) != 0) := e
    subst e'
    exact PySem.W.truthy_bytes (by omega) ⟨H, I.tok _, q⟩
  | ref p =>
    cases rx
    have e' : (∃ xs, SqL X.K H p xs ∧ k = !xs.isEmpty) ∨ (∃ xs, SqT X.K H p xs ∧ k = !xs.isEmpty) ∨ ∃ kvs, H p = some (.dK kvs) ∧ k = !kvs.isEmpty := e
    rcases e' with ⟨xs, hx, e'⟩ | ⟨xs, hx, e'⟩ | ⟨kvs, hx, e'⟩
    · subst e'
      obtain ⟨its, r, pl, hz⟩ := I.list hx
      have hlen := r.length
      exact wpAny_truthy_list pl.isList (by simp only [List.size_toArray]; omega) ⟨H, I.tok _, by rw [isEmpty_of r]; exact q⟩
    · subst e'
      obtain ⟨its, r, pl, hz⟩ := I.tuple hx
      have hlen := r.length
      exact truthy_tuple pl (by simp only [List.size_toArray]; omega) ⟨H, I.tok _, by rw [isEmpty_of r]; exact q⟩
    · subst e'
      obtain ⟨hz, hS, vs, r, m⟩ : kvs.length ≤ sizeLine ∧ (p == sysModules) = false ∧ ∃ vs, KV kvs vs ∧ s.heap.DictOf (mixKind X.prog X.w) p vs := I.hok p _ hx
      have hlen : kvs.length = vs.length := Paired.length r
      exact wpAny_truthy_dict hS m (by omega) ⟨H, I.tok _, by rw [isEmpty_kv r]; exact q⟩
  | _ => exact (show False from e).elim
theorem pt_truth (ha : PE X a ta) (he : ∀ whole, isTrue a X.env whole = (do let v ← whole; standAt a.pos; holding [v] (truthy v))) :
    PT X a (fun σ H Q => ta σ H fun x H' => ∃ k, TruV X.K x H' k ∧ Q k H') := by
  intro pins s σ H Q I h
  exact isTrue_plain (thn (ha pins s σ H _ I h) fun v s1 ⟨x, H1, I1, r1, q1⟩ => tru_ok pins s1 σ H1 x v Q I1 r1 q1) (he _)
theorem vals1 {x : V} {us : List Value} (r : Vals [x] us) : ∃ u, us = [u] ∧ RelV x u := by
  cases r with
  | cons r1 r2 => cases r2; exact ⟨_, rfl, r1⟩
theorem vals2 {x y : V} {us : List Value} (r : Vals [x, y] us) : ∃ u w', us = [u, w'] ∧ RelV x u ∧ RelV y w' := by
  cases r with
  | cons r1 r2 =>
    cases r2 with
    | cons r3 r4 => cases r4; exact ⟨_, _, rfl, r1, r3⟩
theorem call_max2 (hc : X.calm = true) : CallR X (.builtin "max") (fun xs H Q => ∃ i j, xs = [.int i, .int j] ∧ Q (.int (if j > i then j else i)) H) := by
  intro pins s σ H xs us Q I r h
  obtain ⟨i, j, rfl, q⟩ := h
  obtain ⟨u, w', rfl, ⟨t, rfl⟩, ⟨t', rfl⟩⟩ := vals2 r
  refine max_two_ints (I.ok.hd hc) fun h' tk k => ⟨_, H, I.kept k, ?_, q⟩
  by_cases hj : j > i
  · rw [if_pos hj, if_pos hj]; exact ⟨_, rfl⟩
  · rw [if_neg hj, if_neg hj]; exact ⟨_, rfl⟩
theorem call_min2 (hc : X.calm = true) : CallR X (.builtin "min") (fun xs H Q => ∃ i j, xs = [.int i, .int j] ∧ Q (.int (if j < i then j else i)) H) := by
  intro pins s σ H xs us Q I r h
  obtain ⟨i, j, rfl, q⟩ := h
  obtain ⟨u, w', rfl, ⟨t, rfl⟩, ⟨t', rfl⟩⟩ := vals2 r
  refine min_two_ints (I.ok.hd hc) fun h' tk k => ⟨_, H, I.kept k, ?_, q⟩
  by_cases hj : j < i
  · rw [if_pos hj, if_pos hj]; exact ⟨_, rfl⟩
  · rw [if_neg hj, if_neg hj]; exact ⟨_, rfl⟩
end
end L2
namespace L2
open PySem PySem.Spec PyProof.Rows
structure ObjM (h : Heap) (x dx C : Addr) (mA : Str → Option Value) : Prop where
  obj : h.get? x = some (PySem.W.instObj C dx)
  ns : h.Ns1 dx mA
  ne : dx ≠ x
theorem lookIn_ns {h : Heap} {dx : Addr} {mA : Str → Option Value} (n : h.Ns1 dx mA) : ∃ od, h.get? dx = some od ∧ ∀ name, PySem.W.lookIn name od = some (mA name) := by
  obtain ⟨o, es, ep, ho, hd, hk, _, hm⟩ := n
  refine ⟨o, ho, fun name => ?_⟩
  have e := hm name
  unfold nsFind findBy at e
  rw [← Array.find?_toList] at e
  unfold PySem.W.lookIn
  rw [hd]
  dsimp only
  split
  · rename_i y q
    rw [q] at e
    exact congrArg some e
  · rename_i q
    rw [q] at e
    have a : es.toList.any (·.refKey) = false := by
      rw [List.any_eq_false]
      intro y hy
      obtain ⟨z, t, hkey⟩ := hk y (Array.mem_toList_iff.mp hy)
      simp [DictEntry.refKey, hkey]
    have a' : ¬ es.toList.any (·.refKey) = true := by rw [a]; exact Bool.false_ne_true
    rw [if_neg a']
    exact congrArg some e
theorem ObjM.look {h : Heap} {x dx C : Addr} {mA : Str → Option Value} (I : ObjM h x dx C mA) : ∃ od, PySem.W.InstAt h x (PySem.W.instObj C dx) C (some od) ∧ ∀ name, PySem.W.lookIn name od = some (mA name) :=
  let ⟨od, ho, hl⟩ := lookIn_ns I.ns
  ⟨od, ⟨I.obj, rfl, rfl, ho⟩, hl⟩
section
variable {prog : Program} {w : World} {A : Around} {E : Value → Shared → Prop} {s : Shared} {K : PySem.W.Frag} {x dx C f : Addr} {mA : Str → Option Value} {name : Str} {v : Value}
theorem get_map {expr : Bool} {Q : Value → Shared → Prop} (X : K.In s.heap) (I : ObjM s.heap x dx C mA) (hg : PySem.W.plainGet K C name = true) (hh : PySem.W.hasDictIn K C = true)
    (ha : PySem.W.findIn K (.ref C) name = some none) (hv : mA name = some v) (hv' : PySem.W.handedIn v = true) (h : Q v { s with toks := s.toks + 1 }) :
    wpAny (model prog w) A (getAttr (.ref x) name expr) Q E s := by
  obtain ⟨od, J, hl⟩ := I.look
  exact PySem.W.get_value X J (PySem.W.plainGet_of hg).1 (PySem.W.findObj_own hh ha rfl (by rw [hl, hv])) hv' h
theorem get_meth {pl : Sem Bool} {Q : Value × List Value → Shared → Prop} (X : K.In s.heap) (I : ObjM s.heap x dx C mA) (hg : PySem.W.plainGet K C name = true)
    (hf : PySem.W.findIn K (.ref C) name = some (some (.ref f))) (ht : PySem.W.isFn K (.ref f) = true) (hv : mA name = none) (h : Q (.ref f, [.ref x]) s) :
    wpAny (model prog w) A (getMethod (.ref x) name pl) Q E s := by
  obtain ⟨od, J, hl⟩ := I.look
  exact PySem.W.method_fn X J (PySem.W.plainGet_of hg).1 (PySem.W.plainGet_of hg).2 hf (beq_iff_eq.mp ht) (by show (PySem.W.lookIn name od).map (·.isSome) = some false; rw [hl, hv]; rfl) h
theorem set_map {ns : List Str} {Q : Unit → Shared → Prop} (X : K.In s.heap) (I : ObjM s.heap x dx C mA)
    (hs : PySem.W.findIn K (.ref C) "__setattr__" = some (some (.builtin "object.__setattr__"))) (hp : PySem.W.plainOver K C = true) (ht : PySem.W.takerIn K C name = some none) (hh : PySem.W.hasDictIn K C = true)
    (hw : PySem.Within mA ns) (hsz : ns.length ≤ sizeLine)
    (h : ∀ h', ObjM h' x dx C (fun y => if y = name then some v else mA y) → Heap.SameBut dx s.heap h' → Q () { s with heap := h', toks := s.toks + 2 }) :
    wpAny (model prog w) A (setAttr (.ref x) name v) Q E s := by
  obtain ⟨od, J, hl⟩ := I.look
  refine PySem.W.set_plain X J hs (PySem.W.osa_open (s := { s with toks := s.toks + 1 }) (r := none) X J hp ht fun b => ?_)
  obtain ⟨cd, hc, hd'⟩ := PySem.W.any_some hh
  have hx : s.heap.get? x = some ⟨.ref C, some dx, .plain, #[]⟩ := I.obj
  refine wpAny_bind (wpAny_pure (wpAny_bind (wpAny_bind (wpAny_loadPart hx (wpAny_bind (PySem.W.Looks.here (s := { s with toks := s.toks + 1 }) (PySem.W.looks_clsIn X hc) ?_))))))
  rw [hd']
  refine wpAny_pure (a := some dx) (wpAny_bind (wpAny_pure (wpAny_bind ?_)))
  refine wpAny_nsSet1 (s := { s with toks := s.toks + 1 }) I.ns fun h' hn2 hs2 => ?_
  obtain ⟨oD, esD, epD, hoD, hdD, hcD⟩ := hn2.count (PySem.Within.cons name v hw)
  refine wpAny_bind (wpAny_lookBehind hoD (by rw [hdD]; exact pastItsLine_dict (Nat.le_trans hcD (by rw [List.length_cons]; omega))) ?_)
  exact wpAny_pure (h _ ⟨(hs2.2 _ (Ne.symm I.ne)).trans I.obj, hn2, I.ne⟩ hs2)
theorem make_map {R : Result → Shared → Prop} {vs : List Value} {kw : List (Str × Value)} (X : K.In s.heap) (hm : PySem.W.makesIn K C = true)
    (hi : PySem.W.findIn K (.ref C) "__init__" = some (some (.ref f))) (hf : PySem.W.typeIn K (.ref f) = some (.type "function"))
    (h : codeAny (model prog w) (A.under (.builtin "type.__call__" ⟨.ref C :: vs, kw⟩)) (.call (.ref f) ⟨.ref (s.heap.objs.size + 1) :: vs, kw⟩) (PySem.W.InitBack (s.heap.objs.size + 1) R)
      { s with heap := (s.heap.push PySem.W.emptyDict).push (PySem.W.instObj C s.heap.objs.size) }) :
    codeAny (model prog w) A (.call (.ref C) ⟨vs, kw⟩) R s := by
  obtain ⟨hh, g, d, t, os⟩ := s
  exact PySem.W.make_core (PySem.W.makes_of X hm) (PySem.W.looks_findIn X hi) (fun self => PySem.W.bind_fn X self hf) (.inl rfl) h
end
def putF (f : Str) (v : V) : List (Str × V) → List (Str × V)
  | [] => [(f, v)]
  | (g, x) :: r => if g = f then (g, v) :: r else (g, x) :: putF f v r
theorem lookup_putF (f g : Str) (v : V) : ∀ fs : List (Str × V), (putF f v fs).lookup g = if g = f then some v else fs.lookup g
  | [] => by
    show List.lookup g [(f, v)] = _
    by_cases h : g = f
    · have hb : (g == f) = true := beq_iff_eq.mpr h
      simp only [List.lookup, hb, if_pos h]
    · have hb : (g == f) = false := beq_eq_false_iff_ne.mpr h
      simp only [List.lookup, hb, if_neg h]
  | (k, x) :: r => by
    have ih := lookup_putF f g v r
    rw [show putF f v ((k, x) :: r) = (if k = f then (k, v) :: r else (k, x) :: putF f v r) from rfl]
    by_cases hk : k = f
    · rw [if_pos hk]
      by_cases h : g = k
      · have hb : (g == k) = true := beq_iff_eq.mpr h
        simp only [List.lookup, hb, if_pos (h.trans hk)]
      · have hb : (g == k) = false := beq_eq_false_iff_ne.mpr h
        simp only [List.lookup, hb, if_neg (fun e : g = f => h (e.trans hk.symm))]
    · rw [if_neg hk]
      by_cases h : g = k
      · have hb : (g == k) = true := beq_iff_eq.mpr h
        simp only [List.lookup, hb, if_neg (fun e : g = f => hk (h.symm.trans e))]
      · have hb : (g == k) = false := beq_eq_false_iff_ne.mpr h
        simp only [List.lookup, hb]
        exact ih
theorem keys_putF (f : Str) (v : V) : ∀ fs : List (Str × V), f ∈ (putF f v fs).map (·.1) ∧ ∀ g, g ∈ fs.map (·.1) → g ∈ (putF f v fs).map (·.1)
  | [] => ⟨by simp [putF], fun g h => by simp at h⟩
  | (k, x) :: r => by
    obtain ⟨i1, i2⟩ := keys_putF f v r
    rw [show putF f v ((k, x) :: r) = (if k = f then (k, v) :: r else (k, x) :: putF f v r) from rfl]
    by_cases hk : k = f
    · rw [if_pos hk]
      subst hk
      exact ⟨by simp, fun g h => by simpa using h⟩
    · rw [if_neg hk]
      refine ⟨?_, fun g h => ?_⟩
      · rw [List.map_cons]
        exact List.mem_cons_of_mem _ i1
      · rw [List.map_cons] at h ⊢
        rcases List.mem_cons.mp h with e | e
        · exact List.mem_cons.mpr (.inl e)
        · exact List.mem_cons_of_mem _ (i2 g e)
theorem length_putF (f : Str) (v : V) : ∀ fs : List (Str × V), (putF f v fs).length ≤ fs.length + 1
  | [] => by simp [putF]
  | (k, x) :: r => by
    have ih := length_putF f v r
    rw [show putF f v ((k, x) :: r) = (if k = f then (k, v) :: r else (k, x) :: putF f v r) from rfl]
    by_cases hk : k = f
    · rw [if_pos hk, List.length_cons, List.length_cons]; omega
    · rw [if_neg hk, List.length_cons, List.length_cons]; omega
theorem RelO.some_of {v : V} {o : Option Value} (r : RelO (some v) o) : ∃ u, o = some u ∧ RelV v u := by
  cases o with
  | none => exact (show False from r).elim
  | some u => exact ⟨u, rfl, r⟩
theorem RelO.none_of {o : Option Value} (r : RelO none o) : o = none := by
  cases o with
  | none => rfl
  | some u => exact (show False from r).elim
theorem handed_of {v : V} {u : Value} (r : RelV v u) : PySem.W.handedIn u = true := by
  cases v with
  | non => cases (show u = Value.none from r); rfl
  | bl b => cases (show u = Value.bool b from r); rfl
  | int i => obtain ⟨t, e⟩ := (show ∃ t, u = Value.int i t from r); cases e; rfl
  | str x => obtain ⟨t, e⟩ := (show ∃ t, u = Value.str x t from r); cases e; rfl
  | byt b => obtain ⟨t, e⟩ := (show ∃ t, u = Value.bytes b t from r); cases e; rfl
  | flt b => obtain ⟨t, e⟩ := (show ∃ t, u = Value.float b t from r); cases e; rfl
  | ref a => cases (show u = Value.ref a from r); rfl
  | ty n => cases (show u = Value.type n from r); rfl
section
variable {P : Program} {w : World} {H H' : Hp} {h h' : Heap} {a C dx : Addr} {fs fs' : List (Str × V)}
theorem ins_get (hok : HOk P w H h) (e : H a = some (.ins C dx fs)) : ∃ mA, ObjM h a dx C mA ∧ (∀ f, RelO (fs.lookup f) (mA f)) ∧ PySem.Within mA (fs.map (·.1)) ∧ fs.length ≤ 1000 ∧ H dx = some (.own a) := by
  obtain ⟨d, z, ne, ob, mA, n, r, q⟩ := (show ObjOk P w H h a (.ins C dx fs) from hok a _ e)
  exact ⟨mA, ⟨ob, n, ne⟩, r, q, z, d⟩
end
structure Cls (K : PySem.W.Frag) (C : Addr) : Prop where
  pg : PySem.W.plainGet K C Str.empty = true
  hd : PySem.W.hasDictIn K C = true
  po : PySem.W.plainOver K C = true
  sa : PySem.W.findIn K (.ref C) "__setattr__" = some (some (.builtin "object.__setattr__"))
theorem Cls.get {K : PySem.W.Frag} {C : Addr} (c : Cls K C) (f : Str) : PySem.W.plainGet K C f = true := c.pg
def NoAttr (K : PySem.W.Frag) (C : Addr) (f : Str) : Prop := PySem.W.findIn K (.ref C) f = some none
theorem NoAttr.taker {K : PySem.W.Frag} {C : Addr} {f : Str} (n : NoAttr K C f) : PySem.W.takerIn K C f = some none := by
  unfold PySem.W.takerIn
  rw [show PySem.W.findIn K (.ref C) f = some none from n]
  rfl
structure Meth (K : PySem.W.Frag) (C : Addr) (m : Str) (f : Addr) : Prop where
  at_ : PySem.W.findIn K (.ref C) m = some (some (.ref f))
  fn : PySem.W.isFn K (.ref f) = true
  kp : PySem.W.keepIn K (.ref f) = true
section
variable {X : Cx} {pins : List (Addr × Obj)} {σ : St} {H : Hp} {s : Shared} {a C dx : Addr} {fs : List (Str × V)} {f : Str} {v : V} {A : Around} {E : Value → Shared → Prop}
theorem getattr_ok {b : Bool} {Q : Value → Shared → Prop} (I : Inv X pins σ H s) (e : H a = some (.ins C dx fs)) (c : Cls X.K C) (n : NoAttr X.K C f) (l : fs.lookup f = some v)
    (h : ∀ u s', Inv X pins σ H s' → RelV v u → Q u s') : wpAny (model X.prog X.w) A (getAttr (.ref a) f b) Q E s := by
  obtain ⟨mA, O, r, _, _, _⟩ := ins_get I.hok e
  obtain ⟨u, hu, ru⟩ := RelO.some_of (v := v) (o := mA f) (by rw [← l]; exact r f)
  exact get_map I.kIn O (c.get f) c.hd n hu (handed_of ru) (h u _ (I.tok _) ru)
theorem getmeth_ok {m : Str} {g : Addr} {pl : Sem Bool} {Q : Value × List Value → Shared → Prop} (I : Inv X pins σ H s) (e : H a = some (.ins C dx fs)) (c : Cls X.K C) (k : Meth X.K C m g) (l : fs.lookup m = none)
    (h : Q (.ref g, [.ref a]) s) : wpAny (model X.prog X.w) A (getMethod (.ref a) m pl) Q E s := by
  obtain ⟨mA, O, r, _, _, _⟩ := ins_get I.hok e
  have hn : mA m = none := RelO.none_of (by rw [← l]; exact r m)
  exact get_meth I.kIn O (c.get m) k.at_ k.fn hn h
theorem setattr_ok {y : V} {u : Value} {Q : Unit → Shared → Prop} (I : Inv X pins σ H s) (e : H a = some (.ins C dx fs)) (c : Cls X.K C) (n : NoAttr X.K C f) (hl : fs.length < 1000) (ry : RelV y u)
    (h : ∀ s', Inv X pins σ (upd H a (.ins C dx (putF f y fs))) s' → Q () s') : wpAny (model X.prog X.w) A (setAttr (.ref a) f u) Q E s := by
  obtain ⟨mA, O, r, wi, _, ho⟩ := ins_get I.hok e
  have hz : (fs.map (·.1)).length ≤ sizeLine := by rw [List.length_map, sizeLine_eq]; omega
  refine set_map I.kIn O c.sa c.po n.taker c.hd wi hz fun h' O' sb => h _ ?_
  have hd : ∃ o, h'.get? dx = some o := let ⟨o, _, _, e', _⟩ := O'.ns; ⟨o, e'⟩
  refine I.write (x := a) (e := dx) (by rw [e]; exact True.intro) (.inr ho) (fun b q hb z => (sb.2 b hb).trans z) hd ?_
  refine ⟨by rw [upd_ne O.ne]; exact ho, ?_, O.ne, O'.obj, _, O'.ns, fun g => ?_, fun g hg => ?_⟩
  · have := length_putF f y fs; omega
  · show RelO ((putF f y fs).lookup g) (if g = f then some u else mA g)
    rw [lookup_putF]
    by_cases q : g = f
    · rw [if_pos q, if_pos q]; exact ry
    · rw [if_neg q, if_neg q]; exact r g
  · by_cases q : g = f
    · rw [q]; exact (keys_putF f y fs).1
    · refine (keys_putF f y fs).2 g (wi g fun z => hg ?_)
      show (if g = f then some u else mA g) = none
      rw [if_neg q]; exact z
theorem Inv.made (I : Inv X pins σ H s) : Inv X pins σ (upd (upd H s.heap.objs.size (.own (s.heap.objs.size + 1))) (s.heap.objs.size + 1) (.ins C s.heap.objs.size []))
    { s with heap := (s.heap.push PySem.W.emptyDict).push (PySem.W.instObj C s.heap.objs.size) } := by
  have e1 : (s.heap.push PySem.W.emptyDict).get? s.heap.objs.size = some PySem.W.emptyDict := Heap.get?_push_size s.heap rfl
  have e2 : ((s.heap.push PySem.W.emptyDict).push (PySem.W.instObj C s.heap.objs.size)).get? (s.heap.objs.size + 1) = some (PySem.W.instObj C s.heap.objs.size) := by
    have := Heap.get?_push_size (s.heap.push PySem.W.emptyDict) (o := PySem.W.instObj C s.heap.objs.size) rfl
    rwa [Heap.size_push] at this
  have e3 : (s.heap.push PySem.W.emptyDict).Ns s.heap.objs.size (fun _ => none) := ⟨PySem.W.emptyDict, #[], _, e1, rfl, (fun e he => absurd he (by simp)), fun _ => rfl⟩
  have I1 := I.laid (a := s.heap.objs.size) (o := .own (s.heap.objs.size + 1)) (h' := s.heap.push PySem.W.emptyDict) (t' := s.toks) (fun b u q => Heap.get?_push_of_some _ q) (Nat.le_refl _) ⟨_, e1⟩
  refine I1.laid (a := s.heap.objs.size + 1) (o := .ins C s.heap.objs.size []) (t' := s.toks) (fun b u q => Heap.get?_push_of_some _ q) (Nat.le_of_eq (Heap.size_push _ _)) ?_
  have ne : s.heap.objs.size ≠ s.heap.objs.size + 1 := Nat.ne_of_lt (Nat.lt_succ_self _)
  refine ⟨by rw [upd_ne ne, upd_same], Nat.zero_le _, ne, e2, fun _ => none, (Heap.Ns1.of_empty e3).at fun o q => Heap.get?_push_of_some _ q, fun _ => True.intro, fun y hy => absurd rfl hy⟩
theorem attr_of {prog : Program} {w : World} {env : Env} {e : Expr} {f : Str} {pos : Pos} {s : Shared} {Q : Value → Shared → Prop} (hb : attributeBase e f env (eval e env) = eval e env)
    (h : wpAny (model prog w) A (eval e env) (fun o s₁ => wpAny (model prog w) A (getAttr o f true) Q E s₁) E s) : wpAny (model prog w) A (eval (.Attribute e f pos) env) Q E s :=
  Attribute_any_ h (by rw [arm_eval_Attribute, hb])
end
def tFld (K : PySem.W.Frag) (ta : TE) (f : Str) : TE := fun σ H Q => ta σ H fun x H1 => ∃ a C dx fs v, x = .ref a ∧ H1 a = some (.ins C dx fs) ∧ Cls K C ∧ NoAttr K C f ∧ fs.lookup f = some v ∧ Q v H1
def sFld (K : PySem.W.Frag) (ta tv : TE) (f : Str) : TS := fun D σ H => tv σ H fun y H1 => ta σ H1 fun x H2 => ∃ a C dx fs, x = .ref a ∧ H2 a = some (.ins C dx fs) ∧ Cls K C ∧ NoAttr K C f ∧ fs.length < 1000 ∧
  D.nx σ (upd H2 a (.ins C dx (putF f y fs)))
def InOp (X : Cx) (op : Operator) (rd : V → V → Hp → VK → Prop) : Prop :=
  ∀ (pins : List (Addr × Obj)) (s : Shared) (σ : St) (H : Hp) (x y : V) (u v : Value) (Q : VK), Inv X pins σ H s → RelV x u → RelV y v → rd x y H Q → wpAny (model X.prog X.w) X.A (inplaceOp op u v) (EP X pins σ Q) X.xe s
def sFldAug (K : PySem.W.Frag) (ta tv : TE) (rd : V → V → Hp → VK → Prop) (f : Str) : TS := fun D σ H => ta σ H fun x H1 => ∃ a C dx fs v, x = .ref a ∧ H1 a = some (.ins C dx fs) ∧ Cls K C ∧ NoAttr K C f ∧ fs.lookup f = some v ∧
  tv σ H1 fun y H2 => rd v y H2 fun z H3 => ∃ dx' fs', H3 a = some (.ins C dx' fs') ∧ fs'.length < 1000 ∧ D.nx σ (upd H3 a (.ins C dx' (putF f z fs')))
section
variable {X : Cx} {o e value : Expr} {f : Str} {pos pos' tpos : Pos} {ta tv : TE}
theorem pe_fld (he : PE X e ta) (hb : attributeBase e f X.env (eval e X.env) = eval e X.env) : PE X (.Attribute e f pos) (tFld X.K ta f) := by
  intro pins s σ H Q I h
  refine attr_of hb (thn (he pins s σ H _ I h) fun u s1 ⟨x, H1, I1, rx, a, C, dx, fs, v, ex, ea, c, n, l, q⟩ => ?_)
  subst ex
  obtain rfl : u = Value.ref a := rx
  exact getattr_ok I1 ea c n l fun u' s2 I2 ru => ⟨v, H1, I2, ru, q⟩
theorem ps_fld (ha : PE X o ta) (hv : PE X value tv) (hs : swapsWith value (some (.Attribute o f pos')) pos.line X.env = pure false) : PS X (.Assign [.Attribute o f pos'] value pos) (sFld X.K ta tv f) := by
  intro pins s σ H D I h
  refine plainObj_wpAny_Assign_Attribute (thn (hv pins s σ H _ I h) fun u s1 ⟨y, H1, I1, ry, q⟩ => thn (ha pins s1 σ H1 _ I1 q) fun ov s2 ⟨x, H2, I2, rx, a, C, dx, fs, ex, ea, c, n, l, q2⟩ => ?_) hs
  subst ex
  obtain rfl : ov = Value.ref a := rx
  exact setattr_ok I2 ea c n l ry fun s3 I3 => ⟨σ, _, I3, q2⟩
theorem ps_fldaug {op : Operator} {rd : V → V → Hp → VK → Prop} (ha : PE X o ta) (hv : PE X value tv) (hop : InOp X op rd) : PS X (.AugAssign (.Attribute o f tpos) op value pos) (sFldAug X.K ta tv rd f) := by
  intro pins s σ H D I h
  refine wpAny_AugAssign_AttributeAny (thn (ha pins s σ H _ I h) fun ov s1 ⟨x, H1, I1, rx, a, C, dx, fs, v, ex, ea, c, n, l, q⟩ => ?_)
  subst ex
  obtain rfl : ov = Value.ref a := rx
  refine getattr_ok I1 ea c n l fun u s2 I2 ru => thn (hv pins s2 σ H1 _ I2 q) fun w3 s3 ⟨y, H2, I3, ry, q3⟩ => thn (hop pins s3 σ H2 v y u w3 _ I3 ru ry q3) fun w4 s4 ⟨z, H3, I4, rz, dx', fs', ea', l', q4⟩ => ?_
  exact setattr_ok I4 ea' c n l' rz fun s5 I5 => ⟨σ, _, I5, q4⟩
def rAdd : V → V → Hp → VK → Prop := fun x y H Q => ∃ i j, x = .int i ∧ y = .int j ∧ Q (.int (i + j)) H
theorem in_add : InOp X .Add rAdd := by
  rintro pins s σ H x y u v Q I rx ry ⟨i, j, rfl, rfl, q⟩
  obtain ⟨t, rfl⟩ := (show ∃ t, u = Value.int i t from rx)
  obtain ⟨t', rfl⟩ := (show ∃ t', v = Value.int j t' from ry)
  exact PyProof.Rows.iadd_int ⟨.int (i + j), H, I.tok _, ⟨_, rfl⟩, q⟩
end
end L2
namespace L2
open PySem PySem.Spec PyProof.Rows
structure Room (k : Nat) (A : Around) : Prop where
  hd : A.handled = none
  dp : A.depth + 3 * k + 5 < recursionLimit
  un : A.units + 16 * k + 200 < cLine
theorem Room.mono {j k : Nat} {A : Around} (r : Room k A) (h : j ≤ k) : Room j A := ⟨r.hd, by have := r.dp; omega, by have := r.un; omega⟩
theorem Room.deeper {k : Nat} {A : Around} (r : Room (k + 1) A) (env : Env) : Room k (A.deeper env) :=
  ⟨r.hd, by have := r.dp; show A.depth + 1 + 3 * k + 5 < _; omega, by have := r.un; show A.units + 3 + 16 * k + 200 < _; omega⟩
theorem make_depth {A : Around} {C : Addr} {us : List Value} {kw : List (Str × Value)} : (A.under (.builtin "type.__call__" ⟨.ref C :: us, kw⟩)).depth = A.depth + 1 := by
  first | rfl | simp [Around.under, Code.weight, Code.isCreation, Code.isGuard, Code.isCaller, Code.frames, Code.isFrame, guardIds]
theorem make_units {A : Around} {C : Addr} {us : List Value} {kw : List (Str × Value)} : (A.under (.builtin "type.__call__" ⟨.ref C :: us, kw⟩)).units = A.units + 1 := by
  first | rfl | simp [Around.under, Code.cUnits, Code.frames, Code.isFrame]
theorem Room.make {k : Nat} {A : Around} (r : Room (k + 1) A) (C : Addr) (us : List Value) (kw : List (Str × Value)) : Room k (A.under (.builtin "type.__call__" ⟨.ref C :: us, kw⟩)) :=
  ⟨r.hd, by have := r.dp; rw [make_depth]; omega, by have := r.un; rw [make_units]; omega⟩
theorem Room.depth {k : Nat} {A : Around} (r : Room k A) : A.depth < recursionLimit := by have := r.dp; omega
theorem Room.units {k : Nat} {A : Around} (r : Room k A) : A.units + 64 < cLine := by have := r.un; omega
def tNil : TA := fun _ H Q => Q [] H
def tCons (ta : TE) (tr : TA) : TA := fun σ H Q => ta σ H fun x H1 => tr σ H1 fun xs H2 => Q (x :: xs) H2
section
variable {X : Cx} {e : Expr} {es : List Expr} {te : TE} {t : TA} {pos : Pos}
theorem pa_nil : PA X [] tNil := fun _ _ _ _ H Q I h => Calls.spliced_nil ⟨[], H, I, .nil, h⟩
theorem pa_cons (ha : PE X e te) (hr : PA X es t) (hs : starEach (e :: es) X.env = (false, eval e X.env) :: starEach es X.env := by rfl) : PA X (e :: es) (tCons te t) := by
  intro pos pins s σ H Q I h
  rw [hs]
  show wpAny _ _ (spliced ((false, eval e X.env) :: backTo pos (starEach es X.env))) _ _ s
  refine Calls.spliced_cons (thn (ha pins s σ H _ I h) fun u s1 ⟨x, H1, I1, r1, q1⟩ => ?_)
  exact thn (hr pos pins s1 σ H1 _ I1 q1) fun us s2 ⟨xs, H2, I2, r2, q2⟩ => ⟨x :: xs, H2, I2, .cons r1 r2, q2⟩
def tTup (t : TA) : TE := fun σ H Q => t σ H fun xs H1 => xs.length ≤ sizeLine ∧ ∀ p, H1 p = none → Q (.ref p) (upd H1 p (.tup xs))
def tLst (t : TA) : TE := fun σ H Q => t σ H fun xs H1 => xs.length ≤ sizeLine ∧ ∀ p, H1 p = none → Q (.ref p) (upd H1 p (.lst xs))
theorem pe_tup {x1} (h : PA X es t) : PE X (.Tuple es x1 pos) (tTup t) := by
  intro pins s σ H Q I hq
  refine wpAny_Tuple_spliced (thn (h pos pins s σ H _ I hq) fun us s1 ⟨xs, H1, I1, r, z, q⟩ => ⟨by rw [← r.length]; exact z, ?_⟩)
  have hf : H1 s1.heap.objs.size = none := I1.hok.fresh (Nat.le_refl _)
  refine ⟨.ref s1.heap.objs.size, upd H1 s1.heap.objs.size (.tup xs), I1.laid (t' := s1.toks) (fun b u e => Heap.get?_push_of_some _ e) (Nat.le_refl _) ?_, rfl, q _ hf⟩
  exact ⟨z, us, r, ⟨_, Heap.get?_push_size _ rfl, rfl, _, rfl⟩⟩
theorem pe_lst (h : PA X es t) : PE X (.List es pos) (tLst t) := by
  intro pins s σ H Q I hq
  refine wpAny_List_spliced (thn (h pos pins s σ H _ I hq) fun us s1 ⟨xs, H1, I1, r, z, q⟩ => ⟨by rw [← r.length]; exact z, ?_⟩)
  have hf : H1 s1.heap.objs.size = none := I1.hok.fresh (Nat.le_refl _)
  refine ⟨.ref s1.heap.objs.size, upd H1 s1.heap.objs.size (.lst xs), I1.laid (t' := s1.toks) (fun b u e => Heap.get?_push_of_some _ e) (Nat.le_refl _) ?_, rfl, q _ hf⟩
  exact ⟨z, us, 0, r, Heap.get?_push_size _ rfl⟩
end
abbrev Sp := List V → Hp → VK → XK → Prop
abbrev CXT := List Env → Hp → Shared → XK → Value → Shared → Prop
structure Env0 (P : Program) (w : World) (K : PySem.W.Frag) (mg : Str → Option Value) (base : Heap) (A : Around) (outer : List Env) (s : Shared) (H : Hp) : Prop where
  frames : A.frames = some outer
  mod : Mod K mg base
  bs : ∀ b o, base.get? b = some o → s.heap.get? b = some o ∧ H b = none
  bsz : base.objs.size ≤ s.heap.objs.size
  funs : s.heap.FunFrames base outer
  frf : ∀ b ∈ frs outer, H b = none
  hok : HOk P w H s.heap
  bare : AllBare s.gens
def CE (outer : List Env) (P : Program) (w : World) (H : Hp) (s : Shared) (Q : VK) (u : Value) (s' : Shared) : Prop :=
  ∃ v H', s'.os = s.os ∧ AllBare s'.gens ∧ Un (frs outer) [] H H' s.heap s'.heap ∧ HOk P w H' s'.heap ∧ RelV v u ∧ Q v H'
def CR (CX : CXT) (outer : List Env) (P : Program) (w : World) (H : Hp) (s : Shared) (Q : VK) (E : XK) (r : Result) (s' : Shared) : Prop :=
  match r with
  | .ok (.ret u) => CE outer P w H s Q u s'
  | .ok _ => False
  | .error e => CX outer H s E e s'
structure FnOk (P : Program) (w : World) (K : PySem.W.Frag) (mg : Str → Option Value) (base : Heap) (CX : CXT) (k : Nat) (f : Addr) (fd : FuncData) (ps : List Str) (sp : Sp) : Prop where
  len : ∀ vs H Q E, sp vs H Q E → vs.length = ps.length
  run : ∀ (A : Around) (outer : List Env) (s : Shared) (H : Hp) (args : Args) (us : List Value) (vs : List V) (Q : VK) (E : XK), Room k A → Env0 P w K mg base A outer s H → BindsTo s fd args (ps.zip us) → Vals vs us → sp vs H Q E →
    codeAny (model P w) A (.call (.ref f) args) (CR CX outer P w H s Q E) s
theorem Env0.make {P : Program} {w : World} {K : PySem.W.Frag} {mg : Str → Option Value} {base : Heap} {A : Around} {outer : List Env} {s : Shared} {H : Hp} (e : Env0 P w K mg base A outer s H) (C : Addr) (us : List Value) (kw : List (Str × Value)) :
    Env0 P w K mg base (A.under (.builtin "type.__call__" ⟨.ref C :: us, kw⟩)) outer s H := ⟨by first | exact e.frames | (simpa [Around.under, Code.envs, Code.isFrame, pushEnvs] using e.frames), e.mod, e.bs, e.bsz, e.funs, e.frf, e.hok, e.bare⟩
section
variable {X : Cx} {pins : List (Addr × Obj)} {σ : St} {H : Hp} {s s' : Shared}
theorem Inv.env0 (I : Inv X pins σ H s) : Env0 X.prog X.w X.K X.mg X.base X.A X.stack s H :=
  ⟨I.ok.frames, I.ok.mod, I.bs, Nat.le_trans I.ok.bsz I.sz, I.stack, I.stkFree, I.hok, I.bare⟩
theorem Inv.after {Q : VK} {u : Value} (I : Inv X pins σ H s) (h : CE X.stack X.prog X.w H s Q u s') : EP X pins σ Q u s' := by
  obtain ⟨v, H', os, bare, un, hok, r, q⟩ := h
  obtain ⟨hh, g, d, t, os'⟩ := s'
  obtain rfl : os' = s.os := os
  exact ⟨v, H', I.call (h' := hh) (g' := g) (d' := d) (t' := t) (ch := []) un hok bare (fun b z => absurd z (by simp)), r, q⟩
end
def tCall (sp : Sp) (dvs : List V) (E : XK) (t : TA) : TE := fun σ H Q => t σ H fun vs H1 => sp (vs ++ dvs) H1 Q E
def tMeth (C : Addr) (m : Str) (sp : Sp) (dvs : List V) (E : XK) (ta : TE) (t : TA) : TE := fun σ H Q => ta σ H fun x H1 => ∃ a dx fs, x = .ref a ∧ H1 a = some (.ins C dx fs) ∧ fs.lookup m = none ∧
  t σ H1 fun vs H2 => sp (x :: (vs ++ dvs)) H2 Q E
def tMake (C : Addr) (sp : Sp) (dvs : List V) (E : XK) (t : TA) : TE := fun σ H Q => t σ H fun vs H1 => ∀ x dx, H1 x = none → H1 dx = none → dx ≠ x →
  sp (.ref x :: (vs ++ dvs)) (upd (upd H1 dx (.own x)) x (.ins C dx [])) (fun v H2 => v = .non ∧ Q (.ref x) H2) E
def Binds (K : PySem.W.Frag) (fd : FuncData) (ps : List Str) (ds : List Value) : Prop :=
  ∀ (s : Shared) (us : List Value), K.In s.heap → (us ++ ds).length = ps.length → BindsTo s fd ⟨us, []⟩ (ps.zip (us ++ ds))
theorem Binds.all {K : PySem.W.Frag} {fd : FuncData} {ps : List Str} (h : ∀ us : List Value, us.length = ps.length → bindArgs fd ⟨us, []⟩ = pure (ps.zip us)) : Binds K fd ps [] := fun s us _ hl => by
  rw [List.append_nil] at hl ⊢
  exact .of_eq (h us hl)
def Passes (CX : CXT) (X : Cx) (E : XK) : Prop := ∀ (pins : List (Addr × Obj)) (σ : St) (H : Hp) (s : Shared) (e : Value) (s' : Shared), Inv X pins σ H s → CX X.stack H s E e s' → X.xe e s'
section
variable {X : Cx} {CX : CXT} {k : Nat} {f C : Addr} {fd : FuncData} {ps : List Str} {sp : Sp} {dvs : List V} {ds : List Value} {E : XK} {x m : Str} {p pos apos : Pos} {e o : Expr} {es : List Expr} {ta : TE} {t : TA}
theorem run_fn {pins : List (Addr × Obj)} {σ : St} {H : Hp} {s : Shared} {Q : VK} {us : List Value} {vs : List V} (F : FnOk X.prog X.w X.K X.mg X.base CX k f fd ps sp) (hr : Room k X.A) (hb : Binds X.K fd ps ds) (hd : Vals dvs ds) (hx : Passes CX X E)
    (I : Inv X pins σ H s) (r : Vals vs us) (h : sp (vs ++ dvs) H Q E) : wpAny (model X.prog X.w) X.A (call (.ref f) us) (EP X pins σ Q) X.xe s := by
  have r2 : Vals (vs ++ dvs) (us ++ ds) := r.append hd
  have hl : (us ++ ds).length = ps.length := by rw [← r2.length]; exact F.len _ _ _ _ h
  refine wpAny_call (codeAny_mono (F.run X.A X.stack s H ⟨us, []⟩ (us ++ ds) (vs ++ dvs) Q E hr I.env0 (hb s us I.kIn hl) r2 h) fun r s' hq => ?_)
  cases r with
  | error e => exact hx pins σ H s e s' I hq
  | ok fl =>
    cases fl with
    | ret u => exact I.after hq
    | next => exact False.elim hq
    | brk => exact False.elim hq
    | cont => exact False.elim hq
theorem pe_call (F : FnOk X.prog X.w X.K X.mg X.base CX k f fd ps sp) (hr : Room k X.A) (hg : Gl X x) (hm : X.mg x = some (.ref f)) (hk : PySem.W.keepIn X.K (.ref f) = true) (hb : Binds X.K fd ps ds) (hd : Vals dvs ds) (hx : Passes CX X E)
    (ha : PA X (e :: es) t) (hdb : (x == ("__debug__" : Str)) = false := by decide) (he : starEach (e :: es) X.env = (false, eval e X.env) :: starEach es X.env := by rfl) (hpl : (backTo pos (starEach es X.env)).any (·.1) = false := by rfl) :
    PE X (.Call (.Name x p) (e :: es) [] pos) (tCall sp dvs E t) := by
  intro pins s σ H Q I h
  refine wpAny_Call_Name_kw (ld_glob I hg hm ?_ hdb)
  refine PySem.W.callWith_K (h₀ := X.base) I.ok.mod.kin hk (thn (ha pos pins s σ H _ I h) fun us s1 ⟨vs, H1, I1, r, q⟩ => ⟨I1.kIn, ?_⟩) he hpl
  exact run_fn F hr hb hd hx I1 r q
theorem pe_meth {pl : Sem Bool} (he : PE X o ta) (c : Cls X.K C) (hm : Meth X.K C m f) (F : FnOk X.prog X.w X.K X.mg X.base CX k f fd ps sp) (hr : Room k X.A) (hb : Binds X.K fd ps ds) (hd : Vals dvs ds) (hx : Passes CX X E) (ha : PA X (e :: es) t)
    (hst : starEach (e :: es) X.env = (false, eval e X.env) :: starEach es X.env := by rfl) (hpl : (backTo pos (starEach es X.env)).any (·.1) = false := by rfl)
    (ht : eval (.Call (.Attribute o m apos) (e :: es) [] pos) X.env = (do
      let ov ← eval o X.env
      standAt apos.atName
      let (f, first) ← holding [ov] (getMethod ov m pl)
      callWith pos f first (backTo pos (starEach (e :: es) X.env)) (backToKw pos (keywordEach [] X.env))) := by rfl) :
    PE X (.Call (.Attribute o m apos) (e :: es) [] pos) (tMeth C m sp dvs E ta t) := by
  intro pins s σ H Q I h
  refine PySem.W.methodCall_KW (pl := pl) (thn (he pins s σ H _ I h) fun u s1 ⟨x, H1, I1, rx, a, dx, fs, ex, ea, l, q⟩ => ?_) ht
  subst ex
  obtain rfl : u = Value.ref a := rx
  refine getmeth_ok I1 ea c hm l ?_
  refine PySem.W.callWith_K (first := [.ref a]) (h₀ := X.base) I.ok.mod.kin hm.kp (thn (ha pos pins s1 σ H1 _ I1 q) fun us s2 ⟨vs, H2, I2, r, q2⟩ => ⟨I2.kIn, ?_⟩) hst hpl
  exact run_fn (us := .ref a :: us) (vs := .ref a :: vs) F hr hb hd hx I2 (.cons rfl r) q2
theorem pe_meth0 {pl : Sem Bool} (he : PE X o ta) (c : Cls X.K C) (hm : Meth X.K C m f) (F : FnOk X.prog X.w X.K X.mg X.base CX k f fd ps sp) (hr : Room k X.A) (hb : Binds X.K fd ps ds) (hd : Vals dvs ds) (hx : Passes CX X E)
    (ht : eval (.Call (.Attribute o m apos) [] [] pos) X.env = (do
      let ov ← eval o X.env
      standAt apos.atName
      let (f, first) ← holding [ov] (getMethod ov m pl)
      callWith pos f first (backTo pos (starEach [] X.env)) (backToKw pos (keywordEach [] X.env))) := by rfl) :
    PE X (.Call (.Attribute o m apos) [] [] pos) (tMeth C m sp dvs E ta tNil) := by
  intro pins s σ H Q I h
  refine PySem.W.methodCall_KW (pl := pl) (thn (he pins s σ H _ I h) fun u s1 ⟨x, H1, I1, rx, a, dx, fs, ex, ea, l, q⟩ => ?_) ht
  subst ex
  obtain rfl : u = Value.ref a := rx
  refine getmeth_ok I1 ea c hm l ?_
  exact PySem.W.callWith_K0 (first := [.ref a]) I1.kIn hm.kp (run_fn (us := [.ref a]) (vs := [.ref a]) F hr hb hd hx I1 (.cons rfl .nil) q)
structure Mk (K : PySem.W.Frag) (C f : Addr) : Prop where
  makes : PySem.W.makesIn K C = true
  init : PySem.W.findIn K (.ref C) "__init__" = some (some (.ref f))
  fn : PySem.W.isFn K (.ref f) = true
  kp : PySem.W.keepIn K (.ref C) = true
theorem run_make {pins : List (Addr × Obj)} {σ : St} {H : Hp} {s : Shared} {Q : VK} {us : List Value} {vs : List V} (M : Mk X.K C f) (F : FnOk X.prog X.w X.K X.mg X.base CX k f fd ps sp) (hr : Room (k + 1) X.A) (hb : Binds X.K fd ps ds) (hd : Vals dvs ds)
    (hx : Passes CX X E) (I : Inv X pins σ H s) (r : Vals vs us)
    (h : ∀ x dx, H x = none → H dx = none → dx ≠ x → sp (.ref x :: (vs ++ dvs)) (upd (upd H dx (.own x)) x (.ins C dx [])) (fun v H2 => v = .non ∧ Q (.ref x) H2) E) :
    wpAny (model X.prog X.w) X.A (call (.ref C) us) (EP X pins σ Q) X.xe s := by
  have hq := h (s.heap.objs.size + 1) s.heap.objs.size (I.hok.fresh (Nat.le_succ _)) (I.hok.fresh (Nat.le_refl _)) (Nat.ne_of_lt (Nat.lt_succ_self _))
  have I2 := Inv.made (C := C) I
  have r2 : Vals (V.ref (s.heap.objs.size + 1) :: (vs ++ dvs)) (Value.ref (s.heap.objs.size + 1) :: (us ++ ds)) := .cons rfl (r.append hd)
  have hl : (Value.ref (s.heap.objs.size + 1) :: us ++ ds).length = ps.length := by
    have e := r2.length
    rw [F.len _ _ _ _ hq] at e
    exact e.symm
  refine wpAny_call (make_map (f := f) I.kIn M.makes M.init (beq_iff_eq.mp M.fn) (codeAny_mono (F.run _ X.stack _ _ ⟨Value.ref (s.heap.objs.size + 1) :: us, []⟩ (Value.ref (s.heap.objs.size + 1) :: (us ++ ds)) _ _ E (hr.make C us [])
    (I2.env0.make C us []) (hb _ (Value.ref (s.heap.objs.size + 1) :: us) I2.kIn hl) r2 hq) fun r s' hq' => ?_))
  cases r with
  | error e => exact hx pins σ _ _ e s' I2 hq'
  | ok fl =>
    cases fl with
    | ret u =>
      obtain ⟨v, H', I3, rv, ev, q3⟩ := I2.after hq'
      subst ev
      exact ⟨rv, ⟨V.ref (s.heap.objs.size + 1), H', I3, rfl, q3⟩⟩
    | next => exact False.elim hq'
    | brk => exact False.elim hq'
    | cont => exact False.elim hq'
theorem pe_make (M : Mk X.K C f) (F : FnOk X.prog X.w X.K X.mg X.base CX k f fd ps sp) (hr : Room (k + 1) X.A) (hg : Gl X x) (hm : X.mg x = some (.ref C)) (hb : Binds X.K fd ps ds) (hd : Vals dvs ds) (hx : Passes CX X E)
    (ha : PA X (e :: es) t) (hdb : (x == ("__debug__" : Str)) = false := by decide) (he : starEach (e :: es) X.env = (false, eval e X.env) :: starEach es X.env := by rfl) (hpl : (backTo pos (starEach es X.env)).any (·.1) = false := by rfl) :
    PE X (.Call (.Name x p) (e :: es) [] pos) (tMake C sp dvs E t) := by
  intro pins s σ H Q I h
  refine wpAny_Call_Name_kw (ld_glob I hg hm ?_ hdb)
  refine PySem.W.callWith_K (h₀ := X.base) I.ok.mod.kin M.kp (thn (ha pos pins s σ H _ I h) fun us s1 ⟨vs, H1, I1, r, q⟩ => ⟨I1.kIn, ?_⟩) he hpl
  exact run_make M F hr hb hd hx I1 r q
theorem pe_make0 (M : Mk X.K C f) (F : FnOk X.prog X.w X.K X.mg X.base CX k f fd ps sp) (hr : Room (k + 1) X.A) (hg : Gl X x) (hm : X.mg x = some (.ref C)) (hb : Binds X.K fd ps ds) (hd : Vals dvs ds) (hx : Passes CX X E)
    (hdb : (x == ("__debug__" : Str)) = false := by decide) : PE X (.Call (.Name x p) [] [] pos) (tMake C sp dvs E tNil) := by
  intro pins s σ H Q I h
  refine wpAny_Call_Name_kw (ld_glob I hg hm ?_ hdb)
  exact PySem.W.callWith_K0 I.kIn M.kp (run_make (us := []) M F hr hb hd hx I .nil h)
end
structure FnScope (N P : List Str) (sc : Scope) : Prop where
  kind : sc.kind = .function
  co : sc.isCoroutine = false
  gen : sc.isGenerator = false
  nd : N.Nodup
  pre : N.take P.length = P
  par : ∀ x ∈ P, sc.names.lookup x = some .local ∨ sc.names.lookup x = some .cell
  nofree : ∀ y ∈ sc.names, y.2 ≠ .free
theorem bindL_out {kindOf : Str → Option NameKind} {x : Str} : ∀ {binds : List (Str × Value)} {m : Str → Option Value}, (∀ v, (x, v) ∉ binds) → bindL kindOf binds m x = m x
  | [], _, _ => rfl
  | (n, v) :: r, m, h => by
    unfold bindL
    rw [bindL_out fun w hw => h w (List.mem_cons_of_mem _ hw)]
    split
    · have : x ≠ n := by rintro rfl; exact h v List.mem_cons_self
      simp [this]
    · rfl
theorem bindC_out {kindOf : Str → Option NameKind} {x : Str} : ∀ {binds : List (Str × Value)} {m : Str → Option Value}, (∀ v, (x, v) ∉ binds) → bindC kindOf binds m x = m x
  | [], _, _ => rfl
  | (n, v) :: r, m, h => by
    unfold bindC
    rw [bindC_out fun w hw => h w (List.mem_cons_of_mem _ hw)]
    split
    · rfl
    · have : x ≠ n := by rintro rfl; exact h v List.mem_cons_self
      simp [this]
theorem bindL_get {kindOf : Str → Option NameKind} {x : Str} {v : Value} : ∀ {P : List Str} {vs : List Value} {i : Nat} {m : Str → Option Value}, P.Nodup → P[i]? = some x → vs[i]? = some v → kindOf x = some .local →
    bindL kindOf (P.zip vs) m x = some v
  | [], _, _, _, _, h, _, _ => by simp at h
  | _ :: _, [], _, _, _, _, h, _ => by simp at h
  | p :: P, w :: vs, 0, m, nd, h1, h2, hk => by
    simp at h1 h2; subst h1; subst h2
    show bindL kindOf ((p, w) :: P.zip vs) m p = _
    unfold bindL
    rw [bindL_out fun v hv => (List.nodup_cons.mp nd).1 (List.of_mem_zip hv).1, if_pos hk]
    simp
  | p :: P, w :: vs, i + 1, m, nd, h1, h2, hk => by
    show bindL kindOf ((p, w) :: P.zip vs) m x = _
    unfold bindL
    exact bindL_get (i := i) (List.nodup_cons.mp nd).2 (by simpa using h1) (by simpa using h2) hk
theorem bindC_get {kindOf : Str → Option NameKind} {x : Str} {v : Value} : ∀ {P : List Str} {vs : List Value} {i : Nat} {m : Str → Option Value}, P.Nodup → P[i]? = some x → vs[i]? = some v → kindOf x ≠ some .local →
    bindC kindOf (P.zip vs) m x = some v
  | [], _, _, _, _, h, _, _ => by simp at h
  | _ :: _, [], _, _, _, _, h, _ => by simp at h
  | p :: P, w :: vs, 0, m, nd, h1, h2, hk => by
    simp at h1 h2; subst h1; subst h2
    show bindC kindOf ((p, w) :: P.zip vs) m p = _
    unfold bindC
    rw [bindC_out fun v hv => (List.nodup_cons.mp nd).1 (List.of_mem_zip hv).1, if_neg hk]
    simp
  | p :: P, w :: vs, i + 1, m, nd, h1, h2, hk => by
    show bindC kindOf ((p, w) :: P.zip vs) m x = _
    unfold bindC
    exact bindC_get (i := i) (List.nodup_cons.mp nd).2 (by simpa using h1) (by simpa using h2) hk
def start (N : List Str) (vs : List V) : St := vs.map some ++ List.replicate (N.length - vs.length) none
def cxOf (CX : CXT) (P : Program) (w : World) (K : PySem.W.Frag) (mg : Str → Option Value) (base : Heap) (N : List Str) (qual : Str) (scope : Scope) (f : Addr) (cd : Value) (A : Around) (outer : List Env) (s : Shared) (H : Hp) (E : XK) : Cx where
  prog := P
  w := w
  K := K
  mg := mg
  base := base
  A := A.deeper (envOfC qual scope s.heap.objs.size f cd)
  N := N
  s_0 := s
  H_0 := H
  env := envOfC qual scope s.heap.objs.size f cd
  outer := outer
  stack := envOfC qual scope s.heap.objs.size f cd :: outer
  ex := []
  calm := true
  fn := fun _ => true
  pn := []
  xe := fun e s' => wpAny (model P w) (A.deeper (envOfC qual scope s.heap.objs.size f cd)) (leaving (envOfC qual scope s.heap.objs.size f cd) e) (fun _ s'' => CX outer H s E e s'') (fun e' s'' => CX outer H s E e' s'') s'
theorem cell_has {sc : Scope} {n : Nat} {x : Str} (h : sc.names.lookup x = some .cell) : ∃ c, (cellsFrom n sc.names []).lookup x = some c := by
  have q := PySem.W.cellsFrom_some sc.names n [] (.inl h)
  exact Option.isSome_iff_exists.mp q
theorem inv_start {CX : CXT} {P : Program} {w : World} {K : PySem.W.Frag} {mg : Str → Option Value} {base : Heap} {N ps : List Str} {qual : Str} {scope : Scope} {f : Addr} {cd : Value} {A : Around} {outer : List Env} {s s1 : Shared} {H : Hp} {E : XK} {us : List Value} {vs : List V}
    (S : FnScope N ps scope) (hd : A.handled = none) (e0 : Env0 P w K mg base A outer s H) (hl : vs.length = ps.length) (r : Vals vs us)
    (x : InCallC s s.heap.objs.size (bindL (envOfC qual scope s.heap.objs.size f cd).kindOf (ps.zip us) fun _ => none) (cellsFrom (s.heap.objs.size + 1) scope.names []) (bindC (envOfC qual scope s.heap.objs.size f cd).kindOf (ps.zip us) fun _ => none) s1) :
    Inv (cxOf CX P w K mg base N qual scope f cd A outer s H E) [] (start N vs) H s1 := by
  have hpl : ps.length ≤ N.length := by have := congrArg List.length S.pre; rw [List.length_take] at this; omega
  obtain ⟨h1, tk, rfl, hk⟩ := x.done
  have noA : ∀ b : Addr, b ∉ (cxOf CX P w K mg base N qual scope f cd A outer s H E).ex := fun b z => absurd (show b ∈ ([] : List Addr) from z) (by simp)
  refine ⟨⟨e0.mod, S.kind, rfl, rfl, Nat.le_refl _, fun y z c h1 h2 => ?_, fun y hy => ?_, fun y c _ h => ?_, fun _ => hd, Around.frames_deeper e0.frames, .inr ⟨rfl, rfl⟩, fun b z => absurd z (noA b), e0.bs, e0.bsz, fun b _ _ => noA b, fun b z => absurd z (noA b), e0.funs, e0.frf⟩,
    rfl, e0.bare, Un.kept hk, ⟨_, x.toInCall.ns, fun i y v h1 h2 h3 => ?_⟩, fun y c h => ⟨_, x.cell y c h⟩, e0.hok.fresh (Nat.le_refl _), fun y c h => ?_, fun p hp => absurd (show p ∈ ([] : List (Addr × Obj)) from hp) (by simp), e0.hok.kept hk, ?_⟩
  · exact name_of_addr x.apart (PySem.mem_of_lookup h1) (PySem.mem_of_lookup h2)
  · have hy : scope.names.lookup y = some .cell ∨ scope.names.lookup y = some .free := hy
    rcases hy with hy | hy
    · exact cell_has hy
    · exact absurd rfl (S.nofree _ (PySem.mem_of_lookup hy))
  · exact Nat.le_of_lt (x.above y c (PySem.mem_of_lookup h))
  · have hi : i < vs.length := by
      unfold start at h2
      by_cases hi : i < vs.length
      · exact hi
      · rw [List.getElem?_append_right (by simpa using hi)] at h2
        rw [List.getElem?_replicate] at h2
        split at h2 <;> cases h2
    have ha : vs[i]? = some v := by
      unfold start at h2
      rw [List.getElem?_append_left (by simpa using hi), List.getElem?_map] at h2
      cases e : vs[i]? with
      | none => rw [e] at h2; cases h2
      | some a => rw [e] at h2; cases h2; rfl
    obtain ⟨u, hu, rv⟩ := r.get ha
    have hp : ps[i]? = some y := by
      rw [← S.pre, List.getElem?_take_of_lt (by omega)]; exact h1
    have ndP : ps.Nodup := by rw [← S.pre]; exact S.nd.sublist (List.take_sublist _ _)
    refine ⟨u, rv, ?_⟩
    rcases S.par y (List.mem_of_getElem? hp) with k | k
    · exact .inl ⟨k, bindL_get ndP hp hu k⟩
    · obtain ⟨c, e⟩ := cell_has (n := s.heap.objs.size + 1) k
      refine .inr ⟨.inl k, c, e, ?_⟩
      have q := x.cell y c e
      rw [bindC_get ndP hp hu (by show scope.names.lookup y ≠ _; rw [k]; decide)] at q
      exact q
  · exact e0.hok.fresh (Nat.le_of_lt (x.above y c (PySem.mem_of_lookup h)))
  · unfold start
    show _ = N.length
    rw [List.length_append, List.length_map, List.length_replicate]
    omega
theorem fn_of {CX : CXT} {P : Program} {w : World} {K : PySem.W.Frag} {mg : Str → Option Value} {base : Heap} {k : Nat} {f : Addr} {name qual : Str} {params : Arguments} {body : List Stmt} {scope : Scope} {dV kV doc pm cdv ct oc : Value} {an od : Option Addr}
    {osl : Array (Option Value)} {N ps : List Str} {sp : Sp} (lk : K.lookup f = some ⟨oc, od, .func (PySem.W.fnOf name qual params body scope dV kV doc pm an cdv ct), osl⟩) (hcd : PySem.W.codeIn K cdv qual = true) (S : FnScope N ps scope)
    (len : ∀ vs H Q E, sp vs H Q E → vs.length = ps.length)
    (hbody : ∀ (A : Around) (outer : List Env) (s : Shared) (H : Hp) (vs : List V) (Q : VK) (E : XK), Room k (A.deeper (envOfC qual scope s.heap.objs.size f cdv)) → sp vs H Q E →
      ∃ t, PSs (cxOf CX P w K mg base N qual scope f cdv A outer s H E) body t ∧ t { nx := fun _ H' => Q .non H', rt := Q } (start N vs) H) :
    FnOk P w K mg base CX (k + 1) f (PySem.W.fnOf name qual params body scope dV kV doc pm an cdv ct) ps sp := by
  refine ⟨len, fun A outer s H args us vs Q E hr e0 hb r hsp => ?_⟩
  have hl := len _ _ _ _ hsp
  have KX : K.In s.heap := e0.mod.kin.keeps fun b o e => (e0.bs b o e).1
  have lim : s.heap.NoLimit := e0.mod.nolimit.keeps fun b o e => (e0.bs b o e).1
  have hkind : ∀ y ∈ ps.zip us, scope.names.lookup y.1 = some .local ∨ (scope.names.lookup y.1 = some .cell ∧ ((cellsFrom (s.heap.objs.size + 1) scope.names []).lookup y.1).isSome = true) := fun ⟨n, v⟩ hy => by
    rcases S.par n (List.of_mem_zip hy).1 with q | q
    · exact .inl q
    · exact .inr ⟨q, PySem.W.cellsFrom_some _ _ _ (.inl q)⟩
  refine codeAny_call_function hr.depth (KX _ _ lk) rfl S.co S.gen rfl (PySem.W.codeRec_of KX hcd) (hb _ _ _ _ ?_)
  refine wpAny_newFunctionEnv_cells S.kind hkind fun env he s1 x => ?_
  subst he
  refine ⟨lim.keeps x.toInCall.keep, codeAny_func ?_⟩
  obtain ⟨t, ht, hq⟩ := hbody A outer s H vs Q E (hr.deeper _) hsp
  have I : Inv (cxOf CX P w K mg base N qual scope f cdv A outer s H E) [] (start N vs) H s1 := inv_start S hr.hd e0 hl r x
  refine wpAny_mono (ht [] s1 (start N vs) H _ I hq) (fun fl s' hs => ?_) fun e s' hs => hs
  have fin : ∀ {σ' : St} {H' : Hp} {v : V} {u : Value}, Inv (cxOf CX P w K mg base N qual scope f cdv A outer s H E) [] σ' H' s' → RelV v u → Q v H' → CE outer P w H s Q u s' :=
    fun {σ' H' v u} J rv q => ⟨v, H', J.os, J.bare, J.base, J.hok, rv, q⟩
  cases fl with
  | ret u =>
    obtain ⟨v, σ', H', J, rv, q⟩ := hs
    exact fin J rv q
  | next =>
    obtain ⟨σ', H', J, q⟩ := hs
    exact fin (v := V.non) (u := Value.none) J rfl q
  | brk =>
    obtain ⟨_, _, _, q⟩ := hs
    exact False.elim q
  | cont =>
    obtain ⟨_, _, _, q⟩ := hs
    exact False.elim q
end L2
namespace L2
open PySem PySem.Spec PyProof.Rows
section
variable {X : Cx} {x : Str} {p pos : Pos} {e : Expr} {es : List Expr} {t : TA} {id T : String} {r : List V → Hp → VK → Prop}
def tCB (r : List V → Hp → VK → Prop) (t : TA) : TE := fun σ H Q => t σ H fun vs H1 => r vs H1 Q
theorem pe_callB (hc : CallR X (.builtin id) r) (hg : Gl X x) (hm : X.mg x = none) (hv : bootBuiltins x = some (.builtin id)) (ha : PA X (e :: es) t) (hn : x ≠ "__name__" := by decide) (hdb : (x == ("__debug__" : Str)) = false := by decide)
    (he : starEach (e :: es) X.env = (false, eval e X.env) :: starEach es X.env := by rfl) (hpl : (backTo pos (starEach es X.env)).any (·.1) = false := by rfl) : PE X (.Call (.Name x p) (e :: es) [] pos) (tCB r t) := by
  intro pins s σ H Q I h
  refine wpAny_Call_Name_kw (ld_blt I hg hm hv ?_ hn hdb)
  exact PyProof.Rows.callWith_builtin1 (thn (ha pos pins s σ H _ I h) fun us s1 ⟨vs, H1, I1, r1, q1⟩ => hc pins s1 σ H1 vs us Q I1 r1 q1) he hpl
end
end L2
namespace HT
open PySem PyProof.Rows
section
variable {prog : Program} {w : World} {A : Around} {E : Value → Shared → Prop} {s : Shared}
def sIx (n d : Nat) : Option Int → Nat
  | none => d
  | some v => if v < 0 then (v + (n : Int)).toNat else min v.toNat n
theorem sIx_none (n d : Nat) : sIx n d none = d := rfl
theorem sIx_nat (n d k : Nat) : sIx n d (some (k : Int)) = min k n := by
  show (if (k : Int) < 0 then ((k : Int) + (n : Int)).toNat else min (k : Int).toNat n) = min k n
  rw [if_neg (by omega), Int.toNat_natCast]
end
end HT
namespace L2
open PySem PySem.Spec PyProof.Rows
abbrev TO := St → Hp → (Option Int → Hp → Prop) → Prop
def PO (X : Cx) (e : Option Expr) (t : TO) : Prop :=
  ∀ (pins : List (Addr × Obj)) (s : Shared) (σ : St) (H : Hp) (Q : Option Int → Hp → Prop), Inv X pins σ H s → t σ H Q →
    wpAny (model X.prog X.w) X.A (evalPart e X.env) (fun u s' => ∃ o H', Inv X pins σ H' s' ∧ IsPart u o ∧ Q o H') X.xe s
def tNoPart : TO := fun _ H Q => Q none H
def tPart (t : TE) : TO := fun σ H Q => t σ H fun x H1 => ∃ i, x = .int i ∧ Q (some i) H1
section
variable {X : Cx} {e : Expr} {te : TE} {lo hi : Option Expr} {tl th : TO} {pos p2 : Pos}
theorem po_none : PO X none tNoPart := by
  intro pins s σ H Q I h
  rw [evalPart_none]
  exact wpAny_pure ⟨none, H, I, .none, h⟩
theorem po_some (h : PE X e te) : PO X (some e) (tPart te) := by
  intro pins s σ H Q I hw
  rw [evalPart_some]
  refine thn (h pins s σ H _ I hw) fun u s1 ⟨x, H1, I1, r1, q1⟩ => ?_
  obtain ⟨i, rfl, q⟩ := q1
  obtain ⟨t, rfl⟩ := r1
  exact ⟨some i, H1, I1, .int i t, q⟩
def SlR (X : Cx) (r : V → Option Int → Option Int → Hp → VK → Prop) : Prop :=
  ∀ (pins : List (Addr × Obj)) (s : Shared) (σ : St) (H : Hp) (x : V) (v vl vu : Value) (lo hi : Option Int) (sl : Addr) (Q : VK), Inv X pins σ H s → RelV x v → s.heap.IsSliceOf sl vl vu .none → IsPart vl lo → IsPart vu hi → r x lo hi H Q →
    ∃ T id, typeLookup (.type T) "__getitem__" = pure (some (.builtin id)) ∧ s.TypeIs v T ∧ wpAny (model X.prog X.w) X.A (getItem v (.ref sl)) (EP X pins σ Q) X.xe s
def tSl (r : V → Option Int → Option Int → Hp → VK → Prop) (te : TE) (tl th : TO) : TE := fun σ H Q => te σ H fun x H1 => tl σ H1 fun l H2 => th σ H2 fun u H3 => r x l u H3 Q
theorem pe_slice {r : V → Option Int → Option Int → Hp → VK → Prop} (hr : SlR X r) (he : PE X e te) (hl : PO X lo tl) (hu : PO X hi th) : PE X (.Subscript e (.Slice lo hi none p2) pos) (tSl r te tl th) := by
  intro pins s σ H Q I h
  refine Subscript_ (thn (he pins s σ H _ I h) fun v s1 ⟨x, H1, I1, r1, q1⟩ => ?_)
  refine wpAny_Slice (thn (hl pins s1 σ H1 _ I1 q1) fun vl s2 ⟨l, H2, I2, pl, q2⟩ => thn (hu pins s2 σ H2 _ I2 q2) fun vu s3 ⟨u, H3, I3, pu, q3⟩ => ?_)
  rw [evalPart_none]
  refine wpAny_pure ?_
  have I4 : Inv X pins σ H3 { s3 with heap := s3.heap.push { cls := .type "slice", data := .fields #[vl, vu, .none] } } := I3.kept (t' := s3.toks) fun b ob q => Heap.get?_push_of_some _ q
  obtain ⟨T, id, hT, ht, hg⟩ := hr pins { s3 with heap := s3.heap.push { cls := .type "slice", data := .fields #[vl, vu, .none] } } σ H3 x v vl vu l u s3.heap.objs.size Q I4 r1 (Heap.IsSliceOf.new ..) pl pu q3
  show wpAny (model X.prog X.w) X.A (subscriptTail e (.Slice lo hi none p2) v (.ref s3.heap.objs.size)) (EP X pins σ Q) X.xe { s3 with heap := s3.heap.push { cls := .type "slice", data := .fields #[vl, vu, .none] } }
  exact tail_any (ops := [.ref s3.heap.objs.size, v]) ht hT hg (by with_unfolding_all rfl)
def cutV (xs : List V) (lo hi : Option Int) : List V := (xs.drop (HT.sIx xs.length 0 lo)).take (HT.sIx xs.length xs.length hi - HT.sIx xs.length 0 lo)
theorem cutV_length (xs : List V) (lo hi : Option Int) : (cutV xs lo hi).length ≤ xs.length := by
  unfold cutV
  rw [List.length_take, List.length_drop]
  omega
end
end L2
namespace L2
open PySem PySem.Spec PyProof.Rows
def ixN (n : Nat) (i : Int) : Option Nat := if 0 ≤ i then (if i < n then some i.toNat else none) else if -(n : Int) ≤ i then some (i + n).toNat else none
def atI {α : Type} (xs : List α) (i : Int) : Option α := (ixN xs.length i).bind fun j => xs[j]?
theorem ixN_seq {n : Nat} {i : Int} {j : Nat} (h : ixN n i = some j) : seqIndex? i n = some j ∧ j < n ∧ -(n : Int) ≤ i ∧ i < n := by
  unfold ixN at h
  by_cases h0 : 0 ≤ i
  · rw [if_pos h0] at h
    by_cases h1 : i < n
    · rw [if_pos h1] at h
      have e : i.toNat = j := Option.some.inj h
      exact ⟨by rw [seqIndex_of h0 h1, e], by omega, by omega, h1⟩
    · rw [if_neg h1] at h; cases h
  · rw [if_neg h0] at h
    by_cases h1 : -(n : Int) ≤ i
    · rw [if_pos h1] at h
      have e : (i + n).toNat = j := Option.some.inj h
      exact ⟨by rw [seqIndex_neg (by omega) h1, e], by omega, h1, by omega⟩
    · rw [if_neg h1] at h; cases h
theorem atI_get {α : Type} {xs : List α} {i : Int} {v : α} (h : atI xs i = some v) : ∃ j, seqIndex? i xs.length = some j ∧ xs[j]? = some v ∧ j < xs.length ∧ -(xs.length : Int) ≤ i ∧ i < xs.length := by
  unfold atI at h
  cases e : ixN xs.length i with
  | none => rw [e] at h; cases h
  | some j =>
    rw [e] at h
    obtain ⟨h1, h2, h3, h4⟩ := ixN_seq e
    exact ⟨j, h1, h, h2, h3, h4⟩
theorem atI_nat {α : Type} {xs : List α} {j : Nat} {v : α} (h : xs[j]? = some v) : atI xs (j : Int) = some v := by
  have hj : j < xs.length := (List.getElem?_eq_some_iff.mp h).1
  have e : ixN xs.length (j : Int) = some j := by
    unfold ixN
    rw [if_pos (by omega), if_pos (by omega)]; simp
  unfold atI; rw [e]; exact h
def PlainIx (b : Expr) : Prop := ∀ o i, subscripted b false o i = operate [o, i] (getItem o i)
def IxR (X : Cx) (r : R2) : Prop :=
  ∀ (value slice : Expr) (pins : List (Addr × Obj)) (s : Shared) (σ : St) (H : Hp) (x y : V) (v u : Value) (Q : VK), Inv X pins σ H s → RelV x v → RelV y u → r x y H Q →
    subscripted slice false v u = operate [v, u] (getItem v u) → wpAny (model X.prog X.w) X.A (subscriptTail value slice v u) (EP X pins σ Q) X.xe s
def MtR (X : Cx) (id : String) (r : V → List V → Hp → VK → Prop) : Prop :=
  ∀ (pins : List (Addr × Obj)) (s : Shared) (σ : St) (H : Hp) (x : V) (xs : List V) (v : Value) (us : List Value) (Q : VK), Inv X pins σ H s → RelV x v → Vals xs us → r x xs H Q →
    wpAny (model X.prog X.w) X.A (call (.builtin id) (v :: us)) (EP X pins σ Q) X.xe s
section
variable {X : Cx} {a b : Expr} {ta tb : TE} {pos : Pos}
theorem IxR.or {r r' : R2} (h : IxR X r) (h' : IxR X r') : IxR X (fun x y H Q => r x y H Q ∨ r' x y H Q) := by
  intro value slice pins s σ H x y v u Q I rx ry q hs
  rcases q with q | q
  · exact h value slice pins s σ H x y v u Q I rx ry q hs
  · exact h' value slice pins s σ H x y v u Q I rx ry q hs
theorem pe_ix {r : R2} (hr : IxR X r) (ha : PE X a ta) (hb : PE X b tb) (hs : PlainIx b) : PE X (.Subscript a b pos) (tOp r ta tb) := by
  intro pins s σ H Q I h
  exact Subscript_ (binT ha hb I h fun v u s2 x y H2 I2 rx ry q => hr a b pins s2 σ H2 x y v u Q I2 rx ry q (hs _ _))
def rIxL (K : PySem.W.Frag) : R2 := fun x y H Q => ∃ p xs i v, x = .ref p ∧ y = .int i ∧ SqL K H p xs ∧ atI xs i = some v ∧ Q v H
def rIxT (K : PySem.W.Frag) : R2 := fun x y H Q => ∃ p xs i v, x = .ref p ∧ y = .int i ∧ SqT K H p xs ∧ atI xs i = some v ∧ Q v H
theorem ix_list : IxR X (rIxL X.K) := by
  intro value slice pins s σ H x y v u Q I rx ry h hs
  obtain ⟨p, xs, i, z, rfl, rfl, hq, he, q⟩ := h
  cases rx
  obtain ⟨t, rfl⟩ := ry
  obtain ⟨its, r, pl, hz⟩ := I.list hq
  obtain ⟨j, h1, h2, h3, h4, h5⟩ := atI_get he
  obtain ⟨w, ew, rw'⟩ := r.get h2
  have hl := r.length
  have hn := line63
  have fin : EP X pins σ Q w s := ⟨z, H, I, rw', q⟩
  by_cases h0 : 0 ≤ i
  · have hj : i.toNat = j := by
      rw [seqIndex_of h0 h5] at h1
      exact Option.some.inj h1
    exact item_listR pl.isList h0 (by omega) (by rw [hj]; simpa using ew) fin hs
  · have hj : (i + (its.toArray.size : Int)).toNat = j := by
      rw [seqIndex_neg (by omega) h4] at h1
      rw [List.size_toArray, ← hl]
      exact Option.some.inj h1
    exact subscriptTail_builtinR (x := w) pl.isList.typeIs slot_list_getitem.lookup
      (wpAny_getItem_list_neg (Q := fun r s' => r = w ∧ EP X pins σ Q r s') pl.isList (by omega) (by rw [List.size_toArray] <;> omega) (by omega) (by rw [hj]; simpa using ew) ⟨rfl, fin⟩) hs
theorem ix_tup : IxR X (rIxT X.K) := by
  intro value slice pins s σ H x y v u Q I rx ry h hs
  obtain ⟨p, xs, i, z, rfl, rfl, hq, he, q⟩ := h
  cases rx
  obtain ⟨t, rfl⟩ := ry
  obtain ⟨its, r, pl, hz⟩ := I.tuple hq
  obtain ⟨j, h1, h2, h3, h4, h5⟩ := atI_get he
  obtain ⟨w, ew, rw'⟩ := r.get h2
  have hl := r.length
  have hn := line63
  have fin : EP X pins σ Q w s := ⟨z, H, I, rw', q⟩
  exact subscriptTail_builtinR (x := w) pl.typeIs slot_tuple_getitem.lookup
    (getItem_tuple (j := j) (Q := fun r s' => r = w ∧ EP X pins σ Q r s') pl (by omega) (by omega) (by rw [List.size_toArray, ← hl]; exact h1) (by simpa using ew) ⟨rfl, fin⟩) hs
theorem mapSeq_set (its : List Value) (n j : Nat) (u : Value) : Obj.mapSeq (·.setIfInBounds j u) { cls := .type "list", data := .seq its.toArray n } = { cls := .type "list", data := .seq (its.set j u).toArray n } := by
  simp [Obj.mapSeq]
theorem Inv.lst {pins : List (Addr × Obj)} {σ : St} {H : Hp} {s : Shared} {p : Addr} {xs : List V} (I : Inv X pins σ H s) (h : H p = some (.lst xs)) :
    ∃ (its : List Value) (n : Nat), Vals xs its ∧ s.heap.get? p = some { cls := .type "list", data := .seq its.toArray n } ∧ xs.length ≤ sizeLine := by
  obtain ⟨z, its, n, r, e⟩ := I.hok p _ h
  exact ⟨its, n, r, e, z⟩
theorem Inv.lstUpd {pins : List (Addr × Obj)} {σ : St} {H : Hp} {s : Shared} {p : Addr} {xs ys : List V} {its its' : List Value} {n n' : Nat} {f : Obj → Obj} (I : Inv X pins σ H s) (h : H p = some (.lst xs))
    (ho : s.heap.get? p = some { cls := .type "list", data := .seq its.toArray n }) (hf : f { cls := .type "list", data := .seq its.toArray n } = { cls := .type "list", data := .seq its'.toArray n' }) (r : Vals ys its') (hz : ys.length ≤ sizeLine) (t : Nat) :
    Inv X pins σ (upd H p (.lst ys)) { s with heap := s.heap.update p f, toks := t } := by
  have e : (s.heap.update p f).get? p = some { cls := .type "list", data := .seq its'.toArray n' } := by
    rw [Heap.get?_update_self f ho (by rw [hf] <;> rfl), hf]
  refine I.write (x := p) (e := p) (by rw [h]; trivial) (.inl rfl) (fun b u hb q => (Heap.get?_update_other _ _ (Ne.symm hb)).trans q) ⟨_, e⟩ ?_
  exact ⟨hz, its', n', r, e⟩
def rSetL : V → V → V → Hp → (Hp → Prop) → Prop := fun o i v H Q => ∃ p xs k j, o = .ref p ∧ i = .int k ∧ H p = some (.lst xs) ∧ ixN xs.length k = some j ∧ Q (upd H p (.lst (xs.set j v)))
theorem set_list : PSet X rSetL := by
  intro pins s σ H o i v ov iv u Q I ro ri rv h
  obtain ⟨p, xs, k, j, rfl, rfl, hp, hj, q⟩ := h
  cases ro
  obtain ⟨t, rfl⟩ := ri
  obtain ⟨its, n, r, ho, hz⟩ := I.lst hp
  obtain ⟨h1, h2, h3, h4⟩ := ixN_seq hj
  have hl := r.length
  have hn := line63
  have I' : Inv X pins σ (upd H p (.lst (xs.set j v))) { s with heap := s.heap.update p (Obj.mapSeq (·.setIfInBounds j u)) } :=
    I.lstUpd hp ho (mapSeq_set its n j u) (r.set rv j) (by rw [List.length_set]; exact hz) s.toks
  by_cases h0 : 0 ≤ k
  · have hk : k.toNat = j := by
      rw [seqIndex_of h0 h4] at h1
      exact Option.some.inj h1
    exact PySem.W.ki_setAt ho h0 (by omega) (by rw [List.size_toArray, ← hl]; exact h4) (by rw [hk]; exact ⟨_, I', q⟩)
  · have hk : (k + (its.toArray.size : Int)).toNat = j := by
      rw [seqIndex_neg (by omega) h3] at h1
      rw [List.size_toArray, ← hl]
      exact Option.some.inj h1
    exact PySem.W.ki_setBack ho (by omega) (by rw [List.size_toArray, ← hl]; exact h3) (by omega) (by rw [hk]; exact ⟨_, I', q⟩)
theorem slice_bounds (lo hi : Option Int) (n : Nat) : (sliceBounds lo hi none n).1 = ((HT.sIx n 0 lo : Nat) : Int) ∧ (sliceBounds lo hi none n).2.1 = ((HT.sIx n n hi : Nat) : Int) ∧ (sliceBounds lo hi none n).2.2 = 1 := by
  refine ⟨?_, ?_, rfl⟩
  · cases lo with
    | none => simp [sliceBounds, HT.sIx]
    | some i =>
      simp only [sliceBounds, HT.sIx, Option.getD_none, show (1 : Int) > 0 by decide, if_true]
      by_cases h : i < 0
      · simp only [h, if_true] <;> omega
      · simp only [h, if_false] <;> omega
  · cases hi with
    | none => simp [sliceBounds, HT.sIx]
    | some i =>
      simp only [sliceBounds, HT.sIx, Option.getD_none, show (1 : Int) > 0 by decide, if_true]
      by_cases h : i < 0
      · simp only [h, if_true] <;> omega
      · simp only [h, if_false] <;> omega
theorem slicePick_cut (its : List Value) (lo hi : Option Int) : slicePick its.toArray lo hi none = ((its.drop (HT.sIx its.length 0 lo)).take (HT.sIx its.length its.length hi - HT.sIx its.length 0 lo)).toArray := by
  obtain ⟨h1, h2, h3⟩ := slice_bounds lo hi its.toArray.size
  unfold slicePick
  rw [h1, h2, h3]
  simp only [sliceRange_one, pick_run, List.size_toArray] <;> rfl
def rSlL (K : PySem.W.Frag) : V → Option Int → Option Int → Hp → VK → Prop := fun x lo hi H Q => ∃ a xs, x = .ref a ∧ SqL K H a xs ∧ ∀ p, H p = none → Q (.ref p) (upd H p (.lst (cutV xs lo hi)))
theorem sl_list : SlR X (rSlL X.K) := by
  intro pins s σ H x v vl vu lo hi sl Q I rx hs pl pu h
  obtain ⟨a, xs, rfl, hx, q⟩ := h
  cases rx
  obtain ⟨its, r, ht, hz⟩ := I.list hx
  have hlen := r.length
  refine ⟨"list", _, slot_list_getitem.lookup, ht.isList.typeIs, ?_⟩
  refine wpAny_getItem_list_slice ht.isList hs pl pu .none (by simp) ?_ (by rw [List.size_toArray] <;> omega)
  rw [slicePick_cut, ← hlen]
  refine ⟨.ref s.heap.objs.size, _, I.laid (t' := s.toks) (o := .lst (cutV xs lo hi)) (fun b ob q => Heap.get?_push_of_some _ q) (Nat.le_refl _) ?_, rfl, q _ (I.hok.fresh (Nat.le_refl _))⟩
  exact ⟨Nat.le_trans (cutV_length xs lo hi) hz, _, 0, (r.drop (HT.sIx xs.length 0 lo)).take (HT.sIx xs.length xs.length hi - HT.sIx xs.length 0 lo), Heap.get?_push_size _ rfl⟩
theorem call_len_seq : CallR X (.builtin "len") (fun xs H Q => ∃ p ys, xs = [.ref p] ∧ (SqL X.K H p ys ∨ SqT X.K H p ys) ∧ Q (.int ys.length) H) := by
  intro pins s σ H xs us Q I r h
  obtain ⟨p, ys, rfl, hq, q⟩ := h
  obtain ⟨u, rfl, rx⟩ := vals1 r
  cases rx
  have hn := line63
  rcases hq with hq | hq
  · obtain ⟨its, r', pl, hz⟩ := I.list hq
    have hlen := r'.length
    exact Calls.call_len_list pl.isList (by simp only [List.size_toArray] <;> omega) ⟨.int ys.length, H, I.tok _, ⟨s.toks + 1, by rw [List.size_toArray, hlen]⟩, q⟩
  · obtain ⟨its, r', pl, hz⟩ := I.tuple hq
    have hlen := r'.length
    exact len_tuple pl (by simp only [List.size_toArray] <;> omega) ⟨.int ys.length, H, I.tok _, ⟨s.toks + 1, by rw [List.size_toArray, hlen]⟩, q⟩
def tyV (K : PySem.W.Frag) (T : String) (x : V) (H : Hp) : Prop := match x with
  | .str _ => T = "str"
  | .int _ => T = "int"
  | .ref p => (T = "list" ∧ ∃ xs, SqL K H p xs) ∨ (T = "tuple" ∧ ∃ o, K.lookup p = some o ∧ o.cls = .type "tuple" ∧ o.dict = none) ∨
      (T = "dict" ∧ ((∃ kvs, H p = some (.dK kvs)) ∨ ∃ kvs, H p = some (.dT kvs))) ∨ (T = "set" ∧ ∃ S n, H p = some (.set S n))
  | _ => False
theorem tyV_is {pins : List (Addr × Obj)} {σ : St} {H : Hp} {s : Shared} {T : String} {x : V} {v : Value} (I : Inv X pins σ H s) (r : RelV x v) (ty : tyV X.K T x H) :
    s.TypeIs v T ∧ ∀ a, v = .ref a → ∃ ob, s.heap.get? a = some ob ∧ ob.dict = none := by
  cases x with
  | str z =>
    obtain ⟨t, rfl⟩ := r
    cases (show T = "str" from ty)
    exact ⟨typeIs_str s z t, fun _ e => nomatch e⟩
  | int i =>
    obtain ⟨t, rfl⟩ := r
    cases (show T = "int" from ty)
    exact ⟨typeIs_int s i t, fun _ e => nomatch e⟩
  | ref p =>
    cases r
    rcases ty with ⟨rfl, xs, hq⟩ | ⟨rfl, o, hk, hc, hd⟩ | ⟨rfl, hk⟩ | ⟨rfl, S, n, hk⟩
    · obtain ⟨its, _, pl, _⟩ := I.list hq
      refine ⟨pl.isList.typeIs, fun a e => ?_⟩
      cases e
      obtain ⟨o, n, e, c, hd, _⟩ := pl
      exact ⟨o, e, hd⟩
    · refine ⟨⟨o, I.kIn p o hk, hc⟩, fun a e => ?_⟩
      cases e
      exact ⟨o, I.kIn _ o hk, hd⟩
    · have z : ∃ o, s.heap.get? p = some o ∧ o.ExactDict := by
        rcases hk with ⟨kvs, hk⟩ | ⟨kvs, hk⟩
        · obtain ⟨_, _, _, _, o, _, _, e, ex, _⟩ := I.hok p _ hk
          exact ⟨o, e, ex⟩
        · obtain ⟨_, _, _, _, o, _, _, e, ex, _⟩ := I.hok p _ hk
          exact ⟨o, e, ex⟩
      obtain ⟨o, e, ex⟩ := z
      refine ⟨⟨o, e, ex.1⟩, fun a e2 => ?_⟩
      cases e2
      exact ⟨o, e, ex.2.1⟩
    · obtain ⟨o, _, _, _, e, ex, _⟩ := I.hok p _ hk
      refine ⟨⟨o, e, ex.1⟩, fun a e2 => ?_⟩
      cases e2
      exact ⟨o, e, ex.2.1⟩
  | _ => exact False.elim ty
def tBM0 (K : PySem.W.Frag) (T : String) (r : V → List V → Hp → VK → Prop) (to : TE) : TE := fun σ H Q => to σ H fun x H1 => tyV K T x H1 ∧ r x [] H1 Q
def tBM (K : PySem.W.Frag) (T : String) (r : V → List V → Hp → VK → Prop) (to : TE) (t : TA) : TE := fun σ H Q => to σ H fun x H1 => tyV K T x H1 ∧ t σ H1 fun xs H2 => r x xs H2 Q
variable {o e : Expr} {es : List Expr} {to : TE} {t : TA} {name : Str} {apos cpos : Pos} {T id : String} {r : V → List V → Hp → VK → Prop}
theorem pe_bm0 (pa : PlainAttrs T) (slot : Slot T name id) (hty : typeOf (.builtin id) = pure (.type "method_descriptor")) (hm : MtR X id r) (ho : PE X o to)
    (hbase : attributeBase o name X.env (eval o X.env) = eval o X.env := by rfl) (hline : (apos.endLine == cpos.line) = true := by rfl) : PE X (.Call (.Attribute o name apos) [] [] cpos) (tBM0 X.K T r to) := by
  intro pins s σ H Q I h
  refine wpAny_Call_method0_late hbase hline (thn (ho pins s σ H _ I h) fun v s1 ⟨x, H1, I1, r1, ty, q1⟩ => ?_)
  obtain ⟨h1, h2⟩ := tyV_is I1 r1 ty
  exact ⟨T, id, pa, slot, hty, h1, h2, Calls.callWith_builtin rfl (PySem.evalArgs_none (hm pins s1 σ H1 x [] v [] Q I1 r1 .nil q1))⟩
theorem pe_bm (pa : PlainAttrs T) (slot : Slot T name id) (hty : typeOf (.builtin id) = pure (.type "method_descriptor")) (hm : MtR X id r) (ho : PE X o to) (ha : PA X (e :: es) t)
    (hbase : attributeBase o name X.env (eval o X.env) = eval o X.env := by rfl)
    (hfew : ((backTo cpos (starEach (e :: es) X.env)).all (fun x => !x.1) && (backToKw cpos (keywordEach [] X.env)).all (fun x => x.1.isSome)
      && decide ((e :: es).length + ([] : List Keyword).length + (if ([] : List Keyword).isEmpty then 0 else 1) < 30)) = true := by rfl)
    (hline : (apos.endLine == cpos.line) = true := by rfl) (hs : starEach (e :: es) X.env = (false, eval e X.env) :: starEach es X.env := by rfl) (hplain : (backTo cpos (starEach es X.env)).any (·.1) = false := by rfl) :
    PE X (.Call (.Attribute o name apos) (e :: es) [] cpos) (tBM X.K T r to t) := by
  intro pins s σ H Q I h
  refine wpAny_Call_method_late hbase hfew hline rfl (thn (ho pins s σ H _ I h) fun v s1 ⟨x, H1, I1, r1, ty, q1⟩ => ?_)
  obtain ⟨h1, h2⟩ := tyV_is I1 r1 ty
  refine ⟨T, id, pa, slot, hty, h1, h2, ?_⟩
  have hA := ha cpos pins s1 σ H1 _ I1 q1
  rw [hs] at hA ⊢
  refine Calls.callWith_builtin (by show (false || (backTo cpos (starEach es X.env)).any (·.1)) = false; rw [hplain] <;> rfl) (Calls.evalArgs_plain ?_)
  exact thn hA fun us s2 ⟨vs, H2, I2, r2, q2⟩ => hm pins s2 σ H2 x vs v us Q I2 r1 r2 q2
/- xs.append(e), list.index on a module's tuple .. are MtR facts of 06m -/
end
end L2
namespace L2
open PySem PySem.Spec PyProof.Rows
def MtM (X : Cx) (id : String) (r : V → List V → Hp → VK → Prop) : Prop :=
  ∀ (pins : List (Addr × Obj)) (s : Shared) (σ : St) (H : Hp) (x : V) (xs : List V) (v : Value) (us : List Value) (Q : VK), Inv X pins σ H s → RelV x v → Vals xs us → r x xs H Q →
    wpAny (model X.prog X.w) X.A (call (.builtin id) (v :: us)) (EP X pins σ Q) X.xe s
theorem Vals.one : ∀ {x : V} {us : List Value}, Vals [x] us → ∃ u, us = [u] ∧ RelV x u
  | _, _, .cons r .nil => ⟨_, rfl, r⟩
theorem Vals.rep {xs : List V} {us : List Value} (h : Vals xs us) : ∀ k : Nat, Vals (List.replicate k xs).flatten (List.replicate k us).flatten
  | 0 => .nil
  | k + 1 => by
    rw [List.replicate_succ, List.replicate_succ, List.flatten_cons, List.flatten_cons]
    exact Vals.append h (Vals.rep h k)
theorem foldl_rep (its : List Value) : ∀ (k : Nat) (acc : List Value),
    List.foldl (fun x1 x2 => x1 ++ x2) acc.toArray (List.replicate k its.toArray) = (acc ++ (List.replicate k its).flatten).toArray
  | 0, acc => by simp
  | k + 1, acc => by
    have e : acc.toArray ++ its.toArray = (acc ++ its).toArray := by simp
    have e2 : (acc ++ its) ++ (List.replicate k its).flatten = acc ++ (List.replicate (k + 1) its).flatten := by
      rw [List.replicate_succ, List.flatten_cons, List.append_assoc]
    rw [← e2, ← foldl_rep its k (acc ++ its), ← e, List.replicate_succ, List.foldl_cons]
section
variable {X : Cx} {pins : List (Addr × Obj)} {σ : St} {H : Hp} {s : Shared} {l b : Addr} {xs ys zs : List V}
theorem Inv.lset {its its' : List Value} {n : Nat} {f : Array Value → Array Value} {t' : Nat} (I : Inv X pins σ H s) (hH : H l = some (.lst xs))
    (e : s.heap.get? l = some { cls := .type "list", data := .seq its.toArray n }) (hf : f its.toArray = its'.toArray) (hv : Vals ys its') (hz : ys.length ≤ sizeLine) :
    Inv X pins σ (upd H l (.lst ys)) { s with heap := s.heap.update l (Obj.mapSeq f), toks := t' } := by
  have q := PySem.IsL.update e f
  rw [hf] at q
  refine I.write (x := l) (e := l) (by rw [hH]; exact trivial) (.inl rfl) (fun b' u hb hu => (Heap.get?_update_other s.heap (Obj.mapSeq f) (Ne.symm hb)).trans hu) ⟨_, q⟩ ?_
  exact ⟨hz, its', _, hv, q⟩
theorem Inv.lnew {its : List Value} {t' : Nat} (I : Inv X pins σ H s) (hv : Vals ys its) (hz : ys.length ≤ sizeLine) :
    Inv X pins σ (upd H s.heap.objs.size (.lst ys)) { s with heap := s.heap.push { cls := .type "list", data := .seq its.toArray }, toks := t' } :=
  I.laid (fun _ _ q => Heap.get?_push_of_some _ q) (Nat.le_refl _) ⟨hz, its, 0, hv, Heap.get?_push_size _ rfl⟩
theorem Inv.fresh (I : Inv X pins σ H s) : H s.heap.objs.size = none := I.hok.fresh (Nat.le_refl _)
theorem Inv.lstM (I : Inv X pins σ H s) (hH : H l = some (.lst xs)) : xs.length ≤ sizeLine ∧ ∃ (its : List Value) (n : Nat), Vals xs its ∧ xs.length = its.length ∧ s.heap.get? l = some { cls := .type "list", data := .seq its.toArray n } := by
  obtain ⟨z, its, n, r, e⟩ := I.hok l _ hH
  exact ⟨z, its, n, r, r.length, e⟩
theorem notLongL {n : Nat} (h : n ≤ sizeLine) : Builtin.List.listTooLong n = false := by
  unfold Builtin.List.listTooLong
  exact decide_eq_false (by omega)
end
section
variable {X : Cx}
def rAppend : V → List V → Hp → VK → Prop := fun x vs H Q => ∃ l xs y, x = .ref l ∧ vs = [y] ∧ H l = some (.lst xs) ∧ xs.length < sizeLine ∧ Q .non (upd H l (.lst (xs ++ [y])))
theorem mt_append : MtM X "list.append" rAppend := by
  intro pins s σ H x vs v us Q I rx rv h
  obtain ⟨l, xs, y, rfl, rfl, hH, hz, q⟩ := h
  cases rx
  obtain ⟨u, rfl, ru⟩ := rv.one
  obtain ⟨z, its, n, r, hl, e⟩ := I.lstM hH
  refine call_meets F.slot_list_append ⟨_, e, rfl⟩ F.entry_list_append (F.args_list_append_2 _ _) (PySem.list_append l its.toArray n u (by rw [List.size_toArray]; omega)) ⟨e, ?_⟩
  refine ⟨.non, _, I.lset (its' := its ++ [u]) hH e (by simp) (r.append (.cons ru .nil)) ?_, rfl, q⟩
  rw [List.length_append, List.length_singleton]
  omega
def rExtend : V → List V → Hp → VK → Prop := fun x vs H Q => ∃ l b xs zs, x = .ref l ∧ vs = [.ref b] ∧ H l = some (.lst xs) ∧ H b = some (.lst zs) ∧ xs.length + zs.length ≤ sizeLine ∧ Q .non (upd H l (.lst (xs ++ zs)))
theorem mt_extend : MtM X "list.extend" rExtend := by
  intro pins s σ H x vs v us Q I rx rv h
  obtain ⟨l, b, xs, zs, rfl, rfl, hH, hB, hz, q⟩ := h
  cases rx
  obtain ⟨u, rfl, ru⟩ := rv.one
  cases ru
  obtain ⟨z, its, n, r, hl, e⟩ := I.lstM hH
  obtain ⟨z2, its2, n2, r2, hl2, e2⟩ := I.lstM hB
  have hsz : its.toArray.size + its2.toArray.size ≤ sizeLine := by rw [List.size_toArray, List.size_toArray]; omega
  have hlong : ¬ (!its.toArray.isEmpty && Builtin.List.listTooLong (its.toArray.size + its2.toArray.size)) = true := by
    rw [notLongL hsz, Bool.and_false]
    exact Bool.false_ne_true
  refine call_meets F.slot_list_extend ⟨_, e, rfl⟩ F.entry_list_extend (F.args_list_extend_2 _ _)
    (AutoSeq1.list_extend_list_list_0 l its.toArray n b its2.toArray n2 hlong (by rw [List.size_toArray]; omega) (by omega)) ⟨e, e2, ?_⟩
  refine ⟨.non, _, I.lset (its' := its ++ its2) hH e (by simp) (r.append r2) ?_, rfl, q⟩
  rw [List.length_append]
  omega
def rCat : R2 := fun x y H Q => ∃ l b xs zs, x = .ref l ∧ y = .ref b ∧ H l = some (.lst xs) ∧ H b = some (.lst zs) ∧ xs.length + zs.length ≤ sizeLine ∧ ∀ p, H p = none → Q (.ref p) (upd H p (.lst (xs ++ zs)))
theorem op_cat : OpR X (binaryOp .Add) rCat := by
  intro pins s σ H x y v u Q I rx ry h
  obtain ⟨l, b, xs, zs, rfl, rfl, hH, hB, hz, q⟩ := h
  cases rx
  cases ry
  obtain ⟨z, its, n, r, hl, e⟩ := I.lstM hH
  obtain ⟨z2, its2, n2, r2, hl2, e2⟩ := I.lstM hB
  refine PySem.P.add_list e e2 ?_ (by rw [List.size_toArray, List.size_toArray]; omega)
  have ea : its.toArray ++ its2.toArray = (its ++ its2).toArray := by simp
  rw [ea]
  exact ⟨.ref _, _, I.lnew (t' := s.toks) (r.append r2) (by rw [List.length_append]; omega), rfl, q _ I.fresh⟩
def rRep : R2 := fun x y H Q => ∃ l k xs, x = .ref l ∧ y = .int k ∧ H l = some (.lst xs) ∧ -(2 ^ 63) ≤ k ∧ k < 2 ^ 63 ∧ xs.length * k.toNat ≤ sizeLine ∧
  ∀ p, H p = none → Q (.ref p) (upd H p (.lst (List.replicate k.toNat xs).flatten))
theorem len_rep {α : Type} (xs : List α) (k : Nat) : (List.replicate k xs).flatten.length = k * xs.length := by
  induction k with
  | zero => simp
  | succ k ih => rw [List.replicate_succ, List.flatten_cons, List.length_append, ih, Nat.succ_mul, Nat.add_comm]
theorem op_rep : OpR X (binaryOp .Mult) rRep := by
  intro pins s σ H x y v u Q I rx ry h
  obtain ⟨l, k, xs, rfl, rfl, hH, h1, h2, hz, q⟩ := h
  cases rx
  obtain ⟨t, rfl⟩ := ry
  obtain ⟨z, its, n, r, hl, e⟩ := I.lstM hH
  have hlen : its.toArray.size * k.toNat ≤ sizeLine := by rw [List.size_toArray, ← hl]; exact hz
  have hcap : ¬ its.toArray.size * k.toNat > (2 ^ 63 - 1) / 8 := by
    have : (sizeLine : Nat) ≤ (2 ^ 63 - 1) / 8 := by decide
    omega
  have hfit : ¬ (!Builtin.List.listFitsIndex k) = true := by
    rw [fitsIndex_both h1 h2]
    exact Bool.false_ne_true
  have hlong : ¬ Builtin.List.listTooLong (its.toArray.size * k.toNat) = true := by
    rw [notLongL hlen]
    exact Bool.false_ne_true
  have hnew : List.foldl (fun x1 x2 => x1 ++ x2) #[] (List.replicate (if its.toArray.isEmpty = true then 0 else k.toNat) its.toArray) = (List.replicate k.toNat its).flatten.toArray := by
    have f0 : ∀ m : Nat, List.foldl (fun x1 x2 => x1 ++ x2) #[] (List.replicate m its.toArray) = (List.replicate m its).flatten.toArray := fun m => by
      have := foldl_rep its m []
      rw [List.nil_append] at this
      exact this
    rw [f0]
    cases its with
    | nil => simp
    | cons a r' => rw [if_neg (by simp)]
  refine wpAny_binaryOp_repeat_ref (T := "list") (U := "int") (by decide) ⟨_, e, rfl⟩ (fun s' => typeIs_int s' k t) noFill_list_mul F.fills_int_mul F.slot_int_rmul repeat_list F.slot_int_index.lookup
    (call_meets F.slot_int_rmul (typeIs_int s k t) F.entry_int_rmul (F.args_int_rmul_2 _ _) (int___rmul___int_list k t l its.toArray n)
      ⟨e, rfl, ⟨_, e, rfl⟩, call_meets F.slot_list_mul ⟨_, e, rfl⟩ F.entry_list_mul (F.args_list_mul_2 _ _) (AutoListH.list___mul___list_int_3 l its.toArray n k t hfit hcap hlong) ⟨e, ?_⟩⟩)
  rw [hnew]
  exact ⟨.ref _, _, I.lnew (t' := s.toks) (r.rep k.toNat) (by rw [len_rep, Nat.mul_comm]; exact hz), rfl, q _ I.fresh⟩
end
end L2
namespace L2
open PySem PySem.Spec PyProof.Rows
theorem Vals.ints : ∀ {ns : List Int} {us : List Value}, Vals (ns.map V.int) us → IntsAre us ns
  | [], us, h => by
    rw [List.map_nil] at h
    cases h
    exact IntsAre.nil
  | n :: ns, us, h => by
    rw [List.map_cons] at h
    cases h with
    | cons r t =>
      obtain ⟨k, rfl⟩ := r
      exact IntsAre.cons n k (Vals.ints t)
theorem Vals.bls : ∀ {bs : List Bool} {us : List Value}, Vals (bs.map V.bl) us → us = bs.map Value.bool
  | [], us, h => by
    rw [List.map_nil] at h
    cases h
    rfl
  | b :: bs, us, h => by
    rw [List.map_cons] at h
    cases h with
    | cons r t =>
      cases r
      rw [Vals.bls t, List.map_cons]
theorem Vals.ref1 {a : Addr} {us : List Value} (r : Vals [V.ref a] us) : us = [Value.ref a] := by
  cases r with
  | cons r t =>
    cases t
    cases r
    rfl
section
variable {prog : Program} {w : World} {A : Around} {E : Value → Shared → Prop} {s : Shared} {l : Addr} {its : List Value} {ns : List Int} {Q : Value → Shared → Prop}
theorem max_raw (hh : A.handled = none) (hl : s.heap.IsList l its.toArray) (hi : IntsAre its ns) (hne : 0 < ns.length)
    (h : ∀ h' tk M t', (∀ b o, s.heap.get? b = some o → h'.get? b = some o) → M ∈ ns → (∀ a, a ∈ ns → a ≤ M) → Q (.int M t') { s with heap := h', toks := tk }) : wpAny (model prog w) A (call (.builtin "max") [.ref l]) Q E s := by
  obtain ⟨xs, e⟩ := hi.allInts.items
  have hn : numsOf (intItems xs).toList = ns := by rw [← e]; exact hi.numsOf
  rw [nums_intItems] at hn
  subst hn
  rw [e] at hl
  have hsz : 0 < xs.size := by simpa using hne
  refine PySem.max_intList hh hl hsz fun v h' tk hv hk => ?_
  obtain ⟨t, rfl⟩ := intItems_at hv
  obtain ⟨h1, h2⟩ := argBest_gt (numAt xs) (xs.size - 1)
  refine h h' tk _ t hk ?_ fun a ha => ?_
  · rw [numAt_eq]; exact PySem.getD_mem (by rw [List.length_map, Array.length_toList]; omega)
  · obtain ⟨j, hj, rfl⟩ := mem_getD ha
    rw [List.length_map, Array.length_toList] at hj
    rw [← numAt_eq]; exact h2 j (by omega)
end
section
variable {X : Cx}
def rMax (K : PySem.W.Frag) : List V → Hp → VK → Prop := fun vs H Q => ∃ (a : Addr) (ns : List Int), vs = [V.ref a] ∧ SqL K H a (ns.map V.int) ∧ 0 < ns.length ∧ ∀ m, m ∈ ns → (∀ y, y ∈ ns → y ≤ m) → Q (.int m) H
theorem cr_max (hc : X.calm = true) : CallR X (.builtin "max") (rMax X.K) := by
  intro pins s σ H vs us Q I r h
  obtain ⟨a, ns, rfl, hs, hne, q⟩ := h
  obtain ⟨its, rv, hl, _⟩ := I.list hs
  rw [Vals.ref1 r]
  exact max_raw (I.ok.hd hc) hl.isList rv.ints hne fun h' tk m t' hk h1 h2 => ⟨.int _, H, I.kept hk, ⟨_, rfl⟩, q m h1 h2⟩
end
theorem iter_any {prog : Program} {w : World} {A : Around} {E : Value → Shared → Prop} {s : Shared} {l : Addr} {items : Array Value} {Q : Value → Shared → Prop} (hl : s.heap.IsList l items)
    (h : ∀ s₂ : Shared, s₂ = { s with heap := s.heap.push { cls := .type "list_iterator", data := .fields #[.ref l, .int 0 0] } } →
      (s₂.heap.IsListIter s.heap.objs.size l 0 ∧ s₂.heap.IsList l items) → l ≠ s.heap.objs.size → Q (.ref s.heap.objs.size) s₂) : wpAny (model prog w) A (pyIter (.ref l)) Q E s := by
  have hlt : l < s.heap.objs.size := by obtain ⟨_, e, _⟩ := hl; exact Heap.lt_size e
  exact wpAny_pyIter_list hl (h _ rfl ⟨⟨_, Heap.get?_push_size _ rfl, rfl, rfl⟩, hl.push _⟩ (Nat.ne_of_lt hlt))
theorem truth_bools {prog : Program} {w : World} {A : Around} {bs : List Bool} {its : List Value} (e : its = bs.map Value.bool) :
    TruthOf prog w A (fun i v => its.toArray[i]? = some v) (fun i => bs.getD i false) := fun i v s Q E hv hq => by
  have hv' : its[i]? = some v := by simpa using hv
  rw [e, List.getElem?_map] at hv'
  obtain ⟨b, hb, rfl⟩ := Option.map_eq_some_iff.mp hv'
  have hg : bs.getD i false = b := by rw [List.getD_eq_getElem?_getD, hb] <;> rfl
  have hq' : Q (bs.getD i false) s := hq
  rw [hg] at hq'
  exact wpAny_truthy_bool hq'
theorem any_range : ∀ bs : List Bool, (List.range bs.length).any (fun i => bs.getD i false) = bs.any id
  | [] => rfl
  | b :: bs => by
    rw [List.length_cons, List.range_succ_eq_map, List.any_cons, List.any_map, List.any_cons, ← any_range bs]
    all_goals rfl
theorem all_range : ∀ bs : List Bool, (List.range bs.length).all (fun i => bs.getD i false) = bs.all id
  | [] => rfl
  | b :: bs => by
    rw [List.length_cons, List.range_succ_eq_map, List.all_cons, List.all_map, List.all_cons, ← all_range bs]
    all_goals rfl
section
variable {X : Cx}
def rAny (K : PySem.W.Frag) : List V → Hp → VK → Prop := fun vs H Q => ∃ (a : Addr) (bs : List Bool), vs = [V.ref a] ∧ SqL K H a (bs.map V.bl) ∧ Q (.bl (bs.any id)) H
def rAll (K : PySem.W.Frag) : List V → Hp → VK → Prop := fun vs H Q => ∃ (a : Addr) (bs : List Bool), vs = [V.ref a] ∧ SqL K H a (bs.map V.bl) ∧ Q (.bl (bs.all id)) H
theorem cr_any (hc : X.calm = true) : CallR X (.builtin "any") (rAny X.K) := by
  intro pins s σ H vs us Q I r h
  obtain ⟨a, bs, rfl, hs, q⟩ := h
  obtain ⟨its, rv, hl, _⟩ := I.list hs
  rw [Vals.ref1 r]
  have hb := rv.bls
  refine call_any_walk (iter_any hl.isList fun s₂ e2 st hne => ?_)
  subst e2
  refine ⟨_, _, _, _, _, _, _, rfl, Walks.list (A := X.A.in1) (I.ok.hd hc) _ a hne its.toArray, st, truth_bools hb, fun h' tk hk => ?_⟩
  refine ⟨.bl _, H, I.kept fun b o eo => hk b o (fun hmem => ?_) (Heap.get?_push_of_some _ eo), ?_, q⟩
  · rcases List.mem_cons.mp hmem with e1 | hmem
    · exact absurd (e1 ▸ Heap.lt_size eo) (Nat.lt_irrefl _)
    · cases hmem
  · show Value.bool _ = Value.bool _
    rw [← any_range, hb, List.size_toArray, List.length_map]
theorem cr_all (hc : X.calm = true) : CallR X (.builtin "all") (rAll X.K) := by
  intro pins s σ H vs us Q I r h
  obtain ⟨a, bs, rfl, hs, q⟩ := h
  obtain ⟨its, rv, hl, _⟩ := I.list hs
  rw [Vals.ref1 r]
  have hb := rv.bls
  refine call_all_walk (iter_any hl.isList fun s₂ e2 st hne => ?_)
  subst e2
  refine ⟨_, _, _, _, _, _, _, rfl, Walks.list (A := X.A.in1) (I.ok.hd hc) _ a hne its.toArray, st, truth_bools hb, fun h' tk hk => ?_⟩
  refine ⟨.bl _, H, I.kept fun b o eo => hk b o (fun hmem => ?_) (Heap.get?_push_of_some _ eo), ?_, q⟩
  · rcases List.mem_cons.mp hmem with e1 | hmem
    · exact absurd (e1 ▸ Heap.lt_size eo) (Nat.lt_irrefl _)
    · cases hmem
  · show Value.bool _ = Value.bool _
    rw [← all_range, hb, List.size_toArray, List.length_map]
end
end L2
namespace L2
open PySem PySem.Spec PyProof.Rows
abbrev CellAt (h : Heap) (c : Addr) (v : Option Value) : Prop := h.IsCell c v
def relS (scope sc : Scope) : Scope :=
  { scope with names := scope.names.map fun (n, k) => if (k == .free && sc.kind == .function && sc.names.lookup n == some .cell) then (n, .cell) else (n, k) }
def cloFrom (cells : List (Str × Addr)) : List (Str × NameKind) → List (Str × Addr) → List (Str × Addr)
  | [], acc => acc
  | (n, k) :: r, acc => if k == .free then cloFrom cells r ((n, (cells.lookup n).getD 0) :: acc) else cloFrom cells r acc
theorem closure_loop (env : Env) (f : Str × NameKind → List (Str × Addr) → Sem (ForInStep (List (Str × Addr))))
    (hf : ∀ n k c, f (n, k) c = if k == .free then (do let a ← cellOf env n; pure (.yield ((n, a) :: c))) else pure (.yield c)) :
    ∀ (names : List (Str × NameKind)) (acc : List (Str × Addr)), (∀ y ∈ names, y.2 = .free → ∃ c, env.cells.lookup y.1 = some c) → forIn names acc f = pure (cloFrom env.cells names acc)
  | [], acc, _ => by rw [List.forIn_nil]; rfl
  | (n, k) :: r, acc, h => by
    rw [List.forIn_cons, hf]
    have ih := fun acc => closure_loop env f hf r acc fun y hy => h y (List.mem_cons_of_mem _ hy)
    unfold cloFrom
    by_cases hk : (k == NameKind.free) = true
    · rw [if_pos hk, if_pos hk]
      obtain ⟨c, hc⟩ := h (n, k) List.mem_cons_self (by simpa using hk)
      have e : cellOf env n = pure c := by unfold cellOf; rw [hc]
      rw [e]
      have e2 : (env.cells.lookup n).getD 0 = c := by rw [hc]; rfl
      rw [e2]
      exact ih _
    · rw [if_neg hk, if_neg hk]
      exact ih _
theorem closure_ok {scope : Scope} {env : Env} (h : ∀ y ∈ scope.names, y.2 = .free → ∃ c, env.cells.lookup y.1 = some c) : closureFor scope env = pure (cloFrom env.cells scope.names []) := by
  simp only [closureFor]
  rw [closure_loop env _ (fun n k c => rfl) scope.names [] h]
  rfl
theorem mem_lookup {α : Type} : ∀ {l : List (Str × α)} {n : Str} {c : α}, (n, c) ∈ l → ∃ c', l.lookup n = some c'
  | (k, v) :: r, n, c, h => by
    rw [List.lookup_cons]
    cases hb : n == k with
    | true => exact ⟨_, rfl⟩
    | false =>
      rcases List.mem_cons.mp h with e | h
      · cases e; simp at hb
      · exact mem_lookup h
theorem cloFrom_mem {cells : List (Str × Addr)} : ∀ {names : List (Str × NameKind)} {acc : List (Str × Addr)} {n : Str} {c : Addr}, (n, c) ∈ cloFrom cells names acc → (n, c) ∈ acc ∨ ((n, .free) ∈ names ∧ c = (cells.lookup n).getD 0)
  | [], _, _, _, h => .inl h
  | (m, k) :: r, acc, n, c, h => by
    unfold cloFrom at h
    split at h
    · rename_i hk
      have hk : k = .free := by simpa using hk
      rcases cloFrom_mem h with h | ⟨h1, h2⟩
      · rcases List.mem_cons.mp h with e | h
        · cases e; exact .inr ⟨hk ▸ List.mem_cons_self, rfl⟩
        · exact .inl h
      · exact .inr ⟨List.mem_cons_of_mem _ h1, h2⟩
    · rcases cloFrom_mem h with h | ⟨h1, h2⟩
      · exact .inl h
      · exact .inr ⟨List.mem_cons_of_mem _ h1, h2⟩
theorem cloFrom_acc {cells : List (Str × Addr)} : ∀ {names : List (Str × NameKind)} {acc : List (Str × Addr)} {p : Str × Addr}, p ∈ acc → p ∈ cloFrom cells names acc
  | [], _, _, h => h
  | (m, k) :: r, acc, p, h => by
    unfold cloFrom
    split
    · exact cloFrom_acc (List.mem_cons_of_mem _ h)
    · exact cloFrom_acc h
theorem cloFrom_has {cells : List (Str × Addr)} : ∀ {names : List (Str × NameKind)} {acc : List (Str × Addr)} {n : Str}, (n, .free) ∈ names → (n, (cells.lookup n).getD 0) ∈ cloFrom cells names acc
  | (m, k) :: r, acc, n, h => by
    unfold cloFrom
    rcases List.mem_cons.mp h with e | h
    · cases e
      exact cloFrom_acc List.mem_cons_self
    · split
      · exact cloFrom_has h
      · exact cloFrom_has h
theorem cells_mem : ∀ {names : List (Str × NameKind)} {h : Heap} {acc : List (Str × Addr)} {x : Str} {c : Addr}, (x, c) ∈ cellsFrom h.objs.size names acc →
    (x, c) ∈ acc ∨ ((x, .cell) ∈ names ∧ h.objs.size ≤ c ∧ CellAt (pushCells h names) c none)
  | [], _, _, _, _, h => .inl h
  | (n, k) :: r, h, acc, x, c, hm => by
    unfold cellsFrom at hm
    unfold pushCells
    split at hm
    · rename_i hk
      rw [if_pos hk]
      have hk : k = .cell := by simpa using hk
      rw [← Heap.size_push h { cls := .type "cell", data := .cell none }] at hm
      rcases cells_mem hm with hm | ⟨h1, h2, h3⟩
      · rcases List.mem_cons.mp hm with e | hm
        · cases e
          exact .inr ⟨hk ▸ List.mem_cons_self, Nat.le_refl _, _, pushCells_keeps r _ _ _ (Heap.get?_push_size _ rfl), rfl⟩
        · exact .inl hm
      · rw [Heap.size_push] at h2
        exact .inr ⟨List.mem_cons_of_mem _ h1, Nat.le_of_succ_le h2, h3⟩
    · rename_i hk
      rw [if_neg hk]
      rcases cells_mem hm with hm | ⟨h1, h2, h3⟩
      · exact .inl hm
      · exact .inr ⟨List.mem_cons_of_mem _ h1, h2, h3⟩
theorem cells_acc : ∀ {names : List (Str × NameKind)} {n : Nat} {acc : List (Str × Addr)} {p : Str × Addr}, p ∈ acc → p ∈ cellsFrom n names acc
  | [], _, _, _, h => h
  | (m, k) :: r, n, acc, p, h => by
    unfold cellsFrom
    split
    · exact cells_acc (List.mem_cons_of_mem _ h)
    · exact cells_acc h
theorem cells_has : ∀ {names : List (Str × NameKind)} {n : Nat} {acc : List (Str × Addr)} {x : Str}, (x, .cell) ∈ names → ∃ c, (x, c) ∈ cellsFrom n names acc
  | (m, k) :: r, n, acc, x, h => by
    unfold cellsFrom
    rcases List.mem_cons.mp h with e | h
    · cases e
      exact ⟨n, cells_acc List.mem_cons_self⟩
    · split
      · exact cells_has h
      · exact cells_has h
theorem cells_inj : ∀ {names : List (Str × NameKind)} {h : Heap} {acc : List (Str × Addr)} {x y : Str} {c : Addr}, (∀ p ∈ acc, p.2 < h.objs.size) → (∀ x y c, (x, c) ∈ acc → (y, c) ∈ acc → x = y) →
    (x, c) ∈ cellsFrom h.objs.size names acc → (y, c) ∈ cellsFrom h.objs.size names acc → x = y
  | [], _, _, _, _, _, _, hi, h1, h2 => hi _ _ _ h1 h2
  | (n, k) :: r, h, acc, x, y, c, hl, hi, h1, h2 => by
    unfold cellsFrom at h1 h2
    split at h1
    · rename_i hk
      rw [if_pos hk] at h2
      rw [← Heap.size_push h { cls := .type "cell", data := .cell none }] at h1 h2
      refine cells_inj (h := h.push _) (fun p hp => ?_) (fun x y c a b => ?_) h1 h2
      · rw [Heap.size_push]
        rcases List.mem_cons.mp hp with rfl | hp
        · exact Nat.lt_succ_self _
        · exact Nat.lt_succ_of_lt (hl p hp)
      · rcases List.mem_cons.mp a with e | a <;> rcases List.mem_cons.mp b with e' | b
        · cases e; cases e'; rfl
        · cases e; exact absurd (hl _ b) (Nat.lt_irrefl _)
        · cases e'; exact absurd (hl _ a) (Nat.lt_irrefl _)
        · exact hi _ _ _ a b
    · rename_i hk
      rw [if_neg hk] at h2
      exact cells_inj hl hi h1 h2
theorem newEnv_comp {M : Model} {A : Around} {E : Value → Shared → Prop} {s : Shared} {scope : Scope} {globals : Addr} {closure : List (Str × Addr)} {qual : Str} {func : Option Addr} {code : Value} {around : Env} {builtins : Addr} {Q : Env → Shared → Prop}
    (h : Q (newEnv scope s.heap.objs.size globals (cellsFrom (s.heap.objs.size + 1) scope.names closure) qual func code (some around) builtins)
      { s with heap := pushCells (s.heap.push { cls := .type "dict", data := .dict #[] }) scope.names }) :
    wpAny M A (newFunctionEnv scope globals closure [] qual func code (some around) builtins) Q E s := by
  simp only [newFunctionEnv, Option.isSome_some, if_true]
  refine wpAny_bind (wpAny_alloc ?_)
  refine wpAny_bind (wpAny_layCells _ (fun n k c => rfl) scope.names closure _ _ ?_)
  rw [show ({ s with heap := s.heap.push { cls := .type "dict", data := .dict #[] } } : Shared).heap.objs.size = s.heap.objs.size + 1 from Heap.size_push ..]
  rw [List.forIn_nil]
  exact wpAny_bind (wpAny_pure (wpAny_pure h))
theorem lookup_relS {sc : Scope} : ∀ {names : List (Str × NameKind)} {x : Str} {k : NameKind},
    (names.map fun (n, k) => if (k == NameKind.free && sc.kind == .function && sc.names.lookup n == some .cell) then (n, NameKind.cell) else (n, k)).lookup x = some k →
    ∃ k', names.lookup x = some k' ∧ (k = k' ∨ (k' = .free ∧ k = .cell))
  | [], _, _, h => by simp at h
  | (n, k₀) :: r, x, k, h => by
    have ih := @lookup_relS sc r x k
    have h' : List.lookup x ((if (k₀ == NameKind.free && sc.kind == .function && sc.names.lookup n == some .cell) = true then (n, NameKind.cell) else (n, k₀)) :: (r.map _)) = some k := h
    cases hx : x == n with
    | true =>
      simp only [List.lookup_cons, hx]
      by_cases hc : (k₀ == NameKind.free && sc.kind == .function && sc.names.lookup n == some .cell) = true
      · rw [if_pos hc] at h'
        simp only [List.lookup_cons, hx] at h'
        cases h'
        simp only [Bool.and_eq_true, beq_iff_eq] at hc
        exact ⟨k₀, rfl, .inr ⟨hc.1.1, rfl⟩⟩
      · rw [if_neg hc] at h'
        simp only [List.lookup_cons, hx] at h'
        cases h'
        exact ⟨_, rfl, .inl rfl⟩
    | false =>
      simp only [List.lookup_cons, hx]
      by_cases hc : (k₀ == NameKind.free && sc.kind == .function && sc.names.lookup n == some .cell) = true
      · rw [if_pos hc] at h'
        simp only [List.lookup_cons, hx] at h'
        exact ih h'
      · rw [if_neg hc] at h'
        simp only [List.lookup_cons, hx] at h'
        exact ih h'
structure BlkOk (N : List Str) (sc scope : Scope) (own : List (Str × Nat)) : Prop where
  kind : scope.kind = .function
  uniq : ∀ y ∈ scope.names, scope.names.lookup y.1 = some y.2
  ix : ∀ p ∈ own, N[p.2]? = some p.1
  free : ∀ y ∈ scope.names, y.2 = .free → sc.names.lookup y.1 = some .cell ∨ sc.names.lookup y.1 = some .free
  own : ∀ y ∈ scope.names, y.2 = .local ∨ y.2 = .cell → y.1 ∈ own.map (·.1) ∨ y.1 ∉ N
def wipe (σ : St) : List Nat → St
  | [] => σ
  | v :: vs => (wipe σ vs).set v none
theorem wipe_length (σ : St) : ∀ vs : List Nat, (wipe σ vs).length = σ.length
  | [] => rfl
  | v :: vs => by unfold wipe; rw [List.length_set, wipe_length σ vs]
theorem wipe_some {σ : St} {i : Nat} {x : V} : ∀ {vs : List Nat}, (wipe σ vs)[i]? = some (some x) → σ[i]? = some (some x) ∧ i ∉ vs
  | [], h => ⟨h, by simp⟩
  | v :: vs, h => by
    unfold wipe at h
    by_cases hi : v = i
    · subst hi
      by_cases hv : v < (wipe σ vs).length
      · rw [List.getElem?_set_self hv] at h; cases h
      · rw [List.getElem?_eq_none (by simpa using hv)] at h; cases h
    · rw [List.getElem?_set_ne hi] at h
      obtain ⟨h1, h2⟩ := wipe_some h
      exact ⟨h1, by simp only [List.mem_cons, not_or]; exact ⟨fun e => hi e.symm, h2⟩⟩
abbrev Cx.blk (X : Cx) (s : Shared) (H : Hp) (scope : Scope) (cenv : Env) (fp : List Addr) : Cx := { X with s_0 := s, H_0 := H, env := cenv, outer := X.stack, ex := fp, fn := fun x => scope.names.lookup x == some .cell, pn := [], xe := fun _ _ => False }
section
variable {X : Cx} {pins : List (Addr × Obj)} {σ : St} {H : Hp} {s : Shared}
theorem block_start {scope : Scope} {own : List (Str × Nat)} {fp : List Addr} (I : Inv X pins σ H s) (ok : BlkOk X.N X.env.scope scope own) (hN : X.N.Nodup) (hfp : ∀ b ∈ fp, FpOk X pins H b ∧ b < s.heap.objs.size) :
    Inv (X.blk s H scope (compEnvC scope (cellsFrom (s.heap.objs.size + 1) scope.names (cloFrom X.env.cells scope.names [])) s.heap.objs.size X.env) fp) [] (wipe σ (own.map (·.2))) H { s with heap := pushCells (s.heap.push { cls := .type "dict", data := .dict #[] }) scope.names } := by
  have hfree : ∀ y ∈ scope.names, y.2 = .free → ∃ c, X.env.cells.lookup y.1 = some c := fun y hy e => by
    rcases ok.free y hy e with k | k
    · exact I.ok.has _ (.inl k)
    · exact I.ok.has _ (.inr k)
  generalize hcenv : compEnvC scope (cellsFrom (s.heap.objs.size + 1) scope.names (cloFrom X.env.cells scope.names [])) s.heap.objs.size X.env = cenv
  have kp : ∀ b o, s.heap.get? b = some o → (pushCells (s.heap.push { cls := .type "dict", data := .dict #[] }) scope.names).get? b = some o := fun b o e => pushCells_keeps _ _ _ _ (Heap.get?_push_of_some _ e)
  have hL : cenv.locals = s.heap.objs.size := by rw [← hcenv]; rfl
  have hcl : cenv.cells = cellsFrom (s.heap.objs.size + 1) scope.names (cloFrom X.env.cells scope.names []) := by rw [← hcenv]; rfl
  have hsc : cenv.scope = relS scope X.env.scope := by rw [← hcenv]; rfl
  rw [← Heap.size_push s.heap { cls := .type "dict", data := .dict #[] }] at hcl
  have cm : ∀ {y c}, (y, c) ∈ cloFrom X.env.cells scope.names [] → X.env.cells.lookup y = some c ∧ c < s.heap.objs.size := fun {y c} hm => by
    rcases cloFrom_mem hm with hm | ⟨h1, rfl⟩
    · cases hm
    · obtain ⟨c, hc⟩ := hfree _ h1 rfl
      rw [hc]
      obtain ⟨w, z⟩ := I.cell _ _ hc
      exact ⟨rfl, z.lt⟩
  have mem : ∀ {y c}, cenv.cells.lookup y = some c → (X.env.cells.lookup y = some c ∧ c < s.heap.objs.size) ∨ (s.heap.objs.size + 1 ≤ c ∧ CellAt (pushCells (s.heap.push { cls := .type "dict", data := .dict #[] }) scope.names) c none) := fun {y c} e => by
    rw [hcl] at e
    rcases cells_mem (PySem.mem_of_lookup e) with hm | ⟨_, h2, h3⟩
    · exact .inl (cm hm)
    · rw [Heap.size_push] at h2; exact .inr ⟨h2, h3⟩
  have look : ∀ {y}, scope.names.lookup y = some .free → ∃ c, cenv.cells.lookup y = some c ∧ X.env.cells.lookup y = some c := fun {y} hl => by
    have hy : (y, NameKind.free) ∈ scope.names := PySem.mem_of_lookup hl
    obtain ⟨c', e'⟩ := mem_lookup (cells_acc (names := scope.names) (n := (s.heap.push { cls := .type "dict", data := .dict #[] }).objs.size) (cloFrom_has (cells := X.env.cells) (acc := []) hy))
    rw [← hcl] at e'
    refine ⟨c', e', ?_⟩
    rw [hcl] at e'
    rcases cells_mem (PySem.mem_of_lookup e') with hm | ⟨h1, _, _⟩
    · exact (cm hm).1
    · have := ok.uniq _ h1
      rw [hl] at this; cases this
  have okB : (X.blk s H scope cenv fp).Ok := by
    refine ⟨I.ok.mod, by show cenv.scope.kind = _; rw [hsc]; exact ok.kind, by show cenv.globals = _; rw [← hcenv]; exact I.ok.glob, by show cenv.builtins = _; rw [← hcenv]; exact I.ok.blt, by show s.heap.objs.size ≤ cenv.locals; rw [hL]; exact Nat.le_refl _,
      fun y z c e1 e2 => ?_, fun y hy => ?_, fun y c z e => ?_, I.ok.hd, I.ok.frames, .inl rfl, fun b hb => ⟨?_, fun y c e z => ?_⟩, I.bs, Nat.le_trans I.ok.bsz I.sz, fun b o e hb => ?_, fun b hb z => ?_, I.stack, I.stkFree⟩
    · have e1 : cenv.cells.lookup y = some c := e1
      have e2 : cenv.cells.lookup z = some c := e2
      rw [hcl] at e1 e2
      refine cells_inj (fun p hp => ?_) (fun y z c a b => I.ok.inj y z c (cm a).1 (cm b).1) (PySem.mem_of_lookup e1) (PySem.mem_of_lookup e2)
      rw [Heap.size_push]
      exact Nat.lt_succ_of_lt (cm (y := p.1) (c := p.2) hp).2
    · show ∃ c, cenv.cells.lookup y = some c
      have key : ∀ k, cenv.kindOf y = some k → (k = .cell ∨ k = .free) → ∃ c, cenv.cells.lookup y = some c := fun k hk hk' => by
        unfold Env.kindOf at hk
        rw [hsc] at hk
        obtain ⟨k', e, r⟩ := lookup_relS hk
        have : k' = .cell ∨ k' = .free := by
          rcases r with rfl | ⟨rfl, _⟩
          · exact hk'
          · exact .inr rfl
        rcases this with rfl | rfl
        · obtain ⟨c, hm⟩ := cells_has (n := (s.heap.push { cls := .type "dict", data := .dict #[] }).objs.size) (acc := cloFrom X.env.cells scope.names []) (PySem.mem_of_lookup e)
          obtain ⟨c', e'⟩ := mem_lookup hm
          exact ⟨c', by rw [hcl]; exact e'⟩
        · obtain ⟨c, h1, _⟩ := look e
          exact ⟨c, h1⟩
      rcases hy with hy | hy
      · exact key _ hy (.inl rfl)
      · exact key _ hy (.inr rfl)
    · have z : (scope.names.lookup y == some NameKind.cell) = true := z
      have z : scope.names.lookup y = some .cell := by simpa using z
      have e : cenv.cells.lookup y = some c := e
      rw [hcl] at e
      rcases cells_mem (PySem.mem_of_lookup e) with hm | ⟨_, h2, _⟩
      · rcases cloFrom_mem hm with hm | ⟨h1, _⟩
        · cases hm
        · have q := ok.uniq _ h1
          rw [z] at q; cases q
      · rw [Heap.size_push] at h2
        exact Nat.le_of_succ_le h2
    · show b ≠ cenv.locals
      rw [hL]; exact Nat.ne_of_lt (hfp b hb).2
    · have e : cenv.cells.lookup y = some c := e
      rcases mem e with ⟨h1, _⟩ | ⟨h1, _⟩
      · exact (hfp b hb).1.2.2.2.2.1 y c h1 z
      · have h2 : s.heap.objs.size + 1 ≤ b := by rw [← z]; exact h1
        exact absurd (Nat.lt_of_lt_of_le (hfp b hb).2 (Nat.le_of_succ_le h2)) (Nat.lt_irrefl _)
    · rcases (hfp b hb).1.2.2.2.1 with z | z
      · exact I.ok.noex b o e z
      · exact absurd (Nat.lt_of_lt_of_le (Heap.lt_size e) (Nat.le_trans I.ok.bsz z)) (Nat.lt_irrefl _)
    · rcases List.mem_cons.mp (I.stkSub b z) with z | z
      · exact (hfp b hb).1.2.1 z
      · exact (hfp b hb).1.2.2.1 z
  refine ⟨okB, rfl, I.bare, Un.kept kp, ⟨fun _ => none, ?_, fun i y av e1 e2 e3 => ?_⟩, fun y c e => ?_, ?_, fun y c e => ?_, fun p hp => ?_, I.hok.kept kp, by rw [wipe_length]; exact I.len⟩
  · show Heap.Ns _ cenv.locals _
    rw [hL]
    exact Heap.Ns.keeps (Heap.Ns.new ..) fun b o e => pushCells_keeps _ _ _ _ e
  · obtain ⟨e2, hne⟩ := wipe_some e2
    have hfr : scope.names.lookup y = some .free ∧ (cenv.kindOf y = some .cell ∨ cenv.kindOf y = some .free) := by
      have key : ∀ k, cenv.scope.names.lookup y = some k → k = .local ∨ k = .cell ∨ k = .free → scope.names.lookup y = some .free ∧ (cenv.kindOf y = some .cell ∨ cenv.kindOf y = some .free) := fun k hk hk' => by
        have hk0 := hk
        rw [hsc] at hk
        obtain ⟨k', e, r⟩ := lookup_relS hk
        have no : ¬ (k' = .local ∨ k' = .cell) := fun hh => by
          rcases ok.own _ (PySem.mem_of_lookup e) hh with e' | e'
          · obtain ⟨p, hp, hpy⟩ := List.mem_map.mp e'
            have e3 := ok.ix p hp
            have : p.1 = y := hpy
            rw [this] at e3
            exact hne (List.mem_map.mpr ⟨p, hp, nodup_ix hN e3 e1⟩)
          · exact e' (List.mem_of_getElem? e1)
        rcases r with rfl | ⟨rfl, rfl⟩
        · rcases hk' with rfl | rfl | rfl
          · exact absurd (.inl rfl) no
          · exact absurd (.inr rfl) no
          · exact ⟨e, .inr hk0⟩
        · exact ⟨e, .inl hk0⟩
      have e3 : Vis cenv.scope y := e3
      rcases e3 with e3 | e3 | e3
      · exact key _ e3 (.inl rfl)
      · exact key _ e3 (.inr (.inl rfl))
      · exact key _ e3 (.inr (.inr rfl))
    obtain ⟨m, hn, hl⟩ := I.loc
    have hvis : Vis X.env.scope y := (ok.free _ (PySem.mem_of_lookup hfr.1) rfl).elim (fun k => .inr (.inl k)) (fun k => .inr (.inr k))
    obtain ⟨w, r, q⟩ := hl i y av e1 e2 hvis
    refine ⟨w, r, .inr ⟨hfr.2, ?_⟩⟩
    obtain ⟨c, h1, h2⟩ := look hfr.1
    rcases q with ⟨k, _⟩ | ⟨_, c', e', z⟩
    · have k : X.env.scope.names.lookup y = some .local := k
      rcases ok.free _ (PySem.mem_of_lookup hfr.1) rfl with k' | k' <;> rw [show X.env.scope.names.lookup y = _ from k'] at k <;> cases k
    · rw [h2] at e'; cases e'
      exact ⟨c, h1, z.keeps kp⟩
  · have e : cenv.cells.lookup y = some c := e
    rcases mem e with ⟨h1, _⟩ | ⟨_, z⟩
    · obtain ⟨w, z⟩ := I.cell y c h1
      exact ⟨w, z.keeps kp⟩
    · exact ⟨_, z⟩
  · show H cenv.locals = none
    rw [hL]; exact I.hok.fresh (Nat.le_refl _)
  · have e : cenv.cells.lookup y = some c := e
    rcases mem e with ⟨h1, _⟩ | ⟨h1, _⟩
    · exact I.freeC y c h1
    · exact I.hok.fresh (Nat.le_of_succ_le h1)
  · exact absurd (show p ∈ ([] : List (Addr × Obj)) ++ [] from hp) (by simp)
theorem app_ok {E : Value → Shared → Prop} {D : Addr} {xs : List V} {y : V} {v : Value} {Q : Value → Shared → Prop} (I : Inv X pins σ H s) (hD : H D = some (.lst xs)) (hz : xs.length < sizeLine) (r : RelV y v)
    (h : ∀ s', Inv X pins σ (upd H D (.lst (xs ++ [y]))) s' → Q .none s') : wpAny (model X.prog X.w) X.A (call (.builtin "list.append") [.ref D, v]) Q E s := by
  obtain ⟨hz', its, n, ri, e⟩ := I.hok D _ hD
  have hl := ri.length
  refine append_at (hsz := by rw [List.size_toArray]; omega) e fun h' sb ho' => ?_
  refine h { s with heap := h' } (I.write (t' := s.toks) (by rw [hD]; trivial) (.inl rfl) (fun b u hb q => (sb.2 b hb).trans q) ⟨_, ho'⟩ ⟨by rw [List.length_append]; exact hz, its ++ [v], n + 1, ri.append (.cons r .nil), ?_⟩)
  rw [ho']
  simp
def PTs (X : Cx) (ifs : List Expr) (t : TT) : Prop :=
  ∀ (pins : List (Addr × Obj)) (s : Shared) (σ : St) (H : Hp) (Q : Bool → Hp → Prop), Inv X pins σ H s → t σ H Q →
    wpAny (model X.prog X.w) X.A (forIn ifs true fun c r => if r = true then do let ok ← isTrue c X.env (eval c X.env); pure (ForInStep.yield ok) else pure (ForInStep.yield r)) (TP X pins σ Q) X.xe s
def tYes : TT := fun _ H Q => Q true H
theorem pts_nil : PTs X [] tYes := fun _ _ _ H _ I h => wpAny_tests_nil ⟨H, I, h⟩
theorem pts_one {c : Expr} {t : TT} (h : PT X c t) : PTs X [c] t := fun pins s σ H Q I hw => wpAny_tests_one (h pins s σ H Q I hw)
end
theorem thnF {α : Type} {t : Sem α} {Q Q' : α → Shared → Prop} {M : Model} {A : Around} {E : Value → Shared → Prop} {s : Shared} (h : wpAny M A t Q (fun _ _ => False) s) (hQ : ∀ a s, Q a s → Q' a s) : wpAny M A t Q' E s := wpAny_mono h hQ fun _ _ z => False.elim z
theorem compLoop_any {prog : Program} {w : World} {A : Around} {R : Result → Shared → Prop} {s : Shared} {elt target iter : Expr} {ifs : List Expr} {scope : Scope} {pos : Pos} {it acc : Value} {env : Env} (I : Nat → Shared → Prop)
    (turn : ∀ n s, I n s → wpAny (model prog w) A (pyNext it) (fun r s₁ => match r with
      | none => R (.ok .next) s₁
      | some v => wpAny (model prog w) A (letOwnedTupleGo target it v) (fun _ s₁' => wpAny (model prog w) A (assign target env v) (fun _ s₂ =>
          wpAny (model prog w) A (forIn ifs true fun c r => if r = true then do let ok ← isTrue c env (eval c env); pure (ForInStep.yield ok) else pure (ForInStep.yield r)) (fun ok s₃ =>
            if ok = true then wpAny (model prog w) A (eval elt env) (fun x s₄ =>
              wpAny (model prog w) A (call (.builtin "list.append") [acc, x]) (fun _ s₅ => ∃ m, m < n ∧ I m s₅) (notedBy (model prog w) A env fun e s' => R (.error e) s') s₄) (notedBy (model prog w) A env fun e s' => R (.error e) s') s₃
            else ∃ m, m < n ∧ I m s₃) (notedBy (model prog w) A env fun e s' => R (.error e) s') s₂) (notedBy (model prog w) A env fun e s' => R (.error e) s') s₁') (notedBy (model prog w) A env fun e s' => R (.error e) s') s₁) (notedBy (model prog w) A env fun e s' => R (.error e) s') s)
    (n : Nat) (h : I n s) :
    codeAny (model prog w) A (.compLoop (.ListComp elt [⟨target, iter, ifs, 0⟩] scope pos) 0 it acc env) R s := by
  refine codeAny_loop rfl I (fun n s hI => ?_) n h
  show wpAny _ A ((compTurn (.ListComp elt [⟨target, iter, ifs, 0⟩] scope pos) 0 it acc env).onRaise (fun x => do noteFrame x env; theTreesLotGoes x)) _ _ s
  refine wpAny_noted ?_
  rw [compTurn_list]
  refine wpAny_bind (wpAny_standAt (wpAny_bind (wpAny_mono (turn n s hI) (fun r s₁ h₁ => ?_) fun _ _ h' => h')))
  cases r with
  | none => exact wpAny_pure h₁
  | some v =>
    refine wpAny_bind (wpAny_mono h₁ (fun _ s₁' h₁' => ?_) fun _ _ h' => h')
    refine wpAny_bind (wpAny_mono h₁' (fun _ s₂ h₂ => wpAny_bind (wpAny_mono h₂ (fun ok s₃ h₃ => ?_) fun _ _ h' => h')) fun _ _ h' => h')
    cases ok with
    | false => exact wpAny_pure ⟨rfl, h₃⟩
    | true =>
      exact wpAny_bind (wpAny_bind (wpAny_mono h₃ (fun x s₄ h₄ => wpAny_bind (wpAny_mono h₄ (fun _ s₅ h₅ => wpAny_pure (wpAny_pure ⟨rfl, h₅⟩)) fun _ _ h' => h')) fun _ _ h' => h'))
section
variable {X : Cx}
def tLc (wi : TI) (g : TG) (tt : TT) (te : TE) (vs : List Nat) : TE := fun σ H Q => wi σ H fun J H1 => ∀ D, H1 D = none → ∃ W : Nat → Nat → Hp → Prop, (∃ m, W 0 m (upd H1 D (.lst []))) ∧ ∀ i m H, W i m H →
  (J.stop i H ∧ Q (.ref D) H) ∨ (J.go i H ∧ ∃ Nx : Hp → Prop, (∀ H', Nx H' → ∃ m', m' < m ∧ W (i + 1) m' H') ∧ ∀ x H', J.yld i H x H' → g x (wipe σ vs) H' fun σ2 H2 => wipe σ2 vs = wipe σ vs ∧ tt σ2 H2 fun b H3 =>
    if b = true then te σ2 H3 fun y H4 => ∃ acc, H4 D = some (.lst acc) ∧ acc.length < sizeLine ∧ Nx (upd H4 D (.lst (acc ++ [y]))) else Nx H3)
theorem lc_core {pins : List (Addr × Obj)} {s : Shared} {σ : St} {H : Hp} {Q : VK} {elt tg iter : Expr} {ifs : List Expr} {scope : Scope} {own : List (Str × Nat)} {pos pos' : Pos} {wi : TI} {g : TG} {tt : TT} {te : TE} {use : Option (Value → Sem Unit)} {Qf : Value → Shared → Prop}
    (hc : X.calm = true) (hN : X.N.Nodup) (I : Inv X pins σ H s) (hi : PI X tg iter wi) (ok : BlkOk X.N X.env.scope scope own)
    (hg : ∀ (s : Shared) (H : Hp) (C : Addr) (cl : List (Str × Addr)) (fp : List Addr), PG (X.blk s H scope (compEnvC scope cl C X.env) fp) tg g) (ht : ∀ (s : Shared) (H : Hp) (C : Addr) (cl : List (Str × Addr)) (fp : List Addr), PTs (X.blk s H scope (compEnvC scope cl C X.env) fp) ifs tt)
    (he : ∀ (s : Shared) (H : Hp) (C : Addr) (cl : List (Str × Addr)) (fp : List Addr), PE (X.blk s H scope (compEnvC scope cl C X.env) fp) elt te) (hs : ∀ x, foldedSetIterable iter X.env x = pure x)
    (h : tLc wi g tt te (own.map (·.2)) σ H Q)
    (hRR : ∀ D C s' m H', Inv X pins σ H' s' → Q (.ref D) H' → s'.heap.Ns C m → FpOk X pins H' C → compPost (model X.prog X.w) X.A X.xe use Qf (.ref D) C (.ok .next) s') :
    wpAny (model X.prog X.w) X.A (comprehension (.ListComp elt [⟨tg, iter, ifs, 0⟩] scope pos) scope X.env pos' (newList []) false (eval iter X.env) use) Qf X.xe s := by
  have hfree : ∀ y ∈ scope.names, y.2 = .free → ∃ c, X.env.cells.lookup y.1 = some c := fun y hy e => by
    rcases ok.free y hy e with k | k
    · exact I.ok.has _ (.inl k)
    · exact I.ok.has _ (.inr k)
  refine wpAny_comprehension_free (use := use) rfl hs (closure_ok hfree) ok.kind (fun y hy e => by rw [ok.uniq y hy, e])
    (thn (hi pins s σ H _ I h) fun xv s1 hx => thn hx fun itv s2 h2 => ?_)
  obtain ⟨it, fp, tn, J, H2, e, I2, T, st2, f2, q⟩ := h2
  subst e
  refine wpAny_newObj_type (newEnv_comp ?_) (by show 0 ≤ sizeLine; decide)
  generalize hD : s2.heap.objs.size = D
  have hDn : H2 D = none := I2.hok.fresh (Nat.le_of_eq hD)
  obtain ⟨W, ⟨m0, w0⟩, turn⟩ := q D hDn
  -- the new list
  generalize hs3 : ({ s2 with heap := s2.heap.push { cls := .type "list", data := .seq ([] : List Value).toArray } } : Shared) = s3
  have I3 : Inv X pins σ (upd H2 D (.lst [])) s3 := by
    rw [← hs3]
    refine I2.laid (t' := s2.toks) (fun b o e => Heap.get?_push_of_some _ e) (Nat.le_of_eq hD) ⟨Nat.zero_le _, [], 0, .nil, ?_⟩
    rw [← hD]
    exact Heap.get?_push_size _ rfl
  have h3 : s3.heap = s2.heap.push { cls := .type "list", data := .seq ([] : List Value).toArray } := by rw [← hs3]
  have sz : ∀ b ∈ fp, b < s2.heap.objs.size := fun b hb => by
    obtain ⟨o, e, _⟩ := T.obj _ _ st2 b hb
    exact Heap.lt_size e
  have f3 : ∀ b ∈ fp, FpOk X pins (upd H2 D (.lst [])) b ∧ b < s3.heap.objs.size := fun b hb => by
    have hlt := sz b hb
    refine ⟨⟨?_, (f2 b hb).2⟩, by rw [h3, Heap.size_push]; exact Nat.lt_succ_of_lt hlt⟩
    rw [upd_ne (by rw [← hD]; exact Nat.ne_of_lt hlt)]
    exact (f2 b hb).1
  have st3 : tn 0 s3.heap := T.keep _ _ _ st2 fun b _ o e => by rw [h3]; exact Heap.get?_push_of_some _ e
  have I4 := block_start I3 ok hN f3
  have pg := hg s3 (upd H2 D (.lst [])) s3.heap.objs.size (cellsFrom (s3.heap.objs.size + 1) scope.names (cloFrom X.env.cells scope.names [])) fp
  have pt := ht s3 (upd H2 D (.lst [])) s3.heap.objs.size (cellsFrom (s3.heap.objs.size + 1) scope.names (cloFrom X.env.cells scope.names [])) fp
  have pe := he s3 (upd H2 D (.lst [])) s3.heap.objs.size (cellsFrom (s3.heap.objs.size + 1) scope.names (cloFrom X.env.cells scope.names [])) fp
  show codeAny _ _ (.compStart (.ListComp elt [⟨tg, iter, ifs, 0⟩] scope pos) 0 (.ref it) (.ref D) (compEnvC scope (cellsFrom (s3.heap.objs.size + 1) scope.names (cloFrom X.env.cells scope.names [])) s3.heap.objs.size X.env)) (compPost (model X.prog X.w) X.A X.xe use Qf (.ref D) s3.heap.objs.size) { s3 with heap := pushCells (s3.heap.push { cls := .type "dict", data := .dict #[] }) scope.names }
  have nfp : ∀ b ∈ fp, (upd H2 D (.lst [])) b = none := fun b hb => (f3 b hb).1.1
  generalize hce : compEnvC scope (cellsFrom (s3.heap.objs.size + 1) scope.names (cloFrom X.env.cells scope.names [])) s3.heap.objs.size X.env = ce at I4 pg pt pe ⊢
  have cL : ce.locals = s3.heap.objs.size := by subst hce; rfl
  generalize hH3 : upd H2 D (.lst []) = H3 at I3 I4 pg pt pe w0 nfp f3
  generalize hs4 : ({ s3 with heap := pushCells (s3.heap.push { cls := .type "dict", data := .dict #[] }) scope.names } : Shared) = s4 at I4 ⊢
  have st4 : tn 0 s4.heap := T.keep _ _ _ st3 fun b _ o e => by rw [← hs4]; exact pushCells_keeps _ _ _ _ (Heap.get?_push_of_some _ e)
  have stat : ∀ {σ' : St} {H' : Hp} {s' : Shared}, Inv (X.blk s3 H3 scope ce fp) [] σ' H' s' → (∀ b ∈ fp, H' b = none) → ∀ b ∈ fp, FpOk (X.blk s3 H3 scope ce fp) [] H' b := fun {σ' H' s'} I' hn b hb =>
    ⟨hn b hb, (I'.ok.exf b hb).1, I'.ok.exfs b hb, .inl hb, fun x c e => (I'.ok.exf b hb).2 x c e, fun p hp => absurd (show p ∈ ([] : List (Addr × Obj)) ++ [] from hp) (by simp)⟩
  have loop : codeAny (model X.prog X.w) X.A (.compLoop (.ListComp elt [⟨tg, iter, ifs, 0⟩] scope pos) 0 (.ref it) (.ref D) ce) (compPost (model X.prog X.w) X.A X.xe use Qf (.ref D) s3.heap.objs.size) s4 := by
    refine compLoop_any (fun n s' => ∃ i H', Inv (X.blk s3 H3 scope ce fp) [] (wipe σ (own.map (·.2))) H' s' ∧ tn i s'.heap ∧ (∀ b ∈ fp, H' b = none) ∧ W i n H') ?_ m0 ⟨0, H3, I4, st4, nfp, w0⟩
    rintro n s5 ⟨i, H5, I5, st5, n5, w5⟩
    rcases turn i n H5 w5 with ⟨stop, qq⟩ | ⟨go, Nx, hNx, step⟩
    · have td := T.done (X.blk s3 H3 scope ce fp) rfl rfl rfl hc i [] s5 _ H5 (fun _ _ => False) I5 (stat I5 n5) st5 stop
      refine thnF td fun r s6 ⟨hr, I6⟩ => ?_
      subst hr
      -- back in the def's context
      have I7 : Inv X pins σ H5 s6 := I3.call' (ch := fp) I6.os I6.base I6.hok I6.bare fun b hb => ⟨(f3 b hb).1.2.2.2.1, (f3 b hb).1.2.1, (f3 b hb).1.2.2.2.2.1, (f3 b hb).1.2.2.2.2.2⟩
      have nC : H5 s3.heap.objs.size = none := by
        have z : H5 ce.locals = none := I6.free
        rw [cL] at z
        exact z
      obtain ⟨m, hn, _⟩ := I6.loc
      have hn : s6.heap.Ns ce.locals m := hn
      rw [cL] at hn
      exact hRR D s3.heap.objs.size s6 m H5 I7 qq hn (I3.fpOk (Nat.le_refl _) nC)
    · have ti := T.item (X.blk s3 H3 scope ce fp) rfl rfl rfl hc i [] s5 _ H5 (fun _ _ => False) I5 (stat I5 n5) st5 go
      refine thnF ti fun r s6 ⟨u, hr, h6⟩ => ?_
      subst hr
      refine thnF h6 fun _ s7 ⟨x, H7, I7, r7, y7, st7, n7⟩ => ?_
      have I7' := I7.pinned (stat I7 n7) (T.obj _ _ st7)
      refine thnF (pg _ s7 _ H7 x u _ I7' r7 (step x H7 y7)) fun _ s8 ⟨σ8, H8, I8, hw8, q8⟩ => ?_
      refine thnF (pt _ s8 σ8 H8 _ I8 q8) fun b s9 ⟨H9, I9, q9⟩ => ?_
      -- the turn's end
      have fin : ∀ {s' : Shared} {H' : Hp}, Inv (X.blk s3 H3 scope ce fp) ([] ++ pinsAt fp s7.heap) σ8 H' s' → Nx H' → ∃ m, m < n ∧ ∃ i H', Inv (X.blk s3 H3 scope ce fp) [] (wipe σ (own.map (·.2))) H' s' ∧ tn i s'.heap ∧ (∀ b ∈ fp, H' b = none) ∧ W i m H' := fun {s' H'} I' nx => by
        obtain ⟨m', hm, w'⟩ := hNx H' nx
        have pin' : ∀ b ∈ fp, ∀ o, s7.heap.get? b = some o → s'.heap.get? b = some o ∧ H' b = none := fun b hb o e =>
          let z := I'.pin (b, o) (List.mem_append_right _ (List.mem_append_right _ (mem_pinsAt hb e)))
          ⟨z.1, z.2.1⟩
        have hl : (wipe σ (own.map (·.2))).length = σ8.length := by rw [← hw8, wipe_length]
        refine ⟨m', hm, i + 1, H', (I'.unpinned (pins := [])).weak hl (fun j v e => ?_), T.keep _ _ _ st7 fun b hb o e => (pin' b hb o e).1, fun b hb => ?_, w'⟩
        · rw [← hw8] at e
          exact (wipe_some e).1
        · obtain ⟨o, e, _⟩ := T.obj _ _ st7 b hb
          exact (pin' b hb o e).2
      cases b with
      | false =>
        simp only [Bool.false_eq_true, if_false] at q9 ⊢
        exact fin I9 q9
      | true =>
        simp only [if_true] at q9 ⊢
        refine thnF (pe _ s9 σ8 H9 _ I9 q9) fun z s10 ⟨yv, H10, I10, r10, acc, hD10, hz10, nx⟩ => ?_
        exact app_ok (X := X.blk s3 H3 scope ce fp) I10 hD10 hz10 r10 fun s11 I11 => fin I11 nx
  exact codeAny_compStart_list loop (T.self X.A 0 _ _ _ st4 loop)
theorem pe_lc {elt tg iter : Expr} {ifs : List Expr} {scope : Scope} {own : List (Str × Nat)} {pos : Pos} {wi : TI} {g : TG} {tt : TT} {te : TE} (hc : X.calm = true) (hN : X.N.Nodup) (hi : PI X tg iter wi) (ok : BlkOk X.N X.env.scope scope own)
    (hg : ∀ (s : Shared) (H : Hp) (C : Addr) (cl : List (Str × Addr)) (fp : List Addr), PG (X.blk s H scope (compEnvC scope cl C X.env) fp) tg g) (ht : ∀ (s : Shared) (H : Hp) (C : Addr) (cl : List (Str × Addr)) (fp : List Addr), PTs (X.blk s H scope (compEnvC scope cl C X.env) fp) ifs tt)
    (he : ∀ (s : Shared) (H : Hp) (C : Addr) (cl : List (Str × Addr)) (fp : List Addr), PE (X.blk s H scope (compEnvC scope cl C X.env) fp) elt te) (hs : ∀ x, foldedSetIterable iter X.env x = pure x := by intro _; rfl) :
    PE X (.ListComp elt [⟨tg, iter, ifs, 0⟩] scope pos) (tLc wi g tt te (own.map (·.2))) := by
  intro pins s σ H Q I h
  rw [eval_ListComp]
  refine lc_core hc hN I hi ok hg ht he hs h fun D C s' m H' I' q hn f => ⟨m, hn, fun h'' sb => ?_⟩
  obtain ⟨f0, f1, f2, f3, f4, f5⟩ := f
  exact ⟨.ref D, H', I'.turned (t' := s'.toks) (fun b o hb e => (sb.2 b hb).trans e) f0 f1 f3 f4 f5, rfl, q⟩
theorem ps_setLc {i : Nat} {y : Str} {py : Pos} {elt tg iter : Expr} {ifs : List Expr} {scope : Scope} {own : List (Str × Nat)} {pos spos : Pos} {wi : TI} {g : TG} {tt : TT} {te : TE} (hc : X.calm = true) (hN : X.N.Nodup) (hy : X.N[i]? = some y) (hyl : X.env.scope.names.lookup y = some .local)
    (hsw : swapsWith (.ListComp elt [⟨tg, iter, ifs, 0⟩] scope pos) (some (.Name y py)) spos.line X.env = pure true) (hi : PI X tg iter wi) (ok : BlkOk X.N X.env.scope scope own)
    (hg : ∀ (s : Shared) (H : Hp) (C : Addr) (cl : List (Str × Addr)) (fp : List Addr), PG (X.blk s H scope (compEnvC scope cl C X.env) fp) tg g) (ht : ∀ (s : Shared) (H : Hp) (C : Addr) (cl : List (Str × Addr)) (fp : List Addr), PTs (X.blk s H scope (compEnvC scope cl C X.env) fp) ifs tt)
    (he : ∀ (s : Shared) (H : Hp) (C : Addr) (cl : List (Str × Addr)) (fp : List Addr), PE (X.blk s H scope (compEnvC scope cl C X.env) fp) elt te) (hs : ∀ x, foldedSetIterable iter X.env x = pure x := by intro _; rfl) :
    PS X (.Assign [.Name y py] (.ListComp elt [⟨tg, iter, ifs, 0⟩] scope pos) spos) (tAsg (tLc wi g tt te (own.map (·.2))) (gName i)) := by
  intro pins s σ H D I h
  rw [exec_Assign_Name_used _ _ _ _ hsw]
  refine wpAny_bind (wpAny_standAt (wpAny_bind ?_))
  show wpAny _ X.A (do let _ ← comprehension (.ListComp elt [⟨tg, iter, ifs, 0⟩] scope pos) scope X.env (firstIterPos [⟨tg, iter, ifs, 0⟩] pos) (newList []) false (eval iter X.env) (some (assign (.Name y py) X.env))) _ _ s
  have h : tLc wi g tt te (own.map (·.2)) σ H (fun x H1 => gName i x σ H1 D.nx) := h
  refine wpAny_bind (thn (lc_core (Qf := fun _ s' => SP X pins D .next s') hc hN I hi ok hg ht he hs h fun L C s' m H' I' q hn f => ?_) fun _ s' hq => wpAny_pure (wpAny_pure hq))
  show wpAny _ _ (assign (.Name y py) X.env (.ref L)) _ _ _
  refine wpAny_assign_Name (store_ok2 (v := V.ref L) I' hN hy (.inl hyl) rfl (fun s2 I2 ⟨a, sb, ha⟩ => ?_) (.inr hyl))
  obtain ⟨f0, f1, f2, f3, f4, f5⟩ := f
  have haC : C ≠ a := by
    rcases ha with z | z
    · rw [z]; exact f1
    · exact fun e => f4 y a z e.symm
  refine ⟨m, hn.sameBut sb haC, fun h3 sb3 => ?_⟩
  exact ⟨_, H', I2.turned (t' := s2.toks) (fun b o hb e => (sb3.2 b hb).trans e) f0 f1 f3 f4 f5, q⟩
theorem sw_true {elt : Expr} {gs : List Comprehension} {scope : Scope} {pos py : Pos} {y : Str} {l : Nat} {env : Env} (hk : env.scope.kind = .function) (hy : env.scope.names.lookup y = some .local) (hl : (py.line == pos.line) = true)
    (ha : (scope.names.any fun (n, k) => n == y && (k == .local || k == .cell)) = false) : swapsWith (.ListComp elt gs scope pos) (some (.Name y py)) l env = pure true := by
  have ky : env.kindOf y = some .local := hy
  have hb : env.blockKind = .function := by unfold Env.blockKind; rw [hk]; rfl
  unfold swapsWith
  simp only [hb, ky, ha, Expr.pos, hl]
  rfl
end
theorem lc_range {lo : Int} {n : Nat} {g : TG} {tt : TT} {te : TE} {vs : List Nat} {σ : St} {H1 : Hp} {D : Addr} {Qd : Hp → Prop} (Pv : Nat → Hp → Prop) (h0 : Pv 0 (upd H1 D (.lst [])))
    (hs : ∀ i H, i < n → Pv i H → g (.int (lo + i)) (wipe σ vs) H fun σ2 H2 => wipe σ2 vs = wipe σ vs ∧ tt σ2 H2 fun b H3 =>
      if b = true then te σ2 H3 fun y H4 => ∃ acc, H4 D = some (.lst acc) ∧ acc.length < sizeLine ∧ Pv (i + 1) (upd H4 D (.lst (acc ++ [y]))) else Pv (i + 1) H3) (hd : ∀ H, Pv n H → Qd H) :
    ∃ W : Nat → Nat → Hp → Prop, (∃ m, W 0 m (upd H1 D (.lst []))) ∧ ∀ i m H, W i m H →
      ((Itr lo n).stop i H ∧ Qd H) ∨ ((Itr lo n).go i H ∧ ∃ Nx : Hp → Prop, (∀ H', Nx H' → ∃ m', m' < m ∧ W (i + 1) m' H') ∧ ∀ x H', (Itr lo n).yld i H x H' → g x (wipe σ vs) H' fun σ2 H2 => wipe σ2 vs = wipe σ vs ∧ tt σ2 H2 fun b H3 =>
        if b = true then te σ2 H3 fun y H4 => ∃ acc, H4 D = some (.lst acc) ∧ acc.length < sizeLine ∧ Nx (upd H4 D (.lst (acc ++ [y]))) else Nx H3) := by
  refine ⟨fun i m H => m = n - i ∧ i ≤ n ∧ Pv i H, ⟨n, by simp, Nat.zero_le _, h0⟩, ?_⟩
  rintro i m H ⟨rfl, hi, p⟩
  by_cases hlt : i < n
  · refine .inr ⟨hlt, Pv (i + 1), fun H' p' => ⟨n - (i + 1), by omega, rfl, hlt, p'⟩, fun x H' y => ?_⟩
    obtain ⟨e, y⟩ := y
    subst e y
    exact hs i _ hlt p
  · have e : i = n := by omega
    subst e
    exact .inl ⟨Nat.le_refl _, hd H p⟩
theorem lc_list {K : PySem.W.Frag} {a : Addr} {xs : List V} {g : TG} {tt : TT} {te : TE} {vs : List Nat} {σ : St} {H1 : Hp} {D : Addr} {Qd : Hp → Prop} (Pv : Nat → Hp → Prop) (h0 : Pv 0 (upd H1 D (.lst []))) (hl : ∀ i H, i ≤ xs.length → Pv i H → SqL K H a xs)
    (hs : ∀ i x H, xs[i]? = some x → Pv i H → g x (wipe σ vs) H fun σ2 H2 => wipe σ2 vs = wipe σ vs ∧ tt σ2 H2 fun b H3 =>
      if b = true then te σ2 H3 fun y H4 => ∃ acc, H4 D = some (.lst acc) ∧ acc.length < sizeLine ∧ Pv (i + 1) (upd H4 D (.lst (acc ++ [y]))) else Pv (i + 1) H3) (hd : ∀ H, Pv xs.length H → Qd H) :
    ∃ W : Nat → Nat → Hp → Prop, (∃ m, W 0 m (upd H1 D (.lst []))) ∧ ∀ i m H, W i m H →
      ((Itl K a).stop i H ∧ Qd H) ∨ ((Itl K a).go i H ∧ ∃ Nx : Hp → Prop, (∀ H', Nx H' → ∃ m', m' < m ∧ W (i + 1) m' H') ∧ ∀ x H', (Itl K a).yld i H x H' → g x (wipe σ vs) H' fun σ2 H2 => wipe σ2 vs = wipe σ vs ∧ tt σ2 H2 fun b H3 =>
        if b = true then te σ2 H3 fun y H4 => ∃ acc, H4 D = some (.lst acc) ∧ acc.length < sizeLine ∧ Nx (upd H4 D (.lst (acc ++ [y]))) else Nx H3) := by
  refine ⟨fun i m H => m = xs.length - i ∧ i ≤ xs.length ∧ Pv i H, ⟨xs.length, by simp, Nat.zero_le _, h0⟩, ?_⟩
  rintro i m H ⟨rfl, hi, p⟩
  have q := hl i H hi p
  by_cases hlt : i < xs.length
  · refine .inr ⟨⟨xs, xs[i], q, by simp [hlt]⟩, Pv (i + 1), fun H' p' => ⟨xs.length - (i + 1), by omega, rfl, hlt, p'⟩, fun x H' y => ?_⟩
    obtain ⟨e, y⟩ := y
    subst e
    exact hs i x _ (y xs q) p
  · have e : i = xs.length := by omega
    subst e
    exact .inl ⟨⟨xs, q, Nat.le_refl _⟩, hd H p⟩
def blkC (N : List Str) (sc scope : Scope) (own : List (Str × Nat)) : Bool :=
  (match scope.kind with | .function => true | _ => false) && (scope.names.all fun y => decide (scope.names.lookup y.1 = some y.2)) && (own.all fun p => decide (N[p.2]? = some p.1)) &&
    (scope.names.all fun y => match y.2 with
      | .free => (match sc.names.lookup y.1 with | some .cell => true | some .free => true | _ => false)
      | .local => decide (y.1 ∈ own.map (·.1)) || decide (y.1 ∉ N)
      | .cell => decide (y.1 ∈ own.map (·.1)) || decide (y.1 ∉ N)
      | _ => true)
theorem blkOk_by {N : List Str} {sc scope : Scope} {own : List (Str × Nat)} (h : blkC N sc scope own = true) : BlkOk N sc scope own := by
  unfold blkC at h
  simp only [Bool.and_eq_true, List.all_eq_true, decide_eq_true_eq] at h
  obtain ⟨⟨⟨h1, h2⟩, h3⟩, h4⟩ := h
  refine ⟨?_, h2, h3, fun y hy e => ?_, fun y hy e => ?_⟩
  · split at h1
    · assumption
    · cases h1
  · have q := h4 y hy
    simp only [e] at q
    split at q <;> first | exact .inl (by assumption) | exact .inr (by assumption) | cases q
  · have q := h4 y hy
    rcases e with e | e <;> (simp only [e, Bool.or_eq_true, decide_eq_true_eq] at q; exact q)
end L2
namespace L2
open PySem PySem.Spec PyProof.Rows
end L2
namespace L2
open PySem PySem.Spec PyProof.Rows
end L2
namespace L2
open PySem PySem.Spec PyProof.Rows
end L2
namespace L2
open PySem PySem.Spec PyProof.Rows
section
variable {X : Cx} {pins : List (Addr × Obj)} {σ : St} {H : Hp} {s : Shared} {h' : Heap}
theorem Inv.turnedNew {t' : Nat} {ch : List Addr} {T : Addr} {ob : HO} (I : Inv X pins σ H s) (k : ∀ b o, b ∉ ch → s.heap.get? b = some o → h'.get? b = some o) (hf : ∀ b ∈ ch, FpOk X pins H b) (hT : s.heap.objs.size ≤ T)
    (new : ObjOk X.prog X.w (upd H T ob) h' T ob) : Inv X pins σ (upd H T ob) { s with heap := h', toks := t' } := by
  have hn : H T = none := I.hok.fresh hT
  have nit : ∀ b u, H b = some u → b ∉ ch := fun b u e z => by
    have q := (hf b z).1
    rw [q] at e; cases e
  refine I.step (g' := s.gens) (d' := s.drawn) (ch := ch) (fun b hb => ⟨(hf b hb).2.2.2.1, (hf b hb).2.1, (hf b hb).2.2.2.2.1, (hf b hb).2.2.2.2.2⟩) (fun b o _ _ hc e _ => k b o hc e) (fun b o _ _ hc e _ => ⟨o.slots, k b o hc e⟩)
    (fun b o _ e n => ?_) (fun b o hc e => ⟨o, k b o hc e⟩) (fun b xs e => ?_) (fun b o u e => ?_) (fun b ps e => ⟨#[], ?_⟩) (fun m hm => ?_) (fun b u e => ?_) I.bare
  · rw [upd_ne (Nat.ne_of_lt (Nat.lt_of_lt_of_le (Heap.lt_size e) hT))]; exact n
  · rw [upd_ne (ne_of_none e hn)]; exact e
  · rw [upd_ne (ne_of_none e hn)]; exact e
  · rw [upd_ne (ne_of_none e hn), e]; simp
  · obtain ⟨o, es, ep, ho, r⟩ := hm
    exact ⟨o, es, ep, k _ o (fun z => (hf _ z).2.1 rfl) ho, r⟩
  · by_cases hb : b = T
    · subst hb
      rw [upd_same] at e
      cases e
      exact new
    · rw [upd_ne hb] at e
      refine (I.hok b u e).stay (fun c v hc q => k c v ?_ q) (fun c q => by rw [upd_ne (ne_of_none q hn)]; exact q) fun c xs q => by rw [upd_ne (ne_of_none q hn)]; exact q
      rcases hc with z | z
      · rw [z]; exact nit b u e
      · exact nit c _ z
end
def Ite (K : PySem.W.Frag) (a : Addr) : It :=
  ⟨fun i H => ∃ (xs : List V) (x : V), SqL K H a xs ∧ xs[i]? = some x, fun i H v H' => ∃ T x, v = .ref T ∧ H T = none ∧ H' = upd H T (.tup [.int (i : Nat), x]) ∧ ∀ xs, SqL K H a xs → xs[i]? = some x, fun i H => ∃ xs : List V, SqL K H a xs ∧ xs.length ≤ i⟩
theorem turn_enum {P : Program} {w : World} {K : PySem.W.Frag} {elts : List Expr} {kk : Nat} {tpos : Pos} (a e it : Addr) :
    Turn P w K (.Tuple elts kk tpos) (Ite K a) [e, it] e (fun i h => (∃ old, IsEnum h e it ((i : Nat) : Int) old) ∧ h.IsListIter it a i ∧ e ≠ it) where
  mem := by simp
  obj := fun i h st b hb => by
    obtain ⟨⟨old, he⟩, ⟨o, ho, hc, hd⟩, _⟩ := st
    have e' : b = e ∨ b = it := by simpa using hb
    rcases e' with z | z
    · rw [z]; exact ⟨_, he, fun v q => nomatch q⟩
    · rw [z]; exact ⟨o, ho, fun v q => by rw [hd] at q; cases q⟩
  keep := fun i h h' st k => let ⟨⟨old, he⟩, hi, hne⟩ := st; ⟨⟨old, k e (by simp) _ he⟩, hi.at fun o q => k it (by simp) o q, hne⟩
  item := by
    intro X hP hw hK hc i pins s σ H E I hf st hg
    subst hP hw hK
    obtain ⟨⟨old, he⟩, hit, hne⟩ := st
    obtain ⟨xs, x, hq, hx⟩ := hg
    obtain ⟨its, rv, p, hz⟩ := I.list hq
    obtain ⟨u, hu, ru⟩ := rv.get hx
    have hel : e < s.heap.objs.size := Heap.lt_size he
    have hil : it < s.heap.objs.size := by obtain ⟨_, q, _⟩ := hit; exact Heap.lt_size q
    refine wpAny_pyNext_enum_item he hit p.isList (x := u) (by simpa using hu) hne fun h' ho hit' hT hsz hk => ?_
    refine ⟨_, rfl, wpAny_letOwnedTupleGo_enum (s := { s with heap := h', toks := s.toks + 1 }) ho fun h'' he' sb => ?_⟩
    have hT2 : h''.get? s.heap.objs.size = some { cls := .type "tuple", data := .seq #[.int i s.toks, u] } := (sb.2 _ (Nat.ne_of_gt hel)).trans hT
    have new : ObjOk X.prog X.w (upd H s.heap.objs.size (.tup [.int (i : Nat), x])) h'' s.heap.objs.size (.tup [.int (i : Nat), x]) :=
      ⟨by show 2 ≤ sizeLine; decide, [.int i s.toks, u], .cons ⟨_, rfl⟩ (.cons ru .nil), ⟨_, hT2, rfl, _, rfl⟩⟩
    have I1 : Inv X pins σ (upd H s.heap.objs.size (.tup [.int (i : Nat), x])) { s with heap := h'', toks := s.toks + 1 } :=
      I.turnedNew (ch := [e, it]) (fun b ob hb q => (sb.2 b (fun z => hb (by simp [z]))).trans (hk b ob (fun z => hb (by simp [z])) (fun z => hb (by simp [z])) q)) hf (Nat.le_refl _) new
    refine ⟨.ref s.heap.objs.size, _, I1, rfl, ⟨_, x, rfl, I.hok.fresh (Nat.le_refl _), rfl, fun ys hy => by rw [I.list_inj hy hq]; exact hx⟩, ⟨⟨u, ?_⟩, hit'.at fun o q => (sb.2 it (Ne.symm hne)).trans q, hne⟩, fun b hb => ?_⟩
    · have e1 : ((i + 1 : Nat) : Int) = (i : Int) + 1 := by omega
      rw [e1]; exact he'
    · have hb' : b < s.heap.objs.size := by
        have e' : b = e ∨ b = it := by simpa using hb
        rcases e' with z | z
        · rw [z]; exact hel
        · rw [z]; exact hil
      rw [upd_ne (Nat.ne_of_lt hb')]
      exact (hf b hb).1
  done := by
    intro X hP hw hK hc i pins s σ H E I hf st hg
    subst hP hw hK
    obtain ⟨⟨old, he⟩, hit, hne⟩ := st
    obtain ⟨xs, hq, hx⟩ := hg
    obtain ⟨its, rv, p, hz⟩ := I.list hq
    obtain ⟨f0, f1, f2, f3, f4, f5⟩ := hf it (by simp)
    have hl := rv.length
    exact wpAny_pyNext_enum_end (I.ok.hd hc) he hit p.isList (by simp; omega) fun h' eb => ⟨rfl, I.turned (t' := s.toks) (fun b o hb q => eb b o hb q) f0 f1 f3 f4 f5⟩
  self := fun A i s Q E st h => let ⟨⟨_, he⟩, _⟩ := st; wpAny_pyIter_enum he h
def iEnum (K : PySem.W.Frag) (ta : TA) : TI := fun σ H R => ta σ H fun vs H1 => ∃ a xs, vs = [.ref a] ∧ SqL K H1 a xs ∧ R (Ite K a) H1
theorem pi_enum {X : Cx} {e : Expr} {ta : TA} {p pos tpos : Pos} {elts : List Expr} {kk : Nat} (hg : Gl X "enumerate") (hm : X.mg "enumerate" = none) (ha : PA X [e] ta) (hs : starEach [e] X.env = [(false, eval e X.env)] := by rfl) :
    PI X (.Tuple elts kk tpos) (.Call (.Name "enumerate" p) [e] [] pos) (iEnum X.K ta) := by
  intro pins s σ H R I h
  refine Call_ (ld_blt I hg hm boot_enumerate (PyProof.Rows.callWith_type1 (thn (ha pos pins s σ H _ I h) fun us s1 ⟨vs, H1, I1, r1, q1⟩ => ?_) hs rfl))
  obtain ⟨a, xs, ex, hq, q⟩ := q1
  subst ex
  cases r1 with
  | cons r rr =>
    cases rr
    cases r
    obtain ⟨its, rv, p', hz⟩ := I1.list hq
    refine call_enumerate_list p'.isList fun h' he hit hsz hk => wpAny_pyIter_enum he ?_
    have I2 : Inv X pins σ H1 { s1 with heap := h' } := I1.kept (t' := s1.toks) hk
    refine ⟨s1.heap.objs.size + 1, [s1.heap.objs.size + 1, s1.heap.objs.size], _, _, H1, rfl, I2, turn_enum a (s1.heap.objs.size + 1) s1.heap.objs.size, ⟨⟨.none, he⟩, hit, Nat.succ_ne_self _⟩, fun b hb => ?_, q⟩
    have e' : b = s1.heap.objs.size + 1 ∨ b = s1.heap.objs.size := by simpa using hb
    have hle : s1.heap.objs.size ≤ b := by
      rcases e' with z | z
      · rw [z]; exact Nat.le_add_right _ _
      · rw [z]; exact Nat.le_refl _
    exact I1.fpOk hle (I1.hok.fresh hle)
end L2
section 
namespace Bits
open PySem PyProof.Rows
end Bits
end 
section 
namespace TL
open PySem PySem.Builtin PySem.Builtin.Str PySem.StrLaws
end TL
end 
namespace L2
open PySem PySem.Spec PyProof.Rows
end L2
namespace L2
open PySem PySem.Spec PyProof.Rows
end L2
namespace Att
open PySem PySem.W PySem.Calls PyProof.Rows
end Att
namespace L2
open PySem PySem.Spec PyProof.Rows
end L2
namespace L2
open PySem PySem.Spec PyProof.Rows
end L2
/- THE LAST THEOREM (shape; LID, My.* are yours):
   My.Adr: a structure of the addresses that your layer names (classes, functions); My.Txt K t: a structure (Prop) of the equations over K;
   My.txt_mk : {K} {implicit addresses ..} (e1 : nsIn K mainGlobals "law" = some (some (.ref f))) (e2 : K.lookup f = some ⟨oc, od, .func (fnOf "law" "law" params body scope dV kV doc pm an cdv ct), sl⟩) (e3 : codeIn K cdv "law" = true) .. : ∃ t, My.Txt K t
set_option maxRecDepth 100000 in
set_option maxHeartbeats 0 in
theorem PySem.Challenge.cw_LID_holds : PySem.Challenge.rw_LID.Holds := by
  w_on; o_law; k_head; (case hw => w_witness2)
  k_fill
  refine L2.walk_of (l := PySem.Challenge.rw_LID) (n := 63) (k := 40) (x := "script") (CX := fun w => ..) (sp := fun _ => My.sp_law) rfl (by decide) rfl ⟨rfl, by decide, by decide⟩ (fun w h Y => PySem.W.kIn_of Y) ?F ?S ?C
  case F =>
    intro w mg fa h KX G hmg
    have T : ∃ t, My.Txt (L2.KOf KX) t := by
      dsimp only [L2.KOf]                          -- K must stand as «<heap const> w.params» for k_is
      refine' My.txt_mk ?e1 ?e2 ?e3 ..
      (case e1 => PySem.W.k_is)                    -- in the order: a name -> its address -> its object -> its parts
      (case e2 => PySem.W.k_is)
      ..
    obtain ⟨t, T⟩ := T
    have e0 := hmg.symm.trans (PySem.W.mg_of KX G T.law)
    cases e0                                       -- fa is the law's own address
    exact ⟨_, fun s u => .of_eq rfl, fun base kb nb => My.law_fn T kb nb⟩     -- if «.of_eq rfl» comes too early: refine' ⟨_, ?b, fun base kb nb => My.law_fn T kb nb⟩; exact fun s u => .of_eq rfl
  case S => exact fun w H a ns hl hO hS => ..
  case C => exact ..
(the tactic k_is has no namespace: write k_is) -/
namespace L2
open PySem PySem.Spec PyProof.Rows
def inClass (s : Stmt) (j : Nat) : Stmt := match s with
  | .ClassDef _ _ _ body _ _ _ _ _ _ _ => body.getD j (.Pass ⟨0, 0, 0, 0⟩)
  | _ => .Pass ⟨0, 0, 0, 0⟩
def defArgs (s : Stmt) : Arguments := match s with
  | .FunctionDef _ a _ _ _ _ _ _ _ _ => a
  | _ => { posonlyargs := [], args := [], vararg := none, kwonlyargs := [], kw_defaults := [], kwarg := none, defaults := [] }
def defBody (s : Stmt) : List Stmt := match s with
  | .FunctionDef _ _ b _ _ _ _ _ _ _ => b
  | _ => []
def defScope (s : Stmt) : Scope := match s with
  | .FunctionDef _ _ _ _ _ _ sc _ _ _ => sc
  | _ => { kind := .function, names := [], isGenerator := false, isCoroutine := false }
abbrev CX0 : CXT := fun _ _ _ _ _ _ => False
abbrev E0 : XK := fun _ _ _ => False
theorem pass0 {X : Cx} : Passes CX0 X E0 := fun _ _ _ _ _ _ _ h => h.elim
structure Fun (K : PySem.W.Frag) (x qual : Str) (st : Stmt) (f : Addr) (fd : FuncData) : Prop where
  ex : ∃ (oc : Value) (od : Option Addr) (kV doc pm : Value) (an : Option Addr) (cdv ct : Value) (osl : Array (Option Value)),
    fd = PySem.W.fnOf x qual (defArgs st) (defBody st) (defScope st) .none kV doc pm an cdv ct ∧ K.lookup f = some ⟨oc, od, .func fd, osl⟩ ∧ PySem.W.codeIn K cdv qual = true
  kp : PySem.W.keepIn K (.ref f) = true
section
variable {P : Program} {w : World} {K : PySem.W.Frag} {mg : Str → Option Value} {base : Heap}
theorem Fun.ok {x qual : Str} {st : Stmt} {f : Addr} {fd : FuncData} {N ps : List Str} {k : Nat} {sp : Sp} (F : Fun K x qual st f fd) (S : FnScope N ps (defScope st)) (len : ∀ vs H Q E, sp vs H Q E → vs.length = ps.length)
    (hbody : ∀ (cdv : Value) (A : Around) (outer : List Env) (s : Shared) (H : Hp) (vs : List V) (Q : VK) (E : XK), Room k (A.deeper (envOfC qual (defScope st) s.heap.objs.size f cdv)) → sp vs H Q E →
      ∃ t, PSs (cxOf CX0 P w K mg base N qual (defScope st) f cdv A outer s H E).nox (defBody st) t ∧ t { nx := fun _ H' => Q .non H', rt := Q } (start N vs) H) : FnOk P w K mg base CX0 (k + 1) f fd ps sp := by
  obtain ⟨oc, od, kV, doc, pm, an, cdv, ct, osl, rfl, lk, hcd⟩ := F.ex
  refine fn_of lk hcd S len fun A outer s H vs Q E hr hsp => ?_
  obtain ⟨t, h, q⟩ := hbody cdv A outer s H vs Q E hr hsp
  exact ⟨t, h.nox, q⟩
theorem Fun.binds {x qual : Str} {st : Stmt} {f : Addr} {fd : FuncData} {ps : List Str} (F : Fun K x qual st f fd)
    (h : ∀ (kV doc pm : Value) (an : Option Addr) (cdv ct : Value) (us : List Value), us.length = ps.length → bindArgs (PySem.W.fnOf x qual (defArgs st) (defBody st) (defScope st) .none kV doc pm an cdv ct) ⟨us, []⟩ = pure (ps.zip us)) : Binds K fd ps [] := by
  obtain ⟨oc, od, kV, doc, pm, an, cdv, ct, osl, rfl, lk, hcd⟩ := F.ex
  exact .all (h kV doc pm an cdv ct)
theorem fun_mk {x qual : Str} {st : Stmt} {f : Addr} {oc : Value} {od an : Option Addr} {osl : Array (Option Value)} {kV doc pm cdv ct : Value} (l : K.lookup f = some ⟨oc, od, .func (PySem.W.fnOf x qual (defArgs st) (defBody st) (defScope st) .none kV doc pm an cdv ct), osl⟩)
    (c : PySem.W.codeIn K cdv qual = true) (k : PySem.W.keepIn K (.ref f) = true) : Fun K x qual st f (PySem.W.fnOf x qual (defArgs st) (defBody st) (defScope st) .none kV doc pm an cdv ct) := ⟨⟨oc, od, kV, doc, pm, an, cdv, ct, osl, rfl, l, c⟩, k⟩
end
section
variable {X : Cx}
theorem pv (i : Nat) {x : Str} {pos : Pos} (hN : X.N[i]? = some x := by rfl) (hv : Vis X.env.scope x := by first | exact Or.inl rfl | exact Or.inr (Or.inl rfl) | exact Or.inr (Or.inr rfl)) (hd : (x == ("__debug__" : Str)) = false := by decide)
    (hcd : (x == ("__classdict__" : Str)) = false := by decide) : PE X (.Name x pos) (tVar i) := pe_var hN hv hd hcd
end
theorem iteF {A B : Prop} (h : B) : if false = true then A else B := by
  rw [if_neg Bool.false_ne_true]
  exact h
theorem iteT {A B : Prop} (h : A) : if true = true then A else B := by
  rw [if_pos rfl]
  exact h
theorem ite2 {c A B : Prop} [Decidable c] (h1 : c → A) (h2 : ¬ c → B) : if c then A else B := by
  by_cases h : c
  · rw [if_pos h]
    exact h1 h
  · rw [if_neg h]
    exact h2 h
def Same (H H' : Hp) : Prop := ∀ b o, H b = some o → H' b = some o
theorem Same.refl (H : Hp) : Same H H := fun _ _ h => h
theorem Same.trans {H H1 H2 : Hp} (a : Same H H1) (b : Same H1 H2) : Same H H2 := fun c o h => b c o (a c o h)
theorem Same.free {H H' : Hp} (e : Same H H') {l : Addr} (h : H' l = Option.none) : H l = Option.none := by
  cases q : H l with
  | none => rfl
  | some o =>
    rw [e l o q] at h
    cases h
theorem Same.seq {K : PySem.W.Frag} {H H' : Hp} {a : Addr} {xs : List V} (e : Same H H') (h : SqL K H a xs) : SqL K H' a xs := by
  rcases h with (h | ⟨o, h⟩) | h
  · exact .inl (.inl (e _ _ h))
  · exact .inl (.inr ⟨o, e _ _ h⟩)
  · exact .inr h
theorem at_of {xs : List V} {z : Int} {j : Nat} {v : V} (e : z = (j : Int)) (h : xs[j]? = some v) : atI xs z = some v := by
  rw [e]
  exact atI_nat h
theorem Same.made {H H1 : Hp} {x dx C : Addr} (nx : H x = Option.none) (nd : H dx = Option.none) (k : ∀ b o, (upd (upd H dx (.own x)) x (.ins C dx [])) b = some o → b ≠ x → H1 b = some o) : Same H H1 := fun b o e =>
  k b o (by rw [upd_ne (ne_of_none e nx), upd_ne (ne_of_none e nd)]; exact e) (ne_of_none e nx)
end L2

end
section
section
namespace L2
open PySem PySem.Spec PyProof.Rows
open PySem.W (WData Codec OpenSpec Well WellAll ReadsW ReadsAllW)
mutual
/-- x stands for the datum d, lists and tuples all the way -/
inductive Dw (K : PySem.W.Frag) (H : Hp) : V → WData → Prop
  | non : Dw K H .non .none
  | bl (b : Bool) : Dw K H (.bl b) (.bool b)
  | int (i : Int) : Dw K H (.int i) (.int i)
  | str (x : Str) : Dw K H (.str x) (.str x)
  | byt (b : Array UInt8) : Dw K H (.byt b) (.bytes b.toList)
  | lst {a : Addr} {xs : List V} {ds : List WData} : SqL K H a xs → DwAll K H xs ds → Dw K H (.ref a) (.list ds)
  | tup {a : Addr} {xs : List V} {ds : List WData} : SqT K H a xs → DwAll K H xs ds → Dw K H (.ref a) (.tuple ds)
inductive DwAll (K : PySem.W.Frag) (H : Hp) : List V → List WData → Prop
  | nil : DwAll K H [] []
  | cons {v : V} {vs : List V} {d : WData} {ds : List WData} : Dw K H v d → DwAll K H vs ds → DwAll K H (v :: vs) (d :: ds)
end
theorem dw_ints {K : PySem.W.Frag} {H : Hp} : ∀ ns : List Int, DwAll K H (ns.map V.int) (ns.map WData.int)
  | [] => .nil
  | n :: r => .cons (.int n) (dw_ints r)
theorem ints_dw {K : PySem.W.Frag} {H : Hp} : ∀ (ns : List Int) (xs : List V), DwAll K H xs (ns.map WData.int) → xs = ns.map V.int
  | [], xs, h => by
    cases h
    rfl
  | n :: r, xs, h => by
    cases h with
    | cons h1 h2 =>
      cases h1
      rw [ints_dw r _ h2] <;> rfl
section
variable {P : Program} {w : World} {K : PySem.W.Frag} {H : Hp} {h : Heap} {R : PySem.W.WRecords} {cl : Str → Option Addr}
theorem sqL_at {a : Addr} {xs : List V} (hok : HOk P w H h) (KX : K.In h) (q : SqL K H a xs) : ∃ (its : List Value) (o : Obj) (n : Nat), Vals xs its ∧ h.get? a = some o ∧ o.cls = .type "list" ∧ o.data = .seq its.toArray n := by
  rcases q with q | ⟨o, its, n, e, hc, _, hd, _, hv⟩
  · obtain ⟨_, its, n, hv, e⟩ := (show ObjOk P w H h a (.lst xs) from q.ok hok)
    exact ⟨its, _, n, hv, e, rfl, rfl⟩
  · exact ⟨its.toList, o, n, hv, KX _ _ e, hc, by simp [hd]⟩
theorem sqT_at {a : Addr} {xs : List V} (hok : HOk P w H h) (KX : K.In h) (q : SqT K H a xs) : ∃ (its : List Value) (o : Obj) (n : Nat), Vals xs its ∧ h.get? a = some o ∧ o.cls = .type "tuple" ∧ o.data = .seq its.toArray n := by
  rcases q with q | ⟨o, its, n, e, hc, hd, _, hv⟩
  · obtain ⟨_, its, hv, o, e, hc, n, hd⟩ := (show ObjOk P w H h a (.tup xs) from q.ok hok)
    exact ⟨its, o, n, hv, e, hc, hd⟩
  · exact ⟨its.toList, o, n, hv, KX _ _ e, hc, by simp [hd]⟩
mutual
theorem Dw.reads (hok : HOk P w H h) (KX : K.In h) : ∀ (d : WData) (v : V) (u : Value), Dw K H v d → RelV v u → ∃ as, ReadsW R cl h u d as
  | .none, _, _, x, r => by
    cases x
    cases r
    exact ⟨_, ReadsW.none⟩
  | .bool b, _, _, x, r => by
    cases x
    cases r
    exact ⟨_, ReadsW.bool b⟩
  | .int i, _, _, x, r => by
    cases x
    obtain ⟨t, rfl⟩ := r
    exact ⟨_, ReadsW.int i t⟩
  | .str s, _, _, x, r => by
    cases x
    obtain ⟨t, rfl⟩ := r
    exact ⟨_, ReadsW.str s t⟩
  | .bytes b, _, _, x, r => by
    cases x
    obtain ⟨t, rfl⟩ := r
    exact ⟨_, ReadsW.bytes _ t⟩
  | .list ds, _, _, x, r => by
    cases x with
    | lst hs ha =>
      cases r
      obtain ⟨its, o, n, rv, ho, hc, hd⟩ := sqL_at hok KX hs
      obtain ⟨as, hr⟩ := Dw.readsAll hok KX ds _ its ha rv
      exact ⟨_, ReadsW.list ho hc hd hr⟩
  | .tuple ds, _, _, x, r => by
    cases x with
    | tup hs ha =>
      cases r
      obtain ⟨its, o, n, rv, ho, hc, hd⟩ := sqT_at hok KX hs
      obtain ⟨as, hr⟩ := Dw.readsAll hok KX ds _ its ha rv
      exact ⟨_, ReadsW.tuple ho hc hd hr⟩
  | .float _, _, _, x, _ => by cases x
  | .dict _, _, _, x, _ => by cases x
  | .bytearray _, _, _, x, _ => by cases x
  | .set _, _, _, x, _ => by cases x
  | .frozenset _, _, _, x, _ => by cases x
  | .obj _ _, _, _, x, _ => by cases x
theorem Dw.readsAll (hok : HOk P w H h) (KX : K.In h) : ∀ (ds : List WData) (vs : List V) (us : List Value), DwAll K H vs ds → Vals vs us → ∃ as, ReadsAllW R cl h us ds as
  | [], _, _, x, r => by
    cases x
    cases r
    exact ⟨_, ReadsAllW.nil⟩
  | d :: ds, _, _, x, r => by
    cases x with
    | cons h1 h2 =>
      cases r with
      | cons r1 r2 =>
        obtain ⟨as, q1⟩ := Dw.reads hok KX d _ _ h1 r1
        obtain ⟨bs, q2⟩ := Dw.readsAll hok KX ds _ _ h2 r2
        exact ⟨_, ReadsAllW.cons q1 q2⟩
end
end
mutual
/-- data that a codec tells -/
def plW : WData → Bool
  | .none => true
  | .bool _ => true
  | .int _ => true
  | .str _ => true
  | .bytes _ => true
  | .list xs => plWs xs
  | .tuple xs => plWs xs
  | _ => false
def plWs : List WData → Bool
  | [] => true
  | x :: r => plW x && plWs r
end
theorem plWs_map {α : Type} {f : α → WData} (h : ∀ a, plW (f a) = true) : ∀ l : List α, plWs (l.map f) = true
  | [] => rfl
  | x :: r => by
    show (plW (f x) && plWs (r.map f)) = true
    rw [h x, plWs_map h r] <;> rfl
theorem pl_enc : ∀ (c : Codec) (a : c.denote), plW (c.enc a) = true
  | .unit, _ => rfl
  | .bool, _ => rfl
  | .int _ _, _ => rfl
  | .nat _ _, _ => rfl
  | .u8, _ => rfl
  | .bytes _ _, _ => rfl
  | .text _ _ _ _, _ => rfl
  | .list _ _ c, a => plWs_map (fun x => pl_enc c x) a
  | .pair c d, a => by
    show (plW (c.enc a.1) && (plW (d.enc a.2) && true)) = true
    rw [pl_enc c a.1, pl_enc d a.2] <;> rfl
  | .triple c d e, a => by
    show (plW (c.enc a.1) && (plW (d.enc a.2.1) && (plW (e.enc a.2.2) && true))) = true
    rw [pl_enc c a.1, pl_enc d a.2.1, pl_enc e a.2.2] <;> rfl
  | .option c, none => rfl
  | .option c, some x => pl_enc c x
theorem pl_encAll : ∀ (cs : List Codec) (a : Codec.denoteAll cs), plWs (Codec.encAll cs a) = true
  | [], _ => rfl
  | c :: cs, a => by
    show (plW (c.enc a.1) && plWs (Codec.encAll cs a.2)) = true
    rw [pl_enc c a.1, pl_encAll cs a.2] <;> rfl
theorem weight_mem : ∀ {xs : List WData} {d : WData}, d ∈ xs → d.weight ≤ WData.weightAll xs
  | [], d, h => absurd h (by simp)
  | x :: r, d, h => by
    show d.weight ≤ x.weight + 1 + WData.weightAll r
    rcases List.mem_cons.mp h with e | m
    · rw [e]
      omega
    · have z := weight_mem m
      omega
def toV : Value → V
  | .none => .non
  | .bool b => .bl b
  | .int i _ => .int i
  | .str x _ => .str x
  | .bytes b _ => .byt b
  | .ref a => .ref a
  | _ => .non
def OkU (A : List Addr) : Value → Prop
  | .none => True
  | .bool _ => True
  | .int _ _ => True
  | .str _ _ => True
  | .bytes _ _ => True
  | .ref a => a ∈ A
  | _ => False
theorem OkU.mono {A B : List Addr} (h : ∀ a ∈ A, a ∈ B) : ∀ {u : Value}, OkU A u → OkU B u := fun {u} x => by
  cases u with
  | ref a => exact h a x
  | none => trivial
  | bool b => trivial
  | int i t => trivial
  | str s t => trivial
  | bytes b t => trivial
  | _ => exact False.elim x
theorem relV_toV {A : List Addr} {u : Value} (x : OkU A u) : RelV (toV u) u := by
  cases u with
  | ref a => rfl
  | none => rfl
  | bool b => rfl
  | int i t => exact ⟨t, rfl⟩
  | str s t => exact ⟨t, rfl⟩
  | bytes b t => exact ⟨t, rfl⟩
  | _ => exact False.elim x
theorem vals_toV {A : List Addr} : ∀ {vs : List Value}, (∀ u ∈ vs, OkU A u) → Vals (vs.map toV) vs
  | [], _ => .nil
  | u :: r, h => .cons (relV_toV (h u (List.mem_cons_self ..))) (vals_toV fun x hx => h x (List.mem_cons_of_mem _ hx))
def ArgOb (h : Heap) (A : List Addr) (a : Addr) : Prop := ∃ vs : List Value, vs.length ≤ sizeLine ∧ (∀ u ∈ vs, OkU A u) ∧
  (h.get? a = some { cls := .type "list", data := .seq vs.toArray } ∨ h.get? a = some { cls := .type "tuple", data := .seq vs.toArray })
theorem ArgOb.mono {h : Heap} {A B : List Addr} {a : Addr} (k : ∀ a ∈ A, a ∈ B) (x : ArgOb h A a) : ArgOb h B a := by
  obtain ⟨vs, h1, h2, h3⟩ := x
  exact ⟨vs, h1, fun u hu => (h2 u hu).mono k, h3⟩
theorem wellAll_len {P : Params} {h : Heap} : ∀ {vs : List Value} {ds : List WData}, WellAll P h vs ds → vs.length = ds.length
  | _, _, .nil => rfl
  | _, _, .cons _ b => by
    show _ + 1 = _ + 1
    rw [wellAll_len b]
theorem well_list {P : Params} {h : Heap} {v : Value} {ds : List WData} (x : Well P h v (.list ds)) : ∃ (a : Addr) (vs : List Value), v = .ref a ∧ h.get? a = some { cls := .type "list", data := .seq vs.toArray } ∧ WellAll P h vs ds := by
  cases x with
  | list ho hall => exact ⟨_, _, rfl, ho, hall⟩
theorem well_tuple {P : Params} {h : Heap} {v : Value} {ds : List WData} (x : Well P h v (.tuple ds)) : ∃ (a : Addr) (vs : List Value), v = .ref a ∧ h.get? a = some { cls := .type "tuple", data := .seq vs.toArray } ∧ WellAll P h vs ds := by
  cases x with
  | tuple ho hall => exact ⟨_, _, rfl, ho, hall⟩
theorem well_cons {P : Params} {h : Heap} {us : List Value} {d : WData} {ds : List WData} (x : WellAll P h us (d :: ds)) : ∃ (v : Value) (vs : List Value), us = v :: vs ∧ Well P h v d ∧ WellAll P h vs ds := by
  cases x with
  | cons a b => exact ⟨_, _, rfl, a, b⟩
theorem line_of {n : Nat} (h : n ≤ 1048576) : n ≤ sizeLine := Nat.le_trans h (by decide)
section
variable {P : Params} {h : Heap}
mutual
theorem area_one : ∀ (d : WData) (v : Value), Well P h v d → plW d = true → d.weight ≤ 1048576 → ∃ A : List Addr, OkU A v ∧ ∀ a ∈ A, ArgOb h A a
  | .none, _, x, _, _ => by
    cases x
    exact ⟨[], trivial, fun a m => absurd m (by simp)⟩
  | .bool b, _, x, _, _ => by
    cases x
    exact ⟨[], trivial, fun a m => absurd m (by simp)⟩
  | .int i, _, x, _, _ => by
    cases x
    exact ⟨[], trivial, fun a m => absurd m (by simp)⟩
  | .str s, _, x, _, _ => by
    cases x
    exact ⟨[], trivial, fun a m => absurd m (by simp)⟩
  | .bytes b, _, x, _, _ => by
    cases x
    exact ⟨[], trivial, fun a m => absurd m (by simp)⟩
  | .list ds, _, x, p, z => by
    obtain ⟨a, vs, rfl, ho, hall⟩ := well_list x
    have z2 : WData.weightAll ds ≤ 1048576 := z
    obtain ⟨A, h1, h2⟩ := area_all ds _ hall p fun d hd => Nat.le_trans (weight_mem hd) z2
    have k : ∀ b ∈ A, b ∈ a :: A := fun b hb => List.mem_cons_of_mem _ hb
    refine ⟨a :: A, List.mem_cons_self .., fun b hb => ?_⟩
    rcases List.mem_cons.mp hb with e | m
    · rw [e]
      exact ⟨vs, line_of (by rw [wellAll_len hall]; exact Nat.le_trans (PySem.W.length_le_weightAllW ds) z2), fun u hu => (h1 u hu).mono k, .inl ho⟩
    · exact (h2 b m).mono k
  | .tuple ds, _, x, p, z => by
    obtain ⟨a, vs, rfl, ho, hall⟩ := well_tuple x
    have z2 : WData.weightAll ds ≤ 1048576 := z
    obtain ⟨A, h1, h2⟩ := area_all ds _ hall p fun d hd => Nat.le_trans (weight_mem hd) z2
    have k : ∀ b ∈ A, b ∈ a :: A := fun b hb => List.mem_cons_of_mem _ hb
    refine ⟨a :: A, List.mem_cons_self .., fun b hb => ?_⟩
    rcases List.mem_cons.mp hb with e | m
    · rw [e]
      exact ⟨vs, line_of (by rw [wellAll_len hall]; exact Nat.le_trans (PySem.W.length_le_weightAllW ds) z2), fun u hu => (h1 u hu).mono k, .inr ho⟩
    · exact (h2 b m).mono k
  | .float _, _, _, p, _ => Bool.noConfusion (show false = true from p)
  | .dict _, _, _, p, _ => Bool.noConfusion (show false = true from p)
  | .bytearray _, _, _, p, _ => Bool.noConfusion (show false = true from p)
  | .set _, _, _, p, _ => Bool.noConfusion (show false = true from p)
  | .frozenset _, _, _, p, _ => Bool.noConfusion (show false = true from p)
  | .obj _ _, _, _, p, _ => Bool.noConfusion (show false = true from p)
theorem area_all : ∀ (ds : List WData) (vs : List Value), WellAll P h vs ds → plWs ds = true → (∀ d ∈ ds, d.weight ≤ 1048576) → ∃ A : List Addr, (∀ u ∈ vs, OkU A u) ∧ ∀ a ∈ A, ArgOb h A a
  | [], _, x, _, _ => by
    cases x
    exact ⟨[], fun u m => absurd m (by simp), fun a m => absurd m (by simp)⟩
  | d :: ds, _, x, p, z => by
    obtain ⟨v, vs, rfl, x1, x2⟩ := well_cons x
    have q : plW d = true ∧ plWs ds = true := Bool.and_eq_true_iff.mp p
    obtain ⟨A, a1, a2⟩ := area_one d v x1 q.1 (z d (List.mem_cons_self ..))
    obtain ⟨B, b1, b2⟩ := area_all ds vs x2 q.2 fun e he => z e (List.mem_cons_of_mem _ he)
    have kA : ∀ b ∈ A, b ∈ A ++ B := fun b hb => List.mem_append.mpr (.inl hb)
    have kB : ∀ b ∈ B, b ∈ A ++ B := fun b hb => List.mem_append.mpr (.inr hb)
    refine ⟨A ++ B, fun u hu => ?_, fun b hb => ?_⟩
    · rcases List.mem_cons.mp hu with e | m
      · rw [e]
        exact a1.mono kA
      · exact (b1 u m).mono kB
    · rcases List.mem_append.mp hb with m | m
      · exact (a2 b m).mono kA
      · exact (b2 b m).mono kB
end
end
def hoOf (o : Obj) : Option HO := match o.data with
  | .seq vs _ => if (o.cls == Value.type "list") = true then some (.frz o (.lst (vs.toList.map toV))) else some (.frz o (.tup (vs.toList.map toV)))
  | _ => none
def argH (K : PySem.W.Frag) (h : Heap) (A : List Addr) : Hp := fun b => if b ∈ A then (if (K.lookup b).isNone = true then (h.get? b).bind hoOf else none) else none
def OnlyF (H : Hp) : Prop := ∀ b, H b = none ∨ ∃ o u, H b = some (.frz o u)
theorem hoOf_lst (vs : List Value) : hoOf { cls := .type "list", data := .seq vs.toArray } = some (.frz { cls := .type "list", data := .seq vs.toArray } (.lst (vs.map toV))) := by
  show (if (Value.type "list" == Value.type "list") = true then some (HO.frz { cls := .type "list", data := .seq vs.toArray } (.lst (vs.toArray.toList.map toV))) else some (HO.frz { cls := .type "list", data := .seq vs.toArray } (.tup (vs.toArray.toList.map toV)))) = _
  rw [if_pos (beq_self_eq_true _)]
theorem hoOf_tup (vs : List Value) : hoOf { cls := .type "tuple", data := .seq vs.toArray } = some (.frz { cls := .type "tuple", data := .seq vs.toArray } (.tup (vs.map toV))) := by
  show (if (Value.type "tuple" == Value.type "list") = true then some (HO.frz { cls := .type "tuple", data := .seq vs.toArray } (.lst (vs.toArray.toList.map toV))) else some (HO.frz { cls := .type "tuple", data := .seq vs.toArray } (.tup (vs.toArray.toList.map toV)))) = _
  rw [if_neg (by decide)]
section
variable {P : Program} {w : World} {K : PySem.W.Frag} {h : Heap} {A : List Addr}
theorem argH_at {b : Addr} {o : Obj} (hb : b ∈ A) (hk : K.lookup b = none) (e : h.get? b = some o) : argH K h A b = hoOf o := by
  unfold argH
  rw [if_pos hb, hk, if_pos (show (none : Option Obj).isNone = true from rfl), e] <;> rfl
theorem of_argH {b : Addr} {u : HO} (q : argH K h A b = some u) : b ∈ A ∧ K.lookup b = none := by
  unfold argH at q
  by_cases hb : b ∈ A
  · rw [if_pos hb] at q
    cases hk : K.lookup b with
    | none => exact ⟨hb, rfl⟩
    | some o =>
      rw [hk, if_neg (by simp)] at q
      cases q
  · rw [if_neg hb] at q
    cases q
theorem argH_is (ar : ∀ a ∈ A, ArgOb h A a) {b : Addr} {u : HO} (q : argH K h A b = some u) : K.lookup b = none ∧ ∃ vs : List Value, vs.length ≤ sizeLine ∧ (∀ u ∈ vs, OkU A u) ∧
    ((h.get? b = some { cls := .type "list", data := .seq vs.toArray } ∧ u = .frz { cls := .type "list", data := .seq vs.toArray } (.lst (vs.map toV))) ∨
     (h.get? b = some { cls := .type "tuple", data := .seq vs.toArray } ∧ u = .frz { cls := .type "tuple", data := .seq vs.toArray } (.tup (vs.map toV)))) := by
  obtain ⟨hb, hk⟩ := of_argH q
  obtain ⟨vs, h1, h2, h3⟩ := ar b hb
  refine ⟨hk, vs, h1, h2, ?_⟩
  rcases h3 with e | e
  · rw [argH_at hb hk e, hoOf_lst] at q
    exact .inl ⟨e, (Option.some.inj q).symm⟩
  · rw [argH_at hb hk e, hoOf_tup] at q
    exact .inr ⟨e, (Option.some.inj q).symm⟩
theorem argH_only (ar : ∀ a ∈ A, ArgOb h A a) : OnlyF (argH K h A) := fun b => by
  cases q : argH K h A b with
  | none => exact .inl rfl
  | some u =>
    obtain ⟨_, vs, _, _, ⟨_, e⟩ | ⟨_, e⟩⟩ := argH_is ar q
    · exact .inr ⟨_, _, by rw [e]⟩
    · exact .inr ⟨_, _, by rw [e]⟩
theorem argH_ok (ar : ∀ a ∈ A, ArgOb h A a) : HOk P w (argH K h A) h := fun b u q => by
  obtain ⟨_, vs, h1, h2, ⟨e, rfl⟩ | ⟨e, rfl⟩⟩ := argH_is ar q
  · exact ⟨e, by rw [List.length_map]; exact h1, vs, _, vals_toV h2, e⟩
  · exact ⟨e, by rw [List.length_map]; exact h1, vs, vals_toV h2, _, e, rfl, _, rfl⟩
theorem seq_inj {c c' : Value} {vs us : List Value} (e : (some { cls := c, data := .seq vs.toArray } : Option Obj) = some { cls := c', data := .seq us.toArray }) : c = c' ∧ vs = us := by
  have e1 := Option.some.inj e
  have e2 : c = c' := congrArg Obj.cls e1
  have e3 : Data.seq vs.toArray = Data.seq us.toArray := congrArg Obj.data e1
  injection e3 with e4
  refine ⟨e2, ?_⟩
  have e5 := congrArg Array.toList e4
  simpa using e5
theorem argL (KX : K.In h) (ar : ∀ a ∈ A, ArgOb h A a) {a : Addr} {vs : List Value} (ha : a ∈ A) (e : h.get? a = some { cls := .type "list", data := .seq vs.toArray }) : (∀ u ∈ vs, OkU A u) ∧ SqL K (argH K h A) a (vs.map toV) := by
  obtain ⟨us, h1, h2, h3⟩ := ar a ha
  have hu : us = vs := by
    rcases h3 with q | q
    · rw [e] at q
      exact (seq_inj q).2.symm
    · rw [e] at q
      exact absurd (Value.type.inj (seq_inj q).1) (by decide)
  subst hu
  refine ⟨h2, ?_⟩
  cases hk : K.lookup a with
  | none => exact .inl (.inr ⟨_, by rw [argH_at ha hk e, hoOf_lst]⟩)
  | some o =>
    have e2 := KX a o hk
    rw [e] at e2
    obtain rfl := Option.some.inj e2
    exact .inr ⟨_, us.toArray, _, hk, rfl, rfl, rfl, by rw [List.size_toArray]; exact h1, by simpa using vals_toV h2⟩
theorem argT (KX : K.In h) (ar : ∀ a ∈ A, ArgOb h A a) {a : Addr} {vs : List Value} (ha : a ∈ A) (e : h.get? a = some { cls := .type "tuple", data := .seq vs.toArray }) : (∀ u ∈ vs, OkU A u) ∧ SqT K (argH K h A) a (vs.map toV) := by
  obtain ⟨us, h1, h2, h3⟩ := ar a ha
  have hu : us = vs := by
    rcases h3 with q | q
    · rw [e] at q
      exact absurd (Value.type.inj (seq_inj q).1) (by decide)
    · rw [e] at q
      exact (seq_inj q).2.symm
  subst hu
  refine ⟨h2, ?_⟩
  cases hk : K.lookup a with
  | none => exact .inl (.inr ⟨_, by rw [argH_at ha hk e, hoOf_tup]⟩)
  | some o =>
    have e2 := KX a o hk
    rw [e] at e2
    obtain rfl := Option.some.inj e2
    exact .inr ⟨_, us.toArray, _, hk, rfl, rfl, by rw [List.size_toArray]; exact h1, by simpa using vals_toV h2⟩
mutual
theorem dw_one {Pm : Params} (KX : K.In h) (ar : ∀ a ∈ A, ArgOb h A a) : ∀ (d : WData) (v : Value), Well Pm h v d → plW d = true → OkU A v → Dw K (argH K h A) (toV v) d
  | .none, _, x, _, _ => by
    cases x
    exact .non
  | .bool b, _, x, _, _ => by
    cases x
    exact .bl b
  | .int i, _, x, _, _ => by
    cases x
    exact .int i
  | .str s, _, x, _, _ => by
    cases x
    exact .str s
  | .bytes b, _, x, _, _ => by
    cases x
    have z := Dw.byt (K := K) (H := argH K h A) b.toArray
    exact z
  | .list ds, _, x, p, hu => by
    obtain ⟨a, vs, rfl, ho, hall⟩ := well_list x
    obtain ⟨h2, hs⟩ := argL KX ar hu ho
    exact .lst hs (dw_all KX ar ds _ hall p h2)
  | .tuple ds, _, x, p, hu => by
    obtain ⟨a, vs, rfl, ho, hall⟩ := well_tuple x
    obtain ⟨h2, hs⟩ := argT KX ar hu ho
    exact .tup hs (dw_all KX ar ds _ hall p h2)
  | .float _, _, _, p, _ => Bool.noConfusion (show false = true from p)
  | .dict _, _, _, p, _ => Bool.noConfusion (show false = true from p)
  | .bytearray _, _, _, p, _ => Bool.noConfusion (show false = true from p)
  | .set _, _, _, p, _ => Bool.noConfusion (show false = true from p)
  | .frozenset _, _, _, p, _ => Bool.noConfusion (show false = true from p)
  | .obj _ _, _, _, p, _ => Bool.noConfusion (show false = true from p)
theorem dw_all {Pm : Params} (KX : K.In h) (ar : ∀ a ∈ A, ArgOb h A a) : ∀ (ds : List WData) (vs : List Value), WellAll Pm h vs ds → plWs ds = true → (∀ u ∈ vs, OkU A u) → DwAll K (argH K h A) (vs.map toV) ds
  | [], _, x, _, _ => by
    cases x
    exact .nil
  | d :: ds, _, x, p, hu => by
    obtain ⟨v, vs, rfl, x1, x2⟩ := well_cons x
    have q : plW d = true ∧ plWs ds = true := Bool.and_eq_true_iff.mp p
    exact .cons (dw_one KX ar d v x1 q.1 (hu _ (List.mem_cons_self ..))) (dw_all KX ar ds vs x2 q.2 fun u m => hu u (List.mem_cons_of_mem _ m))
end
end
theorem spec_call {P : Program} {w : World} {K : PySem.W.Frag} {mg mb : Str → Option Value} {CX : CXT} {k : Nat} {fa : Addr} {fd : FuncData} {ps : List Str} {sp : Sp} {s₁ : Shared} {vals : List Value} {ds : List WData} {R : PySem.W.WRecords} {cl : Str → Option Addr} {d0 : WData}
    (KX : K.In s₁.heap) (hns : s₁.heap.Ns mainGlobals mg) (hb : s₁.heap.Ns builtinsNs mb) (hbb : ∀ x : Str, x ≠ "__name__" → mb x = bootBuiltins x) (hlim : s₁.heap.NoLimit) (hg : s₁.gens = #[])
    (hwl : WellAll w.params s₁.heap vals ds) (hpl : plWs ds = true) (hwt : ∀ d ∈ ds, d.weight ≤ 1048576) (hr : Room k callerA)
    (F : ∀ base : Heap, K.In base → base.Ns mainGlobals mg → FnOk P w K mg base CX k fa fd ps sp) (hbind : ∀ (s : Shared) (us : List Value), us.length = ps.length → BindsTo s fd ⟨us, []⟩ (ps.zip us)) (hlen : ds.length = ps.length)
    (hsp : ∀ (H : Hp) (xs : List V), OnlyF H → DwAll K H xs ds → sp xs H (fun v H' => Dw K H' v d0) fun _ _ _ => False)
    (hCX : ∀ H e s', CX [] H s₁ (fun _ _ _ => False) e s' → False) :
    codeAny (model P w) callerA (.call (.ref fa) ⟨vals, []⟩) (fun r s' => ∃ u as, r = .ok (.ret u) ∧ ReadsW R cl s'.heap u d0 as ∧ OldK s₁.heap s'.heap ∧ s'.os = s₁.os ∧ AllBare s'.gens) s₁ := by
  obtain ⟨A, ho, ar⟩ := area_all ds vals hwl hpl hwt
  have hO : OnlyF (argH K s₁.heap A) := argH_only ar
  have hok : HOk P w (argH K s₁.heap A) s₁.heap := argH_ok ar
  have hS := dw_all KX ar ds vals hwl hpl ho
  have hV := vals_toV ho
  have hK : ∀ b u, argH K s₁.heap A b = some u → K.lookup b = none := fun b u q => (argH_is ar q).1
  have noA : ∀ {b : Addr} {o : Obj} {es : Array DictEntry} {ep : Nat}, s₁.heap.get? b = some o → o.data = .dict es ep → argH K s₁.heap A b = none := fun {b o es ep} e d => by
    cases q : argH K s₁.heap A b with
    | none => rfl
    | some u =>
      obtain ⟨_, vs, _, _, ⟨e2, _⟩ | ⟨e2, _⟩⟩ := argH_is ar q
      · rw [e2] at e
        cases e
        have d' : Data.seq vs.toArray _ = Data.dict es ep := d
        cases d'
      · rw [e2] at e
        cases e
        have d' : Data.seq vs.toArray _ = Data.dict es ep := d
        cases d'
  generalize argH K s₁.heap A = H at hO hok hS hK noA
  have base_of : ∀ {b : Addr} {o : Obj}, s₁.heap.get? b = some o → H b = none → (hidT s₁.heap H).get? b = some o := fun e n => hidT_get e n
  have nsK : ∀ {b : Addr} {m : Str → Option Value}, s₁.heap.Ns b m → (hidT s₁.heap H).Ns b m := fun {b m} ⟨o, es, ep, e, d, r⟩ => ⟨o, es, ep, base_of e (noA e d), d, r⟩
  have nK : ∀ b o, K.lookup b = some o → H b = none := fun b o e => by
    cases q : H b with
    | none => rfl
    | some u =>
      rw [hK b u q] at e
      cases e
  have hKb : K.In (hidT s₁.heap H) := fun b o e => base_of (KX b o e) (nK b o e)
  have hM : Mod K mg (hidT s₁.heap H) := ⟨hKb, nsK hns, ⟨mb, nsK hb, hbb⟩, let ⟨mc, h1, h2⟩ := hlim; ⟨mc, nsK h1, h2⟩⟩
  have e0 : Env0 P w K mg (hidT s₁.heap H) callerA [] s₁ H := ⟨rfl, hM, fun b o e => of_hidT e, Nat.le_of_eq (hidT_size _ _), trivial, fun b hb => absurd (show b ∈ ([] : List Addr) from hb) (by simp), hok, .of_eq hg⟩
  have hl : vals.length = ps.length := by rw [wellAll_len hwl]; exact hlen
  refine codeAny_mono ((F _ hKb (nsK hns)).run callerA [] s₁ H ⟨vals, []⟩ vals (vals.map toV) _ _ hr e0 (hbind s₁ vals hl) hV (hsp H _ hO hS)) fun r s' x => ?_
  cases r with
  | error e => exact (hCX H e s' x).elim
  | ok fl =>
    cases fl with
    | next => exact False.elim x
    | brk => exact False.elim x
    | cont => exact False.elim x
    | ret u =>
      obtain ⟨v, H', os, bare, un, hok', r', q⟩ := x
      have kept : ∀ b o, s₁.heap.get? b = some o → s'.heap.get? b = some o := fun b o e => by
        cases q2 : H b with
        | none => exact un.keep b o e q2 (by intro z; exact absurd (show b ∈ ([] : List Addr) from z) (by simp)) (by simp)
        | some u2 =>
          rcases hO b with z | ⟨ob, u3, z⟩
          · rw [q2] at z
            cases z
          · have z2 := un.frzs b ob _ z
            obtain ⟨e1, _⟩ := hok b _ z
            obtain ⟨e2, _⟩ := hok' b _ z2
            rw [e] at e1
            cases e1
            exact e2
      have KX' : K.In s'.heap := fun b o e => kept b o (KX b o e)
      obtain ⟨as, hrd⟩ := Dw.reads (R := R) (cl := cl) hok' KX' d0 v u q r'
      exact ⟨u, as, rfl, hrd, OldK.of_keep kept, os, bare⟩
theorem layable_weight {ds : List WData} (h : WData.layableAll ds = true) : ∀ d ∈ ds, d.weight ≤ 1048576 := fun d hd =>
  (PySem.W.layableW_iff.mp (List.all_eq_true.mp h d hd)).2.2
theorem encAll_len : ∀ (cs : List Codec) (a : Codec.denoteAll cs), (Codec.encAll cs a).length = cs.length
  | [], _ => rfl
  | c :: cs, a => by
    show (Codec.encAll cs a.2).length + 1 = cs.length + 1
    rw [encAll_len cs a.2]
theorem walk_spec {r : OpenSpec} {k : Nat} {q : Program} {loose : List Str} {XP : (Str → Option Value) → Heap → Prop} {YP : World → Heap → Prop} {d : DefRec} {K : Params → PySem.W.Frag} {CX : World → CXT} {ps : List Str} {sp : World → Sp}
    (hwell : r.wellSaid = true) (hdf : d.params.defaults = []) (hlen : r.args.length = ps.length) (hr : Room k callerA)
    (hY : ∀ (w : World) (h : Heap), YP w h → (K w.params).In h)
    (F : ∀ (w : World) (mg : Str → Option Value) (fa : Addr) (h : Heap), YP w h → (K w.params).In h → h.Ns mainGlobals mg → mg d.name = some (.ref fa) →
      ∃ fd : FuncData, (∀ (s : Shared) (us : List Value), us.length = ps.length → BindsTo s fd ⟨us, []⟩ (ps.zip us)) ∧
        ∀ base : Heap, (K w.params).In base → base.Ns mainGlobals mg → FnOk r.prog w (K w.params) mg base (CX w) k fa fd ps (sp w))
    (hsp : ∀ (w : World) (H : Hp) (xs : List V) (a : Codec.denoteAll r.args), OnlyF H → Codec.withinAll r.args a = true → Codec.app r.args r.asked a = true → DwAll (K w.params) H xs (Codec.encAll r.args a) →
      sp w xs H (fun v H' => Dw (K w.params) H' v (r.ret.enc (Codec.app r.args r.f a))) fun _ _ _ => False)
    (hCX : ∀ (w : World) (H : Hp) (s : Shared) (e : Value) (s' : Shared), CX w [] H s (fun _ _ _ => False) e s' → False) :
    PySem.W.WalkOS q loose XP YP r d [] (fun f vs => PySem.call f vs) := by
  intro w s_0 s₁ mg mb G Y fa o pm cd doc dV kV ho hd hcd hD hmg hg args vals as hpre hlay hrd hwl hlo
  obtain ⟨a, e1, e2⟩ := PySem.W.os_pre_some hpre
  obtain ⟨e3, hwi⟩ := Codec.encAll_of_decAll r.args args a e1
  subst e3
  have KX := hY w _ Y
  obtain ⟨fd, hb, hF⟩ := F w mg fa _ Y KX G.T.g hmg
  refine PySem.W.enter_call (codeAny_mono (spec_call (R := []) (cl := classAt s_0.heap) (d0 := r.ret.enc (Codec.app r.args r.f a)) KX G.T.g G.T.b G.T.builtins G.T.nolimit hg hwl (pl_encAll _ _) (layable_weight hlay) hr hF hb (by rw [encAll_len]; exact hlen)
    (fun H xs hO hS => hsp w H xs a hO hwi e2 hS) fun H e s' => hCX w H s₁ e s') fun r' s' hq => ?_)
  obtain ⟨u, as', rfl, h1, h2, h3, h4⟩ := hq
  exact ⟨.inl ⟨u, _, as', rfl, fun _ => rfl, h1, (OpenSpec.post_iff hwell hwi _ _).mpr rfl, fun z => Bool.noConfusion (show false = true from z)⟩, h2, h3, h4⟩
theorem walk_specK {r : OpenSpec} {k : Nat} {q : Program} {loose : List Str} {XP : (Str → Option Value) → Heap → Prop} {YP : World → Heap → Prop} {d : DefRec} {K : Params → PySem.W.Frag} {CX : CXT} {ps : List Str} {sp : PySem.W.Frag → Sp}
    (hwell : r.wellSaid = true) (hdf : d.params.defaults = []) (hlen : r.args.length = ps.length) (hr : Room k callerA)
    (hY : ∀ (w : World) (h : Heap), YP w h → (K w.params).In h)
    (F : ∀ (w : World) (mg : Str → Option Value) (fa : Addr) (h : Heap), YP w h → (K w.params).In h → h.Ns mainGlobals mg → mg d.name = some (.ref fa) →
      ∃ fd : FuncData, (∀ (s : Shared) (us : List Value), us.length = ps.length → BindsTo s fd ⟨us, []⟩ (ps.zip us)) ∧
        ∀ base : Heap, (K w.params).In base → base.Ns mainGlobals mg → FnOk r.prog w (K w.params) mg base CX k fa fd ps (sp (K w.params)))
    (hsp : ∀ (K : PySem.W.Frag) (H : Hp) (xs : List V) (a : Codec.denoteAll r.args), OnlyF H → Codec.withinAll r.args a = true → Codec.app r.args r.asked a = true → DwAll K H xs (Codec.encAll r.args a) →
      sp K xs H (fun v H' => Dw K H' v (r.ret.enc (Codec.app r.args r.f a))) fun _ _ _ => False)
    (hCX : ∀ (H : Hp) (s : Shared) (e : Value) (s' : Shared), CX [] H s (fun _ _ _ => False) e s' → False) :
    PySem.W.WalkOS q loose XP YP r d [] (fun f vs => PySem.call f vs) :=
  walk_spec (K := K) (CX := fun _ => CX) (sp := fun w => sp (K w.params)) hwell hdf hlen hr hY F (fun w H xs a h1 h2 h3 h4 => hsp (K w.params) H xs a h1 h2 h3 h4) fun _ H s e s' => hCX H s e s'
end L2
end

end
section
namespace HP
open Rc70
abbrev Ar := Int × Int
def arrow (x y d : Int) (p : Pt) : Ar := (p.1 * d - x, p.2 * d - y)
def isNothing (a : Ar) : Bool := decide (a.1 = 0) && decide (a.2 = 0)
def cross (a b : Ar) : Int := a.1 * b.2 - a.2 * b.1
def dot (a b : Ar) : Int := a.1 * b.1 + a.2 * b.2
def nLeft (v : Ar) (l : List Ar) : Nat := (l.filter fun a => decide (0 < cross v a)).length
def nRight (v : Ar) (l : List Ar) : Nat := (l.filter fun a => decide (cross v a < 0)).length
def nAhead (v : Ar) (l : List Ar) : Nat := (l.filter fun a => decide (cross v a = 0) && decide (0 < dot v a)).length
def nBehind (v : Ar) (l : List Ar) : Nat := (l.filter fun a => decide (cross v a = 0) && !decide (0 < dot v a)).length
def fewestBeside (v : Ar) (l : List Ar) : Nat := min (nLeft v l) (nRight v l) + min (nAhead v l) (nBehind v l)
def outer (l : List Ar) : List Ar := l.filter fun a => !isNothing a
def depthAmong (l : List Ar) : Nat := l.length - (outer l).length + (outer l).foldl (fun k a => min k (fewestBeside a (outer l))) (outer l).length
theorem nothing_iff {a : Ar} : isNothing a = true ↔ a = (0, 0) := by
  unfold isNothing
  rw [Bool.and_eq_true, decide_eq_true_iff, decide_eq_true_iff]
  constructor
  · rintro ⟨h1, h2⟩; exact Prod.ext h1 h2
  · rintro rfl; exact ⟨rfl, rfl⟩
theorem sq_pos {v : Ar} (h : v ≠ (0, 0)) : 0 < v.1 * v.1 + v.2 * v.2 := by
  have h1 : 0 ≤ v.1 * v.1 := by
    rcases Int.le_total 0 v.1 with h | h
    · exact Int.mul_nonneg h h
    · exact Int.mul_nonneg_of_nonpos_of_nonpos h h
  have h2 : 0 ≤ v.2 * v.2 := by
    rcases Int.le_total 0 v.2 with h | h
    · exact Int.mul_nonneg h h
    · exact Int.mul_nonneg_of_nonpos_of_nonpos h h
  rcases Int.lt_or_le 0 (v.1 * v.1 + v.2 * v.2) with q | q
  · exact q
  · exfalso
    have e1 : v.1 * v.1 = 0 := by omega
    have e2 : v.2 * v.2 = 0 := by omega
    have f1 : v.1 = 0 := by rcases Int.mul_eq_zero.mp e1 with h | h <;> exact h
    have f2 : v.2 = 0 := by rcases Int.mul_eq_zero.mp e2 with h | h <;> exact h
    exact h (Prod.ext f1 f2)
theorem zero_of {v w : Ar} (hv : v ≠ (0, 0)) (hc : cross v w = 0) (hd : dot v w = 0) : w = (0, 0) := by
  have hp := sq_pos hv
  unfold cross at hc
  unfold dot at hd
  have e1 : (v.1 * v.1 + v.2 * v.2) * w.1 = 0 := by grind
  have e2 : (v.1 * v.1 + v.2 * v.2) * w.2 = 0 := by grind
  have f1 : w.1 = 0 := by rcases Int.mul_eq_zero.mp e1 with h | h <;> omega
  have f2 : w.2 = 0 := by rcases Int.mul_eq_zero.mp e2 with h | h <;> omega
  exact Prod.ext f1 f2
def front (n m : Int × Int) (l : List Ar) : Nat := (l.filter fun a => decide (0 < n.1 * a.1 + n.2 * a.2) || ((n.1 * a.1 + n.2 * a.2) == 0 && decide (0 ≤ m.1 * a.1 + m.2 * a.2))).length
theorem frontOf_eq (ps : List Pt) (q : Place) (n m : Int × Int) : frontOf ps q n m = front n m (ps.map (arrow q.x q.y q.d)) := by
  unfold frontOf front
  rw [List.filter_map, List.length_map]
  rfl
theorem front_split (n m : Int × Int) (P : Ar → Bool) (R : Ar → Bool) (l : List Ar)
    (h : ∀ a ∈ l, (decide (0 < n.1 * a.1 + n.2 * a.2) || ((n.1 * a.1 + n.2 * a.2) == 0 && decide (0 ≤ m.1 * a.1 + m.2 * a.2))) = (isNothing a || (!isNothing a && (P a || R a))))
    (hd : ∀ a, ¬ (P a = true ∧ R a = true)) :
    front n m l = (l.length - (outer l).length) + ((outer l).filter P).length + ((outer l).filter R).length := by
  unfold front outer
  induction l with
  | nil => rfl
  | cons a l ih =>
    have ih := ih fun b hb => h b (List.mem_cons_of_mem _ hb)
    have ha := h a List.mem_cons_self
    have hle : (l.filter fun a => !isNothing a).length ≤ l.length := List.length_filter_le _ _
    have hx := hd a
    simp only [List.filter_cons, ha]
    cases hn : isNothing a
    · cases hP : P a <;> cases hR : R a <;> simp_all <;> omega
    · simp_all
      omega
theorem count_nothing {v : Ar} : isNothing v = false ↔ v ≠ (0, 0) := by
  rw [← Bool.not_eq_true, nothing_iff]
theorem four (v : Ar) (hv : v ≠ (0, 0)) (l : List Ar) : let z := l.length - (outer l).length
    front (-v.2, v.1) (v.1, v.2) l = z + nLeft v (outer l) + nAhead v (outer l) ∧ front (-v.2, v.1) (-v.1, -v.2) l = z + nLeft v (outer l) + nBehind v (outer l) ∧
    front (v.2, -v.1) (v.1, v.2) l = z + nRight v (outer l) + nAhead v (outer l) ∧ front (v.2, -v.1) (-v.1, -v.2) l = z + nRight v (outer l) + nBehind v (outer l) := by
  intro z
  have main : ∀ a ∈ l, isNothing a = false → (cross v a = 0 → dot v a ≠ 0) ∧ -v.2 * a.1 + v.1 * a.2 = cross v a ∧ v.2 * a.1 + -v.1 * a.2 = -cross v a ∧ v.1 * a.1 + v.2 * a.2 = dot v a ∧ -v.1 * a.1 + -v.2 * a.2 = -dot v a := by
    intro a _ hn
    refine ⟨fun hc hd => count_nothing.mp hn (zero_of (w := a) hv hc hd), ?_, ?_, ?_, ?_⟩ <;> simp only [cross, dot] <;> grind
  have nth : ∀ a, isNothing a = true → a.1 = 0 ∧ a.2 = 0 := fun a h => by rw [nothing_iff.mp h]; exact ⟨rfl, rfl⟩
  refine ⟨front_split _ _ (fun a => decide (0 < cross v a)) (fun a => decide (cross v a = 0) && decide (0 < dot v a)) l ?_ ?_, front_split _ _ (fun a => decide (0 < cross v a)) (fun a => decide (cross v a = 0) && !decide (0 < dot v a)) l ?_ ?_,
    front_split _ _ (fun a => decide (cross v a < 0)) (fun a => decide (cross v a = 0) && decide (0 < dot v a)) l ?_ ?_, front_split _ _ (fun a => decide (cross v a < 0)) (fun a => decide (cross v a = 0) && !decide (0 < dot v a)) l ?_ ?_⟩
  case refine_2 | refine_4 | refine_6 | refine_8 =>
    rintro a ⟨h1, h2⟩
    simp at h1 h2
    omega
  all_goals
    intro a ha
    cases hn : isNothing a
    · obtain ⟨h0, e1, e2, e3, e4⟩ := main a ha hn
      simp only [e1, e2, e3, e4]
      generalize cross v a = c at h0 ⊢
      generalize dot v a = e at h0 ⊢
      rw [Bool.eq_iff_iff]
      simp
      try omega
    · obtain ⟨z1, z2⟩ := nth a hn
      simp [z1, z2]
theorem min4 (z k l r a b : Nat) : min (min (min (min (z + k) (z + l + a)) (z + l + b)) (z + r + a)) (z + r + b) = z + min k (min l r + min a b) := by
  have e : min l r + min a b = min (min (l + a) (l + b)) (min (r + a) (r + b)) := by
    rw [Nat.add_min_add_left, Nat.add_min_add_left, Nat.add_min_add_right]
  rw [e, ← Nat.add_min_add_left, ← Nat.add_min_add_left, ← Nat.add_min_add_left, ← Nat.add_min_add_left, Nat.add_assoc, Nat.add_assoc, Nat.add_assoc, Nat.add_assoc, Nat.min_assoc, Nat.min_assoc, Nat.min_assoc]
  rw [Nat.min_assoc]
theorem depth_fold (x y d : Int) (ps qs : List Pt) (k : Nat) : let all := ps.map (arrow x y d); let z := all.length - (outer all).length
    qs.foldl (fun k p =>
      let x' := p.1 * d - x
      let y' := p.2 * d - y
      if x' = 0 ∧ y' = 0 then k else
      ([((-y', x'), (x', y')), ((-y', x'), (-x', -y')), ((y', -x'), (x', y')), ((y', -x'), (-x', -y'))] : List ((Int × Int) × (Int × Int))).foldl (fun k n => min k (frontOf ps ⟨x, y, d⟩ n.1 n.2)) k) (z + k)
    = z + (outer (qs.map (arrow x y d))).foldl (fun k a => min k (fewestBeside a (outer all))) k := by
  intro all z
  induction qs generalizing k with
  | nil => rfl
  | cons p qs ih =>
    simp only [List.foldl_cons, List.map_cons, outer, List.filter_cons]
    by_cases h : p.1 * d - x = 0 ∧ p.2 * d - y = 0
    · rw [if_pos h]
      have e : isNothing (arrow x y d p) = true := nothing_iff.mpr (Prod.ext h.1 h.2)
      rw [e]
      exact ih k
    · rw [if_neg h]
      have hv : arrow x y d p ≠ (0, 0) := fun e => h ⟨congrArg Prod.fst e, congrArg Prod.snd e⟩
      have e : isNothing (arrow x y d p) = false := count_nothing.mpr hv
      rw [e]
      obtain ⟨f1, f2, f3, f4⟩ := four (arrow x y d p) hv all
      have g : ∀ n m, frontOf ps ⟨x, y, d⟩ n m = front n m all := fun n m => frontOf_eq ps ⟨x, y, d⟩ n m
      simp only [List.foldl_nil, g]
      show List.foldl _ (min (min (min (min (z + k) (front (-(arrow x y d p).2, (arrow x y d p).1) ((arrow x y d p).1, (arrow x y d p).2) all)) (front (-(arrow x y d p).2, (arrow x y d p).1) (-(arrow x y d p).1, -(arrow x y d p).2) all)) (front ((arrow x y d p).2, -(arrow x y d p).1) ((arrow x y d p).1, (arrow x y d p).2) all)) (front ((arrow x y d p).2, -(arrow x y d p).1) (-(arrow x y d p).1, -(arrow x y d p).2) all)) qs = _
      rw [f1, f2, f3, f4, min4]
      have := ih (min k (min (nLeft (arrow x y d p) (outer all)) (nRight (arrow x y d p) (outer all)) + min (nAhead (arrow x y d p) (outer all)) (nBehind (arrow x y d p) (outer all))))
      simp only [g] at this
      exact this
theorem depth_eq (x y d : Int) (ps : List Pt) : depthAmong (ps.map (arrow x y d)) = depthOf ps ⟨x, y, d⟩ := by
  have h := depth_fold x y d ps ps (outer (ps.map (arrow x y d))).length
  have hle : (outer (ps.map (arrow x y d))).length ≤ (ps.map (arrow x y d)).length := List.length_filter_le _ _
  have e : (ps.map (arrow x y d)).length - (outer (ps.map (arrow x y d))).length + (outer (ps.map (arrow x y d))).length = ps.length := by
    rw [Nat.sub_add_cancel hle, List.length_map]
  simp only [e] at h
  unfold depthAmong depthOf
  exact h.symm
end HP

end
section
namespace HP
open Rc70
def isBetween (a b : Ar) : Bool := decide (cross a b = 0) && decide (dot a b ≤ 0)
def isAmid (a b c : Ar) : Bool := (decide (0 < cross a b) && (decide (0 < cross b c) && decide (0 < cross c a))) || (decide (cross a b < 0) && (decide (cross b c < 0) && decide (cross c a < 0)))
def lowOf (f : Nat → Ar) (t m : Nat) : List Nat → Nat
  | [] => 0
  | l :: r => if isAmid (f l) (f m) (f t) = true then 2 ^ l + 2 ^ m + 2 ^ t else lowOf f t m r
def leastWith (f : Nat → Ar) (t : Nat) (below : List Nat) : List Nat → Nat
  | [] => 0
  | m :: r => if isBetween (f m) (f t) = true then 2 ^ m + 2 ^ t else if lowOf f t m (below.filter (· < m)) = 0 then leastWith f t below r else lowOf f t m (below.filter (· < m))
def leastAround (f : Nat → Ar) (ms : List Nat) : List Nat → Nat
  | [] => 0
  | t :: r => if isNothing (f t) = true then 2 ^ t else if leastWith f t (ms.filter (· < t)) (ms.filter (· < t)) = 0 then leastAround f ms r else leastWith f t (ms.filter (· < t)) (ms.filter (· < t))
theorem two_pos (n : Nat) : 0 < 2 ^ n := Nat.pow_pos (by decide)
theorem two_lt {a b : Nat} (h : a < b) : 2 ^ a < 2 ^ b := Nat.pow_lt_pow_right (by decide) h
theorem two_le {a b : Nat} (h : a ≤ b) : 2 ^ a ≤ 2 ^ b := Nat.pow_le_pow_right (by decide) h
theorem two_s (a : Nat) : 2 ^ (a + 1) = 2 * 2 ^ a := by rw [Nat.pow_succ, Nat.mul_comm]
theorem low_mem {f : Nat → Ar} {t m : Nat} : ∀ {L : List Nat}, lowOf f t m L ≠ 0 → ∃ l ∈ L, isAmid (f l) (f m) (f t) = true ∧ lowOf f t m L = 2 ^ l + 2 ^ m + 2 ^ t
  | [], h => absurd rfl h
  | l :: r, h => by
    unfold lowOf at h ⊢
    by_cases e : isAmid (f l) (f m) (f t) = true
    · rw [if_pos e]; exact ⟨l, List.mem_cons_self, e, rfl⟩
    · rw [if_neg e] at h ⊢
      obtain ⟨l', h1, h2, h3⟩ := low_mem h
      exact ⟨l', List.mem_cons_of_mem _ h1, h2, h3⟩
theorem low_least {f : Nat → Ar} {t m : Nat} : ∀ {L : List Nat}, L.Pairwise (· < ·) → ∀ l ∈ L, isAmid (f l) (f m) (f t) = true → lowOf f t m L ≠ 0 ∧ lowOf f t m L ≤ 2 ^ l + 2 ^ m + 2 ^ t
  | [], _, l, h, _ => nomatch h
  | l0 :: r, hp, l, h, ha => by
    unfold lowOf
    by_cases e : isAmid (f l0) (f m) (f t) = true
    · rw [if_pos e]
      have hle : l0 ≤ l := by
        rcases List.mem_cons.mp h with q | q
        · omega
        · exact Nat.le_of_lt (List.rel_of_pairwise_cons hp q)
      have := two_le hle
      have := two_pos l0
      have := two_pos m
      have := two_pos t
      omega
    · rw [if_neg e]
      rcases List.mem_cons.mp h with q | q
      · subst q; exact absurd ha e
      · exact low_least (List.Pairwise.of_cons hp) l q ha
theorem with_mem {f : Nat → Ar} {t : Nat} {below : List Nat} : ∀ {L : List Nat}, leastWith f t below L ≠ 0 →
    (∃ m ∈ L, isBetween (f m) (f t) = true ∧ leastWith f t below L = 2 ^ m + 2 ^ t) ∨ (∃ m ∈ L, ∃ l ∈ below, l < m ∧ isAmid (f l) (f m) (f t) = true ∧ leastWith f t below L = 2 ^ l + 2 ^ m + 2 ^ t)
  | [], h => absurd rfl h
  | m :: r, h => by
    unfold leastWith at h ⊢
    by_cases e : isBetween (f m) (f t) = true
    · rw [if_pos e]; exact .inl ⟨m, List.mem_cons_self, e, rfl⟩
    · rw [if_neg e] at h ⊢
      by_cases k : lowOf f t m (below.filter (· < m)) = 0
      · rw [if_pos k] at h ⊢
        rcases with_mem h with ⟨m', h1, h2⟩ | ⟨m', h1, h2⟩
        · exact .inl ⟨m', List.mem_cons_of_mem _ h1, h2⟩
        · exact .inr ⟨m', List.mem_cons_of_mem _ h1, h2⟩
      · rw [if_neg k]
        obtain ⟨l, h1, h2, h3⟩ := low_mem k
        have h4 := List.mem_filter.mp h1
        exact .inr ⟨m, List.mem_cons_self, l, h4.1, by simpa using h4.2, h2, h3⟩
theorem with_least {f : Nat → Ar} {t : Nat} {below : List Nat} (hb : below.Pairwise (· < ·)) : ∀ {L : List Nat}, L.Pairwise (· < ·) → ∀ m ∈ L, ∀ k,
    ((isBetween (f m) (f t) = true ∧ k = 2 ^ m + 2 ^ t) ∨ ∃ l ∈ below, l < m ∧ isAmid (f l) (f m) (f t) = true ∧ k = 2 ^ l + 2 ^ m + 2 ^ t) → leastWith f t below L ≠ 0 ∧ leastWith f t below L ≤ k
  | [], _, m, h, _, _ => nomatch h
  | m0 :: r, hp, m, h, k, hk => by
    have hle : m0 ≤ m := by
      rcases List.mem_cons.mp h with q | q
      · omega
      · exact Nat.le_of_lt (List.rel_of_pairwise_cons hp q)
    have hk2 : 2 ^ m + 2 ^ t ≤ k := by
      rcases hk with ⟨_, e⟩ | ⟨l, _, _, _, e⟩
      · omega
      · have := two_pos l; omega
    have := two_pos t
    have := two_pos m0
    have := two_le hle
    unfold leastWith
    by_cases e : isBetween (f m0) (f t) = true
    · rw [if_pos e]
      omega
    · rw [if_neg e]
      by_cases z : lowOf f t m0 (below.filter (· < m0)) = 0
      · rw [if_pos z]
        rcases List.mem_cons.mp h with q | q
        · subst q
          rcases hk with ⟨a, _⟩ | ⟨l, h1, h2, h3, _⟩
          · exact absurd a e
          · exact absurd z (low_least (List.Pairwise.filter _ hb) l (List.mem_filter.mpr ⟨h1, by simpa using h2⟩) h3).1
        · exact with_least hb (List.Pairwise.of_cons hp) m q k hk
      · rw [if_neg z]
        refine ⟨z, ?_⟩
        rcases Nat.lt_or_ge m0 m with q | q
        · obtain ⟨l, h1, h2, h3⟩ := low_mem z
          have h4 : l < m0 := by simpa using (List.mem_filter.mp h1).2
          have := two_lt h4
          have := two_le (show m0 + 1 ≤ m from q)
          have := two_s m0
          omega
        · have q : m = m0 := by omega
          subst q
          rcases hk with ⟨a, _⟩ | ⟨l, h1, h2, h3, h4⟩
          · exact absurd a e
          · rw [h4]; exact (low_least (List.Pairwise.filter _ hb) l (List.mem_filter.mpr ⟨h1, by simpa using h2⟩) h3).2
inductive PHit (f : Nat → Ar) (ms : List Nat) (t : Nat) : Nat → Prop
  | one : isNothing (f t) = true → PHit f ms t (2 ^ t)
  | two (m : Nat) : m ∈ ms → m < t → isBetween (f m) (f t) = true → PHit f ms t (2 ^ m + 2 ^ t)
  | three (l m : Nat) : l ∈ ms → m ∈ ms → l < m → m < t → isAmid (f l) (f m) (f t) = true → PHit f ms t (2 ^ l + 2 ^ m + 2 ^ t)
theorem PHit.ge {f : Nat → Ar} {ms : List Nat} {t k : Nat} (h : PHit f ms t k) : 2 ^ t ≤ k := by
  cases h with
  | one _ => omega
  | two m _ _ _ => have := two_pos m; omega
  | three l m _ _ _ _ _ => have := two_pos m; have := two_pos l; omega
theorem PHit.lt {f : Nat → Ar} {ms : List Nat} {t k : Nat} (h : PHit f ms t k) : k < 2 ^ (t + 1) := by
  have := two_s t
  have := two_pos t
  cases h with
  | one _ => omega
  | two m _ h _ => have := two_lt h; omega
  | three l m _ _ h1 h2 _ =>
    have := two_lt h1
    have := two_le (show m + 1 ≤ t from h2)
    have := two_s m
    omega
theorem around_mem {f : Nat → Ar} {ms : List Nat} : ∀ {L : List Nat}, leastAround f ms L ≠ 0 → ∃ t ∈ L, PHit f ms t (leastAround f ms L)
  | [], h => absurd rfl h
  | t :: r, h => by
    unfold leastAround at h ⊢
    by_cases e : isNothing (f t) = true
    · rw [if_pos e]; exact ⟨t, List.mem_cons_self, .one e⟩
    · rw [if_neg e] at h ⊢
      by_cases z : leastWith f t (ms.filter (· < t)) (ms.filter (· < t)) = 0
      · rw [if_pos z] at h ⊢
        obtain ⟨t', h1, h2⟩ := around_mem h
        exact ⟨t', List.mem_cons_of_mem _ h1, h2⟩
      · rw [if_neg z]
        refine ⟨t, List.mem_cons_self, ?_⟩
        rcases with_mem z with ⟨m, h1, h2, h3⟩ | ⟨m, h1, l, h2, h3, h4, h5⟩
        · have q := List.mem_filter.mp h1
          rw [h3]; exact .two m q.1 (by simpa using q.2) h2
        · have q := List.mem_filter.mp h1
          have q' := List.mem_filter.mp h2
          rw [h5]; exact .three l m q'.1 q.1 h3 (by simpa using q.2) h4
theorem around_least {f : Nat → Ar} {ms : List Nat} (hb : ms.Pairwise (· < ·)) : ∀ {L : List Nat}, L.Pairwise (· < ·) → ∀ t ∈ L, ∀ k, PHit f ms t k → leastAround f ms L ≠ 0 ∧ leastAround f ms L ≤ k
  | [], _, t, h, _, _ => nomatch h
  | t0 :: r, hp, t, h, k, hk => by
    have hle : t0 ≤ t := by
      rcases List.mem_cons.mp h with q | q
      · omega
      · exact Nat.le_of_lt (List.rel_of_pairwise_cons hp q)
    have := two_pos t0
    have := two_le hle
    have := hk.ge
    have hfil : (ms.filter (· < t0)).Pairwise (· < ·) := List.Pairwise.filter _ hb
    unfold leastAround
    by_cases e : isNothing (f t0) = true
    · rw [if_pos e]; omega
    · rw [if_neg e]
      have here : t = t0 → leastWith f t0 (ms.filter (· < t0)) (ms.filter (· < t0)) ≠ 0 ∧ leastWith f t0 (ms.filter (· < t0)) (ms.filter (· < t0)) ≤ k := by
        intro q
        subst q
        cases hk with
        | one h => exact absurd h e
        | two m h1 h2 h3 => exact with_least hfil hfil m (List.mem_filter.mpr ⟨h1, by simpa using h2⟩) _ (.inl ⟨h3, rfl⟩)
        | three l m h1 h2 h3 h4 h5 => exact with_least hfil hfil m (List.mem_filter.mpr ⟨h2, by simpa using h4⟩) _ (.inr ⟨l, List.mem_filter.mpr ⟨h1, by simpa using Nat.lt_trans h3 h4⟩, h3, h5, rfl⟩)
      by_cases z : leastWith f t0 (ms.filter (· < t0)) (ms.filter (· < t0)) = 0
      · rw [if_pos z]
        rcases List.mem_cons.mp h with q | q
        · exact absurd z (here q).1
        · exact around_least hb (List.Pairwise.of_cons hp) t q k hk
      · rw [if_neg z]
        refine ⟨z, ?_⟩
        rcases Nat.lt_or_ge t0 t with q | q
        · have hh : PHit f ms t0 (leastWith f t0 (ms.filter (· < t0)) (ms.filter (· < t0))) := by
            rcases with_mem z with ⟨m, h1, h2, h3⟩ | ⟨m, h1, l, h2, h3, h4, h5⟩
            · have q := List.mem_filter.mp h1
              rw [h3]; exact .two m q.1 (by simpa using q.2) h2
            · have q := List.mem_filter.mp h1
              have q' := List.mem_filter.mp h2
              rw [h5]; exact .three l m q'.1 q.1 h3 (by simpa using q.2) h4
          have := hh.lt
          have := two_le (show t0 + 1 ≤ t from q)
          omega
        · exact (here (by omega)).2
theorem pos_mul_iff {d x : Int} (hd : 0 < d) : (0 < d * x ↔ 0 < x) ∧ (d * x = 0 ↔ x = 0) ∧ (d * x < 0 ↔ x < 0) := by
  have l1 : 0 < x → 0 < d * x := fun h => Int.mul_pos hd h
  have l2 : x < 0 → d * x < 0 := fun h => Int.mul_neg_of_pos_of_neg hd h
  have l3 : x = 0 → d * x = 0 := fun h => by rw [h, Int.mul_zero]
  rcases Int.lt_trichotomy x 0 with h | h | h
  · have := l2 h; omega
  · have := l3 h; omega
  · have := l1 h; omega
section
variable (q : Place) (hd : 0 < q.d)
theorem side_ar (a b : Pt) : q.d * side a b q = cross (arrow q.x q.y q.d a) (arrow q.x q.y q.d b) := by
  simp only [side, cross, arrow]; grind
include hd
theorem side_sign (a b : Pt) : (0 < side a b q ↔ 0 < cross (arrow q.x q.y q.d a) (arrow q.x q.y q.d b)) ∧ (side a b q = 0 ↔ cross (arrow q.x q.y q.d a) (arrow q.x q.y q.d b) = 0) ∧ (side a b q < 0 ↔ cross (arrow q.x q.y q.d a) (arrow q.x q.y q.d b) < 0) := by
  rw [← side_ar]
  obtain ⟨h1, h2, h3⟩ := pos_mul_iff (x := side a b q) hd
  exact ⟨h1.symm, h2.symm, h3.symm⟩
theorem stretch_iff (a b : Pt) : onStretch a b q = true ↔ cross (arrow q.x q.y q.d a) (arrow q.x q.y q.d b) = 0 ∧ (arrow q.x q.y q.d a).1 * (arrow q.x q.y q.d b).1 ≤ 0 ∧ (arrow q.x q.y q.d a).2 * (arrow q.x q.y q.d b).2 ≤ 0 := by
  unfold onStretch
  have e1 : (q.x - a.1 * q.d) * (q.x - b.1 * q.d) = (arrow q.x q.y q.d a).1 * (arrow q.x q.y q.d b).1 := by simp only [arrow]; grind
  have e2 : (q.y - a.2 * q.d) * (q.y - b.2 * q.d) = (arrow q.x q.y q.d a).2 * (arrow q.x q.y q.d b).2 := by simp only [arrow]; grind
  rw [e1, e2, Bool.and_eq_true, Bool.and_eq_true, beq_iff_eq, decide_eq_true_iff, decide_eq_true_iff, (side_sign q hd a b).2.1]
end
theorem between_iff (a b : Ar) : isBetween a b = true ↔ cross a b = 0 ∧ a.1 * b.1 ≤ 0 ∧ a.2 * b.2 ≤ 0 := by
  unfold isBetween
  rw [Bool.and_eq_true, decide_eq_true_iff, decide_eq_true_iff]
  constructor
  · rintro ⟨h1, h2⟩
    refine ⟨h1, ?_⟩
    unfold cross at h1
    unfold dot at h2
    -- the products have the same sign: (a1 b1)(a2 b2) = (a1 b2)(a2 b1) = (a1 b2)^2 ≥ 0
    have e : (a.1 * b.1) * (a.2 * b.2) = (a.1 * b.2) * (a.1 * b.2) := by
      have : a.1 * b.2 = a.2 * b.1 := by omega
      grind
    have nn : 0 ≤ (a.1 * b.2) * (a.1 * b.2) := by
      rcases Int.le_total 0 (a.1 * b.2) with h | h
      · exact Int.mul_nonneg h h
      · exact Int.mul_nonneg_of_nonpos_of_nonpos h h
    rw [← e] at nn
    generalize a.1 * b.1 = u at *
    generalize a.2 * b.2 = v at *
    constructor
    · rcases Int.lt_or_le 0 u with h | h
      · have hv : v < 0 := by omega
        have := Int.mul_neg_of_pos_of_neg h hv
        omega
      · exact h
    · rcases Int.lt_or_le 0 v with h | h
      · have hv : u < 0 := by omega
        have := Int.mul_neg_of_neg_of_pos hv h
        omega
      · exact h
  · rintro ⟨h1, h2, h3⟩
    unfold dot
    exact ⟨h1, by omega⟩
theorem nothing_stretch (a : Ar) : (cross a a = 0 ∧ a.1 * a.1 ≤ 0 ∧ a.2 * a.2 ≤ 0) ↔ isNothing a = true := by
  rw [nothing_iff]
  constructor
  · rintro ⟨_, h2, h3⟩
    refine Classical.byContradiction fun h => ?_
    have := sq_pos h
    omega
  · rintro rfl
    simp [cross]
theorem sgn_le {x y : Int} (h1 : 0 < x ↔ 0 < y) (h3 : x < 0 ↔ y < 0) : (0 ≤ x ↔ 0 ≤ y) ∧ (x ≤ 0 ↔ y ≤ 0) := by
  rw [← Int.not_lt, ← Int.not_lt, ← Int.not_lt, ← Int.not_lt, h1, h3]
  exact ⟨Iff.rfl, Iff.rfl⟩
def TriA (a b c : Ar) : Prop := (0 < cross a b + cross b c + cross c a ∧ 0 ≤ cross a b ∧ 0 ≤ cross b c ∧ 0 ≤ cross c a) ∨ (cross a b + cross b c + cross c a < 0 ∧ cross a b ≤ 0 ∧ cross b c ≤ 0 ∧ cross c a ≤ 0)
theorem tri_iff (q : Place) (hd : 0 < q.d) (a b c : Pt) : inTriangle a b c q = true ↔ TriA (arrow q.x q.y q.d a) (arrow q.x q.y q.d b) (arrow q.x q.y q.d c) := by
  unfold inTriangle TriA
  obtain ⟨u1, u2, u3⟩ := side_sign q hd a b
  obtain ⟨v1, v2, v3⟩ := side_sign q hd b c
  obtain ⟨w1, w2, w3⟩ := side_sign q hd c a
  have e : (q.d * q.d) * ((b.1 - a.1) * (c.2 - a.2) - (b.2 - a.2) * (c.1 - a.1)) = cross (arrow q.x q.y q.d a) (arrow q.x q.y q.d b) + cross (arrow q.x q.y q.d b) (arrow q.x q.y q.d c) + cross (arrow q.x q.y q.d c) (arrow q.x q.y q.d a) := by
    simp only [cross, arrow]; grind
  obtain ⟨z1, z2, z3⟩ := pos_mul_iff (x := (b.1 - a.1) * (c.2 - a.2) - (b.2 - a.2) * (c.1 - a.1)) (Int.mul_pos hd hd)
  rw [e] at z1 z2 z3
  simp only [Bool.or_eq_true, Bool.and_eq_true, decide_eq_true_iff, z1, z3, (sgn_le u1 u3).1, (sgn_le u1 u3).2, (sgn_le v1 v3).1, (sgn_le v1 v3).2, (sgn_le w1 w3).1, (sgn_le w1 w3).2]
theorem rim {a b c : Ar} (h0 : cross a b = 0) (h : 0 ≤ cross b c ∧ 0 ≤ cross c a ∧ 0 < cross b c + cross c a ∨ cross b c ≤ 0 ∧ cross c a ≤ 0 ∧ cross b c + cross c a < 0) : isBetween a b = true := by
  unfold isBetween
  rw [Bool.and_eq_true, decide_eq_true_iff, decide_eq_true_iff]
  refine ⟨h0, ?_⟩
  rcases Int.lt_or_le 0 (dot a b) with hp | hp
  · exfalso
    have ha : a ≠ (0, 0) := by
      rintro rfl
      simp [dot] at hp
    have sp := sq_pos ha
    have e : (a.1 * a.1 + a.2 * a.2) * cross b c = -(dot a b * cross c a) := by
      unfold cross at h0 ⊢
      unfold dot
      grind
    generalize a.1 * a.1 + a.2 * a.2 = n at *
    generalize dot a b = m at *
    generalize cross b c = x at *
    generalize cross c a = y at *
    rcases h with ⟨h1, h2, h3⟩ | ⟨h1, h2, h3⟩
    · have g1 : 0 ≤ n * x := Int.mul_nonneg (by omega) h1
      have g2 : 0 ≤ m * y := Int.mul_nonneg (by omega) h2
      have g3 : n * x = 0 := by omega
      have g4 : m * y = 0 := by omega
      rcases Int.mul_eq_zero.mp g3 with q | q <;> rcases Int.mul_eq_zero.mp g4 with q' | q' <;> omega
    · have g1 : n * x ≤ 0 := Int.mul_nonpos_of_nonneg_of_nonpos (by omega) h1
      have g2 : m * y ≤ 0 := Int.mul_nonpos_of_nonneg_of_nonpos (by omega) h2
      have g3 : n * x = 0 := by omega
      have g4 : m * y = 0 := by omega
      rcases Int.mul_eq_zero.mp g3 with q | q <;> rcases Int.mul_eq_zero.mp g4 with q' | q' <;> omega
  · exact hp
theorem cross_swap (a b : Ar) : cross b a = -cross a b := by unfold cross; grind
theorem between_swap {a b : Ar} (h : isBetween a b = true) : isBetween b a = true := by
  rw [between_iff] at h ⊢
  rw [cross_swap]
  have e1 : b.1 * a.1 = a.1 * b.1 := Int.mul_comm _ _
  have e2 : b.2 * a.2 = a.2 * b.2 := Int.mul_comm _ _
  omega
theorem tri_cases {a b c : Ar} (h : TriA a b c) : isAmid a b c = true ∨ isBetween a b = true ∨ isBetween b c = true ∨ isBetween a c = true := by
  by_cases h1 : cross a b = 0
  · exact .inr (.inl (rim (c := c) h1 (by unfold TriA at h; omega)))
  · by_cases h2 : cross b c = 0
    · exact .inr (.inr (.inl (rim (a := b) (b := c) (c := a) h2 (by unfold TriA at h; omega))))
    · by_cases h3 : cross c a = 0
      · exact .inr (.inr (.inr (between_swap (rim (a := c) (b := a) (c := b) h3 (by unfold TriA at h; omega)))))
      · left
        unfold isAmid
        unfold TriA at h
        simp only [Bool.or_eq_true, Bool.and_eq_true, decide_eq_true_iff]
        omega
theorem amid_tri {a b c : Ar} (h : isAmid a b c = true) : TriA a b c := by
  unfold isAmid at h
  unfold TriA
  simp only [Bool.or_eq_true, Bool.and_eq_true, decide_eq_true_iff] at h
  omega
theorem mem_twos {a b : Nat} : ∀ {L : List Nat}, L.Pairwise (· < ·) → ((a, b) ∈ threes.twos L ↔ a ∈ L ∧ b ∈ L ∧ a < b)
  | [], _ => by simp [threes.twos]
  | i :: r, hp => by
    have ih := mem_twos (a := a) (b := b) (List.Pairwise.of_cons hp)
    have hlt : ∀ j ∈ r, i < j := fun j hj => List.rel_of_pairwise_cons hp hj
    unfold threes.twos
    rw [List.mem_append, ih, List.mem_map]
    constructor
    · rintro (⟨j, hj, e⟩ | ⟨h1, h2, h3⟩)
      · cases e
        exact ⟨List.mem_cons_self, List.mem_cons_of_mem _ hj, hlt _ hj⟩
      · exact ⟨List.mem_cons_of_mem _ h1, List.mem_cons_of_mem _ h2, h3⟩
    · rintro ⟨h1, h2, h3⟩
      rcases List.mem_cons.mp h2 with q2 | q2
      · exfalso
        subst q2
        rcases List.mem_cons.mp h1 with q1 | q1
        · omega
        · have := hlt a q1; omega
      · rcases List.mem_cons.mp h1 with q1 | q1
        · subst q1; exact .inl ⟨b, q2, rfl⟩
        · exact .inr ⟨q1, q2, h3⟩
theorem mem_threes {l : List Nat} : ∀ {L : List Nat}, L.Pairwise (· < ·) → (l ∈ threes L ↔ (∃ i ∈ L, l = [i]) ∨ (∃ i ∈ L, ∃ j ∈ L, i < j ∧ l = [i, j]) ∨ ∃ i ∈ L, ∃ j ∈ L, ∃ k ∈ L, i < j ∧ j < k ∧ l = [i, j, k])
  | [], _ => by simp [threes]
  | i :: r, hp => by
    have ih := mem_threes (l := l) (List.Pairwise.of_cons hp)
    have hlt : ∀ j ∈ r, i < j := fun j hj => List.rel_of_pairwise_cons hp hj
    have up : ∀ {x}, x ∈ r → x ∈ i :: r := fun h => List.mem_cons_of_mem _ h
    have dn : ∀ {x y}, x ∈ i :: r → y ∈ i :: r → x < y → y ∈ r := fun {x y} hx hy h => by
      rcases List.mem_cons.mp hy with q | q
      · subst q
        rcases List.mem_cons.mp hx with q' | q'
        · omega
        · have := hlt x q'; omega
      · exact q
    unfold threes
    rw [List.mem_cons, List.mem_append, List.mem_append, ih, List.mem_map, List.mem_map]
    constructor
    · rintro (e | (⟨j, hj, e⟩ | ⟨⟨a, b⟩, hx, e⟩) | h)
      · exact .inl ⟨i, List.mem_cons_self, e⟩
      · exact .inr (.inl ⟨i, List.mem_cons_self, j, up hj, hlt j hj, e.symm⟩)
      · have := (mem_twos (List.Pairwise.of_cons hp)).mp hx
        exact .inr (.inr ⟨i, List.mem_cons_self, a, up this.1, b, up this.2.1, hlt a this.1, this.2.2, e.symm⟩)
      · rcases h with ⟨a, h1, e⟩ | ⟨a, h1, b, h2, h3, e⟩ | ⟨a, h1, b, h2, c, h3, h4, h5, e⟩
        · exact .inl ⟨a, up h1, e⟩
        · exact .inr (.inl ⟨a, up h1, b, up h2, h3, e⟩)
        · exact .inr (.inr ⟨a, up h1, b, up h2, c, up h3, h4, h5, e⟩)
    · rintro (⟨a, h1, e⟩ | ⟨a, h1, b, h2, h3, e⟩ | ⟨a, h1, b, h2, c, h3, h4, h5, e⟩)
      · rcases List.mem_cons.mp h1 with q | q
        · subst q; exact .inl e
        · exact .inr (.inr (.inl ⟨a, q, e⟩))
      · have hb := dn h1 h2 h3
        rcases List.mem_cons.mp h1 with q | q
        · subst q; exact .inr (.inl (.inl ⟨b, hb, e.symm⟩))
        · exact .inr (.inr (.inr (.inl ⟨a, q, b, hb, h3, e⟩)))
      · have hb := dn h1 h2 h4
        have hc := dn h2 h3 h5
        rcases List.mem_cons.mp h1 with q | q
        · subst q; exact .inr (.inl (.inr ⟨(b, c), (mem_twos (List.Pairwise.of_cons hp)).mpr ⟨hb, hc, h5⟩, e.symm⟩))
        · exact .inr (.inr (.inr (.inr ⟨a, q, b, hb, c, hc, h4, h5, e⟩)))
theorem min_fold (g : List Nat → Nat) (hg : ∀ l, l ∈ (L : List (List Nat)) → 0 < g l) (m : Nat) : let r := L.foldl (fun m l => if m = 0 then g l else min m (g l)) m
    (r = 0 ↔ m = 0 ∧ L = []) ∧ (r ≠ 0 → r = m ∨ ∃ l ∈ L, r = g l) ∧ (m ≠ 0 → r ≤ m) ∧ ∀ l ∈ L, r ≤ g l := by
  induction L generalizing m with
  | nil => simp
  | cons a L ih =>
    have ih := ih (fun l h => hg l (List.mem_cons_of_mem _ h)) (if m = 0 then g a else min m (g a))
    have ha := hg a List.mem_cons_self
    intro r
    simp only [r, List.foldl_cons]
    obtain ⟨i1, i2, i3, i4⟩ := ih
    have hne : (if m = 0 then g a else min m (g a)) ≠ 0 := by split <;> omega
    have i3 := i3 hne
    refine ⟨⟨fun h => absurd (i1.mp h).1 hne, fun h => nomatch h.2⟩, fun h => ?_, fun h => ?_, fun l hl => ?_⟩
    · rcases i2 h with q | ⟨l, hl, q⟩
      · by_cases hm : m = 0
        · exact .inr ⟨a, List.mem_cons_self, q.trans (if_pos hm)⟩
        · have q := q.trans (if_neg hm)
          rcases Nat.le_total m (g a) with z | z
          · exact .inl (q.trans (Nat.min_eq_left z))
          · exact .inr ⟨a, List.mem_cons_self, q.trans (Nat.min_eq_right z)⟩
      · exact .inr ⟨l, List.mem_cons_of_mem _ hl, q⟩
    · refine Nat.le_trans i3 ?_
      rw [if_neg h]
      exact Nat.min_le_left _ _
    · rcases List.mem_cons.mp hl with q | q
      · subst q
        refine Nat.le_trans i3 ?_
        split <;> omega
      · exact i4 l q
theorem members_sorted (ps : List Pt) (s : Nat) : (members ps s).Pairwise (· < ·) := List.Pairwise.filter _ List.pairwise_lt_range
theorem mask_pos {ps : List Pt} {s : Nat} {l : List Nat} (h : l ∈ threes (members ps s)) : 0 < maskOf l := by
  rcases (mem_threes (members_sorted ps s)).mp h with ⟨i, _, e⟩ | ⟨i, _, j, _, _, e⟩ | ⟨i, _, j, _, k, _, _, _, e⟩ <;> subst e
  · have := two_pos i
    simpa [maskOf] using this
  · have := two_pos i
    have e : maskOf [i, j] = 2 ^ i + 2 ^ j := by simp [maskOf]
    have := two_pos j
    omega
  · have := two_pos i
    have e : maskOf [i, j, k] = 2 ^ i + (2 ^ j + 2 ^ k) := by simp [maskOf]
    have := two_pos j
    have := two_pos k
    omega
def arAt (q : Place) (ps : List Pt) (i : Nat) : Ar := arrow q.x q.y q.d (at_ ps i)
theorem phit_hit {q : Place} (hd : 0 < q.d) {ps : List Pt} {s t k : Nat} (ht : t ∈ members ps s) (h : PHit (arAt q ps) (members ps s) t k) : ∃ l ∈ threes (members ps s), inFew ps l q = true ∧ maskOf l = k := by
  have hs := members_sorted ps s
  cases h with
  | one h =>
    exact ⟨[t], (mem_threes hs).mpr (.inl ⟨t, ht, rfl⟩), (stretch_iff q hd _ _).mpr ((nothing_stretch _).mpr h), by simp [maskOf]⟩
  | two m h1 h2 h3 =>
    exact ⟨[m, t], (mem_threes hs).mpr (.inr (.inl ⟨m, h1, t, ht, h2, rfl⟩)), (stretch_iff q hd _ _).mpr ((between_iff _ _).mp h3), by simp [maskOf]⟩
  | three l m h1 h2 h3 h4 h5 =>
    exact ⟨[l, m, t], (mem_threes hs).mpr (.inr (.inr ⟨l, h1, m, h2, t, ht, h3, h4, rfl⟩)), (tri_iff q hd _ _ _).mpr (amid_tri h5), by simp [maskOf, Nat.add_assoc]⟩
theorem hit_phit {q : Place} (hd : 0 < q.d) {ps : List Pt} {s : Nat} {l : List Nat} (hl : l ∈ threes (members ps s)) (h : inFew ps l q = true) : ∃ t ∈ members ps s, ∃ k, PHit (arAt q ps) (members ps s) t k ∧ k ≤ maskOf l := by
  rcases (mem_threes (members_sorted ps s)).mp hl with ⟨i, hi, rfl⟩ | ⟨i, hi, j, hj, hij, rfl⟩ | ⟨i, hi, j, hj, k, hk, hij, hjk, rfl⟩
  · exact ⟨i, hi, _, .one ((nothing_stretch _).mp ((stretch_iff q hd _ _).mp h)), by simp [maskOf]⟩
  · exact ⟨j, hj, _, .two i hi hij ((between_iff _ _).mpr ((stretch_iff q hd _ _).mp h)), by simp [maskOf]⟩
  · rcases tri_cases ((tri_iff q hd _ _ _).mp h) with z | z | z | z
    · exact ⟨k, hk, _, .three i j hi hj hij hjk z, by simp [maskOf, Nat.add_assoc]⟩
    · exact ⟨j, hj, _, .two i hi hij z, by simp [maskOf, ← Nat.add_assoc]⟩
    · exact ⟨k, hk, _, .two j hj hjk z, by simp [maskOf]⟩
    · exact ⟨k, hk, _, .two i hi (Nat.lt_trans hij hjk) z, by simp [maskOf]⟩
theorem three_eq (q : Place) (hd : 0 < q.d) (ps : List Pt) (s : Nat) : leastAround (arAt q ps) (members ps s) (members ps s) = threeOf ps s q := by
  have hs := members_sorted ps s
  have F := min_fold (L := (threes (members ps s)).filter fun l => inFew ps l q) maskOf (fun l h => mask_pos (List.mem_filter.mp h).1) 0
  show _ = ((threes (members ps s)).filter fun l => inFew ps l q).foldl (fun m l => if m = 0 then maskOf l else min m (maskOf l)) 0
  obtain ⟨f1, f2, _, f4⟩ := F
  generalize ((threes (members ps s)).filter fun l => inFew ps l q).foldl (fun m l => if m = 0 then maskOf l else min m (maskOf l)) 0 = r at *
  by_cases hr : r = 0
  · have hnil := (f1.mp hr).2
    refine Classical.byContradiction fun hne => ?_
    rw [hr] at hne
    obtain ⟨t, ht, hp⟩ := around_mem hne
    obtain ⟨l, h1, h2, _⟩ := phit_hit hd ht hp
    have : l ∈ (threes (members ps s)).filter fun l => inFew ps l q := List.mem_filter.mpr ⟨h1, h2⟩
    rw [hnil] at this
    exact nomatch this
  · rcases f2 hr with q0 | ⟨l, hl, e⟩
    · exact absurd q0 hr
    · obtain ⟨t, ht, k, hp, hk⟩ := hit_phit hd (List.mem_filter.mp hl).1 (List.mem_filter.mp hl).2
      obtain ⟨n0, le⟩ := around_least hs hs t ht k hp
      obtain ⟨t', ht', hp'⟩ := around_mem n0
      obtain ⟨l', h1, h2, h3⟩ := phit_hit hd ht' hp'
      have := f4 l' (List.mem_filter.mpr ⟨h1, h2⟩)
      omega
theorem in_three (q : Place) (ps : List Pt) (s : Nat) : inHull ps s q = decide (threeOf ps s q ≠ 0) := by
  have F := (min_fold (L := (threes (members ps s)).filter fun l => inFew ps l q) maskOf (fun l h => mask_pos (List.mem_filter.mp h).1) 0).1
  have F : threeOf ps s q = 0 ↔ (0 = 0 ∧ (threes (members ps s)).filter (fun l => inFew ps l q) = []) := F
  unfold inHull
  rw [Bool.eq_iff_iff, List.any_eq_true, decide_eq_true_iff, Ne, F]
  constructor
  · rintro ⟨l, h1, h2⟩ ⟨_, e⟩
    have : l ∈ (threes (members ps s)).filter fun l => inFew ps l q := List.mem_filter.mpr ⟨h1, h2⟩
    rw [e] at this
    exact nomatch this
  · intro h
    cases e : (threes (members ps s)).filter fun l => inFew ps l q with
    | nil => exact absurd ⟨rfl, e⟩ h
    | cons l r =>
      have : l ∈ (threes (members ps s)).filter fun l => inFew ps l q := by rw [e]; exact List.mem_cons_self
      exact ⟨l, (List.mem_filter.mp this).1, (List.mem_filter.mp this).2⟩
end HP

end
section
namespace HP
open Rc70
def comb (l m : Int) (p q : Place) : Place := ⟨l * p.x + m * q.x, l * p.y + m * q.y, l * p.d + m * q.d⟩
def ahead (a b : Pt) (q : Place) : Int := (b.1 - a.1) * (q.x - a.1 * q.d) + (b.2 - a.2) * (q.y - a.2 * q.d)
def pt (p : Pt) : Place := ⟨p.1, p.2, 1⟩
inductive Con where
  | sd (i j : Nat)
  | ah (i j : Nat)
def Con.val (ps : List Pt) (q : Place) : Con → Int
  | .sd i j => side (at_ ps i) (at_ ps j) q
  | .ah i j => ahead (at_ ps i) (at_ ps j) q
theorem side_comb (a b : Pt) (l m : Int) (p q : Place) : side a b (comb l m p q) = l * side a b p + m * side a b q := by
  simp only [side, comb]; grind
theorem ahead_comb (a b : Pt) (l m : Int) (p q : Place) : ahead a b (comb l m p q) = l * ahead a b p + m * ahead a b q := by
  simp only [ahead, comb]; grind
theorem Con.lin (ps : List Pt) (c : Con) (l m : Int) (p q : Place) : c.val ps (comb l m p q) = l * c.val ps p + m * c.val ps q := by
  cases c with
  | sd i j => exact side_comb _ _ _ _ _ _
  | ah i j => exact ahead_comb _ _ _ _ _ _
theorem side_swap (a b : Pt) (q : Place) : side b a q = -side a b q := by
  simp only [side]; grind
theorem comb_comb (a b l m : Int) (q r : Place) : comb a b q (comb l m q r) = comb (a + b * l) (b * m) q r := by
  simp only [comb, Place.mk.injEq]; refine ⟨?_, ?_, ?_⟩ <;> grind
theorem move {ps : List Pt} {q r : Place} (hq : 0 < q.d) (hr : 0 < r.d) : ∀ C : List Con, (∀ c ∈ C, 0 ≤ c.val ps q) →
    ∃ r' : Place, 0 < r'.d ∧ (∃ l m : Int, 0 ≤ l ∧ 0 ≤ m ∧ r' = comb l m q r) ∧ (∀ c ∈ C, 0 ≤ c.val ps r') ∧ (r' = r ∨ ∃ c ∈ C, c.val ps r' = 0 ∧ c.val ps r < 0)
  | [], _ => by
    refine ⟨r, hr, ⟨0, 1, by decide, by decide, by simp [comb]⟩, ?_, Or.inl rfl⟩
    intro c h
    cases h
  | c :: C, hs => by
    obtain ⟨r1, hd, ⟨l, m, hl, hm, e⟩, hC, hz⟩ := move hq hr C fun c h => hs c (List.mem_cons_of_mem _ h)
    have hc := hs c List.mem_cons_self
    rcases Int.lt_or_le (c.val ps r1) 0 with hn | hn
    · have hcr : c.val ps r < 0 := by
        rw [e, Con.lin] at hn
        have := Int.mul_nonneg hl hc
        rcases Int.lt_or_le (c.val ps r) 0 with z | z
        · exact z
        · have := Int.mul_nonneg hm z
          omega
      refine ⟨comb (-(c.val ps r1)) (c.val ps q) q r1, ?_, ?_, ?_, .inr ⟨c, List.mem_cons_self, ?_, hcr⟩⟩
      · have g1 : 0 < -(c.val ps r1) * q.d := Int.mul_pos (by omega) hq
        have g2 : 0 ≤ c.val ps q * r1.d := Int.mul_nonneg hc (Int.le_of_lt hd)
        show 0 < -(c.val ps r1) * q.d + c.val ps q * r1.d
        omega
      · refine ⟨-(c.val ps r1) + c.val ps q * l, c.val ps q * m, ?_, Int.mul_nonneg hc hm, ?_⟩
        · have := Int.mul_nonneg hc hl
          omega
        · rw [← comb_comb, ← e]
      · intro k hk
        rw [Con.lin]
        rcases List.mem_cons.mp hk with z | z
        · subst z
          have : -Con.val ps r1 k * Con.val ps q k + Con.val ps q k * Con.val ps r1 k = 0 := by grind
          omega
        · have g1 : 0 ≤ -(c.val ps r1) * k.val ps q := Int.mul_nonneg (by omega) (hs k hk)
          have g2 : 0 ≤ c.val ps q * k.val ps r1 := Int.mul_nonneg hc (hC k z)
          omega
      · rw [Con.lin]; grind
    · refine ⟨r1, hd, ⟨l, m, hl, hm, e⟩, ?_, ?_⟩
      · intro k hk
        rcases List.mem_cons.mp hk with z | z
        · subst z; exact hn
        · exact hC k z
      · rcases hz with z | ⟨k, hk, z⟩
        · exact .inl z
        · exact .inr ⟨k, List.mem_cons_of_mem _ hk, z⟩
def Like (p q : Place) : Prop := p.x * q.d = q.x * p.d ∧ p.y * q.d = q.y * p.d
theorem like_side {p q : Place} (h : Like p q) (a b : Pt) : q.d * side a b p = p.d * side a b q := by
  obtain ⟨h1, h2⟩ := h
  simp only [side]; grind
theorem sign_like {d e x y : Int} (hd : 0 < d) (he : 0 < e) (h : e * x = d * y) : (0 < x ↔ 0 < y) ∧ (x = 0 ↔ y = 0) ∧ (x < 0 ↔ y < 0) := by
  obtain ⟨a1, a2, a3⟩ := pos_mul_iff (x := x) he
  obtain ⟨b1, b2, b3⟩ := pos_mul_iff (x := y) hd
  rw [← h] at b1 b2 b3
  exact ⟨a1.symm.trans b1, a2.symm.trans b2, a3.symm.trans b3⟩
theorem like_few {ps : List Pt} {p q : Place} (hp : 0 < p.d) (hq : 0 < q.d) (h : Like p q) (l : List Nat) : inFew ps l p = inFew ps l q := by
  have S := fun a b => sign_like hp hq (like_side h a b)
  have st : ∀ a b, onStretch a b p = onStretch a b q := by
    intro a b
    have e1 : (q.d * q.d) * ((p.x - a.1 * p.d) * (p.x - b.1 * p.d)) = (p.d * p.d) * ((q.x - a.1 * q.d) * (q.x - b.1 * q.d)) := by
      have := h.1; grind
    have e2 : (q.d * q.d) * ((p.y - a.2 * p.d) * (p.y - b.2 * p.d)) = (p.d * p.d) * ((q.y - a.2 * q.d) * (q.y - b.2 * q.d)) := by
      have := h.2; grind
    have s1 := sign_like (Int.mul_pos hp hp) (Int.mul_pos hq hq) e1
    have s2 := sign_like (Int.mul_pos hp hp) (Int.mul_pos hq hq) e2
    have s3 := S a b
    rw [Bool.eq_iff_iff]
    unfold onStretch
    simp only [Bool.and_eq_true, beq_iff_eq, decide_eq_true_iff, s3.2.1, (sgn_le s1.1 s1.2.2).2, (sgn_le s2.1 s2.2.2).2]
  match l with
  | [] => rfl
  | [i] => exact st _ _
  | [i, j] => exact st _ _
  | [i, j, k] =>
    show inTriangle _ _ _ p = inTriangle _ _ _ q
    have s1 := S (at_ ps i) (at_ ps j)
    have s2 := S (at_ ps j) (at_ ps k)
    have s3 := S (at_ ps k) (at_ ps i)
    rw [Bool.eq_iff_iff]
    unfold inTriangle
    simp only [Bool.or_eq_true, Bool.and_eq_true, decide_eq_true_iff, (sgn_le s1.1 s1.2.2).1, (sgn_le s1.1 s1.2.2).2, (sgn_le s2.1 s2.2.2).1, (sgn_le s2.1 s2.2.2).2, (sgn_le s3.1 s3.2.2).1, (sgn_le s3.1 s3.2.2).2]
  | i :: j :: k :: m :: r => rfl
theorem like_hull {ps : List Pt} {s : Nat} {p q : Place} (hp : 0 < p.d) (hq : 0 < q.d) (h : Like p q) : inHull ps s p = inHull ps s q := by
  unfold inHull
  congr 1
  funext l
  exact like_few hp hq h l
theorem pt_d (p : Pt) : 0 < (pt p).d := Int.zero_lt_one
def IsPt (q : Place) (p : Pt) : Prop := q.x = p.1 * q.d ∧ q.y = p.2 * q.d
theorem IsPt.like {q : Place} {p : Pt} (h : IsPt q p) : Like q (pt p) := by
  obtain ⟨h1, h2⟩ := h
  exact ⟨by show q.x * 1 = p.1 * q.d; omega, by show q.y * 1 = p.2 * q.d; omega⟩
theorem isPt_iff {q : Place} {p : Pt} : IsPt q p ↔ arrow q.x q.y q.d p = (0, 0) := by
  unfold IsPt arrow
  rw [Prod.mk.injEq]
  omega
theorem pt_of {a b : Pt} {q : Place} (hab : a ≠ b) (h1 : side a b q = 0) (h2 : ahead a b q = 0) : IsPt q a := by
  have hv : ((b.1 - a.1, b.2 - a.2) : Ar) ≠ (0, 0) := by
    intro e
    rw [Prod.mk.injEq] at e
    exact hab (Prod.ext (by omega) (by omega))
  have := zero_of (v := (b.1 - a.1, b.2 - a.2)) (w := (q.x - a.1 * q.d, q.y - a.2 * q.d)) hv h1 h2
  rw [Prod.mk.injEq] at this
  exact ⟨by omega, by omega⟩
theorem cross_place {a b c e : Pt} {q : Place} (hq : 0 < q.d) (hab : a ≠ b) (h1 : side a b q = 0) (h2 : side c e q = 0) (h3 : side c e (pt a) ≠ 0) : ∃ r, crossing a b c e = some r ∧ 0 < r.d ∧ Like q r := by
  have ex : (q.x - a.1 * q.d) * ((b.1 - a.1) * (e.2 - c.2) - (b.2 - a.2) * (e.1 - c.1)) = q.d * ((c.1 - a.1) * (e.2 - c.2) - (c.2 - a.2) * (e.1 - c.1)) * (b.1 - a.1) := by
    simp only [side] at h1 h2; grind
  have ey : (q.y - a.2 * q.d) * ((b.1 - a.1) * (e.2 - c.2) - (b.2 - a.2) * (e.1 - c.1)) = q.d * ((c.1 - a.1) * (e.2 - c.2) - (c.2 - a.2) * (e.1 - c.1)) * (b.2 - a.2) := by
    simp only [side] at h1 h2; grind
  have et : side c e (pt a) = (c.1 - a.1) * (e.2 - c.2) - (c.2 - a.2) * (e.1 - c.1) := by
    simp only [side, pt]; grind
  rw [et] at h3
  unfold crossing
  simp only
  generalize (c.1 - a.1) * (e.2 - c.2) - (c.2 - a.2) * (e.1 - c.1) = t at *
  generalize (b.1 - a.1) * (e.2 - c.2) - (b.2 - a.2) * (e.1 - c.1) = z at *
  have hz : z ≠ 0 := by
    intro hz
    rw [hz, Int.mul_zero] at ex ey
    have n0 : q.d * t ≠ 0 := Int.mul_ne_zero (by omega) h3
    have x0 : b.1 - a.1 = 0 := (Int.mul_eq_zero.mp ex.symm).elim (fun z => absurd z n0) id
    have y0 : b.2 - a.2 = 0 := (Int.mul_eq_zero.mp ey.symm).elim (fun z => absurd z n0) id
    exact hab (Prod.ext (by omega) (by omega))
  rw [if_neg hz]
  by_cases hp : 0 < z
  · rw [if_pos hp]
    refine ⟨_, rfl, hp, ?_, ?_⟩ <;> simp only <;> grind
  · rw [if_neg hp]
    refine ⟨_, rfl, by simp only; omega, ?_, ?_⟩ <;> simp only <;> grind
def Btw (r : Place) (a b : Pt) : Prop := isBetween (arrow r.x r.y r.d a) (arrow r.x r.y r.d b) = true
def Edge (ps : List Pt) (C : List Con) (i j : Nat) : Prop := ∀ r : Place, 0 < r.d → (∀ c ∈ C, 0 ≤ c.val ps r) → side (at_ ps i) (at_ ps j) r = 0 → Btw r (at_ ps i) (at_ ps j)
theorem Edge.mono {ps : List Pt} {C D : List Con} {i j : Nat} (h : Edge ps C i j) (hs : ∀ c ∈ C, c ∈ D) : Edge ps D i j := fun r hr hc h0 => h r hr (fun c hc' => hc c (hs c hc')) h0
theorem tri_sum (a b c : Pt) (r : Place) : cross (arrow r.x r.y r.d a) (arrow r.x r.y r.d b) + cross (arrow r.x r.y r.d b) (arrow r.x r.y r.d c) + cross (arrow r.x r.y r.d c) (arrow r.x r.y r.d a) = r.d * r.d * ((b.1 - a.1) * (c.2 - a.2) - (b.2 - a.2) * (c.1 - a.1)) := by
  simp only [cross, arrow]; grind
theorem tri_edge {a b c : Pt} {r : Place} (hr : 0 < r.d) (z : (b.1 - a.1) * (c.2 - a.2) - (b.2 - a.2) * (c.1 - a.1) ≠ 0) (h0 : side a b r = 0) (h1 : 0 ≤ side b c r) (h2 : 0 ≤ side c a r) : Btw r a b := by
  have c0 := (side_sign r hr a b).2.1.mp h0
  have nn : ∀ a b : Pt, 0 ≤ side a b r → 0 ≤ cross (arrow r.x r.y r.d a) (arrow r.x r.y r.d b) := fun a b h => by
    rw [← side_ar]
    exact Int.mul_nonneg (Int.le_of_lt hr) h
  refine rim c0 (.inl ⟨nn b c h1, nn c a h2, ?_⟩)
  have e := tri_sum a b c r
  have n1 := nn b c h1
  have n2 := nn c a h2
  have : r.d * r.d * ((b.1 - a.1) * (c.2 - a.2) - (b.2 - a.2) * (c.1 - a.1)) ≠ 0 := Int.mul_ne_zero (Int.mul_ne_zero (by omega) (by omega)) z
  omega
theorem Btw.swap {r : Place} {a b : Pt} (h : Btw r a b) : Btw r b a := between_swap h
structure Part (ps : List Pt) (s : Nat) (q : Place) (C : List Con) : Prop where
  sat : ∀ c ∈ C, 0 ≤ c.val ps q
  hull : ∀ r : Place, 0 < r.d → (∀ c ∈ C, 0 ≤ c.val ps r) → inHull ps s r = true
  shape : ∀ c ∈ C, ∃ i ∈ members ps s, ∃ j ∈ members ps s, at_ ps i ≠ at_ ps j ∧ (c = .sd i j ∨ (c = .ah i j ∧ Con.sd i j ∈ C ∧ Con.sd j i ∈ C))
  edge : ∀ i j, Con.sd i j ∈ C → Edge ps C i j
theorem few_hull {ps : List Pt} {s : Nat} {q : Place} {l : List Nat} (h : l ∈ threes (members ps s)) (e : inFew ps l q = true) : inHull ps s q = true := List.any_eq_true.mpr ⟨l, h, e⟩
theorem ahead_ar (a b : Pt) (q : Place) : q.d * ahead a b q = dot (arrow q.x q.y q.d a) (arrow q.x q.y q.d a) - dot (arrow q.x q.y q.d a) (arrow q.x q.y q.d b) := by
  simp only [ahead, dot, arrow]; grind
theorem dot_swap (a b : Ar) : dot b a = dot a b := by simp only [dot]; grind
theorem lagrange (a b : Ar) : dot a a * dot b b = dot a b * dot a b + cross a b * cross a b := by
  simp only [dot, cross]; grind
theorem dot_self_nn (a : Ar) : 0 ≤ dot a a := by
  by_cases h : a = (0, 0)
  · subst h; decide
  · exact Int.le_of_lt (sq_pos h)
theorem dot_le {a b : Ar} (hab : a ≠ b) (h0 : cross a b = 0) (h1 : dot a b ≤ dot a a) (h2 : dot a b ≤ dot b b) : dot a b ≤ 0 := by
  rcases Int.lt_or_le 0 (dot a b) with hp | hp
  · exfalso
    have L := lagrange a b
    rw [h0, Int.mul_zero, Int.add_zero] at L
    have e1 : dot a a = dot a b := by
      rcases Int.lt_or_le (dot a b) (dot a a) with z | z
      · have g1 : dot a b * dot b b < dot a a * dot b b := Int.mul_lt_mul_of_pos_right z (by omega)
        have g2 : dot a b * dot a b ≤ dot a b * dot b b := Int.mul_le_mul_of_nonneg_left h2 (by omega)
        omega
      · omega
    have e2 : dot b b = dot a b := by
      rw [e1] at L
      exact Int.eq_of_mul_eq_mul_left (by omega) L
    have hv : ((a.1 - b.1, a.2 - b.2) : Ar) ≠ (0, 0) := by
      intro e
      rw [Prod.mk.injEq] at e
      exact hab (Prod.ext (by omega) (by omega))
    have := sq_pos hv
    have e3 : (a.1 - b.1) * (a.1 - b.1) + (a.2 - b.2) * (a.2 - b.2) = dot a a - 2 * dot a b + dot b b := by
      simp only [dot]; grind
    simp only at this
    omega
  · exact hp
theorem part_of {ps : List Pt} {s : Nat} {q : Place} (hq : 0 < q.d) (hn : ∀ i ∈ members ps s, ¬ IsPt q (at_ ps i)) (h : inHull ps s q = true) : ∃ C, Part ps s q C := by
  obtain ⟨l, hl, hf⟩ := List.any_eq_true.mp h
  have hm := (mem_threes (members_sorted ps s)).mp hl
  rcases hm with ⟨i, hi, rfl⟩ | ⟨i, hi, j, hj, hij, rfl⟩ | ⟨i, hi, j, hj, k, hk, hij, hjk, rfl⟩
  · exact absurd (isPt_iff.mpr (nothing_iff.mp ((nothing_stretch _).mp ((stretch_iff q hq _ _).mp hf)))) (hn i hi)
  · have hb := (between_iff _ _).mpr ((stretch_iff q hq _ _).mp hf)
    unfold isBetween at hb
    rw [Bool.and_eq_true, decide_eq_true_iff, decide_eq_true_iff] at hb
    have hne : at_ ps i ≠ at_ ps j := by
      intro e
      rw [e] at hb
      have := dot_self_nn (arrow q.x q.y q.d (at_ ps j))
      refine hn j hj (isPt_iff.mpr (Classical.byContradiction fun z => ?_))
      have := sq_pos z
      have h2 := hb.2
      unfold dot at h2
      omega
    have s0 : side (at_ ps i) (at_ ps j) q = 0 := (side_sign q hq _ _).2.1.mpr hb.1
    have s1 : side (at_ ps j) (at_ ps i) q = 0 := by rw [side_swap, s0]; rfl
    have btw : ∀ r : Place, 0 < r.d → (∀ c ∈ [Con.sd i j, Con.sd j i, Con.ah i j, Con.ah j i], 0 ≤ c.val ps r) → Btw r (at_ ps i) (at_ ps j) := by
      intro r hr hc
      have c1 : 0 ≤ side (at_ ps i) (at_ ps j) r := hc (.sd i j) (by simp)
      have c2 : 0 ≤ side (at_ ps j) (at_ ps i) r := hc (.sd j i) (by simp)
      have c3 : 0 ≤ ahead (at_ ps i) (at_ ps j) r := hc (.ah i j) (by simp)
      have c4 : 0 ≤ ahead (at_ ps j) (at_ ps i) r := hc (.ah j i) (by simp)
      rw [side_swap] at c2
      have c0 := (side_sign r hr (at_ ps i) (at_ ps j)).2.1.mp (by omega)
      have hne' : arrow r.x r.y r.d (at_ ps i) ≠ arrow r.x r.y r.d (at_ ps j) := by
        intro e
        unfold arrow at e
        rw [Prod.mk.injEq] at e
        refine hne (Prod.ext ?_ ?_)
        · exact Int.eq_of_mul_eq_mul_right (by omega) (show (at_ ps i).1 * r.d = (at_ ps j).1 * r.d by omega)
        · exact Int.eq_of_mul_eq_mul_right (by omega) (show (at_ ps i).2 * r.d = (at_ ps j).2 * r.d by omega)
      have g3 := Int.mul_nonneg (Int.le_of_lt hr) c3
      have g4 := Int.mul_nonneg (Int.le_of_lt hr) c4
      rw [ahead_ar] at g3 g4
      have e : dot (arrow r.x r.y r.d (at_ ps j)) (arrow r.x r.y r.d (at_ ps i)) = dot (arrow r.x r.y r.d (at_ ps i)) (arrow r.x r.y r.d (at_ ps j)) := by simp only [dot]; grind
      have := dot_le hne' c0 (by omega) (by omega)
      unfold Btw isBetween
      rw [Bool.and_eq_true, decide_eq_true_iff, decide_eq_true_iff]
      exact ⟨c0, this⟩
    refine ⟨[.sd i j, .sd j i, .ah i j, .ah j i], ?_, ?_, ?_, ?_⟩
    · intro c hc
      have nn : ∀ a b : Pt, dot (arrow q.x q.y q.d a) (arrow q.x q.y q.d b) ≤ 0 → 0 ≤ ahead a b q := by
        intro a b h
        have := ahead_ar a b q
        have := dot_self_nn (arrow q.x q.y q.d a)
        rcases Int.lt_or_le (ahead a b q) 0 with z | z
        · have := Int.mul_neg_of_pos_of_neg hq z
          omega
        · exact z
      simp only [List.mem_cons, List.not_mem_nil, or_false] at hc
      rcases hc with rfl | rfl | rfl | rfl
      · show 0 ≤ side _ _ q; omega
      · show 0 ≤ side _ _ q; omega
      · exact nn _ _ hb.2
      · refine nn _ _ ?_
        have := hb.2
        rw [dot_swap]
        exact this
    · intro r hr hc
      exact few_hull hl ((stretch_iff r hr _ _).mpr ((between_iff _ _).mp (btw r hr hc)))
    · intro c hc
      simp only [List.mem_cons, List.not_mem_nil, or_false] at hc
      rcases hc with rfl | rfl | rfl | rfl
      · exact ⟨i, hi, j, hj, hne, .inl rfl⟩
      · exact ⟨j, hj, i, hi, Ne.symm hne, .inl rfl⟩
      · exact ⟨i, hi, j, hj, hne, .inr ⟨rfl, by simp, by simp⟩⟩
      · exact ⟨j, hj, i, hi, Ne.symm hne, .inr ⟨rfl, by simp, by simp⟩⟩
    · intro u v huv r hr hc h0
      simp only [List.mem_cons, Con.sd.injEq, List.not_mem_nil, or_false, reduceCtorEq] at huv
      rcases huv with ⟨rfl, rfl⟩ | ⟨rfl, rfl⟩
      · exact btw r hr hc
      · exact (btw r hr hc).swap
  · have hT : inTriangle (at_ ps i) (at_ ps j) (at_ ps k) q = true := hf
    unfold inTriangle at hT
    simp only [Bool.or_eq_true, Bool.and_eq_true, decide_eq_true_iff] at hT
    have dif : ∀ {a b c : Pt}, (b.1 - a.1) * (c.2 - a.2) - (b.2 - a.2) * (c.1 - a.1) ≠ 0 → a ≠ b ∧ b ≠ c ∧ c ≠ a := by
      intro a b c h
      refine ⟨?_, ?_, ?_⟩ <;> rintro rfl <;> apply h <;> grind
    rcases hT with ⟨z, u, v, w⟩ | ⟨z, u, v, w⟩
    · obtain ⟨n1, n2, n3⟩ := dif (by omega : ((at_ ps j).1 - (at_ ps i).1) * ((at_ ps k).2 - (at_ ps i).2) - ((at_ ps j).2 - (at_ ps i).2) * ((at_ ps k).1 - (at_ ps i).1) ≠ 0)
      refine ⟨[.sd i j, .sd j k, .sd k i], ?_, ?_, ?_, ?_⟩
      · intro c hc
        simp only [List.mem_cons, List.not_mem_nil, or_false] at hc
        rcases hc with rfl | rfl | rfl
        · exact u
        · exact v
        · exact w
      · intro r hr hc
        refine few_hull hl ?_
        have c1 : 0 ≤ side (at_ ps i) (at_ ps j) r := hc (.sd i j) (by simp)
        have c2 : 0 ≤ side (at_ ps j) (at_ ps k) r := hc (.sd j k) (by simp)
        have c3 : 0 ≤ side (at_ ps k) (at_ ps i) r := hc (.sd k i) (by simp)
        show inTriangle _ _ _ r = true
        unfold inTriangle
        simp only [Bool.or_eq_true, Bool.and_eq_true, decide_eq_true_iff]
        exact .inl ⟨z, c1, c2, c3⟩
      · intro c hc
        simp only [List.mem_cons, List.not_mem_nil, or_false] at hc
        rcases hc with rfl | rfl | rfl
        · exact ⟨i, hi, j, hj, n1, .inl rfl⟩
        · exact ⟨j, hj, k, hk, n2, .inl rfl⟩
        · exact ⟨k, hk, i, hi, n3, .inl rfl⟩
      · intro u v huv r hr hc h0
        have c1 : 0 ≤ side (at_ ps i) (at_ ps j) r := hc (.sd i j) (by simp)
        have c2 : 0 ≤ side (at_ ps j) (at_ ps k) r := hc (.sd j k) (by simp)
        have c3 : 0 ≤ side (at_ ps k) (at_ ps i) r := hc (.sd k i) (by simp)
        simp only [List.mem_cons, Con.sd.injEq, List.not_mem_nil, or_false] at huv
        rcases huv with ⟨rfl, rfl⟩ | ⟨rfl, rfl⟩ | ⟨rfl, rfl⟩
        · exact tri_edge hr (c := at_ ps k) (by omega) h0 c2 c3
        · exact tri_edge hr (c := at_ ps i) (by grind) h0 c3 c1
        · exact tri_edge hr (c := at_ ps j) (by grind) h0 c1 c2
    · obtain ⟨n1, n2, n3⟩ := dif (by omega : ((at_ ps j).1 - (at_ ps i).1) * ((at_ ps k).2 - (at_ ps i).2) - ((at_ ps j).2 - (at_ ps i).2) * ((at_ ps k).1 - (at_ ps i).1) ≠ 0)
      refine ⟨[.sd j i, .sd k j, .sd i k], ?_, ?_, ?_, ?_⟩
      · intro c hc
        simp only [List.mem_cons, List.not_mem_nil, or_false] at hc
        rcases hc with rfl | rfl | rfl
        · show 0 ≤ side _ _ q; rw [side_swap]; omega
        · show 0 ≤ side _ _ q; rw [side_swap]; omega
        · show 0 ≤ side _ _ q; rw [side_swap]; omega
      · intro r hr hc
        refine few_hull hl ?_
        have c1 : 0 ≤ side (at_ ps j) (at_ ps i) r := hc (.sd j i) (by simp)
        have c2 : 0 ≤ side (at_ ps k) (at_ ps j) r := hc (.sd k j) (by simp)
        have c3 : 0 ≤ side (at_ ps i) (at_ ps k) r := hc (.sd i k) (by simp)
        rw [side_swap] at c1 c2 c3
        show inTriangle _ _ _ r = true
        unfold inTriangle
        simp only [Bool.or_eq_true, Bool.and_eq_true, decide_eq_true_iff]
        exact .inr ⟨z, by omega, by omega, by omega⟩
      · intro c hc
        simp only [List.mem_cons, List.not_mem_nil, or_false] at hc
        rcases hc with rfl | rfl | rfl
        · exact ⟨j, hj, i, hi, Ne.symm n1, .inl rfl⟩
        · exact ⟨k, hk, j, hj, Ne.symm n2, .inl rfl⟩
        · exact ⟨i, hi, k, hk, Ne.symm n3, .inl rfl⟩
      · intro u v huv r hr hc h0
        have c1 : 0 ≤ side (at_ ps j) (at_ ps i) r := hc (.sd j i) (by simp)
        have c2 : 0 ≤ side (at_ ps k) (at_ ps j) r := hc (.sd k j) (by simp)
        have c3 : 0 ≤ side (at_ ps i) (at_ ps k) r := hc (.sd i k) (by simp)
        simp only [List.mem_cons, Con.sd.injEq, List.not_mem_nil, or_false] at huv
        rcases huv with ⟨rfl, rfl⟩ | ⟨rfl, rfl⟩ | ⟨rfl, rfl⟩
        · exact tri_edge hr (c := at_ ps k) (by grind) h0 c3 c2
        · exact tri_edge hr (c := at_ ps i) (by grind) h0 c1 c3
        · exact tri_edge hr (c := at_ ps j) (by grind) h0 c2 c1
theorem parts_of {ps : List Pt} {q : Place} (hq : 0 < q.d) (hn : ∀ p ∈ ps, ¬ IsPt q p) (hm : ∀ s i, i ∈ members ps s → at_ ps i ∈ ps) : ∀ ss : List Nat, (∀ s ∈ ss, inHull ps s q = true) →
    ∃ C : List Con, (∀ c ∈ C, 0 ≤ c.val ps q) ∧ (∀ r : Place, 0 < r.d → (∀ c ∈ C, 0 ≤ c.val ps r) → ∀ s ∈ ss, inHull ps s r = true) ∧
      (∀ c ∈ C, ∃ s ∈ ss, ∃ i ∈ members ps s, ∃ j ∈ members ps s, at_ ps i ≠ at_ ps j ∧ (c = .sd i j ∨ (c = .ah i j ∧ Con.sd i j ∈ C ∧ Con.sd j i ∈ C))) ∧ ∀ i j, Con.sd i j ∈ C → Edge ps C i j
  | [], _ => by
    refine ⟨[], ?_, ?_, ?_, ?_⟩
    · intro c h; cases h
    · intro r _ _ s h; cases h
    · intro c h; cases h
    · intro i j h; cases h
  | s :: ss, h => by
    obtain ⟨C, h1, h2, h3, h4⟩ := parts_of hq hn hm ss fun s hs => h s (List.mem_cons_of_mem _ hs)
    obtain ⟨D, d1, d2, d3, d4⟩ := part_of hq (fun i hi => hn _ (hm s i hi)) (h s List.mem_cons_self)
    refine ⟨D ++ C, fun c hc => ?_, fun r hr hc t ht => ?_, fun c hc => ?_, fun i j hc => ?_⟩
    · rcases List.mem_append.mp hc with z | z
      · exact d1 c z
      · exact h1 c z
    · rcases List.mem_cons.mp ht with z | z
      · subst z; exact d2 r hr fun c hc' => hc c (List.mem_append_left _ hc')
      · exact h2 r hr (fun c hc' => hc c (List.mem_append_right _ hc')) t z
    · rcases List.mem_append.mp hc with z | z
      · obtain ⟨i, hi, j, hj, hne, e⟩ := d3 c z
        refine ⟨s, List.mem_cons_self, i, hi, j, hj, hne, ?_⟩
        rcases e with e | ⟨e, e1, e2⟩
        · exact .inl e
        · exact .inr ⟨e, List.mem_append_left _ e1, List.mem_append_left _ e2⟩
      · obtain ⟨t, ht, i, hi, j, hj, hne, e⟩ := h3 c z
        refine ⟨t, List.mem_cons_of_mem _ ht, i, hi, j, hj, hne, ?_⟩
        rcases e with e | ⟨e, e1, e2⟩
        · exact .inl e
        · exact .inr ⟨e, List.mem_append_right _ e1, List.mem_append_right _ e2⟩
    · rcases List.mem_append.mp hc with z | z
      · exact (d4 i j z).mono fun c hc => List.mem_append_left _ hc
      · exact (h4 i j z).mono fun c hc => List.mem_append_right _ hc
theorem at_mem {ps : List Pt} {s i : Nat} (h : i ∈ members ps s) : at_ ps i ∈ ps := by
  have hi : i < ps.length := List.mem_range.mp (List.mem_filter.mp h).1
  unfold at_
  rw [List.getD_eq_getElem?_getD, List.getElem?_eq_getElem hi]
  exact List.getElem_mem hi
def Found (ps : List Pt) (ss : List Nat) : Prop := (∃ p ∈ ps, ∀ s ∈ ss, inHull ps s (pt p) = true) ∨
  ∃ s ∈ ss, ∃ t ∈ ss, ∃ i ∈ members ps s, ∃ j ∈ members ps s, i < j ∧ ∃ u ∈ members ps t, ∃ v ∈ members ps t, u < v ∧ ∃ r, crossing (at_ ps i) (at_ ps j) (at_ ps u) (at_ ps v) = some r ∧ 0 < r.d ∧ (∀ s ∈ ss, inHull ps s r = true) ∧
    ∃ r', 0 < r'.d ∧ Like r' r ∧ Btw r' (at_ ps i) (at_ ps j) ∧ Btw r' (at_ ps u) (at_ ps v)
theorem found_of {ps : List Pt} {ss : List Nat} {q : Place} (hss : ss ≠ []) (hq : 0 < q.d) (h : ∀ s ∈ ss, inHull ps s q = true) : Found ps ss := by
  by_cases hn : ∃ p ∈ ps, IsPt q p
  · obtain ⟨p, hp, e⟩ := hn
    exact .inl ⟨p, hp, fun s hs => by rw [← like_hull hq (pt_d p) e.like]; exact h s hs⟩
  have hn : ∀ p ∈ ps, ¬ IsPt q p := fun p hp e => hn ⟨p, hp, e⟩
  obtain ⟨C, c1, c2, c3, c4⟩ := parts_of hq hn (fun s i hi => at_mem hi) ss h
  -- a place with all constraints kept that is at the foot of one of «ahead»
  have foot : ∀ r : Place, 0 < r.d → (∀ c ∈ C, 0 ≤ c.val ps r) → ∀ i j, Con.sd i j ∈ C → Con.sd j i ∈ C → at_ ps i ≠ at_ ps j → at_ ps i ∈ ps → ahead (at_ ps i) (at_ ps j) r = 0 → Found ps ss := by
    intro r hr hc i j h1 h2 hne hi h0
    have a1 : 0 ≤ side (at_ ps i) (at_ ps j) r := hc _ h1
    have a2 : 0 ≤ side (at_ ps j) (at_ ps i) r := hc _ h2
    rw [side_swap] at a2
    have e := pt_of hne (by omega) h0
    exact .inl ⟨at_ ps i, hi, fun s hs => by rw [← like_hull hr (pt_d (at_ ps i)) e.like]; exact c2 r hr hc s hs⟩
  -- the second move: along a line
  have second : ∀ r : Place, 0 < r.d → (∀ c ∈ C, 0 ≤ c.val ps r) → ∀ s ∈ ss, ∀ i ∈ members ps s, ∀ j ∈ members ps s, i < j → at_ ps i ≠ at_ ps j → side (at_ ps i) (at_ ps j) r = 0 → Edge ps C i j → Found ps ss := by
    intro r hr hc s hs i hi j hj hij hne h0 hE
    obtain ⟨r', hd, ⟨l, m, _, _, e⟩, hC, hz⟩ := move (ps := ps) hr (pt_d (at_ ps i)) C hc
    rcases hz with z | ⟨c, hcC, z1, z2⟩
    · exact .inl ⟨at_ ps i, at_mem hi, fun t ht => by rw [← z]; exact c2 r' hd hC t ht⟩
    · obtain ⟨t, ht, u, hu, v, hv, huv, e2⟩ := c3 c hcC
      rcases e2 with rfl | ⟨rfl, e3, e4⟩
      · have z1 : side (at_ ps u) (at_ ps v) r' = 0 := z1
        have z2 : side (at_ ps u) (at_ ps v) (pt (at_ ps i)) < 0 := z2
        have on : side (at_ ps i) (at_ ps j) r' = 0 := by
          rw [e, side_comb, h0]
          have : side (at_ ps i) (at_ ps j) (pt (at_ ps i)) = 0 := by simp only [side, pt]; grind
          rw [this]; simp
        have huv' : u ≠ v := fun z => huv (by rw [z])
        rcases Nat.lt_or_gt_of_ne huv' with w | w
        · obtain ⟨q2, k1, k2, k3⟩ := cross_place hd hne on z1 (by omega)
          exact .inr ⟨s, hs, t, ht, i, hi, j, hj, hij, u, hu, v, hv, w, q2, k1, k2, fun x hx => by rw [← like_hull hd k2 k3]; exact c2 r' hd hC x hx, r', hd, k3, hE r' hd hC on, c4 u v hcC r' hd hC z1⟩
        · obtain ⟨q2, k1, k2, k3⟩ := cross_place (c := at_ ps v) (e := at_ ps u) hd hne on (by rw [side_swap, z1]; rfl) (by rw [side_swap]; omega)
          exact .inr ⟨s, hs, t, ht, i, hi, j, hj, hij, v, hv, u, hu, w, q2, k1, k2, fun x hx => by rw [← like_hull hd k2 k3]; exact c2 r' hd hC x hx, r', hd, k3, hE r' hd hC on, (c4 u v hcC r' hd hC z1).swap⟩
      · exact foot r' hd hC u v e3 e4 huv (at_mem hu) z1
  -- the first move: toward a point of the first set
  obtain ⟨s0, hs0⟩ := List.exists_mem_of_ne_nil ss hss
  obtain ⟨l, hl, _⟩ := List.any_eq_true.mp (h s0 hs0)
  obtain ⟨i0, hi0⟩ : ∃ i, i ∈ members ps s0 := by
    rcases (mem_threes (members_sorted ps s0)).mp hl with ⟨i, hi, _⟩ | ⟨i, hi, _⟩ | ⟨i, hi, _⟩ <;> exact ⟨i, hi⟩
  obtain ⟨r, hd, _, hC, hz⟩ := move (ps := ps) hq (pt_d (at_ ps i0)) C c1
  rcases hz with z | ⟨c, hcC, z1, z2⟩
  · exact .inl ⟨at_ ps i0, at_mem hi0, fun t ht => by rw [← z]; exact c2 r hd hC t ht⟩
  · obtain ⟨t, ht, u, hu, v, hv, huv, e2⟩ := c3 c hcC
    rcases e2 with rfl | ⟨rfl, e3, e4⟩
    · have z1 : side (at_ ps u) (at_ ps v) r = 0 := z1
      have huv' : u ≠ v := fun z => huv (by rw [z])
      rcases Nat.lt_or_gt_of_ne huv' with w | w
      · exact second r hd hC t ht u hu v hv w huv z1 (c4 u v hcC)
      · exact second r hd hC t ht v hv u hu w (Ne.symm huv) (by rw [side_swap, z1]; rfl) fun r' hr' hc' h0' => (c4 u v hcC r' hr' hc' (by rw [side_swap, h0']; rfl)).swap
    · exact foot r hd hC u v e3 e4 huv (at_mem hu) z1
theorem meet_iff {ps : List Pt} {ss : List Nat} (hss : ss ≠ []) : meetOf ps ss = true ↔ ∃ q : Place, 0 < q.d ∧ ∀ s ∈ ss, inHull ps s q = true := by
  unfold meetOf
  simp only [Bool.or_eq_true, List.any_eq_true, List.all_eq_true]
  constructor
  · rintro (⟨p, _, h⟩ | ⟨s, _, t, _, x, _, y, _, h⟩)
    · exact ⟨⟨p.1, p.2, 1⟩, pt_d p, h⟩
    · cases e : crossing (at_ ps x.1) (at_ ps x.2) (at_ ps y.1) (at_ ps y.2) with
      | none => rw [e] at h; cases h
      | some q =>
        rw [e] at h
        refine ⟨q, ?_, List.all_eq_true.mp h⟩
        unfold crossing at e
        simp only at e
        split at e
        · cases e
        · cases e
          split
          · assumption
          · simp only; omega
  · rintro ⟨q, hq, h⟩
    rcases found_of hss hq h with ⟨p, hp, h⟩ | ⟨s, hs, t, ht, i, hi, j, hj, hij, u, hu, v, hv, huv, r, e, hr, h, _⟩
    · exact .inl ⟨p, hp, h⟩
    · refine .inr ⟨s, hs, t, ht, (i, j), (mem_twos (members_sorted ps s)).mpr ⟨hi, hj, hij⟩, (u, v), (mem_twos (members_sorted ps t)).mpr ⟨hu, hv, huv⟩, ?_⟩
      rw [e]
      exact List.all_eq_true.mpr h
end HP

end
section
namespace HP
open Rc70
def fn (u v : Int) (a : Ar) : Int := u * a.1 + v * a.2
theorem extreme : ∀ L : List Ar, L ≠ [] → (∀ a ∈ L, a ≠ (0, 0)) → (∀ a ∈ L, ∀ b ∈ L, isBetween a b = false) → (∀ a ∈ L, ∀ b ∈ L, ∀ c ∈ L, isAmid a b c = false) →
    ∃ v ∈ L, ∀ a ∈ L, 0 < cross v a ∨ (cross v a = 0 ∧ 0 < dot v a)
  | [], h, _, _, _ => absurd rfl h
  | [a], _, hz, _, _ => by
    refine ⟨a, List.mem_cons_self, fun b hb => ?_⟩
    rw [List.mem_singleton.mp hb]
    refine .inr ⟨by simp only [cross]; grind, sq_pos (hz a List.mem_cons_self)⟩
  | a :: b :: r, _, hz, hB, hA => by
    have up : ∀ {x}, x ∈ b :: r → x ∈ a :: b :: r := fun h => List.mem_cons_of_mem _ h
    obtain ⟨v, hv, H⟩ := extreme (b :: r) (by simp) (fun x h => hz x (up h)) (fun x h y h' => hB x (up h) y (up h')) (fun x h y h' z h'' => hA x (up h) y (up h') z (up h''))
    have ha : a ∈ a :: b :: r := List.mem_cons_self
    have nb := fun {x y} (hx : x ∈ a :: b :: r) (hy : y ∈ a :: b :: r) (h : cross x y = 0) => show 0 < dot x y from by
      have := hB x hx y hy
      unfold isBetween at this
      rcases Int.lt_or_le 0 (dot x y) with z | z
      · exact z
      · rw [decide_eq_true h, decide_eq_true z] at this
        cases this
    rcases Int.lt_trichotomy (cross v a) 0 with h | h | h
    · -- a is the new one
      refine ⟨a, ha, fun x hx => ?_⟩
      have hav : 0 < cross a v := by rw [cross_swap]; omega
      rcases Int.lt_trichotomy (cross a x) 0 with k | k | k
      · exfalso
        rcases List.mem_cons.mp hx with z | z
        · subst z
          have : cross x x = 0 := by simp only [cross]; grind
          omega
        · have hxa : 0 < cross x a := by rw [cross_swap]; omega
          rcases H x z with w | ⟨w, w2⟩
          · have := hA a ha v (up hv) x hx
            unfold isAmid at this
            rw [decide_eq_true hav, decide_eq_true w, decide_eq_true hxa] at this
            cases this
          · -- x lies along v
            have e : dot v v * cross a x = dot v x * cross a v := by
              unfold cross at w
              simp only [cross, dot]
              grind
            have g1 := Int.mul_neg_of_pos_of_neg (sq_pos (hz v (up hv))) k
            have g2 := Int.mul_pos w2 hav
            unfold dot at e g2
            omega
      · exact .inr ⟨k, nb ha hx k⟩
      · exact .inl k
    · refine ⟨v, up hv, fun x hx => ?_⟩
      rcases List.mem_cons.mp hx with z | z
      · subst z; exact .inr ⟨h, nb (up hv) ha h⟩
      · exact H x z
    · refine ⟨v, up hv, fun x hx => ?_⟩
      rcases List.mem_cons.mp hx with z | z
      · subst z; exact .inl h
      · exact H x z
theorem tilt {v : Ar} : ∀ L : List Ar, (∀ a ∈ L, 0 < cross v a ∨ (cross v a = 0 ∧ 0 < dot v a)) → ∃ n : Int, 0 ≤ n ∧ ∀ a ∈ L, 0 < n * cross v a + dot v a
  | [], _ => ⟨0, by decide, fun _ h => nomatch h⟩
  | a :: L, h => by
    obtain ⟨n, hn, H⟩ := tilt L fun x hx => h x (List.mem_cons_of_mem _ hx)
    have up : ∀ k : Int, 0 ≤ k → ∀ x ∈ L, 0 < (n + k) * cross v x + dot v x := by
      intro k hk x hx
      have g : 0 ≤ cross v x := by rcases h x (List.mem_cons_of_mem _ hx) with z | z <;> omega
      have := Int.mul_nonneg hk g
      have := H x hx
      rw [Int.add_mul]
      omega
    rcases h a List.mem_cons_self with z | ⟨z1, z2⟩
    · refine ⟨n + ((dot v a).natAbs + 1), by omega, fun x hx => ?_⟩
      rcases List.mem_cons.mp hx with w | w
      · subst w
        have g1 : 0 ≤ n * cross v x := Int.mul_nonneg hn (Int.le_of_lt z)
        have g2 : ((dot v x).natAbs + 1 : Int) * 1 ≤ ((dot v x).natAbs + 1) * cross v x := Int.mul_le_mul_of_nonneg_left z (by omega)
        rw [Int.add_mul]
        omega
      · exact up _ (by omega) x w
    · refine ⟨n, hn, fun x hx => ?_⟩
      rcases List.mem_cons.mp hx with w | w
      · subst w; rw [z1, Int.mul_zero]; omega
      · exact H x w
theorem amid_perm {a b c : Ar} (h : isAmid a b c = true) : isAmid b c a = true ∧ isAmid b a c = true := by
  unfold isAmid at h ⊢
  simp only [Bool.or_eq_true, Bool.and_eq_true, decide_eq_true_iff] at h ⊢
  rw [cross_swap a b, cross_swap b c, cross_swap c a]
  omega
theorem amid_self {a b : Ar} : isAmid a a b = false ∧ isAmid a b a = false ∧ isAmid b a a = false := by
  have e : cross a a = 0 := by simp only [cross]; grind
  unfold isAmid
  simp [e]
theorem beyond_of {ps : List Pt} {s : Nat} {q : Place} (hq : 0 < q.d) (h : inHull ps s q = false) : ∃ u v : Int, ∀ i ∈ members ps s, 0 < fn u v (arAt q ps i) := by
  by_cases hm : members ps s = []
  · exact ⟨0, 0, fun i hi => by rw [hm] at hi; cases hi⟩
  have no : ∀ t ∈ members ps s, ∀ k, ¬ PHit (arAt q ps) (members ps s) t k := by
    intro t ht k hk
    obtain ⟨l, hl, hf, _⟩ := phit_hit hq ht hk
    rw [few_hull hl hf] at h
    cases h
  have hz : ∀ i ∈ members ps s, isNothing (arAt q ps i) = false := fun i hi => by
    cases e : isNothing (arAt q ps i)
    · rfl
    · exact absurd (.one e) (no i hi _)
  have hself : ∀ a : Ar, a ≠ (0, 0) → isBetween a a = false := fun a ha => by
    have := sq_pos ha
    unfold isBetween dot
    rw [Bool.and_eq_false_iff]
    right
    exact decide_eq_false (by omega)
  have hB : ∀ i ∈ members ps s, ∀ j ∈ members ps s, isBetween (arAt q ps i) (arAt q ps j) = false := fun i hi j hj => by
    cases e : isBetween (arAt q ps i) (arAt q ps j)
    · rfl
    · exfalso
      rcases Nat.lt_trichotomy i j with z | z | z
      · exact no j hj _ (.two i hi z e)
      · subst z
        rw [hself _ (count_nothing.mp (hz i hi))] at e
        cases e
      · exact no i hi _ (.two j hj z (between_swap e))
  have hA : ∀ i ∈ members ps s, ∀ j ∈ members ps s, ∀ k ∈ members ps s, isAmid (arAt q ps i) (arAt q ps j) (arAt q ps k) = false := fun i hi j hj k hk => by
    cases e : isAmid (arAt q ps i) (arAt q ps j) (arAt q ps k)
    · rfl
    · exfalso
      have base : ∀ x ∈ members ps s, ∀ y ∈ members ps s, ∀ z ∈ members ps s, x < y → y < z → isAmid (arAt q ps x) (arAt q ps y) (arAt q ps z) = true → False := fun x hx y hy z hz' h1 h2 h3 => no z hz' _ (.three x y hx hy h1 h2 h3)
      have e2 := (amid_perm e).1
      have e3 := (amid_perm e2).1
      have f1 := (amid_perm e).2
      have f2 := (amid_perm f1).1
      have f3 := (amid_perm f2).1
      rcases Nat.lt_trichotomy i j with a | a | a
      · rcases Nat.lt_trichotomy j k with b | b | b
        · exact base i hi j hj k hk a b e
        · subst b; rw [amid_self.2.2] at e; cases e
        · rcases Nat.lt_trichotomy i k with c | c | c
          · exact base i hi k hk j hj c b f2
          · subst c; rw [amid_self.2.1] at e; cases e
          · exact base k hk i hi j hj c a e3
      · subst a; rw [amid_self.1] at e; cases e
      · rcases Nat.lt_trichotomy i k with b | b | b
        · exact base j hj i hi k hk a b f1
        · subst b; rw [amid_self.2.1] at e; cases e
        · rcases Nat.lt_trichotomy j k with c | c | c
          · exact base j hj k hk i hi c b e2
          · subst c; rw [amid_self.2.2] at e; cases e
          · exact base k hk j hj i hi c a f3
  have mp : ∀ {x}, x ∈ (members ps s).map (arAt q ps) → ∃ i ∈ members ps s, arAt q ps i = x := fun h => List.mem_map.mp h
  obtain ⟨v, _, H⟩ := extreme ((members ps s).map (arAt q ps)) (by simpa using hm)
    (fun a h => by obtain ⟨i, hi, rfl⟩ := mp h; exact count_nothing.mp (hz i hi))
    (fun a h b h' => by obtain ⟨i, hi, rfl⟩ := mp h; obtain ⟨j, hj, rfl⟩ := mp h'; exact hB i hi j hj)
    (fun a h b h' c h'' => by obtain ⟨i, hi, rfl⟩ := mp h; obtain ⟨j, hj, rfl⟩ := mp h'; obtain ⟨k, hk, rfl⟩ := mp h''; exact hA i hi j hj k hk)
  obtain ⟨n, _, T⟩ := tilt _ H
  refine ⟨v.1 - n * v.2, v.2 + n * v.1, fun i hi => ?_⟩
  have := T (arAt q ps i) (List.mem_map.mpr ⟨i, hi, rfl⟩)
  have e : fn (v.1 - n * v.2) (v.2 + n * v.1) (arAt q ps i) = n * cross v (arAt q ps i) + dot v (arAt q ps i) := by
    simp only [fn, cross, dot]; grind
  omega
theorem not_beyond {ps : List Pt} {s : Nat} {q : Place} (hq : 0 < q.d) (h : inHull ps s q = true) (u v : Int) : ∃ i ∈ members ps s, fn u v (arAt q ps i) ≤ 0 := by
  refine Classical.byContradiction fun hn => ?_
  have P : ∀ i ∈ members ps s, 0 < fn u v (arAt q ps i) := fun i hi => by
    rcases Int.lt_or_le 0 (fn u v (arAt q ps i)) with z | z
    · exact z
    · exact absurd ⟨i, hi, z⟩ hn
  obtain ⟨l, hl, hf⟩ := List.any_eq_true.mp h
  obtain ⟨t, ht, k, hp, _⟩ := hit_phit hq hl hf
  have pt := P t ht
  cases hp with
  | one e =>
    rw [nothing_iff.mp e] at pt
    simp [fn] at pt
  | two m hm _ e =>
    have pm := P m hm
    unfold isBetween at e
    rw [Bool.and_eq_true, decide_eq_true_iff, decide_eq_true_iff] at e
    generalize arAt q ps t = a at *
    generalize arAt q ps m = b at *
    have e1 : fn u v b * dot b a = fn u v a * dot b b := by
      have := e.1
      simp only [cross] at this
      simp only [fn, dot]
      grind
    have hb : b ≠ (0, 0) := by rintro rfl; simp [fn] at pm
    have g1 : 0 < fn u v a * dot b b := Int.mul_pos pt (sq_pos hb)
    have g2 : fn u v b * dot b a ≤ 0 := Int.mul_nonpos_of_nonneg_of_nonpos (by omega) e.2
    omega
  | three l m hl hm _ _ e =>
    have pm := P m hm
    have pl := P l hl
    generalize arAt q ps t = a at *
    generalize arAt q ps m = b at *
    generalize arAt q ps l = c at *
    have e1 : cross c b * fn u v a + cross b a * fn u v c + cross a c * fn u v b = 0 := by
      simp only [cross, fn]; grind
    unfold isAmid at e
    simp only [Bool.or_eq_true, Bool.and_eq_true, decide_eq_true_iff] at e
    rcases e with ⟨h1, h2, h3⟩ | ⟨h1, h2, h3⟩
    · have := Int.mul_pos h1 pt
      have := Int.mul_pos h2 pl
      have := Int.mul_pos h3 pm
      omega
    · have := Int.mul_neg_of_neg_of_pos h1 pt
      have := Int.mul_neg_of_neg_of_pos h2 pl
      have := Int.mul_neg_of_neg_of_pos h3 pm
      omega
end HP

end
section
namespace HP
open Rc70
theorem foldl_min_le {α : Type} (g : α → Nat) : ∀ (l : List α) (k : Nat), l.foldl (fun k a => min k (g a)) k ≤ k ∧ ∀ a ∈ l, l.foldl (fun k a => min k (g a)) k ≤ g a
  | [], k => ⟨Nat.le_refl _, fun _ h => nomatch h⟩
  | a :: l, k => by
    obtain ⟨h1, h2⟩ := foldl_min_le g l (min k (g a))
    refine ⟨Nat.le_trans h1 (Nat.min_le_left _ _), fun b hb => ?_⟩
    rcases List.mem_cons.mp hb with e | e
    · subst e; exact Nat.le_trans h1 (Nat.min_le_right _ _)
    · exact h2 b e
theorem foldl_min_is {α : Type} (g : α → Nat) : ∀ (l : List α) (k : Nat), l.foldl (fun k a => min k (g a)) k = k ∨ ∃ a ∈ l, l.foldl (fun k a => min k (g a)) k = g a
  | [], k => .inl rfl
  | a :: l, k => by
    rcases foldl_min_is g l (min k (g a)) with h | ⟨b, hb, h⟩
    · rcases Nat.le_total k (g a) with z | z
      · exact .inl (h.trans (Nat.min_eq_left z))
      · exact .inr ⟨a, List.mem_cons_self, h.trans (Nat.min_eq_right z)⟩
    · exact .inr ⟨b, List.mem_cons_of_mem _ hb, h⟩
def notBehind (u v : Int) (l : List Ar) : Nat := (l.filter fun a => decide (0 ≤ fn u v a)).length
theorem count_split (p q : Ar → Bool) (l : List Ar) (h : ∀ a ∈ l, p a = true → q a = true) : (l.filter p).length ≤ (l.filter q).length := by
  induction l with
  | nil => exact Nat.le_refl _
  | cons a l ih =>
    have ih := ih fun b hb => h b (List.mem_cons_of_mem _ hb)
    have ha := h a List.mem_cons_self
    rw [List.filter_cons, List.filter_cons]
    cases e : p a
    · cases q a <;> simp <;> omega
    · rw [ha e]; simp; omega
theorem outer_not (l : List Ar) : l.length - (outer l).length = (l.filter isNothing).length := by
  unfold outer
  induction l with
  | nil => rfl
  | cons a l ih =>
    have : (l.filter fun a => !isNothing a).length ≤ l.length := List.length_filter_le _ _
    rw [List.filter_cons, List.filter_cons]
    cases isNothing a <;> simp at ih ⊢ <;> omega
theorem count_add (p q : Ar → Bool) (l : List Ar) (h : ∀ a ∈ l, ¬ (p a = true ∧ q a = true)) : (l.filter p).length + (l.filter q).length = (l.filter fun a => p a || q a).length := by
  induction l with
  | nil => rfl
  | cons a l ih =>
    have ih := ih fun b hb => h b (List.mem_cons_of_mem _ hb)
    have ha := h a List.mem_cons_self
    rw [List.filter_cons, List.filter_cons, List.filter_cons]
    cases e : p a <;> cases e2 : q a <;> simp_all <;> omega
theorem filter_outer (p : Ar → Bool) (l : List Ar) : ((outer l).filter p) = l.filter fun a => !isNothing a && p a := by
  unfold outer
  rw [List.filter_filter]
  refine List.filter_congr fun a _ => ?_
  rw [Bool.and_comm]
theorem depth_le (l : List Ar) (u v : Int) : depthAmong l ≤ notBehind u v l := by
  have hle : (outer l).length ≤ l.length := List.length_filter_le _ _
  -- those strictly behind
  by_cases hB : (outer l).filter (fun a => decide (fn u v a < 0)) = []
  · -- none: all are counted
    have all : notBehind u v l = l.length := by
      unfold notBehind
      rw [List.filter_eq_self.mpr]
      intro a ha
      rw [decide_eq_true_iff]
      rcases Int.lt_or_le (fn u v a) 0 with z | z
      · exfalso
        have hn : isNothing a = false := by
          rw [count_nothing]; rintro rfl; simp [fn] at z
        have : a ∈ (outer l).filter (fun a => decide (fn u v a < 0)) := List.mem_filter.mpr ⟨List.mem_filter.mpr ⟨ha, by rw [hn]; rfl⟩, decide_eq_true z⟩
        rw [hB] at this
        cases this
      · exact z
    rw [all]
    unfold depthAmong
    have := (foldl_min_le (fun a => fewestBeside a (outer l)) (outer l) (outer l).length).1
    omega
  · have mB : ∀ {a}, a ∈ (outer l).filter (fun a => decide (fn u v a < 0)) → fn u v a < 0 := fun h => of_decide_eq_true (List.mem_filter.mp h).2
    obtain ⟨w, hw, H⟩ := extreme ((outer l).filter fun a => decide (fn u v a < 0)) hB
      (fun a h => by rintro rfl; have := mB h; simp [fn] at this)
      (fun a ha b hb => by
        have pa := mB ha
        have pb := mB hb
        cases e : isBetween a b
        · rfl
        · exfalso
          unfold isBetween at e
          rw [Bool.and_eq_true, decide_eq_true_iff, decide_eq_true_iff] at e
          have e1 : fn u v a * dot a b = fn u v b * dot a a := by
            have := e.1
            simp only [cross] at this
            simp only [fn, dot]
            grind
          have ha0 : a ≠ (0, 0) := by rintro rfl; simp [fn] at pa
          have g1 : fn u v b * dot a a < 0 := Int.mul_neg_of_neg_of_pos pb (sq_pos ha0)
          have g2 : 0 ≤ fn u v a * dot a b := Int.mul_nonneg_of_nonpos_of_nonpos (by omega) e.2
          omega)
      (fun a ha b hb c hc => by
        have pa := mB ha
        have pb := mB hb
        have pc := mB hc
        cases e : isAmid a b c
        · rfl
        · exfalso
          have e1 : cross a b * fn u v c + cross b c * fn u v a + cross c a * fn u v b = 0 := by
            simp only [cross, fn]; grind
          unfold isAmid at e
          simp only [Bool.or_eq_true, Bool.and_eq_true, decide_eq_true_iff] at e
          rcases e with ⟨h1, h2, h3⟩ | ⟨h1, h2, h3⟩
          · have := Int.mul_neg_of_pos_of_neg h1 pc
            have := Int.mul_neg_of_pos_of_neg h2 pa
            have := Int.mul_neg_of_pos_of_neg h3 pb
            omega
          · have := Int.mul_pos_of_neg_of_neg h1 pc
            have := Int.mul_pos_of_neg_of_neg h2 pa
            have := Int.mul_pos_of_neg_of_neg h3 pb
            omega)
    have hwo : w ∈ outer l := (List.mem_filter.mp hw).1
    have d1 := (foldl_min_le (fun a => fewestBeside a (outer l)) (outer l) (outer l).length).2 w hwo
    have d2 : fewestBeside w (outer l) ≤ nRight w (outer l) + nBehind w (outer l) := by
      unfold fewestBeside
      omega
    have d3 : nRight w (outer l) + nBehind w (outer l) + (l.filter isNothing).length ≤ notBehind u v l := by
      unfold nRight nBehind
      rw [count_add _ _ _ (by intro a _ h; simp at h; omega), filter_outer, count_add _ _ _ (by intro a _ h; simp at h; rw [h.2] at h; simp at h)]
      unfold notBehind
      refine count_split _ _ _ fun a ha h => ?_
      rw [decide_eq_true_iff]
      rcases Int.lt_or_le (fn u v a) 0 with z | z
      · exfalso
        have hn : isNothing a = false := by
          rw [count_nothing]; rintro rfl; simp [fn] at z
        have := H a (List.mem_filter.mpr ⟨List.mem_filter.mpr ⟨ha, by rw [hn]; rfl⟩, decide_eq_true z⟩)
        rw [hn] at h
        simp at h
        omega
      · exact z
    unfold depthAmong
    rw [outer_not]
    omega
theorem mask_of (ps : List Pt) (p : Nat → Bool) : ∃ s : Nat, s < 2 ^ ps.length ∧ members ps s = (List.range ps.length).filter p := by
  have main : ∀ n : Nat, ∃ s : Nat, s < 2 ^ n ∧ ∀ i, i < n → s.testBit i = p i := by
    intro n
    induction n with
    | zero => exact ⟨0, by decide, fun i h => absurd h (Nat.not_lt_zero _)⟩
    | succ n ih =>
      obtain ⟨s, hs, H⟩ := ih
      by_cases hp : p n = true
      · refine ⟨2 ^ n + s, by rw [Nat.pow_succ]; omega, fun i hi => ?_⟩
        rcases Nat.lt_or_ge i n with z | z
        · rw [Nat.testBit_two_pow_add_gt z]; exact H i z
        · have : i = n := by omega
          subst this
          rw [Nat.testBit_two_pow_add_eq, Nat.testBit_lt_two_pow hs, hp]
          rfl
      · refine ⟨s, by rw [Nat.pow_succ]; omega, fun i hi => ?_⟩
        rcases Nat.lt_or_ge i n with z | z
        · exact H i z
        · have : i = n := by omega
          subst this
          rw [Nat.testBit_lt_two_pow hs]
          simpa using hp
  obtain ⟨s, hs, H⟩ := main ps.length
  refine ⟨s, hs, ?_⟩
  unfold members has
  exact List.filter_congr fun i hi => H i (List.mem_range.mp hi)
theorem range_count (ps : List Pt) (q : Place) (p : Ar → Bool) : ((List.range ps.length).filter fun i => p (arAt q ps i)).length = ((ps.map (arrow q.x q.y q.d)).filter p).length := by
  have e : (ps.map (arrow q.x q.y q.d)) = (List.range ps.length).map (arAt q ps) := by
    refine List.ext_getElem (by simp) fun i h1 h2 => ?_
    simp only [List.length_map, List.length_range] at h1 h2
    rw [List.getElem_map, List.getElem_map, List.getElem_range]
    unfold arAt at_
    rw [List.getD_eq_getElem?_getD, List.getElem?_eq_getElem h1]
    rfl
  rw [e, List.filter_map, List.length_map]
  rfl
def large (ps : List Pt) (k : Nat) : List Nat := (List.range (2 ^ ps.length)).filter fun s => decide (ps.length < (members ps s).length + k)
theorem deep_in {ps : List Pt} {q : Place} (hq : 0 < q.d) {k : Nat} (h : k ≤ depthOf ps q) : ∀ s ∈ large ps k, inHull ps s q = true := by
  intro s hs
  cases e : inHull ps s q
  · exfalso
    obtain ⟨u, v, H⟩ := beyond_of hq e
    have hd := depth_le (ps.map (arrow q.x q.y q.d)) (-u) (-v)
    have e' : depthOf ps ⟨q.x, q.y, q.d⟩ = depthOf ps q := rfl
    rw [depth_eq, e'] at hd
    have hlarge : ps.length < (members ps s).length + k := of_decide_eq_true (List.mem_filter.mp hs).2
    have hc : notBehind (-u) (-v) (ps.map (arrow q.x q.y q.d)) + (members ps s).length ≤ ps.length := by
      unfold notBehind
      rw [← range_count]
      unfold members
      have ca : ∀ (l : List Nat) (f g : Nat → Bool), (∀ i ∈ l, ¬ (f i = true ∧ g i = true)) → (l.filter f).length + (l.filter g).length ≤ l.length := by
        intro l f g
        induction l with
        | nil => intro _; exact Nat.le_refl _
        | cons a l ih =>
          intro h
          have ih := ih fun b hb => h b (List.mem_cons_of_mem _ hb)
          have ha := h a List.mem_cons_self
          rw [List.filter_cons, List.filter_cons]
          cases e : f a <;> cases e2 : g a <;> simp_all <;> omega
      have := ca (List.range ps.length) (fun i => decide (0 ≤ fn (-u) (-v) (arAt q ps i))) (fun i => has s i) (by
        rintro i hi ⟨h1, h2⟩
        have hm : i ∈ members ps s := List.mem_filter.mpr ⟨hi, h2⟩
        have := H i hm
        have h1 := of_decide_eq_true h1
        have e2 : fn (-u) (-v) (arAt q ps i) = -fn u v (arAt q ps i) := by simp only [fn]; grind
        omega)
      rw [List.length_range] at this
      exact this
    omega
  · rfl
theorem in_deep {ps : List Pt} {q : Place} (hq : 0 < q.d) {k : Nat} (hk : k ≤ ps.length) (h : ∀ s ∈ large ps k, inHull ps s q = true) : k ≤ depthOf ps q := by
  refine Classical.byContradiction fun hlt => ?_
  have e0 := depth_eq q.x q.y q.d ps
  have hlt : depthAmong (ps.map (arrow q.x q.y q.d)) < k := by
    rw [e0]; exact Nat.lt_of_not_le hlt
  generalize hL : ps.map (arrow q.x q.y q.d) = L at hlt e0
  have hlen : L.length = ps.length := by rw [← hL, List.length_map]
  unfold depthAmong at hlt
  have hle : (outer L).length ≤ L.length := List.length_filter_le _ _
  rcases foldl_min_is (fun a => fewestBeside a (outer L)) (outer L) (outer L).length with e | ⟨w, hw, e⟩
  · rw [e] at hlt; omega
  · rw [e] at hlt
    have hwn : w ≠ (0, 0) := by
      have := (List.mem_filter.mp hw).2
      exact count_nothing.mp (by simpa using this)
    -- a set of all that one turned line leaves on its other side
    have key : ∀ (f : Ar → Bool) (u v : Int), (∀ a ∈ L, f a = true → 0 < fn u v a) → L.length < (L.filter f).length + k → False := by
      intro f u v hf hc
      obtain ⟨s, hs, hm⟩ := mask_of ps fun i => f (arAt q ps i)
      have hcnt := range_count ps q f
      rw [hL] at hcnt
      have hs' : s ∈ large ps k := List.mem_filter.mpr ⟨List.mem_range.mpr hs, decide_eq_true (by rw [hm, hcnt]; omega)⟩
      obtain ⟨i, hi, hi'⟩ := not_beyond hq (h s hs') u v
      rw [hm] at hi
      have hfi := (List.mem_filter.mp hi).2
      have hil : i < ps.length := List.mem_range.mp (List.mem_filter.mp hi).1
      have hmem : arAt q ps i ∈ L := by
        rw [← hL]
        exact List.mem_map.mpr ⟨at_ ps i, by
          unfold at_
          rw [List.getD_eq_getElem?_getD, List.getElem?_eq_getElem hil]
          exact List.getElem_mem hil, rfl⟩
      have := hf _ hmem hfi
      omega
    -- the four sides of the line along w
    have tl : ∀ (sg tg : Int), (sg = 1 ∨ sg = -1) → (tg = 1 ∨ tg = -1) → ∃ u v : Int, ∀ a ∈ L, (0 < sg * cross w a ∨ (cross w a = 0 ∧ 0 < tg * dot w a)) → 0 < fn u v a := by
      intro sg tg _ _
      have t2 : ∀ M : List Ar, (∀ a ∈ M, 0 < sg * cross w a ∨ (cross w a = 0 ∧ 0 < tg * dot w a)) → ∃ n : Int, 0 ≤ n ∧ ∀ a ∈ M, 0 < n * (sg * cross w a) + tg * dot w a := by
        intro M
        induction M with
        | nil => intro _; exact ⟨0, by decide, fun _ h => nomatch h⟩
        | cons a M ih =>
          intro h
          obtain ⟨n, hn, H⟩ := ih fun x hx => h x (List.mem_cons_of_mem _ hx)
          have up : ∀ k : Int, 0 ≤ k → ∀ x ∈ M, 0 < (n + k) * (sg * cross w x) + tg * dot w x := by
            intro k hk x hx
            have g : 0 ≤ sg * cross w x := by
              rcases h x (List.mem_cons_of_mem _ hx) with z | z
              · omega
              · rw [z.1, Int.mul_zero]; exact Int.le_refl _
            have := Int.mul_nonneg hk g
            have := H x hx
            rw [Int.add_mul]
            omega
          rcases h a List.mem_cons_self with z | ⟨z1, z2⟩
          · refine ⟨n + ((tg * dot w a).natAbs + 1), by omega, fun x hx => ?_⟩
            rcases List.mem_cons.mp hx with y | y
            · subst y
              have g1 : 0 ≤ n * (sg * cross w x) := Int.mul_nonneg hn (Int.le_of_lt z)
              have g2 : ((tg * dot w x).natAbs + 1 : Int) * 1 ≤ ((tg * dot w x).natAbs + 1) * (sg * cross w x) := Int.mul_le_mul_of_nonneg_left z (by omega)
              rw [Int.add_mul]
              omega
            · exact up _ (by omega) x y
          · refine ⟨n, hn, fun x hx => ?_⟩
            rcases List.mem_cons.mp hx with y | y
            · subst y; rw [z1, Int.mul_zero, Int.mul_zero]; omega
            · exact H x y
      obtain ⟨n, _, T⟩ := t2 (L.filter fun a => decide (0 < sg * cross w a ∨ (cross w a = 0 ∧ 0 < tg * dot w a))) fun a ha => of_decide_eq_true (List.mem_filter.mp ha).2
      refine ⟨tg * w.1 - n * sg * w.2, tg * w.2 + n * sg * w.1, fun a ha hc => ?_⟩
      have := T a (List.mem_filter.mpr ⟨ha, decide_eq_true hc⟩)
      have e2 : fn (tg * w.1 - n * sg * w.2) (tg * w.2 + n * sg * w.1) a = n * (sg * cross w a) + tg * dot w a := by
        simp only [fn, cross, dot]; grind
      omega
    -- how many lie where
    have tot : nLeft w (outer L) + nRight w (outer L) + (nAhead w (outer L) + nBehind w (outer L)) = (outer L).length := by
      unfold nLeft nRight nAhead nBehind
      rw [count_add _ _ _ (by intro a _ h; simp at h; omega), count_add _ _ _ (by intro a _ h; simp at h; omega), count_add _ _ _ (by intro a _ h; simp at h; omega)]
      rw [List.filter_eq_self.mpr]
      intro a _
      simp
      omega
    have hbz : ∀ a ∈ L, isNothing a = false → cross w a = 0 → ¬ 0 < dot w a → 0 < -1 * dot w a := by
      intro a _ hn hc hd
      have : dot w a ≠ 0 := fun z => count_nothing.mp hn (zero_of hwn hc z)
      omega
    unfold fewestBeside at hlt
    have side4 : ∀ (f g : Ar → Bool) (sg tg : Int), (sg = 1 ∨ sg = -1) → (tg = 1 ∨ tg = -1) → (∀ a, f a = true → 0 < sg * cross w a) → (∀ a, isNothing a = false → a ∈ L → g a = true → cross w a = 0 ∧ 0 < tg * dot w a) → (∀ a, ¬ (f a = true ∧ g a = true)) →
        L.length < ((outer L).filter f).length + ((outer L).filter g).length + k → False := by
      intro f g sg tg h1 h2 hf hg hfg hc
      obtain ⟨u, v, T⟩ := tl sg tg h1 h2
      rw [count_add _ _ _ fun a _ => hfg a, filter_outer] at hc
      refine key _ u v (fun a ha h => ?_) hc
      rw [Bool.and_eq_true, Bool.or_eq_true] at h
      have hn : isNothing a = false := by simpa using h.1
      rcases h.2 with z | z
      · exact T a ha (.inl (hf a z))
      · exact T a ha (.inr (hg a hn ha z))
    -- the smaller sides are counted, the others are a large set
    have R1 : ∀ a : Ar, decide (cross w a < 0) = true → 0 < (-1 : Int) * cross w a := fun a h => by have := of_decide_eq_true h; omega
    have L1 : ∀ a : Ar, decide (0 < cross w a) = true → 0 < (1 : Int) * cross w a := fun a h => by have := of_decide_eq_true h; omega
    have B1 : ∀ a : Ar, isNothing a = false → a ∈ L → (decide (cross w a = 0) && !decide (0 < dot w a)) = true → cross w a = 0 ∧ 0 < (-1 : Int) * dot w a := fun a hn ha h => by
      simp at h
      exact ⟨h.1, hbz a ha hn h.1 (by omega)⟩
    have A1 : ∀ a : Ar, isNothing a = false → a ∈ L → (decide (cross w a = 0) && decide (0 < dot w a)) = true → cross w a = 0 ∧ 0 < (1 : Int) * dot w a := fun a hn ha h => by
      simp at h
      exact ⟨h.1, by omega⟩
    have x1 := side4 _ _ (-1) (-1) (.inr rfl) (.inr rfl) R1 B1 (by intro a h; simp at h; omega)
    have x2 := side4 _ _ (-1) 1 (.inr rfl) (.inl rfl) R1 A1 (by intro a h; simp at h; omega)
    have x3 := side4 _ _ 1 (-1) (.inl rfl) (.inr rfl) L1 B1 (by intro a h; simp at h; omega)
    have x4 := side4 _ _ 1 1 (.inl rfl) (.inl rfl) L1 A1 (by intro a h; simp at h; omega)
    have y1 : ¬ L.length < nRight w (outer L) + nBehind w (outer L) + k := x1
    have y2 : ¬ L.length < nRight w (outer L) + nAhead w (outer L) + k := x2
    have y3 : ¬ L.length < nLeft w (outer L) + nBehind w (outer L) + k := x3
    have y4 : ¬ L.length < nLeft w (outer L) + nAhead w (outer L) + k := x4
    omega
theorem foldl_max_le {α : Type} (g : α → Nat) : ∀ (l : List α) (k : Nat), k ≤ l.foldl (fun k a => max k (g a)) k ∧ ∀ a ∈ l, g a ≤ l.foldl (fun k a => max k (g a)) k
  | [], k => ⟨Nat.le_refl _, fun _ h => nomatch h⟩
  | a :: l, k => by
    obtain ⟨h1, h2⟩ := foldl_max_le g l (max k (g a))
    refine ⟨Nat.le_trans (Nat.le_max_left _ _) h1, fun b hb => ?_⟩
    rcases List.mem_cons.mp hb with e | e
    · subst e; exact Nat.le_trans (Nat.le_max_right _ _) h1
    · exact h2 b e
theorem depth_len (ps : List Pt) (q : Place) : depthOf ps q ≤ ps.length := by
  have e := depth_eq q.x q.y q.d ps
  have e' : depthOf ps ⟨q.x, q.y, q.d⟩ = depthOf ps q := rfl
  rw [← e', ← e]
  unfold depthAmong
  have := (foldl_min_le (fun a => fewestBeside a (outer (ps.map (arrow q.x q.y q.d)))) (outer (ps.map (arrow q.x q.y q.d))) (outer (ps.map (arrow q.x q.y q.d))).length).1
  have hle : (outer (ps.map (arrow q.x q.y q.d))).length ≤ (ps.map (arrow q.x q.y q.d)).length := List.length_filter_le _ _
  rw [List.length_map] at *
  omega
theorem deepest_le {ps : List Pt} {q : Place} (hq : 0 < q.d) : depthOf ps q ≤ deepest ps := by
  have hpl := foldl_max_le (fun q => depthOf ps q) (places ps) 0
  have hpl : ∀ r ∈ places ps, depthOf ps r ≤ deepest ps := hpl.2
  have hlen := depth_len ps q
  by_cases hk : depthOf ps q = 0
  · omega
  have hne : large ps (depthOf ps q) ≠ [] := by
    obtain ⟨s, hs, hm⟩ := mask_of ps fun _ => true
    have : s ∈ large ps (depthOf ps q) := List.mem_filter.mpr ⟨List.mem_range.mpr hs, decide_eq_true (by
      rw [hm, List.filter_eq_self.mpr (fun _ _ => rfl), List.length_range]
      omega)⟩
    intro e
    rw [e] at this
    cases this
  have lt : ∀ {s i : Nat}, i ∈ members ps s → i < ps.length := fun h => List.mem_range.mp (List.mem_filter.mp h).1
  have sorted : (List.range ps.length).Pairwise (· < ·) := List.pairwise_lt_range
  rcases found_of hne hq (deep_in hq (Nat.le_refl _)) with ⟨p, hp, H⟩ | ⟨s, hs, t, ht, i, hi, j, hj, hij, u, hu, v, hv, huv, r, e, hr, H, _⟩
  · refine Nat.le_trans (in_deep (pt_d p) hlen H) (hpl _ ?_)
    unfold places
    exact List.mem_append_left _ (List.mem_map.mpr ⟨p, hp, rfl⟩)
  · refine Nat.le_trans (in_deep hr hlen H) (hpl _ ?_)
    unfold places
    refine List.mem_append_right _ (List.mem_flatMap.mpr ⟨(at_ ps i, at_ ps j), ?_, List.mem_filterMap.mpr ⟨(at_ ps u, at_ ps v), ?_, e⟩⟩)
    · exact List.mem_map.mpr ⟨(i, j), (mem_twos sorted).mpr ⟨List.mem_range.mpr (lt hi), List.mem_range.mpr (lt hj), hij⟩, rfl⟩
    · exact List.mem_map.mpr ⟨(u, v), (mem_twos sorted).mpr ⟨List.mem_range.mpr (lt hu), List.mem_range.mpr (lt hv), huv⟩, rfl⟩
end HP

end
section
namespace HP
open Rc70
def vec (a b : Pt) : Ar := (b.1 - a.1, b.2 - a.2)
def parting (a b c e : Pt) : Bool := decide (cross (vec a b) (vec a c) * cross (vec a b) (vec a e) < 0)
def crossAt (a b c e : Pt) : Place :=
  if cross (vec a b) (vec c e) < 0 then ⟨a.1 * (-cross (vec a b) (vec c e)) + (vec a b).1 * (-cross (vec a c) (vec c e)), a.2 * (-cross (vec a b) (vec c e)) + (vec a b).2 * (-cross (vec a c) (vec c e)), -cross (vec a b) (vec c e)⟩
  else ⟨a.1 * cross (vec a b) (vec c e) + (vec a b).1 * cross (vec a c) (vec c e), a.2 * cross (vec a b) (vec c e) + (vec a b).2 * cross (vec a c) (vec c e), cross (vec a b) (vec c e)⟩
theorem sq_nn (x : Int) : 0 ≤ x * x := by
  rcases Int.le_total 0 x with h | h
  · exact Int.mul_nonneg h h
  · exact Int.mul_nonneg_of_nonpos_of_nonpos h h
theorem part_ne {a b c e : Pt} (h : parting a b c e = true) : cross (vec a b) (vec c e) ≠ 0 := by
  intro z
  have h : cross (vec a b) (vec a c) * cross (vec a b) (vec a e) < 0 := of_decide_eq_true h
  have e1 : cross (vec a b) (vec a e) = cross (vec a b) (vec a c) + cross (vec a b) (vec c e) := by
    simp only [cross, vec]; grind
  rw [e1, z, Int.add_zero] at h
  have := sq_nn (cross (vec a b) (vec a c))
  omega
theorem crossAt_d {a b c e : Pt} (h : parting a b c e = true) : 0 < (crossAt a b c e).d := by
  have := part_ne h
  unfold crossAt
  split
  · simp only; omega
  · simp only; omega
theorem crossAt_on (a b c e : Pt) : side a b (crossAt a b c e) = 0 ∧ side c e (crossAt a b c e) = 0 := by
  unfold crossAt
  split <;> simp only [side, cross, vec] <;> constructor <;> grind
structure Tell (ps : List Pt) (L : List Place) : Prop where
  pos : ∀ q ∈ L, 0 < q.d
  pts : ∀ p ∈ ps, pt p ∈ L
  crs : ∀ a ∈ ps, ∀ b ∈ ps, ∀ c ∈ ps, ∀ e ∈ ps, parting a b c e = true → parting c e a b = true → ∃ q ∈ L, side a b q = 0 ∧ side c e q = 0
theorem btw_strict {r : Place} {a b : Pt} (h : Btw r a b) (ha : ¬ IsPt r a) (hb : ¬ IsPt r b) : cross (arrow r.x r.y r.d a) (arrow r.x r.y r.d b) = 0 ∧ dot (arrow r.x r.y r.d a) (arrow r.x r.y r.d b) < 0 := by
  unfold Btw isBetween at h
  rw [Bool.and_eq_true, decide_eq_true_iff, decide_eq_true_iff] at h
  refine ⟨h.1, ?_⟩
  rcases Int.lt_or_eq_of_le h.2 with z | z
  · exact z
  · exfalso
    exact hb (isPt_iff.mpr (zero_of (fun y => ha (isPt_iff.mpr y)) h.1 z))
theorem scale_of {A B : Ar} (h0 : cross A B = 0) : dot A A * B.1 = dot A B * A.1 ∧ dot A A * B.2 = dot A B * A.2 := by
  simp only [dot, cross] at *
  constructor <;> grind
theorem strict_part {r : Place} {a b c e : Pt} (hr : 0 < r.d) (h1 : cross (arrow r.x r.y r.d a) (arrow r.x r.y r.d b) = 0) (h2 : cross (arrow r.x r.y r.d c) (arrow r.x r.y r.d e) = 0) (h3 : dot (arrow r.x r.y r.d c) (arrow r.x r.y r.d e) < 0)
    (hc : arrow r.x r.y r.d c ≠ (0, 0)) (hz : cross (vec a b) (vec c e) ≠ 0) : parting a b c e = true := by
  have e1 : r.d * r.d * cross (vec a b) (vec a c) = cross (arrow r.x r.y r.d b) (arrow r.x r.y r.d c) - cross (arrow r.x r.y r.d a) (arrow r.x r.y r.d c) + cross (arrow r.x r.y r.d a) (arrow r.x r.y r.d b) := by
    simp only [cross, vec, arrow]; grind
  have e2 : r.d * r.d * cross (vec a b) (vec a e) = cross (arrow r.x r.y r.d b) (arrow r.x r.y r.d e) - cross (arrow r.x r.y r.d a) (arrow r.x r.y r.d e) + cross (arrow r.x r.y r.d a) (arrow r.x r.y r.d b) := by
    simp only [cross, vec, arrow]; grind
  have e3 : r.d * r.d * cross (vec a b) (vec c e) = (cross (arrow r.x r.y r.d b) (arrow r.x r.y r.d e) - cross (arrow r.x r.y r.d a) (arrow r.x r.y r.d e)) - (cross (arrow r.x r.y r.d b) (arrow r.x r.y r.d c) - cross (arrow r.x r.y r.d a) (arrow r.x r.y r.d c)) := by
    simp only [cross, vec, arrow]; grind
  rw [h1, Int.add_zero] at e1 e2
  generalize arrow r.x r.y r.d a = A at *
  generalize arrow r.x r.y r.d b = B at *
  generalize arrow r.x r.y r.d c = C at *
  generalize arrow r.x r.y r.d e = D at *
  obtain ⟨s1, s2⟩ := scale_of h2
  have e4 : dot C C * (cross B D - cross A D) = dot C D * (cross B C - cross A C) := by
    simp only [cross]
    have t1 : dot C C * (B.1 * D.2 - B.2 * D.1 - (A.1 * D.2 - A.2 * D.1)) = (B.1 - A.1) * (dot C C * D.2) - (B.2 - A.2) * (dot C C * D.1) := by grind
    rw [t1, s1, s2]
    grind
  have hpos : 0 < dot C C := sq_pos hc
  generalize cross B D - cross A D = y at *
  generalize cross B C - cross A C = x at *
  have hdd : 0 < r.d * r.d := Int.mul_pos hr hr
  have hx : x ≠ 0 := by
    intro z
    rw [z, Int.mul_zero] at e4
    have hy : y = 0 := by
      rcases Int.mul_eq_zero.mp e4 with q | q
      · omega
      · exact q
    rw [z, hy] at e3
    rcases Int.mul_eq_zero.mp (show r.d * r.d * cross (vec a b) (vec c e) = 0 by omega) with q | q
    · omega
    · exact hz q
  unfold parting
  rw [decide_eq_true_iff]
  -- multiplied by what is above 0 it is below 0
  have e5 : (r.d * r.d * cross (vec a b) (vec a c)) * (r.d * r.d * cross (vec a b) (vec a e)) * dot C C = dot C D * (x * x) := by
    rw [e1, e2]
    have : x * y * dot C C = x * (dot C C * y) := by grind
    rw [this, e4]
    grind
  have hxx : 0 < x * x := by
    have := sq_nn x
    rcases Int.lt_or_eq_of_le this with q | q
    · exact q
    · exfalso
      rcases Int.mul_eq_zero.mp q.symm with w | w <;> exact hx w
  have neg : dot C D * (x * x) < 0 := Int.mul_neg_of_neg_of_pos h3 hxx
  rcases Int.lt_or_le (cross (vec a b) (vec a c) * cross (vec a b) (vec a e)) 0 with q | q
  · exact q
  · exfalso
    have g1 : 0 ≤ (r.d * r.d) * (r.d * r.d) * (cross (vec a b) (vec a c) * cross (vec a b) (vec a e)) * dot C C := Int.mul_nonneg (Int.mul_nonneg (Int.le_of_lt (Int.mul_pos hdd hdd)) q) (Int.le_of_lt hpos)
    have g2 : (r.d * r.d) * (r.d * r.d) * (cross (vec a b) (vec a c) * cross (vec a b) (vec a e)) * dot C C = (r.d * r.d * cross (vec a b) (vec a c)) * (r.d * r.d * cross (vec a b) (vec a e)) * dot C C := by grind
    omega
theorem like_of_on {a b c e : Pt} {q r : Place} (hq : 0 < q.d) (hr : 0 < r.d) (hz : cross (vec a b) (vec c e) ≠ 0) (q1 : side a b q = 0) (q2 : side c e q = 0) (r1 : side a b r = 0) (r2 : side c e r = 0) : Like q r := by
  have ex : (q.x * r.d - r.x * q.d) * cross (vec a b) (vec c e) = 0 := by
    simp only [side, cross, vec] at *; grind
  have ey : (q.y * r.d - r.y * q.d) * cross (vec a b) (vec c e) = 0 := by
    simp only [side, cross, vec] at *; grind
  constructor
  · rcases Int.mul_eq_zero.mp ex with w | w
    · omega
    · exact absurd w hz
  · rcases Int.mul_eq_zero.mp ey with w | w
    · omega
    · exact absurd w hz
theorem cross_ne {a b c e : Pt} {r : Place} (h : crossing a b c e = some r) : cross (vec a b) (vec c e) ≠ 0 := by
  unfold crossing at h
  simp only at h
  split at h
  · cases h
  · rename_i z
    exact z
theorem tell_meet {ps : List Pt} {L : List Place} (T : Tell ps L) {ss : List Nat} (hss : ss ≠ []) {q : Place} (hq : 0 < q.d) (h : ∀ s ∈ ss, inHull ps s q = true) : ∃ r ∈ L, ∀ s ∈ ss, inHull ps s r = true := by
  rcases found_of hss hq h with ⟨p, hp, H⟩ | ⟨s, hs, t, ht, i, hi, j, hj, hij, u, hu, v, hv, huv, r, e, hr, H, r', hr', hl, b1, b2⟩
  · exact ⟨pt p, T.pts p hp, H⟩
  · have H' : ∀ s ∈ ss, inHull ps s r' = true := fun s hs => by rw [like_hull hr' hr hl]; exact H s hs
    have atp : ∀ p ∈ ps, IsPt r' p → ∃ r ∈ L, ∀ s ∈ ss, inHull ps s r = true := fun p hp hI => ⟨pt p, T.pts p hp, fun s hs => by
      rw [← like_hull hr' (pt_d p) hI.like]; exact H' s hs⟩
    by_cases p1 : IsPt r' (at_ ps i)
    · exact atp _ (at_mem hi) p1
    by_cases p2 : IsPt r' (at_ ps j)
    · exact atp _ (at_mem hj) p2
    by_cases p3 : IsPt r' (at_ ps u)
    · exact atp _ (at_mem hu) p3
    by_cases p4 : IsPt r' (at_ ps v)
    · exact atp _ (at_mem hv) p4
    obtain ⟨x1, x2⟩ := btw_strict b1 p1 p2
    obtain ⟨y1, y2⟩ := btw_strict b2 p3 p4
    have hz := cross_ne e
    have hz' : cross (vec (at_ ps u) (at_ ps v)) (vec (at_ ps i) (at_ ps j)) ≠ 0 := by
      rw [cross_swap]; omega
    obtain ⟨q2, hq2, s1, s2⟩ := T.crs _ (at_mem hi) _ (at_mem hj) _ (at_mem hu) _ (at_mem hv) (strict_part hr' x1 y1 y2 (fun z => p3 (isPt_iff.mpr z)) hz) (strict_part hr' y1 x1 x2 (fun z => p1 (isPt_iff.mpr z)) hz')
    have l2 := like_of_on (T.pos q2 hq2) hr' hz s1 s2 ((side_sign r' hr' _ _).2.1.mpr x1) ((side_sign r' hr' _ _).2.1.mpr y1)
    exact ⟨q2, hq2, fun s hs => by rw [like_hull (T.pos q2 hq2) hr' l2]; exact H' s hs⟩
theorem tell_iff {ps : List Pt} {L : List Place} (T : Tell ps L) {ss : List Nat} (hss : ss ≠ []) : meetOf ps ss = true ↔ ∃ r ∈ L, ∀ s ∈ ss, inHull ps s r = true := by
  rw [meet_iff hss]
  exact ⟨fun ⟨q, hq, h⟩ => tell_meet T hss hq h, fun ⟨r, hr, h⟩ => ⟨r, T.pos r hr, h⟩⟩
theorem foldl_max_is {α : Type} (g : α → Nat) : ∀ (l : List α) (k : Nat), l.foldl (fun k a => max k (g a)) k = k ∨ ∃ a ∈ l, l.foldl (fun k a => max k (g a)) k = g a
  | [], k => .inl rfl
  | a :: l, k => by
    rcases foldl_max_is g l (max k (g a)) with h | ⟨b, hb, h⟩
    · rw [List.foldl_cons, h]
      rcases Nat.le_total k (g a) with z | z
      · exact .inr ⟨a, List.mem_cons_self, Nat.max_eq_right z⟩
      · exact .inl (Nat.max_eq_left z)
    · exact .inr ⟨b, List.mem_cons_of_mem _ hb, h⟩
theorem places_d {ps : List Pt} : ∀ q ∈ places ps, 0 < q.d := by
  intro q hq
  unfold places at hq
  rcases List.mem_append.mp hq with z | z
  · obtain ⟨p, _, rfl⟩ := List.mem_map.mp z
    exact Int.zero_lt_one
  · obtain ⟨x, _, z⟩ := List.mem_flatMap.mp z
    obtain ⟨y, _, e⟩ := List.mem_filterMap.mp z
    unfold crossing at e
    simp only at e
    split at e
    · cases e
    · cases e
      split
      · assumption
      · simp only; omega
theorem tell_deep {ps : List Pt} {L : List Place} (T : Tell ps L) (hne : ps ≠ []) : ∃ r ∈ L, depthOf ps r = deepest ps := by
  obtain ⟨p0, hp0⟩ := List.exists_mem_of_ne_nil ps hne
  have le : ∀ r ∈ L, depthOf ps r ≤ deepest ps := fun r hr => deepest_le (T.pos r hr)
  rcases foldl_max_is (fun q => depthOf ps q) (places ps) 0 with h | ⟨q, hq, h⟩
  · have h : deepest ps = 0 := h
    have := le _ (T.pts p0 hp0)
    exact ⟨_, T.pts p0 hp0, by omega⟩
  · have h : deepest ps = depthOf ps q := h
    have hlen := depth_len ps q
    by_cases hk : deepest ps = 0
    · have := le _ (T.pts p0 hp0)
      exact ⟨_, T.pts p0 hp0, by omega⟩
    have hl : large ps (deepest ps) ≠ [] := by
      obtain ⟨s, hs, hm⟩ := mask_of ps fun _ => true
      have : s ∈ large ps (deepest ps) := List.mem_filter.mpr ⟨List.mem_range.mpr hs, decide_eq_true (by
        rw [hm, List.filter_eq_self.mpr (fun _ _ => rfl), List.length_range]
        omega)⟩
      intro e
      rw [e] at this
      cases this
    obtain ⟨r, hr, H⟩ := tell_meet T hl (places_d q hq) (deep_in (places_d q hq) (by omega))
    have := in_deep (T.pos r hr) (by omega) H
    have := le r hr
    exact ⟨r, hr, by omega⟩
end HP

end
section
namespace HP
open Rc70
def lowsAt (f : Nat → Ar) (t m : Nat) (n : Nat) : List Nat := (List.range n).flatMap fun l => if isAmid (f l) (f m) (f t) = true then [2 ^ l + 2 ^ m + 2 ^ t] else []
def midAt (f : Nat → Ar) (t m : Nat) : List Nat := (if isBetween (f m) (f t) = true then [2 ^ m + 2 ^ t] else []) ++ lowsAt f t m m
def midsAt (f : Nat → Ar) (t n : Nat) : List Nat := (List.range n).flatMap (midAt f t)
def topAt (f : Nat → Ar) (t : Nat) : List Nat := (if isNothing (f t) = true then [2 ^ t] else []) ++ midsAt f t t
def setsAround (f : Nat → Ar) (n : Nat) : List Nat := (List.range n).flatMap (topAt f)
def holdsOne (s : Nat) (l : List Nat) : Bool := l.any fun k => decide (s &&& k = k)
theorem ortwo {m t : Nat} (h : m < t) : 2 ^ m + 2 ^ t = (2 ^ m ||| 2 ^ t : Nat) := by
  have := Nat.two_pow_add_eq_or_of_lt (i := t) (b := 2 ^ m) (two_lt h) 1
  rw [Nat.mul_one] at this
  rw [Nat.or_comm, ← this, Nat.add_comm]
theorem orthree {l m t : Nat} (h : l < m) (h' : m < t) : 2 ^ l + 2 ^ m + 2 ^ t = ((2 ^ l ||| 2 ^ m) ||| 2 ^ t : Nat) := by
  have lt : 2 ^ l + 2 ^ m < 2 ^ t := by
    have := two_lt h
    have := two_le (show m + 1 ≤ t from h')
    have := two_s m
    omega
  rw [← ortwo h]
  have := Nat.two_pow_add_eq_or_of_lt (i := t) (b := 2 ^ l + 2 ^ m) lt 1
  rw [Nat.mul_one] at this
  rw [Nat.or_comm, ← this, Nat.add_comm]
theorem holds_iff {s k : Nat} : s &&& k = k ↔ ∀ i, k.testBit i = true → s.testBit i = true := by
  constructor
  · intro h i hi
    rw [← h, Nat.testBit_and] at hi
    exact (Bool.and_eq_true_iff.mp hi).1
  · intro h
    apply Nat.eq_of_testBit_eq
    intro i
    rw [Nat.testBit_and]
    cases e : k.testBit i with
    | false => rw [Bool.and_false]
    | true => rw [h i e]; rfl
theorem bit_two {i m t : Nat} (h : m < t) : (2 ^ m + 2 ^ t).testBit i = true ↔ i = m ∨ i = t := by
  rw [ortwo h, Nat.testBit_or, Nat.testBit_two_pow, Nat.testBit_two_pow, Bool.or_eq_true, decide_eq_true_iff, decide_eq_true_iff]
  constructor <;> rintro (h | h) <;> simp [h]
theorem bit_three {i l m t : Nat} (h : l < m) (h' : m < t) : (2 ^ l + 2 ^ m + 2 ^ t).testBit i = true ↔ i = l ∨ i = m ∨ i = t := by
  rw [orthree h h', Nat.testBit_or, Nat.testBit_or, Nat.testBit_two_pow, Nat.testBit_two_pow, Nat.testBit_two_pow, Bool.or_eq_true, Bool.or_eq_true, decide_eq_true_iff, decide_eq_true_iff, decide_eq_true_iff]
  constructor
  · rintro ((h | h) | h) <;> simp [h]
  · rintro (h | h | h) <;> simp [h]
theorem bit_one {i t : Nat} : (2 ^ t).testBit i = true ↔ i = t := by
  rw [Nat.testBit_two_pow, decide_eq_true_iff]
  exact eq_comm
theorem mem_sets {f : Nat → Ar} {n k : Nat} : k ∈ setsAround f n ↔ ∃ t, t < n ∧ PHit f (List.range n) t k := by
  unfold setsAround
  rw [List.mem_flatMap]
  constructor
  · rintro ⟨t, ht, hk⟩
    have ht := List.mem_range.mp ht
    refine ⟨t, ht, ?_⟩
    unfold topAt at hk
    rcases List.mem_append.mp hk with z | z
    · split at z
      · rename_i c
        rw [List.mem_singleton.mp z]
        exact .one c
      · cases z
    · unfold midsAt at z
      obtain ⟨m, hm, z⟩ := List.mem_flatMap.mp z
      have hm := List.mem_range.mp hm
      unfold midAt at z
      rcases List.mem_append.mp z with z | z
      · split at z
        · rename_i c
          rw [List.mem_singleton.mp z]
          exact .two m (List.mem_range.mpr (by omega)) hm c
        · cases z
      · unfold lowsAt at z
        obtain ⟨l, hl, z⟩ := List.mem_flatMap.mp z
        have hl := List.mem_range.mp hl
        split at z
        · rename_i c
          rw [List.mem_singleton.mp z]
          exact .three l m (List.mem_range.mpr (by omega)) (List.mem_range.mpr (by omega)) hl hm c
        · cases z
  · rintro ⟨t, ht, h⟩
    refine ⟨t, List.mem_range.mpr ht, ?_⟩
    unfold topAt
    cases h with
    | one c => exact List.mem_append_left _ (by rw [if_pos c]; exact List.mem_singleton.mpr rfl)
    | two m _ hm c =>
      refine List.mem_append_right _ (List.mem_flatMap.mpr ⟨m, List.mem_range.mpr hm, ?_⟩)
      exact List.mem_append_left _ (by rw [if_pos c]; exact List.mem_singleton.mpr rfl)
    | three l m _ _ hl hm c =>
      refine List.mem_append_right _ (List.mem_flatMap.mpr ⟨m, List.mem_range.mpr hm, ?_⟩)
      refine List.mem_append_right _ (List.mem_flatMap.mpr ⟨l, List.mem_range.mpr hl, ?_⟩)
      rw [if_pos c]
      exact List.mem_singleton.mpr rfl
theorem mem_mem {ps : List Pt} {s i : Nat} : i ∈ members ps s ↔ i < ps.length ∧ s.testBit i = true := by
  unfold members has
  rw [List.mem_filter, List.mem_range]
theorem holds_hull {ps : List Pt} {s : Nat} {q : Place} (hd : 0 < q.d) : holdsOne s (setsAround (arAt q ps) ps.length) = inHull ps s q := by
  rw [Bool.eq_iff_iff]
  unfold holdsOne
  rw [List.any_eq_true]
  constructor
  · rintro ⟨k, hk, hs⟩
    have hs := holds_iff.mp (of_decide_eq_true hs)
    obtain ⟨t, ht, hp⟩ := mem_sets.mp hk
    have hp' : t ∈ members ps s ∧ PHit (arAt q ps) (members ps s) t k := by
      cases hp with
      | one c => exact ⟨mem_mem.mpr ⟨ht, hs t (bit_one.mpr rfl)⟩, .one c⟩
      | two m _ hm c => exact ⟨mem_mem.mpr ⟨ht, hs t ((bit_two hm).mpr (.inr rfl))⟩, .two m (mem_mem.mpr ⟨by omega, hs m ((bit_two hm).mpr (.inl rfl))⟩) hm c⟩
      | three l m _ _ hl hm c => exact ⟨mem_mem.mpr ⟨ht, hs t ((bit_three hl hm).mpr (.inr (.inr rfl)))⟩, .three l m (mem_mem.mpr ⟨by omega, hs l ((bit_three hl hm).mpr (.inl rfl))⟩) (mem_mem.mpr ⟨by omega, hs m ((bit_three hl hm).mpr (.inr (.inl rfl)))⟩) hl hm c⟩
    obtain ⟨l, h1, h2, _⟩ := phit_hit hd hp'.1 hp'.2
    exact few_hull h1 h2
  · intro h
    obtain ⟨l, h1, h2⟩ := List.any_eq_true.mp h
    obtain ⟨t, ht, k, hp, _⟩ := hit_phit hd h1 h2
    have ht' := mem_mem.mp ht
    refine ⟨k, mem_sets.mpr ⟨t, ht'.1, ?_⟩, decide_eq_true (holds_iff.mpr ?_)⟩
    · cases hp with
      | one c => exact .one c
      | two m h1 hm c => exact .two m (List.mem_range.mpr (mem_mem.mp h1).1) hm c
      | three l m h1 h2 hl hm c => exact .three l m (List.mem_range.mpr (mem_mem.mp h1).1) (List.mem_range.mpr (mem_mem.mp h2).1) hl hm c
    · intro i hi
      cases hp with
      | one c => rw [bit_one.mp hi]; exact ht'.2
      | two m h1 hm c =>
        rcases (bit_two hm).mp hi with z | z <;> rw [z]
        · exact (mem_mem.mp h1).2
        · exact ht'.2
      | three l m h1 h2 hl hm c =>
        rcases (bit_three hl hm).mp hi with z | z | z <;> rw [z]
        · exact (mem_mem.mp h1).2
        · exact (mem_mem.mp h2).2
        · exact ht'.2
def reach (p : Nat → Bool) : Nat → Nat
  | 0 => 0
  | n + 1 => if p n = true then reach p n ||| 2 ^ n else reach p n
theorem reach_bit (p : Nat → Bool) : ∀ (n i : Nat), (reach p n).testBit i = (decide (i < n) && p i)
  | 0, i => by simp [reach]
  | n + 1, i => by
    unfold reach
    split
    · rename_i c
      rw [Nat.testBit_or, reach_bit p n i, Nat.testBit_two_pow]
      rcases Nat.lt_trichotomy i n with z | z | z
      · rw [decide_eq_true z, decide_eq_false (by omega), decide_eq_true (by omega), Bool.or_false]
      · subst z; rw [c]; simp
      · rw [decide_eq_false (by omega), decide_eq_false (by omega), decide_eq_false (by omega)]; simp
    · rename_i c
      have c : p n = false := by simpa using c
      rw [reach_bit p n i]
      rcases Nat.lt_trichotomy i n with z | z | z
      · rw [decide_eq_true z, decide_eq_true (by omega)]
      · subst z; rw [c]; simp
      · rw [decide_eq_false (by omega), decide_eq_false (by omega)]
def shares (l : List Nat) : Bool := decide (l.foldl (fun a b => a &&& b) (l.headD 0) ≠ 0)
theorem and_bit : ∀ (l : List Nat) (a i : Nat), (l.foldl (fun a b => a &&& b) a).testBit i = (a.testBit i && l.all fun x => x.testBit i)
  | [], a, i => by simp
  | x :: l, a, i => by
    rw [List.foldl_cons, and_bit l, Nat.testBit_and, List.all_cons, Bool.and_assoc]
theorem ne_zero_bit {n : Nat} : n ≠ 0 ↔ ∃ i, n.testBit i = true := by
  constructor
  · intro h
    exact Nat.exists_testBit_of_ne_zero h
  · rintro ⟨i, h⟩ rfl
    simp at h
theorem shares_iff {l : List Nat} (hl : l ≠ []) : shares l = true ↔ ∃ i, ∀ x ∈ l, x.testBit i = true := by
  unfold shares
  rw [decide_eq_true_iff, ne_zero_bit]
  constructor
  · rintro ⟨i, h⟩
    rw [and_bit, Bool.and_eq_true, List.all_eq_true] at h
    exact ⟨i, h.2⟩
  · rintro ⟨i, h⟩
    refine ⟨i, ?_⟩
    rw [and_bit, Bool.and_eq_true, List.all_eq_true]
    refine ⟨?_, h⟩
    cases l with
    | nil => exact absurd rfl hl
    | cons x l => exact h x List.mem_cons_self
def reachOf (s : Nat) (As : List (List Nat)) : Nat := reach (fun i => holdsOne s (As.getD i [])) As.length
def aroundsOf (ps : List Pt) (L : List Place) : List (List Nat) := L.map fun q => setsAround (arAt q ps) ps.length
theorem shares_meet {ps : List Pt} {L : List Place} (T : Tell ps L) {ss : List Nat} (hss : ss ≠ []) : shares (ss.map fun s => reachOf s (aroundsOf ps L)) = meetOf ps ss := by
  rw [Bool.eq_iff_iff, tell_iff T hss, shares_iff (by simpa using hss)]
  have key : ∀ s i (hi : i < L.length), (reachOf s (aroundsOf ps L)).testBit i = inHull ps s L[i] := by
    intro s i hi
    unfold reachOf
    rw [reach_bit]
    have hl : (aroundsOf ps L).length = L.length := by unfold aroundsOf; rw [List.length_map]
    rw [hl, decide_eq_true hi, Bool.true_and]
    have : (aroundsOf ps L).getD i [] = setsAround (arAt L[i] ps) ps.length := by
      unfold aroundsOf
      rw [List.getD_eq_getElem?_getD, List.getElem?_map, List.getElem?_eq_getElem hi]
      rfl
    rw [this]
    exact holds_hull (T.pos _ (List.getElem_mem hi))
  constructor
  · rintro ⟨i, h⟩
    have hi : i < L.length := by
      obtain ⟨s, hs⟩ := List.exists_mem_of_ne_nil ss hss
      have := h _ (List.mem_map.mpr ⟨s, hs, rfl⟩)
      unfold reachOf at this
      rw [reach_bit, Bool.and_eq_true, decide_eq_true_iff] at this
      have hl : (aroundsOf ps L).length = L.length := by unfold aroundsOf; rw [List.length_map]
      omega
    refine ⟨L[i], List.getElem_mem hi, fun s hs => ?_⟩
    rw [← key s i hi]
    exact h _ (List.mem_map.mpr ⟨s, hs, rfl⟩)
  · rintro ⟨r, hr, h⟩
    obtain ⟨i, hi, rfl⟩ := List.getElem_of_mem hr
    refine ⟨i, fun x hx => ?_⟩
    obtain ⟨s, hs, rfl⟩ := List.mem_map.mp hx
    rw [key s i hi]
    exact h s hs
theorem find_at {β : Type} {n i : Nat} {f : Nat → Option β} {v : β} (hi : i < n) (h : f i = some v) (hb : ∀ x, x < i → f x = none) : (List.range n).findSome? f = some v := by
  obtain ⟨k, rfl⟩ : ∃ k, n = i + (k + 1) := ⟨n - i - 1, by omega⟩
  rw [List.range_add, List.findSome?_append]
  have e : (List.range i).findSome? f = none := List.findSome?_eq_none_iff.mpr fun x hx => hb x (List.mem_range.mp hx)
  rw [e, List.range_succ_eq_map, List.map_cons, List.findSome?_cons, Nat.add_zero, h]
  rfl
theorem find_no {β : Type} {n : Nat} {f : Nat → Option β} (h : ∀ x, x < n → f x = none) : (List.range n).findSome? f = none := List.findSome?_eq_none_iff.mpr fun x hx => h x (List.mem_range.mp hx)
def met (ps : List Pt) (ss : List Nat) (i j k : Nat) : Bool := meetOf ps [ss.getD i 0, ss.getD j 0, ss.getD k 0]
def Before (i' j' k' i j k : Nat) : Prop := i' < i ∨ (i' = i ∧ (j' < j ∨ (j' = j ∧ k' < k)))
theorem apart_at {ps : List Pt} {ss : List Nat} {i j k : Nat} (h1 : i ≤ j) (h2 : j ≤ k) (h3 : k < ss.length) (hm : met ps ss i j k = false) (hb : ∀ i' j' k', i' ≤ j' → j' ≤ k' → k' < ss.length → Before i' j' k' i j k → met ps ss i' j' k' = true) : apartOf ps ss = some [i, j, k] := by
  unfold apartOf
  refine find_at (i := i) (by omega) ?_ fun x hx => ?_
  · refine find_at (i := j) (by omega) ?_ fun y hy => ?_
    · rw [if_neg (by omega)]
      refine find_at (i := k) h3 ?_ fun z hz => ?_
      · rw [if_neg (by omega)]
        have hm : meetOf ps [ss.getD i 0, ss.getD j 0, ss.getD k 0] = false := hm
        rw [hm]
        rfl
      · split
        · rfl
        · have : meetOf ps [ss.getD i 0, ss.getD j 0, ss.getD z 0] = true := hb i j z (by omega) (by omega) (by omega) (.inr ⟨rfl, .inr ⟨rfl, hz⟩⟩)
          rw [if_pos this]
    · split
      · rfl
      · refine find_no fun z hz => ?_
        split
        · rfl
        · have : meetOf ps [ss.getD i 0, ss.getD y 0, ss.getD z 0] = true := hb i y z (by omega) (by omega) (by omega) (.inr ⟨rfl, .inl hy⟩)
          rw [if_pos this]
  · refine find_no fun y hy => ?_
    split
    · rfl
    · refine find_no fun z hz => ?_
      split
      · rfl
      · have : meetOf ps [ss.getD x 0, ss.getD y 0, ss.getD z 0] = true := hb x y z (by omega) (by omega) (by omega) (.inl hx)
        rw [if_pos this]
theorem apart_no {ps : List Pt} {ss : List Nat} (h : ∀ i j k, i ≤ j → j ≤ k → k < ss.length → met ps ss i j k = true) : apartOf ps ss = none := by
  unfold apartOf
  refine find_no fun x hx => find_no fun y hy => ?_
  split
  · rfl
  · refine find_no fun z hz => ?_
    split
    · rfl
    · have : meetOf ps [ss.getD x 0, ss.getD y 0, ss.getD z 0] = true := h x y z (by omega) (by omega) (by omega)
      rw [if_pos this]
end HP

end
section
namespace HP
open Rc70
def val (r : Nat) : List Nat → Nat
  | [] => 0
  | d :: l => d * r ^ l.length + val r l
def Row (r n : Nat) (l : List Nat) : Prop := l.length = n ∧ ∀ d ∈ l, d < r
theorem val_lt {r : Nat} : ∀ {l : List Nat}, (∀ d ∈ l, d < r) → val r l < r ^ l.length
  | [], _ => by simp [val]
  | d :: l, h => by
    have ih := val_lt fun d hd => h d (List.mem_cons_of_mem _ hd)
    have hd := h d List.mem_cons_self
    show d * r ^ l.length + val r l < r ^ (l.length + 1)
    have : (d + 1) * r ^ l.length ≤ r * r ^ l.length := Nat.mul_le_mul_right _ hd
    rw [Nat.pow_succ, Nat.mul_comm (r ^ l.length) r]
    rw [Nat.add_mul, Nat.one_mul] at this
    omega
theorem mem_labels {r : Nat} : ∀ {n : Nat} {l : List Nat}, l ∈ labels r n ↔ Row r n l
  | 0, l => by
    unfold labels Row
    rw [List.mem_singleton]
    constructor
    · rintro rfl; exact ⟨rfl, fun d hd => by cases hd⟩
    · rintro ⟨h, _⟩; exact List.eq_nil_of_length_eq_zero h
  | n + 1, l => by
    unfold labels
    rw [List.mem_flatMap]
    constructor
    · rintro ⟨x, hx, h⟩
      obtain ⟨m, hm, rfl⟩ := List.mem_map.mp h
      obtain ⟨h1, h2⟩ := mem_labels.mp hm
      refine ⟨by simp [h1], fun d hd => ?_⟩
      rcases List.mem_cons.mp hd with z | z
      · rw [z]; exact List.mem_range.mp hx
      · exact h2 d z
    · rintro ⟨h1, h2⟩
      cases l with
      | nil => cases h1
      | cons x l =>
        refine ⟨x, List.mem_range.mpr (h2 x List.mem_cons_self), List.mem_map.mpr ⟨l, mem_labels.mpr ⟨by simpa using h1, fun d hd => h2 d (List.mem_cons_of_mem _ hd)⟩, rfl⟩⟩
theorem labels_up (r : Nat) : ∀ n : Nat, (labels r n).Pairwise fun a b => val r a < val r b
  | 0 => by unfold labels; exact List.pairwise_singleton _ _
  | n + 1 => by
    unfold labels
    rw [List.pairwise_flatMap]
    refine ⟨fun x _ => ?_, ?_⟩
    · rw [List.pairwise_map]
      refine List.Pairwise.imp_of_mem (S := fun a b => val r (x :: a) < val r (x :: b)) (fun {a b} ha hb h => ?_) (labels_up r n)
      have h1 := (mem_labels.mp ha).1
      have h2 := (mem_labels.mp hb).1
      show x * r ^ a.length + val r a < x * r ^ b.length + val r b
      rw [h1, h2]
      omega
    · refine List.Pairwise.imp (fun {x y} hxy => ?_) List.pairwise_lt_range
      intro a0 ha0 b0 hb0
      obtain ⟨a, ha, rfl⟩ := List.mem_map.mp ha0
      obtain ⟨b, hb, rfl⟩ := List.mem_map.mp hb0
      have h1 := mem_labels.mp ha
      have h2 := mem_labels.mp hb
      have v := val_lt h1.2
      show x * r ^ a.length + val r a < y * r ^ b.length + val r b
      rw [h1.1] at v ⊢
      rw [h2.1]
      have : (x + 1) * r ^ n ≤ y * r ^ n := Nat.mul_le_mul_right _ hxy
      rw [Nat.add_mul, Nat.one_mul] at this
      omega
theorem find_first {r n : Nat} {P : List Nat → Bool} {l : List Nat} (hl : Row r n l) (hp : P l = true) (hb : ∀ l', Row r n l' → val r l' < val r l → P l' = false) : (labels r n).find? P = some l := by
  rw [List.find?_eq_some_iff_append]
  refine ⟨hp, ?_⟩
  obtain ⟨as, bs, e⟩ := List.append_of_mem (mem_labels.mpr hl)
  refine ⟨as, bs, e, fun a ha => ?_⟩
  have hs := labels_up r n
  rw [e, List.pairwise_append] at hs
  have := hs.2.2 a ha l List.mem_cons_self
  rw [hb a (mem_labels.mp (by rw [e]; exact List.mem_append_left _ ha)) this]
  rfl
theorem val_less {r : Nat} : ∀ {a b : List Nat} {i : Nat}, a.length = b.length → (∀ d ∈ a, d < r) → i < a.length → (∀ j, j < i → a.getD j 0 = b.getD j 0) → a.getD i 0 < b.getD i 0 → val r a < val r b
  | [], _, i, _, _, hi, _, _ => absurd hi (Nat.not_lt_zero _)
  | x :: a, [], i, h, _, _, _, _ => by cases h
  | x :: a, y :: b, 0, h, ha, _, _, hlt => by
    have h : a.length = b.length := by simpa using h
    have hlt : x < y := by simpa using hlt
    have v := val_lt fun d hd => ha d (List.mem_cons_of_mem _ hd)
    show x * r ^ a.length + val r a < y * r ^ b.length + val r b
    rw [← h]
    have : (x + 1) * r ^ a.length ≤ y * r ^ a.length := Nat.mul_le_mul_right _ hlt
    rw [Nat.add_mul, Nat.one_mul] at this
    omega
  | x :: a, y :: b, i + 1, h, ha, hi, hj, hlt => by
    have h5 : a.length = b.length := by simpa using h
    have h0 : x = y := by simpa using hj 0 (by omega)
    subst h0
    have ih := val_less (a := a) (b := b) (i := i) h5 (fun d hd => ha d (List.mem_cons_of_mem _ hd)) (by simpa using hi) (fun j hj' => by simpa using hj (j + 1) (by omega)) (by simpa using hlt)
    show x * r ^ a.length + val r a < x * r ^ b.length + val r b
    rw [← h5]
    omega
theorem first_diff : ∀ {a b : List Nat}, a.length = b.length → a = b ∨ ∃ i, i < a.length ∧ (∀ j, j < i → a.getD j 0 = b.getD j 0) ∧ a.getD i 0 ≠ b.getD i 0
  | [], [], _ => .inl rfl
  | [], _ :: _, h => by cases h
  | _ :: _, [], h => by cases h
  | x :: a, y :: b, h => by
    by_cases e : x = y
    · subst e
      rcases first_diff (a := a) (b := b) (by simpa using h) with z | ⟨i, h1, h2, h3⟩
      · exact .inl (by rw [z])
      · refine .inr ⟨i + 1, by simpa using h1, fun j hj => ?_, by simpa using h3⟩
        cases j with
        | zero => rfl
        | succ j => simpa using h2 j (by omega)
    · exact .inr ⟨0, by simp, fun j hj => absurd hj (by omega), by simpa using e⟩
theorem less_diff {r n : Nat} {a b : List Nat} (ha : Row r n a) (hb : Row r n b) (h : val r a < val r b) : ∃ i, i < n ∧ (∀ j, j < i → a.getD j 0 = b.getD j 0) ∧ a.getD i 0 < b.getD i 0 := by
  rcases first_diff (a := a) (b := b) (by rw [ha.1, hb.1]) with z | ⟨i, h1, h2, h3⟩
  · rw [z] at h; omega
  · refine ⟨i, by rw [← ha.1]; exact h1, h2, ?_⟩
    rcases Nat.lt_or_ge (a.getD i 0) (b.getD i 0) with z | z
    · exact z
    · have := val_less (r := r) (a := b) (b := a) (i := i) (by rw [ha.1, hb.1]) hb.2 (by rw [hb.1, ← ha.1]; exact h1) (fun j hj => (h2 j hj).symm) (by omega)
      omega
def bnd (l : List Nat) : Nat := l.foldl (fun b d => max b (d + 1)) 0
theorem bnd_snoc (l : List Nat) (d : Nat) : bnd (l ++ [d]) = max (bnd l) (d + 1) := by
  unfold bnd
  rw [List.foldl_append]
  rfl
theorem lt_bnd_aux : ∀ (l : List Nat) (b : Nat), b ≤ l.foldl (fun b d => max b (d + 1)) b ∧ ∀ d ∈ l, d < l.foldl (fun b d => max b (d + 1)) b
  | [], b => ⟨Nat.le_refl _, fun d h => by cases h⟩
  | x :: l, b => by
    obtain ⟨h1, h2⟩ := lt_bnd_aux l (max b (x + 1))
    rw [List.foldl_cons]
    refine ⟨by omega, fun d hd => ?_⟩
    rcases List.mem_cons.mp hd with z | z
    · subst z; omega
    · exact h2 d z
theorem lt_bnd {l : List Nat} {d : Nat} (h : d ∈ l) : d < bnd l := (lt_bnd_aux l 0).2 d h
def Grows (l : List Nat) : Prop := ∀ i, i < l.length → l.getD i 0 ≤ bnd (l.take i)
theorem take_next {l : List Nat} {i : Nat} (h : i < l.length) : l.take (i + 1) = l.take i ++ [l.getD i 0] := by
  rw [List.take_succ, List.getElem?_eq_getElem h, List.getD_eq_getElem?_getD, List.getElem?_eq_getElem h]
  rfl
theorem grows_all {l : List Nat} (h : Grows l) : ∀ i, i ≤ l.length → ∀ k, k < bnd (l.take i) → k ∈ l.take i
  | 0, _, k, hk => by simp [bnd] at hk
  | i + 1, hi, k, hk => by
    rw [take_next (by omega)] at hk ⊢
    rw [bnd_snoc] at hk
    have := h i (by omega)
    by_cases c : k < bnd (l.take i)
    · exact List.mem_append_left _ (grows_all h i (by omega) k c)
    · exact List.mem_append_right _ (List.mem_singleton.mpr (by omega))
def sw (m v d : Nat) : Nat := if d = m then v else if d = v then m else d
theorem sw_sw (m v d : Nat) : sw m v (sw m v d) = d := by
  unfold sw
  split
  · rename_i h
    split
    · rename_i h2; omega
    · rw [if_pos rfl]; exact h.symm
  · split
    · rename_i h1 h2
      rw [if_pos rfl]; exact h2.symm
    · rfl
theorem sw_lt {m v d r : Nat} (hm : m < r) (hv : v < r) (hd : d < r) : sw m v d < r := by
  unfold sw
  split
  · exact hv
  · split
    · exact hm
    · exact hd
theorem map_getD {l : List Nat} {f : Nat → Nat} {i : Nat} (h : i < l.length) : (l.map f).getD i 0 = f (l.getD i 0) := by
  rw [List.getD_eq_getElem?_getD, List.getD_eq_getElem?_getD, List.getElem?_map, List.getElem?_eq_getElem h]
  rfl
theorem labelled_sw {n m v k : Nat} {l : List Nat} (hl : l.length = n) : labelled n (l.map (sw m v)) k = labelled n l (sw m v k) := by
  unfold labelled
  congr 1
  apply List.map_congr_left
  intro i hi
  have hi := List.mem_range.mp hi
  rw [map_getD (by omega)]
  by_cases c : sw m v (l.getD i 0) = k
  · rw [if_pos c, if_pos (by rw [← c, sw_sw])]
  · rw [if_neg c, if_neg (fun z => c (by rw [z, sw_sw]))]
theorem meet_congr {ps : List Pt} {ss ts : List Nat} (h : ∀ s, s ∈ ss ↔ s ∈ ts) : meetOf ps ss = meetOf ps ts := by
  cases ss with
  | nil =>
    have : ts = [] := List.eq_nil_iff_forall_not_mem.mpr fun s hs => by cases (h s).mpr hs
    rw [this]
  | cons s ss =>
    have hne : ts ≠ [] := by
      intro z
      have := (h s).mp List.mem_cons_self
      rw [z] at this
      cases this
    rw [Bool.eq_iff_iff, meet_iff (List.cons_ne_nil _ _), meet_iff hne]
    exact ⟨fun ⟨q, hq, hh⟩ => ⟨q, hq, fun t ht => hh t ((h t).mpr ht)⟩, fun ⟨q, hq, hh⟩ => ⟨q, hq, fun t ht => hh t ((h t).mp ht)⟩⟩
def parts (ps : List Pt) (r : Nat) (l : List Nat) : Bool := (List.range r).all (fun k => l.contains k) && meetOf ps ((List.range r).map (labelled ps.length l))
theorem parts_sw {ps : List Pt} {r m v : Nat} {l : List Nat} (hl : Row r ps.length l) (hm : m < r) (hv : v < r) (h : parts ps r l = true) : parts ps r (l.map (sw m v)) = true := by
  unfold parts at *
  rw [Bool.and_eq_true, List.all_eq_true] at *
  refine ⟨fun k hk => ?_, ?_⟩
  · have hk := List.mem_range.mp hk
    have := h.1 (sw m v k) (List.mem_range.mpr (sw_lt hm hv hk))
    rw [List.contains_iff_mem] at this ⊢
    exact List.mem_map.mpr ⟨_, this, sw_sw m v k⟩
  · rw [← h.2]
    apply meet_congr
    intro s
    rw [List.mem_map, List.mem_map]
    constructor
    · rintro ⟨k, hk, rfl⟩
      exact ⟨sw m v k, List.mem_range.mpr (sw_lt hm hv (List.mem_range.mp hk)), (labelled_sw hl.1).symm⟩
    · rintro ⟨k, hk, rfl⟩
      refine ⟨sw m v k, List.mem_range.mpr (sw_lt hm hv (List.mem_range.mp hk)), ?_⟩
      rw [labelled_sw hl.1, sw_sw]
theorem first_grows {ps : List Pt} {r : Nat} {l : List Nat} (hl : Row r ps.length l) (hp : parts ps r l = true) (hb : ∀ l', Row r ps.length l' → val r l' < val r l → parts ps r l' = false) : Grows l := by
  intro i hi
  rcases Nat.lt_or_ge (bnd (l.take i)) (l.getD i 0) with z | z
  · exfalso
    have hv : l.getD i 0 < r := hl.2 _ (by
      rw [List.getD_eq_getElem?_getD, List.getElem?_eq_getElem hi]
      exact List.getElem_mem hi)
    have hm : bnd (l.take i) < r := by omega
    have hr : Row r ps.length (l.map (sw (bnd (l.take i)) (l.getD i 0))) := by
      refine ⟨by rw [List.length_map]; exact hl.1, fun d hd => ?_⟩
      obtain ⟨x, hx, rfl⟩ := List.mem_map.mp hd
      exact sw_lt hm hv (hl.2 x hx)
    have lt : val r (l.map (sw (bnd (l.take i)) (l.getD i 0))) < val r l := by
      refine val_less (i := i) (by rw [List.length_map]) hr.2 (by rw [List.length_map]; exact hi) (fun j hj => ?_) ?_
      · rw [map_getD (by omega)]
        have hjm : l.getD j 0 ∈ l.take i := by
          have hj' : j < l.length := by omega
          rw [List.getD_eq_getElem?_getD, List.getElem?_eq_getElem hj']
          exact List.mem_take_iff_getElem.mpr ⟨j, by omega, rfl⟩
        have := lt_bnd hjm
        unfold sw
        rw [if_neg (by omega), if_neg (by omega)]
      · rw [map_getD hi]
        unfold sw
        rw [if_neg (by omega), if_pos rfl]
        exact z
    have := parts_sw hl hm hv hp
    rw [hb _ hr lt] at this
    cases this
  · exact z
theorem parts_least {ps : List Pt} {r : Nat} : ∀ (b : Nat) (l : List Nat), val r l ≤ b → Row r ps.length l → parts ps r l = true → ∃ l', Row r ps.length l' ∧ Grows l' ∧ parts ps r l' = true ∧ val r l' ≤ val r l := by
  intro b
  induction b using Nat.strongRecOn with
  | ind b ih =>
    intro l hb hl hp
    by_cases c : ∃ l', Row r ps.length l' ∧ val r l' < val r l ∧ parts ps r l' = true
    · obtain ⟨l', h1, h2, h3⟩ := c
      obtain ⟨l'', g1, g2, g3, g4⟩ := ih (val r l') (by omega) l' (Nat.le_refl _) h1 h3
      exact ⟨l'', g1, g2, g3, by omega⟩
    · refine ⟨l, hl, first_grows hl hp (fun l' h1 h2 => ?_), hp, Nat.le_refl _⟩
      cases e : parts ps r l' with
      | false => rfl
      | true => exact absurd ⟨l', h1, h2, e⟩ c
theorem parted_some {ps : List Pt} {r : Nat} {l : List Nat} (hl : Row r ps.length l) (hp : parts ps r l = true) (hb : ∀ l', Row r ps.length l' → Grows l' → val r l' < val r l → parts ps r l' = false) : partedOf ps r = some l := by
  refine find_first (P := parts ps r) hl hp fun l' h1 h2 => ?_
  cases e : parts ps r l' with
  | false => rfl
  | true =>
    obtain ⟨l'', g1, g2, g3, g4⟩ := parts_least _ l' (Nat.le_refl _) h1 e
    rw [hb l'' g1 g2 (by omega)] at g3
    cases g3
theorem parted_none {ps : List Pt} {r : Nat} (hb : ∀ l', Row r ps.length l' → Grows l' → parts ps r l' = false) : partedOf ps r = none := by
  refine List.find?_eq_none.mpr fun l hl => ?_
  intro e
  have e : parts ps r l = true := e
  obtain ⟨l'', g1, g2, g3, g4⟩ := parts_least _ l (Nat.le_refl _) (mem_labels.mp hl) e
  rw [hb l'' g1 g2] at g3
  cases g3
def Can (r : Nat) (row : List Nat) (i : Nat) : Prop := row.getD i 0 + 1 < r ∧ row.getD i 0 < bnd (row.take i)
def nextAt (row : List Nat) (i : Nat) : List Nat := row.take i ++ [row.getD i 0 + 1] ++ List.replicate (row.length - i - 1) 0
theorem nextAt_len {row : List Nat} {i : Nat} (h : i < row.length) : (nextAt row i).length = row.length := by
  unfold nextAt
  simp
  omega
theorem nextAt_get {row : List Nat} {i j : Nat} (h : i < row.length) : (nextAt row i).getD j 0 = if j < i then row.getD j 0 else if j = i then row.getD i 0 + 1 else 0 := by
  unfold nextAt
  have hl : (row.take i).length = i := by rw [List.length_take]; omega
  rw [List.getD_eq_getElem?_getD, List.append_assoc]
  by_cases c : j < i
  · rw [if_pos c, List.getElem?_append_left (by omega), List.getElem?_take, if_pos c, List.getD_eq_getElem?_getD]
  · rw [if_neg c, List.getElem?_append_right (by omega), hl]
    by_cases c2 : j = i
    · rw [if_pos c2, c2, Nat.sub_self]
      rfl
    · rw [if_neg c2, List.getElem?_append_right (by simp; omega), List.getElem?_replicate]
      split <;> rfl
theorem nextAt_take {row : List Nat} {i : Nat} (h : i < row.length) : (nextAt row i).take i = row.take i := by
  unfold nextAt
  have hl : (row.take i).length = i := by rw [List.length_take]; omega
  rw [List.append_assoc, List.take_append_of_le_length (by omega), List.take_take, Nat.min_self]
theorem take_congr {a b : List Nat} {i : Nat} (ha : i ≤ a.length) (hb : i ≤ b.length) (h : ∀ j, j < i → a.getD j 0 = b.getD j 0) : a.take i = b.take i := by
  apply List.ext_getElem
  · rw [List.length_take, List.length_take]; omega
  · intro j h1 h2
    rw [List.length_take] at h1 h2
    have := h j (by omega)
    rw [List.getD_eq_getElem?_getD, List.getD_eq_getElem?_getD, List.getElem?_eq_getElem (by omega : j < a.length), List.getElem?_eq_getElem (by omega : j < b.length)] at this
    rw [List.getElem_take, List.getElem_take]
    exact this
theorem next_row {r n i : Nat} {row : List Nat} (hr : Row r n row) (hg : Grows row) (hi : i < n) (hc : Can r row i) : Row r n (nextAt row i) ∧ Grows (nextAt row i) ∧ val r row < val r (nextAt row i) := by
  have hi' : i < row.length := by rw [hr.1]; exact hi
  refine ⟨⟨by rw [nextAt_len hi', hr.1], fun d hd => ?_⟩, fun j hj => ?_, ?_⟩
  · unfold nextAt at hd
    rcases List.mem_append.mp hd with z | z
    · rcases List.mem_append.mp z with z | z
      · exact hr.2 d (List.mem_of_mem_take z)
      · rw [List.mem_singleton.mp z]; exact hc.1
    · rw [List.eq_of_mem_replicate z]
      have := hc.1
      omega
  · rw [nextAt_get hi']
    split
    · rename_i c
      have : (nextAt row i).take j = row.take j := take_congr (by omega) (by omega) fun k hk => by rw [nextAt_get hi', if_pos (by omega)]
      rw [this]
      exact hg j (by omega)
    · split
      · rename_i c1 c2
        rw [c2, nextAt_take hi']
        have := hc.2
        omega
      · omega
  · refine val_less (i := i) (by rw [nextAt_len hi']) hr.2 hi' (fun j hj => ?_) ?_
    · rw [nextAt_get hi', if_pos hj]
    · rw [nextAt_get hi', if_neg (by omega), if_pos rfl]
      omega
theorem diff_can {r n : Nat} {row l : List Nat} (hr : Row r n row) (hl : Row r n l) (hg : Grows l) (hlt : val r row < val r l) : ∃ i, 0 < i ∧ i < n ∧ Can r row i ∧ (∀ j, j < i → row.getD j 0 = l.getD j 0) ∧ row.getD i 0 < l.getD i 0 := by
  obtain ⟨i, h1, h2, h3⟩ := less_diff hr hl hlt
  have hli : i < l.length := by rw [hl.1]; exact h1
  have g := hg i hli
  have e : l.take i = row.take i := take_congr (by omega) (by rw [hr.1]; omega) fun j hj => (h2 j hj).symm
  rw [e] at g
  have lr : l.getD i 0 < r := hl.2 _ (by
    rw [List.getD_eq_getElem?_getD, List.getElem?_eq_getElem hli]
    exact List.getElem_mem hli)
  refine ⟨i, ?_, h1, ⟨by omega, by omega⟩, h2, h3⟩
  rcases Nat.eq_zero_or_pos i with z | z
  · subst z
    rw [List.take_zero] at g
    have : bnd [] = 0 := rfl
    omega
  · exact z
theorem next_least {r n i : Nat} {row l : List Nat} (hr : Row r n row) (hg0 : Grows row) (hi : i < n) (hc0 : Can r row i) (hlast : ∀ j, i < j → j < n → ¬ Can r row j) (hl : Row r n l) (hg : Grows l) (hlt : val r row < val r l) : val r (nextAt row i) ≤ val r l := by
  have hi' : i < row.length := by rw [hr.1]; exact hi
  obtain ⟨k, hk0, hk, hc, he, hd⟩ := diff_can hr hl hg hlt
  have hki : k ≤ i := by
    rcases Nat.lt_or_ge i k with z | z
    · exact absurd hc (hlast k z hk)
    · exact z
  have hlen : (nextAt row i).length = l.length := by rw [nextAt_len hi', hr.1, hl.1]
  rcases first_diff hlen with z | ⟨m, m1, m2, m3⟩
  · rw [z]; exact Nat.le_refl _
  · -- where they first differ, the next row has less
    rcases Nat.lt_or_ge ((nextAt row i).getD m 0) (l.getD m 0) with z | z
    · -- val_less wants digits below r of the lesser: zeros behind
      have hdig : ∀ d ∈ nextAt row i, d < r := (next_row hr hg0 hi hc0).1.2
      exact Nat.le_of_lt (val_less hlen hdig m1 m2 z)
    · exfalso
      rw [nextAt_get hi'] at z m3
      have m2' : ∀ j, j < m → (if j < i then row.getD j 0 else if j = i then row.getD i 0 + 1 else 0) = l.getD j 0 := fun j hj => by rw [← m2 j hj, nextAt_get hi']
      split at z
      · rename_i c
        rw [if_pos c] at m3
        rcases Nat.lt_trichotomy m k with w | w | w
        · exact m3 (he m w)
        · rw [w] at z; omega
        · have := m2' k w
          rw [if_pos (by omega)] at this
          omega
      · rename_i c
        rw [if_neg c] at m3
        rcases Nat.lt_or_eq_of_le hki with w | w
        · have := m2' k (by omega)
          rw [if_pos w] at this
          omega
        · split at z
          · rename_i c2
            rw [if_pos c2] at m3
            rw [c2] at m3 z
            rw [w] at hd
            omega
          · rename_i c2
            rw [if_neg c2] at m3
            omega
theorem no_next {r n : Nat} {row l : List Nat} (hr : Row r n row) (hlast : ∀ j, 0 < j → j < n → ¬ Can r row j) (hl : Row r n l) (hg : Grows l) : ¬ val r row < val r l := by
  intro hlt
  obtain ⟨k, hk0, hk, hc, _⟩ := diff_can hr hl hg hlt
  exact hlast k hk0 hk hc
theorem all_there {r : Nat} {row : List Nat} (hg : Grows row) (hd : ∀ d ∈ row, d < r) (hr : 1 ≤ r) : (List.range r).all (fun k => row.contains k) = true ↔ r - 1 ∈ row := by
  rw [List.all_eq_true]
  constructor
  · intro h
    exact List.contains_iff_mem.mp (h (r - 1) (List.mem_range.mpr (by omega)))
  · intro h k hk
    have hk := List.mem_range.mp hk
    have hb := lt_bnd h
    have := grows_all hg row.length (Nat.le_refl _) k (by rw [List.take_length]; omega)
    rw [List.take_length] at this
    exact List.contains_iff_mem.mpr this
theorem zeros_grow (n : Nat) : Grows (List.replicate n 0) := by
  intro i hi
  rw [List.getD_eq_getElem?_getD, List.getElem?_replicate]
  split <;> simp
theorem zeros_val (r n : Nat) : val r (List.replicate n 0) = 0 := by
  induction n with
  | zero => rfl
  | succ n ih =>
    rw [List.replicate_succ]
    show 0 * _ + val r _ = 0
    rw [ih]
    simp
end HP

end
section
namespace HX
open PyRc70
structure Rest (ps : List Rc70.Pt) (l : List Int) (n : Nat) (due : List Int) : Prop where
  ex : ∃ (f : Nat) (raw : List (List (List Int))), PyFlat.calls shape f l = some raw ∧ PyInside.calls bound raw = true ∧ Rc70Neutral.all ps ((raw.map whole).map fun c => c.headD []) = true ∧ raw.length ≤ n ∧
    due = PyFlat.told (PyFlat.played (fun s c => Rc70Neutral.step s (c.headD [])) ps (raw.map whole))
theorem start {l : List Int} (h : answers_asked l = true) : Rest [] l 30 (answers l) ∧ (answers l).length ≤ 10000000 := by
  unfold answers_asked at h
  cases e : PyFlat.calls shape l.length l with
  | none => rw [e] at h; cases h
  | some raw =>
    rw [e] at h
    simp only [Bool.and_eq_true] at h
    obtain ⟨⟨⟨⟨h1, h2⟩, h3⟩, h4⟩, h5⟩ := h
    unfold Rc70Neutral.asked at h4
    rw [Bool.and_eq_true] at h4
    refine ⟨⟨l.length, raw, e, h3, h4.2, of_decide_eq_true h2, ?_⟩, of_decide_eq_true h5⟩
    show answers l = _
    unfold answers calls
    rw [e]
    rfl
theorem ended {ps : List Rc70.Pt} {n : Nat} {due : List Int} (h : Rest ps [] n due) : due = [] := by
  obtain ⟨f, raw, h1, _, _, _, h5⟩ := h.ex
  cases f <;> (rw [PyFlat.calls] at h1; cases h1; exact h5)
inductive Is : List Int → List (List Int) → List Int → Prop
  | points (cs t : List Int) : Is (0 :: (cs.length : Int) :: (cs ++ t)) [[0], cs] t
  | inn (s x y d : Int) (t : List Int) : Is (1 :: s :: x :: y :: d :: t) [[1, s, x, y, d]] t
  | three (s x y d : Int) (t : List Int) : Is (2 :: s :: x :: y :: d :: t) [[2, s, x, y, d]] t
  | depth (x y d : Int) (t : List Int) : Is (3 :: x :: y :: d :: t) [[3, x, y, d]] t
  | deepest (t : List Int) : Is (4 :: t) [[4]] t
  | parted (r : Int) (t : List Int) : Is (5 :: r :: t) [[5, r]] t
  | meet (cs t : List Int) : Is (6 :: (cs.length : Int) :: (cs ++ t)) [[6], cs] t
  | halves (s u x y c : Int) (t : List Int) : Is (7 :: s :: u :: x :: y :: c :: t) [[7, s, u, x, y, c]] t
theorem row_of {r x s : List Int} (h : PyFlat.row r = some (x, s)) : r = (x.length : Int) :: (x ++ s) := by
  cases r with
  | nil => cases h
  | cons n r =>
    rw [PyFlat.row] at h
    split at h
    · rename_i hc
      cases h
      rw [List.length_take, Nat.min_eq_left hc.2, List.take_append_drop, Int.toNat_of_nonneg hc.1]
    · cases h
theorem call_of {l t : List Int} {c : List (List Int)} (h : PyFlat.call shape l = some (c, t)) : Is l c t := by
  cases l with
  | nil => cases h
  | cons p r =>
    rw [PyFlat.call] at h
    have hp : shape p = none ∨ p = 0 ∨ p = 1 ∨ p = 2 ∨ p = 3 ∨ p = 4 ∨ p = 5 ∨ p = 6 ∨ p = 7 := by
      unfold shape
      repeat (first | (split; · simp_all) | simp)
    have row1 : ∀ q : Int, shape q = some (0, 1) → (match shape q with
      | none => none
      | some (n, k) => if r.length < n then none else match PyFlat.rows k (r.drop n) with
        | none => none
        | some (xs, t) => some ((q :: r.take n) :: xs, t)) = some (c, t) → ∃ cs, r = (cs.length : Int) :: (cs ++ t) ∧ c = [[q], cs] := by
      intro q e h
      rw [e] at h
      simp only [Nat.not_lt_zero, if_false, List.drop_zero, List.take_zero, PyFlat.rows] at h
      cases e2 : PyFlat.row r with
      | none => rw [e2] at h; cases h
      | some y =>
        obtain ⟨x, s⟩ := y
        rw [e2] at h
        simp only at h
        cases h
        exact ⟨x, row_of e2, rfl⟩
    have row0 : ∀ (q : Int) (n : Nat), shape q = some (n, 0) → (match shape q with
      | none => none
      | some (n, k) => if r.length < n then none else match PyFlat.rows k (r.drop n) with
        | none => none
        | some (xs, t) => some ((q :: r.take n) :: xs, t)) = some (c, t) → n ≤ r.length ∧ c = [q :: r.take n] ∧ t = r.drop n := by
      intro q n e h
      rw [e] at h
      simp only [PyFlat.rows] at h
      split at h
      · cases h
      · rename_i hc
        cases h
        exact ⟨by omega, rfl, rfl⟩
    rcases hp with e | rfl | rfl | rfl | rfl | rfl | rfl | rfl | rfl
    · rw [e] at h; cases h
    · obtain ⟨cs, rfl, rfl⟩ := row1 0 rfl h
      exact .points cs t
    · obtain ⟨hl, rfl, rfl⟩ := row0 1 4 rfl h
      match r, hl with
      | s :: x :: y :: d :: t, _ => exact .inn s x y d t
    · obtain ⟨hl, rfl, rfl⟩ := row0 2 4 rfl h
      match r, hl with
      | s :: x :: y :: d :: t, _ => exact .three s x y d t
    · obtain ⟨hl, rfl, rfl⟩ := row0 3 3 rfl h
      match r, hl with
      | x :: y :: d :: t, _ => exact .depth x y d t
    · obtain ⟨hl, rfl, rfl⟩ := row0 4 0 rfl h
      exact .deepest _
    · obtain ⟨hl, rfl, rfl⟩ := row0 5 1 rfl h
      match r, hl with
      | x :: t, _ => exact .parted x t
    · obtain ⟨cs, rfl, rfl⟩ := row1 6 rfl h
      exact .meet cs t
    · obtain ⟨hl, rfl, rfl⟩ := row0 7 5 rfl h
      match r, hl with
      | s :: u :: x :: y :: c :: t, _ => exact .halves s u x y c t
theorem next {ps : List Rc70.Pt} {z : Int} {l : List Int} {n : Nat} {due : List Int} (h : Rest ps (z :: l) n due) : ∃ (c : List (List Int)) (t due' : List Int), 0 < n ∧ Is (z :: l) c t ∧ PyInside.call bound c = true ∧ Rc70Neutral.asked1 ps ((whole c).headD []) = true ∧
    Rest (Rc70Neutral.behind ps ((whole c).headD [])) t (n - 1) due' ∧ (Rc70Neutral.step ps ((whole c).headD [])).1 = Rc70Neutral.behind ps ((whole c).headD []) ∧
    due = ((Rc70Neutral.step ps ((whole c).headD [])).2.length : Int) :: ((Rc70Neutral.step ps ((whole c).headD [])).2 ++ due') := by
  obtain ⟨f, raw, h1, h2, h3, h4, h5⟩ := h.ex
  cases f with
  | zero => cases h1
  | succ f =>
    rw [PyFlat.calls] at h1
    cases e : PyFlat.call shape (z :: l) with
    | none => rw [e] at h1; cases h1
    | some y =>
      obtain ⟨c, t⟩ := y
      rw [e] at h1
      simp only at h1
      cases e2 : PyFlat.calls shape f t with
      | none => rw [e2] at h1; cases h1
      | some cs =>
        rw [e2] at h1
        cases h1
        have hb : (Rc70Neutral.step ps ((whole c).headD [])).1 = Rc70Neutral.behind ps ((whole c).headD []) := by
          unfold Rc70Neutral.step Rc70Neutral.behind
          cases Rc70Neutral.callOf ((whole c).headD []) with
          | none => rfl
          | some q =>
            cases q <;> first | rfl | skip
            rename_i k
            show (Rc70.does ps (.points k)).1 = _
            unfold Rc70.does
            simp only
            cases Rc70.pointsOk k <;> rfl
        unfold PyInside.calls at h2
        rw [List.all_cons, Bool.and_eq_true] at h2
        rw [List.map_cons, List.map_cons, Rc70Neutral.all, Bool.and_eq_true] at h3
        rw [List.length_cons] at h4
        refine ⟨c, t, _, by omega, call_of e, h2.1, h3.1, ⟨f, cs, e2, h2.2, h3.2, by omega, rfl⟩, hb, ?_⟩
        rw [h5, List.map_cons, PyFlat.played]
        unfold PyFlat.told
        rw [List.flatMap_cons, hb]
        rfl
end HX

end
section
namespace HS
open PySem PySem.SetTable
def Up (xs : Array Nat) : Prop := ∀ i k, i < k → k < xs.size → xs.getD i 0 < xs.getD k 0
theorem getD_lt {xs : Array Nat} {i d : Nat} (h : i < xs.size) : xs.getD i d = xs.getD i 0 := by
  simp [Array.getD, h]
theorem below_go {xs : Array Nat} (hu : Up xs) (j : Nat) : ∀ (fuel lo hi : Nat), hi - lo ≤ fuel → lo ≤ hi → hi ≤ xs.size → (∀ i, i < lo → xs.getD i 0 < j) → (∀ i, hi ≤ i → i < xs.size → j ≤ xs.getD i 0) →
    lo ≤ below.go xs j fuel lo hi ∧ below.go xs j fuel lo hi ≤ hi ∧ (∀ i, i < below.go xs j fuel lo hi → xs.getD i 0 < j) ∧ (∀ i, below.go xs j fuel lo hi ≤ i → i < xs.size → j ≤ xs.getD i 0)
  | 0, lo, hi, h1, h2, h3, h4, h5 => by
    have e : lo = hi := by omega
    subst e
    exact ⟨Nat.le_refl _, Nat.le_refl _, h4, h5⟩
  | fuel + 1, lo, hi, h1, h2, h3, h4, h5 => by
    unfold below.go
    by_cases hlt : lo < hi
    · rw [if_pos hlt]
      have hm : (lo + hi) / 2 < xs.size := by omega
      simp only
      rw [getD_lt hm]
      by_cases hc : xs.getD ((lo + hi) / 2) 0 < j
      · rw [if_pos hc]
        obtain ⟨a, b, c, d⟩ := below_go hu j fuel ((lo + hi) / 2 + 1) hi (by omega) (by omega) h3 (fun i hi' => by
          rcases Nat.lt_or_ge i ((lo + hi) / 2) with z | z
          · exact Nat.lt_trans (hu i _ z hm) hc
          · have : i = (lo + hi) / 2 := by omega
            rw [this]; exact hc) h5
        exact ⟨by omega, b, c, d⟩
      · rw [if_neg hc]
        obtain ⟨a, b, c, d⟩ := below_go hu j fuel lo ((lo + hi) / 2) (by omega) (by omega) (by omega) h4 (fun i hi' hs => by
          rcases Nat.lt_or_ge ((lo + hi) / 2) i with z | z
          · exact Nat.le_trans (Nat.not_lt.mp hc) (Nat.le_of_lt (hu _ i z hs))
          · have : i = (lo + hi) / 2 := by omega
            rw [this]; exact Nat.not_lt.mp hc)
        exact ⟨a, by omega, c, d⟩
    · rw [if_neg hlt]
      have e : lo = hi := by omega
      subst e
      exact ⟨Nat.le_refl _, Nat.le_refl _, h4, h5⟩
theorem below_spec {xs : Array Nat} (hu : Up xs) (j : Nat) : below xs j ≤ xs.size ∧ (∀ i, i < below xs j → xs.getD i 0 < j) ∧ (∀ i, below xs j ≤ i → i < xs.size → j ≤ xs.getD i 0) := by
  obtain ⟨_, b, c, d⟩ := below_go hu j xs.size 0 xs.size (by omega) (by omega) (Nat.le_refl _) (fun i h => absurd h (by omega)) (fun i h h' => absurd h (by omega))
  exact ⟨b, c, d⟩
structure Tb (t : SetTable) (n : Nat) : Prop where
  size : t.place.size = n
  dum : t.dummies = #[]
  up : Up t.place
  le : ∀ i, i < n → t.place.getD i 0 ≤ t.mask
theorem Tb.fits {t : SetTable} {n : Nat} (h : Tb t n) (hn : n ≤ t.mask) : t.fits n = true := by
  unfold SetTable.fits SetTable.fill
  rw [h.size, h.dum]
  simp
  exact hn
theorem has_none (j : Nat) : has #[] j = false := by
  unfold has
  simp
theorem slot_eq {t : SetTable} {n : Nat} (h : Tb t n) (j : Nat) : t.slot j = if t.place[below t.place j]? == some j then .live (below t.place j) else .empty := by
  unfold slot
  rw [h.dum, has_none]
  simp
theorem slot_live {t : SetTable} {n : Nat} (h : Tb t n) {j i : Nat} (e : t.slot j = .live i) : i < n ∧ t.place.getD i 0 = j ∧ i = below t.place j := by
  rw [slot_eq h] at e
  split at e
  · rename_i c
    injection e with e
    subst e
    have c : t.place[below t.place j]? = some j := by simpa using c
    obtain ⟨hb, hj⟩ := Array.getElem?_eq_some_iff.mp c
    exact ⟨by rw [← h.size]; exact hb, by simp [Array.getD, hb, hj], rfl⟩
  · cases e
theorem slot_empty {t : SetTable} {n : Nat} (h : Tb t n) {j : Nat} (e : t.slot j = .empty) : ∀ i, i < n → t.place.getD i 0 ≠ j := by
  intro i hi z
  rw [slot_eq h] at e
  split at e
  · cases e
  · rename_i c
    obtain ⟨b1, b2, b3⟩ := below_spec h.up j
    apply c
    have hb : below t.place j = i := by
      rcases Nat.lt_trichotomy (below t.place j) i with q | q | q
      · have := h.up _ _ q (by rw [h.size]; exact hi)
        have := b3 (below t.place j) (Nat.le_refl _) (by rw [h.size]; omega)
        omega
      · exact q
      · have := b2 i q
        omega
    have hs : i < t.place.size := by rw [h.size]; exact hi
    rw [hb, Array.getElem?_eq_getElem hs]
    have : t.place.getD i 0 = t.place[i] := by simp [Array.getD, hs]
    rw [this] at z
    simp [z]
theorem slot_two {t : SetTable} {n : Nat} (h : Tb t n) (j : Nat) : t.slot j = .empty ∨ ∃ i, t.slot j = .live i := by
  rw [slot_eq h]
  split
  · exact .inr ⟨_, rfl⟩
  · exact .inl rfl
inductive Reach (t : SetTable) : Probe → Nat → Prop
  | here {p : Probe} : t.slot p.j = .empty → Reach t p 0
  | step {p : Probe} {i n : Nat} : t.slot p.j = .live i → Reach t (t.advance p) n → Reach t p (n + 1)
def advN (t : SetTable) : Nat → Probe → Probe
  | 0, p => p
  | k + 1, p => advN t k (t.advance p)
theorem advN_add (t : SetTable) : ∀ (a b : Nat) (p : Probe), advN t (a + b) p = advN t b (advN t a p)
  | 0, b, p => by rw [Nat.zero_add]; rfl
  | a + 1, b, p => by
    rw [Nat.add_right_comm]
    exact advN_add t a b (t.advance p)
theorem reach_or {t : SetTable} {n : Nat} (h : Tb t n) : ∀ (fuel : Nat) (p : Probe), (∃ m, m < fuel ∧ Reach t p m) ∨ ∀ k, k < fuel → ∃ i, t.slot (advN t k p).j = .live i
  | 0, p => .inr fun k hk => absurd hk (by omega)
  | fuel + 1, p => by
    rcases slot_two h p.j with e | ⟨i, e⟩
    · exact .inl ⟨0, by omega, .here e⟩
    · rcases reach_or h fuel (t.advance p) with ⟨m, hm, r⟩ | r
      · exact .inl ⟨m + 1, by omega, .step e r⟩
      · refine .inr fun k hk => ?_
        cases k with
        | zero => exact ⟨i, e⟩
        | succ k => exact r k (by omega)
def start (mask i q : Nat) : Probe := { j := i, more := runEnd mask i - i, i := i, perturb := q, dummy := none }
theorem adv_more (t : SetTable) : ∀ (c : Nat) (p : Probe), c ≤ p.more → advN t c p = { p with j := p.j + c, more := p.more - c }
  | 0, p, _ => rfl
  | c + 1, p, h => by
    have e : t.advance p = { p with j := p.j + 1, more := p.more - 1 } := by
      unfold advance
      rw [if_pos (by omega)]
    show advN t c (t.advance p) = _
    rw [e, adv_more t c _ (by show c ≤ p.more - 1; omega)]
    simp only [Probe.mk.injEq, and_true, true_and]
    omega
theorem run_le (mask i : Nat) : runEnd mask i - i ≤ 9 := by
  unfold runEnd
  split <;> omega
theorem adv_hop (t : SetTable) (i q : Nat) : advN t (runEnd t.mask i - i + 1) (start t.mask i q) = start t.mask (leap t.mask i q).1 (leap t.mask i q).2 := by
  rw [advN_add, adv_more t (runEnd t.mask i - i) (start t.mask i q) (Nat.le_refl _)]
  show t.advance _ = _
  unfold advance
  rw [if_neg (by simp [start])]
  rfl
def hopN (mask : Nat) : Nat → Nat × Nat → Nat × Nat
  | 0, s => s
  | k + 1, s => hopN mask k (leap mask s.1 s.2)
theorem adv_hops (t : SetTable) : ∀ (k : Nat) (s : Nat × Nat), ∃ m, m ≤ 10 * k ∧ advN t m (start t.mask s.1 s.2) = start t.mask (hopN t.mask k s).1 (hopN t.mask k s).2
  | 0, s => ⟨0, Nat.le_refl _, rfl⟩
  | k + 1, s => by
    obtain ⟨m, hm, e⟩ := adv_hops t k (leap t.mask s.1 s.2)
    have := run_le t.mask s.1
    refine ⟨runEnd t.mask s.1 - s.1 + 1 + m, by omega, ?_⟩
    rw [advN_add, adv_hop, e]
    rfl
theorem hop_per (mask : Nat) : ∀ (k : Nat) (s : Nat × Nat), (hopN mask k s).2 = s.2 / 32 ^ k
  | 0, s => by simp [hopN]
  | k + 1, s => by
    show (hopN mask k _).2 = _
    rw [hop_per mask k]
    show s.2 / 32 / 32 ^ k = _
    rw [Nat.div_div_eq_div_mul, Nat.pow_succ, Nat.mul_comm]
theorem hop_lt (mask : Nat) : ∀ (k : Nat) (s : Nat × Nat), s.1 < mask + 1 → (hopN mask k s).1 < mask + 1
  | 0, s, h => h
  | k + 1, s, h => hop_lt mask k _ (Nat.mod_lt _ (Nat.succ_pos _))
theorem hop_add (mask : Nat) : ∀ (a b : Nat) (s : Nat × Nat), hopN mask (a + b) s = hopN mask b (hopN mask a s)
  | 0, b, s => by rw [Nat.zero_add]; rfl
  | a + 1, b, s => by
    rw [Nat.add_right_comm]
    exact hop_add mask a b _
theorem cover7 : ∀ i, i < 8 → ∀ j, j < 8 → ∃ r, r < 8 ∧ (hopN 7 r (i, 0)).1 = j := by decide +kernel
theorem cover31 : ∀ i, i < 32 → ∀ j, j < 32 → ∃ r, r < 32 ∧ (hopN 31 r (i, 0)).1 = j := by decide +kernel
def Two (mask : Nat) : Prop := mask = 7 ∨ mask = 31
theorem cover {mask i j : Nat} (h : Two mask) (hi : i < mask + 1) (hj : j < mask + 1) : ∃ r, r < mask + 1 ∧ (hopN mask r (i, 0)).1 = j := by
  rcases h with h | h <;> subst h
  · exact cover7 i hi j hj
  · exact cover31 i hi j hj
theorem bits_lt (h : Int) : bits h < 2 ^ 64 := by
  unfold bits
  have := Int.emod_lt_of_pos h (b := (2 ^ 64 : Int)) (by decide)
  have := Int.emod_nonneg h (b := (2 ^ 64 : Int)) (by decide)
  omega
theorem hops_all {mask i q : Nat} (h : Two mask) (hi : i < mask + 1) (hq : q < 2 ^ 64) {j : Nat} (hj : j < mask + 1) : ∃ k, k < mask + 14 ∧ (hopN mask k (i, q)).1 = j := by
  have e : (hopN mask 13 (i, q)).2 = 0 := by
    rw [hop_per]
    exact Nat.div_eq_of_lt (Nat.lt_of_lt_of_le hq (by decide))
  obtain ⟨r, hr, er⟩ := cover h (hop_lt mask 13 (i, q) hi) hj
  refine ⟨13 + r, by omega, ?_⟩
  rw [hop_add]
  have : hopN mask 13 (i, q) = ((hopN mask 13 (i, q)).1, 0) := Prod.ext rfl e
  rw [this]
  exact er
theorem not_all {t : SetTable} {n : Nat} (h : Tb t n) (hn : n ≤ t.mask) : ¬ ∀ j, j < t.mask + 1 → ∃ i, t.slot j = .live i := by
  intro hall
  have key : ∀ v, v < t.mask + 1 → ∃ i, v ≤ i ∧ i < n ∧ t.place.getD i 0 = v := by
    intro v
    induction v with
    | zero =>
      intro hv
      obtain ⟨i, e⟩ := hall 0 hv
      obtain ⟨a, b, _⟩ := slot_live h e
      exact ⟨i, by omega, a, b⟩
    | succ v ih =>
      intro hv
      obtain ⟨i0, a0, b0, c0⟩ := ih (by omega)
      obtain ⟨i, e⟩ := hall (v + 1) hv
      obtain ⟨a, b, _⟩ := slot_live h e
      refine ⟨i, ?_, a, b⟩
      rcases Nat.lt_or_ge i0 i with z | z
      · omega
      · exfalso
        rcases Nat.lt_or_eq_of_le z with y | y
        · have := h.up i i0 y (by rw [h.size]; exact b0)
          omega
        · rw [y] at b; omega
  obtain ⟨i, a, b, _⟩ := key t.mask (by omega)
  omega
theorem reach {t : SetTable} {n : Nat} (h : Tb t n) (hn : n ≤ t.mask) (hm : Two t.mask) (x : Int) : ∃ m, m < 10 * turns t.mask ∧ Reach t (t.probeStart x) m := by
  rcases reach_or h (10 * turns t.mask) (t.probeStart x) with r | r
  · exact r
  · exfalso
    apply not_all h hn
    intro j hj
    obtain ⟨k, hk, e⟩ := hops_all (i := bits x % (t.mask + 1)) hm (Nat.mod_lt _ (Nat.succ_pos _)) (bits_lt x) hj
    obtain ⟨m, hm2, e2⟩ := adv_hops t k (bits x % (t.mask + 1), bits x)
    have e3 := r m (by unfold turns; omega)
    have : t.probeStart x = start t.mask (bits x % (t.mask + 1)) (bits x) := rfl
    rw [this, e2] at e3
    rw [← e]
    exact e3
theorem adv_dummy (t : SetTable) (p : Probe) : (t.advance p).dummy = p.dummy := by
  unfold advance
  split <;> rfl
theorem run_mask {mask i : Nat} (h : i ≤ mask) : i + (runEnd mask i - i) ≤ mask := by
  unfold runEnd
  split <;> omega
theorem adv_in {t : SetTable} {p : Probe} (h : p.j + p.more ≤ t.mask) : (t.advance p).j + (t.advance p).more ≤ t.mask := by
  unfold advance
  split
  · show p.j + 1 + (p.more - 1) ≤ t.mask
    omega
  · exact run_mask (Nat.le_of_lt_succ (Nat.mod_lt _ (Nat.succ_pos _)))
theorem start_in (t : SetTable) (x : Int) : (t.probeStart x).j + (t.probeStart x).more ≤ t.mask := run_mask (Nat.le_of_lt_succ (Nat.mod_lt _ (Nat.succ_pos _)))
theorem probe_go {t : SetTable} (f : Nat → Int) (x : Int) : ∀ (fuel n : Nat) (p : Probe), Reach t p n → n < fuel → p.dummy = none → p.j + p.more ≤ t.mask →
    (∃ j, probe.go t f x fuel p = some (.empty j none) ∧ t.slot j = .empty ∧ j ≤ t.mask) ∨ ∃ j i p', probe.go t f x fuel p = some (.candidate j i p') ∧ t.slot j = .live i ∧ p'.dummy = none ∧ p'.j + p'.more ≤ t.mask ∧ ∃ m, m < n ∧ Reach t p' m
  | 0, n, p, _, h, _, _ => absurd h (by omega)
  | fuel + 1, n, p, r, h, hd, hb => by
    cases r with
    | here e =>
      refine .inl ⟨p.j, ?_, e, by omega⟩
      unfold probe.go
      rw [e, hd]
    | @step _ i m e r =>
      unfold probe.go
      rw [e]
      simp only
      split
      · exact .inr ⟨p.j, i, t.advance p, rfl, e, by rw [adv_dummy]; exact hd, adv_in hb, m, by omega, r⟩
      · rcases probe_go f x fuel m (t.advance p) r (by omega) (by rw [adv_dummy]; exact hd) (adv_in hb) with z | ⟨j, i', p', z1, z2, z3, z6, m', z4, z5⟩
        · exact .inl z
        · exact .inr ⟨j, i', p', z1, z2, z3, z6, m', by omega, z5⟩
theorem insert_toList {α : Type} (xs : Array α) (p : Nat) (x : α) (hp : p ≤ xs.size) : (insertAt xs p x).toList = xs.toList.take p ++ x :: xs.toList.drop p := by
  exact SetTable.toList_insertAt xs p x
theorem put_tb {t : SetTable} {n j : Nat} (h : Tb t n) (hj : j ≤ t.mask) (e : t.slot j = .empty) : Tb (t.put j).1 (n + 1) ∧ (t.put j).1.mask = t.mask ∧ (t.put j).1.plain = t.plain ∧ (t.put j).1.led = t.led ∧ (t.put j).1.moves = t.moves ∧ (t.put j).2 ≤ n := by
  obtain ⟨b1, b2, b3⟩ := below_spec h.up j
  have hne := slot_empty h e
  have hs : (insertAt t.place (below t.place j) j).size = n + 1 := by
    rw [← Array.length_toList, insert_toList _ _ _ b1]
    simp
    rw [h.size] at b1 ⊢
    omega
  have hg : ∀ i, (insertAt t.place (below t.place j) j).getD i 0 = if i < below t.place j then t.place.getD i 0 else if i = below t.place j then j else t.place.getD (i - 1) 0 := by
    intro i
    have e1 : ∀ (xs : Array Nat) (i : Nat), xs.getD i 0 = (xs.toList[i]?).getD 0 := by
      intro xs i
      rw [Array.getElem?_toList]
      simp [Array.getD]
      split <;> simp_all
    rw [e1, insert_toList _ _ _ b1, e1, e1]
    have hl : (t.place.toList.take (below t.place j)).length = below t.place j := by
      rw [List.length_take, Array.length_toList]
      omega
    by_cases c : i < below t.place j
    · rw [if_pos c, List.getElem?_append_left (by rw [hl]; exact c), List.getElem?_take, if_pos c]
    · rw [if_neg c, List.getElem?_append_right (by rw [hl]; omega), hl]
      by_cases c2 : i = below t.place j
      · rw [if_pos c2, c2, Nat.sub_self]
        rfl
      · rw [if_neg c2]
        obtain ⟨d, hd⟩ : ∃ d, i - below t.place j = d + 1 := ⟨i - below t.place j - 1, by omega⟩
        rw [hd, List.getElem?_cons_succ, List.getElem?_drop]
        congr 2
        omega
  have hd : (t.put j).1.dummies = #[] := by
    unfold put
    simp only
    rw [h.dum, has_none]
    rfl
  refine ⟨⟨hs, hd, ?_, ?_⟩, rfl, rfl, rfl, rfl, by unfold put; simp only; rw [← h.size]; exact b1⟩
  · show Up (insertAt t.place (below t.place j) j)
    intro i k hik hk
    rw [hs] at hk
    rw [hg, hg]
    have lt : ∀ i, i < below t.place j → t.place.getD i 0 < j := b2
    have gt : ∀ i, below t.place j ≤ i → i < n → j < t.place.getD i 0 := by
      intro i h1 h2
      have := b3 i h1 (by rw [h.size]; exact h2)
      have := hne i h2
      omega
    have hup : ∀ i k, i < k → k < n → t.place.getD i 0 < t.place.getD k 0 := fun i k h1 h2 => h.up i k h1 (by rw [h.size]; exact h2)
    by_cases c1 : i < below t.place j
    · rw [if_pos c1]
      by_cases c2 : k < below t.place j
      · rw [if_pos c2]
        exact hup i k hik (by rw [h.size] at b1; omega)
      · rw [if_neg c2]
        by_cases c3 : k = below t.place j
        · rw [if_pos c3]; exact lt i c1
        · rw [if_neg c3]
          exact Nat.lt_trans (lt i c1) (gt (k - 1) (by omega) (by omega))
    · rw [if_neg c1, if_neg (by omega : ¬ k < below t.place j), if_neg (by omega : ¬ k = below t.place j)]
      by_cases c3 : i = below t.place j
      · rw [if_pos c3]; exact gt (k - 1) (by omega) (by omega)
      · rw [if_neg c3]; exact hup (i - 1) (k - 1) (by omega) (by omega)
  · intro i hi
    show (insertAt t.place (below t.place j) j).getD i 0 ≤ t.mask
    rw [hg]
    split
    · rename_i c
      exact h.le i (by rw [h.size] at b1; omega)
    · split
      · exact hj
      · exact h.le (i - 1) (by omega)
theorem below_next {t : SetTable} {n i : Nat} (h : Tb t n) (hi : i < n) : below t.place (t.place.getD i 0 + 1) = i + 1 := by
  obtain ⟨b1, b2, b3⟩ := below_spec h.up (t.place.getD i 0 + 1)
  rw [h.size] at b1
  rcases Nat.lt_trichotomy (below t.place (t.place.getD i 0 + 1)) (i + 1) with z | z | z
  · have := b3 i (by omega) (by rw [h.size]; exact hi)
    omega
  · exact z
  · have := b2 (i + 1) z
    have := h.up i (i + 1) (by omega) (by rw [h.size]; omega)
    omega
theorem below_zero {t : SetTable} {n : Nat} (h : Tb t n) : below t.place 0 = 0 := by
  obtain ⟨b1, b2, b3⟩ := below_spec h.up 0
  rcases Nat.eq_zero_or_pos (below t.place 0) with z | z
  · exact z
  · have := b2 0 z
    omega
end HS

end
section
namespace HS
open PySem PySem.SetTable
def ownL (mask : Nat) (ow : Array (Option Nat)) : List Nat := (List.range (mask + 1)).filterMap fun j => ow.getD j none
theorem free_none {mask : Nat} {ow : Array (Option Nat)} : ∀ (fuel i q : Nat), i < mask + 1 → layClean.free mask ow fuel i q = none → ∀ k, k < fuel → (ow.getD (hopN mask k (i, q)).1 (some 0)).isNone = false
  | 0, i, q, hi, h, k, hk => absurd hk (by omega)
  | fuel + 1, i, q, hi, h, k, hk => by
    unfold layClean.free at h
    split at h
    · cases h
    · rename_i e
      cases k with
      | zero =>
        have hr : 0 < runEnd mask i + 1 - i := by unfold runEnd; split <;> omega
        have := List.find?_eq_none.mp e 0 (List.mem_range.mpr hr)
        cases z : (ow.getD (hopN mask 0 (i, q)).1 (some 0)).isNone with
        | false => rfl
        | true => exact absurd z this
      | succ k => exact free_none fuel _ _ (Nat.mod_lt _ (Nat.succ_pos _)) h k (by omega)
theorem free_is {mask : Nat} {ow : Array (Option Nat)} : ∀ (fuel i q j : Nat), layClean.free mask ow fuel i q = some j → (ow.getD j (some 0)).isNone = true
  | 0, i, q, j, h => by cases h
  | fuel + 1, i, q, j, h => by
    unfold layClean.free at h
    split at h
    · rename_i k e
      injection h with h
      rw [← h]
      exact List.find?_some (p := fun k => (ow.getD (i + k) (some 0)).isNone) e
    · exact free_is fuel _ _ j h
theorem free_ok {mask i q : Nat} {ow : Array (Option Nat)} (hm : Two mask) (hi : i < mask + 1) (hq : q < 2 ^ 64) (hs : ow.size = mask + 1) (hex : ∃ j, j < mask + 1 ∧ ow.getD j none = none) :
    ∃ j, layClean.free mask ow (turns mask) i q = some j ∧ j < mask + 1 ∧ ow.getD j none = none := by
  cases e : layClean.free mask ow (turns mask) i q with
  | none =>
    exfalso
    obtain ⟨j, hj, ej⟩ := hex
    obtain ⟨k, hk, ek⟩ := hops_all hm hi hq hj
    have := free_none _ i q hi e k (by unfold turns; omega)
    rw [ek] at this
    have hj' : j < ow.size := by omega
    simp [Array.getD, hj'] at this ej
    rw [ej] at this
    cases this
  | some j =>
    have := free_is _ _ _ _ e
    by_cases hj : j < ow.size
    · refine ⟨j, rfl, by omega, ?_⟩
      simp [Array.getD, hj] at this ⊢
      exact this
    · simp [Array.getD, hj] at this
theorem set_getD {ow : Array (Option Nat)} {j k i : Nat} (hj : j < ow.size) : (ow.setIfInBounds j (some k)).getD i none = if i = j then some k else ow.getD i none := by
  by_cases c : i = j
  · subst c
    rw [if_pos rfl]
    simp [Array.getD, hj]
  · rw [if_neg c]
    by_cases hi : i < ow.size
    · simp [Array.getD, hi, Array.getElem_setIfInBounds, Ne.symm c]
    · simp [Array.getD, hi]
theorem filterMap_put {f g : Nat → Option Nat} {j k : Nat} (hf : f j = none) (hg : ∀ i, g i = if i = j then some k else f i) : ∀ {l : List Nat}, l.Nodup → (j ∈ l → (l.filterMap g).Perm (k :: l.filterMap f)) ∧ (j ∉ l → l.filterMap g = l.filterMap f)
  | [], _ => ⟨fun h => absurd h (by simp), fun _ => rfl⟩
  | a :: l, hn => by
    obtain ⟨h1, h2⟩ := filterMap_put hf hg (List.nodup_cons.mp hn).2
    have ha := (List.nodup_cons.mp hn).1
    by_cases c : a = j
    · subst c
      refine ⟨fun _ => ?_, fun h => absurd List.mem_cons_self h⟩
      rw [List.filterMap_cons, List.filterMap_cons, hg, if_pos rfl, hf, h2 ha]
    · have e : g a = f a := by rw [hg, if_neg c]
      refine ⟨fun h => ?_, fun h => ?_⟩
      · rcases List.mem_cons.mp h with z | z
        · exact absurd z.symm c
        · have p := h1 z
          rw [List.filterMap_cons, List.filterMap_cons, e]
          cases f a with
          | none => exact p
          | some v => exact (p.cons v).trans (List.Perm.swap ..)
      · rw [List.filterMap_cons, List.filterMap_cons, e, h2 fun z => h (List.mem_cons_of_mem _ z)]
theorem own_put {mask j k : Nat} {ow : Array (Option Nat)} (hs : ow.size = mask + 1) (hj : j < mask + 1) (e : ow.getD j none = none) : (ownL mask (ow.setIfInBounds j (some k))).Perm (k :: ownL mask ow) :=
  (filterMap_put (f := fun i => ow.getD i none) (g := fun i => (ow.setIfInBounds j (some k)).getD i none) e (fun i => set_getD (by omega)) (List.nodup_range)).1 (List.mem_range.mpr hj)
theorem own_full {mask : Nat} {ow : Array (Option Nat)} (h : (ownL mask ow).length < mask + 1) : ∃ j, j < mask + 1 ∧ ow.getD j none = none := by
  apply Classical.byContradiction
  intro hn
  have all : ∀ l : List Nat, (∀ j ∈ l, j < mask + 1) → (l.filterMap fun j => ow.getD j none).length = l.length := by
    intro l
    induction l with
    | nil => intro _; rfl
    | cons a l ih =>
      intro hl
      rw [List.filterMap_cons]
      cases e : ow.getD a none with
      | none => exact absurd ⟨a, hl a List.mem_cons_self, e⟩ hn
      | some v => rw [List.length_cons, List.length_cons, ih fun j hj => hl j (List.mem_cons_of_mem _ hj)]
  have := all (List.range (mask + 1)) fun j hj => List.mem_range.mp hj
  rw [List.length_range] at this
  unfold ownL at h
  omega
def layStep (mask : Nat) (acc : Option (Array (Option Nat) × Nat)) (h : Int) : Option (Array (Option Nat) × Nat) := do
  let (owner, k) ← acc
  let j ← layClean.free mask owner (turns mask) (bits h % (mask + 1)) (bits h)
  pure (owner.setIfInBounds j (some k), k + 1)
theorem lay_fold {mask : Nat} (hm : Two mask) : ∀ (hs : List Int) (ow : Array (Option Nat)) (k : Nat), ow.size = mask + 1 → (ownL mask ow).Perm (List.range k) → k + hs.length ≤ mask + 1 →
    ∃ ow', hs.foldl (layStep mask) (some (ow, k)) = some (ow', k + hs.length) ∧ ow'.size = mask + 1 ∧ (ownL mask ow').Perm (List.range (k + hs.length))
  | [], ow, k, h1, h2, h3 => ⟨ow, rfl, h1, h2⟩
  | x :: hs, ow, k, h1, h2, h3 => by
    have hl := h2.length_eq
    rw [List.length_range] at hl
    rw [List.length_cons] at h3
    obtain ⟨j, ej, hj, hn⟩ := free_ok (i := bits x % (mask + 1)) hm (Nat.mod_lt _ (Nat.succ_pos _)) (bits_lt x) h1 (own_full (ow := ow) (by omega))
    have hp : (ownL mask (ow.setIfInBounds j (some k))).Perm (List.range (k + 1)) := by
      rw [List.range_succ]
      exact (own_put h1 hj hn).trans ((h2.cons k).trans (List.perm_append_singleton k _).symm)
    obtain ⟨ow', e, a, b⟩ := lay_fold hm hs (ow.setIfInBounds j (some k)) (k + 1) (by rw [Array.size_setIfInBounds]; exact h1) hp (by omega)
    have ec : k + (x :: hs).length = k + 1 + hs.length := by rw [List.length_cons]; omega
    refine ⟨ow', ?_, a, by rw [ec]; exact b⟩
    rw [List.foldl_cons, ec, ← e]
    have : layStep mask (some (ow, k)) x = some (ow.setIfInBounds j (some k), k + 1) := by
      unfold layStep
      simp [ej]
    rw [this]
theorem own_fresh (mask : Nat) : ownL mask (Array.replicate (mask + 1) none) = [] := by
  unfold ownL
  rw [List.filterMap_eq_nil_iff]
  intro j hj
  have := List.mem_range.mp hj
  simp [Array.getD, this]
theorem lay_clean {mask : Nat} (hm : Two mask) (hs : Array Int) (hn : hs.size ≤ mask + 1) : ∃ ow, layClean mask hs = some ow ∧ ow.size = mask + 1 ∧ (ownL mask ow).Perm (List.range hs.size) := by
  obtain ⟨ow, e, a, b⟩ := lay_fold hm hs.toList (Array.replicate (mask + 1) none) 0 (by simp) (by rw [own_fresh]; exact List.Perm.refl _) (by rw [Array.length_toList]; omega)
  refine ⟨ow, ?_, a, by rw [Nat.zero_add, Array.length_toList] at b; exact b⟩
  unfold layClean
  rw [← Array.foldl_toList]
  have : hs.toList.foldl (layStep mask) (some (Array.replicate (mask + 1) none, 0)) = some (ow, 0 + hs.toList.length) := e
  unfold layStep at this
  rw [this]
  rfl
theorem up_of {l : List Nat} (h : l.Pairwise (· < ·)) : Up l.toArray := by
  intro i k hik hk
  have hk' : k < l.length := by simpa using hk
  have hi' : i < l.length := by omega
  have := List.pairwise_iff_getElem.mp h i k hi' hk' hik
  simp [Array.getD, hk', hi']
  exact this
theorem laid_ok {mask finger moves : Nat} {led plain : Bool} (hm : Two mask) (hs : Array Int) (hn : hs.size ≤ mask + 1) : ∃ t order, laid mask finger moves led plain hs = some (t, order) ∧ Tb t hs.size ∧ t.mask = mask ∧ t.plain = plain ∧ t.led = led ∧ order.toList.Perm (List.range hs.size) := by
  obtain ⟨ow, e, a, b⟩ := lay_clean hm hs hn
  refine ⟨_, _, by unfold laid; rw [e]; rfl, ?_, rfl, rfl, rfl, ?_⟩
  · have e1 : (((List.range (mask + 1)).filterMap fun j => (ow.getD j none).map (j, ·)).map (·.1)) = (List.range (mask + 1)).filter fun j => (ow.getD j none).isSome := by
      rw [List.map_filterMap]
      generalize List.range (mask + 1) = l
      induction l with
      | nil => rfl
      | cons x l ih =>
        rw [List.filterMap_cons, List.filter_cons, ih]
        cases ow.getD x none <;> rfl
    have e2 : ((List.range (mask + 1)).filter fun j => (ow.getD j none).isSome).length = (ownL mask ow).length := by
      unfold ownL
      generalize List.range (mask + 1) = l
      induction l with
      | nil => rfl
      | cons x l ih =>
        rw [List.filterMap_cons, List.filter_cons]
        cases ow.getD x none with
        | none => exact ih
        | some v => exact congrArg (· + 1) ih
    have hl : ((List.range (mask + 1)).filter fun j => (ow.getD j none).isSome).length = hs.size := by
      rw [e2, b.length_eq, List.length_range]
    have hsort : ((List.range (mask + 1)).filter fun j => (ow.getD j none).isSome).Pairwise (· < ·) := List.Pairwise.filter _ List.pairwise_lt_range
    refine ⟨?_, rfl, ?_, ?_⟩
    · show (List.toArray _).size = _
      rw [e1, List.size_toArray, hl]
    · show Up (List.toArray _)
      rw [e1]
      exact up_of hsort
    · intro i hi
      show (List.toArray _).getD i 0 ≤ mask
      rw [e1]
      have hi' : i < ((List.range (mask + 1)).filter fun j => (ow.getD j none).isSome).length := by omega
      have : ((List.range (mask + 1)).filter fun j => (ow.getD j none).isSome)[i] ∈ (List.range (mask + 1)).filter fun j => (ow.getD j none).isSome := List.getElem_mem hi'
      have := List.mem_range.mp (List.mem_filter.mp this).1
      have eg : ∀ (l : List Nat) (hl : i < l.length), (List.toArray l).getD i 0 = l[i] := fun l hl => by simp [Array.getD, hl]
      rw [eg _ hi']
      omega
  · rw [List.toList_toArray, List.map_filterMap]
    have e3 : ((List.range (mask + 1)).filterMap fun j => ((ow.getD j none).map (j, ·)).map (·.2)) = ownL mask ow := by
      unfold ownL
      congr 1
      funext j
      cases ow.getD j none <;> rfl
    rw [e3]
    exact b
theorem perm_get {α : Type} {es : Array α} {order : List Nat} (h : order.Perm (List.range es.size)) : (order.filterMap (es[·]?)).Perm es.toList := by
  have := h.filterMap (es[·]?)
  rw [filterMap_getElem?_range] at this
  exact this
end HS

end
section
namespace HS
open PySem PySem.SetTable PySem.Spec PyProof.Rows
def byT (w : World) : Bool := w.params.followText "set-order"
abbrev Key := List Int
section
variable {prog : Program} {w : World} {A : Around} {E : Value → Shared → Prop} {s : Shared} {S : Addr}
def Keys (prog : Program) (w : World) (h : Heap) (ks : List (Addr × Key)) : Prop := ∀ b k, (b, k) ∈ ks → IsTupleKey (intKind prog w) h k b
def Els (ks : List (Addr × Key)) (es : Array (Int × Value)) : Prop := ∀ e ∈ es.toList, ∃ b k, (b, k) ∈ ks ∧ e.2 = .ref b
structure At (w : World) (h : Heap) (S : Addr) (o : Obj) (es : Array (Int × Value)) (ep : Nat) (t : SetTable) : Prop where
  get : h.get? S = some o
  ex : o.ExactSet
  dat : o.data = .set es ep t
  tb : Tb t es.size
  two : Two t.mask
  few : t.mask = 7 → es.size ≤ 4
  eight : es.size ≤ 8
  plain : t.plain = true
  led : t.led = !byT w
theorem At.room {h : Heap} {o : Obj} {es : Array (Int × Value)} {ep : Nat} {t : SetTable} (x : At w h S o es ep t) : es.size < t.mask := by
  have := x.few
  have := x.eight
  rcases x.two with z | z
  · have := x.few z; omega
  · omega
theorem At.fits {h : Heap} {o : Obj} {es : Array (Int × Value)} {ep : Nat} {t : SetTable} (x : At w h S o es ep t) : t.fits es.size = true := x.tb.fits (Nat.le_of_lt x.room)
theorem wp_class {k : Key} {b : Addr} (hk : IsTupleKey (intKind prog w) s.heap k b) {Q : Bool → Shared → Prop} (h : Q false s) : wpAny (model prog w) A (ofAClassStatement 8 (.ref b)) Q E s := by
  have hT := hk.typeIs
  obtain ⟨o, items, n, ho, _, hd, hi⟩ := hk
  unfold ofAClassStatement
  refine wpAny_bind (wpAny_typeOf hT ?_)
  show wpAny _ _ (pure true >>= _) Q E s
  refine wpAny_bind (wpAny_pure ?_)
  show wpAny _ _ (seqItems? (.ref b) >>= _) Q E s
  refine wpAny_bind (wpAny_seqItems ho hd ?_)
  show wpAny _ _ (forIn items _ _ >>= _) Q E s
  refine wpAny_bind ?_
  rw [← Array.forIn_toList]
  refine wpAny_forIn_list _ (fun rest r s' => r.1 = none ∧ s' = s ∧ ∀ v ∈ rest, carriedByValue v = true) _ ?_ ?_ _ _ ⟨rfl, rfl, hi.byValue⟩
  · rintro v rest r s' ⟨hr, rfl, hall⟩
    have hv := hall v List.mem_cons_self
    have e : ofAClassStatement 7 v = pure false := by
      cases v with
      | ref a => simp [carriedByValue] at hv
      | _ => rfl
    rw [e]
    refine wpAny_bind (wpAny_pure ?_)
    exact wpAny_pure ⟨rfl, rfl, fun u hu' => hall u (List.mem_cons_of_mem _ hu')⟩
  · rintro ⟨r1, r2⟩ s' ⟨hr, rfl, _⟩
    simp only at hr
    subst hr
    exact wpAny_pure h
theorem wp_seen {ks : List (Addr × Key)} (hk : Keys prog w s.heap ks) {b : Addr} {k : Key} (hb : (b, k) ∈ ks) {stored : List Value} (hs : ∀ v ∈ stored, ∃ b k, (b, k) ∈ ks ∧ v = .ref b) {Q : Bool → Shared → Prop} (h : Q false s) :
    wpAny (model prog w) A (searchCouldBeSeen (.ref b) stored) Q E s := by
  unfold searchCouldBeSeen
  refine wpAny_bind ?_
  refine wpAny_forIn_list _ (fun rest r s' => r.1 = none ∧ s' = s ∧ ∀ v ∈ rest, ∃ b k, (b, k) ∈ ks ∧ v = .ref b) _ ?_ ?_ _ _ ⟨rfl, rfl, hs⟩
  · rintro v rest r s' ⟨hr, rfl, hall⟩
    obtain ⟨b', k', hb', rfl⟩ := hall v List.mem_cons_self
    have rest' := fun u hu' => hall u (List.mem_cons_of_mem _ hu')
    dsimp only
    split
    · exact wpAny_pure ⟨rfl, rfl, rest'⟩
    · refine wpAny_bind (wpAny_eqIsQuiet_tuple (hk _ _ hb) ?_)
      refine wpAny_bind (wpAny_eqIsQuiet_tuple (hk _ _ hb') ?_)
      refine wpAny_bind (wp_class (hk _ _ hb) ?_)
      refine wpAny_bind (wp_class (hk _ _ hb') ?_)
      exact wpAny_pure ⟨rfl, rfl, rest'⟩
  · rintro ⟨r1, r2⟩ s' ⟨hr, rfl, _⟩
    simp only at hr
    subst hr
    exact wpAny_pure h
def storedAt (es : Array (Int × Value)) (i : Nat) : Int := (es[i]?.map (·.1)).getD 0
theorem wp_search {o : Obj} {es : Array (Int × Value)} {ep : Nat} {t : SetTable} (x : At w s.heap S o es ep t) {ks : List (Addr × Key)} (hk : Keys prog w s.heap ks) (hel : Els ks es) {b : Addr} {k : Key} (hb : (b, k) ∈ ks) (hu : A.units < cLine) (hx : Int) {Q : SetFound → Shared → Prop}
    (h1 : ∀ e ∈ es.toList, ∀ b', (b', k) ∈ ks → e.2 = .ref b' → Q (.there none) s) (h2 : ∀ j, j ≤ t.mask → t.slot j = .empty → Q (.free j false) s) :
    ∀ (n fuel : Nat) (p : Probe) (stand : Option Probe), n < fuel → Reach t p n → n < 10 * turns t.mask → p.dummy = none → p.j + p.more ≤ t.mask → stand.getD (t.probeStart hx) = p →
    wpAny (model prog w) A (setSearchFrom S (.ref b) hx true fuel stand) Q E s := by
  intro n
  induction n using Nat.strongRecOn with
  | ind n ih =>
    intro fuel p stand hf hr hn hd hin hp
    obtain ⟨fuel, rfl⟩ : ∃ f, fuel = f + 1 := ⟨fuel - 1, by omega⟩
    unfold setSearchFrom
    refine wpAny_bind (wpAny_setState_of x.get x.dat x.fits ?_)
    dsimp only
    have hg : t.gaveWay = false := by
      unfold gaveWay
      rcases x.two with z | z <;> rw [z] <;> rfl
    rw [hg, hp]
    simp only [Bool.false_eq_true, if_false]
    rcases probe_go (storedAt es) hx (10 * turns t.mask) n p hr hn hd hin with ⟨j, e1, e2, e3⟩ | ⟨j, i, p', e1, e2, e3, e4, m, hm, hr'⟩
    · have e1 : t.probe _ hx p = some (.empty j none) := e1
      erw [e1]
      exact wpAny_pure (h2 j e3 e2)
    · have e1 : t.probe _ hx p = some (.candidate j i p') := e1
      erw [e1]
      obtain ⟨hi, hpl, _⟩ := slot_live x.tb e2
      have ei : es[i]? = some es[i] := Array.getElem?_eq_getElem hi
      have em : es[i] ∈ es.toList := Array.mem_toList_iff.mpr (Array.getElem_mem hi)
      obtain ⟨b', k', hb', he⟩ := hel _ em
      have hsm : t.sameMemory t.moves t.mask = some true := by
        unfold sameMemory
        rw [beq_self_eq_true]
        rfl
      simp only [ei]
      split
      · refine wpAny_bind (wp_seen hk hb ?_ ?_)
        · intro v hv
          obtain ⟨e, he, rfl⟩ := List.mem_map.mp hv
          obtain ⟨b2, k2, h3, h4⟩ := hel e (by
            have := Array.mem_toList_iff.mp he
            exact Array.mem_toList_iff.mpr (Array.mem_filter.mp this).1)
          exact ⟨b2, k2, h3, h4⟩
        · simp only [Bool.false_eq_true, if_false]
          rw [show es[i] = (es[i].1, Value.ref b') from Prod.ext rfl he]
          dsimp only
          refine wpAny_bind (wpAny_holding (wpAny_eqBool_tuple hu (hk _ _ hb') (hk _ _ hb) ?_))
          refine wpAny_bind (wpAny_setState_of x.get x.dat x.fits ?_)
          dsimp only
          by_cases hq : k' = k
          · rw [decide_eq_true hq]
            subst hq
            exact wpAny_pure (h1 _ em b' hb' he)
          · rw [decide_eq_false hq, hsm]
            simp only [Bool.and_false, Bool.false_eq_true, if_false, if_true]
            rw [e2]
            simp only [ei]
            rw [show es[i] = (es[i].1, Value.ref b') from Prod.ext rfl he]
            dsimp only
            refine wpAny_bind ?_
            unfold isSame
            simp only [beq_self_eq_true, if_true]
            refine wpAny_pure (wpAny_bind (wpAny_pure ?_))
            exact ih m hm fuel p' (some p') (by omega) hr' (by omega) e3 e4 rfl
      · rw [show es[i] = (es[i].1, Value.ref b') from Prod.ext rfl he]
        dsimp only
        refine wpAny_bind (wpAny_holding (wpAny_eqBool_tuple hu (hk _ _ hb') (hk _ _ hb) ?_))
        refine wpAny_bind (wpAny_setState_of x.get x.dat x.fits ?_)
        dsimp only
        by_cases hq : k' = k
        · rw [decide_eq_true hq]
          subst hq
          exact wpAny_pure (h1 _ em b' hb' he)
        · rw [decide_eq_false hq, hsm]
          simp only [Bool.and_false, Bool.false_eq_true, if_false, if_true]
          rw [e2]
          simp only [ei]
          rw [show es[i] = (es[i].1, Value.ref b') from Prod.ext rfl he]
          dsimp only
          refine wpAny_bind ?_
          unfold isSame
          simp only [beq_self_eq_true, if_true]
          refine wpAny_pure (wpAny_bind (wpAny_pure ?_))
          exact ih m hm fuel p' (some p') (by omega) hr' (by omega) e3 e4 rfl
theorem wp_byValue {k : Key} {b : Addr} (hk : IsTupleKey (intKind prog w) s.heap k b) {Q : Bool → Shared → Prop} (h : Q true s) : wpAny (model prog w) A (hashByValue 8 (.ref b)) Q E s := by
  have hT := hk.typeIs
  obtain ⟨o, items, n, ho, _, hd, hi⟩ := hk
  unfold hashByValue
  refine wpAny_bind (wpAny_specialOf hT F.slot_tuple_hash.lookup ?_)
  show wpAny _ _ (seqItems? (.ref b) >>= _) Q E s
  refine wpAny_bind (wpAny_seqItems ho hd ?_)
  show wpAny _ _ (forIn items _ _ >>= _) Q E s
  refine wpAny_bind ?_
  rw [← Array.forIn_toList]
  refine wpAny_forIn_list _ (fun rest r s' => r.1 = none ∧ s' = s ∧ ∃ l, ItemsAre (intKind prog w) l rest) _ ?_ ?_ _ _ ⟨rfl, rfl, k, hi⟩
  · rintro v rest r s' ⟨hr, rfl, l, hl⟩
    cases hl with
    | @cons k0 _ ks' _ h1 hl' =>
      obtain ⟨t, rfl⟩ := Value.isInt_shape h1
      show wpAny _ _ (pure true >>= _) _ _ _
      refine wpAny_bind (wpAny_pure ?_)
      exact wpAny_pure ⟨rfl, rfl, ks', hl'⟩
  · rintro ⟨r1, r2⟩ s' ⟨hr, rfl, _⟩
    simp only at hr
    subst hr
    exact wpAny_pure h
def TSet (w : World) (h : Heap) (S : Addr) (ks : List (Addr × Key)) : Prop :=
  ∃ o es ep t, At w h S o es ep t ∧ Els ks es ∧ (∀ b k, (b, k) ∈ ks → ∃ e ∈ es.toList, ∃ b', (b', k) ∈ ks ∧ e.2 = .ref b') ∧ es.size ≤ ks.length
theorem put_get {h : Heap} {o : Obj} {es es' : Array (Int × Value)} {ep : Nat} {t t' : SetTable} (ho : h.get? S = some o) (hd : o.data = .set es ep t) :
    (h.update S (Obj.putSet es' t')).get? S = some { o with data := .set es' (ep + 1) t' } := by
  have := Heap.get?_update_self (Obj.putSet es' t') ho (by rw [putSet_of es' t' hd]; rfl)
  rwa [putSet_of es' t' hd] at this
theorem Els.more {ks : List (Addr × Key)} {es : Array (Int × Value)} {p : Addr × Key} (h : Els ks es) : Els (ks ++ [p]) es := fun e he => by
  obtain ⟨b, k, h1, h2⟩ := h e he
  exact ⟨b, k, List.mem_append_left _ h1, h2⟩
theorem Els.perm {ks : List (Addr × Key)} {es es' : Array (Int × Value)} (h : Els ks es) (p : es'.toList.Perm es.toList) : Els ks es' := fun e he => h e (p.mem_iff.mp he)
theorem size8 {n : Nat} (h : n ≤ 8) : n ≤ sizeLine := by rw [sizeLine_eq]; omega
theorem wp_addIn {ks : List (Addr × Key)} {b : Addr} {k : Key} (hS : TSet w s.heap S ks) (hk : Keys prog w s.heap (ks ++ [(b, k)])) (hl : ks.length < 8) (hu : A.units < cLine) (hx : Int) {Q : Bool → Shared → Prop}
    (h : ∀ r h', Heap.SameBut S s.heap h' → TSet w h' S (ks ++ [(b, k)]) → Q r { s with heap := h' }) : wpAny (model prog w) A (setAddHashed S (.ref b) hx) Q E s := by
  obtain ⟨o, es, ep, t, x, hel, hcov, hsz⟩ := hS
  have hbm : (b, k) ∈ ks ++ [(b, k)] := List.mem_append_right _ (List.mem_singleton.mpr rfl)
  obtain ⟨n0, hn0, hr0⟩ := reach x.tb (Nat.le_of_lt x.room) x.two hx
  have hmask : t.mask ≤ 31 := by rcases x.two with z | z <;> omega
  unfold setAddHashed setAddHashedIn
  refine wpAny_holding (wpAny_bind (wpAny_setState_of x.get x.dat x.fits ?_))
  dsimp only
  rw [show byScan (.ref b) es = false from rfl]
  simp only [Bool.false_eq_true, if_false]
  unfold setSearch
  refine wpAny_bind (wp_search x hk hel.more hbm hu hx ?_ ?_ n0 100000 (t.probeStart hx) none (by unfold turns at hn0; omega) hr0 hn0 rfl (start_in t hx) rfl)
  · intro e he b' hb' he2
    refine wpAny_pure ?_
    have e0 : s = { s with heap := s.heap } := by cases s; rfl
    rw [e0]
    refine h false s.heap (Heap.SameBut.refl S s.heap) ⟨o, es, ep, t, x, hel.more, ?_, by rw [List.length_append]; simp; omega⟩
    intro b2 k2 hm
    rcases List.mem_append.mp hm with z | z
    · obtain ⟨e, h1, b3, h2, h3⟩ := hcov b2 k2 z
      exact ⟨e, h1, b3, List.mem_append_left _ h2, h3⟩
    · have z : (b2, k2) = (b, k) := List.mem_singleton.mp z
      obtain ⟨rfl, rfl⟩ := Prod.mk.inj z
      exact ⟨e, he, b', hb', he2⟩
  · intro j hj hemp
    obtain ⟨ptb, pm, pp, pl, pmv, pp2⟩ := put_tb x.tb hj hemp
    refine wpAny_bind (wpAny_setState_of x.get x.dat x.fits ?_)
    dsimp only
    rw [if_pos (by rw [pp]; exact x.plain)]
    refine wpAny_bind (wp_byValue (hk _ _ hbm) ?_)
    simp only [if_true, Bool.not_false, Bool.true_and]
    generalize hes1 : insertAt es (t.put j).2 (hx, Value.ref b) = es1
    have hp1 : es1.toList.Perm (es.toList ++ [(hx, Value.ref b)]) := by
      rw [← hes1]
      have := insertAt_perm es (t.put j).2 (hx, Value.ref b)
      rwa [Array.toList_push] at this
    have hsz1 : es1.size = es.size + 1 := by
      rw [← Array.length_toList, hp1.length_eq, List.length_append, Array.length_toList]
      rfl
    have hel1 : Els (ks ++ [(b, k)]) es1 := by
      intro e he
      rcases List.mem_append.mp (hp1.mem_iff.mp he) with z | z
      · exact hel.more e z
      · rw [List.mem_singleton.mp z]
        exact ⟨b, k, hbm, rfl⟩
    have hcov1 : ∀ b2 k2, (b2, k2) ∈ ks ++ [(b, k)] → ∃ e ∈ es1.toList, ∃ b', (b', k2) ∈ ks ++ [(b, k)] ∧ e.2 = .ref b' := by
      intro b2 k2 hm
      rcases List.mem_append.mp hm with z | z
      · obtain ⟨e, h1, b3, h2, h3⟩ := hcov b2 k2 z
        exact ⟨e, hp1.mem_iff.mpr (List.mem_append_left _ h1), b3, List.mem_append_left _ h2, h3⟩
      · have z : (b2, k2) = (b, k) := List.mem_singleton.mp z
        obtain ⟨rfl, rfl⟩ := Prod.mk.inj z
        exact ⟨_, hp1.mem_iff.mpr (List.mem_append_right _ (List.mem_singleton.mpr rfl)), b2, hbm, rfl⟩
    have hlen : (ks ++ [(b, k)]).length = ks.length + 1 := by rw [List.length_append]; rfl
    rw [← hsz1] at ptb
    generalize ht1 : (t.put j).1 = t1 at ptb pm pp pl pmv
    have hfit1 : t1.fits es1.size = true := ptb.fits (by rw [pm, hsz1]; exact x.room)
    have hg1 := put_get (es' := es1) (t' := t1) x.get x.dat
    refine wpAny_bind (wpAny_storeSet_of x.get x.dat ?_ (size8 (by omega)))
    have hfill : t1.tooFull = decide ((es.size + 1) * 5 ≥ t.mask * 3) := by
      unfold SetTable.tooFull SetTable.fill
      rw [ptb.size, ptb.dum, pm, hsz1]
      rfl
    rw [hfill]
    have sb1 := Heap.SameBut.update s.heap S (Obj.putSet es1 t1)
    split
    · rename_i hc
      have hc : (es.size + 1) * 5 ≥ t.mask * 3 := of_decide_eq_true hc
      have hm7 : t.mask = 7 ∧ es.size = 4 := by
        rcases x.two with z | z
        · have := x.few z
          exact ⟨z, by omega⟩
        · exfalso; omega
      rw [hm7.2]
      refine wpAny_bind ?_
      unfold setRelay
      refine wpAny_bind (wpAny_setState_of hg1 rfl hfit1 ?_)
      dsimp only
      have hsa : sizeAbove (grown (4 + 1)) = 32 := by decide +kernel
      rw [hsa]
      rw [if_neg (by rw [sizeLine_eq]; decide)]
      have hsh : (es1.map (·.1)).size = es1.size := Array.size_map ..
      obtain ⟨t2, order, el, tb2, mk2, pl2, ld2, pr2⟩ := laid_ok (mask := 31) (finger := t1.finger) (moves := t1.movedTo 31) (led := t1.led) (plain := t1.plain) (.inr rfl) (es1.map (·.1)) (by rw [hsh]; omega)
      have er : t1.relaid (es1.map (·.1)) (grown (4 + 1)) = some (t2, order) := by
        unfold relaid
        rw [hsa]
        exact el
      rw [er]
      rw [hsh] at tb2 pr2
      have hp2 := perm_get (es := es1) pr2
      have hsz2 : (order.filterMap (es1[·]?)).size = es1.size := by
        rw [← Array.length_toList, Array.toList_filterMap, hp2.length_eq, Array.length_toList]
      refine wpAny_bind ?_
      show wpAny (model prog w) A (do
        let es' := order.filterMap (es1[·]?)
        if es'.size != es1.size then unsupported "internal:set-table-lost-an-element"
        pure (es', t2)) _ _ _
      simp only [hsz2, bne_self_eq_false, Bool.false_eq_true, if_false]
      refine wpAny_pure ?_
      have hg2 := put_get (es' := order.filterMap (es1[·]?)) (t' := t2) hg1 rfl
      have hp3 : (order.filterMap (es1[·]?)).toList.Perm es1.toList := by
        rw [Array.toList_filterMap]
        exact hp2
      refine wpAny_storeSet_of hg1 rfl ?_ (size8 (by show (order.filterMap (es1[·]?)).size ≤ 8; omega))
      refine wpAny_pure (h true _ (sb1.trans (Heap.SameBut.update _ S _)) ⟨_, _, ep + 1 + 1, t2, ⟨hg2, x.ex, rfl, by rw [hsz2]; exact tb2, .inr mk2, fun z => by rw [mk2] at z; omega, by omega, by rw [pl2, pp]; exact x.plain, by rw [ld2, pl]; exact x.led⟩, hel1.perm hp3, ?_, by omega⟩)
      intro b2 k2 hm
      obtain ⟨e, h1, h2⟩ := hcov1 b2 k2 hm
      exact ⟨e, hp3.mem_iff.mpr h1, h2⟩
    · rename_i hc
      have hc : ¬ (es.size + 1) * 5 ≥ t.mask * 3 := fun z => hc (decide_eq_true z)
      refine wpAny_pure (h true _ sb1 ⟨_, es1, ep + 1, t1, ⟨hg1, x.ex, rfl, ptb, by rw [pm]; exact x.two, fun z => by rw [pm] at z; omega, by omega, by rw [pp]; exact x.plain, by rw [pl]; exact x.led⟩, hel1, hcov1, by omega⟩)
end
end HS

end
section
namespace HS
open PySem PySem.SetTable PySem.Spec PyProof.Rows
section
variable {prog : Program} {w : World} {A : Around} {R : Result → Shared → Prop} {I : Addr} {fp wr : List Addr} {G : Array GenState → Array GenState → Prop} {n : Nat} {P : Nat → Value → Prop} {St : Nat → Shared → Prop}
theorem TSet.at {h h' : Heap} {S : Addr} {ks : List (Addr × Key)} (x : TSet w h S ks) (e : ∀ o, h.get? S = some o → h'.get? S = some o) : TSet w h' S ks := by
  obtain ⟨o, es, ep, t, a, r⟩ := x
  exact ⟨o, es, ep, t, ⟨e _ a.get, a.ex, a.dat, a.tb, a.two, a.few, a.eight, a.plain, a.led⟩, r⟩
theorem Keys.at {h h' : Heap} {ks : List (Addr × Key)} (x : Keys prog w h ks) (e : ∀ b k, (b, k) ∈ ks → ∀ o, h.get? b = some o → h'.get? b = some o) : Keys prog w h' ks := fun b k hb => by
  obtain ⟨o, items, n, ho, r⟩ := x b k hb
  exact ⟨o, items, n, e b k hb o ho, r⟩
def firstN (hd : Nat → Addr × Key) (i : Nat) : List (Addr × Key) := (List.range i).map hd
theorem firstN_succ (hd : Nat → Addr × Key) (i : Nat) : firstN hd (i + 1) = firstN hd i ++ [hd i] := by
  unfold firstN
  rw [List.range_succ, List.map_append]
  rfl
theorem firstN_sub {hd : Nat → Addr × Key} {i n : Nat} (h : i ≤ n) {x : Addr × Key} (hx : x ∈ firstN hd i) : x ∈ firstN hd n := by
  obtain ⟨j, hj, e⟩ := List.mem_map.mp hx
  exact List.mem_map.mpr ⟨j, List.mem_range.mpr (Nat.lt_of_lt_of_le (List.mem_range.mp hj) h), e⟩
theorem fill_loop (W : WalksS prog w A.in1 I fp wr G n P St) (S : Addr) (hSf : S ∉ fp) (hd : Nat → Addr × Key) (hval : ∀ i v, P i v → v = .ref (hd i).1) (hn : n ≤ 8) (hu : A.units + 1 < cLine)
    (hout : ∀ b k, (b, k) ∈ firstN hd n → b ∉ S :: wr) :
    ∀ (k i : Nat) (s : Shared), n - i = k → i ≤ n → St i s → TSet w s.heap S (firstN hd i) → Keys prog w s.heap (firstN hd n) →
      (∀ s', Moved (S :: wr) G s s' → TSet w s'.heap S (firstN hd n) → R (.ok (.ret .none)) s') →
      codeAny (model prog w) A (.builtin "set.update.loop" ⟨[.ref S, .ref I], []⟩) R s := by
  have nSw : S ∉ wr := fun z => hSf (W.sub _ z)
  have up : ∀ b ∈ wr, b ∈ S :: wr := fun b z => List.mem_cons_of_mem _ z
  intro k
  induction k with
  | zero =>
    intro i s hk hi hst hT hK hR
    obtain rfl : i = n := by omega
    refine codeAny_builtin PyProof.Rows.F.entry_set_update_loop ?_
    rw [Around.under_plainId PyProof.Rows.F.plain_set_update_loop _]
    show wpAny _ A.in1 (pyNext (.ref I) >>= _) _ _ s
    refine wpAny_bind (W.done s _ _ hst fun s' mv => ?_)
    exact wpAny_pure (hR s' (mv.mono up) (hT.at fun o e => mv.heap S o nSw e))
  | succ k ih =>
    intro i s hk hi hst hT hK hR
    have lt : i < n := by omega
    refine codeAny_builtin PyProof.Rows.F.entry_set_update_loop ?_
    rw [Around.under_plainId PyProof.Rows.F.plain_set_update_loop _]
    show wpAny _ A.in1 (pyNext (.ref I) >>= _) _ _ s
    refine wpAny_bind (W.item i s _ _ lt hst fun v s1 hP hst1 mv => ?_)
    have ev := hval i v hP
    subst ev
    have hT1 : TSet w s1.heap S (firstN hd i) := hT.at fun o e => mv.heap S o nSw e
    have hK1 : Keys prog w s1.heap (firstN hd n) := hK.at fun b k hb o e => mv.heap b o (fun z => hout b k hb (up _ z)) e
    have hin : hd i ∈ firstN hd n := List.mem_map.mpr ⟨i, List.mem_range.mpr lt, rfl⟩
    show wpAny _ A.in1 (holding [Value.ref (hd i).1] (setAdd S (.ref (hd i).1)) >>= _) _ _ s1
    refine wpAny_bind (wpAny_holding ?_)
    unfold setAdd
    refine wpAny_holding (wpAny_bind (wpAny_pyHash_tuple (knd := intKind prog w) (ks := (hd i).2) hu (hK1 _ _ hin) ?_))
    have hlen : (firstN hd i).length = i := by unfold firstN; rw [List.length_map, List.length_range]
    refine wp_addIn (s := { s1 with toks := s1.toks + ((hd i).2.length + 1) }) (k := (hd i).2) hT1 (fun b k hb => hK1 b k (firstN_sub (i := i + 1) lt (by rw [firstN_succ]; exact hb))) (by omega) hu _ fun r h' sb hT2 => ?_
    rw [← firstN_succ] at hT2
    refine wpAny_pure ⟨plainId_quiet PyProof.Rows.F.plain_set_update_loop _, ih (i + 1) _ (by omega) lt (W.frame _ s1 h' (s1.toks + ((hd i).2.length + 1)) hst1 (Nat.le_add_right _ _) fun b hb o e => ?_) hT2 (hK1.at fun b k hb o e => ?_) fun s2 mv2 hT3 => ?_⟩
    · rw [sb.2 b fun z => hSf (z ▸ hb)]; exact e
    · show h'.get? b = some o
      rw [sb.2 b fun z => hout b k hb (z ▸ List.mem_cons_self)]; exact e
    · refine hR s2 (Moved.trans W.gtrans ((mv.mono up).then_heap (Nat.le_add_right _ _) fun b o hb e => ?_) mv2) hT3
      rw [sb.2 b fun z => hb (z ▸ List.mem_cons_self)]; exact e
end
section
variable {prog : Program} {w : World} {A : Around} {E : Value → Shared → Prop} {s : Shared}
theorem code_new_set (a : Value) {Q1 : Value → Shared → Prop}
    (h : Q1 (.ref s.heap.objs.size) { s with heap := s.heap.push { cls := .type "set", dict := none, data := .set #[] 0 (.fresh 0 0 (!byT w)) } }) :
    codeAny (model prog w) A (.call (.builtin "set.__new__") ⟨[.type "set", a], []⟩) (wants Q1 E) s := by
  refine codeAny_of_tree ?_
  show wpAny _ A.in1 (do checkBuiltinCall "set.__new__" ⟨[Value.type "set", a], []⟩; again (.builtin "set.__new__" ⟨[Value.type "set", a], []⟩)) _ _ s
  refine wpAny_bind (wpAny_of_eq (PySem.F.newCall_set_1 a) (wpAny_pure ⟨plainId_quiet PySem.F.plain_set_new _, codeAny_builtin PySem.F.entry_set_new ?_⟩))
  rw [Around.under_plainId PySem.F.plain_set_new _]
  unfold Builtin.«set.__new__» Builtin.Frozenset.newClass
  have hsub := PySem.sub_set_self
  obtain ⟨hp, g, d, tk, os⟩ := s
  dsimp only at h ⊢
  wp_walk
  refine wpAny_askSetting (wpAny_pure ?_)
  dsimp only
  simp only [newObj]
  refine wpAny_bind (wpAny_alloc (wpAny_pure ?_))
  exact wpAny_pure h
end
end HS

end
section
namespace HS
open PySem PySem.SetTable PySem.Spec PyProof.Rows
section
variable {prog : Program} {w : World} {A : Around} {E : Value → Shared → Prop} {s : Shared}
def newSetObj (w : World) : Obj := { cls := .type "set", dict := none, data := .set #[] 0 (.fresh 0 0 (!byT w)) }
theorem tset_new (h : Heap) (S : Addr) (e : h.get? S = some (newSetObj w)) : TSet w h S [] := by
  refine ⟨_, #[], 0, _, ⟨e, ⟨rfl, rfl, rfl⟩, rfl, ⟨rfl, rfl, ?_, ?_⟩, .inl rfl, fun _ => by decide, by decide, rfl, rfl⟩, ?_, ?_, by decide⟩
  · intro i k _ hk
    exact absurd hk (Nat.not_lt_zero _)
  · intro i hi
    exact absurd hi (Nat.not_lt_zero _)
  · intro e he
    exact absurd he (by simp)
  · intro b k hb
    exact absurd hb (by simp)
theorem call_set_tuples {l : Addr} {items : Array Value} {hd : Nat → Addr × Key} {Q : Value → Shared → Prop} (hh : A.handled = none) (hu : A.units + 10 < cLine) (hl : s.heap.IsList l items) (hi : ∀ (i : Nat) (v : Value), items[i]? = some v → v = Value.ref (hd i).1) (hn : items.size ≤ 8)
    (hK : Keys prog w s.heap (firstN hd items.size))
    (h : ∀ (h' : Heap) (tk : Nat), TSet w h' s.heap.objs.size (firstN hd items.size) → (∀ b o, b < s.heap.objs.size → s.heap.get? b = some o → h'.get? b = some o) → Q (.ref s.heap.objs.size) { s with heap := h', toks := tk }) :
    wpAny (model prog w) A (call (.type "set") [.ref l]) Q E s := by
  obtain ⟨c, tl, hmro⟩ := PySem.F.called_set.mro
  have hmade := PySem.F.called_set.made
  have hsub := PySem.F.called_set.sub
  refine wpAny_call (codeAny_of_tree ?_)
  show wpAny _ _ (callAny (.type "set") _) _ _ _
  refine wpAny_pure ⟨Code.quiet_builtin _ (by decide +kernel), codeAny_builtin PySem.F.entry_type_call ?_⟩
  rw [Around.under_plain (weight_type_call_type "set" [.ref l] []) rfl]
  have not_type := PySem.F.called_set.notType
  have can_make := PySem.F.called_set.canCreate
  have checked := PySem.F.typeCall_set_1 (.ref l)
  repeat (any_goals (first | assumption | wp_step))
  refine codeAny_mono (code_new_set (.ref l) (E := E) (Q1 := fun obj s1 => obj = .ref s.heap.objs.size ∧ s1 = { s with heap := s.heap.push (newSetObj w) }) ⟨rfl, rfl⟩) fun r s1 hr => ?_
  cases r with
  | error e => exact hr
  | ok fl =>
    cases fl with
    | ret obj =>
      obtain ⟨rfl, rfl⟩ := hr
      have hS0 : (s.heap.push (newSetObj w)).get? s.heap.objs.size = some (newSetObj w) := Heap.get?_push_size _ rfl
      have hT0 : Shared.TypeIs { s with heap := s.heap.push (newSetObj w) } (.ref s.heap.objs.size) "set" := ⟨_, hS0, rfl⟩
      have look := PySem.F.called_set.init.lookup
      have bind := PySem.F.called_set.init.bind (.ref s.heap.objs.size)
      repeat (any_goals (first | assumption | wp_step))
      refine codeAny_mono (codeAny_call_builtin (R := wants (fun r s2 => r = .none ∧ ∃ h' tk, s2 = { s with heap := h', toks := tk } ∧ TSet w h' s.heap.objs.size (firstN hd items.size) ∧
          (∀ b o, b < s.heap.objs.size → s.heap.get? b = some o → h'.get? b = some o)) E) PySem.F.called_set.init.plain PySem.F.entry_set_init (check_set_init_1 hT0 ?_)) fun r2 s2 hr2 => ?_
      · obtain ⟨ol, hol, hcl, nl, hdl⟩ := hl
        obtain ⟨ocls, odict, odata, oslots⟩ := ol
        simp only at hcl hdl
        subst hcl; subst hdl
        have hol1 : (s.heap.push (newSetObj w)).get? l = some { cls := .type "list", dict := odict, data := .seq items nl, slots := oslots } := Heap.get?_push_of_some _ hol
        have no_set := PySem.F.sub_list_set
        have no_frozen := PySem.F.sub_list_frozenset
        have no_dict : (Value.type "list" == Value.type "dict") = false := by decide
        have hl1 : (s.heap.push (newSetObj w)).IsList l items := ⟨_, hol1, rfl, nl, rfl⟩
        have hS0' : (s.heap.push (newSetObj w)).get? s.heap.objs.size = some { cls := .type "set", dict := none, data := .set #[] 0 (.fresh 0 0 (!byT w)) } := hS0
        unfold Builtin.«set.__init__» noKeywords Builtin.Frozenset.updateFrom
        generalize hPI : pyIter = PI
        wp_walk
        subst hPI
        refine wpAny_pyIter_list hl1 ?_
        refine wpAny_bind (wpAny_runValue ?_)
        have l_lt : l < s.heap.objs.size := Heap.lt_size hol
        have hh3 : A.in1.in1.in1.handled = none := by simp [hh]
        have sz : (s.heap.push (newSetObj w)).objs.size = s.heap.objs.size + 1 := Heap.size_push ..
        have l_ne : l ≠ (s.heap.push (newSetObj w)).objs.size := by rw [sz]; exact Nat.ne_of_lt (Nat.lt_succ_of_lt l_lt)
        have S_out : s.heap.objs.size ∉ [(s.heap.push (newSetObj w)).objs.size, l] := by
          rw [sz]
          intro z
          rcases (by simpa using z : s.heap.objs.size = s.heap.objs.size + 1 ∨ s.heap.objs.size = l) with y | y
          · exact Nat.ne_of_lt (Nat.lt_succ_self _) y
          · exact Nat.ne_of_gt l_lt y
        have key_lt : ∀ b k, (b, k) ∈ firstN hd items.size → b < s.heap.objs.size := fun b k hb => by
          obtain ⟨o, _, _, ho, _⟩ := hK b k hb
          exact Heap.lt_size ho
        refine fill_loop ((Walks.list hh3 _ l l_ne items).toS) s.heap.objs.size S_out hd hi hn (by show A.units + 1 + 1 + 1 < cLine; omega) (fun b k hb z => ?_) (items.size - 0) 0 _ (by omega) (Nat.zero_le _)
          ⟨⟨_, Heap.get?_push_size _ rfl, rfl, rfl⟩, (hl1.push _)⟩ ?start ?keys ?fin
        · have b_lt := key_lt b k hb
          rcases (by simpa using z : b = s.heap.objs.size ∨ b = (s.heap.push (newSetObj w)).objs.size) with y | y
          · exact Nat.ne_of_lt b_lt y
          · rw [sz] at y; exact Nat.ne_of_lt (Nat.lt_succ_of_lt b_lt) y
        case start => exact tset_new _ _ (Heap.get?_push_of_some _ hS0)
        case keys => exact hK.at fun b k hb o e => Heap.get?_push_of_some _ (Heap.get?_push_of_some _ e)
        case fin =>
          intro s' mv hT'
          obtain ⟨h', g', d', tk', os'⟩ := s'
          have eg : g' = s.gens := mv.gens
          have ed : d' = s.drawn := mv.drawn
          have eo : os' = s.os := mv.os
          subst eg; subst ed; subst eo
          show wpAny _ _ _ _ _ _
          refine wpAny_pure ?_
          show wpAny _ _ (ret Value.none) _ _ _
          refine wpAny_pure ⟨rfl, h', tk', rfl, hT', fun b o hb e => ?_⟩
          refine mv.heap b o (fun z => ?_) (Heap.get?_push_of_some _ (Heap.get?_push_of_some _ e))
          rcases (by simpa using z : b = s.heap.objs.size ∨ b = (s.heap.push (newSetObj w)).objs.size) with y | y
          · exact Nat.ne_of_lt hb y
          · rw [sz] at y; exact Nat.ne_of_lt (Nat.lt_succ_of_lt hb) y
      · cases r2 with
        | error e => exact hr2
        | ok fl2 =>
          cases fl2 with
          | ret r =>
            obtain ⟨rfl, h', tk, rfl, hT', hk'⟩ := hr2
            repeat (any_goals (first | assumption | wp_step))
            exact h _ _ hT' hk'
          | _ => exact hr2.elim
    | _ => exact hr.elim
end
end HS

end
section
namespace HS
open PySem PySem.SetTable
theorem entry_iter : entryFor table "set.__iter__" = some Builtin.«frozenset.__iter__» := entryFor_alias (id' := "frozenset.__iter__") (by kernel_rfl) rfl (by decide +kernel) (by kernel_rfl)
theorem slot_next : Slot "set_iterator" "__next__" "set_iterator.__next__" :=
  Slot.of (owner := "set_iterator") (n := "__next__") (by rw [typeLookup_type, builtinLookup_eq_fast]; kernel_rfl) (by decide +kernel) (by decide +kernel) (by decide +kernel)
    (by first | exact Or.inl (by decide +kernel) | exact Or.inr (by decide +kernel)) (by rw [isSubtype_type]; kernel_rfl)
theorem entry_next : entryFor table "set_iterator.__next__" = some Builtin.«set_iterator.__next__» := entryFor_of_tree (by kernel_rfl)
theorem owner_it : Manifest.owners.lookup (String.ofList ['r', 'o', 't', 'a', 'r', 'e', 't', 'i', '_', 't', 'e', 's'].reverse) = some Manifest.sig_set_iterator := by kernel_rfl
theorem args_next (a : Value) : argsOk "set_iterator.__next__" ⟨[a], []⟩ := by
  unfold argsOk
  rw [signature?_of (id := "set_iterator.__next__") (n := ['_', '_', 't', 'x', 'e', 'n', '_', '_']) (o := ['r', 'o', 't', 'a', 'r', 'e', 't', 'i', '_', 't', 'e', 's']) (by kernel_rfl) owner_it]
  kernel_rfl
def itObj (S : Addr) (slot i n ep : Nat) : Obj := { cls := .type "set_iterator", dict := none, data := .fields #[.int slot 0, .int i 0, .ref S, .int n 0, .int ep 0], slots := #[] }
section
variable {prog : Program} {w : World} {A : Around} {E : Value → Shared → Prop} {s : Shared} {S it : Addr} {o : Obj} {es : Array (Int × Value)} {ep : Nat} {t : SetTable}
theorem erase_perm {α : Type} : ∀ (l : List α) (i : Nat) (h : i < l.length), (l[i] :: l.eraseIdx i).Perm l
  | a :: l, 0, _ => List.Perm.refl _
  | a :: l, i + 1, h => (List.Perm.swap a (l[i]'(by simpa using h)) _).trans ((erase_perm l i (by simpa using h)).cons a)
theorem pick_go {α : Type} (next : Nat → Nat) : ∀ (fuel k : Nat) (left : List α) (out : Array α), left.length = fuel → (pickOrder.go next fuel k left out).toList.Perm (out.toList ++ left)
  | 0, k, left, out, h => by
    have : left = [] := List.eq_nil_of_length_eq_zero h
    subst this
    unfold pickOrder.go
    rw [List.append_nil]
  | fuel + 1, k, left, out, h => by
    unfold pickOrder.go
    have hlt : next k % left.length < left.length := Nat.mod_lt _ (by omega)
    rw [List.getElem?_eq_getElem hlt]
    refine (pick_go next fuel (k + 1) _ _ (by rw [List.length_eraseIdx, if_pos hlt]; omega)).trans ?_
    rw [Array.toList_push, List.append_assoc]
    refine List.Perm.append_left _ ?_
    exact erase_perm _ _ hlt
theorem pick_perm {α : Type} (next : Nat → Nat) (xs : Array α) : (pickOrder next xs).toList.Perm xs.toList := by
  have := pick_go next xs.size 0 xs.toList #[] (Array.length_toList)
  rw [show (#[] : Array α).toList = [] from rfl, List.nil_append] at this
  exact this
def ordOf (w : World) (S : Addr) (es : Array (Int × Value)) (ep : Nat) : Array (Int × Value) := if byT w = true then pickOrder (w.params.setOrder S ep) es else es
theorem ord_perm (w : World) (S : Addr) (es : Array (Int × Value)) (ep : Nat) : (ordOf w S es ep).toList.Perm es.toList := by
  unfold ordOf
  split
  · exact pick_perm _ _
  · exact List.Perm.refl _
theorem wp_next_of {slot i : Nat} (x : At w s.heap S o es ep t) (hs : byT w = false → below t.place slot = i) {Q : Option (Value × Nat) → Shared → Prop}
    (h : ∀ slot', (byT w = false → i < es.size → below t.place slot' = i + 1) → Q (((ordOf w S es ep)[i]?).map fun e => (e.2, slot')) s) : wpAny (model prog w) A (setNext S slot i ep) Q E s := by
  unfold setNext
  refine wpAny_bind (wpAny_setState_of x.get x.dat x.fits ?_)
  dsimp only
  unfold setsByText
  refine wpAny_bind (wpAny_bind (wpAny_askSetting (wpAny_pure ?_)))
  show wpAny _ _ (if byT w = true then _ else _) _ _ s
  cases hb : byT w with
  | true =>
    rw [if_pos rfl]
    simp only [bne_self_eq_false, Bool.false_eq_true, if_false]
    refine wpAny_bind ?_
    unfold setWalk
    refine wpAny_bind (wpAny_setState_of x.get x.dat x.fits ?_)
    dsimp only
    unfold setsByText
    refine wpAny_bind (wpAny_bind (wpAny_askSetting (wpAny_pure ?_)))
    show wpAny _ _ (if byT w = true then _ else _) _ _ s
    rw [if_pos hb]
    refine wpAny_bind (wpAny_askSetting (wpAny_pure (wpAny_pure ?_)))
    have := h slot (fun z => by rw [hb] at z; cases z)
    unfold ordOf at this
    rw [if_pos hb] at this
    exact this
  | false =>
    rw [if_neg (by decide)]
    show wpAny _ _ (if (!t.plain && decide (es.size > 1)) = true then _ else _) _ _ s
    rw [x.plain, if_neg (by simp)]
    refine wpAny_bind ?_
    show wpAny _ _ (if (!t.led && !es.isEmpty) = true then _ else _) _ _ s
    rw [x.led, hb, if_neg (by simp)]
    refine wpAny_pure (wpAny_pure ?_)
    have hi := hs hb
    rw [hi]
    by_cases hlt : i < es.size
    · have hp : i < t.place.size := by rw [x.tb.size]; exact hlt
      have e1 : t.place[i]? = some (t.place.getD i 0) := by
        rw [Array.getElem?_eq_getElem hp]
        simp [Array.getD, hp]
      have := h (t.place.getD i 0 + 1) (fun _ _ => below_next x.tb hlt)
      unfold ordOf at this
      rw [if_neg (by rw [hb]; decide), Array.getElem?_eq_getElem hlt] at this
      rw [e1, Array.getElem?_eq_getElem hlt]
      exact this
    · have e1 : es[i]? = none := Array.getElem?_eq_none (by omega)
      have := h 0 (fun _ z => absurd z hlt)
      unfold ordOf at this
      rw [if_neg (by rw [hb]; decide), e1] at this
      rw [e1]
      exact this
theorem it_type {slot i n : Nat} (hit : s.heap.get? it = some (itObj S slot i n ep)) : s.TypeIs (.ref it) "set_iterator" := ⟨_, hit, rfl⟩
theorem wp_it_next {slot i : Nat} {Q : Option Value → Shared → Prop} (x : At w s.heap S o es ep t) (hit : s.heap.get? it = some (itObj S slot i es.size ep)) (hs : byT w = false → below t.place slot = i) (hlt : i < es.size)
    (h : ∀ h' slot' v, ((ordOf w S es ep)[i]?).map (·.2) = some v → h'.get? it = some (itObj S slot' (i + 1) es.size ep) → (byT w = false → below t.place slot' = i + 1) → Heap.SameBut it s.heap h' → Q (some v) { s with heap := h' }) :
    wpAny (model prog w) A (pyNext (.ref it)) Q E s := by
  unfold pyNext
  refine wpAny_bind (wpAny_attempt (wpAny_callSpecial?_slot (name := Str.ofString "__next__") (it_type hit) slot_next (wpAny_call_entry slot_next (it_type hit) entry_next ?_ (args_next _))))
  show wpAny _ _ (fieldsOf (.ref it) >>= _) _ _ s
  refine wpAny_bind (wpAny_fieldsOf hit rfl ?_)
  show wpAny _ _ (setEntries S >>= _) _ _ s
  refine wpAny_bind (wpAny_setEntries_of x.get x.dat x.fits ?_)
  simp only [bne_self_eq_false, Bool.false_eq_true, if_false]
  refine wpAny_bind ?_
  rw [Int.toNat_natCast, Int.toNat_natCast, Int.toNat_natCast]
  have hsz : (ordOf w S es ep).size = es.size := by rw [← Array.length_toList, (ord_perm w S es ep).length_eq, Array.length_toList]
  have hi : i < (ordOf w S es ep).size := by omega
  refine wp_next_of x hs fun slot' hs' => ?_
  rw [Array.getElem?_eq_getElem hi]
  dsimp only [Option.map]
  refine wpAny_bind (wpAny_setField_rec hit (by simp) fun h1 g1 sb1 => ?_)
  refine wpAny_bind (wpAny_setField_rec g1 (by simp) fun h2 g2 sb2 => ?_)
  refine wpAny_pure ⟨_, rfl, wpAny_pure (h h2 slot' _ ?_ ?_ (fun z => hs' z hlt) (sb1.trans sb2))⟩
  · rw [Array.getElem?_eq_getElem hi]
    rfl
  · rw [g2]
    rfl
theorem wp_it_end {slot : Nat} {Q : Option Value → Shared → Prop} (hh : A.handled = none) (x : At w s.heap S o es ep t) (hit : s.heap.get? it = some (itObj S slot es.size es.size ep)) (hs : byT w = false → below t.place slot = es.size)
    (h : ∀ h', Heap.ExtBut it s.heap h' → Q none { s with heap := h' }) : wpAny (model prog w) A (pyNext (.ref it)) Q E s := by
  unfold pyNext
  refine wpAny_bind (wpAny_attempt (wpAny_callSpecial?_slot (name := Str.ofString "__next__") (it_type hit) slot_next (wpAny_call_entry slot_next (it_type hit) entry_next ?_ (args_next _))))
  show wpAny _ _ (fieldsOf (.ref it) >>= _) _ _ s
  refine wpAny_bind (wpAny_fieldsOf hit rfl ?_)
  show wpAny _ _ (setEntries S >>= _) _ _ s
  refine wpAny_bind (wpAny_setEntries_of x.get x.dat x.fits ?_)
  simp only [bne_self_eq_false, Bool.false_eq_true, if_false]
  refine wpAny_bind ?_
  rw [Int.toNat_natCast, Int.toNat_natCast, Int.toNat_natCast]
  have hsz : (ordOf w S es ep).size = es.size := by rw [← Array.length_toList, (ord_perm w S es ep).length_eq, Array.length_toList]
  refine wp_next_of x hs fun slot' hs' => ?_
  rw [Array.getElem?_eq_none (by omega)]
  dsimp only [Option.map]
  refine wpAny_bind (wpAny_setField_rec hit (by simp) fun h1 g1 sb1 => ?_)
  refine wpAny_bind ?_
  simp only [newExc, newTuple]
  refine wpAny_bind (wpAny_newObj_type ?_ (by size_fits))
  refine wpAny_bind (m := firstArgMember _ _) (wpAny_of_eq (a := Value.none) (by first | rfl | (simp only [firstArgMember]; rfl)) ?_)
  refine wpAny_newObj_type ?_ (by size_fits)
  simp only [raiseNew]
  refine wpAny_bind (wpAny_handled ?_)
  first | rw [show A.in1.handled = none from hh] | rw [hh]
  refine wpAny_bind (wpAny_pure (wpAny_throw ?_))
  refine wpAny_bind (wpAny_isInstance (T := "StopIteration") (b := true) ⟨_, Heap.get?_push_size _ rfl, rfl⟩ isSubtype_stop ?_)
  exact wpAny_pure (h _ ((sb1.extBut.push _).push _))
theorem wp_iter {Q : Value → Shared → Prop} (x : At w s.heap S o es ep t) (h : Q (.ref s.heap.objs.size) { s with heap := s.heap.push (itObj S 0 0 es.size ep) }) : wpAny (model prog w) A (pyIter (.ref S)) Q E s := by
  have hT : s.TypeIs (.ref S) "set" := ⟨o, x.get, x.ex.1⟩
  refine wpAny_pyIter_slot hT F.slot_set_iter (wpAny_call_entry F.slot_set_iter hT entry_iter ?_ (F.args_set_iter_1 _))
  show wpAny _ _ (Builtin.Frozenset.sizeOf S >>= _) _ _ s
  unfold Builtin.Frozenset.sizeOf
  refine wpAny_bind (wpAny_bind (wpAny_setEntries_of x.get x.dat x.fits (wpAny_pure ?_)))
  unfold setDrawn
  refine wpAny_bind (wpAny_bind (wpAny_setState_of x.get x.dat x.fits ?_))
  dsimp only
  unfold setsByText
  refine wpAny_bind (wpAny_bind (wpAny_askSetting (wpAny_pure (wpAny_pure ?_))))
  show wpAny _ _ (if (!(_) && (!t.plain && decide (es.size > 1))) = true then _ else _) _ _ s
  rw [x.plain, if_neg (by simp)]
  refine wpAny_bind (wpAny_pure ?_)
  refine wpAny_bind (wpAny_setEpoch_of x.get x.dat x.fits ?_)
  refine wpAny_bind (wpAny_newObj_type (wpAny_pure ⟨_, rfl, "set_iterator", _, ⟨_, Heap.get?_push_size _ rfl, rfl⟩, slot_next.lookup, ?_⟩))
  exact h
end
end HS

end
section
namespace HS
open PySem PySem.SetTable PyProof.Rows
theorem slot_it_iter : Slot "set_iterator" "__iter__" "set_iterator.__iter__" :=
  Slot.of (owner := "set_iterator") (n := "__iter__") (by rw [typeLookup_type, builtinLookup_eq_fast]; kernel_rfl) (by decide +kernel) (by decide +kernel) (by decide +kernel)
    (by first | exact Or.inl (by decide +kernel) | exact Or.inr (by decide +kernel)) (by rw [isSubtype_type]; kernel_rfl)
theorem entry_it_iter : entryFor table "set_iterator.__iter__" = some Builtin.«dict_keyiterator.__iter__» := entryFor_alias (id' := "dict_keyiterator.__iter__") (by kernel_rfl) rfl (by decide +kernel) (by kernel_rfl)
theorem args_it_iter (a : Value) : argsOk "set_iterator.__iter__" ⟨[a], []⟩ := by
  unfold argsOk
  rw [signature?_of (id := "set_iterator.__iter__") (n := ['_', '_', 'r', 'e', 't', 'i', '_', '_']) (o := ['r', 'o', 't', 'a', 'r', 'e', 't', 'i', '_', 't', 'e', 's']) (by kernel_rfl) owner_it]
  kernel_rfl
theorem split_len : splitId "set.__len__" = some ("set", "__len__") := by kernel_rfl
section
variable {prog : Program} {w : World} {A : Around} {E : Value → Shared → Prop} {s : Shared} {S it : Addr} {o : Obj} {es : Array (Int × Value)} {ep : Nat} {t : SetTable}
theorem wp_it_iter {slot i n : Nat} {Q : Value → Shared → Prop} (hit : s.heap.get? it = some (itObj S slot i n ep)) (h : Q (.ref it) s) : wpAny (model prog w) A (pyIter (.ref it)) Q E s := by
  refine wpAny_pyIter_slot (it_type hit) slot_it_iter (wpAny_call_entry slot_it_iter (it_type hit) entry_it_iter ?_ (args_it_iter _))
  show wpAny _ _ (ret (.ref it)) _ _ s
  exact wpAny_pure ⟨_, rfl, "set_iterator", _, it_type hit, slot_next.lookup, h⟩
theorem At.at {h h' : Heap} (x : At w h S o es ep t) (e : ∀ o, h.get? S = some o → h'.get? S = some o) : At w h' S o es ep t := ⟨e _ x.get, x.ex, x.dat, x.tb, x.two, x.few, x.eight, x.plain, x.led⟩
def Stands (w : World) (S it : Addr) (o : Obj) (es : Array (Int × Value)) (ep : Nat) (t : SetTable) (i : Nat) (h : Heap) : Prop :=
  At w h S o es ep t ∧ ∃ slot, h.get? it = some (itObj S slot i es.size ep) ∧ (byT w = false → below t.place slot = i)
theorem set_walks (hh : A.handled = none) (hne : S ≠ it) : Walks prog w A it [it, S] [it] es.size (fun i v => ((ordOf w S es ep)[i]?).map (·.2) = some v) (Stands w S it o es ep t) where
  sub := fun b hb => by
    have : b = it := by simpa using hb
    rw [this]
    exact List.mem_cons_self
  frame := fun i h h' ⟨x, slot, e1, e2⟩ hk => ⟨x.at fun o e => hk S (by simp) o e, slot, hk it (by simp) _ e1, e2⟩
  item := fun i s Q E hi ⟨x, slot, e1, e2⟩ hQ => by
    refine wp_it_next x e1 e2 hi fun h' slot' v hv g hs sb => ?_
    exact hQ v h' s.toks hv ⟨x.at fun o e => by rw [sb.2 S hne]; exact e, slot', g, hs⟩ fun b ob hb e => by
      rw [sb.2 b fun z => hb (by rw [z]; exact List.mem_cons_self)]
      exact e
  done := fun s Q E ⟨x, slot, e1, e2⟩ hQ => by
    refine wp_it_end hh x e1 e2 fun h' xb => ?_
    exact hQ h' s.toks fun b ob hb e => xb b ob (fun z => hb (by rw [z]; exact List.mem_cons_self)) e
  self := fun i s Q E ⟨x, slot, e1, e2⟩ hQ => wp_it_iter e1 hQ
theorem acc_eq {acc : Array Value} (h : ItemsOf (fun i v => ((ordOf w S es ep)[i]?).map (·.2) = some v) acc es.size) : acc.toList = (ordOf w S es ep).toList.map (·.2) := by
  have hsz : (ordOf w S es ep).size = es.size := by rw [← Array.length_toList, (ord_perm w S es ep).length_eq, Array.length_toList]
  apply List.ext_getElem?
  intro i
  rw [Array.getElem?_toList, List.getElem?_map, Array.getElem?_toList]
  by_cases hi : i < acc.size
  · exact (h.2 i acc[i] (Array.getElem?_eq_getElem hi)).symm ▸ Array.getElem?_eq_getElem hi
  · rw [Array.getElem?_eq_none (by omega), Array.getElem?_eq_none (by rw [hsz, ← h.1]; omega)]
    rfl
theorem ite_yes {α : Type} {c : Prop} [Decidable c] {m m' : Sem α} {M : Model} {Q : α → Shared → Prop} (hc : c) (h : wpAny M A m Q E s) : wpAny M A (if c then m else m') Q E s := by
  rw [if_pos hc]
  exact h
theorem wp_collect {Q : List Value → Shared → Prop} (hh : A.handled = none) (x : At w s.heap S o es ep t)
    (h : ∀ (h' : Heap) (tk : Nat), s.heap.objs.size < h'.objs.size → (∀ b ob, s.heap.get? b = some ob → h'.get? b = some ob) → Q ((ordOf w S es ep).toList.map (·.2)) { s with heap := h', toks := tk }) : wpAny (model prog w) A (collect (.ref S)) Q E s := by
  have S_lt : S < s.heap.objs.size := Heap.lt_size x.get
  have nLS : s.heap.objs.size ≠ S := Nat.ne_of_gt S_lt
  unfold collect
  refine wpAny_bind (wpAny_runValue (codeAny_builtin PySem.F.entry_proto_collect ?_))
  rw [Around.under_plainId PySem.F.plain_proto_collect _]
  show wpAny _ A.in1 (newList [] >>= fun l => again (.builtin "list.__iadd__" ⟨[l, Value.ref S], []⟩)) _ _ s
  refine wpAny_bind (wpAny_newObj_type ?_)
  refine wpAny_pure ⟨plainId_quiet PySem.F.plain_list_iadd _, codeAny_builtin PySem.F.entry_list_iadd ?_⟩
  rw [Around.under_plainId PySem.F.plain_list_iadd _]
  show wpAny _ A.in1 (Builtin.List.listExtendWith (.ref s.heap.objs.size) (.ref S) (.ref s.heap.objs.size)) _ _ _
  unfold Builtin.List.listExtendWith
  have x1 : At w (s.heap.push { cls := .type "list", data := .seq ([] : List Value).toArray }) S o es ep t := x.at fun o e => Heap.get?_push_of_some _ e
  have hT1 : Shared.TypeIs { s with heap := s.heap.push { cls := .type "list", data := .seq ([] : List Value).toArray } } (.ref S) "set" := ⟨o, x1.get, x1.ex.1⟩
  refine wpAny_bind (wpAny_typeOf hT1 ?_)
  have c1 : Builtin.List.listSameRef (.ref s.heap.objs.size) (.ref S) = false := by simp [Builtin.List.listSameRef, nLS]
  have c2 : (Value.type "set" == Value.type "list") = false := by decide
  have c3 : (Value.type "set" == Value.type "tuple") = false := by decide
  simp only [c1, c2, c3, Bool.or_false, Bool.false_eq_true, if_false]
  refine wpAny_bind (wp_iter x1 ?_)
  have x2 := x1.at (h' := (s.heap.push { cls := .type "list", data := .seq ([] : List Value).toArray }).push (itObj S 0 0 es.size ep)) fun o e => Heap.get?_push_of_some _ e
  have hT2 : Shared.TypeIs { s with heap := (s.heap.push { cls := .type "list", data := .seq ([] : List Value).toArray }).push (itObj S 0 0 es.size ep) } (.ref S) "set" := ⟨o, x2.get, x2.ex.1⟩
  refine wpAny_bind (wpAny_holding ?_)
  unfold Builtin.List.listLengthHint
  refine wpAny_bind (wpAny_specialOf hT2 PySem.F.slot_set_len.lookup ?_)
  dsimp only
  rw [split_len]
  dsimp only
  refine wpAny_bind (wpAny_isInstance hT2 PySem.sub_set_self ?_)
  rw [if_neg (show ¬ ((!true) = true) by decide)]
  refine ite_yes (by decide +kernel) ?_
  refine wpAny_bind (wpAny_typeOf hT2 ?_)
  refine wpAny_pure ?_
  refine ite_yes (by decide +kernel) ?_
  refine wpAny_bind (wpAny_rule ?_)
  generalize hH1 : s.heap.push { cls := .type "list", data := .seq ([] : List Value).toArray } = H1 at x1 x2 hT1 hT2 ⊢
  have sz1 : H1.objs.size = s.heap.objs.size + 1 := by rw [← hH1]; exact Heap.size_push ..
  have eL : (H1.push (itObj S 0 0 es.size ep)).get? s.heap.objs.size = some { cls := .type "list", data := .seq ([] : List Value).toArray } := Heap.get?_push_of_some _ (by rw [← hH1]; exact Heap.get?_push_size _ rfl)
  refine wpAny_bind ?_
  show wpAny _ A.in1 (updateSeq s.heap.objs.size (·.push .none) >>= fun _ => updateSeq s.heap.objs.size (·.pop)) _ _ _
  refine wpAny_bind (wpAny_updateSeq eL rfl ?_)
  have eL2 := Heap.get?_update_self (Obj.mapSeq (·.push Value.none)) eL rfl
  refine wpAny_updateSeq eL2 rfl ?_
  have eL3 := Heap.get?_update_self (Obj.mapSeq (·.pop)) eL2 rfl
  have same : ∀ b ob, b ≠ s.heap.objs.size → (H1.push (itObj S 0 0 es.size ep)).get? b = some ob →
      (((H1.push (itObj S 0 0 es.size ep)).update s.heap.objs.size (Obj.mapSeq (·.push Value.none))).update s.heap.objs.size (Obj.mapSeq (·.pop))).get? b = some ob :=
    fun b ob nb e => (Heap.get?_update_other _ _ (Ne.symm nb)).trans ((Heap.get?_update_other _ _ (Ne.symm nb)).trans e)
  have it_ne : S ≠ H1.objs.size := by rw [sz1]; exact Nat.ne_of_lt (Nat.lt_succ_of_lt S_lt)
  have L_out : s.heap.objs.size ∉ [H1.objs.size, S] := by
    rw [sz1]
    intro z
    rcases (by simpa using z : s.heap.objs.size = s.heap.objs.size + 1 ∨ s.heap.objs.size = S) with y | y
    · exact Nat.ne_of_lt (Nat.lt_succ_self _) y
    · exact nLS y
  have hh1 : A.in1.handled = none := by simp [hh]
  refine wpAny_pure ⟨plainId_quiet PySem.F.plain_extend_loop _, codeAny_extend_loopS (A := A) ((set_walks (w := w) (o := o) (es := es) (ep := ep) (t := t) hh1 it_ne).toS) (size8 x.eight) s.heap.objs.size L_out _ es.size 0 _ _ _ rfl (Nat.zero_le _)
    ⟨x2.at fun ob e => same S ob (Ne.symm nLS) e, 0, same _ _ (by rw [sz1]; exact Nat.ne_of_gt (Nat.lt_succ_self _)) (Heap.get?_push_size _ rfl), fun _ => below_zero x.tb⟩ eL3 (ItemsOf.nil _) fun s2 acc c2 mv e2 ha => ?_⟩
  show wpAny _ A (load s.heap.objs.size >>= _) _ _ s2
  refine wpAny_bind (wpAny_load e2 ?_)
  obtain ⟨h', g', d', tk', os'⟩ := s2
  have eg : g' = s.gens := mv.gens
  have ed : d' = s.drawn := mv.drawn
  have eo : os' = s.os := mv.os
  subst eg; subst ed; subst eo
  refine wpAny_pure ?_
  rw [acc_eq ha]
  refine h h' tk' (Heap.lt_size e2) fun b ob e => ?_
  have b_lt := Heap.lt_size e
  have nb : b ≠ s.heap.objs.size := Nat.ne_of_lt b_lt
  refine mv.heap b ob (fun z => ?_) (same b ob nb (Heap.get?_push_of_some _ (by rw [← hH1]; exact Heap.get?_push_of_some _ e)))
  rcases (by simpa using z : b = s.heap.objs.size ∨ b = H1.objs.size) with y | y
  · exact nb y
  · rw [sz1] at y; exact Nat.ne_of_lt (Nat.lt_succ_of_lt b_lt) y
end
end HS

end
section
namespace HS
open PySem PySem.SetTable PyProof.Rows PySem.W
def noStr : Nat → Bool := fun _ => false
section
variable {prog : Program} {w : World} {A : Around} {E : Value → Shared → Prop} {s : Shared} {S : Addr}
theorem items_ints {k : Key} {vs : List Value} (h : ItemsAre (intKind prog w) k vs) : ∀ i, tupItems noStr i vs = some (k.map Sum.inl) := by
  induction h with
  | nil => intro i; rfl
  | @cons k v ks vs h1 h2 ih =>
    intro i
    obtain ⟨t, rfl⟩ := Value.isInt_shape h1
    simp [tupItems, noStr, ih (i + 1)]
theorem tups_of {h : Heap} {ks : List (Addr × Key)} (hk : Keys prog w h ks) (hne : ∀ b k, (b, k) ∈ ks → k ≠ []) : ∀ {vs : List Value}, (∀ v ∈ vs, ∃ b k, (b, k) ∈ ks ∧ v = .ref b) → ∃ fs, TupsOf h noStr vs fs
  | [], _ => ⟨[], .nil⟩
  | v :: vs, hv => by
    obtain ⟨fs, ih⟩ := tups_of hk hne fun v h => hv v (List.mem_cons_of_mem _ h)
    obtain ⟨b, k, hb, rfl⟩ := hv v List.mem_cons_self
    obtain ⟨o, items, n, ho, hc, hd, hi⟩ := hk b k hb
    have hk0 := hne b k hb
    cases hl : items.toList with
    | nil =>
      rw [hl] at hi
      cases hi
      exact absurd rfl hk0
    | cons f r =>
      rw [hl] at hi
      cases hi with
      | @cons k0 _ _ _ h1 h2 =>
        obtain ⟨t, rfl⟩ := Value.isInt_shape h1
        refine ⟨Value.int k0 t :: fs, .cons ⟨b, o, items, n, rfl, ho, hc, hd, ?_, fun _ => ⟨_, _, rfl⟩, fun z => by cases z⟩ ih⟩
        rw [← Array.getElem?_toList, hl]
        rfl
theorem outs_perm {vs : List Value} {arr : Array Keyed} (h : arr.Perm (pairsOf vs)) : (arr.map (·.2)).toList.Perm vs := by
  have := (Array.perm_iff_toList_perm.mp h).map (·.2)
  rw [pairsOf_toList, List.map_snd_zip (Nat.le_refl _)] at this
  rw [Array.toList_map]
  exact this
theorem wp_sorted {ks : List (Addr × Key)} {Q : Value → Shared → Prop} (hh : A.handled = none) (hS : TSet w s.heap S ks) (hk : Keys prog w s.heap ks) (hne : ∀ b k, (b, k) ∈ ks → k ≠ [])
    (h : ∀ (h' : Heap) (tk : Nat) (p : Addr) (bs : List Addr) (e : Nat), s.heap.objs.size ≤ p → (∀ b o, s.heap.get? b = some o → h'.get? b = some o) → h'.get? p = some { cls := .type "list", data := .seq (bs.map Value.ref).toArray e } →
      (∀ b ∈ bs, ∃ k, (b, k) ∈ ks) → (∀ b k, (b, k) ∈ ks → ∃ b', b' ∈ bs ∧ (b', k) ∈ ks) → bs.length ≤ ks.length → bs.length ≤ 8 → Q (.ref p) { s with heap := h', toks := tk }) :
    wpAny (model prog w) A (call (.builtin "sorted") [.ref S]) Q E s := by
  obtain ⟨o, es, ep, t, x, hel, hcov, hsz⟩ := hS
  refine PySem.Calls.call_function_entry kind_sorted plain_sorted entry_sorted (args_sorted1 _) ?_
  unfold Builtin.«sorted»
  refine wpAny_bind (m := checkCount "sorted" 1 1 _) (wpAny_pure ?_)
  refine wpAny_bind (wp_collect (A := A.in1) (by simp [hh]) x fun h1 tk z1 k1 => ?_)
  have hp := ord_perm w S es ep
  generalize ordOf w S es ep = od at hp ⊢
  have hall : ∀ v ∈ od.toList.map (·.2), ∃ b k, (b, k) ∈ ks ∧ v = Value.ref b := by
    intro v hv
    obtain ⟨e, he, rfl⟩ := List.mem_map.mp hv
    exact hel e (hp.mem_iff.mp he)
  generalize hvs : od.toList.map (·.2) = vs at hall ⊢
  have hlen : vs.length = es.size := by rw [← hvs, List.length_map, hp.length_eq, Array.length_toList]
  refine wpAny_bind (wpAny_newList ?_ (by rw [hlen]; exact size8 x.eight))
  have eL : (h1.push (seqObj "list" vs.toArray 0)).get? h1.objs.size = some (seqObj "list" vs.toArray 0) := Heap.get?_push_size _ rfl
  have hk2 : Keys prog w (h1.push (seqObj "list" vs.toArray 0)) ks := hk.at fun b k _ o e => Heap.get?_push_of_some _ (k1 b o e)
  obtain ⟨fs, ht⟩ := tups_of hk2 hne hall
  have hkey : ∀ v, v ∈ vs → ∃ l, G.tupKeyC (h1.push (seqObj "list" vs.toArray 0)) noStr v = some l := by
    intro v hv
    obtain ⟨b, k, hb, rfl⟩ := hall v hv
    obtain ⟨o, items, n, ho, hc, hd, hi⟩ := hk2 b k hb
    exact ⟨_, G.tupKeyC_of ho hc hd (items_ints hi 0)⟩
  show wpAny _ _ _ _ _ { s with heap := h1.push (seqObj "list" vs.toArray 0), toks := tk }
  refine wpAny_bind (wpAny_holding (wpAny_call_entry slot_list_sort ⟨_, eL, rfl⟩ entry_list_sort (G.list_sort_tups eL ht hkey (by rw [hlen]; exact size8 x.eight) fun st' a1 _ _ => ⟨_, rfl, ?_⟩) (args_list_sort _)))
  have hperm := outs_perm a1
  obtain ⟨ep', he'⟩ := sortedHeap_at (vs := vs) (out := (arrOf st').map (·.2)) eL
  have hout : ∃ bs : List Addr, ((arrOf st').map (·.2)).toList = bs.map Value.ref := by
    have : ∀ l : List Value, (∀ v ∈ l, ∃ b, v = Value.ref b) → ∃ bs : List Addr, l = bs.map Value.ref := by
      intro l
      induction l with
      | nil => intro _; exact ⟨[], rfl⟩
      | cons v l ih =>
        intro hl
        obtain ⟨bs, e⟩ := ih fun v hv => hl v (List.mem_cons_of_mem _ hv)
        obtain ⟨b, e2⟩ := hl v List.mem_cons_self
        exact ⟨b :: bs, by rw [e, e2]; rfl⟩
    refine this _ fun v hv => ?_
    obtain ⟨b, k, _, e⟩ := hall v (hperm.mem_iff.mp hv)
    exact ⟨b, e⟩
  obtain ⟨bs, hbs⟩ := hout
  have hb8 : bs.length = es.size := by
    have := hperm.length_eq
    rw [hbs, List.length_map] at this
    omega
  have harr : (arrOf st').map (·.2) = (bs.map Value.ref).toArray := by
    apply Array.toList_inj.mp
    rw [hbs]
  rw [harr] at he' ⊢
  have p_le : s.heap.objs.size ≤ h1.objs.size := Nat.le_of_lt z1
  refine wpAny_pure ⟨_, rfl, h _ tk h1.objs.size bs ep' p_le ?_ he' ?_ ?_ (by omega) (by have := x.eight; omega)⟩
  · intro b ob e
    have e1 := k1 b ob e
    rw [sortedHeap_old (Nat.ne_of_lt (Heap.lt_size e1)) (by rw [Heap.size_push]; exact Nat.lt_succ_of_lt (Heap.lt_size e1))]
    exact Heap.get?_push_of_some _ e1
  · intro b hb
    obtain ⟨b2, k, h1, h2⟩ := hall (Value.ref b) (hperm.mem_iff.mp (by rw [hbs]; exact List.mem_map.mpr ⟨b, hb, rfl⟩))
    injection h2 with h2
    subst h2
    exact ⟨k, h1⟩
  · intro b k hb
    obtain ⟨e, he, b', h1, h2⟩ := hcov b k hb
    refine ⟨b', ?_, h1⟩
    have : Value.ref b' ∈ vs := by
      rw [← hvs]
      exact List.mem_map.mpr ⟨e, hp.mem_iff.mpr he, h2⟩
    have := hperm.mem_iff.mpr this
    rw [hbs] at this
    obtain ⟨b3, h3, h4⟩ := List.mem_map.mp this
    injection h4 with h4
    subst h4
    exact h3
end
end HS

end
section
namespace HQ
open PySem PySem.Spec PyProof.Rows L2 HP
def top (i : Nat) : Stmt := PySem.Challenge.pw_hullpoints_s01_answers.main.body.getD i (.Pass ⟨0, 0, 0, 0⟩)
abbrev sArrows : Stmt := top 1
abbrev sBetw : Stmt := top 2
abbrev sNothing : Stmt := top 3
abbrev sCross : Stmt := top 4
abbrev sDot : Stmt := top 5
def Pr (K : PySem.W.Frag) (H : Hp) (a : Addr) (u : Ar) : Prop := SqT K H a [.int u.1, .int u.2]
theorem Pr.same {K : PySem.W.Frag} {H H' : Hp} {a : Addr} {u : Ar} (e : Same H H') (h : Pr K H a u) : Pr K H' a u := by
  rcases h with (h | ⟨o, h⟩) | h
  · exact .inl (.inl (e _ _ h))
  · exact .inl (.inr ⟨o, e _ _ h⟩)
  · exact .inr h
def Sm (u : Ar) : Prop := (-(2 ^ 64) < u.1 ∧ u.1 < 2 ^ 64) ∧ (-(2 ^ 64) < u.2 ∧ u.2 < 2 ^ 64)
section
variable {P : Program} {w : World} {K : PySem.W.Frag} {mg : Str → Option Value} {base : Heap}
def tFst (K : PySem.W.Frag) (te : TE) : TE := fun σ H Q => te σ H fun x H1 => ∃ a u, x = .ref a ∧ Pr K H1 a u ∧ Q (.int u.1) H1
def tSnd (K : PySem.W.Frag) (te : TE) : TE := fun σ H Q => te σ H fun x H1 => ∃ a u, x = .ref a ∧ Pr K H1 a u ∧ Q (.int u.2) H1
theorem PE.imp {X : Cx} {e : Expr} {t t' : TE} (h : PE X e t) (i : ∀ σ H Q, t' σ H Q → t σ H Q) : PE X e t' := fun pins s σ H Q I q => h pins s σ H Q I (i σ H Q q)
def Mono (t : TE) : Prop := ∀ σ H (Q Q' : VK), (∀ v H, Q v H → Q' v H) → t σ H Q → t σ H Q'
theorem mono_var (i : Nat) : Mono (tVar i) := fun σ H Q Q' h ⟨v, e, q⟩ => ⟨v, e, h _ _ q⟩
theorem pe_fst {X : Cx} {K : PySem.W.Frag} {e : Expr} {i j : Nat} {p1 pos : Pos} (hK : X.K = K) (h : PE X e (tVar i)) : PE X (.Subscript e (.Constant (.int 0) j p1) pos) (tFst K (tVar i)) := by
  subst hK
  exact PE.imp (pe_ix ix_tup h pe_int (fun _ _ => rfl)) fun σ H Q q => mono_var i σ H _ _ (fun v H1 ⟨a, u, e, p, q⟩ => ⟨a, _, 0, _, e, rfl, p, rfl, q⟩) q
theorem pe_snd {X : Cx} {K : PySem.W.Frag} {e : Expr} {i j : Nat} {p1 pos : Pos} (hK : X.K = K) (h : PE X e (tVar i)) : PE X (.Subscript e (.Constant (.int 1) j p1) pos) (tSnd K (tVar i)) := by
  subst hK
  exact PE.imp (pe_ix ix_tup h pe_int (fun _ _ => rfl)) fun σ H Q q => mono_var i σ H _ _ (fun v H1 ⟨a, u, e, p, q⟩ => ⟨a, _, 1, _, e, rfl, p, rfl, q⟩) q
def spPair (K : PySem.W.Frag) (f : Ar → Ar → V) : Sp := fun vs H Q _ => ∃ (a b : Addr) (u v : Ar), vs = [.ref a, .ref b] ∧ Pr K H a u ∧ Pr K H b v ∧ Sm u ∧ Q (f u v) H
theorem scC : FnScope ["one", "other"] ["one", "other"] (defScope sCross) := ⟨rfl, rfl, rfl, by decide +kernel, rfl, by decide +kernel, by decide +kernel⟩
theorem ok_cross {f : Addr} {fd : FuncData} (F : Fun K "cross" "cross" sCross f fd) : FnOk P w K mg base CX0 1 f fd ["one", "other"] (spPair K fun u v => .int (cross u v)) := by
  refine F.ok scC (fun vs H Q E h => ?_) (fun cdv A outer s H vs Q E hr h => ?_)
  · obtain ⟨a, b, u, v, rfl, _⟩ := h
    rfl
  · obtain ⟨a, b, u, v, rfl, ha, hb, hu, k⟩ := h
    refine ⟨_, pss_one (ps_ret (pe_op op_sub (pe_op op_mul (pe_fst (K := K) rfl (pv 0)) (pe_snd (K := K) rfl (pv 1))) (pe_op op_mul (pe_snd (K := K) rfl (pv 0)) (pe_fst (K := K) rfl (pv 1))))), ?_⟩
    refine ⟨_, rfl, a, u, rfl, ha, _, rfl, b, v, rfl, hb, _, _, rfl, rfl, .inl hu.1, _, rfl, a, u, rfl, ha, _, rfl, b, v, rfl, hb, _, _, rfl, rfl, .inl hu.2, _, _, rfl, rfl, k⟩
theorem scD : FnScope ["one", "other"] ["one", "other"] (defScope sDot) := ⟨rfl, rfl, rfl, by decide +kernel, rfl, by decide +kernel, by decide +kernel⟩
theorem ok_dot {f : Addr} {fd : FuncData} (F : Fun K "dot" "dot" sDot f fd) : FnOk P w K mg base CX0 1 f fd ["one", "other"] (spPair K fun u v => .int (dot u v)) := by
  refine F.ok scD (fun vs H Q E h => ?_) (fun cdv A outer s H vs Q E hr h => ?_)
  · obtain ⟨a, b, u, v, rfl, _⟩ := h
    rfl
  · obtain ⟨a, b, u, v, rfl, ha, hb, hu, k⟩ := h
    refine ⟨_, pss_one (ps_ret (pe_op op_add (pe_op op_mul (pe_fst (K := K) rfl (pv 0)) (pe_fst (K := K) rfl (pv 1))) (pe_op op_mul (pe_snd (K := K) rfl (pv 0)) (pe_snd (K := K) rfl (pv 1))))), ?_⟩
    refine ⟨_, rfl, a, u, rfl, ha, _, rfl, b, v, rfl, hb, _, _, rfl, rfl, .inl hu.1, _, rfl, a, u, rfl, ha, _, rfl, b, v, rfl, hb, _, _, rfl, rfl, .inl hu.2, _, _, rfl, rfl, k⟩
theorem dec_V (i j : Int) : decide (V.int i = V.int j) = decide (i = j) := by
  by_cases e : i = j
  · subst e; simp
  · rw [decide_eq_false e, decide_eq_false fun q => e (V.int.inj q)]
def spNothing (K : PySem.W.Frag) : Sp := fun vs H Q _ => ∃ (a : Addr) (u : Ar), vs = [.ref a] ∧ Pr K H a u ∧ Q (.bl (isNothing u)) H
theorem scN : FnScope ["arrow"] ["arrow"] (defScope sNothing) := ⟨rfl, rfl, rfl, by decide +kernel, rfl, by decide +kernel, by decide +kernel⟩
theorem ok_nothing {f : Addr} {fd : FuncData} (F : Fun K "is_nothing" "is_nothing" sNothing f fd) : FnOk P w K mg base CX0 1 f fd ["arrow"] (spNothing K) := by
  refine F.ok scN (fun vs H Q E h => ?_) (fun cdv A outer s H vs Q E hr h => ?_)
  · obtain ⟨a, u, rfl, _⟩ := h
    rfl
  · obtain ⟨a, u, rfl, ha, k⟩ := h
    refine ⟨_, pss_one (ps_ret (pe_and (pe_cmpR op_eq (pe_fst (K := K) rfl (pv 0)) pe_int (nomark _)) (pe_one (pe_cmpR op_eq (pe_snd (K := K) rfl (pv 0)) pe_int (nomark _))))), ?_⟩
    refine ⟨_, rfl, a, u, rfl, ha, rfl, _, rfl, ?_⟩
    have e : isNothing u = (decide (u.1 = 0) && decide (u.2 = 0)) := rfl
    rw [e] at k
    rw [dec_V]
    by_cases h : u.1 = 0
    · rw [decide_eq_true h] at k ⊢
      refine iteT ⟨_, rfl, a, u, rfl, ha, rfl, ?_⟩
      rw [dec_V]
      exact k
    · rw [decide_eq_false h] at k ⊢
      exact iteF k
def Prs (K : PySem.W.Frag) (H : Hp) (l : Addr) (us : List Ar) : Prop := ∃ ts : List Addr, SqL K H l (ts.map V.ref) ∧ Paired (Pr K H) ts us
theorem Prs.same {H H' : Hp} {l : Addr} {us : List Ar} (e : Same H H') (h : Prs K H l us) : Prs K H' l us := by
  obtain ⟨ts, h1, h2⟩ := h
  exact ⟨ts, e.seq h1, Paired.mapP h2 fun _ _ => Pr.same e⟩
theorem Paired.at {α β : Type} {F : α → β → Prop} : ∀ {l : List α} {m : List β} {i : Nat} {x : α}, Paired F l m → l[i]? = some x → ∃ y, m[i]? = some y ∧ F x y
  | _, _, _, _, .nil, e => by simp at e
  | _, _, 0, _, .cons r _, e => by simp at e; subst e; exact ⟨_, rfl, r⟩
  | _, _, i + 1, x, .cons _ t, e => by
    obtain ⟨u, h1, h2⟩ := Paired.at (i := i) (x := x) t (by simpa using e)
    exact ⟨u, by simpa using h1, h2⟩
theorem Paired.snoc {α β : Type} {F : α → β → Prop} : ∀ {l : List α} {m : List β} {x : α} {y : β}, Paired F l m → F x y → Paired F (l ++ [x]) (m ++ [y])
  | _, _, _, _, .nil, e => .cons e .nil
  | _, _, _, _, .cons r t, e => .cons r (Paired.snoc t e)
theorem take_snoc {α : Type} : ∀ {l : List α} {i : Nat} {x : α}, l[i]? = some x → l.take (i + 1) = l.take i ++ [x]
  | [], i, x, h => by simp at h
  | a :: l, 0, x, h => by
    have e : a = x := Option.some.inj h
    subst e
    rfl
  | a :: l, i + 1, x, h => by
    have ih := take_snoc (l := l) (i := i) (x := x) h
    show a :: l.take (i + 1) = a :: l.take i ++ [x]
    rw [ih]
    rfl
theorem map_at {α β : Type} {f : α → β} {l : List α} {i : Nat} {y : β} (h : (l.map f)[i]? = some y) : ∃ x, l[i]? = some x ∧ y = f x := by
  rw [List.getElem?_map] at h
  cases e : l[i]? with
  | none => rw [e] at h; cases h
  | some x => rw [e] at h; exact ⟨x, rfl, (Option.some.inj h).symm⟩
theorem Same.put {H : Hp} {l : Addr} {o : HO} (h : H l = none) : Same H (upd H l o) := fun b ob e => by
  rw [upd_ne (ne_of_none e h)]
  exact e
theorem Same.own {H H' : Hp} {l : Addr} {o : HO} (h : H l = none) (s : Same H H') : Same H (upd H' l o) := fun b ob e => by
  rw [upd_ne (ne_of_none e h)]
  exact s b ob e
theorem ix_two {H : Hp} {p : Addr} {xs : List V} {i : Int} {v : V} {Q : VK} (h : SqL K H p xs ∨ SqT K H p xs) (e : atI xs i = some v) (q : Q v H) : rIxL K (.ref p) (.int i) H Q ∨ rIxT K (.ref p) (.int i) H Q := by
  rcases h with h | h
  · exact .inl ⟨p, xs, i, v, rfl, rfl, h, e, q⟩
  · exact .inr ⟨p, xs, i, v, rfl, rfl, h, e, q⟩
def arr2 (u v : Ar) : Ar := (v.1 - u.1, v.2 - u.2)
def spBetw (K : PySem.W.Frag) : Sp := fun vs H Q _ => ∃ (a b : Addr) (u v : Ar), vs = [.ref a, .ref b] ∧ Pr K H a u ∧ Pr K H b v ∧ ∀ (H' : Hp) (t : Addr), Same H H' → Pr K H' t (arr2 u v) → Q (.ref t) H'
theorem scBw : FnScope ["start", "end"] ["start", "end"] (defScope sBetw) := ⟨rfl, rfl, rfl, by decide +kernel, rfl, by decide +kernel, by decide +kernel⟩
theorem ok_betw {f : Addr} {fd : FuncData} (F : Fun K "arrow_between" "arrow_between" sBetw f fd) : FnOk P w K mg base CX0 1 f fd ["start", "end"] (spBetw K) := by
  refine F.ok scBw (fun vs H Q E h => ?_) (fun cdv A outer s H vs Q E hr h => ?_)
  · obtain ⟨a, b, u, v, rfl, _⟩ := h
    rfl
  · obtain ⟨a, b, u, v, rfl, ha, hb, k⟩ := h
    refine ⟨_, pss_one (ps_ret (pe_tup (pa_cons (pe_op op_sub (pe_fst (K := K) rfl (pv 1)) (pe_fst (K := K) rfl (pv 0))) (pa_cons (pe_op op_sub (pe_snd (K := K) rfl (pv 1)) (pe_snd (K := K) rfl (pv 0))) pa_nil)))), ?_⟩
    refine ⟨_, rfl, b, v, rfl, hb, _, rfl, a, u, rfl, ha, _, _, rfl, rfl, _, rfl, b, v, rfl, hb, _, rfl, a, u, rfl, ha, _, _, rfl, rfl, (by show 2 ≤ sizeLine; decide), fun t ht => ?_⟩
    exact k _ t (Same.put ht) (.inl (.inl upd_same))
def spArrows (K : PySem.W.Frag) : Sp := fun vs H Q _ => ∃ (a b : Addr) (x y d : Int) (ps : List Ar), vs = [.ref a, .ref b] ∧ (SqL K H a [.int x, .int y, .int d] ∨ SqT K H a [.int x, .int y, .int d]) ∧ Prs K H b ps ∧ (∀ p ∈ ps, Sm p) ∧ ps.length < sizeLine ∧
  ∀ (H' : Hp) (l : Addr), Same H H' → Prs K H' l (ps.map (arrow x y d)) → Q (.ref l) H'
theorem scA : FnScope ["place", "points", "x", "y", "d", "point"] ["place", "points"] (defScope sArrows) := ⟨rfl, rfl, rfl, by decide +kernel, rfl, by decide +kernel, by decide +kernel⟩
theorem bkA : BlkOk ["place", "points", "x", "y", "d", "point"] (defScope sArrows) { kind := ScopeKind.function, names := [(".0", .local), ("point", .local), ("d", .free), ("x", .free), ("y", .free)], isGenerator := false, isCoroutine := false } [("point", 5)] := blkOk_by (by decide +kernel)
theorem ok_arrows {f : Addr} {fd : FuncData} (F : Fun K "arrows_from" "arrows_from" sArrows f fd) : FnOk P w K mg base CX0 1 f fd ["place", "points"] (spArrows K) := by
  refine F.ok scA (fun vs H Q E h => ?_) (fun cdv A outer s H vs Q E hr h => ?_)
  · obtain ⟨a, b, x, y, d, ps, rfl, _⟩ := h
    rfl
  · obtain ⟨a, b, x, y, d, ps, rfl, ha, hb, hs, hl, k⟩ := h
    obtain ⟨ts, h1, h2⟩ := hb
    refine ⟨_, pss_cons (ps_set (i := 2) scA.nd rfl (Or.inr rfl) (pe_ix (ix_list.or ix_tup) (pv 0) pe_int (fun _ _ => rfl)))
      (pss_cons (ps_set (i := 3) scA.nd rfl (Or.inr rfl) (pe_ix (ix_list.or ix_tup) (pv 0) pe_int (fun _ _ => rfl)))
      (pss_cons (ps_set (i := 4) scA.nd rfl (Or.inr rfl) (pe_ix (ix_list.or ix_tup) (pv 0) pe_int (fun _ _ => rfl)))
      (pss_one (ps_ret (pe_lc (own := [("point", 5)]) rfl scA.nd (pi_list (pv 1)) bkA (fun s H C cl fp => pg_name (i := 5) scA.nd rfl (Or.inl rfl)) (fun s H C cl fp => pts_nil)
        (fun s H C cl fp => pe_tup (pa_cons (pe_op op_sub (pe_op op_mul (pe_fst (K := K) rfl (pv 5)) (pv 4)) (pv 2)) (pa_cons (pe_op op_sub (pe_op op_mul (pe_snd (K := K) rfl (pv 5)) (pv 4)) (pv 3)) pa_nil)))))))), ?_⟩
    refine ⟨_, rfl, ix_two ha rfl ⟨_, rfl, ix_two ha rfl ⟨_, rfl, ix_two ha rfl ⟨_, rfl, b, rfl, ⟨_, h1⟩, fun D hD => ?_⟩⟩⟩⟩
    refine lc_list (K := K) (a := b) (xs := ts.map V.ref) (fun i H' => ∃ ls : List Addr, H' D = some (.lst (ls.map V.ref)) ∧ Paired (Pr K H') ls ((ps.take i).map (arrow x y d)) ∧ Same H H') ?_ ?_ ?_ ?_
    · exact ⟨[], upd_same, .nil, Same.put hD⟩
    · rintro i H' hi ⟨ls, _, _, e⟩
      exact e.seq h1
    · rintro i z H' hz ⟨ls, e1, e2, e3⟩
      obtain ⟨t, ht, rfl⟩ := map_at hz
      obtain ⟨p, hp, hpr⟩ := Paired.at h2 ht
      have hpm : p ∈ ps := List.mem_of_getElem? hp
      have hpr' := hpr.same e3
      refine ⟨rfl, ?_⟩
      unfold tYes
      refine iteT ?_
      refine ⟨_, rfl, t, p, rfl, hpr', _, rfl, _, _, rfl, rfl, .inl (hs p hpm).1, _, rfl, _, _, rfl, rfl, _, rfl, t, p, rfl, hpr', _, rfl, _, _, rfl, rfl, .inl (hs p hpm).2, _, rfl, _, _, rfl, rfl, (by show 2 ≤ sizeLine; decide), fun q hq => ?_⟩
      have s1 : Same H' (upd H' q (.tup [.int (p.1 * d - x), .int (p.2 * d - y)])) := Same.put hq
      refine ⟨_, s1 _ _ e1, ?_, ?_⟩
      · rw [List.length_map, Paired.length e2, List.length_map, List.length_take]
        omega
      · have nDq : D ≠ q := ne_of_none e1 hq
        refine ⟨ls ++ [q], by rw [upd_same, List.map_append]; rfl, ?_, ?_⟩
        · rw [take_snoc hp, List.map_append]
          have s2 : ∀ t u, Pr K H' t u → Pr K (upd (upd H' q (.tup [.int (p.1 * d - x), .int (p.2 * d - y)])) D (.lst (ls.map V.ref ++ [V.ref q]))) t u := by
            intro t u h
            have h := h.same s1
            rcases h with (h | ⟨o, h⟩) | h
            · exact .inl (.inl (by rw [upd_ne]; · exact h
                                   · intro z; rw [z, s1 _ _ e1] at h; cases h))
            · exact .inl (.inr ⟨o, by rw [upd_ne]; · exact h
                                      · intro z; rw [z, s1 _ _ e1] at h; cases h⟩)
            · exact .inr h
          refine Paired.snoc (Paired.mapP e2 s2) (.inl (.inl ?_))
          rw [upd_ne (Ne.symm nDq), upd_same]
          rfl
        · exact Same.own hD (e3.trans s1)
    · rintro H' ⟨ls, e1, e2, e3⟩
      rw [List.length_map, Paired.length h2, List.take_length] at e2
      exact k H' D e3 ⟨ls, SqL.of e1, e2⟩
end
end HQ

end
section
namespace HQ
open PySem PySem.Spec PyProof.Rows L2 HP
abbrev sDepth : Stmt := top 14
abbrev sFewest : Stmt := top 15
section
variable {P : Program} {w : World} {K : PySem.W.Frag} {mg : Str → Option Value} {base : Heap}
structure Has (P : Program) (w : World) (K : PySem.W.Frag) (mg : Str → Option Value) (base : Heap) (x : Str) (k : Nat) (ps : List Str) (sp : Sp) : Prop where
  ex : ∃ f fd, mg x = some (.ref f) ∧ PySem.W.keepIn K (.ref f) = true ∧ Binds K fd ps [] ∧ FnOk P w K mg base CX0 k f fd ps sp
theorem pe_has {X : Cx} {x : Str} {k : Nat} {ps : List Str} {sp : Sp} {p pos : Pos} {e : Expr} {es : List Expr} {t : TA} (h : Has X.prog X.w X.K X.mg X.base x k ps sp) (hr : Room k X.A) (hg : Gl X x) (ha : PA X (e :: es) t)
    (hdb : (x == ("__debug__" : Str)) = false := by decide) (he : starEach (e :: es) X.env = (false, eval e X.env) :: starEach es X.env := by rfl) (hpl : (backTo pos (starEach es X.env)).any (·.1) = false := by rfl) :
    PE X (.Call (.Name x p) (e :: es) [] pos) (tCall sp [] E0 t) := by
  obtain ⟨f, fd, h1, h2, h3, h4⟩ := h.ex
  exact pe_call h4 hr hg h1 h2 h3 .nil pass0 ha hdb he hpl
theorem filter_snoc {α : Type} (p : α → Bool) (l : List α) (a : α) : ((l ++ [a]).filter p).length = (l.filter p).length + if p a = true then 1 else 0 := by
  rw [List.filter_append, List.length_append, List.filter_cons]
  split <;> rfl
theorem min_int (i j : Nat) : (if (j : Int) < i then (j : Int) else i) = ((min i j : Nat) : Int) := by
  split <;> omega
def spFewest (K : PySem.W.Frag) : Sp := fun vs H Q _ => ∃ (a b : Addr) (v : Ar) (us : List Ar), vs = [.ref a, .ref b] ∧ Pr K H a v ∧ Prs K H b us ∧ Sm v ∧ Q (.int (fewestBeside v us : Nat)) H
theorem scF : FnScope ["along", "arrows", "left", "right", "ahead", "behind", "arrow", "turn"] ["along", "arrows"] (defScope sFewest) := ⟨rfl, rfl, rfl, by decide +kernel, rfl, by decide +kernel, by decide +kernel⟩
theorem ok_fewest {f : Addr} {fd : FuncData} (F : Fun K "fewest_beside" "fewest_beside" sFewest f fd) (hC : Has P w K mg base "cross" 1 ["one", "other"] (spPair K fun u v => .int (cross u v)))
    (hD : Has P w K mg base "dot" 1 ["one", "other"] (spPair K fun u v => .int (dot u v))) (hmin : mg "min" = none) : FnOk P w K mg base CX0 2 f fd ["along", "arrows"] (spFewest K) := by
  refine F.ok scF (fun vs H Q E h => ?_) (fun cdv A outer s H vs Q E hr h => ?_)
  · obtain ⟨a, b, v, us, rfl, _⟩ := h
    rfl
  · obtain ⟨a, b, v, us, rfl, ha, ⟨ts, h1, h2⟩, hv, k⟩ := h
    refine ⟨_, pss_cons (ps_set (i := 2) scF.nd rfl (Or.inl rfl) pe_int) (pss_cons (ps_set (i := 3) scF.nd rfl (Or.inl rfl) pe_int) (pss_cons (ps_set (i := 4) scF.nd rfl (Or.inl rfl) pe_int) (pss_cons (ps_set (i := 5) scF.nd rfl (Or.inl rfl) pe_int)
      (pss_cons (ps_for PassesOwn.never rfl (pi_list (pv 1)) (pg_name (i := 6) scF.nd rfl (Or.inl rfl))
        (pss_cons (ps_set (i := 7) scF.nd rfl (Or.inl rfl) (pe_has hC hr rfl (pa_cons (pv 0) (pa_cons (pv 6) pa_nil))))
        (pss_one (ps_if (pt_cmpR op_gt (pv 7) pe_int (nomark _)) (pss_one (ps_aug (i := 2) scF.nd rfl (Or.inl rfl) pe_int ip_add))
          (pss_one (ps_if (pt_cmpR op_lt (pv 7) pe_int (nomark _)) (pss_one (ps_aug (i := 3) scF.nd rfl (Or.inl rfl) pe_int ip_add))
          (pss_one (ps_if (pt_cmpR op_gt (pe_has hD hr rfl (pa_cons (pv 0) (pa_cons (pv 6) pa_nil))) pe_int (nomark _)) (pss_one (ps_aug (i := 4) scF.nd rfl (Or.inl rfl) pe_int ip_add))
            (pss_one (ps_aug (i := 5) scF.nd rfl (Or.inl rfl) pe_int ip_add))))))))))
      (pss_one (ps_ret (pe_op op_add (pe_callB (call_min2 rfl) (by rfl) hmin PyProof.Rows.boot_min (pa_cons (pv 2) (pa_cons (pv 3) pa_nil))) (pe_callB (call_min2 rfl) (by rfl) hmin PyProof.Rows.boot_min (pa_cons (pv 4) (pa_cons (pv 5) pa_nil)))))))))), ?_⟩
    refine ⟨_, rfl, b, rfl, ⟨_, h1⟩, for_list (K := K) (a := b) (xs := ts.map V.ref) (fun i σ H' => H' = H ∧ ∃ v6 v7 : Option V, σ = [some (.ref a), some (.ref b), some (.int (nLeft v (us.take i) : Nat)), some (.int (nRight v (us.take i) : Nat)), some (.int (nAhead v (us.take i) : Nat)), some (.int (nBehind v (us.take i) : Nat)), v6, v7])
      ⟨rfl, none, none, rfl⟩ (fun i σ H' _ ⟨e, _⟩ => e ▸ h1) ?_ ?_⟩
    · rintro i z σ H' hz ⟨rfl, v6, v7, rfl⟩
      obtain ⟨t, ht, rfl⟩ := map_at hz
      obtain ⟨u, hu, hpr⟩ := Paired.at h2 ht
      rw [take_snoc hu]
      refine ⟨_, rfl, _, rfl, a, t, v, u, rfl, ha, hpr, hv, ?_⟩
      have n1 : nLeft v (us.take i ++ [u]) = nLeft v (us.take i) + if decide (0 < cross v u) = true then 1 else 0 := filter_snoc _ _ _
      have n2 : nRight v (us.take i ++ [u]) = nRight v (us.take i) + if decide (cross v u < 0) = true then 1 else 0 := filter_snoc _ _ _
      have n3 : nAhead v (us.take i ++ [u]) = nAhead v (us.take i) + if (decide (cross v u = 0) && decide (0 < dot v u)) = true then 1 else 0 := filter_snoc _ _ _
      have n4 : nBehind v (us.take i ++ [u]) = nBehind v (us.take i) + if (decide (cross v u = 0) && !decide (0 < dot v u)) = true then 1 else 0 := filter_snoc _ _ _
      refine ⟨_, rfl, _, _, rfl, rfl, _, rfl, ?_⟩
      refine ite2 (fun c1 => ?_) (fun c1 => ?_)
      · have c1 : 0 < cross v u := of_decide_eq_true c1
        refine ⟨_, rfl, _, _, rfl, rfl, rfl, some (.ref t), some (.int (cross v u)), ?_⟩
        rw [n1, n2, n3, n4, if_pos (decide_eq_true c1), if_neg (by simp; omega), if_neg (by simp; omega), if_neg (by simp; omega)]
        rfl
      · have c1 : ¬ 0 < cross v u := fun q => c1 (decide_eq_true q)
        refine ⟨_, rfl, _, _, rfl, rfl, _, rfl, ?_⟩
        refine ite2 (fun c2 => ?_) (fun c2 => ?_)
        · have c2 : cross v u < 0 := of_decide_eq_true c2
          refine ⟨_, rfl, _, _, rfl, rfl, rfl, some (.ref t), some (.int (cross v u)), ?_⟩
          rw [n1, n2, n3, n4, if_neg (by simp; omega), if_pos (decide_eq_true c2), if_neg (by simp; omega), if_neg (by simp; omega)]
          rfl
        · have c2 : ¬ cross v u < 0 := fun q => c2 (decide_eq_true q)
          have c0 : cross v u = 0 := by omega
          refine ⟨_, rfl, _, rfl, a, t, v, u, rfl, ha, hpr, hv, _, _, rfl, rfl, _, rfl, ?_⟩
          refine ite2 (fun c3 => ?_) (fun c3 => ?_)
          · have c3 : 0 < dot v u := of_decide_eq_true c3
            refine ⟨_, rfl, _, _, rfl, rfl, rfl, some (.ref t), some (.int (cross v u)), ?_⟩
            rw [n1, n2, n3, n4, if_neg (by simp; omega), if_neg (by simp; omega), if_pos (by simp; exact ⟨c0, c3⟩), if_neg (by simp; omega)]
            rfl
          · have c3 : ¬ 0 < dot v u := fun q => c3 (decide_eq_true q)
            refine ⟨_, rfl, _, _, rfl, rfl, rfl, some (.ref t), some (.int (cross v u)), ?_⟩
            rw [n1, n2, n3, n4, if_neg (by simp; omega), if_neg (by simp; omega), if_neg (by simp; omega), if_pos (by simp; omega)]
            rfl
    · rintro σ H' ⟨rfl, v6, v7, rfl⟩
      rw [List.length_map, Paired.length h2, List.take_length]
      refine ⟨_, rfl, _, rfl, _, _, rfl, _, rfl, _, rfl, _, _, rfl, _, _, rfl, rfl, ?_⟩
      rw [min_int, min_int]
      exact k
theorem Pr.own {H : Hp} {D t : Addr} {u : Ar} {xs ys : List V} (h : H D = some (.lst xs)) (p : Pr K H t u) : Pr K (upd H D (.lst ys)) t u := by
  rcases p with (p | ⟨o, p⟩) | p
  · exact .inl (.inl (by rw [upd_ne (fun z => by rw [z, h] at p; cases p)]; exact p))
  · exact .inl (.inr ⟨o, by rw [upd_ne (fun z => by rw [z, h] at p; cases p)]; exact p⟩)
  · exact .inr p
def spDepth (K : PySem.W.Frag) : Sp := fun vs H Q _ => ∃ (a : Addr) (us : List Ar), vs = [.ref a] ∧ Prs K H a us ∧ (∀ u ∈ us, Sm u) ∧ us.length < sizeLine ∧ ∀ H', Same H H' → Q (.int (depthAmong us : Nat)) H'
theorem scP : FnScope ["arrows", "outer", "fewest", "arrow"] ["arrows"] (defScope sDepth) := ⟨rfl, rfl, rfl, by decide +kernel, rfl, by decide +kernel, by decide +kernel⟩
theorem bkP : BlkOk ["arrows", "outer", "fewest", "arrow"] (defScope sDepth) { kind := ScopeKind.function, names := [(".0", .local), ("arrow", .local), ("is_nothing", .globalImplicit)], isGenerator := false, isCoroutine := false } [("arrow", 3)] := blkOk_by (by decide +kernel)
theorem outer_snoc (l : List Ar) (a : Ar) : outer (l ++ [a]) = if isNothing a = true then outer l else outer l ++ [a] := by
  unfold outer
  rw [List.filter_append, List.filter_cons]
  cases isNothing a <;> simp
theorem ok_depth {f : Addr} {fd : FuncData} (F : Fun K "depth_among" "depth_among" sDepth f fd) (hN : Has P w K mg base "is_nothing" 1 ["arrow"] (spNothing K)) (hF : Has P w K mg base "fewest_beside" 2 ["along", "arrows"] (spFewest K))
    (hmin : mg "min" = none) (hlen : mg "len" = none) : FnOk P w K mg base CX0 3 f fd ["arrows"] (spDepth K) := by
  refine F.ok scP (fun vs H Q E h => ?_) (fun cdv A outr s H vs Q E hr h => ?_)
  · obtain ⟨a, us, rfl, _⟩ := h
    rfl
  · obtain ⟨a, us, rfl, ⟨ts, h1, h2⟩, hs, hl, k⟩ := h
    have hr1 : Room 1 _ := hr.mono (by decide)
    refine ⟨_, pss_cons (ps_setLc (i := 1) (own := [("arrow", 3)]) rfl scP.nd rfl rfl (sw_true rfl rfl rfl rfl) (pi_list (pv 0)) bkP (fun s H C cl fp => pg_name (i := 3) scP.nd rfl (Or.inl rfl))
        (fun s H C cl fp => pts_one (pt_not (pt_val (pe_has hN hr1 rfl (pa_cons (pv 3) pa_nil))))) (fun s H C cl fp => pv 3))
      (pss_cons (ps_set (i := 2) scP.nd rfl (Or.inl rfl) (pe_callB call_len_seq (by rfl) hlen PySem.boot_len (pa_cons (pv 1) pa_nil)))
      (pss_cons (ps_for PassesOwn.never rfl (pi_list (pv 1)) (pg_name (i := 3) scP.nd rfl (Or.inl rfl))
        (pss_one (ps_set (i := 2) scP.nd rfl (Or.inl rfl) (pe_callB (call_min2 rfl) (by rfl) hmin PyProof.Rows.boot_min (pa_cons (pv 2) (pa_cons (pe_has hF hr rfl (pa_cons (pv 3) (pa_cons (pv 1) pa_nil))) pa_nil))))))
      (pss_one (ps_ret (pe_op op_add (pe_op op_sub (pe_callB call_len_seq (by rfl) hlen PySem.boot_len (pa_cons (pv 0) pa_nil)) (pe_callB call_len_seq (by rfl) hlen PySem.boot_len (pa_cons (pv 1) pa_nil))) (pv 2)))))), ?_⟩
    refine ⟨_, rfl, a, rfl, ⟨_, h1⟩, fun D hD => ?_⟩
    refine lc_list (K := K) (a := a) (xs := ts.map V.ref) (fun i H' => ∃ ls : List Addr, H' D = some (.lst (ls.map V.ref)) ∧ Paired (Pr K H') ls (outer (us.take i)) ∧ Same H H') ?_ ?_ ?_ ?_
    · exact ⟨[], upd_same, .nil, Same.put hD⟩
    · rintro i H' hi ⟨ls, _, _, e⟩
      exact e.seq h1
    · rintro i z H' hz ⟨ls, e1, e2, e3⟩
      obtain ⟨t, ht, rfl⟩ := map_at hz
      obtain ⟨u, hu, hpr⟩ := Paired.at h2 ht
      have hpr' := hpr.same e3
      refine ⟨rfl, _, rfl, t, u, rfl, hpr', _, rfl, ?_⟩
      rw [take_snoc hu, outer_snoc]
      cases hn : isNothing u
      · refine iteT ⟨_, rfl, _, e1, ?_, ?_⟩
        · rw [List.length_map, Paired.length e2]
          have : (outer (us.take i)).length ≤ (us.take i).length := List.length_filter_le _ _
          rw [List.length_take] at this
          omega
        · refine ⟨ls ++ [t], by rw [upd_same, List.map_append]; rfl, ?_, Same.own hD e3⟩
          rw [if_neg (by decide)]
          exact Paired.snoc (Paired.mapP e2 fun _ _ p => Pr.own e1 p) (Pr.own e1 hpr')
      · refine iteF ⟨ls, e1, ?_, e3⟩
        rw [if_pos rfl]
        exact e2
    · rintro H' ⟨ls, e1, e2, e3⟩
      rw [List.length_map, Paired.length h2, List.take_length] at e2
      have hlen2 : ls.length = (outer us).length := Paired.length e2
      refine ⟨_, rfl, D, _, rfl, .inl (SqL.of e1), ?_⟩
      refine ⟨_, rfl, D, rfl, ⟨_, SqL.of e1⟩, for_list (K := K) (a := D) (xs := ls.map V.ref) (fun i σ H2 => H2 = H' ∧ ∃ v3 : Option V, σ = [some (.ref a), some (.ref D), some (.int (((outer us).take i).foldl (fun k a => min k (fewestBeside a (outer us))) (outer us).length : Nat)), v3])
        ⟨rfl, none, by rw [List.length_map, hlen2]; rfl⟩ (fun i σ H2 _ ⟨e, _⟩ => e ▸ SqL.of e1) ?_ ?_⟩
      · rintro i z σ H2 hz ⟨rfl, v3, rfl⟩
        obtain ⟨t, ht, rfl⟩ := map_at hz
        obtain ⟨u, hu, hpr⟩ := Paired.at e2 ht
        have hum : u ∈ us := (List.mem_filter.mp (List.mem_of_getElem? hu)).1
        refine ⟨_, rfl, _, rfl, _, rfl, t, D, u, outer us, rfl, hpr, ⟨ls, SqL.of e1, e2⟩, hs u hum, _, _, rfl, rfl, some (.ref t), ?_⟩
        rw [min_int, take_snoc hu, List.foldl_append]
        rfl
      · rintro σ H2 ⟨rfl, v3, rfl⟩
        rw [List.length_map, hlen2, List.take_length]
        refine ⟨_, rfl, a, _, rfl, .inl (e3.seq h1), _, rfl, D, _, rfl, .inl (SqL.of e1), _, _, rfl, rfl, _, rfl, _, _, rfl, rfl, ?_⟩
        have := k H2 e3
        have hle : (outer us).length ≤ us.length := List.length_filter_le _ _
        have e : ((ts.map V.ref).length : Int) - ((ls.map V.ref).length : Int) + (((outer us).foldl (fun k a => min k (fewestBeside a (outer us))) (outer us).length : Nat) : Int) = ((depthAmong us : Nat) : Int) := by
          rw [List.length_map, List.length_map, Paired.length h2, hlen2]
          unfold depthAmong
          omega
        show Q (V.int _) H2
        rw [e]
        exact this
end
end HQ

end
section
namespace HQ
open PySem PySem.Spec PyProof.Rows L2 HP
section
variable {prog : Program} {w : World} {A : Around} {E : Value → Shared → Prop} {s : Shared} {t : Addr} {xs : Array (Int × Tok)}
theorem tup_kept {h' : Heap} {ob : Obj} (hk : ∀ b o, b ∉ [s.heap.objs.size] → (s.heap.push ob).get? b = some o → h'.get? b = some o) (b : Addr) (o : Obj) (e : s.heap.get? b = some o) : h'.get? b = some o := by
  have hb : b ∉ [s.heap.objs.size] := by
    intro z
    rw [List.mem_singleton] at z
    exact Nat.ne_of_lt (Heap.lt_size e) z
  exact hk b o hb (Heap.get?_push_of_some ob e)
theorem both_lt {ob : Obj} (lt : t < s.heap.objs.size) : ∀ b ∈ [s.heap.objs.size, t], b < (s.heap.push ob).objs.size := by
  intro b hb
  rw [Heap.size_push]
  rcases (by simpa using hb : b = s.heap.objs.size ∨ b = t) with z | z
  · exact z ▸ Nat.lt_succ_self _
  · exact z ▸ Nat.lt_succ_of_lt lt
def Ends (xs : Array (Int × Tok)) (better : Nat → Nat → Bool) (s : Shared) (Q : Value → Shared → Prop) : Prop :=
  ∀ (v : Value) (h' : Heap) (tk : Nat), (intItems xs)[argBest better (xs.size - 1)]? = some v → (∀ b o, s.heap.get? b = some o → h'.get? b = some o) → Q v { s with heap := h', toks := tk }
theorem min_tupG {Q : Value → Shared → Prop} (hh : A.handled = none) (ht : s.heap.IsTuple t (intItems xs)) (hne : 0 < xs.size) (h : Ends xs (fun i j => decide (numAt xs i < numAt xs j)) s Q) :
    wpAny (model prog w) A (call (.builtin "min") [.ref t]) Q E s := by
  have lt : t < s.heap.objs.size := by
    obtain ⟨_, e, _⟩ := ht
    exact Heap.lt_size e
  refine call_min_walk (wpAny_pyIter_tuple ht ⟨_, [_, t], [_], _, _, _, _, rfl, Walks.tuple (A := A.in1) hh _ t (Nat.ne_of_lt lt) (intItems xs), ⟨⟨_, Heap.get?_push_size _ rfl, rfl, rfl⟩, ht.push _⟩, both_lt lt, by simpa [intItems] using hne, CmpOf.ints_lt (numAt xs) (fun _ _ => intItems_at), ?_⟩)
  exact fun v h' tk hP hk => h v h' tk (by simpa [intItems] using hP) (tup_kept hk)
theorem max_tupG {Q : Value → Shared → Prop} (hh : A.handled = none) (ht : s.heap.IsTuple t (intItems xs)) (hne : 0 < xs.size) (h : Ends xs (fun i j => decide (numAt xs i > numAt xs j)) s Q) :
    wpAny (model prog w) A (call (.builtin "max") [.ref t]) Q E s := by
  have lt : t < s.heap.objs.size := by
    obtain ⟨_, e, _⟩ := ht
    exact Heap.lt_size e
  refine call_max_walk (wpAny_pyIter_tuple ht ⟨_, [_, t], [_], _, _, _, _, rfl, Walks.tuple (A := A.in1) hh _ t (Nat.ne_of_lt lt) (intItems xs), ⟨⟨_, Heap.get?_push_size _ rfl, rfl, rfl⟩, ht.push _⟩, both_lt lt, by simpa [intItems] using hne, CmpOf.ints_gt (numAt xs) (fun _ _ => intItems_at), ?_⟩)
  exact fun v h' tk hP hk => h v h' tk (by simpa [intItems] using hP) (tup_kept hk)
theorem minT_raw {its : List Value} {ns : List Int} {Q : Value → Shared → Prop} (hh : A.handled = none) (hl : s.heap.IsTuple t its.toArray) (hi : IntsAre its ns) (hne : 0 < ns.length)
    (h : ∀ h' tk M t', (∀ b o, s.heap.get? b = some o → h'.get? b = some o) → M ∈ ns → (∀ a, a ∈ ns → M ≤ a) → Q (.int M t') { s with heap := h', toks := tk }) : wpAny (model prog w) A (call (.builtin "min") [.ref t]) Q E s := by
  obtain ⟨xs, e⟩ := hi.allInts.items
  have hn : numsOf (intItems xs).toList = ns := by rw [← e]; exact hi.numsOf
  rw [nums_intItems] at hn
  subst hn
  rw [e] at hl
  have hsz : 0 < xs.size := by simpa using hne
  refine min_tupG hh hl hsz fun v h' tk hv hk => ?_
  obtain ⟨t, rfl⟩ := intItems_at hv
  obtain ⟨h1, h2⟩ := argBest_lt (numAt xs) (xs.size - 1)
  refine h h' tk _ t hk ?_ fun a ha => ?_
  · rw [numAt_eq]; exact PySem.getD_mem (by rw [List.length_map, Array.length_toList]; omega)
  · obtain ⟨j, hj, rfl⟩ := mem_getD ha
    rw [List.length_map, Array.length_toList] at hj
    rw [← numAt_eq]; exact h2 j (by omega)
theorem maxT_raw {its : List Value} {ns : List Int} {Q : Value → Shared → Prop} (hh : A.handled = none) (hl : s.heap.IsTuple t its.toArray) (hi : IntsAre its ns) (hne : 0 < ns.length)
    (h : ∀ h' tk M t', (∀ b o, s.heap.get? b = some o → h'.get? b = some o) → M ∈ ns → (∀ a, a ∈ ns → a ≤ M) → Q (.int M t') { s with heap := h', toks := tk }) : wpAny (model prog w) A (call (.builtin "max") [.ref t]) Q E s := by
  obtain ⟨xs, e⟩ := hi.allInts.items
  have hn : numsOf (intItems xs).toList = ns := by rw [← e]; exact hi.numsOf
  rw [nums_intItems] at hn
  subst hn
  rw [e] at hl
  have hsz : 0 < xs.size := by simpa using hne
  refine max_tupG hh hl hsz fun v h' tk hv hk => ?_
  obtain ⟨t, rfl⟩ := intItems_at hv
  obtain ⟨h1, h2⟩ := argBest_gt (numAt xs) (xs.size - 1)
  refine h h' tk _ t hk ?_ fun a ha => ?_
  · rw [numAt_eq]; exact PySem.getD_mem (by rw [List.length_map, Array.length_toList]; omega)
  · obtain ⟨j, hj, rfl⟩ := mem_getD ha
    rw [List.length_map, Array.length_toList] at hj
    rw [← numAt_eq]; exact h2 j (by omega)
end
section
variable {X : Cx}
def rMinT (K : PySem.W.Frag) : List V → Hp → VK → Prop := fun vs H Q => ∃ (a : Addr) (ns : List Int), vs = [V.ref a] ∧ SqT K H a (ns.map V.int) ∧ 0 < ns.length ∧ ∀ m, m ∈ ns → (∀ y, y ∈ ns → m ≤ y) → Q (.int m) H
def rMaxT (K : PySem.W.Frag) : List V → Hp → VK → Prop := fun vs H Q => ∃ (a : Addr) (ns : List Int), vs = [V.ref a] ∧ SqT K H a (ns.map V.int) ∧ 0 < ns.length ∧ ∀ m, m ∈ ns → (∀ y, y ∈ ns → y ≤ m) → Q (.int m) H
theorem cr_minT (hc : X.calm = true) : CallR X (.builtin "min") (rMinT X.K) := by
  intro pins s σ H vs us Q I r h
  obtain ⟨a, ns, rfl, hs, hne, q⟩ := h
  obtain ⟨its, rv, hl, _⟩ := I.tuple hs
  rw [Vals.ref1 r]
  exact minT_raw (I.ok.hd hc) hl rv.ints hne fun h' tk m t' hk h1 h2 => ⟨.int _, H, I.kept hk, ⟨_, rfl⟩, q m h1 h2⟩
theorem cr_maxT (hc : X.calm = true) : CallR X (.builtin "max") (rMaxT X.K) := by
  intro pins s σ H vs us Q I r h
  obtain ⟨a, ns, rfl, hs, hne, q⟩ := h
  obtain ⟨its, rv, hl, _⟩ := I.tuple hs
  rw [Vals.ref1 r]
  exact maxT_raw (I.ok.hd hc) hl rv.ints hne fun h' tk m t' hk h1 h2 => ⟨.int _, H, I.kept hk, ⟨_, rfl⟩, q m h1 h2⟩
end
end HQ

end
section
namespace HQ
open PySem PySem.Spec PyProof.Rows L2 HP
abbrev sAround : Stmt := top 19
abbrev sWith : Stmt := top 20
abbrev sBelow : Stmt := top 23
abbrev sBetween : Stmt := top 24
abbrev sAmid : Stmt := top 25
theorem bitOr_nat (a b : Nat) : Builtin.bitOr (a : Int) (b : Int) = ((a ||| b : Nat) : Int) := by
  unfold Builtin.bitOr
  rw [bitAnd_nn (by unfold Builtin.bitNot; omega) (by unfold Builtin.bitNot; omega)]
  have e : ∀ n : Nat, (Builtin.bitNot (Builtin.bitNot (n : Int))) = n := fun n => by unfold Builtin.bitNot; omega
  rw [e, e, e]
  rfl
theorem or_two {m t : Nat} (h : m < t) : (2 ^ m ||| 2 ^ t : Nat) = 2 ^ m + 2 ^ t := by
  have := Nat.two_pow_add_eq_or_of_lt (i := t) (b := 2 ^ m) (Nat.pow_lt_pow_right (by decide) h) 1
  rw [Nat.mul_one] at this
  rw [Nat.or_comm, ← this, Nat.add_comm]
theorem or_three {l m t : Nat} (h : l < m) (h' : m < t) : ((2 ^ l ||| 2 ^ m) ||| 2 ^ t : Nat) = 2 ^ l + 2 ^ m + 2 ^ t := by
  rw [or_two h]
  have lt : 2 ^ l + 2 ^ m < 2 ^ t := by
    have := two_lt h
    have := two_le (show m + 1 ≤ t from h')
    have := two_s m
    omega
  have := Nat.two_pow_add_eq_or_of_lt (i := t) (b := 2 ^ l + 2 ^ m) lt 1
  rw [Nat.mul_one] at this
  rw [Nat.or_comm, ← this, Nat.add_comm]
theorem shl_one (m : Nat) : (1 : Int) * 2 ^ ((m : Int)).toNat = ((2 ^ m : Nat) : Int) := by
  rw [Int.one_mul, Int.toNat_natCast, Int.natCast_pow]
  rfl
def nv (m : Nat) : V := .int (m : Int)
def Ns (K : PySem.W.Frag) (H : Hp) (a : Addr) (ms : List Nat) : Prop := SqL K H a (ms.map nv)
section
variable {P : Program} {w : World} {K : PySem.W.Frag} {mg : Str → Option Value} {base : Heap}
def spBelow (K : PySem.W.Frag) : Sp := fun vs H Q _ => ∃ (b : Nat) (a : Addr) (ms : List Nat), vs = [nv b, .ref a] ∧ Ns K H a ms ∧ ms.length < sizeLine ∧ ∀ (H' : Hp) (l : Addr), Same H H' → Ns K H' l (ms.filter (· < b)) → Q (.ref l) H'
theorem scB : FnScope ["bound", "members", "member"] ["bound", "members"] (defScope sBelow) := ⟨rfl, rfl, rfl, by decide +kernel, rfl, by decide +kernel, by decide +kernel⟩
theorem bkB : BlkOk ["bound", "members", "member"] (defScope sBelow) { kind := ScopeKind.function, names := [(".0", .local), ("member", .local), ("bound", .free)], isGenerator := false, isCoroutine := false } [("member", 2)] := blkOk_by (by decide +kernel)
theorem filter_snoc' {α : Type} (p : α → Bool) (l : List α) (a : α) : (l ++ [a]).filter p = if p a = true then l.filter p ++ [a] else l.filter p := by
  rw [List.filter_append, List.filter_cons]
  split <;> simp
theorem ok_below {f : Addr} {fd : FuncData} (F : Fun K "members_below" "members_below" sBelow f fd) : FnOk P w K mg base CX0 1 f fd ["bound", "members"] (spBelow K) := by
  refine F.ok scB (fun vs H Q E h => ?_) (fun cdv A outr s H vs Q E hr h => ?_)
  · obtain ⟨b, a, ms, rfl, _⟩ := h
    rfl
  · obtain ⟨b, a, ms, rfl, h1, hl, k⟩ := h
    refine ⟨_, pss_one (ps_ret (pe_lc (own := [("member", 2)]) rfl scB.nd (pi_list (pv 1)) bkB (fun s H C cl fp => pg_name (i := 2) scB.nd rfl (Or.inl rfl)) (fun s H C cl fp => pts_one (pt_cmpR op_lt (pv 2) (pv 0) (nomark _))) (fun s H C cl fp => pv 2))), ?_⟩
    refine ⟨_, rfl, a, rfl, ⟨_, h1⟩, fun D hD => ?_⟩
    refine lc_list (K := K) (a := a) (xs := ms.map nv) (fun i H' => H' D = some (.lst (((ms.take i).filter (· < b)).map nv)) ∧ Same H H') ?_ ?_ ?_ ?_
    · exact ⟨upd_same, Same.put hD⟩
    · rintro i H' hi ⟨_, e⟩
      exact e.seq h1
    · rintro i z H' hz ⟨e1, e3⟩
      obtain ⟨m, hm, rfl⟩ := map_at hz
      refine ⟨rfl, _, rfl, _, rfl, _, _, rfl, rfl, _, rfl, ?_⟩
      rw [take_snoc hm, filter_snoc']
      refine ite2 (fun c => ?_) (fun c => ?_)
      · have c : m < b := by have := of_decide_eq_true c; omega
        refine ⟨_, rfl, _, e1, ?_, ?_⟩
        · rw [List.length_map]
          have : ((ms.take i).filter (· < b)).length ≤ (ms.take i).length := List.length_filter_le _ _
          rw [List.length_take] at this
          omega
        · rw [if_pos (decide_eq_true c)]
          refine ⟨by rw [upd_same, List.map_append]; rfl, Same.own hD e3⟩
      · have c : ¬ m < b := fun q => c (decide_eq_true (by omega))
        rw [if_neg (by simpa using c)]
        exact ⟨e1, e3⟩
    · rintro H' ⟨e1, e3⟩
      rw [List.length_map, List.take_length] at e1
      exact k H' D e3 (SqL.of e1)
theorem scT : FnScope ["one", "other"] ["one", "other"] (defScope sBetween) := ⟨rfl, rfl, rfl, by decide +kernel, rfl, by decide +kernel, by decide +kernel⟩
theorem ok_between {f : Addr} {fd : FuncData} (F : Fun K "is_between" "is_between" sBetween f fd) (hC : Has P w K mg base "cross" 1 ["one", "other"] (spPair K fun u v => .int (cross u v)))
    (hD : Has P w K mg base "dot" 1 ["one", "other"] (spPair K fun u v => .int (dot u v))) : FnOk P w K mg base CX0 2 f fd ["one", "other"] (spPair K fun u v => .bl (isBetween u v)) := by
  refine F.ok scT (fun vs H Q E h => ?_) (fun cdv A outr s H vs Q E hr h => ?_)
  · obtain ⟨a, b, u, v, rfl, _⟩ := h
    rfl
  · obtain ⟨a, b, u, v, rfl, ha, hb, hu, k⟩ := h
    refine ⟨_, pss_one (ps_ret (pe_and (pe_cmpR op_eq (pe_has hC hr rfl (pa_cons (pv 0) (pa_cons (pv 1) pa_nil))) pe_int (nomark _)) (pe_one (pe_cmpR op_le (pe_has hD hr rfl (pa_cons (pv 0) (pa_cons (pv 1) pa_nil))) pe_int (nomark _))))), ?_⟩
    refine ⟨_, rfl, _, rfl, a, b, u, v, rfl, ha, hb, hu, rfl, _, rfl, ?_⟩
    have k : Q (V.bl (decide (cross u v = 0) && decide (dot u v ≤ 0))) H := k
    show if decide (V.int (cross u v) = V.int 0) = true then _ else _
    rw [dec_V]
    by_cases h : cross u v = 0
    · rw [decide_eq_true h] at k ⊢
      exact iteT ⟨_, rfl, _, rfl, a, b, u, v, rfl, ha, hb, hu, _, _, rfl, rfl, k⟩
    · rw [decide_eq_false h] at k ⊢
      exact iteF k
def spAmid (K : PySem.W.Frag) : Sp := fun vs H Q _ => ∃ (a b c : Addr) (u v x : Ar), vs = [.ref a, .ref b, .ref c] ∧ Pr K H a u ∧ Pr K H b v ∧ Pr K H c x ∧ Sm u ∧ Sm v ∧ Sm x ∧ ∀ H', Same H H' → Q (.bl (isAmid u v x)) H'
theorem scM : FnScope ["first", "second", "third", "turns"] ["first", "second", "third"] (defScope sAmid) := ⟨rfl, rfl, rfl, by decide +kernel, rfl, by decide +kernel, by decide +kernel⟩
theorem amid_min {a b c m : Int} (hm : m ∈ [a, b, c]) (h : ∀ y, y ∈ [a, b, c] → m ≤ y) : 0 < m ↔ 0 < a ∧ 0 < b ∧ 0 < c := by
  have h1 := h a (by simp)
  have h2 := h b (by simp)
  have h3 := h c (by simp)
  simp only [List.mem_cons, List.not_mem_nil, or_false] at hm
  omega
theorem amid_max {a b c m : Int} (hm : m ∈ [a, b, c]) (h : ∀ y, y ∈ [a, b, c] → y ≤ m) : m < 0 ↔ a < 0 ∧ b < 0 ∧ c < 0 := by
  have h1 := h a (by simp)
  have h2 := h b (by simp)
  have h3 := h c (by simp)
  simp only [List.mem_cons, List.not_mem_nil, or_false] at hm
  omega
theorem ok_amid {f : Addr} {fd : FuncData} (F : Fun K "is_amid" "is_amid" sAmid f fd) (hC : Has P w K mg base "cross" 1 ["one", "other"] (spPair K fun u v => .int (cross u v)))
    (hmin : mg "min" = none) (hmax : mg "max" = none) : FnOk P w K mg base CX0 2 f fd ["first", "second", "third"] (spAmid K) := by
  refine F.ok scM (fun vs H Q E h => ?_) (fun cdv A outr s H vs Q E hr h => ?_)
  · obtain ⟨a, b, c, u, v, x, rfl, _⟩ := h
    rfl
  · obtain ⟨a, b, c, u, v, x, rfl, ha, hb, hc, hu, hv, hx, k⟩ := h
    refine ⟨_, pss_cons (ps_set (i := 3) scM.nd rfl (Or.inl rfl) (pe_tup (pa_cons (pe_has hC hr rfl (pa_cons (pv 0) (pa_cons (pv 1) pa_nil))) (pa_cons (pe_has hC hr rfl (pa_cons (pv 1) (pa_cons (pv 2) pa_nil))) (pa_cons (pe_has hC hr rfl (pa_cons (pv 2) (pa_cons (pv 0) pa_nil))) pa_nil)))))
      (pss_one (ps_ret (pe_or (pe_cmpR op_gt (pe_callB (cr_minT rfl) (by rfl) hmin PyProof.Rows.boot_min (pa_cons (pv 3) pa_nil)) pe_int (nomark _)) (pe_one (pe_cmpR op_lt (pe_callB (cr_maxT rfl) (by rfl) hmax PyProof.Rows.boot_max (pa_cons (pv 3) pa_nil)) pe_int (nomark _)))))), ?_⟩
    refine ⟨_, rfl, _, rfl, a, b, u, v, rfl, ha, hb, hu, _, rfl, _, rfl, b, c, v, x, rfl, hb, hc, hv, _, rfl, _, rfl, c, a, x, u, rfl, hc, ha, hx, (by show 3 ≤ sizeLine; decide), fun t ht => ?_⟩
    have s1 : Same H (upd H t (.tup [.int (cross u v), .int (cross v x), .int (cross x u)])) := Same.put ht
    refine ⟨_, rfl, t, [cross u v, cross v x, cross x u], rfl, .inl (.inl upd_same), Nat.zero_lt_succ _, fun m hm hle => ?_⟩
    refine ⟨_, _, rfl, rfl, _, rfl, ?_⟩
    have k := k _ s1
    have e : isAmid u v x = (decide (0 < cross u v ∧ 0 < cross v x ∧ 0 < cross x u) || decide (cross u v < 0 ∧ cross v x < 0 ∧ cross x u < 0)) := by
      unfold isAmid
      rw [Bool.eq_iff_iff]
      simp
    rw [e] at k
    have em := amid_min hm hle
    by_cases h : 0 < m
    · rw [decide_eq_true h]
      rw [decide_eq_true (em.mp h)] at k
      exact iteT k
    · rw [decide_eq_false h]
      rw [decide_eq_false (fun z => h (em.mpr z))] at k
      refine iteF ⟨_, rfl, t, [cross u v, cross v x, cross x u], rfl, .inl (.inl upd_same), Nat.zero_lt_succ _, fun m2 hm2 hle2 => ?_⟩
      refine ⟨_, _, rfl, rfl, ?_⟩
      have em2 := amid_max hm2 hle2
      show Q (.bl (decide (m2 < 0))) _
      have e2 : decide (m2 < 0) = decide (cross u v < 0 ∧ cross v x < 0 ∧ cross x u < 0) := by
        rw [Bool.eq_iff_iff, decide_eq_true_iff, decide_eq_true_iff]
        exact em2
      rw [e2]
      exact k
def spWith (K : PySem.W.Frag) : Sp := fun vs H Q _ => ∃ (t : Nat) (a b : Addr) (us : List Ar) (below : List Nat) (f : Nat → Ar), vs = [nv t, .ref a, .ref b] ∧ Prs K H a us ∧ (∀ u ∈ us, Sm u) ∧ Ns K H b below ∧ below.length < sizeLine ∧ (∀ m ∈ t :: below, us[m]? = some (f m)) ∧ (∀ m ∈ below, m < t) ∧ t ≤ 1000 ∧
  ∀ H', Same H H' → Q (nv (leastWith f t below below)) H'
theorem scW : FnScope ["top", "arrows", "below", "middle", "low"] ["top", "arrows", "below"] (defScope sWith) := ⟨rfl, rfl, rfl, by decide +kernel, rfl, by decide +kernel, by decide +kernel⟩
theorem drop_at {α : Type} : ∀ {l : List α} {i : Nat} {x : α}, l[i]? = some x → l.drop i = x :: l.drop (i + 1)
  | [], i, x, h => by simp at h
  | a :: l, 0, x, h => by
    have e : a = x := Option.some.inj h
    subst e
    rfl
  | a :: l, i + 1, x, h => drop_at (l := l) (i := i) h
theorem low_cons (f : Nat → Ar) (t m l : Nat) (r : List Nat) : lowOf f t m (l :: r) = if isAmid (f l) (f m) (f t) = true then 2 ^ l + 2 ^ m + 2 ^ t else lowOf f t m r := rfl
theorem with_cons (f : Nat → Ar) (t : Nat) (below : List Nat) (m : Nat) (r : List Nat) : leastWith f t below (m :: r) = if isBetween (f m) (f t) = true then 2 ^ m + 2 ^ t else if lowOf f t m (below.filter (· < m)) = 0 then leastWith f t below r else lowOf f t m (below.filter (· < m)) := rfl
theorem around_cons (f : Nat → Ar) (ms : List Nat) (t : Nat) (r : List Nat) : leastAround f ms (t :: r) = if isNothing (f t) = true then 2 ^ t else if leastWith f t (ms.filter (· < t)) (ms.filter (· < t)) = 0 then leastAround f ms r else leastWith f t (ms.filter (· < t)) (ms.filter (· < t)) := rfl
theorem ok_with {f : Addr} {fd : FuncData} (F : Fun K "least_around_with" "least_around_with" sWith f fd) (hB : Has P w K mg base "is_between" 2 ["one", "other"] (spPair K fun u v => .bl (isBetween u v)))
    (hA : Has P w K mg base "is_amid" 2 ["first", "second", "third"] (spAmid K)) (hM : Has P w K mg base "members_below" 1 ["bound", "members"] (spBelow K)) : FnOk P w K mg base CX0 3 f fd ["top", "arrows", "below"] (spWith K) := by
  refine F.ok scW (fun vs H Q E h => ?_) (fun cdv A outr s H vs Q E hr h => ?_)
  · obtain ⟨t, a, b, us, below, g, rfl, _⟩ := h
    rfl
  · obtain ⟨t, a, b, us, below, g, rfl, ⟨ts, h1, h2⟩, hs, hb, hbl, hg, hlt, ht, k⟩ := h
    have hr1 : Room 1 _ := hr.mono (by decide)
    -- the arrow of a number
    have get : ∀ m ∈ t :: below, ∃ p, ts[m]? = some p ∧ Pr K H p (g m) ∧ Sm (g m) := by
      intro m hm
      have e := hg m hm
      have hml : m < ts.length := by rw [Paired.length h2]; exact (List.getElem?_eq_some_iff.mp e).1
      obtain ⟨u, hu, hp⟩ := Paired.at h2 (List.getElem?_eq_getElem hml)
      rw [e] at hu
      cases hu
      exact ⟨_, List.getElem?_eq_getElem hml, hp, hs _ (List.mem_of_getElem? e)⟩
    have atv : ∀ {m : Nat} {p : Addr}, ts[m]? = some p → atI (ts.map V.ref) (m : Int) = some (V.ref p) := fun {m p} e => at_of rfl (by rw [List.getElem?_map, e]; rfl)
    have pw : ∀ m : Nat, m ≤ 1000 → CPow 1 (m : Int) := fun m h => ⟨by omega, by omega, by decide⟩
    obtain ⟨pt, ept, prt, smt⟩ := get t List.mem_cons_self
    refine ⟨_, pss_cons (ps_for PassesOwn.never rfl (pi_list (pv 2)) (pg_name (i := 3) scW.nd rfl (Or.inl rfl))
        (pss_cons (ps_if (pt_val (pe_has hB hr rfl (pa_cons (pe_ix ix_list (pv 1) (pv 3) (fun _ _ => rfl)) (pa_cons (pe_ix ix_list (pv 1) (pv 0) (fun _ _ => rfl)) pa_nil))))
            (pss_one (ps_ret (pe_op op_or (pe_op op_shl pe_int (pv 3)) (pe_op op_shl pe_int (pv 0))))) pss_nil)
        (pss_one (ps_for PassesOwn.never rfl (pi_list (pe_has hM hr1 rfl (pa_cons (pv 3) (pa_cons (pv 2) pa_nil)))) (pg_name (i := 4) scW.nd rfl (Or.inl rfl))
          (pss_one (ps_if (pt_val (pe_has hA hr rfl (pa_cons (pe_ix ix_list (pv 1) (pv 4) (fun _ _ => rfl)) (pa_cons (pe_ix ix_list (pv 1) (pv 3) (fun _ _ => rfl)) (pa_cons (pe_ix ix_list (pv 1) (pv 0) (fun _ _ => rfl)) pa_nil)))))
            (pss_one (ps_ret (pe_op op_or (pe_op op_or (pe_op op_shl pe_int (pv 4)) (pe_op op_shl pe_int (pv 3))) (pe_op op_shl pe_int (pv 0))))) pss_nil))))))
      (pss_one (ps_ret pe_int)), ?_⟩
    refine ⟨_, rfl, b, rfl, ⟨_, hb⟩, for_list (K := K) (a := b) (xs := below.map nv) (fun i σ H' => Same H H' ∧ (∃ v3 v4 : Option V, σ = [some (nv t), some (.ref a), some (.ref b), v3, v4]) ∧ leastWith g t below below = leastWith g t below (below.drop i))
      ⟨Same.refl _, ⟨none, none, rfl⟩, rfl⟩ (fun i σ H' _ ⟨e, _⟩ => e.seq hb) ?_ ?_⟩
    · rintro i z σ H' hz ⟨e3, ⟨v3, v4, rfl⟩, el⟩
      obtain ⟨m, hm, rfl⟩ := map_at hz
      have hmb : m ∈ below := List.mem_of_getElem? hm
      have hmt := hlt m hmb
      obtain ⟨pm, epm, prm, smm⟩ := get m (List.mem_cons_of_mem _ hmb)
      rw [drop_at hm, with_cons] at el
      refine ⟨_, rfl, _, rfl, a, _, _, _, rfl, rfl, e3.seq h1, atv epm, _, rfl, _, rfl, a, _, _, _, rfl, rfl, e3.seq h1, atv ept, pm, pt, g m, g t, rfl, prm.same e3, prt.same e3, smm, _, rfl, ?_⟩
      refine ite2 (fun c => ?_) (fun c => ?_)
      · refine ⟨_, rfl, _, _, rfl, rfl, pw m (by omega), _, rfl, _, _, rfl, rfl, pw t ht, _, _, rfl, rfl, ?_⟩
        show Q (.int _) H'
        rw [shl_one, shl_one, bitOr_nat, or_two hmt]
        have c : isBetween (g m) (g t) = true := c
        rw [if_pos c] at el
        rw [← el]
        exact k H' e3
      · have c : ¬ isBetween (g m) (g t) = true := c
        rw [if_neg c] at el
        refine ⟨_, rfl, _, rfl, m, b, below, rfl, e3.seq hb, hbl, fun H2 l s2 hN2 => ?_⟩
        have e4 := e3.trans s2
        refine ⟨l, rfl, ⟨_, hN2⟩, for_list (K := K) (a := l) (xs := (below.filter (· < m)).map nv) (fun j σ H3 => Same H2 H3 ∧ (∃ v4 : Option V, σ = [some (nv t), some (.ref a), some (.ref b), some (nv m), v4]) ∧ lowOf g t m (below.filter (· < m)) = lowOf g t m ((below.filter (· < m)).drop j))
          ⟨Same.refl _, ⟨v4, rfl⟩, rfl⟩ (fun j σ H3 _ ⟨e, _⟩ => e.seq hN2) ?_ ?_⟩
        · rintro j z σ H3 hz2 ⟨e5, ⟨v4', rfl⟩, el2⟩
          obtain ⟨lo, hlo, rfl⟩ := map_at hz2
          have hlf := List.mem_filter.mp (List.mem_of_getElem? hlo)
          have hlm : lo < m := by simpa using hlf.2
          obtain ⟨pl, epl, prl, sml⟩ := get lo (List.mem_cons_of_mem _ hlf.1)
          have e6 := e4.trans e5
          rw [drop_at hlo, low_cons] at el2
          refine ⟨_, rfl, _, rfl, a, _, _, _, rfl, rfl, e6.seq h1, atv epl, _, rfl, _, rfl, a, _, _, _, rfl, rfl, e6.seq h1, atv epm, _, rfl, _, rfl, a, _, _, _, rfl, rfl, e6.seq h1, atv ept, pl, pm, pt, g lo, g m, g t, rfl, prl.same e6, prm.same e6, prt.same e6, sml, smm, smt, fun H4 e7 => ⟨_, rfl, ?_⟩⟩
          refine ite2 (fun c2 => ?_) (fun c2 => ?_)
          · refine ⟨_, rfl, _, _, rfl, rfl, pw lo (by omega), _, rfl, _, _, rfl, rfl, pw m (by omega), _, _, rfl, rfl, _, rfl, _, _, rfl, rfl, pw t ht, _, _, rfl, rfl, ?_⟩
            show Q (.int (Builtin.bitOr (Builtin.bitOr _ _) _)) H4
            rw [shl_one, shl_one, shl_one, bitOr_nat, bitOr_nat, or_three hlm hmt]
            rw [if_pos c2] at el2
            have ne : lowOf g t m (below.filter (· < m)) ≠ 0 := by
              rw [el2]
              have := two_pos lo
              have := two_pos m
              have := two_pos t
              omega
            rw [if_neg ne, el2] at el
            rw [← el]
            exact k H4 (e6.trans e7)
          · rw [if_neg c2] at el2
            exact ⟨e5.trans e7, ⟨_, rfl⟩, el2⟩
        · rintro σ H3 ⟨e5, ⟨v4', rfl⟩, el2⟩
          rw [List.length_map, List.drop_length] at el2
          rw [if_pos (show lowOf g t m (below.filter (· < m)) = 0 from el2)] at el
          exact ⟨e4.trans e5, ⟨_, _, rfl⟩, el⟩
    · rintro σ H' ⟨e3, ⟨v3, v4, rfl⟩, el⟩
      rw [List.length_map, List.drop_length] at el
      have := k H' e3
      rw [el] at this
      exact this
def spAround (K : PySem.W.Frag) : Sp := fun vs H Q _ => ∃ (a b : Addr) (us : List Ar) (ms : List Nat) (f : Nat → Ar), vs = [.ref a, .ref b] ∧ Prs K H a us ∧ (∀ u ∈ us, Sm u) ∧ Ns K H b ms ∧ ms.length < sizeLine ∧ (∀ m ∈ ms, us[m]? = some (f m)) ∧ us.length ≤ 1000 ∧
  ∀ H', Same H H' → Q (nv (leastAround f ms ms)) H'
theorem scU : FnScope ["arrows", "members", "top", "found"] ["arrows", "members"] (defScope sAround) := ⟨rfl, rfl, rfl, by decide +kernel, rfl, by decide +kernel, by decide +kernel⟩
theorem ok_around {f : Addr} {fd : FuncData} (F : Fun K "least_around" "least_around" sAround f fd) (hN : Has P w K mg base "is_nothing" 1 ["arrow"] (spNothing K)) (hW : Has P w K mg base "least_around_with" 3 ["top", "arrows", "below"] (spWith K))
    (hM : Has P w K mg base "members_below" 1 ["bound", "members"] (spBelow K)) : FnOk P w K mg base CX0 4 f fd ["arrows", "members"] (spAround K) := by
  refine F.ok scU (fun vs H Q E h => ?_) (fun cdv A outr s H vs Q E hr h => ?_)
  · obtain ⟨a, b, us, ms, g, rfl, _⟩ := h
    rfl
  · obtain ⟨a, b, us, ms, g, rfl, ⟨ts, h1, h2⟩, hs, hb, hbl, hg, hul, k⟩ := h
    have hr1 : Room 1 _ := hr.mono (by decide)
    have atv : ∀ {m : Nat} {p : Addr}, ts[m]? = some p → atI (ts.map V.ref) (m : Int) = some (V.ref p) := fun {m p} e => at_of rfl (by rw [List.getElem?_map, e]; rfl)
    refine ⟨_, pss_cons (ps_for PassesOwn.never rfl (pi_list (pv 1)) (pg_name (i := 2) scU.nd rfl (Or.inl rfl))
        (pss_cons (ps_if (pt_val (pe_has hN hr1 rfl (pa_cons (pe_ix ix_list (pv 0) (pv 2) (fun _ _ => rfl)) pa_nil))) (pss_one (ps_ret (pe_op op_shl pe_int (pv 2)))) pss_nil)
        (pss_cons (ps_set (i := 3) scU.nd rfl (Or.inl rfl) (pe_has hW hr rfl (pa_cons (pv 2) (pa_cons (pv 0) (pa_cons (pe_has hM hr1 rfl (pa_cons (pv 2) (pa_cons (pv 1) pa_nil))) pa_nil)))))
        (pss_one (ps_if (pt_cmpR op_ne (pv 3) pe_int (nomark _)) (pss_one (ps_ret (pv 3))) pss_nil)))))
      (pss_one (ps_ret pe_int)), ?_⟩
    refine ⟨_, rfl, b, rfl, ⟨_, hb⟩, for_list (K := K) (a := b) (xs := ms.map nv) (fun i σ H' => Same H H' ∧ (∃ v2 v3 : Option V, σ = [some (.ref a), some (.ref b), v2, v3]) ∧ leastAround g ms ms = leastAround g ms (ms.drop i))
      ⟨Same.refl _, ⟨none, none, rfl⟩, rfl⟩ (fun i σ H' _ ⟨e, _⟩ => e.seq hb) ?_ ?_⟩
    · rintro i z σ H' hz ⟨e3, ⟨v2, v3, rfl⟩, el⟩
      obtain ⟨t, ht, rfl⟩ := map_at hz
      have htm : t ∈ ms := List.mem_of_getElem? ht
      have eu := hg t htm
      have htl : t < us.length := (List.getElem?_eq_some_iff.mp eu).1
      have hml : t < ts.length := by rw [Paired.length h2]; exact htl
      obtain ⟨u, hu, hp⟩ := Paired.at h2 (List.getElem?_eq_getElem hml)
      rw [eu] at hu
      cases hu
      rw [drop_at ht, around_cons] at el
      refine ⟨_, rfl, _, rfl, a, _, _, _, rfl, rfl, e3.seq h1, atv (List.getElem?_eq_getElem hml), _, g t, rfl, hp.same e3, _, rfl, ?_⟩
      refine ite2 (fun c => ?_) (fun c => ?_)
      · refine ⟨_, rfl, _, _, rfl, rfl, ⟨by omega, by omega, by decide⟩, ?_⟩
        show Q (.int _) H'
        rw [shl_one]
        rw [if_pos c] at el
        rw [← el]
        exact k H' e3
      · rw [if_neg c] at el
        refine ⟨_, rfl, _, rfl, _, rfl, _, rfl, t, b, ms, rfl, e3.seq hb, hbl, fun H2 l s2 hN2 => ?_⟩
        have e4 := e3.trans s2
        have hfl : (ms.filter (· < t)).length ≤ ms.length := List.length_filter_le _ _
        refine ⟨t, a, l, us, ms.filter (· < t), g, rfl, ⟨ts, e4.seq h1, Paired.mapP h2 fun _ _ => Pr.same e4⟩, hs, hN2, by omega, ?_, ?_, by omega, fun H3 e5 => ?_⟩
        · intro m hm
          rcases List.mem_cons.mp hm with z | z
          · rw [z]; exact eu
          · exact hg m (List.mem_filter.mp z).1
        · intro m hm
          simpa using (List.mem_filter.mp hm).2
        · refine ⟨_, rfl, rfl, _, rfl, ?_⟩
          show if (!decide (V.int _ = V.int 0)) = true then _ else _
          rw [dec_V]
          by_cases z : leastWith g t (ms.filter (· < t)) (ms.filter (· < t)) = 0
          · rw [if_pos z] at el
            rw [decide_eq_true (by rw [z]; rfl)]
            exact iteF ⟨e4.trans e5, ⟨_, _, rfl⟩, el⟩
          · rw [if_neg z] at el
            rw [decide_eq_false (by omega)]
            refine iteT ⟨_, rfl, ?_⟩
            rw [← el]
            exact k H3 (e4.trans e5)
    · rintro σ H' ⟨e3, ⟨v3, v4, rfl⟩, el⟩
      rw [List.length_map, List.drop_length] at el
      have := k H' e3
      rw [el] at this
      exact this
end
end HQ

end
section
namespace HQ
open PySem PySem.Spec PyProof.Rows L2 HP
abbrev cReader : Stmt := top 38
abbrev sRInit : Stmt := inClass cReader 0
abbrev sMore : Stmt := inClass cReader 1
abbrev sTake : Stmt := inClass cReader 2
abbrev sSeveral : Stmt := inClass cReader 3
abbrev sRow : Stmt := inClass cReader 4
def rf (a : Addr) (p : Nat) : List (Str × V) := [("numbers", .ref a), ("position", nv p)]
theorem rf_num (a : Addr) (p : Nat) : (rf a p).lookup ("numbers" : Str) = some (.ref a) := rfl
theorem rf_pos (a : Addr) (p : Nat) : (rf a p).lookup ("position" : Str) = some (nv p) := rfl
theorem rf_put (a : Addr) (p q : Nat) : putF "position" (nv q) (rf a p) = rf a q := by
  show (if ("numbers" : Str) = "position" then _ else (("numbers", V.ref a) : Str × V) :: (if ("position" : Str) = "position" then _ else _)) = _
  rw [if_neg (by decide +kernel), if_pos rfl]
  rfl
theorem rf_no (a : Addr) (p : Nat) {m : Str} (h1 : ¬ m = "numbers") (h2 : ¬ m = "position") : (rf a p).lookup m = none := by
  unfold rf
  rw [List.lookup_cons, List.lookup_cons]
  rw [show (m == ("numbers" : Str)) = false from beq_eq_false_iff_ne.mpr h1, show (m == ("position" : Str)) = false from beq_eq_false_iff_ne.mpr h2]
  rfl
def RdAt (C : Addr) (H : Hp) (r a : Addr) (p : Nat) : Prop := ∃ dx, H r = some (.ins C dx (rf a p))
def Keep (r : Addr) (H H' : Hp) : Prop := ∀ b o, H b = some o → b ≠ r → H' b = some o
theorem Keep.of {r : Addr} {H H' : Hp} (h : Same H H') : Keep r H H' := fun b o e _ => h b o e
theorem Keep.trans {r : Addr} {H H1 H2 : Hp} (a : Keep r H H1) (b : Keep r H1 H2) : Keep r H H2 := fun c o h n => b c o (a c o h n) n
theorem Keep.seq {K : PySem.W.Frag} {H H' : Hp} {r a C dx : Addr} {fs : List (Str × V)} {xs : List V} (e : Keep r H H') (hr : H r = some (.ins C dx fs)) (h : SqL K H a xs) : SqL K H' a xs := by
  rcases h with (h | ⟨o, h⟩) | h
  · exact .inl (.inl (e _ _ h (fun z => by rw [z, hr] at h; cases h)))
  · exact .inl (.inr ⟨o, e _ _ h (fun z => by rw [z, hr] at h; cases h)⟩)
  · exact .inr h
theorem Keep.upd {r : Addr} {H : Hp} {o : HO} : Keep r H (upd H r o) := fun b u e n => by rw [upd_ne n]; exact e
structure RTxt (K : PySem.W.Frag) (C : Addr) : Prop where
  cl : Cls K C
  nN : NoAttr K C "numbers"
  nP : NoAttr K C "position"
structure HasM (P : Program) (w : World) (K : PySem.W.Frag) (mg : Str → Option Value) (base : Heap) (C : Addr) (m : Str) (k : Nat) (ps : List Str) (sp : Sp) : Prop where
  ex : ∃ f fd, Meth K C m f ∧ Binds K fd ps [] ∧ FnOk P w K mg base CX0 k f fd ps sp
section
variable {X : Cx} {C : Addr} {m : Str} {k : Nat} {ps : List Str} {sp : Sp} {o e : Expr} {es : List Expr} {apos pos : Pos} {ta : TE} {t : TA}
theorem pe_hasm {pl : Sem Bool} (h : HasM X.prog X.w X.K X.mg X.base C m k ps sp) (c : Cls X.K C) (hr : Room k X.A) (he : PE X o ta) (ha : PA X (e :: es) t)
    (hst : starEach (e :: es) X.env = (false, eval e X.env) :: starEach es X.env := by rfl) (hpl : (backTo pos (starEach es X.env)).any (·.1) = false := by rfl)
    (ht : eval (.Call (.Attribute o m apos) (e :: es) [] pos) X.env = (do
      let ov ← eval o X.env
      standAt apos.atName
      let (f, first) ← holding [ov] (getMethod ov m pl)
      callWith pos f first (backTo pos (starEach (e :: es) X.env)) (backToKw pos (keywordEach [] X.env))) := by rfl) :
    PE X (.Call (.Attribute o m apos) (e :: es) [] pos) (tMeth C m sp [] E0 ta t) := by
  obtain ⟨f, fd, h1, h2, h3⟩ := h.ex
  exact pe_meth he c h1 h3 hr h2 .nil pass0 ha hst hpl ht
theorem pe_hasm0 {pl : Sem Bool} (h : HasM X.prog X.w X.K X.mg X.base C m k ps sp) (c : Cls X.K C) (hr : Room k X.A) (he : PE X o ta)
    (ht : eval (.Call (.Attribute o m apos) [] [] pos) X.env = (do
      let ov ← eval o X.env
      standAt apos.atName
      let (f, first) ← holding [ov] (getMethod ov m pl)
      callWith pos f first (backTo pos (starEach [] X.env)) (backToKw pos (keywordEach [] X.env))) := by rfl) :
    PE X (.Call (.Attribute o m apos) [] [] pos) (tMeth C m sp [] E0 ta tNil) := by
  obtain ⟨f, fd, h1, h2, h3⟩ := h.ex
  exact pe_meth0 he c h1 h3 hr h2 .nil pass0 ht
end
section
variable {P : Program} {w : World} {K : PySem.W.Frag} {mg : Str → Option Value} {base : Heap} {C : Addr}
def spRInit (C : Addr) : Sp := fun vs H Q _ => ∃ (r a dx : Addr), vs = [.ref r, .ref a] ∧ H r = some (.ins C dx []) ∧ ∀ H', RdAt C H' r a 0 → Keep r H H' → Q .non H'
theorem scRI : FnScope ["self", "numbers"] ["self", "numbers"] (defScope sRInit) := ⟨rfl, rfl, rfl, by decide +kernel, rfl, by decide +kernel, by decide +kernel⟩
theorem rf_make (a : Addr) : putF "position" (nv 0) (putF "numbers" (.ref a) []) = rf a 0 := by
  show (if ("numbers" : Str) = "position" then _ else _) = _
  rw [if_neg (by decide +kernel)]
  rfl
theorem ok_rinit {f : Addr} {fd : FuncData} (F : Fun K "__init__" "Reader.__init__" sRInit f fd) (T : RTxt K C) : FnOk P w K mg base CX0 1 f fd ["self", "numbers"] (spRInit C) := by
  refine F.ok scRI (fun vs H Q E h => ?_) (fun cdv A outr s H vs Q E hr h => ?_)
  · obtain ⟨r, a, dx, rfl, _⟩ := h
    rfl
  · obtain ⟨r, a, dx, rfl, hp, k⟩ := h
    refine ⟨_, pss_cons (ps_fld (pv 0) (pv 1) rfl) (pss_one (ps_fld (pv 0) pe_int rfl)), ?_⟩
    refine ⟨_, rfl, _, rfl, r, C, dx, [], rfl, hp, T.cl, T.nN, (by show 0 < 1000; decide), _, rfl, r, C, dx, _, rfl, upd_same, T.cl, T.nP, (by show 1 < 1000; decide), ?_⟩
    refine k _ ⟨dx, ?_⟩ (Keep.trans Keep.upd Keep.upd)
    rw [upd_same]
    exact congrArg (fun q => some (HO.ins C dx q)) (rf_make a)
def spMore (K : PySem.W.Frag) (C : Addr) : Sp := fun vs H Q _ => ∃ (r a : Addr) (p : Nat) (ns : List Int), vs = [.ref r] ∧ RdAt C H r a p ∧ SqL K H a (ns.map V.int) ∧ Q (.bl (decide (p < ns.length))) H
theorem scMo : FnScope ["self"] ["self"] (defScope sMore) := ⟨rfl, rfl, rfl, by decide +kernel, rfl, by decide +kernel, by decide +kernel⟩
theorem ok_more {f : Addr} {fd : FuncData} (F : Fun K "has_more" "Reader.has_more" sMore f fd) (T : RTxt K C) (hlen : mg "len" = none) : FnOk P w K mg base CX0 1 f fd ["self"] (spMore K C) := by
  refine F.ok scMo (fun vs H Q E h => ?_) (fun cdv A outr s H vs Q E hr h => ?_)
  · obtain ⟨r, a, p, ns, rfl, _⟩ := h
    rfl
  · obtain ⟨r, a, p, ns, rfl, ⟨dx, h1⟩, h2, k⟩ := h
    refine ⟨_, pss_one (ps_ret (pe_cmpR op_lt (pe_fld (pv 0) rfl) (pe_callB call_len_seq (by rfl) hlen PySem.boot_len (pa_cons (pe_fld (pv 0) rfl) pa_nil)) (nomark _))), ?_⟩
    refine ⟨_, rfl, r, C, dx, _, _, rfl, h1, T.cl, T.nP, rf_pos _ _, _, rfl, r, C, dx, _, _, rfl, h1, T.cl, T.nN, rf_num _ _, a, _, rfl, .inl h2, _, _, rfl, rfl, ?_⟩
    have e : decide ((p : Int) < ((ns.map V.int).length : Int)) = decide (p < ns.length) := by
      rw [List.length_map, Bool.eq_iff_iff, decide_eq_true_iff, decide_eq_true_iff]
      omega
    show Q (.bl (decide ((p : Int) < ((ns.map V.int).length : Int)))) H
    rw [e]
    exact k
def spTake (K : PySem.W.Frag) (C : Addr) : Sp := fun vs H Q _ => ∃ (r a : Addr) (p : Nat) (ns : List Int) (z : Int), vs = [.ref r] ∧ RdAt C H r a p ∧ SqL K H a (ns.map V.int) ∧ ns[p]? = some z ∧ ∀ H', RdAt C H' r a (p + 1) → Keep r H H' → Q (.int z) H'
theorem scTa : FnScope ["self", "number"] ["self"] (defScope sTake) := ⟨rfl, rfl, rfl, by decide +kernel, rfl, by decide +kernel, by decide +kernel⟩
theorem ok_take {f : Addr} {fd : FuncData} (F : Fun K "take" "Reader.take" sTake f fd) (T : RTxt K C) : FnOk P w K mg base CX0 1 f fd ["self"] (spTake K C) := by
  refine F.ok scTa (fun vs H Q E h => ?_) (fun cdv A outr s H vs Q E hr h => ?_)
  · obtain ⟨r, a, p, ns, z, rfl, _⟩ := h
    rfl
  · obtain ⟨r, a, p, ns, z, rfl, ⟨dx, h1⟩, h2, h3, k⟩ := h
    refine ⟨_, pss_cons (ps_set (i := 1) scTa.nd rfl (Or.inl rfl) (pe_ix ix_list (pe_fld (pv 0) rfl) (pe_fld (pv 0) rfl) (fun _ _ => rfl))) (pss_cons (ps_fldaug (pv 0) pe_int in_add) (pss_one (ps_ret (pv 1)))), ?_⟩
    refine ⟨_, rfl, r, C, dx, _, _, rfl, h1, T.cl, T.nN, rf_num _ _, _, rfl, r, C, dx, _, _, rfl, h1, T.cl, T.nP, rf_pos _ _, a, _, _, .int z, rfl, rfl, h2, at_of rfl (by rw [List.getElem?_map, h3]; rfl), ?_⟩
    refine ⟨_, rfl, r, C, dx, _, _, rfl, h1, T.cl, T.nP, rf_pos _ _, _, _, rfl, rfl, dx, _, h1, (by show 2 < 1000; decide), _, rfl, ?_⟩
    refine k _ ⟨dx, ?_⟩ Keep.upd
    rw [upd_same]
    exact congrArg (fun q => some (HO.ins C dx q)) (rf_put a p (p + 1))
def spSeveral (K : PySem.W.Frag) (C : Addr) : Sp := fun vs H Q _ => ∃ (r a : Addr) (p n : Nat) (ns : List Int), vs = [.ref r, nv n] ∧ RdAt C H r a p ∧ SqL K H a (ns.map V.int) ∧ p + n ≤ ns.length ∧
  ∀ (H' : Hp) (l : Addr), RdAt C H' r a (p + n) → Keep r H H' → H l = none → H' l = some (.lst (((ns.drop p).take n).map V.int)) → Q (.ref l) H'
theorem scSe : FnScope ["self", "size", "start"] ["self", "size"] (defScope sSeveral) := ⟨rfl, rfl, rfl, by decide +kernel, rfl, by decide +kernel, by decide +kernel⟩
theorem cut_eq (ns : List Int) (p n : Nat) (h : p + n ≤ ns.length) : cutV (ns.map V.int) (some (p : Int)) (some ((p : Int) + (n : Int))) = ((ns.drop p).take n).map V.int := by
  unfold cutV
  rw [List.length_map]
  have e1 : HT.sIx ns.length 0 (some (p : Int)) = p := by
    simp only [HT.sIx]
    split <;> omega
  have e2 : HT.sIx ns.length ns.length (some ((p : Int) + (n : Int))) = p + n := by
    simp only [HT.sIx]
    split <;> omega
  rw [e1, e2, Nat.add_sub_cancel_left, List.map_take, List.map_drop]
theorem ok_several {f : Addr} {fd : FuncData} (F : Fun K "take_several" "Reader.take_several" sSeveral f fd) (T : RTxt K C) : FnOk P w K mg base CX0 1 f fd ["self", "size"] (spSeveral K C) := by
  refine F.ok scSe (fun vs H Q E h => ?_) (fun cdv A outr s H vs Q E hr h => ?_)
  · obtain ⟨r, a, p, n, ns, rfl, _⟩ := h
    rfl
  · obtain ⟨r, a, p, n, ns, rfl, ⟨dx, h1⟩, h2, h3, k⟩ := h
    refine ⟨_, pss_cons (ps_set (i := 2) scSe.nd rfl (Or.inl rfl) (pe_fld (pv 0) rfl)) (pss_cons (ps_fldaug (pv 0) (pv 1) in_add) (pss_one (ps_ret (pe_slice sl_list (pe_fld (pv 0) rfl) (po_some (pv 2)) (po_some (pe_fld (pv 0) rfl)))))), ?_⟩
    have ep : putF "position" (V.int ((p : Int) + (n : Int))) (rf a p) = rf a (p + n) := by
      have := rf_put a p (p + n)
      unfold nv at this
      rw [Int.natCast_add] at this
      exact this
    refine ⟨_, rfl, r, C, dx, _, _, rfl, h1, T.cl, T.nP, rf_pos _ _, _, rfl, r, C, dx, _, _, rfl, h1, T.cl, T.nP, rf_pos _ _, _, rfl, _, _, rfl, rfl, dx, _, h1, (by show 2 < 1000; decide), ?_⟩
    have hk : Keep r H (upd H r (.ins C dx (putF "position" (V.int ((p : Int) + (n : Int))) (rf a p)))) := Keep.upd
    rw [ep] at hk
    have hr' : upd H r (.ins C dx (rf a (p + n))) r = some (.ins C dx (rf a (p + n))) := upd_same
    rw [ep]
    refine ⟨_, rfl, r, C, dx, _, _, rfl, hr', T.cl, T.nN, rf_num _ _, _, rfl, _, rfl, _, rfl, r, C, dx, _, _, rfl, hr', T.cl, T.nP, rf_pos _ _, _, rfl, a, _, rfl, hk.seq h1 h2, fun l hl => ?_⟩
    have hlr : l ≠ r := fun z => by rw [z, hr'] at hl; cases hl
    have hl0 : H l = none := by rw [upd_ne hlr] at hl; exact hl
    refine k _ l ⟨dx, ?_⟩ (Keep.trans hk (Keep.of (Same.put hl))) hl0 ?_
    · rw [upd_ne (Ne.symm hlr)]
      exact hr'
    · rw [upd_same]
      have := cut_eq ns p n h3
      rw [← this]
      show some (HO.lst (cutV _ (some (p : Int)) (some ((p + n : Nat) : Int)))) = _
      rw [Int.natCast_add]
def spRow (K : PySem.W.Frag) (C : Addr) : Sp := fun vs H Q _ => ∃ (r a : Addr) (p n : Nat) (ns : List Int), vs = [.ref r] ∧ RdAt C H r a p ∧ SqL K H a (ns.map V.int) ∧ ns[p]? = some (n : Int) ∧ p + 1 + n ≤ ns.length ∧
  ∀ (H' : Hp) (l : Addr), RdAt C H' r a (p + 1 + n) → Keep r H H' → H l = none → H' l = some (.lst (((ns.drop (p + 1)).take n).map V.int)) → Q (.ref l) H'
theorem scRo : FnScope ["self"] ["self"] (defScope sRow) := ⟨rfl, rfl, rfl, by decide +kernel, rfl, by decide +kernel, by decide +kernel⟩
theorem ok_row {f : Addr} {fd : FuncData} (F : Fun K "take_row" "Reader.take_row" sRow f fd) (T : RTxt K C) (hT : HasM P w K mg base C "take" 1 ["self"] (spTake K C)) (hS : HasM P w K mg base C "take_several" 1 ["self", "size"] (spSeveral K C)) :
    FnOk P w K mg base CX0 2 f fd ["self"] (spRow K C) := by
  refine F.ok scRo (fun vs H Q E h => ?_) (fun cdv A outr s H vs Q E hr h => ?_)
  · obtain ⟨r, a, p, n, ns, rfl, _⟩ := h
    rfl
  · obtain ⟨r, a, p, n, ns, rfl, ⟨dx, h1⟩, h2, h3, h4, k⟩ := h
    refine ⟨_, pss_one (ps_ret (pe_hasm hS T.cl hr (pv 0) (pa_cons (pe_hasm0 hT T.cl hr (pv 0)) pa_nil))), ?_⟩
    refine ⟨_, rfl, r, dx, _, rfl, h1, rf_no _ _ (by decide +kernel) (by decide +kernel), _, rfl, r, dx, _, rfl, h1, rf_no _ _ (by decide +kernel) (by decide +kernel), r, a, p, ns, n, rfl, ⟨dx, h1⟩, h2, h3, fun H1 hR1 k1 => ?_⟩
    refine ⟨r, a, p + 1, n, ns, rfl, hR1, k1.seq h1 h2, h4, fun H2 l hR2 k2 hl hll => ?_⟩
    refine k H2 l hR2 (Keep.trans k1 k2) ?_ hll
    cases e : H l with
    | none => rfl
    | some o =>
      by_cases z : l = r
      · obtain ⟨dx', h1'⟩ := hR1
        rw [z, h1'] at hl
        cases hl
      · rw [k1 l o e z] at hl
        cases hl
end
end HQ

end
section
namespace HQ
open PySem PySem.Spec PyProof.Rows L2 HP
section
variable {X : Cx}
theorem mt_bitlen : MtR X "int.bit_length" (fun x xs H Q => ∃ i : Int, x = .int i ∧ xs = [] ∧ Q (.int (Builtin.Int.intBits i : Nat)) H) := by
  intro pins s σ H x xs v us Q I rx rs h
  obtain ⟨i, rfl, rfl, h⟩ := h
  obtain ⟨t, rfl⟩ := rx
  cases rs
  exact call_gives F.slot_int_bit_length (typeIs_int s _ t) F.entry_int_bit_length (F.args_int_bit_length_1 _) (AutoIntG2.int_bit_length_int_0 i t) ⟨.int _, H, I.tok _, ⟨_, rfl⟩, h⟩
end
def Its (lo st : Int) (n : Nat) : It := ⟨fun i _ => i < n, fun i H x H' => H' = H ∧ x = .int (lo + i * st), fun i _ => n ≤ i⟩
theorem turn_step {P : Program} {w : World} {K : PySem.W.Frag} {tg : Expr} (it : Addr) (lo st : Int) (n : Nat) : Turn P w K tg (Its lo st n) [it] it (fun i h => IsRangeIter h it (lo + (i : Nat) * st) ((n : Int) - (i : Nat)) st) where
  mem := by simp
  obj := fun i h st b hb => by
    have e : b = it := by simpa using hb
    subst e
    exact ⟨_, st, fun v z => by
      have z' : Data.fields _ = Data.cell v := z
      cases z'⟩
  keep := fun i h h' st k => k it (by simp) _ st
  item := by
    intro X hP hw hK hc i pins s σ H E I hf sg hg
    subst hP hw hK
    obtain ⟨f0, f1, f2, f3, f4, f5⟩ := hf it (by simp)
    have W := Walks.range (prog := X.prog) (w := X.w) (I.ok.hd hc) it lo st n
    refine W.item i s _ _ hg sg fun v h' tk hv st' kk => ?_
    obtain ⟨t, rfl⟩ := hv
    have I1 : Inv X pins σ H { s with heap := h', toks := tk } := I.turned (fun b o hb e => kk b o (by simpa using hb) e) f0 f1 f3 f4 f5
    exact ⟨_, rfl, go_of (s := { s with heap := h', toks := tk }) (n := "range_iterator") st' rfl rfl (by decide) ⟨.int (lo + i * st), H, I1, ⟨t, rfl⟩, ⟨rfl, rfl⟩, st', fun b hb => (hf b hb).1⟩⟩
  done := by
    intro X hP hw hK hc i pins s σ H E I hf sg hg
    subst hP hw hK
    obtain ⟨f0, f1, f2, f3, f4, f5⟩ := hf it (by simp)
    exact wpAny_pyNext_range_end (I.ok.hd hc) sg (by have : n ≤ i := hg; omega) fun h' eb => ⟨rfl, I.turned (t' := s.toks) (fun b o hb e => eb b o hb e) f0 f1 f3 f4 f5⟩
  self := fun _ _ _ _ _ st h => wpAny_pyIter_rangeiter st h
section
variable {X : Cx} {tg : Expr}
def stepOk (lo hi st : Int) (n : Nat) : Prop := st ≠ 0 ∧ st.natAbs < 1073741824 ∧ Builtin.Range.small lo hi st = true ∧ Builtin.Range.rangeSize lo hi st = (n : Int)
theorem step_it {pins : List (Addr × Obj)} {σ : L2.St} {H : Hp} {s : Shared} {R : It → Hp → Prop} {E : Value → Shared → Prop} {lo hi st : Int} {n : Nat} {t u v : Tok} {tk : Nat} (I : Inv X pins σ H s) (ok : stepOk lo hi st n)
    (q : R (Its lo st n) H) : wpAny (model X.prog X.w) X.A (pyIter (.ref s.heap.objs.size)) (PIE X pins σ tg R) E { s with heap := s.heap.push { cls := .type "range", data := .fields #[.int lo t, .int hi u, .int st v] }, toks := tk } := by
  refine wpAny_pyIter_range (IsRange.new ..) ok.2.2.1 ?_
  have I1 : Inv X pins σ H { s with heap := s.heap.push { cls := .type "range", data := .fields #[.int lo t, .int hi u, .int st v] }, toks := tk } := I.kept fun b o e => Heap.get?_push_of_some _ e
  refine ⟨(s.heap.push { cls := .type "range", data := .fields #[.int lo t, .int hi u, .int st v] }).objs.size, [(s.heap.push { cls := .type "range", data := .fields #[.int lo t, .int hi u, .int st v] }).objs.size], _, _, H, rfl,
    I1.kept (t' := tk) fun b o e => Heap.get?_push_of_some _ e, turn_step _ lo st n, ?_, fun b hb => ?_, q⟩
  · have e1 : lo + ((0 : Nat) : Int) * st = lo := by simp
    have e2 : ((n : Nat) : Int) - ((0 : Nat) : Int) = Builtin.Range.rangeSize lo hi st := by rw [ok.2.2.2]; simp
    show IsRangeIter _ _ (lo + ((0 : Nat) : Int) * st) (((n : Nat) : Int) - ((0 : Nat) : Int)) st
    rw [e1, e2]
    exact Heap.get?_push_size _ rfl
  · have e : b = (s.heap.push { cls := .type "range", data := .fields #[.int lo t, .int hi u, .int st v] }).objs.size := by simpa using hb
    subst e
    exact I1.fpOk (Nat.le_refl _) (I1.hok.fresh (Nat.le_refl _))
def iRng3 (ta : TA) : TI := fun σ H R => ta σ H fun vs H1 => ∃ (i j k : Int) (n : Nat), vs = [.int i, .int j, .int k] ∧ stepOk i j k n ∧ R (Its i k n) H1
theorem pi_range3 {a b c : Expr} {ta : TA} {p pos : Pos} (hg : Gl X "range") (hm : X.mg "range" = none) (ha : PA X [a, b, c] ta) (hs : starEach [a, b, c] X.env = (false, eval a X.env) :: starEach [b, c] X.env := by rfl) (hs2 : (backTo pos (starEach [b, c] X.env)).any (·.1) = false := by rfl) :
    PI X tg (.Call (.Name "range" p) [a, b, c] [] pos) (iRng3 ta) := by
  intro pins s σ H R I h
  refine Call_ (ld_blt I hg hm boot_range (PyProof.Rows.callWith_type1 (thn (ha pos pins s σ H _ I h) fun us s1 ⟨vs, H1, I1, r1, q1⟩ => ?_) hs hs2))
  obtain ⟨i, j, k, n, e, ok, q⟩ := q1
  subst e
  cases r1 with
  | cons r rr =>
    cases rr with
    | cons r' rr =>
      cases rr with
      | cons r2 rr =>
        cases rr
        obtain ⟨t, rfl⟩ := r
        obtain ⟨t', rfl⟩ := r'
        obtain ⟨t2, rfl⟩ := r2
        exact call_range_3 ok.1 (step_it I1 ok q) (.inl (PyProof.noPylong_small ok.2.1))
end
theorem lc_step {lo st : Int} {n : Nat} {g : TG} {tt : TT} {te : TE} {vs : List Nat} {σ : L2.St} {H1 : Hp} {D : Addr} {Qd : Hp → Prop} (Pv : Nat → Hp → Prop) (h0 : Pv 0 (upd H1 D (.lst [])))
    (hs : ∀ i H, i < n → Pv i H → g (.int (lo + i * st)) (wipe σ vs) H fun σ2 H2 => wipe σ2 vs = wipe σ vs ∧ tt σ2 H2 fun b H3 =>
      if b = true then te σ2 H3 fun y H4 => ∃ acc, H4 D = some (.lst acc) ∧ acc.length < sizeLine ∧ Pv (i + 1) (upd H4 D (.lst (acc ++ [y]))) else Pv (i + 1) H3) (hd : ∀ H, Pv n H → Qd H) :
    ∃ W : Nat → Nat → Hp → Prop, (∃ m, W 0 m (upd H1 D (.lst []))) ∧ ∀ i m H, W i m H →
      ((Its lo st n).stop i H ∧ Qd H) ∨ ((Its lo st n).go i H ∧ ∃ Nx : Hp → Prop, (∀ H', Nx H' → ∃ m', m' < m ∧ W (i + 1) m' H') ∧ ∀ x H', (Its lo st n).yld i H x H' → g x (wipe σ vs) H' fun σ2 H2 => wipe σ2 vs = wipe σ vs ∧ tt σ2 H2 fun b H3 =>
        if b = true then te σ2 H3 fun y H4 => ∃ acc, H4 D = some (.lst acc) ∧ acc.length < sizeLine ∧ Nx (upd H4 D (.lst (acc ++ [y]))) else Nx H3) := by
  refine ⟨fun i m H => m = n - i ∧ i ≤ n ∧ Pv i H, ⟨n, by simp, Nat.zero_le _, h0⟩, ?_⟩
  rintro i m H ⟨rfl, hi, p⟩
  by_cases hlt : i < n
  · refine .inr ⟨hlt, Pv (i + 1), fun H' p' => ⟨n - (i + 1), by omega, rfl, hlt, p'⟩, fun x H' y => ?_⟩
    obtain ⟨e, y⟩ := y
    subst e y
    exact hs i _ hlt p
  · have e : i = n := by omega
    subst e
    exact .inl ⟨Nat.le_refl _, hd H p⟩
end HQ

end
section
namespace HQ
open PySem PySem.Spec PyProof.Rows L2 HP
abbrev sArePts : Stmt := top 56
abbrev sPaired : Stmt := top 57
abbrev sIsPlace : Stmt := top 58
abbrev sMembers : Stmt := top 60
def Const (mg : Str → Option Value) (x : Str) (n : Int) : Prop := ∃ t, mg x = some (.int n t)
theorem pe_const {X : Cx} {x : Str} {n : Int} {pos : Pos} (hg : Gl X x) (h : Const X.mg x n) (hd : (x == ("__debug__" : Str)) = false := by decide) : PE X (.Name x pos) (tC (.int n)) := by
  obtain ⟨t, e⟩ := h
  exact pe_glob hg e ⟨t, rfl⟩ hd
section
variable {P : Program} {w : World} {K : PySem.W.Frag} {mg : Str → Option Value} {base : Heap}
def inFar (x : Int) : Bool := decide (-1099511627776 ≤ x) && decide (x ≤ 1099511627776)
def isPlace (x y d : Int) : Bool := inFar x && (inFar y && (decide (1 ≤ d) && decide (d ≤ 1099511627776)))
theorem place_eq (x y d : Int) : isPlace x y d = Rc70.placeOk x y d := by
  unfold isPlace inFar Rc70.placeOk
  rw [Bool.eq_iff_iff]
  simp only [Bool.and_eq_true, decide_eq_true_iff]
  have e : (2 : Int) ^ 40 = 1099511627776 := by decide
  rw [e]
def spIsPlace (K : PySem.W.Frag) : Sp := fun vs H Q _ => ∃ (a : Addr) (x y d : Int), vs = [.ref a] ∧ SqL K H a [.int x, .int y, .int d] ∧ Q (.bl (isPlace x y d)) H
theorem scIP : FnScope ["place"] ["place"] (defScope sIsPlace) := ⟨rfl, rfl, rfl, by decide +kernel, rfl, by decide +kernel, by decide +kernel⟩
theorem ok_isplace {f : Addr} {fd : FuncData} (F : Fun K "is_place" "is_place" sIsPlace f fd) (hF : Const mg "FARTHEST_PLACE" 1099511627776) : FnOk P w K mg base CX0 1 f fd ["place"] (spIsPlace K) := by
  refine F.ok scIP (fun vs H Q E h => ?_) (fun cdv A outr s H vs Q E hr h => ?_)
  · obtain ⟨a, x, y, d, rfl, _⟩ := h
    rfl
  · obtain ⟨a, x, y, d, rfl, ha, k⟩ := h
    refine ⟨_, pss_cons (ps_if (pt_not (pt_chain op_le op_le (pe_un un_neg (pe_const rfl hF)) (pe_ix ix_list (pv 0) pe_int (fun _ _ => rfl)) (pe_const rfl hF))) (pss_one (ps_ret pe_bl)) pss_nil)
      (pss_cons (ps_if (pt_not (pt_chain op_le op_le (pe_un un_neg (pe_const rfl hF)) (pe_ix ix_list (pv 0) pe_int (fun _ _ => rfl)) (pe_const rfl hF))) (pss_one (ps_ret pe_bl)) pss_nil)
      (pss_one (ps_ret (pe_chain op_le op_le pe_int (pe_ix ix_list (pv 0) pe_int (fun _ _ => rfl)) (pe_const rfl hF))))), ?_⟩
    unfold isPlace inFar at k
    refine ⟨_, rfl, _, rfl, a, _, _, _, rfl, rfl, ha, rfl, _, _, rfl, rfl, _, rfl, ?_⟩
    by_cases h1 : -1099511627776 ≤ x
    · rw [decide_eq_true h1] at k ⊢
      refine iteT ⟨_, _, rfl, rfl, _, rfl, ?_⟩
      by_cases h2 : x ≤ 1099511627776
      · rw [decide_eq_true h2] at k ⊢
        refine iteF ⟨_, rfl, _, rfl, a, _, _, _, rfl, rfl, ha, rfl, _, _, rfl, rfl, _, rfl, ?_⟩
        by_cases h3 : -1099511627776 ≤ y
        · rw [decide_eq_true h3] at k ⊢
          refine iteT ⟨_, _, rfl, rfl, _, rfl, ?_⟩
          by_cases h4 : y ≤ 1099511627776
          · rw [decide_eq_true h4] at k ⊢
            refine iteF ⟨_, rfl, a, _, _, _, rfl, rfl, ha, rfl, _, _, rfl, rfl, _, rfl, ?_⟩
            by_cases h5 : 1 ≤ d
            · rw [decide_eq_true h5] at k ⊢
              exact iteT ⟨_, _, rfl, rfl, k⟩
            · rw [decide_eq_false h5] at k ⊢
              exact iteF k
          · rw [decide_eq_false h4] at k ⊢
            exact iteT k
        · rw [decide_eq_false h3] at k ⊢
          exact iteF ⟨_, rfl, iteT k⟩
      · rw [decide_eq_false h2] at k ⊢
        exact iteT k
    · rw [decide_eq_false h1] at k ⊢
      exact iteF ⟨_, rfl, iteT k⟩
theorem bits_le {s n : Nat} (h : s < 2 ^ n) : Builtin.Int.intBits (s : Int) ≤ n ∧ s < 2 ^ Builtin.Int.intBits (s : Int) := by
  unfold Builtin.Int.intBits
  by_cases z : s = 0
  · subst z
    exact ⟨Nat.zero_le _, by decide⟩
  · rw [if_neg (by simp; omega)]
    rw [Int.natAbs_natCast]
    exact ⟨(Nat.log2_lt z).mpr h, Nat.lt_log2_self⟩
theorem members_bits {s n : Nat} (h : s < 2 ^ n) : (List.range (Builtin.Int.intBits (s : Int))).filter (fun i => s.testBit i) = (List.range n).filter fun i => s.testBit i := by
  obtain ⟨h1, h2⟩ := bits_le h
  generalize Builtin.Int.intBits (s : Int) = b at h1 h2
  obtain ⟨k, rfl⟩ : ∃ k, n = b + k := ⟨n - b, by omega⟩
  rw [List.range_add, List.filter_append]
  have e : (List.map (fun x => b + x) (List.range k)).filter (fun i => s.testBit i) = [] := by
    rw [List.filter_eq_nil_iff]
    intro i hi
    obtain ⟨j, _, rfl⟩ := List.mem_map.mp hi
    have : s < 2 ^ (b + j) := Nat.lt_of_lt_of_le h2 (Nat.pow_le_pow_right (by decide) (by omega))
    rw [Nat.testBit_lt_two_pow this]
    decide
  rw [e, List.append_nil]
def spMembers (K : PySem.W.Frag) : Sp := fun vs H Q _ => ∃ (s n : Nat), vs = [nv s] ∧ s < 2 ^ n ∧ n ≤ 1000 ∧ ∀ (H' : Hp) (l : Addr), Same H H' → Ns K H' l ((List.range n).filter fun i => s.testBit i) → Q (.ref l) H'
theorem scMe : FnScope ["chosen", "number"] ["chosen"] (defScope sMembers) := ⟨rfl, rfl, rfl, by decide +kernel, rfl, by decide +kernel, by decide +kernel⟩
theorem bkMe : BlkOk ["chosen", "number"] (defScope sMembers) { kind := ScopeKind.function, names := [(".0", .local), ("number", .local), ("chosen", .free)], isGenerator := false, isCoroutine := false } [("number", 1)] := blkOk_by (by decide +kernel)
theorem shr_bit (s i : Nat) : decide (V.int (Builtin.bitAnd ((s : Int) / 2 ^ ((0 : Int) + (i : Int)).toNat) 1) = V.int 1) = s.testBit i := by
  rw [dec_V, bitAnd_m1, Int.zero_add, Int.toNat_natCast, Nat.testBit_eq_decide_div_mod_eq, Bool.eq_iff_iff, decide_eq_true_iff, decide_eq_true_iff]
  have e : (s : Int) / 2 ^ i % 2 = ((s / 2 ^ i % 2 : Nat) : Int) := by
    rw [Int.natCast_emod, Int.natCast_ediv, Int.natCast_pow]
    rfl
  rw [e]
  omega
theorem ok_members {f : Addr} {fd : FuncData} (F : Fun K "members_of" "members_of" sMembers f fd) (hrange : mg "range" = none) : FnOk P w K mg base CX0 1 f fd ["chosen"] (spMembers K) := by
  refine F.ok scMe (fun vs H Q E h => ?_) (fun cdv A outr s H vs Q E hr h => ?_)
  · obtain ⟨c, n, rfl, _⟩ := h
    rfl
  · obtain ⟨c, n, rfl, hc, hn, k⟩ := h
    refine ⟨_, pss_one (ps_ret (pe_lc (own := [("number", 1)]) rfl scMe.nd (pi_range1 rfl hrange (pa_cons (pe_bm0 PySem.F.plainAttrs_int PySem.F.slot_int_bit_length PySem.F.type_int_bit_length mt_bitlen (pv 0)) pa_nil)) bkMe
      (fun s H C cl fp => pg_name (i := 1) scMe.nd rfl (Or.inl rfl)) (fun s H C cl fp => pts_one (pt_cmpR op_eq (pe_op op_and (pe_op op_shr (pv 0) (pv 1)) pe_int) pe_int (nomark _))) (fun s H C cl fp => pv 1))), ?_⟩
    obtain ⟨hb, _⟩ := bits_le hc
    refine ⟨_, rfl, rfl, _, rfl, rfl, _, rfl, by omega, by omega, fun D hD => ?_⟩
    rw [Int.toNat_natCast]
    refine lc_range (fun i H' => H' D = some (.lst (((List.range i).filter fun j => c.testBit j).map nv)) ∧ Same H H') ?_ ?_ ?_
    · exact ⟨upd_same, Same.put hD⟩
    · rintro i H' hi ⟨e1, e3⟩
      refine ⟨rfl, _, rfl, _, rfl, _, _, rfl, rfl, (by omega), _, _, rfl, rfl, rfl, _, rfl, ?_⟩
      show if decide (V.int (Builtin.bitAnd ((c : Int) / 2 ^ ((0 : Int) + (i : Int)).toNat) 1) = V.int 1) = true then _ else _
      rw [shr_bit, List.range_succ, filter_snoc']
      by_cases z : c.testBit i = true
      · rw [z]
        refine iteT ⟨_, rfl, _, e1, ?_, ?_⟩
        · rw [List.length_map]
          have : ((List.range i).filter fun j => c.testBit j).length ≤ (List.range i).length := List.length_filter_le _ _
          rw [List.length_range] at this
          rw [sizeLine_eq]
          omega
        · refine ⟨?_, Same.own hD e3⟩
          rw [upd_same, if_pos rfl, List.map_append]
          show some (HO.lst (_ ++ [V.int ((0 : Int) + (i : Int))])) = some (HO.lst (_ ++ [V.int (i : Int)]))
          rw [Int.zero_add]
      · have z : c.testBit i = false := by simpa using z
        rw [z]
        refine iteF ⟨?_, e3⟩
        rw [if_neg (by decide)]
        exact e1
    · rintro H' ⟨e1, e3⟩
      rw [members_bits hc] at e1
      exact k H' D e3 (SqL.of e1)
end
end HQ

end
section
namespace HQ
open PySem PySem.Spec PyProof.Rows L2 HP
section
variable {P : Program} {w : World} {K : PySem.W.Frag} {mg : Str → Option Value} {base : Heap}
def inTen (z : Int) : Bool := decide (-10000 ≤ z) && decide (z ≤ 10000)
def arePts (cs : List Int) : Bool := (decide (2 ≤ cs.length) && decide (cs.length ≤ 48)) && cs.all inTen
def spArePts (K : PySem.W.Frag) : Sp := fun vs H Q _ => ∃ (a : Addr) (cs : List Int), vs = [.ref a] ∧ SqL K H a (cs.map V.int) ∧ cs.length < sizeLine ∧ ∀ H', Same H H' → Q (.bl (arePts cs)) H'
theorem scAP : FnScope ["coordinates", "number"] ["coordinates"] (defScope sArePts) := ⟨rfl, rfl, rfl, by decide +kernel, rfl, by decide +kernel, by decide +kernel⟩
theorem bkAP : BlkOk ["coordinates", "number"] (defScope sArePts) { kind := ScopeKind.function, names := [(".0", .local), ("number", .local), ("FARTHEST_POINT", .globalImplicit)], isGenerator := false, isCoroutine := false } [("number", 1)] := blkOk_by (by decide +kernel)
theorem all_map (cs : List Int) : (cs.map inTen).all id = cs.all inTen := by
  rw [List.all_map]
  rfl
theorem ok_arepts {f : Addr} {fd : FuncData} (F : Fun K "are_points" "are_points" sArePts f fd) (hF : Const mg "FARTHEST_POINT" 10000) (hM : Const mg "MOST_POINTS" 24) (hlen : mg "len" = none) (hall : mg "all" = none) : FnOk P w K mg base CX0 1 f fd ["coordinates"] (spArePts K) := by
  refine F.ok scAP (fun vs H Q E h => ?_) (fun cdv A outr s H vs Q E hr h => ?_)
  · obtain ⟨a, cs, rfl, _⟩ := h
    rfl
  · obtain ⟨a, cs, rfl, ha, hl, k⟩ := h
    refine ⟨_, pss_cons (ps_if (pt_not (pt_chain op_le op_le pe_int (pe_callB call_len_seq (by rfl) hlen PySem.boot_len (pa_cons (pv 0) pa_nil)) (pe_op op_mul pe_int (pe_const rfl hM)))) (pss_one (ps_ret pe_bl)) pss_nil)
      (pss_one (ps_ret (pe_callB (cr_all rfl) (by rfl) hall PyProof.Rows.boot_all (pa_cons (pe_lc (own := [("number", 1)]) rfl scAP.nd (pi_list (pv 0)) bkAP (fun s H C cl fp => pg_name (i := 1) scAP.nd rfl (Or.inl rfl)) (fun s H C cl fp => pts_nil)
        (fun s H C cl fp => pe_chain op_le op_le (pe_un un_neg (pe_const rfl hF)) (pv 1) (pe_const rfl hF))) pa_nil)))), ?_⟩
    have hn : ((cs.map V.int).length : Int) = (cs.length : Int) := by rw [List.length_map]
    have d1 : decide ((2 : Int) ≤ ((cs.map V.int).length : Int)) = decide (2 ≤ cs.length) := by
      rw [hn, Bool.eq_iff_iff, decide_eq_true_iff, decide_eq_true_iff]
      omega
    have d2 : decide (((cs.map V.int).length : Int) ≤ 2 * 24) = decide (cs.length ≤ 48) := by
      rw [hn, Bool.eq_iff_iff, decide_eq_true_iff, decide_eq_true_iff]
      omega
    refine ⟨_, rfl, a, _, rfl, .inl ha, _, _, rfl, rfl, _, rfl, ?_⟩
    have kF : ∀ b : Bool, arePts cs = (b && cs.all inTen) → b = false → Q (.bl false) H := by
      intro b e hb
      have := k H (Same.refl _)
      rw [e, hb] at this
      exact this
    rw [d1]
    by_cases h1 : 2 ≤ cs.length
    · rw [decide_eq_true h1]
      refine iteT ⟨_, _, rfl, rfl, .inl ⟨by decide, by decide⟩, _, _, rfl, rfl, _, rfl, ?_⟩
      show if (!decide (((cs.map V.int).length : Int) ≤ 2 * 24)) = true then _ else _
      rw [d2]
      by_cases h2 : cs.length ≤ 48
      · rw [decide_eq_true h2]
        refine iteF ⟨_, rfl, a, rfl, ⟨_, ha⟩, fun D hD => ?_⟩
        refine lc_list (K := K) (a := a) (xs := cs.map V.int) (fun i H' => H' D = some (.lst (((cs.take i).map inTen).map V.bl)) ∧ Same H H') ?_ ?_ ?_ ?_
        · exact ⟨upd_same, Same.put hD⟩
        · rintro i H' hi ⟨_, e⟩
          exact e.seq ha
        · rintro i z H' hz ⟨e1, e3⟩
          obtain ⟨c, hc, rfl⟩ := map_at hz
          refine ⟨rfl, ?_⟩
          unfold tYes
          refine iteT ⟨_, rfl, _, rfl, _, _, rfl, rfl, _, rfl, ?_⟩
          have fin : ∃ acc, H' D = some (HO.lst acc) ∧ acc.length < sizeLine ∧ (upd H' D (.lst (acc ++ [V.bl (inTen c)]))) D = some (.lst (((cs.take (i + 1)).map inTen).map V.bl)) ∧ Same H (upd H' D (.lst (acc ++ [V.bl (inTen c)]))) := by
            refine ⟨_, e1, ?_, ?_, Same.own hD e3⟩
            · rw [List.length_map, List.length_map, List.length_take]
              omega
            · rw [upd_same, take_snoc hc, List.map_append, List.map_append]
              rfl
          unfold inTen at fin
          by_cases g1 : -10000 ≤ c
          · rw [decide_eq_true g1] at fin ⊢
            exact iteT ⟨_, _, rfl, rfl, fin⟩
          · rw [decide_eq_false g1] at fin ⊢
            exact iteF fin
        · rintro H' ⟨e1, e3⟩
          rw [List.length_map, List.take_length] at e1
          refine ⟨D, _, rfl, SqL.of e1, ?_⟩
          rw [all_map]
          have := k H' e3
          unfold arePts at this
          rw [decide_eq_true h1, decide_eq_true h2] at this
          exact this
      · rw [decide_eq_false h2]
        exact iteT (kF (decide (2 ≤ cs.length) && decide (cs.length ≤ 48)) rfl (by rw [decide_eq_false h2, Bool.and_false]))
    · rw [decide_eq_false h1]
      exact iteF ⟨_, rfl, iteT (kF (decide (2 ≤ cs.length) && decide (cs.length ≤ 48)) rfl (by rw [decide_eq_false h1, Bool.false_and]))⟩
open Rc70Neutral (pairs)
theorem pairs_at : ∀ {cs : List Int} {i : Nat}, 2 * i + 1 < cs.length → ∃ x y, cs[2 * i]? = some x ∧ cs[2 * i + 1]? = some y ∧ (pairs cs)[i]? = some (x, y)
  | [], i, h => by simp at h
  | [x], i, h => by simp at h
  | x :: y :: r, 0, h => ⟨x, y, rfl, rfl, rfl⟩
  | x :: y :: r, i + 1, h => by
    obtain ⟨a, b, h1, h2, h3⟩ := pairs_at (cs := r) (i := i) (by simp at h; omega)
    exact ⟨a, b, h1, h2, h3⟩
theorem pairs_len : ∀ cs : List Int, (pairs cs).length = cs.length / 2
  | [] => rfl
  | [x] => by simp [pairs]
  | x :: y :: r => by
    show (pairs r).length + 1 = (r.length + 1 + 1) / 2
    rw [pairs_len r]
    omega
def spPaired (K : PySem.W.Frag) : Sp := fun vs H Q _ => ∃ (a : Addr) (cs : List Int), vs = [.ref a] ∧ SqL K H a (cs.map V.int) ∧ cs.length % 2 = 0 ∧ cs.length ≤ 1000 ∧ ∀ (H' : Hp) (l : Addr), Same H H' → H l = none → (∃ ts : List Addr, H' l = some (.lst (ts.map V.ref)) ∧ Paired (Pr K H') ts (pairs cs)) → Q (.ref l) H'
theorem scPd : FnScope ["coordinates", "at"] ["coordinates"] (defScope sPaired) := ⟨rfl, rfl, rfl, by decide +kernel, rfl, by decide +kernel, by decide +kernel⟩
theorem bkPd : BlkOk ["coordinates", "at"] (defScope sPaired) { kind := ScopeKind.function, names := [(".0", .local), ("at", .local), ("coordinates", .free)], isGenerator := false, isCoroutine := false } [("at", 1)] := blkOk_by (by decide +kernel)
theorem step_two {n : Nat} (h : n ≤ 1000) (h2 : n % 2 = 0) : stepOk 0 (n : Int) 2 (n / 2) := by
  have e : Builtin.Range.rangeSize 0 (n : Int) 2 = ((n / 2 : Nat) : Int) := by
    unfold Builtin.Range.rangeSize
    rw [if_pos (by decide)]
    split <;> omega
  refine ⟨by decide, by decide, ?_, e⟩
  have fits : ∀ x : Int, -10000 ≤ x → x ≤ 10000 → Builtin.Range.rangeFitsLong x = true := by
    intro x h1 h2
    unfold Builtin.Range.rangeFitsLong
    simp
    omega
  unfold Builtin.Range.small
  rw [e, fits 0 (by omega) (by omega), fits (n : Int) (by omega) (by omega), fits 2 (by omega) (by omega), fits _ (by omega) (by omega), if_pos (by decide), fits _ (by omega) (by omega), Bool.or_true]
  rfl
theorem ok_paired {f : Addr} {fd : FuncData} (F : Fun K "paired" "paired" sPaired f fd) (hlen : mg "len" = none) (hrange : mg "range" = none) : FnOk P w K mg base CX0 1 f fd ["coordinates"] (spPaired K) := by
  refine F.ok scPd (fun vs H Q E h => ?_) (fun cdv A outr s H vs Q E hr h => ?_)
  · obtain ⟨a, cs, rfl, _⟩ := h
    rfl
  · obtain ⟨a, cs, rfl, ha, h2, hl, k⟩ := h
    have fin := fun {i : Nat} {z : Int} {v : Int} (e : z = (i : Int)) (h : cs[i]? = some v) => (at_of (xs := cs.map V.int) e (by rw [List.getElem?_map, h]; rfl) : atI (cs.map V.int) z = some (V.int v))
    refine ⟨_, pss_one (ps_ret (pe_lc (own := [("at", 1)]) rfl scPd.nd (pi_range3 rfl hrange (pa_cons pe_int (pa_cons (pe_callB call_len_seq (by rfl) hlen PySem.boot_len (pa_cons (pv 0) pa_nil)) (pa_cons pe_int pa_nil)))) bkPd
      (fun s H C cl fp => pg_name (i := 1) scPd.nd rfl (Or.inl rfl)) (fun s H C cl fp => pts_nil)
      (te := tTup (tCons (tOp (rIxL K) (tVar 0) (tVar 1)) (tCons (tOp (rIxL K) (tVar 0) (tOp (rI0 fun i j => .int (i + j)) (tVar 1) (tC (.int 1)))) tNil)))
      (fun s H C cl fp => pe_tup (pa_cons (pe_ix ix_list (pv 0) (pv 1) (fun _ _ => rfl)) (pa_cons (pe_ix ix_list (pv 0) (pe_op op_add (pv 1) pe_int) (fun _ _ => rfl)) pa_nil))))), ?_⟩
    have ok := step_two hl h2
    rw [show ((cs.length : Nat) : Int) = ((cs.map V.int).length : Int) by rw [List.length_map]] at ok
    refine ⟨_, rfl, a, _, rfl, .inl ha, _, _, _, _, rfl, ok, fun D hD => ?_⟩
    refine lc_step (fun i H' => ∃ ls : List Addr, H' D = some (.lst (ls.map V.ref)) ∧ Paired (Pr K H') ls ((pairs cs).take i) ∧ Same H H') ?_ ?_ ?_
    · exact ⟨[], upd_same, .nil, Same.put hD⟩
    · rintro i H' hi ⟨ls, e1, e2, e3⟩
      obtain ⟨x, y, hx, hy, hp⟩ := pairs_at (cs := cs) (i := i) (by omega)
      refine ⟨rfl, ?_⟩
      unfold tYes
      refine iteT ⟨_, rfl, _, rfl, a, _, _, .int x, rfl, rfl, e3.seq ha, fin (by omega) hx, _, rfl, _, rfl, _, _, rfl, rfl, a, _, _, .int y, rfl, rfl, e3.seq ha, fin (by omega) hy, (by show 2 ≤ sizeLine; decide), fun q hq => ?_⟩
      have s1 : Same H' (upd H' q (.tup [.int x, .int y])) := Same.put hq
      refine ⟨_, s1 _ _ e1, ?_, ?_⟩
      · rw [List.length_map, Paired.length e2, List.length_take, sizeLine_eq]
        omega
      · have nDq : D ≠ q := ne_of_none e1 hq
        refine ⟨ls ++ [q], by rw [upd_same, List.map_append]; rfl, ?_, Same.own hD (e3.trans s1)⟩
        rw [take_snoc hp]
        refine Paired.snoc (Paired.mapP e2 fun _ _ p => Pr.own (s1 _ _ e1) (p.same s1)) (.inl (.inl ?_))
        rw [upd_ne (Ne.symm nDq), upd_same]
    · rintro H' ⟨ls, e1, e2, e3⟩
      rw [← pairs_len, List.take_length] at e2
      exact k H' D e3 hD ⟨ls, e1, e2⟩
end
end HQ

end
section
namespace HQ
open PySem PySem.Spec PyProof.Rows L2 HP
open Rc70Neutral (pairs)
abbrev cHeap : Stmt := top 55
abbrev sHInit : Stmt := inClass cHeap 0
abbrev sPut : Stmt := inClass cHeap 1
abbrev sWithin : Stmt := inClass cHeap 2
abbrev sThree : Stmt := inClass cHeap 3
abbrev sHDepth : Stmt := inClass cHeap 4
abbrev sHasSet : Stmt := inClass cHeap 9
def hf (a : Addr) : List (Str × V) := [("points", .ref a)]
theorem hf_pts (a : Addr) : (hf a).lookup ("points" : Str) = some (.ref a) := rfl
theorem hf_no (a : Addr) {m : Str} (h : ¬ m = "points") : (hf a).lookup m = none := by
  unfold hf
  rw [List.lookup_cons, show (m == ("points" : Str)) = false from beq_eq_false_iff_ne.mpr h]
  rfl
theorem hf_put (a b : Addr) : putF "points" (.ref b) (hf a) = hf b := by
  show (if ("points" : Str) = "points" then _ else _) = _
  rw [if_pos rfl]
  rfl
def PsOk (ps : List Ar) : Prop := ps.length ≤ 24 ∧ ∀ p ∈ ps, (-10000 ≤ p.1 ∧ p.1 ≤ 10000) ∧ (-10000 ≤ p.2 ∧ p.2 ≤ 10000)
theorem PsOk.sm {ps : List Ar} (h : PsOk ps) : ∀ p ∈ ps, Sm p := fun p hp => by
  have := h.2 p hp
  unfold Sm
  omega
theorem mul_le {p d : Int} (h : -10000 ≤ p ∧ p ≤ 10000) (h1 : 1 ≤ d) (h2 : d ≤ 1099511627776) : -10995116277760000 ≤ p * d ∧ p * d ≤ 10995116277760000 := by
  have a1 : p * d ≤ 10000 * d := Int.mul_le_mul_of_nonneg_right h.2 (by omega)
  have a2 : -10000 * d ≤ p * d := Int.mul_le_mul_of_nonneg_right h.1 (by omega)
  omega
theorem far_of {x : Int} (h : inFar x = true) : -1099511627776 ≤ x ∧ x ≤ 1099511627776 := by
  unfold inFar at h
  simpa using h
theorem PsOk.arrows {ps : List Ar} {x y d : Int} (h : PsOk ps) (hp : isPlace x y d = true) : ∀ u ∈ ps.map (arrow x y d), Sm u := by
  intro u hu
  obtain ⟨p, hpm, rfl⟩ := List.mem_map.mp hu
  have hb := h.2 p hpm
  unfold isPlace at hp
  simp only [Bool.and_eq_true, decide_eq_true_iff] at hp
  have hx := far_of hp.1
  have hy := far_of hp.2.1
  have m1 := mul_le hb.1 hp.2.2.1 hp.2.2.2
  have m2 := mul_le hb.2 hp.2.2.1 hp.2.2.2
  unfold Sm arrow
  simp only
  omega
def HpAt (K : PySem.W.Frag) (C : Addr) (H : Hp) (h : Addr) (ps : List Ar) : Prop := ∃ dx a, H h = some (.ins C dx (hf a)) ∧ Prs K H a ps
def HpA (K : PySem.W.Frag) (C : Addr) (H : Hp) (h a : Addr) (ps : List Ar) : Prop := ∃ dx ts, H h = some (.ins C dx (hf a)) ∧ H a = some (.lst (ts.map V.ref)) ∧ Paired (Pr K H) ts ps
theorem HpA.at {K : PySem.W.Frag} {C h a : Addr} {H : Hp} {ps : List Ar} (x : HpA K C H h a ps) : HpAt K C H h ps := by
  obtain ⟨dx, ts, h1, h2, h3⟩ := x
  exact ⟨dx, a, h1, ts, SqL.of h2, h3⟩
theorem HpA.same {K : PySem.W.Frag} {C h a : Addr} {H H' : Hp} {ps : List Ar} (e : Same H H') (x : HpA K C H h a ps) : HpA K C H' h a ps := by
  obtain ⟨dx, ts, h1, h2, h3⟩ := x
  exact ⟨dx, ts, e _ _ h1, e _ _ h2, Paired.mapP h3 fun _ _ => Pr.same e⟩
structure HTxt (K : PySem.W.Frag) (C : Addr) : Prop where
  cl : Cls K C
  nP : NoAttr K C "points"
theorem Pr.keep {K : PySem.W.Frag} {H H' : Hp} {r t C dx : Addr} {fs : List (Str × V)} {u : Ar} (e : Keep r H H') (hr : H r = some (.ins C dx fs)) (p : Pr K H t u) : Pr K H' t u := by
  rcases p with (p | ⟨o, p⟩) | p
  · exact .inl (.inl (e _ _ p (fun z => by rw [z, hr] at p; cases p)))
  · exact .inl (.inr ⟨o, e _ _ p (fun z => by rw [z, hr] at p; cases p)⟩)
  · exact .inr p
theorem HpAt.same {K : PySem.W.Frag} {C h : Addr} {H H' : Hp} {ps : List Ar} (e : Same H H') (p : HpAt K C H h ps) : HpAt K C H' h ps := by
  obtain ⟨dx, a, h1, h2⟩ := p
  exact ⟨dx, a, e _ _ h1, h2.same e⟩
section
variable {P : Program} {w : World} {K : PySem.W.Frag} {mg : Str → Option Value} {base : Heap} {C : Addr}
def spHInit (K : PySem.W.Frag) (C : Addr) : Sp := fun vs H Q _ => ∃ (h dx : Addr), vs = [.ref h] ∧ H h = some (.ins C dx []) ∧ ∀ (H' : Hp) (a : Addr), HpA K C H' h a [] → H a = none → Keep h H H' → Q .non H'
theorem scHI : FnScope ["self"] ["self"] (defScope sHInit) := ⟨rfl, rfl, rfl, by decide +kernel, rfl, by decide +kernel, by decide +kernel⟩
theorem ok_hinit {f : Addr} {fd : FuncData} (F : Fun K "__init__" "Heap.__init__" sHInit f fd) (T : HTxt K C) : FnOk P w K mg base CX0 1 f fd ["self"] (spHInit K C) := by
  refine F.ok scHI (fun vs H Q E h => ?_) (fun cdv A outr s H vs Q E hr h => ?_)
  · obtain ⟨h, dx, rfl, _⟩ := h
    rfl
  · obtain ⟨h, dx, rfl, hp, k⟩ := h
    refine ⟨_, pss_one (ps_fld (pv 0) (pe_lst pa_nil) rfl), ?_⟩
    refine ⟨Nat.zero_le _, fun l hl => ⟨_, rfl, h, C, dx, [], rfl, ?_, T.cl, T.nP, (by show 0 < 1000; decide), ?_⟩⟩
    · rw [upd_ne (ne_of_none hp hl)]
      exact hp
    · have nhl : h ≠ l := ne_of_none hp hl
      refine k _ l ⟨dx, [], upd_same, ?_, .nil⟩ hl (Keep.trans (Keep.of (Same.put hl)) Keep.upd)
      rw [upd_ne (Ne.symm nhl), upd_same]
      rfl
def spHasSet (K : PySem.W.Frag) (C : Addr) : Sp := fun vs H Q _ => ∃ (h : Addr) (c : Nat) (ps : List Ar), vs = [.ref h, nv c] ∧ HpAt K C H h ps ∧ Q (.bl (Rc70.isSet ps c)) H
theorem scHS : FnScope ["self", "chosen"] ["self", "chosen"] (defScope sHasSet) := ⟨rfl, rfl, rfl, by decide +kernel, rfl, by decide +kernel, by decide +kernel⟩
theorem shr_zero (c n : Nat) : decide (V.int ((c : Int) / 2 ^ ((n : Int)).toNat) = V.int 0) = decide (c < 2 ^ n) := by
  rw [dec_V, Int.toNat_natCast, Bool.eq_iff_iff, decide_eq_true_iff, decide_eq_true_iff]
  have e : (c : Int) / 2 ^ n = ((c / 2 ^ n : Nat) : Int) := by
    rw [Int.natCast_ediv, Int.natCast_pow]
    rfl
  rw [e]
  constructor
  · intro h
    exact (Nat.div_eq_zero_iff_lt (two_pos n)).mp (by omega)
  · intro h
    rw [Nat.div_eq_of_lt h]
    rfl
theorem ok_hasset {f : Addr} {fd : FuncData} (F : Fun K "has_set" "Heap.has_set" sHasSet f fd) (T : HTxt K C) (hlen : mg "len" = none) : FnOk P w K mg base CX0 1 f fd ["self", "chosen"] (spHasSet K C) := by
  refine F.ok scHS (fun vs H Q E h => ?_) (fun cdv A outr s H vs Q E hr h => ?_)
  · obtain ⟨h, c, ps, rfl, _⟩ := h
    rfl
  · obtain ⟨h, c, ps, rfl, ⟨dx, a, h1, ts, h2, h3⟩, k⟩ := h
    refine ⟨_, pss_one (ps_ret (pe_and (pe_cmpR op_gt (pv 1) pe_int (nomark _)) (pe_one (pe_cmpR op_eq (pe_op op_shr (pv 1) (pe_callB call_len_seq (by rfl) hlen PySem.boot_len (pa_cons (pe_fld (pv 0) rfl) pa_nil))) pe_int (nomark _))))), ?_⟩
    refine ⟨_, rfl, _, _, rfl, rfl, _, rfl, ?_⟩
    have e : decide ((0 : Int) < (c : Int)) = decide (1 ≤ c) := by
      rw [Bool.eq_iff_iff, decide_eq_true_iff, decide_eq_true_iff]
      omega
    have k : Q (.bl (decide (1 ≤ c) && decide (c < 2 ^ ps.length))) H := k
    show if decide ((0 : Int) < (c : Int)) = true then _ else _
    rw [e]
    by_cases z : 1 ≤ c
    · rw [decide_eq_true z] at k ⊢
      refine iteT ⟨_, rfl, _, rfl, h, C, dx, _, _, rfl, h1, T.cl, T.nP, hf_pts _, a, _, rfl, .inl h2, _, _, rfl, rfl, by omega, rfl, ?_⟩
      show Q (.bl (decide (V.int ((c : Int) / 2 ^ (((ts.map V.ref).length : Nat) : Int).toNat) = V.int 0))) H
      rw [shr_zero, List.length_map, Paired.length h3]
      exact k
    · rw [decide_eq_false z] at k ⊢
      exact iteF k
def putOf (ps : List Ar) (cs : List Int) : List Ar × List Int := if arePts cs = true then (pairs cs, [((pairs cs).length : Int)]) else (ps, [-1])
def spPut (K : PySem.W.Frag) (C : Addr) : Sp := fun vs H Q _ => ∃ (h a b : Addr) (ps : List Ar) (cs : List Int), vs = [.ref h, .ref b] ∧ HpA K C H h a ps ∧ SqL K H b (cs.map V.int) ∧ cs.length % 2 = 0 ∧ cs.length ≤ 1000 ∧
  ∀ (H' : Hp) (l a' : Addr), HpA K C H' h a' (putOf ps cs).1 → (a' = a ∨ H a' = none) → Keep h H H' → H l = none → H' l = some (.lst ((putOf ps cs).2.map V.int)) → Q (.ref l) H'
theorem scPu : FnScope ["self", "coordinates"] ["self", "coordinates"] (defScope sPut) := ⟨rfl, rfl, rfl, by decide +kernel, rfl, by decide +kernel, by decide +kernel⟩
theorem ok_put {f : Addr} {fd : FuncData} (F : Fun K "put" "Heap.put" sPut f fd) (T : HTxt K C) (hA : Has P w K mg base "are_points" 1 ["coordinates"] (spArePts K)) (hP : Has P w K mg base "paired" 1 ["coordinates"] (spPaired K)) (hW : Const mg "WRONG" (-1)) (hlen : mg "len" = none) :
    FnOk P w K mg base CX0 2 f fd ["self", "coordinates"] (spPut K C) := by
  refine F.ok scPu (fun vs H Q E h => ?_) (fun cdv A outr s H vs Q E hr h => ?_)
  · obtain ⟨h, a, b, ps, cs, rfl, _⟩ := h
    rfl
  · obtain ⟨h, a, b, ps, cs, rfl, hH, hb, hev, hl, k⟩ := h
    obtain ⟨dx, ts0, h1, h2, h3⟩ := id hH
    refine ⟨_, pss_cons (ps_if (pt_not (pt_val (pe_has hA hr rfl (pa_cons (pv 1) pa_nil)))) (pss_one (ps_ret (pe_lst (pa_cons (pe_const rfl hW) pa_nil)))) pss_nil)
      (pss_cons (ps_fld (pv 0) (pe_has hP hr rfl (pa_cons (pv 1) pa_nil)) rfl)
      (pss_one (ps_ret (pe_lst (pa_cons (pe_callB call_len_seq (by rfl) hlen PySem.boot_len (pa_cons (pe_fld (pv 0) rfl) pa_nil)) pa_nil))))), ?_⟩
    refine ⟨_, rfl, b, cs, rfl, hb, by rw [sizeLine_eq]; omega, fun H1 s1 => ⟨_, rfl, ?_⟩⟩
    unfold putOf at k
    cases z : arePts cs
    · rw [z, if_neg (by decide)] at k
      refine iteT ⟨(by show 1 ≤ sizeLine; decide), fun l hl1 => ?_⟩
      have s2 := s1.trans (Same.put (o := .lst [.int (-1)]) hl1)
      exact k _ l a (hH.same s2) (.inl rfl) (Keep.of s2) (s1.free hl1) upd_same
    · rw [z, if_pos rfl] at k
      refine iteF ⟨_, rfl, b, cs, rfl, s1.seq hb, hev, hl, fun H2 q s2 hq hq2 => ?_⟩
      have s12 := s1.trans s2
      have h1' := s12 _ _ h1
      refine ⟨_, rfl, h, C, dx, _, rfl, h1', T.cl, T.nP, (by show 1 < 1000; decide), ?_⟩
      rw [hf_put]
      have hk : Keep h H2 (upd H2 h (.ins C dx (hf q))) := Keep.upd
      obtain ⟨ts, hq1, hq3⟩ := hq2
      have nqh : q ≠ h := fun e => by rw [e, h1'] at hq1; cases hq1
      have ht1 : upd H2 h (.ins C dx (hf q)) q = some (.lst (ts.map V.ref)) := by rw [upd_ne nqh]; exact hq1
      have ht2 : Paired (Pr K (upd H2 h (.ins C dx (hf q)))) ts (pairs cs) := Paired.mapP hq3 fun _ _ => Pr.keep hk h1'
      refine ⟨_, rfl, h, C, dx, _, _, rfl, upd_same, T.cl, T.nP, hf_pts _, q, _, rfl, .inl (SqL.of ht1), (by show 1 ≤ sizeLine; decide), fun l hl1 => ?_⟩
      have nlh : l ≠ h := fun e => by rw [e, upd_same] at hl1; cases hl1
      have s3 : Same (upd H2 h (.ins C dx (hf q))) (upd (upd H2 h (.ins C dx (hf q))) l (.lst [.int ((ts.map V.ref).length : Nat)])) := Same.put hl1
      have hl2 : H2 l = none := by rw [upd_ne nlh] at hl1; exact hl1
      refine k _ l q ?_ (.inr (s1.free hq)) (Keep.trans (Keep.of s12) (Keep.trans hk (Keep.of s3))) (s12.free hl2) ?_
      · exact HpA.same s3 ⟨dx, ts, upd_same, ht1, ht2⟩
      · rw [upd_same, List.length_map, Paired.length ht2]
        rfl
end
end HQ

end
section
namespace HQ
open PySem PySem.Spec PyProof.Rows L2 HP
section
variable {P : Program} {w : World} {K : PySem.W.Frag} {mg : Str → Option Value} {base : Heap} {C : Addr}
def threeAns (ps : List Ar) (c : Nat) (x y d : Int) : List Int :=
  if ps = [] then [-4] else if (Rc70.isSet ps c && isPlace x y d) = false then [-1] else if Rc70.threeOf ps c ⟨x, y, d⟩ = 0 then [0] else [1, (Rc70.threeOf ps c ⟨x, y, d⟩ : Nat)]
def spThree (K : PySem.W.Frag) (C : Addr) : Sp := fun vs H Q _ => ∃ (h b : Addr) (c : Nat) (x y d : Int) (ps : List Ar), vs = [.ref h, nv c, .ref b] ∧ HpAt K C H h ps ∧ PsOk ps ∧ SqL K H b [.int x, .int y, .int d] ∧
  ∀ (H' : Hp) (l : Addr), Same H H' → H l = none → H' l = some (.lst ((threeAns ps c x y d).map V.int)) → Q (.ref l) H'
theorem scTh : FnScope ["self", "chosen", "place", "least"] ["self", "chosen", "place"] (defScope sThree) := ⟨rfl, rfl, rfl, by decide +kernel, rfl, by decide +kernel, by decide +kernel⟩
theorem empty_iff {ts : List Addr} {ps : List Ar} (h : ts.length = ps.length) : (ts.map V.ref).isEmpty = decide (ps = []) := by
  cases ts with
  | nil =>
    have : ps = [] := List.eq_nil_of_length_eq_zero h.symm
    rw [this]
    rfl
  | cons t ts =>
    have : ps ≠ [] := fun e => by rw [e] at h; cases h
    rw [decide_eq_false this]
    rfl
theorem ok_three {f : Addr} {fd : FuncData} (F : Fun K "three" "Heap.three" sThree f fd) (T : HTxt K C) (hS : HasM P w K mg base C "has_set" 1 ["self", "chosen"] (spHasSet K C)) (hI : Has P w K mg base "is_place" 1 ["place"] (spIsPlace K))
    (hL : Has P w K mg base "least_around" 4 ["arrows", "members"] (spAround K)) (hA : Has P w K mg base "arrows_from" 1 ["place", "points"] (spArrows K)) (hM : Has P w K mg base "members_of" 1 ["chosen"] (spMembers K))
    (hN : Const mg "NO_POINTS" (-4)) (hW : Const mg "WRONG" (-1)) : FnOk P w K mg base CX0 5 f fd ["self", "chosen", "place"] (spThree K C) := by
  refine F.ok scTh (fun vs H Q E h => ?_) (fun cdv A outr s H vs Q E hr h => ?_)
  · obtain ⟨h, b, c, x, y, d, ps, rfl, _⟩ := h
    rfl
  · obtain ⟨h, b, c, x, y, d, ps, rfl, hH, hok, hb, k⟩ := h
    obtain ⟨dx, a, h1, h2⟩ := id hH
    obtain ⟨ts, ht1, ht2⟩ := id h2
    have hr1 : Room 1 _ := hr.mono (by decide)
    refine ⟨_, pss_cons (ps_if (pt_not (pt_truth (pe_fld (pv 0) rfl) (fun _ => rfl))) (pss_one (ps_ret (pe_lst (pa_cons (pe_const rfl hN) pa_nil)))) pss_nil)
      (pss_cons (ps_if (PW.pt (pw_or (pt_not (pt_val (pe_hasm hS T.cl hr1 (pv 0) (pa_cons (pv 1) pa_nil)))) (pw_or1 (pt_not (pt_val (pe_has hI hr1 rfl (pa_cons (pv 2) pa_nil))))))) (pss_one (ps_ret (pe_lst (pa_cons (pe_const rfl hW) pa_nil)))) pss_nil)
      (pss_cons (ps_set (i := 3) scTh.nd rfl (Or.inl rfl) (pe_has hL hr rfl (pa_cons (pe_has hA hr1 rfl (pa_cons (pv 2) (pa_cons (pe_fld (pv 0) rfl) pa_nil))) (pa_cons (pe_has hM hr1 rfl (pa_cons (pv 1) pa_nil)) pa_nil))))
      (pss_cons (ps_if (pt_cmpR op_eq (pv 3) pe_int (nomark _)) (pss_one (ps_ret (pe_lst (pa_cons pe_int pa_nil)))) pss_nil)
      (pss_one (ps_ret (pe_lst (pa_cons pe_int (pa_cons (pv 3) pa_nil)))))))), ?_⟩
    have hE := empty_iff (Paired.length ht2)
    unfold threeAns at k
    by_cases hps : ps = []
    · rw [if_pos hps] at k
      exact ⟨_, rfl, h, C, dx, _, _, rfl, h1, T.cl, T.nP, hf_pts _, false, .inl ⟨_, ht1, by rw [hE, decide_eq_true hps]; rfl⟩, iteT ⟨(by show 1 ≤ sizeLine; decide), fun l hl => k _ l (Same.put hl) hl upd_same⟩⟩
    rw [if_neg hps] at k
    refine ⟨_, rfl, h, C, dx, _, _, rfl, h1, T.cl, T.nP, hf_pts _, true, .inl ⟨_, ht1, by rw [hE, decide_eq_false hps]; rfl⟩, ?_⟩
    refine iteF ⟨_, rfl, h, dx, _, rfl, h1, hf_no _ (by decide +kernel), _, rfl, h, c, ps, rfl, hH, _, rfl, ?_⟩
    cases hset : Rc70.isSet ps c
    · rw [hset, Bool.false_and, if_pos rfl] at k
      refine iteT (iteT ⟨(by show 1 ≤ sizeLine; decide), fun l hl => k _ l (Same.put hl) hl upd_same⟩)
    rw [hset, Bool.true_and] at k
    refine iteF ⟨_, rfl, b, x, y, d, rfl, hb, _, rfl, ?_⟩
    cases hpl : isPlace x y d
    · rw [hpl, if_pos rfl] at k
      refine iteT ⟨(by show 1 ≤ sizeLine; decide), fun l hl => k _ l (Same.put hl) hl upd_same⟩
    rw [hpl, if_neg (by decide)] at k
    have hd : 0 < d := by
      unfold isPlace at hpl
      simp only [Bool.and_eq_true, decide_eq_true_iff] at hpl
      omega
    have hlt : c < 2 ^ ps.length := by
      unfold Rc70.isSet at hset
      simp only [Bool.and_eq_true, decide_eq_true_iff] at hset
      exact hset.2
    have hlen := hok.1
    refine iteF ⟨_, rfl, _, rfl, h, C, dx, _, _, rfl, h1, T.cl, T.nP, hf_pts _, b, a, x, y, d, ps, rfl, .inl hb, h2, hok.sm, by rw [sizeLine_eq]; omega, fun H1 q1 s1 hq1 => ?_⟩
    refine ⟨_, rfl, c, ps.length, rfl, hlt, by omega, fun H2 q2 s2 hq2 => ?_⟩
    have hml : ((List.range ps.length).filter fun i => c.testBit i).length ≤ ps.length := by
      have := List.length_filter_le (fun i => c.testBit i) (List.range ps.length)
      rw [List.length_range] at this
      exact this
    refine ⟨q1, q2, ps.map (arrow x y d), (List.range ps.length).filter (fun i => c.testBit i), arAt ⟨x, y, d⟩ ps, rfl, hq1.same s2, hok.arrows hpl, hq2, by rw [sizeLine_eq]; omega, ?_, by rw [List.length_map]; omega, fun H3 s3 => ?_⟩
    · intro m hm
      have hm' : m < ps.length := List.mem_range.mp (List.mem_filter.mp hm).1
      rw [List.getElem?_map, List.getElem?_eq_getElem hm']
      unfold arAt Rc70.at_
      rw [List.getD_eq_getElem?_getD, List.getElem?_eq_getElem hm']
      rfl
    · have e : leastAround (arAt ⟨x, y, d⟩ ps) ((List.range ps.length).filter fun i => c.testBit i) ((List.range ps.length).filter fun i => c.testBit i) = Rc70.threeOf ps c ⟨x, y, d⟩ := three_eq ⟨x, y, d⟩ hd ps c
      rw [e]
      have s123 := (s1.trans s2).trans s3
      refine ⟨_, rfl, rfl, _, rfl, ?_⟩
      show if decide (V.int _ = V.int 0) = true then _ else _
      rw [dec_V]
      by_cases z : Rc70.threeOf ps c ⟨x, y, d⟩ = 0
      · rw [if_pos z] at k
        rw [decide_eq_true (by rw [z]; rfl)]
        exact iteT ⟨(by show 1 ≤ sizeLine; decide), fun l hl => k _ l (s123.trans (Same.put hl)) (s123.free hl) upd_same⟩
      · rw [if_neg z] at k
        rw [decide_eq_false (by omega)]
        exact iteF ⟨_, rfl, (by show 2 ≤ sizeLine; decide), fun l hl => k _ l (s123.trans (Same.put hl)) (s123.free hl) upd_same⟩
def inAns (ps : List Ar) (c : Nat) (x y d : Int) : List Int :=
  if ps = [] then [-4] else if (Rc70.isSet ps c && isPlace x y d) = false then [-1] else [if Rc70.inHull ps c ⟨x, y, d⟩ = true then 1 else 0]
theorem in_take (ps : List Ar) (c : Nat) (x y d : Int) : (threeAns ps c x y d).take 1 = inAns ps c x y d := by
  unfold threeAns inAns
  rw [in_three]
  split
  · rfl
  · split
    · rfl
    · by_cases z : Rc70.threeOf ps c ⟨x, y, d⟩ = 0
      · rw [if_pos z, z]
        rfl
      · rw [if_neg z, decide_eq_true z]
        rfl
def spWithin (K : PySem.W.Frag) (C : Addr) : Sp := fun vs H Q _ => ∃ (h b : Addr) (c : Nat) (x y d : Int) (ps : List Ar), vs = [.ref h, nv c, .ref b] ∧ HpAt K C H h ps ∧ PsOk ps ∧ SqL K H b [.int x, .int y, .int d] ∧
  ∀ (H' : Hp) (l : Addr), Same H H' → H l = none → H' l = some (.lst ((inAns ps c x y d).map V.int)) → Q (.ref l) H'
theorem scWi : FnScope ["self", "chosen", "place", "found"] ["self", "chosen", "place"] (defScope sWithin) := ⟨rfl, rfl, rfl, by decide +kernel, rfl, by decide +kernel, by decide +kernel⟩
theorem cut_one (ns : List Int) : cutV (ns.map V.int) none (some 1) = (ns.take 1).map V.int := by
  unfold cutV
  rw [show (1 : Int) = ((1 : Nat) : Int) from rfl, HT.sIx_nat, HT.sIx_none, List.drop_zero, List.length_map, List.map_take, Nat.sub_zero]
  cases ns <;> simp
theorem ok_within {f : Addr} {fd : FuncData} (F : Fun K "within" "Heap.within" sWithin f fd) (T : HTxt K C) (hT : HasM P w K mg base C "three" 5 ["self", "chosen", "place"] (spThree K C)) : FnOk P w K mg base CX0 6 f fd ["self", "chosen", "place"] (spWithin K C) := by
  refine F.ok scWi (fun vs H Q E h => ?_) (fun cdv A outr s H vs Q E hr h => ?_)
  · obtain ⟨h, b, c, x, y, d, ps, rfl, _⟩ := h
    rfl
  · obtain ⟨h, b, c, x, y, d, ps, rfl, hH, hok, hb, k⟩ := h
    obtain ⟨dx, a, h1, h2⟩ := id hH
    refine ⟨_, pss_cons (ps_set (i := 3) scWi.nd rfl (Or.inl rfl) (pe_hasm hT T.cl hr (pv 0) (pa_cons (pv 1) (pa_cons (pv 2) pa_nil)))) (pss_one (ps_ret (pe_slice sl_list (pv 3) po_none (po_some pe_int)))), ?_⟩
    refine ⟨_, rfl, h, dx, _, rfl, h1, hf_no _ (by decide +kernel), _, rfl, _, rfl, h, b, c, x, y, d, ps, rfl, hH, hok, hb, fun H1 l1 s1 hl1 hll => ?_⟩
    refine ⟨_, rfl, _, rfl, l1, _, rfl, SqL.of hll, fun l hl => ?_⟩
    refine k _ l (s1.trans (Same.put hl)) (s1.free hl) ?_
    rw [upd_same, cut_one, in_take]
def depthAns (ps : List Ar) (x y d : Int) : List Int := if ps = [] then [-4] else if isPlace x y d = false then [-1] else [(Rc70.depthOf ps ⟨x, y, d⟩ : Nat)]
def spHDepth (K : PySem.W.Frag) (C : Addr) : Sp := fun vs H Q _ => ∃ (h b : Addr) (x y d : Int) (ps : List Ar), vs = [.ref h, .ref b] ∧ HpAt K C H h ps ∧ PsOk ps ∧ SqL K H b [.int x, .int y, .int d] ∧
  ∀ (H' : Hp) (l : Addr), Same H H' → H l = none → H' l = some (.lst ((depthAns ps x y d).map V.int)) → Q (.ref l) H'
theorem scHD : FnScope ["self", "place"] ["self", "place"] (defScope sHDepth) := ⟨rfl, rfl, rfl, by decide +kernel, rfl, by decide +kernel, by decide +kernel⟩
theorem ok_hdepth {f : Addr} {fd : FuncData} (F : Fun K "depth" "Heap.depth" sHDepth f fd) (T : HTxt K C) (hI : Has P w K mg base "is_place" 1 ["place"] (spIsPlace K))
    (hD : Has P w K mg base "depth_among" 3 ["arrows"] (spDepth K)) (hA : Has P w K mg base "arrows_from" 1 ["place", "points"] (spArrows K))
    (hN : Const mg "NO_POINTS" (-4)) (hW : Const mg "WRONG" (-1)) : FnOk P w K mg base CX0 4 f fd ["self", "place"] (spHDepth K C) := by
  refine F.ok scHD (fun vs H Q E h => ?_) (fun cdv A outr s H vs Q E hr h => ?_)
  · obtain ⟨h, b, x, y, d, ps, rfl, _⟩ := h
    rfl
  · obtain ⟨h, b, x, y, d, ps, rfl, hH, hok, hb, k⟩ := h
    obtain ⟨dx, a, h1, h2⟩ := id hH
    obtain ⟨ts, ht1, ht2⟩ := id h2
    have hr1 : Room 1 _ := hr.mono (by decide)
    refine ⟨_, pss_cons (ps_if (pt_not (pt_truth (pe_fld (pv 0) rfl) (fun _ => rfl))) (pss_one (ps_ret (pe_lst (pa_cons (pe_const rfl hN) pa_nil)))) pss_nil)
      (pss_cons (ps_if (pt_not (pt_val (pe_has hI hr1 rfl (pa_cons (pv 1) pa_nil)))) (pss_one (ps_ret (pe_lst (pa_cons (pe_const rfl hW) pa_nil)))) pss_nil)
      (pss_one (ps_ret (pe_lst (pa_cons (pe_has hD hr rfl (pa_cons (pe_has hA hr1 rfl (pa_cons (pv 1) (pa_cons (pe_fld (pv 0) rfl) pa_nil))) pa_nil)) pa_nil))))), ?_⟩
    have hE := empty_iff (Paired.length ht2)
    unfold depthAns at k
    by_cases hps : ps = []
    · rw [if_pos hps] at k
      exact ⟨_, rfl, h, C, dx, _, _, rfl, h1, T.cl, T.nP, hf_pts _, false, .inl ⟨_, ht1, by rw [hE, decide_eq_true hps]; rfl⟩, iteT ⟨(by show 1 ≤ sizeLine; decide), fun l hl => k _ l (Same.put hl) hl upd_same⟩⟩
    rw [if_neg hps] at k
    refine ⟨_, rfl, h, C, dx, _, _, rfl, h1, T.cl, T.nP, hf_pts _, true, .inl ⟨_, ht1, by rw [hE, decide_eq_false hps]; rfl⟩, ?_⟩
    refine iteF ⟨_, rfl, b, x, y, d, rfl, hb, _, rfl, ?_⟩
    cases hpl : isPlace x y d
    · rw [hpl, if_pos rfl] at k
      refine iteT ⟨(by show 1 ≤ sizeLine; decide), fun l hl => k _ l (Same.put hl) hl upd_same⟩
    rw [hpl, if_neg (by decide)] at k
    have hlen := hok.1
    refine iteF ⟨_, rfl, _, rfl, h, C, dx, _, _, rfl, h1, T.cl, T.nP, hf_pts _, b, a, x, y, d, ps, rfl, .inl hb, h2, hok.sm, by rw [sizeLine_eq]; omega, fun H1 q1 s1 hq1 => ?_⟩
    refine ⟨q1, ps.map (arrow x y d), rfl, hq1, hok.arrows hpl, by rw [List.length_map, sizeLine_eq]; omega, fun H2 s2 => ?_⟩
    rw [depth_eq]
    have s12 := s1.trans s2
    exact ⟨(by show 1 ≤ sizeLine; decide), fun l hl => k _ l (s12.trans (Same.put hl)) (s12.free hl) upd_same⟩
end
end HQ

end
section
namespace HQ
open PySem PySem.Spec PyProof.Rows L2 HP
open Rc70Neutral (pairs)
abbrev sNext : Stmt := top 61
abbrev sAnswers : Stmt := top 62
def headOf (c : List (List Int)) : List Int := (PyRc70.whole c).headD []
def dueOf (ps : List Ar) (c : List (List Int)) : List Int := (Rc70Neutral.step ps (headOf c)).2
def ptsOf (ps : List Ar) (c : List (List Int)) : List Ar := (Rc70Neutral.step ps (headOf c)).1
def Keep2 (h r : Addr) (H H' : Hp) : Prop := ∀ b o, H b = some o → b ≠ h → b ≠ r → H' b = some o
def spNext (K : PySem.W.Frag) (CH CR : Addr) : Sp := fun vs H Q _ => ∃ (h b r a : Addr) (p : Nat) (ns : List Int) (ps : List Ar) (c : List (List Int)) (t : List Int), vs = [.ref h, .ref r] ∧ HpA K CH H h b ps ∧ PsOk ps ∧ RdAt CR H r a p ∧ SqL K H a (ns.map V.int) ∧ HX.Is (ns.drop p) c t ∧
  PyInside.call PyRc70.bound c = true ∧ Rc70Neutral.asked1 ps (headOf c) = true ∧
  ∀ (H' : Hp) (l b' : Addr) (q : Nat), HpA K CH H' h b' (ptsOf ps c) → (b' = b ∨ H b' = none) → RdAt CR H' r a q → p < q → q ≤ ns.length → ns.drop q = t → Keep2 h r H H' → H l = none → H' l = some (.lst ((dueOf ps c).map V.int)) → Q (.ref l) H'
theorem ok_of_points {l : List Ar} (h : Rc70.pointsOk l = true) : PsOk l := by
  unfold Rc70.pointsOk Rc70.MOST Rc70.FAR at h
  simp only [Bool.and_eq_true, decide_eq_true_iff, List.all_eq_true] at h
  refine ⟨h.2.1, fun p hp => ?_⟩
  have := h.2.2 p hp
  omega
theorem PsOk.behind {ps : List Ar} (h : PsOk ps) (c : List Int) : PsOk (Rc70Neutral.behind ps c) := by
  unfold Rc70Neutral.behind
  split
  · split
    · rename_i z
      exact ok_of_points z
    · exact h
  · exact h
def posOf (H : Hp) (r : Addr) : Nat := match H r with
  | some (.ins _ _ [_, (_, .int p)]) => p.toNat
  | _ => 0
theorem posOf_eq {C r a : Addr} {H : Hp} {p : Nat} (h : RdAt C H r a p) : posOf H r = p := by
  obtain ⟨dx, e⟩ := h
  unfold posOf
  rw [e]
  rfl
theorem Rd_ne {K : PySem.W.Frag} {CH CR h r a b : Addr} {H : Hp} {p : Nat} {ps : List Ar} (x : HpA K CH H h b ps) (y : RdAt CR H r a p) : h ≠ r := by
  rintro rfl
  obtain ⟨dx, ts, e, _⟩ := x
  obtain ⟨dy, e'⟩ := y
  rw [e] at e'
  injection e' with e'
  injection e' with _ _ e3
  cases e3
section
variable {P : Program} {w : World} {K : PySem.W.Frag} {mg : Str → Option Value} {base : Heap} {CH CR : Addr}
def spAns (K : PySem.W.Frag) : Sp := fun vs H Q _ => ∃ (a : Addr) (ns : List Int), vs = [.ref a] ∧ SqL K H a (ns.map V.int) ∧ PyRc70.answers_asked ns = true ∧ ∀ (H' : Hp) (g : Addr), H' g = some (.lst ((PyRc70.answers ns).map V.int)) → Q (.ref g) H'
theorem scAn : FnScope ["calls", "reader", "heap", "given", "answer"] ["calls"] (defScope sAnswers) := ⟨rfl, rfl, rfl, by decide +kernel, rfl, by decide +kernel, by decide +kernel⟩
theorem drop_lt {ns t : List Int} {p : Nat} {z : Int} (h : ns.drop p = z :: t) : p < ns.length := by
  rcases Nat.lt_or_ge p ns.length with q | q
  · exact q
  · rw [List.drop_eq_nil_of_le q] at h
    cases h
theorem ok_answers {f fR fH : Addr} {fd fdR fdH : FuncData} {k : Nat} (F : Fun K "answers" "answers" sAnswers f fd) (TR : RTxt K CR) (TH : HTxt K CH) (MR : Mk K CR fR) (GR : FnOk P w K mg base CX0 1 fR fdR ["self", "numbers"] (spRInit CR)) (bR : Binds K fdR ["self", "numbers"] []) (mR : mg "Reader" = some (.ref CR))
    (MH : Mk K CH fH) (GH : FnOk P w K mg base CX0 1 fH fdH ["self"] (spHInit K CH)) (bH : Binds K fdH ["self"] []) (mH : mg "Heap" = some (.ref CH))
    (hM : HasM P w K mg base CR "has_more" 1 ["self"] (spMore K CR)) (hN : Has P w K mg base "answer_next" (k + 2) ["heap", "reader"] (spNext K CH CR)) (hlen : mg "len" = none) : FnOk P w K mg base CX0 (k + 3) f fd ["calls"] (spAns K) := by
  refine F.ok scAn (fun vs H Q E h => ?_) (fun cdv A outr s H vs Q E hr h => ?_)
  · obtain ⟨a, ns, rfl, _⟩ := h
    rfl
  · obtain ⟨a, ns, rfl, ha, hask, kk⟩ := h
    have hr1 : Room 1 _ := hr.mono (by omega)
    have hr2 : Room (1 + 1) _ := hr.mono (by omega)
    obtain ⟨R0, hshort⟩ := HX.start hask
    refine ⟨_, pss_cons (ps_set (i := 1) scAn.nd rfl (Or.inl rfl) (pe_make MR GR hr2 rfl mR bR .nil pass0 (pa_cons (pv 0) pa_nil)))
      (pss_cons (ps_set (i := 2) scAn.nd rfl (Or.inl rfl) (pe_make0 MH GH hr2 rfl mH bH .nil pass0))
      (pss_cons (ps_set (i := 3) scAn.nd rfl (Or.inl rfl) (pe_lst pa_nil))
      (pss_cons (ps_while PassesOwn.never (pt_val (pe_hasm0 hM TR.cl hr1 (pv 1)))
        (pss_cons (ps_set (i := 4) scAn.nd rfl (Or.inl rfl) (pe_has hN hr rfl (pa_cons (pv 2) (pa_cons (pv 1) pa_nil))))
        (pss_cons (ps_expr (pe_bm PySem.F.plainAttrs_list PySem.F.slot_list_append PySem.F.type_list_append mt_append (pv 3) (pa_cons (pe_callB call_len_seq (by rfl) hlen PySem.boot_len (pa_cons (pv 4) pa_nil)) pa_nil)))
        (pss_one (ps_expr (pe_bm PySem.F.plainAttrs_list PySem.F.slot_list_extend PySem.F.type_list_extend mt_extend (pv 3) (pa_cons (pv 4) pa_nil)))))))
      (pss_one (ps_ret (pv 3)))))), ?_⟩
    -- reader = Reader(calls); heap = Heap(); given = []
    refine ⟨_, rfl, fun r dr nr ndr _ => ?_⟩
    refine ⟨r, a, dr, rfl, upd_same, fun H1 hR1 k1 => ⟨rfl, ?_⟩⟩
    have s1 : Same H H1 := Same.made nr ndr fun b o e n => k1 b o e n
    intro h dh nh ndh _
    refine ⟨h, dh, rfl, upd_same, fun H2 b0 hH2 nb0 k2 => ⟨rfl, ?_⟩⟩
    have s2 : Same H1 H2 := Same.made nh ndh fun b o e n => k2 b o e n
    refine ⟨Nat.zero_le _, fun g hg => ?_⟩
    have s3 : Same H2 (upd H2 g (.lst [])) := Same.put hg
    have s123 := (s1.trans s2).trans s3
    have hRd : RdAt CR (upd H2 g (.lst [])) r a 0 := by
      obtain ⟨dx, e⟩ := hR1
      exact ⟨dx, s3 _ _ (s2 _ _ e)⟩
    refine while_by (fun σ H' => ∃ (b : Addr) (p n : Nat) (ps : List Ar) (acc due : List Int) (v4 : Option V), σ = [some (.ref a), some (.ref r), some (.ref h), some (.ref g), v4] ∧ HpA K CH H' h b ps ∧ b ≠ g ∧ PsOk ps ∧ RdAt CR H' r a p ∧ Same H H' ∧ H' g = some (.lst (acc.map V.int)) ∧ p ≤ ns.length ∧ HX.Rest ps (ns.drop p) n due ∧ PyRc70.answers ns = acc ++ due)
      (fun σ H' => ns.length - posOf H' r) ?_ ?_ ?_
    · have hb0 : b0 ≠ g := by
        obtain ⟨_, _, _, e, _⟩ := hH2
        exact ne_of_none e hg
      exact ⟨b0, 0, 30, [], [], PyRc70.answers ns, none, rfl, hH2.same s3, hb0, ⟨by decide, fun p hp => nomatch hp⟩, hRd, s123, upd_same, Nat.zero_le _, R0, rfl⟩
    · rintro σ H' ⟨b, p, n, ps, acc, due, v4, rfl, hH, hbg, hok, hR, hs, hg', hp, hrest, hall⟩
      have hposeq := posOf_eq hR
      obtain ⟨dxr, hRe⟩ := id hR
      refine ⟨_, rfl, r, dxr, _, rfl, hRe, rf_no _ _ (by decide +kernel) (by decide +kernel), r, a, p, ns, rfl, hR, hs.seq ha, _, rfl, ?_⟩
      refine ite2 (fun c => ?_) (fun c => ?_)
      · have c : p < ns.length := of_decide_eq_true c
        cases e : ns.drop p with
        | nil =>
          have := congrArg List.length e
          rw [List.length_drop] at this
          simp at this
          omega
        | cons z l =>
          rw [e] at hrest
          obtain ⟨cc, t, due', hn, his, hin, hask1, hrest', hst, hdue⟩ := HX.next hrest
          rw [← e] at his
          refine ⟨_, rfl, _, rfl, h, b, r, a, p, ns, ps, cc, t, rfl, hH, hok, hR, hs.seq ha, his, hin, hask1, fun H3 l3 b3 q hH3 hb3 hR3 hpq hq hdr hk hl3 hll3 => ?_⟩
          have hptse : ptsOf ps cc = Rc70Neutral.behind ps (headOf cc) := hst
          have hne : h ≠ r := Rd_ne hH hR
          obtain ⟨dxh, _, hHe, _⟩ := id hH
          have hgh : g ≠ h := fun z => by rw [z, hHe] at hg'; cases hg'
          have hgr : g ≠ r := fun z => by rw [z, hRe] at hg'; cases hg'
          have hg3 : H3 g = some (.lst (acc.map V.int)) := hk _ _ hg' hgh hgr
          have hHh : H h = none := by
            cases z : H h with
            | none => rfl
            | some o => rw [s1 _ _ z] at nh; cases nh
          have hHg : H g = none := (s1.trans s2).free hg
          have hs3 : Same H H3 := fun b o eb => hk b o (hs b o eb) (fun z => by rw [z, hHh] at eb; cases eb) (fun z => by rw [z, nr] at eb; cases eb)
          have hgl : g ≠ l3 := ne_of_none hg' hl3
          have hlen1 : acc.length + (1 + (dueOf ps cc).length) ≤ 10000000 := by
            have := congrArg List.length hall
            rw [hdue, List.length_append, List.length_cons, List.length_append] at this
            have e2 : (Rc70Neutral.step ps ((PyRc70.whole cc).headD [])).2 = dueOf ps cc := rfl
            rw [e2] at this
            omega
          refine ⟨_, rfl, .inl ⟨rfl, _, SqL.of hg3⟩, _, rfl, l3, _, rfl, .inl (SqL.of hll3), g, _, _, rfl, rfl, hg3, by rw [List.length_map, sizeLine_eq]; omega, ?_⟩
          rw [List.length_map]
          have hll4 : upd H3 g (.lst (acc.map V.int ++ [V.int ((dueOf ps cc).length : Nat)])) l3 = some (.lst ((dueOf ps cc).map V.int)) := by
            rw [upd_ne (Ne.symm hgl)]
            exact hll3
          refine ⟨_, rfl, .inl ⟨rfl, _, SqL.of upd_same⟩, _, rfl, g, l3, _, _, rfl, rfl, upd_same, hll4, by rw [List.length_append, List.length_map, List.length_map, sizeLine_eq]; simp; omega, ?_⟩
          rw [upd_upd]
          obtain ⟨dxr3, hRe3⟩ := id hR3
          obtain ⟨dxh3, ts3, hHe3, hL3, hP3⟩ := id hH3
          have hb3g : b3 ≠ g := by
            rcases hb3 with z | z
            · rw [z]; exact hbg
            · exact fun e => by rw [e, hg'] at z; cases z
          have sg : ∀ b o, H3 b = some o → b ≠ g → upd H3 g (.lst (acc.map V.int ++ [V.int ((dueOf ps cc).length : Nat)] ++ (dueOf ps cc).map V.int)) b = some o := fun b o eb nb => by
            rw [upd_ne nb]
            exact eb
          have hRn : RdAt CR (upd H3 g (.lst (acc.map V.int ++ [V.int ((dueOf ps cc).length : Nat)] ++ (dueOf ps cc).map V.int))) r a q := ⟨dxr3, sg _ _ hRe3 (fun z => by rw [z, hg3] at hRe3; cases hRe3)⟩
          refine ⟨⟨b3, q, n - 1, ptsOf ps cc, acc ++ (((dueOf ps cc).length : Int) :: dueOf ps cc), due', _, rfl, ⟨dxh3, ts3, sg _ _ hHe3 (fun z => by rw [z, hg3] at hHe3; cases hHe3), sg _ _ hL3 hb3g, Paired.mapP hP3 fun _ _ pp => Pr.own hg3 pp⟩, hb3g, ?_, hRn, Same.own hHg hs3, ?_, hq, ?_, ?_⟩, ?_⟩
          · rw [hptse]
            exact hok.behind _
          · rw [upd_same, List.map_append, List.map_cons, List.append_assoc]
            rfl
          · rw [hptse, hdr]
            exact hrest'
          · rw [hall, hdue, List.append_assoc]
            rfl
          · rw [posOf_eq hRn, hposeq]
            omega
      · have c : ¬ p < ns.length := fun z => c (decide_eq_true z)
        have e : ns.drop p = [] := List.drop_eq_nil_of_le (by omega)
        rw [e] at hrest
        have hd := HX.ended hrest
        rw [hd, List.append_nil] at hall
        refine ⟨_, rfl, ?_⟩
        refine kk H' g ?_
        rw [hall]
        exact hg'
    · rintro σ H' Q1 Q2 hq ⟨v, e, r', dx, fs, e1, e2, e3, r2, a2, p2, ns2, e4, e5, e6, c, e7, e8⟩
      exact ⟨v, e, r', dx, fs, e1, e2, e3, r2, a2, p2, ns2, e4, e5, e6, c, e7, hq _ _ e8⟩
end
end HQ

end
section
namespace HQ
open HP
open Rc70Neutral (pairs)
theorem all_pairs : ∀ {cs : List Int}, cs.length % 2 = 0 → cs.all inTen = (pairs cs).all fun p => inTen p.1 && inTen p.2
  | [], _ => rfl
  | [x], h => by simp at h
  | x :: y :: r, h => by
    have ih := all_pairs (cs := r) (by simp at h; omega)
    show (inTen x && (inTen y && r.all inTen)) = ((inTen x && inTen y) && (pairs r).all fun p => inTen p.1 && inTen p.2)
    rw [ih, Bool.and_assoc]
theorem pts_ok {cs : List Int} (h : cs.length % 2 = 0) : Rc70.pointsOk (pairs cs) = arePts cs := by
  unfold Rc70.pointsOk arePts Rc70.MOST Rc70.FAR
  rw [all_pairs h, pairs_len]
  rw [Bool.eq_iff_iff]
  simp only [Bool.and_eq_true, decide_eq_true_iff, List.all_eq_true, inTen]
  constructor
  · rintro ⟨h1, h2, h3⟩
    refine ⟨⟨by omega, by omega⟩, fun p hp => ?_⟩
    have := h3 p hp
    omega
  · rintro ⟨⟨h1, h2⟩, h3⟩
    refine ⟨by omega, by omega, fun p hp => ?_⟩
    have := h3 p hp
    omega
theorem step_points {ps : List Ar} {cs : List Int} (h : cs.length % 2 = 0) : (ptsOf ps [[0], cs], dueOf ps [[0], cs]) = putOf ps cs := by
  show ((Rc70.does ps (.points (pairs cs))).1, _) = _
  unfold dueOf
  show (_, (Rc70.does ps (.points (pairs cs))).2.value :: ((Rc70.does ps (.points (pairs cs))).2.numbers.map fun (x : Nat) => (x : Int))) = _
  unfold putOf Rc70.does
  simp only
  rw [pts_ok h]
  cases arePts cs <;> rfl
theorem step_in (ps : List Ar) (s x y d : Int) : ptsOf ps [[1, s, x, y, d]] = ps ∧ dueOf ps [[1, s, x, y, d]] = inAns ps s.toNat x y d := by
  refine ⟨rfl, ?_⟩
  show ((if ps = [] then Rc70.ok (-4) else Rc70.tells ps (.inHull s.toNat x y d)).value :: ((if ps = [] then Rc70.ok (-4) else Rc70.tells ps (.inHull s.toNat x y d)).numbers.map fun (x : Nat) => (x : Int))) = _
  unfold inAns
  by_cases h : ps = []
  · rw [if_pos h, if_pos h]
    rfl
  · rw [if_neg h, if_neg h, place_eq]
    unfold Rc70.tells
    simp only
    by_cases h2 : (Rc70.isSet ps s.toNat && Rc70.placeOk x y d) = false
    · rw [if_pos h2, if_pos h2]
      rfl
    · rw [if_neg h2, if_neg h2]
      rfl
theorem step_three (ps : List Ar) (s x y d : Int) : ptsOf ps [[2, s, x, y, d]] = ps ∧ dueOf ps [[2, s, x, y, d]] = threeAns ps s.toNat x y d := by
  refine ⟨rfl, ?_⟩
  show ((if ps = [] then Rc70.ok (-4) else Rc70.tells ps (.three s.toNat x y d)).value :: ((if ps = [] then Rc70.ok (-4) else Rc70.tells ps (.three s.toNat x y d)).numbers.map fun (x : Nat) => (x : Int))) = _
  unfold threeAns
  by_cases h : ps = []
  · rw [if_pos h, if_pos h]
    rfl
  · rw [if_neg h, if_neg h, place_eq]
    unfold Rc70.tells
    simp only
    by_cases h2 : (Rc70.isSet ps s.toNat && Rc70.placeOk x y d) = false
    · rw [if_pos h2, if_pos h2]
      rfl
    · rw [if_neg h2, if_neg h2]
      by_cases h3 : Rc70.threeOf ps s.toNat ⟨x, y, d⟩ = 0
      · rw [if_pos h3, if_pos h3]
        rfl
      · rw [if_neg h3, if_neg h3]
        rfl
theorem step_depth (ps : List Ar) (x y d : Int) : ptsOf ps [[3, x, y, d]] = ps ∧ dueOf ps [[3, x, y, d]] = depthAns ps x y d := by
  refine ⟨rfl, ?_⟩
  show ((if ps = [] then Rc70.ok (-4) else Rc70.tells ps (.depth x y d)).value :: ((if ps = [] then Rc70.ok (-4) else Rc70.tells ps (.depth x y d)).numbers.map fun (x : Nat) => (x : Int))) = _
  unfold depthAns
  by_cases h : ps = []
  · rw [if_pos h, if_pos h]
    rfl
  · rw [if_neg h, if_neg h, place_eq]
    unfold Rc70.tells
    simp only
    by_cases h2 : Rc70.placeOk x y d = false
    · rw [if_pos h2, if_pos h2]
      rfl
    · rw [if_neg h2, if_neg h2]
      rfl
end HQ

end
section
namespace HQ
open HP
def deepAns (ps : List Ar) : List Int := if ps = [] then [-4] else [(Rc70.deepest ps : Nat)]
def partAns (ps : List Ar) (r : Int) : List Int := if ps = [] then [-4] else if r < 1 ∨ (ps.length : Int) < r then [-1] else match Rc70.partedOf ps r.toNat with
  | some l => 1 :: l.map fun (x : Nat) => (x : Int)
  | none => [0]
def meetAns (ps : List Ar) (ss : List Nat) : List Int := if ps = [] then [-4] else if ss = [] ∨ 16 < ss.length ∨ ss.all (Rc70.isSet ps) = false then [-1] else match Rc70.apartOf ps ss with
  | some t => 0 :: t.map fun (x : Nat) => (x : Int)
  | none => [1]
def halveAns (ps : List Ar) (s t : Nat) (u v c : Int) : List Int := if ps = [] then [-4] else if (Rc70.isSet ps s && Rc70.isSet ps t) = false ∨ (u = 0 ∧ v = 0) then [-1] else
  [if (Rc70.halvesOf ps s ⟨u, v, c⟩ && Rc70.halvesOf ps t ⟨u, v, c⟩) = true then 1 else 0]
def said (ps : List Ar) (q : Rc70.Call) : List Int := (if ps = [] then Rc70.ok (-4) else Rc70.tells ps q).value :: ((if ps = [] then Rc70.ok (-4) else Rc70.tells ps q).numbers.map fun (x : Nat) => (x : Int))
theorem step_deepest (ps : List Ar) : ptsOf ps [[4]] = ps ∧ dueOf ps [[4]] = deepAns ps := by
  refine ⟨rfl, ?_⟩
  show said ps .deepest = _
  unfold said deepAns
  by_cases h : ps = []
  · rw [if_pos h, if_pos h]; rfl
  · rw [if_neg h, if_neg h]; rfl
theorem step_parted (ps : List Ar) (r : Int) : ptsOf ps [[5, r]] = ps ∧ dueOf ps [[5, r]] = partAns ps r := by
  refine ⟨rfl, ?_⟩
  show said ps (.parted r) = _
  unfold said partAns
  by_cases h : ps = []
  · rw [if_pos h, if_pos h]; rfl
  · rw [if_neg h, if_neg h]
    unfold Rc70.tells
    simp only
    by_cases h2 : r < 1 ∨ (ps.length : Int) < r
    · rw [if_pos h2, if_pos h2]; rfl
    · rw [if_neg h2, if_neg h2]
      cases Rc70.partedOf ps r.toNat <;> rfl
theorem step_meet (ps : List Ar) (cs : List Int) : ptsOf ps [[6], cs] = ps ∧ dueOf ps [[6], cs] = meetAns ps (cs.map Int.toNat) := by
  refine ⟨rfl, ?_⟩
  show said ps (.meet (cs.map Int.toNat)) = _
  unfold said meetAns
  by_cases h : ps = []
  · rw [if_pos h, if_pos h]; rfl
  · rw [if_neg h, if_neg h]
    unfold Rc70.tells
    simp only
    by_cases h2 : cs.map Int.toNat = [] ∨ 16 < (cs.map Int.toNat).length ∨ (cs.map Int.toNat).all (Rc70.isSet ps) = false
    · rw [if_pos h2, if_pos h2]; rfl
    · rw [if_neg h2, if_neg h2]
      cases Rc70.apartOf ps (cs.map Int.toNat) <;> rfl
theorem step_halves (ps : List Ar) (s t u v c : Int) : ptsOf ps [[7, s, t, u, v, c]] = ps ∧ dueOf ps [[7, s, t, u, v, c]] = halveAns ps s.toNat t.toNat u v c := by
  refine ⟨rfl, ?_⟩
  show said ps (.halves s.toNat t.toNat u v c) = _
  unfold said halveAns
  by_cases h : ps = []
  · rw [if_pos h, if_pos h]; rfl
  · rw [if_neg h, if_neg h]
    unfold Rc70.tells
    simp only
    by_cases h2 : (Rc70.isSet ps s.toNat && Rc70.isSet ps t.toNat) = false ∨ (u = 0 ∧ v = 0)
    · rw [if_pos h2, if_pos h2]; rfl
    · rw [if_neg h2, if_neg h2]; rfl
theorem ask_deepest {ps : List Ar} (h : Rc70Neutral.asked1 ps [4] = true) : ps.length ≤ 7 := of_decide_eq_true h
theorem ask_parted {ps : List Ar} {r : Int} (h : Rc70Neutral.asked1 ps [5, r] = true) : ps.length ≤ 6 := by
  have h : (Rc70Neutral.whole32 r && decide (ps.length ≤ 6)) = true := h
  rw [Bool.and_eq_true] at h
  exact of_decide_eq_true h.2
theorem set_in {z : Int} (h : Rc70Neutral.set z = true) : 0 ≤ z ∧ z < 4294967296 := by
  unfold Rc70Neutral.set at h
  rw [Bool.and_eq_true] at h
  exact ⟨of_decide_eq_true h.1, of_decide_eq_true h.2⟩
theorem far_in {z : Int} (h : Rc70Neutral.far z = true) : -1000000000000 ≤ z ∧ z ≤ 1000000000000 := by
  unfold Rc70Neutral.far at h
  rw [Bool.and_eq_true] at h
  exact ⟨of_decide_eq_true h.1, of_decide_eq_true h.2⟩
theorem ask_meet {ps : List Ar} {cs : List Int} (h : Rc70Neutral.asked1 ps (6 :: cs) = true) : (∀ z ∈ cs, 0 ≤ z ∧ z < 4294967296) ∧ ps.length ≤ 8 ∧ cs.length ≤ 17 := by
  have h : (cs.all Rc70Neutral.set && (decide (ps.length ≤ 8) && decide (cs.length ≤ 6 ∨ cs.length = 17))) = true := h
  rw [Bool.and_eq_true, Bool.and_eq_true, List.all_eq_true] at h
  have h3 : cs.length ≤ 6 ∨ cs.length = 17 := of_decide_eq_true h.2.2
  refine ⟨fun z hz => set_in (h.1 z hz), of_decide_eq_true h.2.1, ?_⟩
  rcases h3 with q | q
  · exact Nat.le_trans q (by decide)
  · rw [q]
    exact Nat.le_refl _
theorem ask_halves {ps : List Ar} {s t u v c : Int} (h : Rc70Neutral.asked1 ps [7, s, t, u, v, c] = true) : (0 ≤ s ∧ s < 4294967296) ∧ (0 ≤ t ∧ t < 4294967296) ∧ (-1000000000000 ≤ u ∧ u ≤ 1000000000000) ∧ (-1000000000000 ≤ v ∧ v ≤ 1000000000000) ∧ (-1000000000000 ≤ c ∧ c ≤ 1000000000000) := by
  have h : (Rc70Neutral.set s && (Rc70Neutral.set t && (Rc70Neutral.far u && (Rc70Neutral.far v && Rc70Neutral.far c)))) = true := h
  rw [Bool.and_eq_true, Bool.and_eq_true, Bool.and_eq_true, Bool.and_eq_true] at h
  exact ⟨set_in h.1, set_in h.2.1, far_in h.2.2.1, far_in h.2.2.2.1, far_in h.2.2.2.2⟩
end HQ

end
section
namespace HQ
open PySem PySem.Spec PyProof.Rows L2 HP
open Rc70Neutral (pairs)
structure Mid (K : PySem.W.Frag) (CH CR : Addr) (ns : List Int) (H0 H : Hp) (h b r a : Addr) (ps : List Ar) (p : Nat) : Prop where
  hp : HpA K CH H h b ps
  rd : RdAt CR H r a p
  sq : SqL K H a (ns.map V.int)
  kp : Keep2 h r H0 H
  h0 : ∃ o, H0 h = some o
  r0 : ∃ o, H0 r = some o
section
variable {K : PySem.W.Frag} {CH CR : Addr} {ns : List Int} {H0 H H' : Hp} {h b r a : Addr} {ps : List Ar} {p q : Nat}
theorem Mid.start (x : HpA K CH H h b ps) (y : RdAt CR H r a p) (z : SqL K H a (ns.map V.int)) : Mid K CH CR ns H H h b r a ps p := by
  obtain ⟨dx, ts, e, _⟩ := id x
  obtain ⟨dy, e'⟩ := id y
  exact ⟨x, y, z, fun b o e _ _ => e, ⟨_, e⟩, ⟨_, e'⟩⟩
theorem Mid.same (m : Mid K CH CR ns H0 H h b r a ps p) (s : Same H H') : Mid K CH CR ns H0 H' h b r a ps p := by
  obtain ⟨dy, e'⟩ := m.rd
  exact ⟨m.hp.same s, ⟨dy, s _ _ e'⟩, s.seq m.sq, fun b o e n1 n2 => s b o (m.kp b o e n1 n2), m.h0, m.r0⟩
theorem Mid.read (m : Mid K CH CR ns H0 H h b r a ps p) (y : RdAt CR H' r a q) (k : Keep r H H') : Mid K CH CR ns H0 H' h b r a ps q := by
  obtain ⟨dx, ts, e1, e2, e3⟩ := id m.hp
  obtain ⟨dy, e'⟩ := id m.rd
  have n1 : h ≠ r := Rd_ne m.hp m.rd
  have n2 : b ≠ r := fun z => by rw [z, e'] at e2; cases e2
  exact ⟨⟨dx, ts, k _ _ e1 n1, k _ _ e2 n2, Paired.mapP e3 fun _ _ => Pr.keep k e'⟩, y, k.seq e' m.sq, fun b o e n1 n2 => k b o (m.kp b o e n1 n2) n2, m.h0, m.r0⟩
theorem Mid.put {b' : Addr} {ps' : List Ar} (m : Mid K CH CR ns H0 H h b r a ps p) (x : HpA K CH H' h b' ps') (k : Keep h H H') : Mid K CH CR ns H0 H' h b' r a ps' p := by
  obtain ⟨dx, ts, e1, e2, e3⟩ := id m.hp
  obtain ⟨dy, e'⟩ := id m.rd
  have n1 : h ≠ r := Rd_ne m.hp m.rd
  exact ⟨x, ⟨dy, k _ _ e' (Ne.symm n1)⟩, k.seq e1 m.sq, fun b o e n1 n2 => k b o (m.kp b o e n1 n2) n1, m.h0, m.r0⟩
theorem Mid.free (m : Mid K CH CR ns H0 H h b r a ps p) {l : Addr} (hl : H l = none) : H0 l = none := by
  cases e : H0 l with
  | none => rfl
  | some o =>
    obtain ⟨dx, ts, e1, _⟩ := m.hp
    obtain ⟨dy, e'⟩ := m.rd
    by_cases n1 : l = h
    · rw [n1, e1] at hl; cases hl
    · by_cases n2 : l = r
      · rw [n2, e'] at hl; cases hl
      · rw [m.kp l o e n1 n2] at hl; cases hl
theorem Mid.lst {l : Addr} {xs : List V} (m : Mid K CH CR ns H0 H h b r a ps p) (k : Keep r H H') (e : H l = some (.lst xs)) : H' l = some (.lst xs) := by
  obtain ⟨dy, e'⟩ := m.rd
  exact k _ _ e (fun z => by rw [z, e'] at e; cases e)
end
theorem drop_one {ns rest : List Int} {p : Nat} {z : Int} (h : ns.drop p = z :: rest) : ns[p]? = some z ∧ ns.drop (p + 1) = rest ∧ p < ns.length := by
  have hp := drop_lt h
  have e := List.drop_eq_getElem_cons hp
  rw [h] at e
  injection e with e1 e2
  exact ⟨by rw [List.getElem?_eq_getElem hp, e1], e2.symm, hp⟩
theorem drop_many {ns cs t : List Int} {p : Nat} (h : ns.drop p = cs ++ t) : (ns.drop p).take cs.length = cs ∧ ns.drop (p + cs.length) = t := by
  rw [← List.drop_drop, h]
  simp
theorem drop_len {ns cs t : List Int} {p : Nat} (h : ns.drop p = cs ++ t) (hp : p ≤ ns.length) : p + cs.length ≤ ns.length := by
  have := congrArg List.length h
  rw [List.length_drop, List.length_append] at this
  omega
end HQ

end
section
namespace HQ
open PySem PySem.Spec PyProof.Rows L2 HP
def keyOf (u : Ar) : HS.Key := [u.1, u.2]
theorem keyOf_inj {u v : Ar} (h : keyOf u = keyOf v) : u = v := by
  unfold keyOf at h
  injection h with h1 h2
  injection h2 with h2 _
  exact Prod.ext h1 h2
section
variable {X : Cx}
theorem Pr.key {pins : List (Addr × Obj)} {σ : L2.St} {H : Hp} {s : Shared} {a : Addr} {u : Ar} (I : Inv X pins σ H s) (h : Pr X.K H a u) : IsTupleKey (intKind X.prog X.w) s.heap (keyOf u) a := by
  obtain ⟨its, r, ⟨o, ho, hc, n, hd⟩, _⟩ := I.tuple h
  refine ⟨o, its.toArray, n, ho, hc, hd, ?_⟩
  cases r with
  | cons r1 r =>
    cases r with
    | cons r2 r =>
      cases r
      obtain ⟨t1, rfl⟩ := r1
      obtain ⟨t2, rfl⟩ := r2
      exact .cons (intKind_is _ _ _ _) (.cons (intKind_is _ _ _ _) .nil)
theorem pairs_keys {pins : List (Addr × Obj)} {σ : L2.St} {H : Hp} {s : Shared} (I : Inv X pins σ H s) : ∀ {ts : List Addr} {us : List Ar}, Paired (Pr X.K H) ts us → HS.Keys X.prog X.w s.heap (ts.zip (us.map keyOf))
  | _, _, .nil => fun b k hb => by cases hb
  | _, _, .cons r t => fun b k hb => by
    rcases List.mem_cons.mp hb with z | z
    · obtain ⟨rfl, rfl⟩ := Prod.mk.inj z
      exact Pr.key I r
    · exact pairs_keys I t b k z
theorem vals_refs : ∀ {ts : List Addr} {us : List Value}, Vals (ts.map V.ref) us → us = ts.map Value.ref
  | [], _, .nil => rfl
  | t :: ts, _, .cons r rr => by
    rw [vals_refs rr]
    rw [show _ = Value.ref t from r]
    rfl
theorem refs_vals : ∀ bs : List Addr, Vals (bs.map V.ref) (bs.map Value.ref)
  | [] => .nil
  | b :: bs => .cons rfl (refs_vals bs)
def tSS (K : PySem.W.Frag) (ta : TA) : TE := fun σ H Q => ta σ H fun vs H1 => ∃ (a : Addr) (us : List Ar), vs = [V.ref a] ∧ Prs K H1 a us ∧ us.length ≤ 8 ∧
  ∀ (p : Addr) (bs : List Addr) (us' : List Ar), H1 p = none → Paired (Pr K H1) bs us' → (∀ u, u ∈ us' ↔ u ∈ us) → us'.length ≤ us.length → Q (.ref p) (upd H1 p (.lst (bs.map V.ref)))
theorem zip_mem {ts : List Addr} {us : List Ar} {b : Addr} {k : HS.Key} : ∀ {F : Addr → Ar → Prop}, Paired F ts us → (b, k) ∈ ts.zip (us.map keyOf) → ∃ u, u ∈ us ∧ k = keyOf u ∧ F b u
  | _, .nil, h => by cases h
  | _, .cons r t, h => by
    rcases List.mem_cons.mp h with z | z
    · obtain ⟨rfl, rfl⟩ := Prod.mk.inj z
      exact ⟨_, List.mem_cons_self, rfl, r⟩
    · obtain ⟨u, h1, h2⟩ := zip_mem t z
      exact ⟨u, List.mem_cons_of_mem _ h1, h2⟩
theorem mem_zip {F : Addr → Ar → Prop} : ∀ {ts : List Addr} {us : List Ar} {u : Ar}, Paired F ts us → u ∈ us → ∃ b, (b, keyOf u) ∈ ts.zip (us.map keyOf)
  | _, _, _, .nil, h => by cases h
  | _, _, _, .cons r t, h => by
    rcases List.mem_cons.mp h with z | z
    · subst z; exact ⟨_, List.mem_cons_self⟩
    · obtain ⟨b, hb⟩ := mem_zip t z
      exact ⟨b, List.mem_cons_of_mem _ hb⟩
theorem pairs_of {F : Addr → Ar → Prop} {G : Ar → Prop} : ∀ {bs : List Addr}, (∀ b ∈ bs, ∃ u, G u ∧ F b u) → ∃ us', Paired F bs us' ∧ (∀ u ∈ us', G u) ∧ us'.length = bs.length ∧ ∀ b ∈ bs, ∃ u ∈ us', F b u
  | [], _ => ⟨[], .nil, fun u h => absurd h List.not_mem_nil, rfl, fun b h => absurd h List.not_mem_nil⟩
  | b :: bs, h => by
    obtain ⟨us, h1, h2, h3, h4⟩ := pairs_of (bs := bs) fun b hb => h b (List.mem_cons_of_mem _ hb)
    obtain ⟨u, g, f⟩ := h b List.mem_cons_self
    refine ⟨u :: us, .cons f h1, fun v hv => ?_, by simp [h3], fun c hc => ?_⟩
    · rcases List.mem_cons.mp hv with z | z
      · subst z; exact g
      · exact h2 v z
    · rcases List.mem_cons.mp hc with z | z
      · subst z; exact ⟨u, List.mem_cons_self, f⟩
      · obtain ⟨v, hv, fv⟩ := h4 c z
        exact ⟨v, List.mem_cons_of_mem _ hv, fv⟩
theorem pe_sortedSet {e : Expr} {ta : TA} {p1 p2 q1 q2 : Pos} (hgS : Gl X "sorted") (hmS : X.mg "sorted" = none) (hgT : Gl X "set") (hmT : X.mg "set" = none) (hc : X.calm = true) (hu : X.A.units + 20 < cLine) (ha : PA X [e] ta)
    (he : starEach [e] X.env = [(false, eval e X.env)] := by rfl) (he2 : starEach [Expr.Call (.Name "set" p2) [e] [] q2] X.env = [(false, eval (.Call (.Name "set" p2) [e] [] q2) X.env)] := by rfl) :
    PE X (.Call (.Name "sorted" p1) [.Call (.Name "set" p2) [e] [] q2] [] q1) (tSS X.K ta) := by
  intro pins s σ H Q I h
  refine wpAny_Call_Name_kw (ld_blt I hgS hmS PyProof.Rows.boot_sorted ?_)
  refine PyProof.Rows.callWith_builtin1 (wpAny_items_cons ?_ he2) he2 rfl
  refine wpAny_Call_Name_kw (ld_blt I hgT hmT PyProof.Rows.boot_set ?_)
  refine PyProof.Rows.callWith_type1 (thn (ha q2 pins s σ H _ I h) fun us s1 ⟨vs, H1, I1, r1, q⟩ => ?_) he rfl
  obtain ⟨a, ps, rfl, ⟨ts, h1, h2⟩, hlen, k⟩ := q
  rw [Vals.ref1 r1]
  obtain ⟨its, rv, hl, _⟩ := I1.list h1
  have eits := vals_refs rv
  subst eits
  have hK := pairs_keys I1 h2
  have hlt : ts.length = ps.length := Paired.length h2
  let hd : Nat → Addr × HS.Key := fun i => (ts.zip (ps.map keyOf)).getD i (0, [])
  have hfirst : HS.firstN hd (List.map Value.ref ts).toArray.size = ts.zip (ps.map keyOf) := by
    have hz : (ts.zip (ps.map keyOf)).length = ts.length := by simp [List.length_zip, hlt]
    unfold HS.firstN
    rw [List.size_toArray, List.length_map, ← hz]
    apply List.ext_getElem
    · simp
    · intro i h1 h2
      simp only [List.getElem_map, List.getElem_range, hd]
      rw [List.getD_eq_getElem?_getD, List.getElem?_eq_getElem h2]
      rfl
  have hi : ∀ (i : Nat) (v : Value), (List.map Value.ref ts).toArray[i]? = some v → v = Value.ref (hd i).1 := by
    intro i v hv
    rw [List.getElem?_toArray, List.getElem?_map] at hv
    cases e : ts[i]? with
    | none => rw [e] at hv; cases hv
    | some b =>
      rw [e] at hv
      have ev : Value.ref b = v := Option.some.inj hv
      have hil : i < ts.length := (List.getElem?_eq_some_iff.mp e).1
      have : (hd i).1 = b := by
        show ((ts.zip (ps.map keyOf)).getD i (0, [])).1 = b
        have hil2 : i < (ps.map keyOf).length := by rw [List.length_map]; omega
        have e2 : (ps.map keyOf)[i]? = some (ps.map keyOf)[i] := List.getElem?_eq_getElem hil2
        have e3 : (ts.zip (ps.map keyOf))[i]? = some (b, (ps.map keyOf)[i]) := List.getElem?_zip_eq_some.mpr ⟨e, e2⟩
        rw [List.getD_eq_getElem?_getD, e3]
        rfl
      rw [this, ev]
  have hh := I.ok.hd hc
  refine HS.call_set_tuples (hd := hd) hh (by omega) hl.isList hi (by rw [List.size_toArray, List.length_map]; omega) (by rw [hfirst]; exact hK) fun h' tk hT hk => ?_
  rw [hfirst] at hT
  refine wpAny_items_nil ?_
  have I2 : Inv X pins σ H1 { s1 with heap := h', toks := tk } := I1.kept fun b u e => hk b u (Heap.lt_size e) e
  have hK2 := pairs_keys I2 h2
  have hne : ∀ b k, (b, k) ∈ ts.zip (ps.map keyOf) → k ≠ [] := by
    intro b k hb
    obtain ⟨u, _, rfl, _⟩ := zip_mem h2 hb
    intro z
    cases z
  refine HS.wp_sorted (s := { s1 with heap := h', toks := tk }) hh hT hK2 hne fun h'' tk2 p bs ep hp hk2 hg hb1 hb2 hb3 hb8 => ?_
  obtain ⟨us', g1, g2, g3, g4⟩ := pairs_of (F := Pr X.K H1) (G := fun u => u ∈ ps) (bs := bs) fun b hb => by
    obtain ⟨k, hk⟩ := hb1 b hb
    obtain ⟨u, h1, _, h3⟩ := zip_mem h2 hk
    exact ⟨u, h1, h3⟩
  have hz : (ts.zip (ps.map keyOf)).length = ps.length := by simp [List.length_zip, hlt]
  refine ⟨.ref p, upd H1 p (.lst (bs.map V.ref)), I2.laid (t' := tk2) hk2 hp ⟨by rw [List.length_map]; exact HS.size8 hb8, bs.map Value.ref, ep, refs_vals bs, hg⟩, rfl, k p bs us' (I2.hok.fresh hp) g1 (fun u => ⟨g2 u, fun hu => ?_⟩) (by omega)⟩
  obtain ⟨b, hb⟩ := mem_zip h2 hu
  obtain ⟨b', hb', hk'⟩ := hb2 b (keyOf u) hb
  obtain ⟨v, hv, fv⟩ := g4 b' hb'
  obtain ⟨v2, _, ek, fv2⟩ := zip_mem h2 hk'
  have e1 : keyOf v = keyOf u := by
    rw [ek]
    exact (Pr.key I1 fv).inj (Pr.key I1 fv2)
  rw [← keyOf_inj e1]
  exact hv
end
end HQ

end
section
namespace HQ
open PySem PySem.Spec PyProof.Rows L2 HP
abbrev sTell : Stmt := top 7
abbrev sStrs : Stmt := top 8
abbrev sDoCross : Stmt := top 9
abbrev sPart : Stmt := top 10
abbrev sCrossing : Stmt := top 11
theorem SqT.same {K : PySem.W.Frag} {H H' : Hp} {t : Addr} {xs : List V} (e : Same H H') (h : SqT K H t xs) : SqT K H' t xs := by
  rcases h with (h | ⟨o, h⟩) | h
  · exact .inl (.inl (e _ _ h))
  · exact .inl (.inr ⟨o, e _ _ h⟩)
  · exact .inr h
theorem SqT.own {K : PySem.W.Frag} {H : Hp} {D t : Addr} {xs : List V} {l l' : List V} (h : H D = some (.lst l)) (p : SqT K H t xs) : SqT K (upd H D (.lst l')) t xs := by
  rcases p with (p | ⟨o, p⟩) | p
  · exact .inl (.inl (by rw [upd_ne (fun z => by rw [z, h] at p; cases p)]; exact p))
  · exact .inl (.inr ⟨o, by rw [upd_ne (fun z => by rw [z, h] at p; cases p)]; exact p⟩)
  · exact .inr p
structure Stb {α : Type} (D : Addr) (F : Hp → Addr → α → Prop) : Prop where
  same : ∀ {H H' : Hp} {t : Addr} {x : α}, Same H H' → F H t x → F H' t x
  own : ∀ {H : Hp} {t : Addr} {x : α} {l l' : List V}, H D = some (.lst l) → F H t x → F (upd H D (.lst l')) t x
def Own {α : Type} (F : Hp → Addr → α → Prop) (H0 H : Hp) (D : Addr) (xs : List α) : Prop := H0 D = none ∧ Same H0 H ∧ ∃ ls : List Addr, H D = some (.lst (ls.map V.ref)) ∧ Paired (F H) ls xs
theorem Own.start {α : Type} {F : Hp → Addr → α → Prop} {H : Hp} {D : Addr} (h : H D = none) : Own F H (upd H D (.lst [])) D [] := ⟨h, Same.put h, [], upd_same, .nil⟩
theorem Own.move {α : Type} {F : Hp → Addr → α → Prop} {H0 H H1 : Hp} {D : Addr} {xs : List α} (S : Stb D F) (o : Own F H0 H D xs) (s : Same H H1) : Own F H0 H1 D xs := by
  obtain ⟨h0, h1, ls, h2, h3⟩ := o
  exact ⟨h0, h1.trans s, ls, s _ _ h2, Paired.mapP h3 fun _ _ => S.same s⟩
theorem Own.grow {α : Type} {F : Hp → Addr → α → Prop} {H0 H : Hp} {D : Addr} {xs : List α} (S : Stb D F) (o : Own F H0 H D xs) : ∃ acc : List V, H D = some (.lst acc) ∧ acc.length = xs.length ∧ ∀ t x, F H t x → Own F H0 (upd H D (.lst (acc ++ [V.ref t]))) D (xs ++ [x]) := by
  obtain ⟨h0, h1, ls, h2, h3⟩ := o
  refine ⟨_, h2, by rw [List.length_map, Paired.length h3], fun t x f => ⟨h0, Same.own h0 h1, ls ++ [t], by rw [upd_same, List.map_append]; rfl, ?_⟩⟩
  exact Paired.snoc (Paired.mapP h3 fun _ _ p => S.own h2 p) (S.own h2 f)
theorem Own.done {α : Type} {F : Hp → Addr → α → Prop} {H0 H : Hp} {D : Addr} {xs : List α} (o : Own F H0 H D xs) : ∃ ls : List Addr, H D = some (.lst (ls.map V.ref)) ∧ Paired (F H) ls xs := o.2.2
def Bd (u : Ar) : Prop := (-10000 ≤ u.1 ∧ u.1 ≤ 10000) ∧ (-10000 ≤ u.2 ∧ u.2 ≤ 10000)
def St2 (K : PySem.W.Frag) (H : Hp) (t : Addr) (s : Ar × Ar) : Prop := ∃ a b, SqT K H t [.ref a, .ref b] ∧ Pr K H a s.1 ∧ Pr K H b s.2
def Pl (K : PySem.W.Frag) (H : Hp) (t : Addr) (q : Rc70.Place) : Prop := SqT K H t [.int q.x, .int q.y, .int q.d]
section
variable {P : Program} {w : World} {K : PySem.W.Frag} {mg : Str → Option Value} {base : Heap}
theorem stb_pr (D : Addr) : Stb D (Pr K) := ⟨fun e h => SqT.same e h, fun h p => SqT.own h p⟩
theorem stb_st (D : Addr) : Stb D (St2 K) := ⟨fun e ⟨a, b, h1, h2, h3⟩ => ⟨a, b, SqT.same e h1, SqT.same e h2, SqT.same e h3⟩, fun h ⟨a, b, h1, h2, h3⟩ => ⟨a, b, SqT.own h h1, SqT.own h h2, SqT.own h h3⟩⟩
theorem stb_pl (D : Addr) : Stb D (Pl K) := ⟨fun e h => SqT.same e h, fun h p => SqT.own h p⟩
theorem bd_vec {a b : Ar} (ha : Bd a) (hb : Bd b) : Sm (arr2 a b) := by
  unfold Bd at ha hb
  unfold Sm arr2
  simp only
  omega
theorem mul_bd {x y : Int} {n m : Int} (hn : 0 ≤ n) (hm : 0 ≤ m) (hx : -n ≤ x ∧ x ≤ n) (hy : -m ≤ y ∧ y ≤ m) : -(n * m) ≤ x * y ∧ x * y ≤ n * m := by
  have h1 : x.natAbs ≤ n.natAbs := by omega
  have h2 : y.natAbs ≤ m.natAbs := by omega
  have h3 : (x * y).natAbs ≤ (n * m).natAbs := by
    rw [Int.natAbs_mul, Int.natAbs_mul]
    exact Nat.mul_le_mul h1 h2
  have h4 : 0 ≤ n * m := Int.mul_nonneg hn hm
  omega
theorem vec_bd {a b : Ar} (ha : Bd a) (hb : Bd b) : (-20000 ≤ (arr2 a b).1 ∧ (arr2 a b).1 ≤ 20000) ∧ (-20000 ≤ (arr2 a b).2 ∧ (arr2 a b).2 ≤ 20000) := by
  unfold Bd at ha hb
  unfold arr2
  simp only
  omega
theorem cross_bd {u v : Ar} (hu : (-20000 ≤ u.1 ∧ u.1 ≤ 20000) ∧ (-20000 ≤ u.2 ∧ u.2 ≤ 20000)) (hv : (-20000 ≤ v.1 ∧ v.1 ≤ 20000) ∧ (-20000 ≤ v.2 ∧ v.2 ≤ 20000)) : -800000000 ≤ cross u v ∧ cross u v ≤ 800000000 := by
  have h1 := mul_bd (n := 20000) (m := 20000) (by decide) (by decide) hu.1 hv.2
  have h2 := mul_bd (n := 20000) (m := 20000) (by decide) (by decide) hu.2 hv.1
  unfold cross
  omega
def spPart (K : PySem.W.Frag) (f : Ar × Ar → Ar × Ar → V) : Sp := fun vs H Q _ => ∃ (s o : Addr) (u v : Ar × Ar), vs = [.ref s, .ref o] ∧ St2 K H s u ∧ St2 K H o v ∧ (Bd u.1 ∧ Bd u.2) ∧ (Bd v.1 ∧ Bd v.2) ∧ ∀ H', Same H H' → Q (f u v) H'
theorem scPt : FnScope ["stretch", "other", "along", "start_side", "end_side"] ["stretch", "other"] (defScope sPart) := ⟨rfl, rfl, rfl, by decide +kernel, rfl, by decide +kernel, by decide +kernel⟩
theorem ok_parting {f : Addr} {fd : FuncData} (F : Fun K "is_parting" "is_parting" sPart f fd) (hC : Has P w K mg base "cross" 1 ["one", "other"] (spPair K fun u v => .int (cross u v))) (hB : Has P w K mg base "arrow_between" 1 ["start", "end"] (spBetw K)) :
    FnOk P w K mg base CX0 2 f fd ["stretch", "other"] (spPart K fun u v => .bl (parting u.1 u.2 v.1 v.2)) := by
  refine F.ok scPt (fun vs H Q E h => ?_) (fun cdv A outr s H vs Q E hr h => ?_)
  · obtain ⟨s, o, u, v, rfl, _⟩ := h
    rfl
  · obtain ⟨st, ot, u, v, rfl, ⟨a, b, h1, ha, hb⟩, ⟨c, e, h2, hc, he⟩, ⟨bu1, bu2⟩, ⟨bv1, bv2⟩, k⟩ := h
    refine ⟨_, pss_cons (ps_set (i := 2) scPt.nd rfl (Or.inl rfl) (pe_has hB hr rfl (pa_cons (pe_ix ix_tup (pv 0) pe_int (fun _ _ => rfl)) (pa_cons (pe_ix ix_tup (pv 0) pe_int (fun _ _ => rfl)) pa_nil))))
      (pss_cons (ps_set (i := 3) scPt.nd rfl (Or.inl rfl) (pe_has hC hr rfl (pa_cons (pv 2) (pa_cons (pe_has hB hr rfl (pa_cons (pe_ix ix_tup (pv 0) pe_int (fun _ _ => rfl)) (pa_cons (pe_ix ix_tup (pv 1) pe_int (fun _ _ => rfl)) pa_nil))) pa_nil))))
      (pss_cons (ps_set (i := 4) scPt.nd rfl (Or.inl rfl) (pe_has hC hr rfl (pa_cons (pv 2) (pa_cons (pe_has hB hr rfl (pa_cons (pe_ix ix_tup (pv 0) pe_int (fun _ _ => rfl)) (pa_cons (pe_ix ix_tup (pv 1) pe_int (fun _ _ => rfl)) pa_nil))) pa_nil))))
      (pss_one (ps_ret (pe_cmpR op_lt (pe_op op_mul (pv 3) (pv 4)) pe_int (nomark _)))))), ?_⟩
    refine ⟨_, rfl, st, _, _, _, rfl, rfl, h1, rfl, _, rfl, st, _, _, _, rfl, rfl, h1, rfl, a, b, u.1, u.2, rfl, ha, hb, fun H1 t1 s1 p1 => ?_⟩
    refine ⟨_, rfl, _, rfl, st, _, _, _, rfl, rfl, SqT.same s1 h1, rfl, _, rfl, ot, _, _, _, rfl, rfl, SqT.same s1 h2, rfl, a, c, u.1, v.1, rfl, ha.same s1, hc.same s1, fun H2 t2 s2 p2 => ?_⟩
    refine ⟨t1, t2, _, _, rfl, p1.same s2, p2, bd_vec bu1 bu2, ?_⟩
    have s12 := s1.trans s2
    refine ⟨_, rfl, _, rfl, st, _, _, _, rfl, rfl, SqT.same s12 h1, rfl, _, rfl, ot, _, _, _, rfl, rfl, SqT.same s12 h2, rfl, a, e, u.1, v.2, rfl, ha.same s12, he.same s12, fun H3 t3 s3 p3 => ?_⟩
    refine ⟨t1, t3, _, _, rfl, (p1.same s2).same s3, p3, bd_vec bu1 bu2, ?_⟩
    have cb := cross_bd (vec_bd bu1 bu2) (vec_bd bu1 bv1)
    exact ⟨_, rfl, _, rfl, _, _, rfl, rfl, .inl ⟨by omega, by omega⟩, _, _, rfl, rfl, k H3 (s12.trans s3)⟩
theorem scDC : FnScope ["one", "other"] ["one", "other"] (defScope sDoCross) := ⟨rfl, rfl, rfl, by decide +kernel, rfl, by decide +kernel, by decide +kernel⟩
def crossB (u v : Ar × Ar) : Bool := parting u.1 u.2 v.1 v.2 && parting v.1 v.2 u.1 u.2
theorem ok_docross {f : Addr} {fd : FuncData} (F : Fun K "do_cross" "do_cross" sDoCross f fd) (hP : Has P w K mg base "is_parting" 2 ["stretch", "other"] (spPart K fun u v => .bl (parting u.1 u.2 v.1 v.2))) :
    FnOk P w K mg base CX0 3 f fd ["one", "other"] (spPart K fun u v => .bl (crossB u v)) := by
  refine F.ok scDC (fun vs H Q E h => ?_) (fun cdv A outr s H vs Q E hr h => ?_)
  · obtain ⟨s, o, u, v, rfl, _⟩ := h
    rfl
  · obtain ⟨st, ot, u, v, rfl, h1, h2, b1, b2, k⟩ := h
    refine ⟨_, pss_one (ps_ret (pe_and (pe_has hP hr rfl (pa_cons (pv 0) (pa_cons (pv 1) pa_nil))) (pe_one (pe_has hP hr rfl (pa_cons (pv 1) (pa_cons (pv 0) pa_nil)))))), ?_⟩
    refine ⟨_, rfl, _, rfl, st, ot, u, v, rfl, h1, h2, b1, b2, fun H1 s1 => ⟨_, rfl, ?_⟩⟩
    have k : ∀ H', Same H H' → Q (V.bl (parting u.1 u.2 v.1 v.2 && parting v.1 v.2 u.1 u.2)) H' := k
    cases z : parting u.1 u.2 v.1 v.2
    · rw [z] at k
      exact iteF (k H1 s1)
    · rw [z] at k
      refine iteT ⟨_, rfl, _, rfl, ot, st, v, u, rfl, (stb_st (K := K) 0).same s1 h2, (stb_st (K := K) 0).same s1 h1, b2, b1, fun H2 s2 => ?_⟩
      exact k H2 (s1.trans s2)
def spCross (K : PySem.W.Frag) : Sp := fun vs H Q _ => ∃ (s o : Addr) (u v : Ar × Ar), vs = [.ref s, .ref o] ∧ St2 K H s u ∧ St2 K H o v ∧ (Bd u.1 ∧ Bd u.2) ∧ (Bd v.1 ∧ Bd v.2) ∧ ∀ (H' : Hp) (t : Addr), Same H H' → Pl K H' t (crossAt u.1 u.2 v.1 v.2) → Q (.ref t) H'
theorem scCr : FnScope ["one", "other", "start", "along", "across", "d", "share"] ["one", "other"] (defScope sCrossing) := ⟨rfl, rfl, rfl, by decide +kernel, rfl, by decide +kernel, by decide +kernel⟩
theorem ok_crossing {f : Addr} {fd : FuncData} (F : Fun K "crossing" "crossing" sCrossing f fd) (hC : Has P w K mg base "cross" 1 ["one", "other"] (spPair K fun u v => .int (cross u v))) (hB : Has P w K mg base "arrow_between" 1 ["start", "end"] (spBetw K)) :
    FnOk P w K mg base CX0 2 f fd ["one", "other"] (spCross K) := by
  refine F.ok scCr (fun vs H Q E h => ?_) (fun cdv A outr s H vs Q E hr h => ?_)
  · obtain ⟨s, o, u, v, rfl, _⟩ := h
    rfl
  · obtain ⟨st, ot, u, v, rfl, ⟨a, b, h1, ha, hb⟩, ⟨c, e, h2, hc, he⟩, ⟨bu1, bu2⟩, ⟨bv1, bv2⟩, k⟩ := h
    refine ⟨_, pss_cons (ps_set (i := 2) scCr.nd rfl (Or.inl rfl) (pe_ix ix_tup (pv 0) pe_int (fun _ _ => rfl)))
      (pss_cons (ps_set (i := 3) scCr.nd rfl (Or.inl rfl) (pe_has hB hr rfl (pa_cons (pe_ix ix_tup (pv 0) pe_int (fun _ _ => rfl)) (pa_cons (pe_ix ix_tup (pv 0) pe_int (fun _ _ => rfl)) pa_nil))))
      (pss_cons (ps_set (i := 4) scCr.nd rfl (Or.inl rfl) (pe_has hB hr rfl (pa_cons (pe_ix ix_tup (pv 1) pe_int (fun _ _ => rfl)) (pa_cons (pe_ix ix_tup (pv 1) pe_int (fun _ _ => rfl)) pa_nil))))
      (pss_cons (ps_set (i := 5) scCr.nd rfl (Or.inl rfl) (pe_has hC hr rfl (pa_cons (pv 3) (pa_cons (pv 4) pa_nil))))
      (pss_cons (ps_set (i := 6) scCr.nd rfl (Or.inl rfl) (pe_has hC hr rfl (pa_cons (pe_has hB hr rfl (pa_cons (pe_ix ix_tup (pv 0) pe_int (fun _ _ => rfl)) (pa_cons (pe_ix ix_tup (pv 1) pe_int (fun _ _ => rfl)) pa_nil))) (pa_cons (pv 4) pa_nil))))
      (pss_cons (ps_if (pt_cmpR op_lt (pv 5) pe_int (nomark _)) (pss_cons (ps_set (i := 5) scCr.nd rfl (Or.inl rfl) (pe_un un_neg (pv 5))) (pss_one (ps_set (i := 6) scCr.nd rfl (Or.inl rfl) (pe_un un_neg (pv 6))))) pss_nil)
      (pss_one (ps_ret (pe_tup (pa_cons (pe_op op_add (pe_op op_mul (pe_fst (K := K) rfl (pv 2)) (pv 5)) (pe_op op_mul (pe_fst (K := K) rfl (pv 3)) (pv 6)))
        (pa_cons (pe_op op_add (pe_op op_mul (pe_snd (K := K) rfl (pv 2)) (pv 5)) (pe_op op_mul (pe_snd (K := K) rfl (pv 3)) (pv 6))) (pa_cons (pv 5) pa_nil))))))))))), ?_⟩
    refine ⟨_, rfl, st, _, _, _, rfl, rfl, h1, rfl, ?_⟩
    refine ⟨_, rfl, st, _, _, _, rfl, rfl, h1, rfl, _, rfl, st, _, _, _, rfl, rfl, h1, rfl, a, b, u.1, u.2, rfl, ha, hb, fun H1 t1 s1 p1 => ?_⟩
    refine ⟨_, rfl, ot, _, _, _, rfl, rfl, SqT.same s1 h2, rfl, _, rfl, ot, _, _, _, rfl, rfl, SqT.same s1 h2, rfl, c, e, v.1, v.2, rfl, hc.same s1, he.same s1, fun H2 t2 s2 p2 => ?_⟩
    have s12 := s1.trans s2
    refine ⟨_, rfl, _, rfl, t1, t2, _, _, rfl, p1.same s2, p2, bd_vec bu1 bu2, ?_⟩
    refine ⟨_, rfl, st, _, _, _, rfl, rfl, SqT.same s12 h1, rfl, _, rfl, ot, _, _, _, rfl, rfl, SqT.same s12 h2, rfl, a, c, u.1, v.1, rfl, ha.same s12, hc.same s12, fun H3 t3 s3 p3 => ?_⟩
    refine ⟨_, rfl, t3, t2, _, _, rfl, p3, p2.same s3, bd_vec bu1 bv1, ?_⟩
    have s123 := s12.trans s3
    have pa := ha.same s123
    have pl := (p1.same s2).same s3
    have sm := bd_vec bu1 bu2
    have sa : Sm u.1 := by unfold Bd at bu1; unfold Sm; omega
    refine ⟨_, rfl, _, _, rfl, rfl, _, rfl, ?_⟩
    refine ite2 (fun z => ?_) (fun z => ?_)
    · have z : cross (arr2 u.1 u.2) (arr2 v.1 v.2) < 0 := of_decide_eq_true z
      refine ⟨_, rfl, _, rfl, _, rfl, _, rfl, ?_⟩
      refine ⟨_, rfl, a, u.1, rfl, pa, _, rfl, _, _, rfl, rfl, .inl sa.1, _, rfl, t1, _, rfl, pl, _, rfl, _, _, rfl, rfl, .inl sm.1, _, _, rfl, rfl, _, rfl, a, u.1, rfl, pa, _, rfl, _, _, rfl, rfl, .inl sa.2, _, rfl, t1, _, rfl, pl, _, rfl, _, _, rfl, rfl, .inl sm.2, _, _, rfl, rfl, _, rfl, (by show 3 ≤ sizeLine; decide), fun t ht => ?_⟩
      refine k _ t (s123.trans (Same.put ht)) (.inl (.inl ?_))
      rw [upd_same]
      unfold crossAt
      rw [if_pos (show cross (vec u.1 u.2) (vec v.1 v.2) < 0 from z)]
      rfl
    · have z : ¬ cross (arr2 u.1 u.2) (arr2 v.1 v.2) < 0 := fun q => z (decide_eq_true q)
      refine ⟨_, rfl, a, u.1, rfl, pa, _, rfl, _, _, rfl, rfl, .inl sa.1, _, rfl, t1, _, rfl, pl, _, rfl, _, _, rfl, rfl, .inl sm.1, _, _, rfl, rfl, _, rfl, a, u.1, rfl, pa, _, rfl, _, _, rfl, rfl, .inl sa.2, _, rfl, t1, _, rfl, pl, _, rfl, _, _, rfl, rfl, .inl sm.2, _, _, rfl, rfl, _, rfl, (by show 3 ≤ sizeLine; decide), fun t ht => ?_⟩
      refine k _ t (s123.trans (Same.put ht)) (.inl (.inl ?_))
      rw [upd_same]
      unfold crossAt
      rw [if_neg (show ¬ cross (vec u.1 u.2) (vec v.1 v.2) < 0 from z)]
      rfl
end
end HQ

end
section
namespace HQ
open PySem PySem.Spec PyProof.Rows L2 HP
section
variable {P : Program} {w : World} {K : PySem.W.Frag} {mg : Str → Option Value} {base : Heap}
def cAt (cs : List Ar) (i : Nat) : Ar := cs.getD i (0, 0)
def rowTo (cs : List Ar) (e n : Nat) : List (Ar × Ar) := (List.range n).map fun s => (cAt cs s, cAt cs e)
def strsTo (cs : List Ar) (n : Nat) : List (Ar × Ar) := (List.range n).flatMap fun e => rowTo cs e e
theorem rowTo_succ (cs : List Ar) (e n : Nat) : rowTo cs e (n + 1) = rowTo cs e n ++ [(cAt cs n, cAt cs e)] := by
  unfold rowTo
  rw [List.range_succ, List.map_append]
  rfl
theorem strsTo_succ (cs : List Ar) (n : Nat) : strsTo cs (n + 1) = strsTo cs n ++ rowTo cs n n := by
  unfold strsTo
  rw [List.range_succ, List.flatMap_append]
  simp
theorem rowTo_len (cs : List Ar) (e n : Nat) : (rowTo cs e n).length = n := by
  unfold rowTo
  rw [List.length_map, List.length_range]
theorem strsTo_len (cs : List Ar) (n : Nat) : (strsTo cs n).length ≤ n * n := by
  induction n with
  | zero => exact Nat.le_refl _
  | succ n ih =>
    rw [strsTo_succ, List.length_append, rowTo_len, Nat.add_mul, Nat.mul_add]
    omega
def spStrs (K : PySem.W.Frag) : Sp := fun vs H Q _ => ∃ (a : Addr) (cs : List Ar), vs = [.ref a] ∧ Prs K H a cs ∧ cs.length ≤ 8 ∧ ∀ (H' : Hp) (D : Addr), Own (St2 K) H H' D (strsTo cs cs.length) → Q (.ref D) H'
theorem scSt : FnScope ["corners", "stretches", "end", "start"] ["corners"] (defScope sStrs) := ⟨rfl, rfl, rfl, by decide +kernel, rfl, by decide +kernel, by decide +kernel⟩
theorem nat_int (lo : Nat) : ((0 : Int) + (lo : Int)) = (lo : Int) := Int.zero_add _
theorem ok_strs {f : Addr} {fd : FuncData} (F : Fun K "stretches_between" "stretches_between" sStrs f fd) (hlen : mg "len" = none) (hrange : mg "range" = none) : FnOk P w K mg base CX0 1 f fd ["corners"] (spStrs K) := by
  refine F.ok scSt (fun vs H Q E h => ?_) (fun cdv A outr s H vs Q E hr h => ?_)
  · obtain ⟨a, cs, rfl, _⟩ := h
    rfl
  · obtain ⟨a, cs, rfl, ⟨ts, h1, h2⟩, hl, k⟩ := h
    have hts : ts.length = cs.length := Paired.length h2
    refine ⟨_, pss_cons (ps_set (i := 1) scSt.nd rfl (Or.inl rfl) (pe_lst pa_nil))
      (pss_cons (ps_for PassesOwn.never rfl (pi_range1 rfl hrange (pa_cons (pe_callB call_len_seq (by rfl) hlen PySem.boot_len (pa_cons (pv 0) pa_nil)) pa_nil)) (pg_name (i := 2) scSt.nd rfl (Or.inl rfl))
        (pss_one (ps_for PassesOwn.never rfl (pi_range1 rfl hrange (pa_cons (pv 2) pa_nil)) (pg_name (i := 3) scSt.nd rfl (Or.inl rfl))
          (pss_one (ps_expr (pe_bm PySem.F.plainAttrs_list PySem.F.slot_list_append PySem.F.type_list_append mt_append (pv 1) (pa_cons (pe_tup (pa_cons (pe_ix ix_list (pv 0) (pv 3) (fun _ _ => rfl)) (pa_cons (pe_ix ix_list (pv 0) (pv 2) (fun _ _ => rfl)) pa_nil))) pa_nil)))))))
      (pss_one (ps_ret (pv 1)))), ?_⟩
    have get : ∀ i, i < cs.length → ∃ p, atI (ts.map V.ref) (i : Int) = some (V.ref p) ∧ Pr K H p (cAt cs i) := by
      intro i hi
      have hml : i < ts.length := by omega
      obtain ⟨u, hu, hp⟩ := Paired.at h2 (List.getElem?_eq_getElem hml)
      have e : cAt cs i = u := by unfold cAt; rw [List.getD_eq_getElem?_getD, hu]; rfl
      exact ⟨_, at_of rfl (by rw [List.getElem?_map, List.getElem?_eq_getElem hml]; rfl), by rw [e]; exact hp⟩
    refine ⟨Nat.zero_le _, fun D hD => ?_⟩
    have O0 : Own (St2 K) H (upd H D (.lst [])) D [] := Own.start hD
    refine ⟨_, rfl, a, _, rfl, .inl (O0.2.1.seq h1), _, rfl, by omega, by rw [List.length_map]; omega, ?_⟩
    rw [List.length_map, hts, Int.toNat_natCast]
    refine for_range (fun i σ H' => ∃ v2 v3 : Option V, σ = [some (.ref a), some (.ref D), v2, v3] ∧ Own (St2 K) H H' D (strsTo cs i)) ⟨none, none, rfl, O0⟩ ?_ ?_
    · rintro i σ H1 hi ⟨v2, v3, rfl, O1⟩
      rw [nat_int]
      refine ⟨_, rfl, _, rfl, by omega, by omega, ?_⟩
      rw [Int.toNat_natCast]
      refine for_range (fun j σ H' => ∃ v3 : Option V, σ = [some (.ref a), some (.ref D), some (.int (i : Int)), v3] ∧ Own (St2 K) H H' D (strsTo cs i ++ rowTo cs i j)) ⟨v3, rfl, by simpa [rowTo] using O1⟩ ?_ ?_
      · rintro j σ H2 hj ⟨v3, rfl, O2⟩
        rw [nat_int]
        obtain ⟨pj, ej, prj⟩ := get j (by omega)
        obtain ⟨pi, ei, pri⟩ := get i (by omega)
        have s2 := O2.2.1
        obtain ⟨acc0, ha0, _⟩ := O2.grow (stb_st D)
        refine ⟨_, rfl, .inl ⟨rfl, _, SqL.of ha0⟩, _, rfl, _, rfl, a, _, _, _, rfl, rfl, s2.seq h1, ej, _, rfl, _, rfl, a, _, _, _, rfl, rfl, s2.seq h1, ei, (by show 2 ≤ sizeLine; decide), fun q hq => ?_⟩
        have sq : Same H2 (upd H2 q (.tup [.ref pj, .ref pi])) := Same.put hq
        have O3 := O2.move (stb_st D) sq
        obtain ⟨acc, ha, hal, hgo⟩ := O3.grow (stb_st D)
        refine ⟨D, acc, _, rfl, rfl, ha, ?_, _, rfl, ?_⟩
        · rw [hal, List.length_append, rowTo_len, sizeLine_eq]
          have := strsTo_len cs i
          have : i * i ≤ 8 * 8 := Nat.mul_le_mul (by omega) (by omega)
          omega
        · rw [rowTo_succ, ← List.append_assoc]
          exact hgo q _ ⟨pj, pi, .inl (.inl upd_same), (prj.same s2).same sq, (pri.same s2).same sq⟩
      · rintro σ H2 ⟨v3, rfl, O2⟩
        refine ⟨_, _, rfl, ?_⟩
        rw [strsTo_succ]
        exact O2
    · rintro σ H1 ⟨v2, v3, rfl, O1⟩
      exact ⟨_, rfl, k H1 D O1⟩
end
end HQ

end
section
namespace HQ
open PySem PySem.Spec PyProof.Rows L2 HP
theorem part_rev (a b c e : Ar) : parting b a c e = parting a b c e := by
  unfold parting
  have h1 : cross (vec b a) (vec b c) = -cross (vec a b) (vec a c) := by simp only [cross, vec]; grind
  have h2 : cross (vec b a) (vec b e) = -cross (vec a b) (vec a e) := by simp only [cross, vec]; grind
  rw [h1, h2, Int.neg_mul_neg]
theorem part_rev2 (a b c e : Ar) : parting a b e c = parting a b c e := by
  unfold parting
  rw [Int.mul_comm]
theorem part_ab {a c e : Ar} : parting a a c e = false := by
  unfold parting
  apply decide_eq_false
  have : cross (vec a a) (vec a c) = 0 := by simp only [cross, vec]; grind
  rw [this]
  simp
theorem strs_mem {cs : List Ar} {i j : Nat} (h : i < j) (hj : j < cs.length) : (cAt cs i, cAt cs j) ∈ strsTo cs cs.length := by
  unfold strsTo rowTo
  exact List.mem_flatMap.mpr ⟨j, List.mem_range.mpr hj, List.mem_map.mpr ⟨i, List.mem_range.mpr h, rfl⟩⟩
theorem strs_in {cs : List Ar} {s : Ar × Ar} (h : s ∈ strsTo cs cs.length) : s.1 ∈ cs ∧ s.2 ∈ cs := by
  unfold strsTo rowTo at h
  obtain ⟨j, hj, h⟩ := List.mem_flatMap.mp h
  obtain ⟨i, hi, rfl⟩ := List.mem_map.mp h
  have hj := List.mem_range.mp hj
  have hi := List.mem_range.mp hi
  have mem : ∀ k, k < cs.length → cAt cs k ∈ cs := fun k hk => by
    unfold cAt
    rw [List.getD_eq_getElem?_getD, List.getElem?_eq_getElem hk]
    exact List.getElem_mem hk
  exact ⟨mem i (by omega), mem j hj⟩
theorem c_at {cs : List Ar} {a : Ar} (h : a ∈ cs) : ∃ i, i < cs.length ∧ cAt cs i = a := by
  obtain ⟨i, hi, e⟩ := List.getElem_of_mem h
  refine ⟨i, hi, ?_⟩
  unfold cAt
  rw [List.getD_eq_getElem?_getD, List.getElem?_eq_getElem hi]
  exact e
theorem strs_of {cs : List Ar} {a b : Ar} (ha : a ∈ cs) (hb : b ∈ cs) (hne : a ≠ b) : ∃ (k : Nat) (s : Ar × Ar), (strsTo cs cs.length)[k]? = some s ∧ (s = (a, b) ∨ s = (b, a)) := by
  obtain ⟨i, hi, rfl⟩ := c_at ha
  obtain ⟨j, hj, rfl⟩ := c_at hb
  have hij : i ≠ j := fun z => hne (by rw [z])
  rcases Nat.lt_or_gt_of_ne hij with z | z
  · obtain ⟨k, hk⟩ := List.mem_iff_getElem?.mp (strs_mem z hj)
    exact ⟨k, _, hk, .inl rfl⟩
  · obtain ⟨k, hk⟩ := List.mem_iff_getElem?.mp (strs_mem z hi)
    exact ⟨k, _, hk, .inr rfl⟩
theorem crossB_of {a b c e : Ar} {s t : Ar × Ar} (hs : s = (a, b) ∨ s = (b, a)) (ht : t = (c, e) ∨ t = (e, c)) (h1 : parting a b c e = true) (h2 : parting c e a b = true) : crossB s t = true ∧ crossB t s = true := by
  unfold crossB
  rcases hs with rfl | rfl <;> rcases ht with rfl | rfl <;> simp only [part_rev, part_rev2, h1, h2, Bool.and_self, and_self, part_rev b a, part_rev e c]
theorem tell_of {ps cs : List Ar} {L : List Rc70.Place} (hcs : ∀ p, p ∈ cs ↔ p ∈ ps) (hpos : ∀ q ∈ L, 0 < q.d) (hpts : ∀ p ∈ cs, pt p ∈ L)
    (hcr : ∀ (e l : Nat) (s t : Ar × Ar), e < l → (strsTo cs cs.length)[e]? = some s → (strsTo cs cs.length)[l]? = some t → crossB s t = true → crossAt s.1 s.2 t.1 t.2 ∈ L) : Tell ps L := by
  refine ⟨hpos, fun p hp => hpts p ((hcs p).mpr hp), fun a ha b hb c hc e he h1 h2 => ?_⟩
  have ab : a ≠ b := fun z => by rw [z, part_ab] at h1; cases h1
  have ce : c ≠ e := fun z => by rw [z, part_ab] at h2; cases h2
  obtain ⟨k, s, hk, hs⟩ := strs_of ((hcs a).mpr ha) ((hcs b).mpr hb) ab
  obtain ⟨m, t, hm, ht⟩ := strs_of ((hcs c).mpr hc) ((hcs e).mpr he) ce
  obtain ⟨x1, x2⟩ := crossB_of hs ht h1 h2
  have on : ∀ {s : Ar × Ar} {a b : Ar} {q : Rc70.Place}, (s = (a, b) ∨ s = (b, a)) → Rc70.side s.1 s.2 q = 0 → Rc70.side a b q = 0 := by
    intro s a b q h h0
    rcases h with rfl | rfl
    · exact h0
    · rw [side_swap]
      have h0 : Rc70.side b a q = 0 := h0
      omega
  have hne : k ≠ m := by
    intro z
    rw [z, hm] at hk
    have hst : t = s := Option.some.inj hk
    unfold crossB at x1
    rw [hst] at x1
    have : parting s.1 s.2 s.1 s.2 = false := by
      unfold parting
      apply decide_eq_false
      have : cross (vec s.1 s.2) (vec s.1 s.1) = 0 := by simp only [cross, vec]; grind
      rw [this]
      simp
    rw [this] at x1
    cases x1
  rcases Nat.lt_or_gt_of_ne hne with z | z
  · have := crossAt_on s.1 s.2 t.1 t.2
    exact ⟨_, hcr k m s t z hk hm x1, on hs this.1, on ht this.2⟩
  · have := crossAt_on t.1 t.2 s.1 s.2
    exact ⟨_, hcr m k t s z hm hk x2, on hs this.2, on ht this.1⟩
def PlB (q : Rc70.Place) : Prop := 0 < q.d ∧ q.d ≤ 800000000 ∧ (-24000000000000 ≤ q.x ∧ q.x ≤ 24000000000000) ∧ (-24000000000000 ≤ q.y ∧ q.y ≤ 24000000000000)
theorem pt_bd {p : Ar} (h : Bd p) : PlB (pt p) := by
  unfold Bd at h
  unfold PlB pt
  simp only
  omega
theorem sum_bd {a d v s : Int} (ha : -10000 ≤ a ∧ a ≤ 10000) (hd : -800000000 ≤ d ∧ d ≤ 800000000) (hv : -20000 ≤ v ∧ v ≤ 20000) (hs : -800000000 ≤ s ∧ s ≤ 800000000) : -24000000000000 ≤ a * d + v * s ∧ a * d + v * s ≤ 24000000000000 := by
  have h1 := mul_bd (n := 10000) (m := 800000000) (by decide) (by decide) ha hd
  have h2 := mul_bd (n := 20000) (m := 800000000) (by decide) (by decide) hv hs
  omega
theorem crossAt_bd {s t : Ar × Ar} (hs : Bd s.1 ∧ Bd s.2) (ht : Bd t.1 ∧ Bd t.2) (h : crossB s t = true) : PlB (crossAt s.1 s.2 t.1 t.2) := by
  unfold crossB at h
  rw [Bool.and_eq_true] at h
  have hd := crossAt_d h.1
  have v1 := vec_bd hs.1 hs.2
  have v2 := vec_bd ht.1 ht.2
  have v3 := vec_bd hs.1 ht.1
  have c1 : -800000000 ≤ cross (vec s.1 s.2) (vec t.1 t.2) ∧ cross (vec s.1 s.2) (vec t.1 t.2) ≤ 800000000 := cross_bd v1 v2
  have c2 : -800000000 ≤ cross (vec s.1 t.1) (vec t.1 t.2) ∧ cross (vec s.1 t.1) (vec t.1 t.2) ≤ 800000000 := cross_bd v3 v2
  have v1 : (-20000 ≤ (vec s.1 s.2).1 ∧ (vec s.1 s.2).1 ≤ 20000) ∧ (-20000 ≤ (vec s.1 s.2).2 ∧ (vec s.1 s.2).2 ≤ 20000) := v1
  have b := hs.1
  unfold Bd at b
  unfold crossAt at hd ⊢
  generalize cross (vec s.1 s.2) (vec t.1 t.2) = d at *
  generalize cross (vec s.1 t.1) (vec t.1 t.2) = sh at *
  split
  · rename_i z
    rw [if_pos z] at hd
    exact ⟨hd, by simp only; omega, sum_bd b.1 (by omega) v1.1 (by omega), sum_bd b.2 (by omega) v1.2 (by omega)⟩
  · rename_i z
    rw [if_neg z] at hd
    exact ⟨hd, by simp only; omega, sum_bd b.1 c1 v1.1 c2, sum_bd b.2 c1 v1.2 c2⟩
theorem place_arrow {ps : List Ar} {q : Rc70.Place} (hq : PlB q) (hp : ∀ p ∈ ps, Bd p) : ∀ u ∈ ps.map (arrow q.x q.y q.d), Sm u := by
  intro u hu
  obtain ⟨p, hpm, rfl⟩ := List.mem_map.mp hu
  have hb := hp p hpm
  unfold Bd at hb
  obtain ⟨h1, h2, h3, h4⟩ := hq
  have m1 := mul_bd (n := 10000) (m := 800000000) (by decide) (by decide) hb.1 (⟨by omega, h2⟩ : -800000000 ≤ q.d ∧ q.d ≤ 800000000)
  have m2 := mul_bd (n := 10000) (m := 800000000) (by decide) (by decide) hb.2 (⟨by omega, h2⟩ : -800000000 ≤ q.d ∧ q.d ≤ 800000000)
  unfold Sm arrow
  simp only
  omega
section
variable {P : Program} {w : World} {K : PySem.W.Frag} {mg : Str → Option Value} {base : Heap}
def Done (st : List (Ar × Ar)) (L : List Rc70.Place) (i j : Nat) : Prop := ∀ e l s t, e < l → (l < i ∨ (l = i ∧ e < j)) → st[e]? = some s → st[l]? = some t → crossB s t = true → crossAt s.1 s.2 t.1 t.2 ∈ L
def spTell (K : PySem.W.Frag) : Sp := fun vs H Q _ => ∃ (a : Addr) (ps : List Ar), vs = [.ref a] ∧ Prs K H a ps ∧ ps.length ≤ 8 ∧ (∀ p ∈ ps, Bd p) ∧
  ∀ (H' : Hp) (D : Addr) (L : List Rc70.Place), Own (Pl K) H H' D L → Tell ps L → (∀ q ∈ L, PlB q) → L.length ≤ 10000 → Q (.ref D) H'
theorem scTl : FnScope ["points", "corners", "places", "stretches", "later", "earlier", "corner"] ["points"] (defScope sTell) := ⟨rfl, rfl, rfl, by decide +kernel, rfl, by decide +kernel, by decide +kernel⟩
theorem bkTl : BlkOk ["points", "corners", "places", "stretches", "later", "earlier", "corner"] (defScope sTell) { kind := ScopeKind.function, names := [(".0", .local), ("corner", .local)], isGenerator := false, isCoroutine := false } [("corner", 6)] := blkOk_by (by decide +kernel)
theorem ok_tell {f : Addr} {fd : FuncData} (F : Fun K "telling_places" "telling_places" sTell f fd) (hS : Has P w K mg base "stretches_between" 1 ["corners"] (spStrs K)) (hX : Has P w K mg base "do_cross" 3 ["one", "other"] (spPart K fun u v => .bl (crossB u v)))
    (hC : Has P w K mg base "crossing" 2 ["one", "other"] (spCross K)) (hlen : mg "len" = none) (hrange : mg "range" = none) (hsorted : mg "sorted" = none) (hset : mg "set" = none) : FnOk P w K mg base CX0 4 f fd ["points"] (spTell K) := by
  refine F.ok scTl (fun vs H Q E h => ?_) (fun cdv A outr s H vs Q E hr h => ?_)
  · obtain ⟨a, ps, rfl, _⟩ := h
    rfl
  · obtain ⟨a, ps, rfl, hps, hl, hb, k⟩ := h
    have hr1 : Room 1 _ := hr.mono (by decide)
    have hr2 : Room 2 _ := hr.mono (by decide)
    refine ⟨_, pss_cons (ps_set (i := 1) scTl.nd rfl (Or.inl rfl) (pe_sortedSet rfl hsorted rfl hset rfl (Nat.lt_of_le_of_lt (Nat.add_le_add_left (by decide : 20 ≤ 64) _) hr.units) (pa_cons (pv 0) pa_nil)))
      (pss_cons (ps_setLc (i := 2) (own := [("corner", 6)]) rfl scTl.nd rfl rfl (sw_true rfl rfl rfl rfl) (pi_list (pv 1)) bkTl (fun s H C cl fp => pg_name (i := 6) scTl.nd rfl (Or.inl rfl)) (fun s H C cl fp => pts_nil)
        (fun s H C cl fp => pe_tup (pa_cons (pe_fst (K := K) rfl (pv 6)) (pa_cons (pe_snd (K := K) rfl (pv 6)) (pa_cons pe_int pa_nil)))))
      (pss_cons (ps_set (i := 3) scTl.nd rfl (Or.inl rfl) (pe_has hS hr1 rfl (pa_cons (pv 1) pa_nil)))
      (pss_cons (ps_for PassesOwn.never rfl (pi_range1 rfl hrange (pa_cons (pe_callB call_len_seq (by rfl) hlen PySem.boot_len (pa_cons (pv 3) pa_nil)) pa_nil)) (pg_name (i := 4) scTl.nd rfl (Or.inl rfl))
        (pss_one (ps_for PassesOwn.never rfl (pi_range1 rfl hrange (pa_cons (pv 4) pa_nil)) (pg_name (i := 5) scTl.nd rfl (Or.inl rfl))
          (pss_one (ps_if (pt_val (pe_has hX hr rfl (pa_cons (pe_ix ix_list (pv 3) (pv 5) (fun _ _ => rfl)) (pa_cons (pe_ix ix_list (pv 3) (pv 4) (fun _ _ => rfl)) pa_nil))))
            (pss_one (ps_expr (pe_bm PySem.F.plainAttrs_list PySem.F.slot_list_append PySem.F.type_list_append mt_append (pv 2) (pa_cons (pe_has hC hr2 rfl (pa_cons (pe_ix ix_list (pv 3) (pv 5) (fun _ _ => rfl)) (pa_cons (pe_ix ix_list (pv 3) (pv 4) (fun _ _ => rfl)) pa_nil))) pa_nil)))) pss_nil)))))
      (pss_one (ps_ret (pv 2)))))), ?_⟩
    refine ⟨_, rfl, a, ps, rfl, hps, hl, fun c bs cs hc hbs hcs hcl => ?_⟩
    -- corners
    have s1 : Same H (upd H c (.lst (bs.map V.ref))) := Same.put hc
    generalize hH1 : upd H c (.lst (bs.map V.ref)) = H1 at s1 ⊢
    have hC1 : H1 c = some (.lst (bs.map V.ref)) := by rw [← hH1]; exact upd_same
    have hbs1 : Paired (Pr K H1) bs cs := Paired.mapP hbs fun _ _ => Pr.same s1
    have hbc : bs.length = cs.length := Paired.length hbs1
    have bdc : ∀ p ∈ cs, Bd p := fun p hp => hb p ((hcs p).mp hp)
    refine ⟨_, rfl, c, rfl, ⟨_, SqL.of hC1⟩, fun D hD => ?_⟩
    refine lc_list (K := K) (a := c) (xs := bs.map V.ref) (fun i H' => Own (Pl K) H1 H' D ((cs.take i).map pt)) ?_ ?_ ?_ ?_
    · exact Own.start hD
    · rintro i H' hi O
      exact O.2.1.seq (SqL.of hC1)
    · rintro i z H' hz O
      obtain ⟨t, ht, rfl⟩ := map_at hz
      obtain ⟨p, hp, hpr⟩ := Paired.at hbs1 ht
      have hpr' := hpr.same O.2.1
      refine ⟨rfl, ?_⟩
      unfold tYes
      refine iteT ⟨_, rfl, t, p, rfl, hpr', _, rfl, t, p, rfl, hpr', (by show 3 ≤ sizeLine; decide), fun q hq => ?_⟩
      have sq : Same H' (upd H' q (.tup [.int p.1, .int p.2, .int 1])) := Same.put hq
      obtain ⟨acc, ha, hal, hgo⟩ := (O.move (stb_pl D) sq).grow (stb_pl D)
      refine ⟨acc, ha, ?_, ?_⟩
      · rw [hal, List.length_map, List.length_take, sizeLine_eq]
        omega
      · rw [take_snoc hp, List.map_append]
        exact hgo q (pt p) (.inl (.inl upd_same))
    · intro H2 O2
      rw [List.length_map, hbc, List.take_length] at O2
      have s2 := O2.2.1
      -- stretches
      refine ⟨_, rfl, c, cs, rfl, ⟨bs, s2.seq (SqL.of hC1), Paired.mapP hbs1 fun _ _ => Pr.same s2⟩, by omega, fun H3 e3 O3 => ?_⟩
      have s3 := O3.2.1
      obtain ⟨es, hE, hes⟩ := O3.done
      have hst : es.length = (strsTo cs cs.length).length := Paired.length hes
      have O2' := O2.move (stb_pl D) s3
      have hsl := strsTo_len cs cs.length
      have hsl : (strsTo cs cs.length).length ≤ 64 := Nat.le_trans hsl (Nat.mul_le_mul (show cs.length ≤ 8 by omega) (show cs.length ≤ 8 by omega))
      have hDE : e3 ≠ D := by
        obtain ⟨l2, e2, _⟩ := O2.done
        intro z
        rw [← z, O3.1] at e2
        cases e2
      have bds : ∀ (i : Nat) (s : Ar × Ar), (strsTo cs cs.length)[i]? = some s → Bd s.1 ∧ Bd s.2 := fun i s h => by
        have := strs_in (List.mem_of_getElem? h)
        exact ⟨bdc _ this.1, bdc _ this.2⟩
      generalize hstr : strsTo cs cs.length = st at *
      have get : ∀ {H' : Hp} (i : Nat), i < st.length → Paired (St2 K H') es st → ∃ p s, atI (es.map V.ref) (i : Int) = some (V.ref p) ∧ st[i]? = some s ∧ St2 K H' p s := by
        intro H' i hi hp
        have hml : i < es.length := by omega
        obtain ⟨u, hu, hp⟩ := Paired.at hp (List.getElem?_eq_getElem hml)
        exact ⟨_, u, at_of rfl (by rw [List.getElem?_map, List.getElem?_eq_getElem hml]; rfl), hu, hp⟩
      refine ⟨_, rfl, e3, _, rfl, .inl (SqL.of hE), _, rfl, by omega, by rw [List.length_map]; omega, ?_⟩
      rw [List.length_map, hst, Int.toNat_natCast]
      refine for_range (fun i σ H' => ∃ (v4 v5 v6 : Option V) (L : List Rc70.Place), σ = [some (.ref a), some (.ref c), some (.ref D), some (.ref e3), v4, v5, v6] ∧ Own (Pl K) H1 H' D L ∧ H' e3 = some (.lst (es.map V.ref)) ∧ Paired (St2 K H') es st ∧
          (∀ q ∈ L, PlB q) ∧ (∀ p ∈ cs, pt p ∈ L) ∧ Done st L i 0 ∧ L.length ≤ 8 + i * 64) ?_ ?_ ?_
      · refine ⟨none, none, none, cs.map pt, rfl, O2', hE, hes, ?_, ?_, ?_, ?_⟩
        · intro q hq
          obtain ⟨p, hp, rfl⟩ := List.mem_map.mp hq
          exact pt_bd (bdc p hp)
        · exact fun p hp => List.mem_map.mpr ⟨p, hp, rfl⟩
        · rintro e l s t h1 (h2 | ⟨_, h2⟩) <;> exact absurd h2 (by omega)
        · rw [List.length_map]; omega
      · rintro i σ H4 hi ⟨v4, v5, v6, L4, rfl, O4, hE4, hes4, hB4, hP4, hD4, hL4⟩
        rw [nat_int]
        refine ⟨_, rfl, _, rfl, by omega, by omega, ?_⟩
        rw [Int.toNat_natCast]
        refine for_range (fun j σ H' => ∃ (v5 v6 : Option V) (L : List Rc70.Place), σ = [some (.ref a), some (.ref c), some (.ref D), some (.ref e3), some (.int (i : Int)), v5, v6] ∧ Own (Pl K) H1 H' D L ∧ H' e3 = some (.lst (es.map V.ref)) ∧ Paired (St2 K H') es st ∧
          (∀ q ∈ L, PlB q) ∧ (∀ p ∈ cs, pt p ∈ L) ∧ Done st L i j ∧ L.length ≤ 8 + i * 64 + j) ⟨v5, v6, L4, rfl, O4, hE4, hes4, hB4, hP4, hD4, hL4⟩ ?_ ?_
        · rintro j σ H5 hj ⟨v5, v6, L5, rfl, O5, hE5, hes5, hB5, hP5, hD5, hL5⟩
          rw [nat_int]
          obtain ⟨pj, sj, ej, gj, stj⟩ := get j (by omega) hes5
          obtain ⟨pi, si, ei, gi, sti⟩ := get i (by omega) hes5
          refine ⟨_, rfl, _, rfl, e3, _, _, _, rfl, rfl, SqL.of hE5, ej, _, rfl, _, rfl, e3, _, _, _, rfl, rfl, SqL.of hE5, ei, pj, pi, sj, si, rfl, stj, sti, bds j sj gj, bds i si gi, fun H6 s6 => ⟨_, rfl, ?_⟩⟩
          have O6 := O5.move (stb_pl D) s6
          have hE6 := s6 _ _ hE5
          have hes6 : Paired (St2 K H6) es st := Paired.mapP hes5 fun _ _ => (stb_st 0).same s6
          have stj6 := (stb_st (K := K) 0).same s6 stj
          have sti6 := (stb_st (K := K) 0).same s6 sti
          cases z : crossB sj si
          · refine iteF ⟨_, _, L5, rfl, O6, hE6, hes6, hB5, hP5, ?_, by omega⟩
            rintro e l s t h1 (h2 | ⟨h2, h3⟩) q1 q2 q3
            · exact hD5 e l s t h1 (.inl h2) q1 q2 q3
            · rcases Nat.lt_or_eq_of_le (Nat.le_of_lt_succ h3) with y | y
              · exact hD5 e l s t h1 (.inr ⟨h2, y⟩) q1 q2 q3
              · rw [y, gj] at q1
                rw [h2, gi] at q2
                cases q1
                cases q2
                rw [z] at q3
                cases q3
          · obtain ⟨acc0, ha0, _⟩ := O6.grow (stb_pl D)
            refine iteT ⟨_, rfl, .inl ⟨rfl, _, SqL.of ha0⟩, _, rfl, _, rfl, e3, _, _, _, rfl, rfl, SqL.of hE6, ej, _, rfl, _, rfl, e3, _, _, _, rfl, rfl, SqL.of hE6, ei, pj, pi, sj, si, rfl, stj6, sti6, bds j sj gj, bds i si gi, fun H7 t7 s7 p7 => ?_⟩
            have O7 := O6.move (stb_pl D) s7
            obtain ⟨acc, ha, hal, hgo⟩ := O7.grow (stb_pl D)
            have ub : i * 64 ≤ 64 * 64 := Nat.mul_le_mul_right _ (by omega)
            refine ⟨D, acc, _, rfl, rfl, ha, by rw [hal, sizeLine_eq]; omega, _, _, L5 ++ [crossAt sj.1 sj.2 si.1 si.2], rfl, hgo t7 _ p7, ?_, ?_, ?_, ?_, ?_, ?_⟩
            · rw [upd_ne hDE]
              exact s7 _ _ hE6
            · exact Paired.mapP hes6 fun _ _ p => (stb_st D).own ha ((stb_st 0).same s7 p)
            · intro q hq
              rcases List.mem_append.mp hq with y | y
              · exact hB5 q y
              · rw [List.mem_singleton.mp y]
                exact crossAt_bd (bds j sj gj) (bds i si gi) z
            · exact fun p hp => List.mem_append_left _ (hP5 p hp)
            · rintro e l s t h1 (h2 | ⟨h2, h3⟩) q1 q2 q3
              · exact List.mem_append_left _ (hD5 e l s t h1 (.inl h2) q1 q2 q3)
              · rcases Nat.lt_or_eq_of_le (Nat.le_of_lt_succ h3) with y | y
                · exact List.mem_append_left _ (hD5 e l s t h1 (.inr ⟨h2, y⟩) q1 q2 q3)
                · rw [y, gj] at q1
                  rw [h2, gi] at q2
                  cases q1
                  cases q2
                  exact List.mem_append_right _ (List.mem_singleton.mpr rfl)
            · rw [List.length_append, List.length_singleton]
              omega
        · rintro σ H5 ⟨v5, v6, L5, rfl, O5, hE5, hes5, hB5, hP5, hD5, hL5⟩
          refine ⟨_, _, _, L5, rfl, O5, hE5, hes5, hB5, hP5, ?_, by rw [Nat.add_mul]; omega⟩
          rintro e l s t h1 (h2 | ⟨_, h2⟩) q1 q2 q3
          · rcases Nat.lt_or_eq_of_le (Nat.le_of_lt_succ h2) with y | y
            · exact hD5 e l s t h1 (.inl y) q1 q2 q3
            · exact hD5 e l s t h1 (.inr ⟨y, by omega⟩) q1 q2 q3
          · exact absurd h2 (by omega)
      · rintro σ H4 ⟨v4, v5, v6, L4, rfl, O4, hE4, hes4, hB4, hP4, hD4, hL4⟩
        have ub : st.length * 64 ≤ 64 * 64 := Nat.mul_le_mul_right _ (by omega)
        refine ⟨_, rfl, k H4 D L4 ⟨s1.free O4.1, s1.trans O4.2.1, O4.2.2⟩ (tell_of (cs := cs) hcs (fun q hq => (hB4 q hq).1) hP4 ?_) hB4 (by omega)⟩
        intro e l s t h1 q1 q2 q3
        rw [hstr] at q1 q2
        exact hD4 e l s t h1 (.inl (List.getElem?_eq_some_iff.mp q2).1) q1 q2 q3
end
end HQ

end
section
namespace HQ
open PySem PySem.Spec PyProof.Rows L2 HP
abbrev sDeep : Stmt := top 13
section
variable {P : Program} {w : World} {K : PySem.W.Frag} {mg : Str → Option Value} {base : Heap}
def spDeep (K : PySem.W.Frag) : Sp := fun vs H Q _ => ∃ (a : Addr) (ps : List Ar), vs = [.ref a] ∧ Prs K H a ps ∧ ps.length ≤ 8 ∧ ps ≠ [] ∧ (∀ p ∈ ps, Bd p) ∧ ∀ H', Same H H' → Q (.int (Rc70.deepest ps : Nat)) H'
theorem scDp : FnScope ["points", "place"] ["points"] (defScope sDeep) := ⟨rfl, rfl, rfl, by decide +kernel, rfl, by decide +kernel, by decide +kernel⟩
theorem bkDp : BlkOk ["points", "place"] (defScope sDeep) { kind := ScopeKind.function, names := [(".0", .local), ("place", .local), ("depth_among", .globalImplicit), ("arrows_from", .globalImplicit), ("points", .free)], isGenerator := false, isCoroutine := false } [("place", 1)] := blkOk_by (by decide +kernel)
theorem bd_sm {ps : List Ar} (h : ∀ p ∈ ps, Bd p) : ∀ p ∈ ps, Sm p := fun p hp => by
  have := h p hp
  unfold Bd at this
  unfold Sm
  omega
theorem ok_deep {f : Addr} {fd : FuncData} (F : Fun K "deepest_among" "deepest_among" sDeep f fd) (hT : Has P w K mg base "telling_places" 4 ["points"] (spTell K)) (hD : Has P w K mg base "depth_among" 3 ["arrows"] (spDepth K)) (hA : Has P w K mg base "arrows_from" 1 ["place", "points"] (spArrows K))
    (hmax : mg "max" = none) : FnOk P w K mg base CX0 5 f fd ["points"] (spDeep K) := by
  refine F.ok scDp (fun vs H Q E h => ?_) (fun cdv A outr s H vs Q E hr h => ?_)
  · obtain ⟨a, ps, rfl, _⟩ := h
    rfl
  · obtain ⟨a, ps, rfl, hps, hl, hne, hb, k⟩ := h
    have hr1 : Room 1 _ := hr.mono (by decide)
    have hr3 : Room 3 _ := hr.mono (by decide)
    refine ⟨_, pss_one (ps_ret (pe_callB (cr_max rfl) (by rfl) hmax PyProof.Rows.boot_max (pa_cons (pe_lc (own := [("place", 1)]) rfl scDp.nd (pi_list (pe_has hT hr rfl (pa_cons (pv 0) pa_nil))) bkDp
      (fun s H C cl fp => pg_name (i := 1) scDp.nd rfl (Or.inl rfl)) (fun s H C cl fp => pts_nil)
      (fun s H C cl fp => pe_has hD hr3 rfl (pa_cons (pe_has hA hr1 rfl (pa_cons (pv 1) (pa_cons (pv 0) pa_nil))) pa_nil))) pa_nil))), ?_⟩
    refine ⟨_, rfl, a, ps, rfl, hps, hl, hb, fun H1 D L O1 T hB hL => ?_⟩
    have s1 := O1.2.1
    obtain ⟨ls, hD1, hls⟩ := O1.done
    refine ⟨D, rfl, ⟨_, SqL.of hD1⟩, fun G hG => ?_⟩
    refine lc_list (K := K) (a := D) (xs := ls.map V.ref) (fun i H' => H' G = some (.lst ((((L.take i).map fun q => (Rc70.depthOf ps q : Int))).map V.int)) ∧ Same H1 H') ?_ ?_ ?_ ?_
    · exact ⟨upd_same, Same.put hG⟩
    · rintro i H' hi ⟨_, e⟩
      exact e.seq (SqL.of hD1)
    · rintro i z H' hz ⟨e1, e3⟩
      obtain ⟨t, ht, rfl⟩ := map_at hz
      obtain ⟨q, hq, hpl⟩ := Paired.at hls ht
      have hqm : q ∈ L := List.mem_of_getElem? hq
      refine ⟨rfl, ?_⟩
      unfold tYes
      refine iteT ⟨_, rfl, _, rfl, t, a, q.x, q.y, q.d, ps, rfl, .inr (SqT.same e3 hpl), (hps.same s1).same e3, bd_sm hb, by rw [sizeLine_eq]; omega, fun H2 l2 s2 h2 => ?_⟩
      refine ⟨l2, _, rfl, h2, place_arrow (hB q hqm) hb, by rw [List.length_map, sizeLine_eq]; omega, fun H3 s3 => ?_⟩
      have s23 := s2.trans s3
      refine ⟨_, s23 _ _ e1, ?_, ?_, Same.own hG (e3.trans s23)⟩
      · rw [List.length_map, List.length_map, List.length_take, sizeLine_eq]
        omega
      · rw [upd_same, take_snoc hq, List.map_append, List.map_append, depth_eq]
        rfl
    · rintro H' ⟨e1, e3⟩
      rw [List.length_map, Paired.length hls, List.take_length] at e1
      obtain ⟨r, hr', er⟩ := tell_deep T hne
      refine ⟨G, _, rfl, SqL.of e1, ?_, fun m hm hle => ?_⟩
      · rw [List.length_map]
        exact List.length_pos_of_mem hr'
      · have hmd : m = (Rc70.deepest ps : Nat) := by
          obtain ⟨q, hq, rfl⟩ := List.mem_map.mp hm
          have h1 := hle (Rc70.depthOf ps r : Int) (List.mem_map.mpr ⟨r, hr', rfl⟩)
          have h2 := deepest_le (ps := ps) (T.pos q hq)
          rw [er] at h1
          omega
        rw [hmd]
        exact k H' (s1.trans e3)
end
end HQ

end
section
namespace HQ
open PySem PySem.Spec PyProof.Rows L2 HP
abbrev sSets : Stmt := top 21
abbrev sHolds : Stmt := top 22
theorem flat_len (f : Nat → List Nat) (B : Nat) : ∀ n, (∀ i, i < n → (f i).length ≤ B) → ((List.range n).flatMap f).length ≤ n * B
  | 0, _ => by simp
  | n + 1, h => by
    rw [List.range_succ, List.flatMap_append, List.length_append, Nat.add_mul]
    have := flat_len f B n fun i hi => h i (by omega)
    have := h n (by omega)
    rw [List.flatMap_cons, List.flatMap_nil, List.append_nil]
    omega
theorem lows_len (f : Nat → Ar) (t m n : Nat) : (lowsAt f t m n).length ≤ n := by
  have := flat_len (fun l => if isAmid (f l) (f m) (f t) = true then [2 ^ l + 2 ^ m + 2 ^ t] else []) 1 n fun i _ => by split <;> simp
  unfold lowsAt
  omega
theorem mid_len (f : Nat → Ar) (t m : Nat) : (midAt f t m).length ≤ 1 + m := by
  unfold midAt
  rw [List.length_append]
  have := lows_len f t m m
  split
  · simp; omega
  · simp; omega
theorem mids_len {f : Nat → Ar} {t n : Nat} (hn : n ≤ 8) : (midsAt f t n).length ≤ 72 := by
  have := flat_len (midAt f t) 9 n fun i hi => by have := mid_len f t i; omega
  unfold midsAt
  omega
theorem top_len {f : Nat → Ar} {t : Nat} (hn : t ≤ 8) : (topAt f t).length ≤ 73 := by
  unfold topAt
  rw [List.length_append]
  have := mids_len (f := f) (t := t) hn
  split <;> simp <;> omega
theorem sets_len {f : Nat → Ar} {n : Nat} (hn : n ≤ 8) : (setsAround f n).length ≤ 584 := by
  have := flat_len (topAt f) 73 n fun i hi => top_len (by omega)
  unfold setsAround
  omega
theorem lows_succ (f : Nat → Ar) (t m n : Nat) : lowsAt f t m (n + 1) = lowsAt f t m n ++ if isAmid (f n) (f m) (f t) = true then [2 ^ n + 2 ^ m + 2 ^ t] else [] := by
  unfold lowsAt
  rw [List.range_succ, List.flatMap_append]
  simp
theorem mids_succ (f : Nat → Ar) (t n : Nat) : midsAt f t (n + 1) = midsAt f t n ++ midAt f t n := by
  unfold midsAt
  rw [List.range_succ, List.flatMap_append]
  simp
theorem sets_succ (f : Nat → Ar) (n : Nat) : setsAround f (n + 1) = setsAround f n ++ topAt f n := by
  unfold setsAround
  rw [List.range_succ, List.flatMap_append]
  simp
def OwnN (H0 H : Hp) (D : Addr) (ms : List Nat) : Prop := H0 D = none ∧ Same H0 H ∧ H D = some (.lst (ms.map nv))
theorem OwnN.start {H : Hp} {D : Addr} (h : H D = none) : OwnN H (upd H D (.lst [])) D [] := ⟨h, Same.put h, upd_same⟩
theorem OwnN.move {H0 H H1 : Hp} {D : Addr} {ms : List Nat} (o : OwnN H0 H D ms) (s : Same H H1) : OwnN H0 H1 D ms := ⟨o.1, o.2.1.trans s, s _ _ o.2.2⟩
theorem OwnN.grow {H0 H : Hp} {D : Addr} {ms : List Nat} (o : OwnN H0 H D ms) (m : Nat) : OwnN H0 (upd H D (.lst (ms.map nv ++ [nv m]))) D (ms ++ [m]) := ⟨o.1, Same.own o.1 o.2.1, by rw [upd_same, List.map_append]; rfl⟩
section
variable {P : Program} {w : World} {K : PySem.W.Frag} {mg : Str → Option Value} {base : Heap}
def spSets (K : PySem.W.Frag) : Sp := fun vs H Q _ => ∃ (a : Addr) (us : List Ar) (f : Nat → Ar), vs = [.ref a] ∧ Prs K H a us ∧ (∀ u ∈ us, Sm u) ∧ (∀ m, m < us.length → us[m]? = some (f m)) ∧ us.length ≤ 8 ∧ ∀ (H' : Hp) (D : Addr), OwnN H H' D (setsAround f us.length) → Q (.ref D) H'
theorem scSAr : FnScope ["arrows", "found", "top", "middle", "low"] ["arrows"] (defScope sSets) := ⟨rfl, rfl, rfl, by decide +kernel, rfl, by decide +kernel, by decide +kernel⟩
theorem pw_ok {m : Nat} (h : m ≤ 1000) : CPow 1 (m : Int) := ⟨by omega, by omega, by decide⟩
theorem ok_sets {f : Addr} {fd : FuncData} (F : Fun K "sets_around" "sets_around" sSets f fd) (hN : Has P w K mg base "is_nothing" 1 ["arrow"] (spNothing K)) (hB : Has P w K mg base "is_between" 2 ["one", "other"] (spPair K fun u v => .bl (isBetween u v)))
    (hA : Has P w K mg base "is_amid" 2 ["first", "second", "third"] (spAmid K)) (hlen : mg "len" = none) (hrange : mg "range" = none) : FnOk P w K mg base CX0 3 f fd ["arrows"] (spSets K) := by
  refine F.ok scSAr (fun vs H Q E h => ?_) (fun cdv A outr s H vs Q E hr h => ?_)
  · obtain ⟨a, us, g, rfl, _⟩ := h
    rfl
  · obtain ⟨a, us, g, rfl, ⟨ts, h1, h2⟩, hs, hg, hul, k⟩ := h
    have hr1 : Room 1 _ := hr.mono (by decide)
    have hts : ts.length = us.length := Paired.length h2
    have get : ∀ m, m < us.length → ∃ p, atI (ts.map V.ref) (m : Int) = some (V.ref p) ∧ Pr K H p (g m) ∧ Sm (g m) := by
      intro m hm
      have hml : m < ts.length := by omega
      obtain ⟨u, hu, hp⟩ := Paired.at h2 (List.getElem?_eq_getElem hml)
      rw [hg m hm] at hu
      cases hu
      exact ⟨_, at_of rfl (by rw [List.getElem?_map, List.getElem?_eq_getElem hml]; rfl), hp, hs _ (List.mem_of_getElem? (hg m hm))⟩
    refine ⟨_, pss_cons (ps_set (i := 1) scSAr.nd rfl (Or.inl rfl) (pe_lst pa_nil))
      (pss_cons (ps_for PassesOwn.never rfl (pi_range1 rfl hrange (pa_cons (pe_callB call_len_seq (by rfl) hlen PySem.boot_len (pa_cons (pv 0) pa_nil)) pa_nil)) (pg_name (i := 2) scSAr.nd rfl (Or.inl rfl))
        (pss_cons (ps_if (pt_val (pe_has hN hr1 rfl (pa_cons (pe_ix ix_list (pv 0) (pv 2) (fun _ _ => rfl)) pa_nil)))
          (pss_one (ps_expr (pe_bm PySem.F.plainAttrs_list PySem.F.slot_list_append PySem.F.type_list_append mt_append (pv 1) (pa_cons (pe_op op_shl pe_int (pv 2)) pa_nil)))) pss_nil)
        (pss_one (ps_for PassesOwn.never rfl (pi_range1 rfl hrange (pa_cons (pv 2) pa_nil)) (pg_name (i := 3) scSAr.nd rfl (Or.inl rfl))
          (pss_cons (ps_if (pt_val (pe_has hB hr rfl (pa_cons (pe_ix ix_list (pv 0) (pv 3) (fun _ _ => rfl)) (pa_cons (pe_ix ix_list (pv 0) (pv 2) (fun _ _ => rfl)) pa_nil))))
            (pss_one (ps_expr (pe_bm PySem.F.plainAttrs_list PySem.F.slot_list_append PySem.F.type_list_append mt_append (pv 1) (pa_cons (pe_op op_or (pe_op op_shl pe_int (pv 3)) (pe_op op_shl pe_int (pv 2))) pa_nil)))) pss_nil)
          (pss_one (ps_for PassesOwn.never rfl (pi_range1 rfl hrange (pa_cons (pv 3) pa_nil)) (pg_name (i := 4) scSAr.nd rfl (Or.inl rfl))
            (pss_one (ps_if (pt_val (pe_has hA hr rfl (pa_cons (pe_ix ix_list (pv 0) (pv 4) (fun _ _ => rfl)) (pa_cons (pe_ix ix_list (pv 0) (pv 3) (fun _ _ => rfl)) (pa_cons (pe_ix ix_list (pv 0) (pv 2) (fun _ _ => rfl)) pa_nil)))))
              (pss_one (ps_expr (pe_bm PySem.F.plainAttrs_list PySem.F.slot_list_append PySem.F.type_list_append mt_append (pv 1) (pa_cons (pe_op op_or (pe_op op_or (pe_op op_shl pe_int (pv 4)) (pe_op op_shl pe_int (pv 3))) (pe_op op_shl pe_int (pv 2))) pa_nil)))) pss_nil)))))))))
      (pss_one (ps_ret (pv 1)))), ?_⟩
    refine ⟨Nat.zero_le _, fun D hD => ?_⟩
    have O0 : OwnN H (upd H D (.lst [])) D [] := OwnN.start hD
    refine ⟨_, rfl, a, _, rfl, .inl (O0.2.1.seq h1), _, rfl, by omega, by rw [List.length_map]; omega, ?_⟩
    rw [List.length_map, hts, Int.toNat_natCast]
    refine for_range (fun i σ H' => ∃ v2 v3 v4 : Option V, σ = [some (.ref a), some (.ref D), v2, v3, v4] ∧ OwnN H H' D (setsAround g i)) ⟨none, none, none, rfl, O0⟩ ?_ ?_
    · rintro t σ H1 ht ⟨v2, v3, v4, rfl, O1⟩
      rw [nat_int]
      obtain ⟨pt, ept, prt, smt⟩ := get t ht
      have l1 := sets_len (f := g) (show t ≤ 8 by omega)
      refine ⟨_, rfl, _, rfl, a, _, _, _, rfl, rfl, O1.2.1.seq h1, ept, pt, g t, rfl, prt.same O1.2.1, _, rfl, ?_⟩
      have tops : setsAround g (t + 1) = (setsAround g t ++ if isNothing (g t) = true then [2 ^ t] else []) ++ midsAt g t t := by
        rw [sets_succ, List.append_assoc]
        rfl
      refine ite2 (fun c => ?_) (fun c => ?_)
      have en : V.int ((1 : Int) * 2 ^ ((t : Int)).toNat) = nv (2 ^ t) := by rw [shl_one]; rfl
      refine ⟨_, rfl, .inl ⟨rfl, _, SqL.of O1.2.2⟩, _, rfl, _, _, rfl, rfl, pw_ok (by omega), D, _, nv (2 ^ t), rfl, congrArg (fun v => [v]) en, O1.2.2, by rw [List.length_map, sizeLine_eq]; omega, ?_⟩
      have O2 := O1.grow (2 ^ t)
      have e0 : setsAround g t ++ [2 ^ t] = setsAround g t ++ if isNothing (g t) = true then [2 ^ t] else [] := by rw [if_pos c]
      rw [e0] at O2
      generalize upd H1 D (.lst ((setsAround g t).map nv ++ [nv (2 ^ t)])) = H2 at O2 ⊢
      rotate_left
      have O2 : OwnN H H1 D (setsAround g t ++ if isNothing (g t) = true then [2 ^ t] else []) := by
        rw [if_neg (by simpa using c), List.append_nil]
        exact O1
      generalize H1 = H2 at O2 ⊢
      all_goals
        rw [tops]
        have l2 : (setsAround g t ++ if isNothing (g t) = true then [2 ^ t] else []).length ≤ 600 := by
          rw [List.length_append]
          split <;> simp <;> omega
        generalize (setsAround g t ++ if isNothing (g t) = true then [2 ^ t] else []) = ms at O2 l2 ⊢
        refine ⟨_, rfl, _, rfl, by omega, by omega, ?_⟩
        rw [Int.toNat_natCast]
        refine for_range (fun m σ H' => ∃ v3 v4 : Option V, σ = [some (.ref a), some (.ref D), some (.int (t : Int)), v3, v4] ∧ OwnN H H' D (ms ++ midsAt g t m)) ⟨_, _, rfl, by rw [show midsAt g t 0 = [] from rfl, List.append_nil]; exact O2⟩ ?_ ?_
        · rintro m σ H3 hm ⟨v3, v4, rfl, O3⟩
          rw [nat_int]
          obtain ⟨pm, epm, prm, smm⟩ := get m (by omega)
          have l3 := mids_len (f := g) (t := t) (show m ≤ 8 by omega)
          refine ⟨_, rfl, _, rfl, a, _, _, _, rfl, rfl, O3.2.1.seq h1, epm, _, rfl, _, rfl, a, _, _, _, rfl, rfl, O3.2.1.seq h1, ept, pm, pt, g m, g t, rfl, prm.same O3.2.1, prt.same O3.2.1, smm, _, rfl, ?_⟩
          have mids : ms ++ midsAt g t (m + 1) = ((ms ++ midsAt g t m) ++ if isBetween (g m) (g t) = true then [2 ^ m + 2 ^ t] else []) ++ lowsAt g t m m := by
            rw [mids_succ]
            unfold midAt
            rw [List.append_assoc, List.append_assoc]
          refine ite2 (fun c => ?_) (fun c => ?_)
          have en : V.int (Builtin.bitOr ((1 : Int) * 2 ^ ((m : Int)).toNat) ((1 : Int) * 2 ^ ((t : Int)).toNat)) = nv (2 ^ m + 2 ^ t) := by
            rw [shl_one, shl_one, bitOr_nat, or_two hm]
            rfl
          refine ⟨_, rfl, .inl ⟨rfl, _, SqL.of O3.2.2⟩, _, rfl, _, _, rfl, rfl, pw_ok (by omega), _, rfl, _, _, rfl, rfl, pw_ok (by omega), _, _, rfl, rfl, D, _, nv (2 ^ m + 2 ^ t), rfl, congrArg (fun v => [v]) en, O3.2.2, by rw [List.length_map, List.length_append, sizeLine_eq]; omega, ?_⟩
          have O4 := O3.grow (2 ^ m + 2 ^ t)
          have e0 : (ms ++ midsAt g t m) ++ [2 ^ m + 2 ^ t] = (ms ++ midsAt g t m) ++ if isBetween (g m) (g t) = true then [2 ^ m + 2 ^ t] else [] := by rw [if_pos (show isBetween (g m) (g t) = true from c)]
          rw [e0] at O4
          generalize upd H3 D (.lst ((ms ++ midsAt g t m).map nv ++ [nv (2 ^ m + 2 ^ t)])) = H4 at O4 ⊢
          rotate_left
          have O4 : OwnN H H3 D ((ms ++ midsAt g t m) ++ if isBetween (g m) (g t) = true then [2 ^ m + 2 ^ t] else []) := by
            rw [if_neg (show ¬ isBetween (g m) (g t) = true from c), List.append_nil]
            exact O3
          generalize H3 = H4 at O4 ⊢
          all_goals
            rw [mids]
            have l4 : ((ms ++ midsAt g t m) ++ if isBetween (g m) (g t) = true then [2 ^ m + 2 ^ t] else []).length ≤ 700 := by
              rw [List.length_append, List.length_append]
              split <;> simp <;> omega
            generalize ((ms ++ midsAt g t m) ++ if isBetween (g m) (g t) = true then [2 ^ m + 2 ^ t] else []) = ns at O4 l4 ⊢
            refine ⟨_, rfl, _, rfl, by omega, by omega, ?_⟩
            rw [Int.toNat_natCast]
            refine for_range (fun l σ H' => ∃ v4 : Option V, σ = [some (.ref a), some (.ref D), some (.int (t : Int)), some (.int (m : Int)), v4] ∧ OwnN H H' D (ns ++ lowsAt g t m l)) ⟨_, rfl, by rw [show lowsAt g t m 0 = [] from rfl, List.append_nil]; exact O4⟩ ?_ ?_
            · rintro l σ H5 hl ⟨v4, rfl, O5⟩
              rw [nat_int]
              obtain ⟨pl, epl, prl, sml⟩ := get l (by omega)
              have l5 := lows_len g t m l
              refine ⟨_, rfl, _, rfl, a, _, _, _, rfl, rfl, O5.2.1.seq h1, epl, _, rfl, _, rfl, a, _, _, _, rfl, rfl, O5.2.1.seq h1, epm, _, rfl, _, rfl, a, _, _, _, rfl, rfl, O5.2.1.seq h1, ept, pl, pm, pt, g l, g m, g t, rfl, prl.same O5.2.1, prm.same O5.2.1, prt.same O5.2.1, sml, smm, smt, fun H6 s6 => ⟨_, rfl, ?_⟩⟩
              have O6 := O5.move s6
              rw [lows_succ, ← List.append_assoc]
              refine ite2 (fun c => ?_) (fun c => ?_)
              · have c : isAmid (g l) (g m) (g t) = true := c
                rw [if_pos c]
                have en : V.int (Builtin.bitOr (Builtin.bitOr ((1 : Int) * 2 ^ ((l : Int)).toNat) ((1 : Int) * 2 ^ ((m : Int)).toNat)) ((1 : Int) * 2 ^ ((t : Int)).toNat)) = nv (2 ^ l + 2 ^ m + 2 ^ t) := by
                  rw [shl_one, shl_one, shl_one, bitOr_nat, bitOr_nat, or_three hl hm]
                  rfl
                refine ⟨_, rfl, .inl ⟨rfl, _, SqL.of O6.2.2⟩, _, rfl, _, _, rfl, rfl, pw_ok (by omega), _, rfl, _, _, rfl, rfl, pw_ok (by omega), _, _, rfl, rfl, _, rfl, _, _, rfl, rfl, pw_ok (by omega), _, _, rfl, rfl, D, _, nv (2 ^ l + 2 ^ m + 2 ^ t), rfl, congrArg (fun v => [v]) en, O6.2.2, by rw [List.length_map, List.length_append, sizeLine_eq]; omega, _, rfl, ?_⟩
                exact O6.grow _
              · have c : ¬ isAmid (g l) (g m) (g t) = true := c
                rw [if_neg c, List.append_nil]
                exact ⟨_, rfl, O6⟩
            · rintro σ H5 ⟨v4, rfl, O5⟩
              exact ⟨_, _, rfl, O5⟩
        · rintro σ H3 ⟨v3, v4, rfl, O3⟩
          exact ⟨_, _, _, rfl, O3⟩
    · rintro σ H1 ⟨v2, v3, v4, rfl, O1⟩
      exact ⟨_, rfl, k H1 D O1⟩
theorem bitAnd_nat (a b : Nat) : Builtin.bitAnd (a : Int) (b : Int) = ((a &&& b : Nat) : Int) := by
  rw [bitAnd_pp (by omega) (by omega), Int.toNat_natCast, Int.toNat_natCast]
def spHolds (K : PySem.W.Frag) : Sp := fun vs H Q _ => ∃ (c : Nat) (a : Addr) (l : List Nat), vs = [nv c, .ref a] ∧ Ns K H a l ∧ l.length < sizeLine ∧ ∀ H', Same H H' → Q (.bl (holdsOne c l)) H'
theorem scHo : FnScope ["chosen", "around", "small"] ["chosen", "around"] (defScope sHolds) := ⟨rfl, rfl, rfl, by decide +kernel, rfl, by decide +kernel, by decide +kernel⟩
theorem bkHo : BlkOk ["chosen", "around", "small"] (defScope sHolds) { kind := ScopeKind.function, names := [(".0", .local), ("small", .local), ("chosen", .free)], isGenerator := false, isCoroutine := false } [("small", 2)] := blkOk_by (by decide +kernel)
theorem ok_holds {f : Addr} {fd : FuncData} (F : Fun K "holds_one" "holds_one" sHolds f fd) (hany : mg "any" = none) : FnOk P w K mg base CX0 1 f fd ["chosen", "around"] (spHolds K) := by
  refine F.ok scHo (fun vs H Q E h => ?_) (fun cdv A outr s H vs Q E hr h => ?_)
  · obtain ⟨c, a, l, rfl, _⟩ := h
    rfl
  · obtain ⟨c, a, l, rfl, h1, hl, k⟩ := h
    refine ⟨_, pss_one (ps_ret (pe_callB (cr_any rfl) (by rfl) hany PyProof.Rows.boot_any (pa_cons (pe_lc (own := [("small", 2)]) rfl scHo.nd (pi_list (pv 1)) bkHo (fun s H C cl fp => pg_name (i := 2) scHo.nd rfl (Or.inl rfl)) (fun s H C cl fp => pts_nil)
      (fun s H C cl fp => pe_cmpR op_eq (pe_op op_and (pv 0) (pv 2)) (pv 2) (nomark _))) pa_nil))), ?_⟩
    refine ⟨_, rfl, a, rfl, ⟨_, h1⟩, fun D hD => ?_⟩
    refine lc_list (K := K) (a := a) (xs := l.map nv) (fun i H' => H' D = some (.lst (((l.take i).map fun m => decide (c &&& m = m)).map V.bl)) ∧ Same H H') ?_ ?_ ?_ ?_
    · exact ⟨upd_same, Same.put hD⟩
    · rintro i H' hi ⟨_, e⟩
      exact e.seq h1
    · rintro i z H' hz ⟨e1, e3⟩
      obtain ⟨m, hm, rfl⟩ := map_at hz
      refine ⟨rfl, ?_⟩
      unfold tYes
      refine iteT ⟨_, rfl, _, rfl, _, _, rfl, rfl, _, rfl, rfl, _, e1, ?_, ?_, Same.own hD e3⟩
      · rw [List.length_map, List.length_map, List.length_take]
        omega
      · rw [upd_same, take_snoc hm, List.map_append, List.map_append]
        have e : decide (V.int (Builtin.bitAnd (c : Int) (m : Int)) = nv m) = decide (c &&& m = m) := by
          rw [bitAnd_nat]
          show decide (V.int _ = V.int _) = _
          rw [dec_V, Bool.eq_iff_iff, decide_eq_true_iff, decide_eq_true_iff]
          omega
        show some (HO.lst (_ ++ [V.bl (decide (V.int (Builtin.bitAnd (c : Int) (m : Int)) = nv m))])) = some (HO.lst (_ ++ [V.bl (decide (c &&& m = m))]))
        rw [e]
    · rintro H' ⟨e1, e3⟩
      rw [List.length_map, List.take_length] at e1
      refine ⟨D, _, rfl, SqL.of e1, ?_⟩
      have e : (l.map fun m => decide (c &&& m = m)).any id = holdsOne c l := by
        unfold holdsOne
        rw [List.any_map]
        rfl
      rw [e]
      exact k H' e3
end
end HQ

end
section
namespace HQ
open PySem PySem.Spec PyProof.Rows L2 HP
abbrev sArounds : Stmt := top 27
abbrev sReach : Stmt := top 28
abbrev sShare : Stmt := top 29
theorem for_enum {K : PySem.W.Frag} {a : Addr} {xs : List V} {g : TG} {tb : TS} {D : L2.Ends} {σ : L2.St} {H : Hp} (Pv : Nat → L2.St → Hp → Prop) (h0 : Pv 0 σ H) (hl : ∀ i σ H, i ≤ xs.length → Pv i σ H → SqL K H a xs)
    (hs : ∀ i x σ H T, xs[i]? = some x → Pv i σ H → H T = none → g (.ref T) σ (upd H T (.tup [.int (i : Nat), x])) fun σ2 H2 => tb { D with nx := Pv (i + 1), ct := Pv (i + 1), bk := D.nx } σ2 H2) (hd : ∀ σ H, Pv xs.length σ H → D.nx σ H) :
    ∃ W : Nat → Nat → L2.St → Hp → Prop, (∃ m, W 0 m σ H) ∧ ∀ i m σ H, W i m σ H →
      ((Ite K a).stop i H ∧ D.nx σ H) ∨ ((Ite K a).go i H ∧ ∃ N : L2.St → Hp → Prop, (∀ σ' H', N σ' H' → ∃ m', m' < m ∧ W (i + 1) m' σ' H') ∧ ∀ x H', (Ite K a).yld i H x H' → g x σ H' fun σ2 H2 => tb { D with nx := N, ct := N, bk := D.nx } σ2 H2) := by
  refine ⟨fun i m σ H => m = xs.length - i ∧ i ≤ xs.length ∧ Pv i σ H, ⟨xs.length, by simp, Nat.zero_le _, h0⟩, ?_⟩
  rintro i m σ H ⟨rfl, hi, p⟩
  have q := hl i σ H hi p
  by_cases hlt : i < xs.length
  · refine .inr ⟨⟨xs, xs[i], q, by simp [hlt]⟩, Pv (i + 1), fun σ' H' p' => ⟨xs.length - (i + 1), by omega, rfl, hlt, p'⟩, fun x H' y => ?_⟩
    obtain ⟨T, z, rfl, hT, rfl, y⟩ := y
    exact hs i z σ _ T (y xs q) p hT
  · have e : i = xs.length := by omega
    subst e
    exact .inl ⟨⟨xs, q, Nat.le_refl _⟩, hd σ H p⟩
def NsAt (D : Addr) (H : Hp) (b : Addr) (x : List Nat) : Prop := b ≠ D ∧ H b = some (.lst (x.map nv))
theorem stb_ns (D : Addr) : Stb D (NsAt D) := ⟨fun e ⟨h1, h2⟩ => ⟨h1, e _ _ h2⟩, fun h ⟨h1, h2⟩ => ⟨h1, by rw [upd_ne h1]; exact h2⟩⟩
def Ars (K : PySem.W.Frag) (H : Hp) (D : Addr) (As : List (List Nat)) : Prop := ∃ ls : List Addr, SqL K H D (ls.map V.ref) ∧ Paired (Ns K H) ls As
theorem Ars.same {K : PySem.W.Frag} {H H' : Hp} {D : Addr} {As : List (List Nat)} (e : Same H H') (h : Ars K H D As) : Ars K H' D As := by
  obtain ⟨ls, h1, h2⟩ := h
  exact ⟨ls, e.seq h1, Paired.mapP h2 fun _ _ h => e.seq h⟩
theorem Own.ars {K : PySem.W.Frag} {H0 H : Hp} {D : Addr} {As : List (List Nat)} (o : Own (NsAt D) H0 H D As) : Ars K H D As := by
  obtain ⟨ls, h1, h2⟩ := o.done
  exact ⟨ls, SqL.of h1, Paired.mapP h2 fun _ _ h => SqL.of h.2⟩
section
variable {P : Program} {w : World} {K : PySem.W.Frag} {mg : Str → Option Value} {base : Heap}
def spArounds (K : PySem.W.Frag) : Sp := fun vs H Q _ => ∃ (a : Addr) (ps : List Ar), vs = [.ref a] ∧ Prs K H a ps ∧ ps.length ≤ 8 ∧ (∀ p ∈ ps, Bd p) ∧
  ∀ (H' : Hp) (D : Addr) (L : List Rc70.Place), Same H H' → Ars K H' D (aroundsOf ps L) → Tell ps L → L.length ≤ 10000 → Q (.ref D) H'
theorem scAr : FnScope ["points", "place"] ["points"] (defScope sArounds) := ⟨rfl, rfl, rfl, by decide +kernel, rfl, by decide +kernel, by decide +kernel⟩
theorem bkAr : BlkOk ["points", "place"] (defScope sArounds) { kind := ScopeKind.function, names := [(".0", .local), ("place", .local), ("sets_around", .globalImplicit), ("arrows_from", .globalImplicit), ("points", .free)], isGenerator := false, isCoroutine := false } [("place", 1)] := blkOk_by (by decide +kernel)
theorem ok_arounds {f : Addr} {fd : FuncData} (F : Fun K "arounds_of" "arounds_of" sArounds f fd) (hT : Has P w K mg base "telling_places" 4 ["points"] (spTell K)) (hS : Has P w K mg base "sets_around" 3 ["arrows"] (spSets K)) (hA : Has P w K mg base "arrows_from" 1 ["place", "points"] (spArrows K)) :
    FnOk P w K mg base CX0 5 f fd ["points"] (spArounds K) := by
  refine F.ok scAr (fun vs H Q E h => ?_) (fun cdv A outr s H vs Q E hr h => ?_)
  · obtain ⟨a, ps, rfl, _⟩ := h
    rfl
  · obtain ⟨a, ps, rfl, hps, hl, hb, k⟩ := h
    have hr1 : Room 1 _ := hr.mono (by decide)
    have hr3 : Room 3 _ := hr.mono (by decide)
    refine ⟨_, pss_one (ps_ret (pe_lc (own := [("place", 1)]) rfl scAr.nd (pi_list (pe_has hT hr rfl (pa_cons (pv 0) pa_nil))) bkAr
      (fun s H C cl fp => pg_name (i := 1) scAr.nd rfl (Or.inl rfl)) (fun s H C cl fp => pts_nil)
      (fun s H C cl fp => pe_has hS hr3 rfl (pa_cons (pe_has hA hr1 rfl (pa_cons (pv 1) (pa_cons (pv 0) pa_nil))) pa_nil)))), ?_⟩
    refine ⟨_, rfl, a, ps, rfl, hps, hl, hb, fun H1 D L O1 T hB hL => ?_⟩
    have s1 := O1.2.1
    obtain ⟨ls, hD1, hls⟩ := O1.done
    refine ⟨D, rfl, ⟨_, SqL.of hD1⟩, fun G hG => ?_⟩
    refine lc_list (K := K) (a := D) (xs := ls.map V.ref) (fun i H' => Own (NsAt G) H1 H' G ((L.take i).map fun q => setsAround (arAt q ps) ps.length)) ?_ ?_ ?_ ?_
    · exact Own.start hG
    · rintro i H' hi O
      exact O.2.1.seq (SqL.of hD1)
    · rintro i z H' hz O
      obtain ⟨t, ht, rfl⟩ := map_at hz
      obtain ⟨q, hq, hpl⟩ := Paired.at hls ht
      have hqm : q ∈ L := List.mem_of_getElem? hq
      have e3 := O.2.1
      refine ⟨rfl, ?_⟩
      unfold tYes
      refine iteT ⟨_, rfl, _, rfl, t, a, q.x, q.y, q.d, ps, rfl, .inr (SqT.same e3 hpl), (hps.same s1).same e3, bd_sm hb, by rw [sizeLine_eq]; omega, fun H2 l2 s2 h2 => ?_⟩
      refine ⟨l2, _, arAt q ps, rfl, h2, place_arrow (hB q hqm) hb, fun m hm => ?_, by rw [List.length_map]; omega, fun H3 d3 O3 => ?_⟩
      · rw [List.length_map] at hm
        rw [List.getElem?_map, List.getElem?_eq_getElem hm]
        unfold arAt Rc70.at_
        rw [List.getD_eq_getElem?_getD, List.getElem?_eq_getElem hm]
        rfl
      · have s23 := s2.trans O3.2.1
        rw [List.length_map] at O3
        obtain ⟨acc, ha, hal, hgo⟩ := (O.move (stb_ns G) s23).grow (stb_ns G)
        have hne : d3 ≠ G := by
          obtain ⟨l0, e0, _⟩ := O.done
          intro z
          have := s2 _ _ e0
          rw [← z, O3.1] at this
          cases this
        refine ⟨acc, ha, ?_, ?_⟩
        · rw [hal, List.length_map, List.length_take, sizeLine_eq]
          omega
        · rw [take_snoc hq, List.map_append]
          exact hgo d3 _ ⟨hne, O3.2.2⟩
    · intro H' O
      rw [List.length_map, Paired.length hls, List.take_length] at O
      exact k H' G L (s1.trans O.2.1) O.ars T hL
def spReach (K : PySem.W.Frag) : Sp := fun vs H Q _ => ∃ (c : Nat) (a : Addr) (As : List (List Nat)), vs = [nv c, .ref a] ∧ Ars K H a As ∧ (∀ x ∈ As, x.length < sizeLine) ∧ As.length ≤ 10000 ∧ ∀ H', Same H H' → Q (nv (reachOf c As)) H'
theorem scRe : FnScope ["chosen", "arounds", "reach", "number", "around"] ["chosen", "arounds"] (defScope sReach) := ⟨rfl, rfl, rfl, by decide +kernel, rfl, by decide +kernel, by decide +kernel⟩
theorem ok_reach {f : Addr} {fd : FuncData} (F : Fun K "reach_of" "reach_of" sReach f fd) (hH : Has P w K mg base "holds_one" 1 ["chosen", "around"] (spHolds K)) (henum : mg "enumerate" = none) : FnOk P w K mg base CX0 2 f fd ["chosen", "arounds"] (spReach K) := by
  refine F.ok scRe (fun vs H Q E h => ?_) (fun cdv A outr s H vs Q E hr h => ?_)
  · obtain ⟨c, a, As, rfl, _⟩ := h
    rfl
  · obtain ⟨c, a, As, rfl, ⟨ls, h1, h2⟩, hsz, hl, k⟩ := h
    have hls : ls.length = As.length := Paired.length h2
    refine ⟨_, pss_cons (ps_set (i := 2) scRe.nd rfl (Or.inl rfl) pe_int)
      (pss_cons (ps_for PassesOwn.never rfl (pi_enum rfl henum (pa_cons (pv 1) pa_nil)) (pg_tup rfl (pgs_cons (pg_name (i := 3) scRe.nd rfl (Or.inl rfl)) (pgs_cons (pg_name (i := 4) scRe.nd rfl (Or.inl rfl)) pgs_nil)))
        (pss_one (ps_if (pt_val (pe_has hH hr rfl (pa_cons (pv 0) (pa_cons (pv 4) pa_nil)))) (pss_one (ps_aug (i := 2) scRe.nd rfl (Or.inl rfl) (pe_op op_shl pe_int (pv 3)) iop_or)) pss_nil)))
      (pss_one (ps_ret (pv 2)))), ?_⟩
    refine ⟨_, rfl, a, _, rfl, h1, for_enum (K := K) (a := a) (xs := ls.map V.ref) (fun i σ H' => Same H H' ∧ ∃ v3 v4 : Option V, σ = [some (nv c), some (.ref a), some (nv (reach (fun i => holdsOne c (As.getD i [])) i)), v3, v4])
      ⟨Same.refl _, none, none, rfl⟩ (fun i σ H' _ ⟨e, _⟩ => e.seq h1) ?_ ?_⟩
    · rintro i z σ H1 T hz ⟨e1, v3, v4, rfl⟩ hT
      obtain ⟨t, ht, rfl⟩ := map_at hz
      obtain ⟨x, hx, hns⟩ := Paired.at h2 ht
      have sT : Same H1 (upd H1 T (.tup [.int (i : Nat), V.ref t])) := Same.put hT
      refine ⟨T, _, rfl, .inl (.inl upd_same), rfl, _, _, rfl, _, _, rfl, rfl, ?_⟩
      have e2 := e1.trans sT
      refine ⟨_, rfl, _, rfl, c, t, x, rfl, e2.seq hns, hsz x (List.mem_of_getElem? hx), fun H2 s2 => ⟨_, rfl, ?_⟩⟩
      have hg : As.getD i [] = x := by rw [List.getD_eq_getElem?_getD, hx]; rfl
      have hi : i < As.length := (List.getElem?_eq_some_iff.mp hx).1
      have er : reach (fun i => holdsOne c (As.getD i [])) (i + 1) = if holdsOne c x = true then reach (fun i => holdsOne c (As.getD i [])) i ||| 2 ^ i else reach (fun i => holdsOne c (As.getD i [])) i := by
        rw [← hg]
        rfl
      refine ite2 (fun c1 => ?_) (fun c1 => ?_)
      · rw [if_pos (show holdsOne c x = true from c1)] at er
        refine ⟨_, rfl, _, rfl, _, _, rfl, rfl, ⟨by omega, by omega, by decide⟩, _, _, rfl, rfl, e2.trans s2, some (.int (i : Nat)), some (.ref t), ?_⟩
        have en : V.int (Builtin.bitOr ((reach (fun i => holdsOne c (As.getD i [])) i : Nat) : Int) ((1 : Int) * 2 ^ ((i : Nat) : Int).toNat)) = nv (reach (fun i => holdsOne c (As.getD i [])) (i + 1)) := by
          rw [shl_one, bitOr_nat, er]
          rfl
        show ([some (nv c), some (V.ref a), some (V.int _), _, _] : L2.St) = _
        rw [en]
      · rw [if_neg (show ¬ holdsOne c x = true from c1)] at er
        refine ⟨e2.trans s2, some (.int (i : Nat)), some (.ref t), ?_⟩
        rw [er]
        rfl
    · rintro σ H1 ⟨e1, v3, v4, rfl⟩
      refine ⟨_, rfl, ?_⟩
      have := k H1 e1
      unfold reachOf at this
      rw [List.length_map, hls]
      exact this
def spShare (K : PySem.W.Frag) : Sp := fun vs H Q _ => ∃ (a : Addr) (l : List Nat), vs = [.ref a] ∧ Ns K H a l ∧ l ≠ [] ∧ Q (.bl (shares l)) H
theorem scSh : FnScope ["reaches", "shared", "reach"] ["reaches"] (defScope sShare) := ⟨rfl, rfl, rfl, by decide +kernel, rfl, by decide +kernel, by decide +kernel⟩
theorem ok_share {f : Addr} {fd : FuncData} (F : Fun K "share_a_place" "share_a_place" sShare f fd) : FnOk P w K mg base CX0 1 f fd ["reaches"] (spShare K) := by
  refine F.ok scSh (fun vs H Q E h => ?_) (fun cdv A outr s H vs Q E hr h => ?_)
  · obtain ⟨a, l, rfl, _⟩ := h
    rfl
  · obtain ⟨a, l, rfl, h1, hne, k⟩ := h
    refine ⟨_, pss_cons (ps_set (i := 1) scSh.nd rfl (Or.inl rfl) (pe_ix ix_list (pv 0) pe_int (fun _ _ => rfl)))
      (pss_cons (ps_for PassesOwn.never rfl (pi_list (pv 0)) (pg_name (i := 2) scSh.nd rfl (Or.inl rfl)) (pss_one (ps_aug (i := 1) scSh.nd rfl (Or.inl rfl) (pv 2) iop_and)))
      (pss_one (ps_ret (pe_cmpR op_ne (pv 1) pe_int (nomark _))))), ?_⟩
    have e0 : atI (l.map nv) 0 = some (nv (l.headD 0)) := by
      cases l with
      | nil => exact absurd rfl hne
      | cons x l => exact at_of (j := 0) rfl rfl
    refine ⟨_, rfl, a, _, _, _, rfl, rfl, h1, e0, ?_⟩
    refine ⟨_, rfl, a, rfl, ⟨_, h1⟩, for_list (K := K) (a := a) (xs := l.map nv) (fun i σ H' => H' = H ∧ ∃ v2 : Option V, σ = [some (.ref a), some (nv ((l.take i).foldl (fun a b => a &&& b) (l.headD 0))), v2]) ⟨rfl, none, rfl⟩ (fun i σ H' _ ⟨e, _⟩ => e ▸ h1) ?_ ?_⟩
    · rintro i z σ H' hz ⟨rfl, v2, rfl⟩
      obtain ⟨m, hm, rfl⟩ := map_at hz
      refine ⟨_, rfl, _, rfl, _, _, rfl, rfl, rfl, some (nv m), ?_⟩
      rw [take_snoc hm, List.foldl_append]
      show ([some (V.ref a), some (V.int (Builtin.bitAnd _ _)), _] : L2.St) = _
      rw [bitAnd_nat]
      rfl
    · rintro σ H' ⟨rfl, v2, rfl⟩
      rw [List.length_map, List.take_length]
      refine ⟨_, rfl, rfl, ?_⟩
      have e : (!decide (nv (l.foldl (fun a b => a &&& b) (l.headD 0)) = V.int 0)) = shares l := by
        show (!decide (V.int _ = V.int 0)) = _
        rw [dec_V]
        unfold shares
        rw [← decide_not, Bool.eq_iff_iff, decide_eq_true_iff, decide_eq_true_iff]
        omega
      have k : Q (V.bl (shares l)) H' := k
      rw [← e] at k
      exact k
end
end HQ

end
section
namespace HQ
open PySem PySem.Spec PyProof.Rows L2 HP
abbrev sApart : Stmt := top 31
section
variable {P : Program} {w : World} {K : PySem.W.Frag} {mg : Str → Option Value} {base : Heap}
def spApart (K : PySem.W.Frag) : Sp := fun vs H Q _ => ∃ (a b : Addr) (ps : List Ar) (ss : List Nat), vs = [.ref a, .ref b] ∧ Prs K H a ps ∧ ps.length ≤ 8 ∧ (∀ p ∈ ps, Bd p) ∧ Ns K H b ss ∧ ss.length ≤ 100 ∧
  ∀ (H' : Hp) (l : Addr), Same H H' → H l = none → H' l = some (.lst (((Rc70.apartOf ps ss).getD []).map nv)) → Q (.ref l) H'
theorem scAt : FnScope ["points", "sets", "arounds", "reaches", "first", "second", "third", "chosen"] ["points", "sets"] (defScope sApart) := ⟨rfl, rfl, rfl, by decide +kernel, rfl, by decide +kernel, by decide +kernel⟩
theorem bkAt : BlkOk ["points", "sets", "arounds", "reaches", "first", "second", "third", "chosen"] (defScope sApart) { kind := ScopeKind.function, names := [(".0", .local), ("chosen", .local), ("reach_of", .globalImplicit), ("arounds", .free)], isGenerator := false, isCoroutine := false } [("chosen", 7)] := blkOk_by (by decide +kernel)
theorem arounds_small {ps : List Ar} {L : List Rc70.Place} (h : ps.length ≤ 8) : ∀ x ∈ aroundsOf ps L, x.length < sizeLine := by
  intro x hx
  obtain ⟨q, _, rfl⟩ := List.mem_map.mp hx
  have := sets_len (f := arAt q ps) h
  rw [sizeLine_eq]
  omega
theorem range_n {i n : Nat} : (((n : Nat) : Int) - (i : Int)).toNat = n - i := by omega
theorem ok_apart {f : Addr} {fd : FuncData} (F : Fun K "first_apart" "first_apart" sApart f fd) (hA : Has P w K mg base "arounds_of" 5 ["points"] (spArounds K)) (hR : Has P w K mg base "reach_of" 2 ["chosen", "arounds"] (spReach K)) (hS : Has P w K mg base "share_a_place" 1 ["reaches"] (spShare K))
    (hlen : mg "len" = none) (hrange : mg "range" = none) : FnOk P w K mg base CX0 6 f fd ["points", "sets"] (spApart K) := by
  refine F.ok scAt (fun vs H Q E h => ?_) (fun cdv A outr s H vs Q E hr h => ?_)
  · obtain ⟨a, b, ps, ss, rfl, _⟩ := h
    rfl
  · obtain ⟨a, b, ps, ss, rfl, hps, hl, hb, hss, hsl, k⟩ := h
    have hr1 : Room 1 _ := hr.mono (by decide)
    have hr2 : Room 2 _ := hr.mono (by decide)
    refine ⟨_, pss_cons (ps_set (i := 2) scAt.nd rfl (Or.inr rfl) (pe_has hA hr rfl (pa_cons (pv 0) pa_nil)))
      (pss_cons (ps_setLc (i := 3) (own := [("chosen", 7)]) rfl scAt.nd rfl rfl (sw_true rfl rfl rfl rfl) (pi_list (pv 1)) bkAt (fun s H C cl fp => pg_name (i := 7) scAt.nd rfl (Or.inl rfl)) (fun s H C cl fp => pts_nil)
        (fun s H C cl fp => pe_has hR hr2 rfl (pa_cons (pv 7) (pa_cons (pv 2) pa_nil))))
      (pss_cons (ps_for PassesOwn.never rfl (pi_range1 rfl hrange (pa_cons (pe_callB call_len_seq (by rfl) hlen PySem.boot_len (pa_cons (pv 1) pa_nil)) pa_nil)) (pg_name (i := 4) scAt.nd rfl (Or.inl rfl))
        (pss_one (ps_for PassesOwn.never rfl (pi_range2 rfl hrange (pa_cons (pv 4) (pa_cons (pe_callB call_len_seq (by rfl) hlen PySem.boot_len (pa_cons (pv 1) pa_nil)) pa_nil))) (pg_name (i := 5) scAt.nd rfl (Or.inl rfl))
          (pss_one (ps_for PassesOwn.never rfl (pi_range2 rfl hrange (pa_cons (pv 5) (pa_cons (pe_callB call_len_seq (by rfl) hlen PySem.boot_len (pa_cons (pv 1) pa_nil)) pa_nil))) (pg_name (i := 6) scAt.nd rfl (Or.inl rfl))
            (pss_one (ps_if (pt_not (pt_val (pe_has hS hr1 rfl (pa_cons (pe_lst (pa_cons (pe_ix ix_list (pv 3) (pv 4) (fun _ _ => rfl)) (pa_cons (pe_ix ix_list (pv 3) (pv 5) (fun _ _ => rfl)) (pa_cons (pe_ix ix_list (pv 3) (pv 6) (fun _ _ => rfl)) pa_nil)))) pa_nil))))
              (pss_one (ps_ret (pe_lst (pa_cons (pv 4) (pa_cons (pv 5) (pa_cons (pv 6) pa_nil)))))) pss_nil)))))))
      (pss_one (ps_ret (pe_lst pa_nil))))), ?_⟩
    refine ⟨_, rfl, a, ps, rfl, hps, hl, hb, fun H1 D L s1 hD T hL => ?_⟩
    have hAl : (aroundsOf ps L).length = L.length := by unfold aroundsOf; rw [List.length_map]
    have hss1 : Ns K H1 b ss := s1.seq hss
    refine ⟨_, rfl, b, rfl, ⟨_, hss1⟩, fun G hG => ?_⟩
    refine lc_list (K := K) (a := b) (xs := ss.map nv) (fun i H' => OwnN H1 H' G ((ss.take i).map fun s => reachOf s (aroundsOf ps L))) ?_ ?_ ?_ ?_
    · exact OwnN.start hG
    · rintro i H' hi O
      exact O.2.1.seq hss1
    · rintro i z H' hz O
      obtain ⟨m, hm, rfl⟩ := map_at hz
      refine ⟨rfl, ?_⟩
      unfold tYes
      refine iteT ⟨_, rfl, _, rfl, m, D, aroundsOf ps L, rfl, hD.same O.2.1, arounds_small hl, by rw [hAl]; exact hL, fun H2 s2 => ?_⟩
      have O2 := O.move s2
      refine ⟨_, O2.2.2, ?_, ?_⟩
      · rw [List.length_map, List.length_map, List.length_take, sizeLine_eq]
        omega
      · rw [take_snoc hm, List.map_append]
        exact O2.grow _
    · intro H2 O2
      rw [List.length_map, List.take_length] at O2
      have s2 := s1.trans O2.2.1
      have hss2 : Ns K H2 b ss := O2.2.1.seq hss1
      have hG2 := O2.2.2
      have get : ∀ i, i < ss.length → atI ((ss.map fun s => reachOf s (aroundsOf ps L)).map nv) (i : Int) = some (nv (reachOf (ss.getD i 0) (aroundsOf ps L))) := by
        intro i hi
        refine at_of rfl ?_
        rw [List.getElem?_map, List.getElem?_map, List.getD_eq_getElem?_getD, List.getElem?_eq_getElem hi]
        rfl
      have mt : ∀ i j k, shares [reachOf (ss.getD i 0) (aroundsOf ps L), reachOf (ss.getD j 0) (aroundsOf ps L), reachOf (ss.getD k 0) (aroundsOf ps L)] = met ps ss i j k := fun i j k =>
        shares_meet T (ss := [ss.getD i 0, ss.getD j 0, ss.getD k 0]) (List.cons_ne_nil _ _)
      have hnv : ∀ n : Nat, ((ss.map nv).length : Int) = (ss.length : Int) := fun _ => by rw [List.length_map]
      refine ⟨_, rfl, b, _, rfl, .inl hss2, _, rfl, by omega, by rw [List.length_map]; omega, ?_⟩
      rw [List.length_map, Int.toNat_natCast]
      refine for_range (fun i σ H' => ∃ v4 v5 v6 v7 : Option V, σ = [some (.ref a), some (.ref b), some (.ref D), some (.ref G), v4, v5, v6, v7] ∧ Same H2 H' ∧ ∀ i' j' k', i' ≤ j' → j' ≤ k' → k' < ss.length → i' < i → met ps ss i' j' k' = true)
        ⟨none, none, none, none, rfl, Same.refl _, fun _ _ _ _ _ _ h => absurd h (by omega)⟩ ?_ ?_
      · rintro i σ H3 hi ⟨v4, v5, v6, v7, rfl, s3, I3⟩
        rw [nat_int]
        refine ⟨_, rfl, _, rfl, b, _, rfl, .inl (s3.seq hss2), (i : Int), ((ss.map nv).length : Int), rfl, ?_⟩
        rw [List.length_map]
        refine ⟨⟨by omega, by omega, by omega, by omega⟩, ?_⟩
        rw [range_n]
        refine for_range (fun j σ H' => ∃ v5 v6 v7 : Option V, σ = [some (.ref a), some (.ref b), some (.ref D), some (.ref G), some (.int (i : Int)), v5, v6, v7] ∧ Same H2 H' ∧ ∀ i' j' k', i' ≤ j' → j' ≤ k' → k' < ss.length → (i' < i ∨ (i' = i ∧ j' < i + j)) → met ps ss i' j' k' = true)
          ⟨v5, v6, v7, rfl, s3, fun i' j' k' h1 h2 h3 h4 => I3 i' j' k' h1 h2 h3 (by omega)⟩ ?_ ?_
        · rintro j σ H4 hj ⟨v5, v6, v7, rfl, s4, I4⟩
          rw [show (i : Int) + (j : Int) = ((i + j : Nat) : Int) by omega]
          refine ⟨_, rfl, _, rfl, b, _, rfl, .inl (s4.seq hss2), ((i + j : Nat) : Int), ((ss.map nv).length : Int), rfl, ?_⟩
          rw [List.length_map]
          refine ⟨⟨by omega, by omega, by omega, by omega⟩, ?_⟩
          rw [range_n]
          refine for_range (fun m σ H' => ∃ v6 v7 : Option V, σ = [some (.ref a), some (.ref b), some (.ref D), some (.ref G), some (.int (i : Int)), some (.int ((i + j : Nat) : Int)), v6, v7] ∧ Same H2 H' ∧ ∀ i' j' k', i' ≤ j' → j' ≤ k' → k' < ss.length → (i' < i ∨ (i' = i ∧ (j' < i + j ∨ (j' = i + j ∧ k' < i + j + m)))) → met ps ss i' j' k' = true)
            ⟨v6, v7, rfl, s4, fun i' j' k' h1 h2 h3 h4 => I4 i' j' k' h1 h2 h3 (by omega)⟩ ?_ ?_
          · rintro m σ H5 hm ⟨v6, v7, rfl, s5, I5⟩
            rw [show ((i + j : Nat) : Int) + (m : Int) = ((i + j + m : Nat) : Int) by omega]
            have hG5 := s5 _ _ hG2
            refine ⟨_, rfl, _, rfl, G, _, _, _, rfl, rfl, SqL.of hG5, get i (by omega), _, rfl, _, rfl, G, _, _, _, rfl, rfl, SqL.of hG5, get (i + j) (by omega), _, rfl, _, rfl, G, _, _, _, rfl, rfl, SqL.of hG5, get (i + j + m) (by omega), (by show 3 ≤ sizeLine; decide), fun q hq => ?_⟩
            have sq : Same H5 (upd H5 q (.lst [nv (reachOf (ss.getD i 0) (aroundsOf ps L)), nv (reachOf (ss.getD (i + j) 0) (aroundsOf ps L)), nv (reachOf (ss.getD (i + j + m) 0) (aroundsOf ps L))])) := Same.put hq
            refine ⟨q, [reachOf (ss.getD i 0) (aroundsOf ps L), reachOf (ss.getD (i + j) 0) (aroundsOf ps L), reachOf (ss.getD (i + j + m) 0) (aroundsOf ps L)], rfl, SqL.of upd_same, List.cons_ne_nil _ _, _, rfl, ?_⟩
            rw [mt]
            cases z : met ps ss i (i + j) (i + j + m)
            · refine iteT ⟨_, rfl, _, rfl, _, rfl, (by show 3 ≤ sizeLine; decide), fun l hl2 => ?_⟩
              refine k _ l ((s2.trans s5).trans (sq.trans (Same.put hl2))) ((s2.trans (s5.trans sq)).free hl2) ?_
              rw [apart_at (ps := ps) (ss := ss) (i := i) (j := i + j) (k := i + j + m) (by omega) (by omega) (by omega) z fun i' j' k' h1 h2 h3 h4 => I5 i' j' k' h1 h2 h3 (by unfold Before at h4; omega)]
              exact upd_same
            · refine iteF ⟨_, _, rfl, s5.trans sq, fun i' j' k' h1 h2 h3 h4 => ?_⟩
              by_cases hE : i' = i ∧ j' = i + j ∧ k' = i + j + m
              · obtain ⟨rfl, rfl, rfl⟩ := hE
                exact z
              · exact I5 i' j' k' h1 h2 h3 (by omega)
          · rintro σ H5 ⟨v6, v7, rfl, s5, I5⟩
            exact ⟨_, _, _, rfl, s5, fun i' j' k' h1 h2 h3 h4 => I5 i' j' k' h1 h2 h3 (by omega)⟩
        · rintro σ H4 ⟨v5, v6, v7, rfl, s4, I4⟩
          exact ⟨_, _, _, _, rfl, s4, fun i' j' k' h1 h2 h3 h4 => I4 i' j' k' h1 h2 h3 (by omega)⟩
      · rintro σ H3 ⟨v4, v5, v6, v7, rfl, s3, I3⟩
        refine ⟨Nat.zero_le _, fun l hl2 => ?_⟩
        refine k _ l ((s2.trans s3).trans (Same.put hl2)) ((s2.trans s3).free hl2) ?_
        rw [apart_no (ps := ps) (ss := ss) fun i' j' k' h1 h2 h3 => I3 i' j' k' h1 h2 h3 (by omega)]
        exact upd_same
end
end HQ

end
section
namespace HQ
open PySem PySem.Spec PyProof.Rows L2 HP
abbrev sFirstP : Stmt := top 33
abbrev sBehind : Stmt := top 34
abbrev sFit : Stmt := top 35
abbrev sSetsOf : Stmt := top 36
section
variable {X : Cx}
def rGetL (K : PySem.W.Frag) : V → V → Hp → VK → Prop := fun o i H Q => ∃ (p : Addr) (xs : List V) (k : Nat) (v : V), o = .ref p ∧ i = .int (k : Int) ∧ SqL K H p xs ∧ xs[k]? = some v ∧ Q v H
theorem get_list : PGet X (rGetL X.K) := by
  intro pins s σ H o i ov iv Q I ro ri h
  obtain ⟨p, xs, k, v, rfl, rfl, hq, he, q⟩ := h
  cases ro
  obtain ⟨t, rfl⟩ := ri
  obtain ⟨its, r, pl, hz⟩ := I.list hq
  obtain ⟨w, ew, rw'⟩ := r.get he
  have hk : k < xs.length := (List.getElem?_eq_some_iff.mp he).1
  rw [sizeLine_eq] at hz
  exact wpAny_getItem_list pl.isList (by omega) (by omega) (by rw [Int.toNat_natCast]; simpa using ew) ⟨v, H, I, rw', q⟩
end
section
variable {P : Program} {w : World} {K : PySem.W.Frag} {mg : Str → Option Value} {base : Heap}
open Rc70 (labelled)
theorem sum_snoc (l : List Nat) (x : Nat) : (l ++ [x]).sum = l.sum + x := by
  rw [List.sum_append]
  simp
theorem lab_succ (n : Nat) (l : List Nat) (k : Nat) : labelled (n + 1) l k = labelled n l k + if l.getD n 0 = k then 2 ^ n else 0 := by
  unfold labelled
  rw [List.range_succ, List.map_append, List.map_singleton, sum_snoc]
theorem lab_lt (n : Nat) (l : List Nat) (k : Nat) : labelled n l k < 2 ^ n := by
  induction n with
  | zero => simp [labelled]
  | succ n ih =>
    rw [lab_succ, two_s]
    split <;> omega
theorem lab_or (n : Nat) (l : List Nat) (k : Nat) : (labelled n l k ||| 2 ^ n : Nat) = labelled n l k + 2 ^ n := by
  have := Nat.two_pow_add_eq_or_of_lt (i := n) (b := labelled n l k) (lab_lt n l k) 1
  rw [Nat.mul_one] at this
  rw [Nat.or_comm, ← this, Nat.add_comm]
def labs (r n : Nat) (l : List Nat) : List Nat := (List.range r).map (labelled n l)
theorem labs_set {r n : Nat} {l : List Nat} (h : l.getD n 0 < r) : ((labs r n l).map nv).set (l.getD n 0) (nv (labelled n l (l.getD n 0) + 2 ^ n)) = (labs r (n + 1) l).map nv := by
  apply List.ext_getElem?
  intro i
  rw [List.getElem?_set]
  unfold labs
  simp only [List.length_map, List.length_range, List.getElem?_map]
  by_cases hi : i < r
  · rw [List.getElem?_range hi]
    by_cases c : l.getD n 0 = i
    · rw [if_pos c, if_pos (by omega)]
      simp only [Option.map_some]
      rw [lab_succ, if_pos c, c]
    · rw [if_neg c]
      simp only [Option.map_some]
      rw [lab_succ, if_neg c, Nat.add_zero]
  · have e : (List.range r)[i]? = none := List.getElem?_eq_none (by rw [List.length_range]; omega)
    rw [e, if_neg (by omega)]
    rfl
theorem rep_zero (n : Nat) : (List.replicate n [V.int 0]).flatten = (List.replicate n 0).map nv := by
  induction n with
  | zero => rfl
  | succ n ih =>
    rw [List.replicate_succ, List.flatten_cons, ih, List.replicate_succ]
    rfl
theorem labs_zero (r : Nat) (l : List Nat) : labs r 0 l = List.replicate r 0 := by
  unfold labs
  rw [List.map_eq_replicate_iff.mpr]
  · rw [List.length_range]
  · intro x _
    rfl
def spSetsOf (K : PySem.W.Frag) : Sp := fun vs H Q _ => ∃ (a : Addr) (row : List Nat) (r : Nat), vs = [.ref a, nv r] ∧ Ns K H a row ∧ row.length ≤ 1000 ∧ r ≤ 1000 ∧ (∀ d ∈ row, d < r) ∧ ∀ (H' : Hp) (D : Addr), OwnN H H' D (labs r row.length row) → Q (.ref D) H'
theorem scSO : FnScope ["row", "parts", "sets", "number", "part"] ["row", "parts"] (defScope sSetsOf) := ⟨rfl, rfl, rfl, by decide +kernel, rfl, by decide +kernel, by decide +kernel⟩
theorem ok_setsof {f : Addr} {fd : FuncData} (F : Fun K "sets_of" "sets_of" sSetsOf f fd) (henum : mg "enumerate" = none) : FnOk P w K mg base CX0 1 f fd ["row", "parts"] (spSetsOf K) := by
  refine F.ok scSO (fun vs H Q E h => ?_) (fun cdv A outr s H vs Q E hr h => ?_)
  · obtain ⟨a, row, r, rfl, _⟩ := h
    rfl
  · obtain ⟨a, row, r, rfl, h1, hl, hrl, hd, k⟩ := h
    refine ⟨_, pss_cons (ps_set (i := 2) scSO.nd rfl (Or.inl rfl) (pe_op op_rep (pe_lst (pa_cons pe_int pa_nil)) (pv 1)))
      (pss_cons (ps_for PassesOwn.never rfl (pi_enum rfl henum (pa_cons (pv 0) pa_nil)) (pg_tup rfl (pgs_cons (pg_name (i := 3) scSO.nd rfl (Or.inl rfl)) (pgs_cons (pg_name (i := 4) scSO.nd rfl (Or.inl rfl)) pgs_nil)))
        (pss_one (ps_augS (pv 2) (pv 4) get_list (pe_op op_shl pe_int (pv 3)) iop_or set_list)))
      (pss_one (ps_ret (pv 2)))), ?_⟩
    refine ⟨(by show 1 ≤ sizeLine; decide), fun z hz => ?_⟩
    have sz : Same H (upd H z (.lst [V.int 0])) := Same.put hz
    refine ⟨_, rfl, z, (r : Int), [V.int 0], rfl, rfl, upd_same, by omega, by omega, by rw [Int.toNat_natCast, sizeLine_eq]; show 1 * r ≤ _; omega, fun D hD => ?_⟩
    rw [Int.toNat_natCast, rep_zero]
    have O0 : OwnN H (upd (upd H z (.lst [V.int 0])) D (.lst ((List.replicate r 0).map nv))) D (labs r 0 row) := ⟨sz.free hD, sz.trans (Same.put hD), by rw [upd_same, labs_zero]⟩
    refine ⟨_, rfl, a, _, rfl, O0.2.1.seq h1, for_enum (K := K) (a := a) (xs := row.map nv) (fun i σ H' => OwnN H H' D (labs r i row) ∧ ∃ v3 v4 : Option V, σ = [some (.ref a), some (nv r), some (.ref D), v3, v4]) ⟨O0, none, none, rfl⟩ (fun i σ H' _ ⟨O, _⟩ => O.2.1.seq h1) ?_ ?_⟩
    · rintro i x σ H1 T hx ⟨O1, v3, v4, rfl⟩ hT
      obtain ⟨d, hd', rfl⟩ := map_at hx
      have sT : Same H1 (upd H1 T (.tup [.int (i : Nat), nv d])) := Same.put hT
      have O2 := O1.move sT
      have hil : i < row.length := (List.getElem?_eq_some_iff.mp hd').1
      have eg : row.getD i 0 = d := by rw [List.getD_eq_getElem?_getD, hd']; rfl
      have hdr : d < r := hd d (List.mem_of_getElem? hd')
      refine ⟨T, _, rfl, .inl (.inl upd_same), rfl, _, _, rfl, _, _, rfl, rfl, ?_⟩
      have eat : ((labs r i row).map nv)[d]? = some (nv (labelled i row d)) := by
        unfold labs
        rw [List.getElem?_map, List.getElem?_map, List.getElem?_range hdr]
        rfl
      have en : V.int (Builtin.bitOr ((labelled i row d : Nat) : Int) ((1 : Int) * 2 ^ ((i : Nat) : Int).toNat)) = nv (labelled i row (row.getD i 0) + 2 ^ i) := by
        rw [shl_one, bitOr_nat, lab_or, eg]
        rfl
      refine ⟨_, rfl, _, rfl, D, _, d, _, rfl, rfl, SqL.of O2.2.2, eat, _, rfl, _, _, rfl, rfl, ⟨by omega, by omega, by decide⟩, _, _, rfl, rfl, D, _, (d : Int), d, rfl, rfl, O2.2.2, ?_, ?_⟩
      · unfold ixN labs
        rw [if_pos (by omega), if_pos (by simp; omega)]
        simp
      · refine ⟨⟨O2.1, Same.own O2.1 O2.2.1, ?_⟩, _, _, rfl⟩
        rw [upd_same]
        show some (HO.lst (List.set _ d (V.int (Builtin.bitOr ((labelled i row d : Nat) : Int) ((1 : Int) * 2 ^ ((i : Nat) : Int).toNat))))) = _
        rw [en]
        have := labs_set (r := r) (n := i) (l := row) (by rw [eg]; exact hdr)
        rw [eg] at this ⊢
        rw [this]
    · rintro σ H1 ⟨O1, v3, v4, rfl⟩
      rw [List.length_map] at O1
      exact ⟨_, rfl, k H1 D O1⟩
def spFit (K : PySem.W.Frag) : Sp := fun vs H Q _ => ∃ (a b : Addr) (row : List Nat) (r : Nat) (As : List (List Nat)), vs = [.ref a, nv r, .ref b] ∧ Ns K H a row ∧ row.length ≤ 1000 ∧ 1 ≤ r ∧ r ≤ 1000 ∧ (∀ d ∈ row, d < r) ∧ Ars K H b As ∧ (∀ x ∈ As, x.length < sizeLine) ∧ As.length ≤ 10000 ∧
  ∀ H', Same H H' → Q (.bl (shares ((labs r row.length row).map fun s => reachOf s As))) H'
theorem scFi : FnScope ["row", "parts", "arounds", "chosen"] ["row", "parts", "arounds"] (defScope sFit) := ⟨rfl, rfl, rfl, by decide +kernel, rfl, by decide +kernel, by decide +kernel⟩
theorem bkFi : BlkOk ["row", "parts", "arounds", "chosen"] (defScope sFit) { kind := ScopeKind.function, names := [(".0", .local), ("chosen", .local), ("reach_of", .globalImplicit), ("arounds", .free)], isGenerator := false, isCoroutine := false } [("chosen", 3)] := blkOk_by (by decide +kernel)
theorem ok_fit {f : Addr} {fd : FuncData} (F : Fun K "is_fit" "is_fit" sFit f fd) (hS : Has P w K mg base "share_a_place" 1 ["reaches"] (spShare K)) (hR : Has P w K mg base "reach_of" 2 ["chosen", "arounds"] (spReach K)) (hO : Has P w K mg base "sets_of" 1 ["row", "parts"] (spSetsOf K)) :
    FnOk P w K mg base CX0 3 f fd ["row", "parts", "arounds"] (spFit K) := by
  refine F.ok scFi (fun vs H Q E h => ?_) (fun cdv A outr s H vs Q E hr h => ?_)
  · obtain ⟨a, b, row, r, As, rfl, _⟩ := h
    rfl
  · obtain ⟨a, b, row, r, As, rfl, h1, hl, hr0, hrl, hd, hA, hsm, hAl, k⟩ := h
    have hr1 : Room 1 _ := hr.mono (by decide)
    refine ⟨_, pss_one (ps_ret (pe_has hS hr1 rfl (pa_cons (pe_lc (own := [("chosen", 3)]) rfl scFi.nd (pi_list (pe_has hO hr1 rfl (pa_cons (pv 0) (pa_cons (pv 1) pa_nil)))) bkFi (fun s H C cl fp => pg_name (i := 3) scFi.nd rfl (Or.inl rfl)) (fun s H C cl fp => pts_nil)
      (fun s H C cl fp => pe_has hR hr rfl (pa_cons (pv 3) (pa_cons (pv 2) pa_nil)))) pa_nil))), ?_⟩
    refine ⟨_, rfl, _, rfl, a, row, r, rfl, h1, hl, hrl, hd, fun H1 D O1 => ?_⟩
    have s1 := O1.2.1
    generalize hss : labs r row.length row = ss at O1 k
    have hssl : ss.length = r := by rw [← hss]; unfold labs; rw [List.length_map, List.length_range]
    refine ⟨D, rfl, ⟨_, SqL.of O1.2.2⟩, fun G hG => ?_⟩
    refine lc_list (K := K) (a := D) (xs := ss.map nv) (fun i H' => OwnN H1 H' G ((ss.take i).map fun s => reachOf s As)) ?_ ?_ ?_ ?_
    · exact OwnN.start hG
    · rintro i H' hi O
      exact O.2.1.seq (SqL.of O1.2.2)
    · rintro i z H' hz O
      obtain ⟨m, hm, rfl⟩ := map_at hz
      refine ⟨rfl, ?_⟩
      unfold tYes
      refine iteT ⟨_, rfl, _, rfl, m, b, As, rfl, (hA.same s1).same O.2.1, hsm, hAl, fun H2 s2 => ?_⟩
      have O2 := O.move s2
      refine ⟨_, O2.2.2, ?_, ?_⟩
      · rw [List.length_map, List.length_map, List.length_take, sizeLine_eq]
        omega
      · rw [take_snoc hm, List.map_append]
        exact O2.grow _
    · intro H2 O2
      rw [List.length_map, List.take_length] at O2
      refine ⟨G, _, rfl, SqL.of O2.2.2, ?_, ?_⟩
      · intro z
        have := congrArg List.length z
        rw [List.length_map, hssl] at this
        simp at this
        omega
      · exact k H2 (s1.trans O2.2.1)
end
end HQ

end
section
namespace HQ
open PySem PySem.Spec PyProof.Rows L2 HP
theorem for_step {lo st : Int} {n : Nat} {g : TG} {tb : TS} {D : L2.Ends} {σ : L2.St} {H : Hp} (Pv : Nat → L2.St → Hp → Prop) (h0 : Pv 0 σ H)
    (hs : ∀ i σ H, i < n → Pv i σ H → g (.int (lo + i * st)) σ H fun σ2 H2 => tb { D with nx := Pv (i + 1), ct := Pv (i + 1), bk := D.nx } σ2 H2) (hd : ∀ σ H, Pv n σ H → D.nx σ H) :
    ∃ W : Nat → Nat → L2.St → Hp → Prop, (∃ m, W 0 m σ H) ∧ ∀ i m σ H, W i m σ H →
      ((Its lo st n).stop i H ∧ D.nx σ H) ∨ ((Its lo st n).go i H ∧ ∃ N : L2.St → Hp → Prop, (∀ σ' H', N σ' H' → ∃ m', m' < m ∧ W (i + 1) m' σ' H') ∧ ∀ x H', (Its lo st n).yld i H x H' → g x σ H' fun σ2 H2 => tb { D with nx := N, ct := N, bk := D.nx } σ2 H2) := by
  refine ⟨fun i m σ H => m = n - i ∧ i ≤ n ∧ Pv i σ H, ⟨n, by simp, Nat.zero_le _, h0⟩, ?_⟩
  rintro i m σ H ⟨rfl, hi, p⟩
  by_cases hlt : i < n
  · refine .inr ⟨hlt, Pv (i + 1), fun σ' H' p' => ⟨n - (i + 1), by omega, rfl, hlt, p'⟩, fun x H' y => ?_⟩
    obtain ⟨e, y⟩ := y
    subst e y
    exact hs i σ _ hlt p
  · have e : i = n := by omega
    subst e
    exact .inl ⟨Nat.le_refl _, hd σ H p⟩
theorem step_down {n : Nat} (h1 : 1 ≤ n) (h : n ≤ 1000) : stepOk ((n : Int) - 1) 0 (-1) (n - 1) := by
  have e : Builtin.Range.rangeSize ((n : Int) - 1) 0 (-1) = ((n - 1 : Nat) : Int) := by
    unfold Builtin.Range.rangeSize
    rw [if_neg (by decide)]
    split
    · rw [show (-(-1) : Int) = 1 by decide, Int.ediv_one]
      omega
    · omega
  refine ⟨by decide, by decide, ?_, e⟩
  have fits : ∀ x : Int, -10000 ≤ x → x ≤ 10000 → Builtin.Range.rangeFitsLong x = true := by
    intro x h1 h2
    unfold Builtin.Range.rangeFitsLong
    simp
    omega
  unfold Builtin.Range.small
  rw [e, fits ((n : Int) - 1) (by omega) (by omega), fits 0 (by omega) (by omega), fits (-1) (by omega) (by omega), fits _ (by omega) (by omega)]
  simp [fits 0 (by omega) (by omega)]
theorem bnd_max {l : List Nat} {m : Nat} (h1 : m ∈ l) (h2 : ∀ y ∈ l, y ≤ m) : bnd l = m + 1 := by
  have a := lt_bnd h1
  have up : ∀ (l : List Nat) (b : Nat), (∀ y ∈ l, y ≤ m) → b ≤ m + 1 → l.foldl (fun b d => max b (d + 1)) b ≤ m + 1 := by
    intro l
    induction l with
    | nil => intro b _ hb; exact hb
    | cons x l ih =>
      intro b h hb
      have := h x List.mem_cons_self
      exact ih _ (fun y hy => h y (List.mem_cons_of_mem _ hy)) (show max b (x + 1) ≤ m + 1 by omega)
  have b := up l 0 h2 (by omega)
  unfold bnd at a ⊢
  omega
theorem cut_take (row : List Nat) (i : Nat) (h : i ≤ row.length) : cutV (row.map nv) none (some (i : Int)) = (row.take i).map nv := by
  unfold cutV
  rw [HT.sIx_none, HT.sIx_nat, List.drop_zero, Nat.sub_zero, List.length_map, Nat.min_eq_left h, List.map_take]
theorem nv_int (l : List Nat) : l.map nv = (l.map fun m : Nat => (m : Int)).map V.int := by
  rw [List.map_map]
  rfl
section
variable {P : Program} {w : World} {K : PySem.W.Frag} {mg : Str → Option Value} {base : Heap}
def Behind (r : Nat) (row res : List Nat) : Prop := (∃ i, 0 < i ∧ i < row.length ∧ Can r row i ∧ (∀ j, i < j → j < row.length → ¬ Can r row j) ∧ res = nextAt row i) ∨ (res = [] ∧ ∀ j, 0 < j → j < row.length → ¬ Can r row j)
def spBehind (K : PySem.W.Frag) : Sp := fun vs H Q _ => ∃ (a : Addr) (row : List Nat) (r : Nat), vs = [.ref a, nv r] ∧ H a = some (.lst (row.map nv)) ∧ 1 ≤ row.length ∧ row.length ≤ 1000 ∧ 1 ≤ r ∧
  ∀ (H' : Hp) (l : Addr) (res : List Nat), Same H H' → H l = none → H' l = some (.lst (res.map nv)) → Behind r row res → Q (.ref l) H'
theorem scBe : FnScope ["row", "parts", "at"] ["row", "parts"] (defScope sBehind) := ⟨rfl, rfl, rfl, by decide +kernel, rfl, by decide +kernel, by decide +kernel⟩
theorem ok_behind {f : Addr} {fd : FuncData} (F : Fun K "row_behind" "row_behind" sBehind f fd) (hlen : mg "len" = none) (hrange : mg "range" = none) (hmax : mg "max" = none) : FnOk P w K mg base CX0 1 f fd ["row", "parts"] (spBehind K) := by
  refine F.ok scBe (fun vs H Q E h => ?_) (fun cdv A outr s H vs Q E hr h => ?_)
  · obtain ⟨a, row, r, rfl, _⟩ := h
    rfl
  · obtain ⟨a, row, r, rfl, h1, hl1, hl, hr1, k⟩ := h
    refine ⟨_, pss_cons (ps_for PassesOwn.never rfl (pi_range3 rfl hrange (pa_cons (pe_op op_sub (pe_callB call_len_seq (by rfl) hlen PySem.boot_len (pa_cons (pv 0) pa_nil)) pe_int) (pa_cons pe_int (pa_cons (pe_un un_neg pe_int) pa_nil)))) (pg_name (i := 2) scBe.nd rfl (Or.inl rfl))
        (pss_one (ps_if (PW.pt (pw_and (pt_cmpR op_lt (pe_ix ix_list (pv 0) (pv 2) (fun _ _ => rfl)) (pe_op op_sub (pv 1) pe_int) (nomark _))
            (pw_and1 (pt_cmpR op_le (pe_ix ix_list (pv 0) (pv 2) (fun _ _ => rfl)) (pe_callB (cr_max rfl) (by rfl) hmax PyProof.Rows.boot_max (pa_cons (pe_slice sl_list (pv 0) po_none (po_some (pv 2))) pa_nil)) (nomark _)))))
          (pss_one (ps_ret (pe_op op_cat (pe_op op_cat (pe_slice sl_list (pv 0) po_none (po_some (pv 2))) (pe_lst (pa_cons (pe_op op_add (pe_ix ix_list (pv 0) (pv 2) (fun _ _ => rfl)) pe_int) pa_nil)))
            (pe_op op_rep (pe_lst (pa_cons pe_int pa_nil)) (pe_op op_sub (pe_op op_sub (pe_callB call_len_seq (by rfl) hlen PySem.boot_len (pa_cons (pv 0) pa_nil)) (pv 2)) pe_int))))) pss_nil)))
      (pss_one (ps_ret (pe_lst pa_nil))), ?_⟩
    have hlr : ((row.map nv).length : Int) = (row.length : Int) := by rw [List.length_map]
    have ok := step_down hl1 hl
    rw [← hlr] at ok
    have get : ∀ i, i < row.length → atI (row.map nv) (i : Int) = some (nv (row.getD i 0)) := by
      intro i hi
      refine at_of rfl ?_
      rw [List.getElem?_map, List.getD_eq_getElem?_getD, List.getElem?_eq_getElem hi]
      rfl
    refine ⟨_, rfl, a, _, rfl, .inl (SqL.of h1), _, _, rfl, rfl, _, rfl, _, _, _, _, rfl, ok, ?_⟩
    refine for_step (fun i σ H' => Same H H' ∧ (∃ v2 : Option V, σ = [some (.ref a), some (nv r), v2]) ∧ ∀ j, row.length < j + 1 + i → 0 < j → j < row.length → ¬ Can r row j) ⟨Same.refl _, ⟨none, rfl⟩, fun j h1 _ h2 => absurd h1 (by omega)⟩ ?_ ?_
    · rintro i σ H1 hi ⟨s1, ⟨v2, rfl⟩, hno⟩
      obtain ⟨p, hp⟩ : ∃ p : Nat, p = row.length - 1 - i := ⟨_, rfl⟩
      have ev : ((row.map nv).length : Int) - 1 + (i : Int) * (-1) = (p : Int) := by rw [hlr]; omega
      rw [ev]
      have hpl : p < row.length := by omega
      have hp0 : 0 < p := by omega
      have ha1 := s1 _ _ h1
      refine ⟨_, rfl, _, rfl, a, _, _, _, rfl, rfl, SqL.of ha1, get p hpl, _, rfl, _, _, rfl, rfl, _, _, rfl, rfl, _, rfl, ?_⟩
      have stay : ¬ Can r row p → Same H H1 ∧ (∃ v2 : Option V, ([some (V.ref a), some (nv r), some (V.int (p : Int))] : L2.St) = [some (.ref a), some (nv r), v2]) ∧ ∀ j, row.length < j + 1 + (i + 1) → 0 < j → j < row.length → ¬ Can r row j := by
        intro hn
        refine ⟨s1, ⟨_, rfl⟩, fun j h1 h2 h3 => ?_⟩
        by_cases e : j = p
        · rw [e]; exact hn
        · exact hno j (by omega) h2 h3
      by_cases c1 : row.getD p 0 + 1 < r
      · rw [decide_eq_true (show ((row.getD p 0 : Nat) : Int) < (r : Int) - 1 by omega)]
        refine iteT ⟨_, rfl, _, rfl, a, _, _, _, rfl, rfl, SqL.of ha1, get p hpl, _, rfl, _, rfl, _, rfl, a, _, rfl, SqL.of ha1, fun q hq => ?_⟩
        rw [cut_take row p (by omega)]
        have sq : Same H1 (upd H1 q (.lst ((row.take p).map nv))) := Same.put hq
        have ha2 := sq _ _ ha1
        generalize hH2 : upd H1 q (.lst ((row.take p).map nv)) = H2 at sq ha2 ⊢
        have hq2 : H2 q = some (.lst ((row.take p).map nv)) := by rw [← hH2]; exact upd_same
        have hq3 : SqL K H2 q (((row.take p).map fun m : Nat => (m : Int)).map V.int) := by
          rw [← nv_int]
          exact SqL.of hq2
        refine ⟨q, (row.take p).map fun m : Nat => (m : Int), rfl, hq3, ?_, fun m hm hle => ?_⟩
        · rw [List.length_map, List.length_take]; omega
        · obtain ⟨m0, hm0, rfl⟩ := List.mem_map.mp hm
          have eb : bnd (row.take p) = m0 + 1 := bnd_max hm0 fun y hy => by
            have := hle (y : Int) (List.mem_map.mpr ⟨y, hy, rfl⟩)
            omega
          refine ⟨_, _, rfl, rfl, _, rfl, ?_⟩
          by_cases c2 : row.getD p 0 < bnd (row.take p)
          · rw [decide_eq_true (show ((row.getD p 0 : Nat) : Int) ≤ (m0 : Int) by omega)]
            refine iteT ⟨_, rfl, _, rfl, _, rfl, a, _, rfl, SqL.of ha2, fun t ht => ?_⟩
            rw [cut_take row p (by omega)]
            have st : Same H2 (upd H2 t (.lst ((row.take p).map nv))) := Same.put ht
            have ha3 := st _ _ ha2
            generalize hH3 : upd H2 t (.lst ((row.take p).map nv)) = H3 at st ha3 ⊢
            have ht3 : H3 t = some (.lst ((row.take p).map nv)) := by rw [← hH3]; exact upd_same
            have en : V.int (((row.getD p 0 : Nat) : Int) + 1) = nv (row.getD p 0 + 1) := by unfold nv; rw [Int.natCast_add]; rfl
            refine ⟨_, rfl, _, rfl, a, _, _, _, rfl, rfl, SqL.of ha3, get p hpl, _, _, rfl, rfl, (by show 1 ≤ sizeLine; decide), fun u hu => ?_⟩
            have su : Same H3 (upd H3 u (.lst [V.int (((row.getD p 0 : Nat) : Int) + 1)])) := Same.put hu
            have ht4 := su _ _ ht3
            have ha4 := su _ _ ha3
            refine ⟨t, u, _, _, rfl, rfl, ht4, upd_same, ?_, fun v hv => ?_⟩
            · rw [List.length_map, List.length_take, sizeLine_eq]
              show _ + 1 ≤ _
              omega
            generalize hH4 : upd H3 u (.lst [V.int (((row.getD p 0 : Nat) : Int) + 1)]) = H4 at su ht4 ha4 hv ⊢
            have sv : Same H4 (upd H4 v (.lst ((row.take p).map nv ++ [V.int (((row.getD p 0 : Nat) : Int) + 1)]))) := Same.put hv
            have ha5 := sv _ _ ha4
            generalize hH5 : upd H4 v (.lst ((row.take p).map nv ++ [V.int (((row.getD p 0 : Nat) : Int) + 1)])) = H5 at sv ha5 ⊢
            have hv5 : H5 v = some (.lst ((row.take p).map nv ++ [V.int (((row.getD p 0 : Nat) : Int) + 1)])) := by rw [← hH5]; exact upd_same
            refine ⟨(by show 1 ≤ sizeLine; decide), fun x hx => ?_⟩
            have sx : Same H5 (upd H5 x (.lst [V.int 0])) := Same.put hx
            have ha6 := sx _ _ ha5
            have hv6 := sx _ _ hv5
            have ek : ((row.map nv).length : Int) - (p : Int) - 1 = ((row.length - p - 1 : Nat) : Int) := by rw [hlr]; omega
            refine ⟨_, rfl, a, _, rfl, .inl (SqL.of ha6), _, rfl, _, _, rfl, rfl, _, _, rfl, rfl, x, ((row.length - p - 1 : Nat) : Int), [V.int 0], rfl, congrArg V.int ek, upd_same, by omega, by omega, ?_, fun y hy => ?_⟩
            · rw [Int.toNat_natCast, sizeLine_eq]
              show 1 * _ ≤ _
              omega
            rw [Int.toNat_natCast, rep_zero]
            have sy : Same (upd H5 x (.lst [V.int 0])) (upd (upd H5 x (.lst [V.int 0])) y (.lst ((List.replicate (row.length - p - 1) 0).map nv))) := Same.put hy
            refine ⟨v, y, _, _, rfl, rfl, sy _ _ hv6, upd_same, ?_, fun z hz => ?_⟩
            · rw [List.length_append, List.length_map, List.length_take, List.length_map, List.length_replicate, sizeLine_eq]
              show _ + 1 + _ ≤ _
              omega
            have sall : Same H (upd (upd H5 x (.lst [V.int 0])) y (.lst ((List.replicate (row.length - p - 1) 0).map nv))) := s1.trans (sq.trans (st.trans (su.trans (sv.trans (sx.trans sy)))))
            refine k _ z (nextAt row p) (sall.trans (Same.put hz)) (sall.free hz) ?_ (.inl ⟨p, hp0, hpl, ⟨c1, c2⟩, fun j h1 h2 => hno j (by omega) (by omega) h2, rfl⟩)
            rw [upd_same]
            unfold nextAt
            rw [List.map_append, List.map_append, en]
            rfl
          · rw [decide_eq_false (show ¬ ((row.getD p 0 : Nat) : Int) ≤ (m0 : Int) by omega)]
            have := stay fun z => c2 z.2
            exact iteF ⟨this.1.trans sq, this.2⟩
      · rw [decide_eq_false (show ¬ ((row.getD p 0 : Nat) : Int) < (r : Int) - 1 by omega)]
        exact iteF (iteF (stay fun z => c1 z.1))
    · rintro σ H1 ⟨s1, ⟨v2, rfl⟩, hno⟩
      refine ⟨Nat.zero_le _, fun l hl2 => ?_⟩
      exact k _ l [] (s1.trans (Same.put hl2)) (s1.free hl2) upd_same (.inr ⟨rfl, fun j h1 h2 => hno j (by omega) h1 h2⟩)
end
end HQ

end
section
namespace HQ
open PySem PySem.Spec PyProof.Rows L2 HP
section
variable {P : Program} {w : World} {K : PySem.W.Frag} {mg : Str → Option Value} {base : Heap}
def spFirstP (K : PySem.W.Frag) : Sp := fun vs H Q _ => ∃ (a : Addr) (ps : List Ar) (r : Nat), vs = [.ref a, nv r] ∧ Prs K H a ps ∧ ps.length ≤ 8 ∧ 1 ≤ ps.length ∧ (∀ p ∈ ps, Bd p) ∧ 1 ≤ r ∧ r ≤ 8 ∧
  ∀ (H' : Hp) (l : Addr), Same H H' → H l = none → H' l = some (.lst (((Rc70.partedOf ps r).getD []).map nv)) → Q (.ref l) H'
theorem scFP : FnScope ["points", "parts", "arounds", "row"] ["points", "parts"] (defScope sFirstP) := ⟨rfl, rfl, rfl, by decide +kernel, rfl, by decide +kernel, by decide +kernel⟩
def Search (ps : List Ar) (r : Nat) (row : List Nat) (m : Nat) : Prop :=
  (Row r ps.length row ∧ Grows row ∧ (∀ l', Row r ps.length l' → Grows l' → val r l' < val r row → parts ps r l' = false) ∧ m = r ^ ps.length - val r row + 1) ∨ (row = [] ∧ (∀ l', Row r ps.length l' → Grows l' → parts ps r l' = false) ∧ m = 0)
theorem search_next {ps : List Ar} {r : Nat} {row res : List Nat} (hn : 1 ≤ ps.length) (hr : Row r ps.length row) (hg : Grows row) (hb : ∀ l', Row r ps.length l' → Grows l' → val r l' < val r row → parts ps r l' = false) (hp : parts ps r row = false) (h : Behind r row res) :
    ∃ m', m' < r ^ ps.length - val r row + 1 ∧ Search ps r res m' := by
  have eqv : ∀ l', Row r ps.length l' → ¬ val r row < val r l' → ¬ val r l' < val r row → l' = row := by
    intro l' h1 h2 h3
    rcases first_diff (a := l') (b := row) (by rw [h1.1, hr.1]) with z | ⟨i, z1, z2, z3⟩
    · exact z
    · exfalso
      rcases Nat.lt_or_gt_of_ne z3 with y | y
      · exact h3 (val_less (by rw [h1.1, hr.1]) h1.2 z1 z2 y)
      · exact h2 (val_less (by rw [h1.1, hr.1]) hr.2 (by rw [hr.1, ← h1.1]; exact z1) (fun j hj => (z2 j hj).symm) y)
  have le : ∀ l', Row r ps.length l' → Grows l' → ¬ val r row < val r l' → parts ps r l' = false := by
    intro l' h1 h2 h3
    by_cases c : val r l' < val r row
    · exact hb l' h1 h2 c
    · rw [eqv l' h1 h3 c]; exact hp
  rcases h with ⟨i, i0, il, hc, hlast, rfl⟩ | ⟨rfl, hno⟩
  · rw [hr.1] at il hlast
    obtain ⟨g1, g2, g3⟩ := next_row hr hg il hc
    have v1 := val_lt g1.2
    rw [g1.1] at v1
    refine ⟨r ^ ps.length - val r (nextAt row i) + 1, by omega, .inl ⟨g1, g2, fun l' h1 h2 h3 => ?_, rfl⟩⟩
    refine le l' h1 h2 fun h4 => ?_
    have := next_least hr hg il hc hlast h1 h2 h4
    omega
  · rw [hr.1] at hno
    exact ⟨0, by omega, .inr ⟨rfl, fun l' h1 h2 => le l' h1 h2 (no_next hr hno h1 h2), rfl⟩⟩
theorem ok_firstp {f : Addr} {fd : FuncData} (F : Fun K "first_parting" "first_parting" sFirstP f fd) (hA : Has P w K mg base "arounds_of" 5 ["points"] (spArounds K)) (hF : Has P w K mg base "is_fit" 3 ["row", "parts", "arounds"] (spFit K)) (hB : Has P w K mg base "row_behind" 1 ["row", "parts"] (spBehind K))
    (hlen : mg "len" = none) (hmax : mg "max" = none) : FnOk P w K mg base CX0 6 f fd ["points", "parts"] (spFirstP K) := by
  refine F.ok scFP (fun vs H Q E h => ?_) (fun cdv A outr s H vs Q E hr h => ?_)
  · obtain ⟨a, ps, r, rfl, _⟩ := h
    rfl
  · obtain ⟨a, ps, r, rfl, hps, hl, hl1, hb, hr1, hr8, k⟩ := h
    have hm1 : Room 1 _ := hr.mono (by decide)
    have hm3 : Room 3 _ := hr.mono (by decide)
    refine ⟨_, pss_cons (ps_set (i := 2) scFP.nd rfl (Or.inl rfl) (pe_has hA hr rfl (pa_cons (pv 0) pa_nil)))
      (pss_cons (ps_set (i := 3) scFP.nd rfl (Or.inl rfl) (pe_op op_rep (pe_lst (pa_cons pe_int pa_nil)) (pe_callB call_len_seq (by rfl) hlen PySem.boot_len (pa_cons (pv 0) pa_nil))))
      (pss_cons (ps_while PassesOwn.never (pt_truth (pv 3) (fun _ => rfl))
        (pss_cons (ps_if (PW.pt (pw_and (pt_cmpR op_eq (pe_callB (cr_max rfl) (by rfl) hmax PyProof.Rows.boot_max (pa_cons (pv 3) pa_nil)) (pe_op op_sub (pv 1) pe_int) (nomark _))
            (pw_and1 (pt_val (pe_has hF hm3 rfl (pa_cons (pv 3) (pa_cons (pv 1) (pa_cons (pv 2) pa_nil))))))))
          (pss_one (ps_ret (pv 3))) pss_nil)
        (pss_one (ps_set (i := 3) scFP.nd rfl (Or.inl rfl) (pe_has hB hm1 rfl (pa_cons (pv 3) (pa_cons (pv 1) pa_nil)))))))
      (pss_one (ps_ret (pe_lst pa_nil))))), ?_⟩
    obtain ⟨ts, ht1, ht2⟩ := id hps
    have htl : ts.length = ps.length := Paired.length ht2
    refine ⟨_, rfl, a, ps, rfl, hps, hl, hb, fun H1 D L s1 hD T hL => ?_⟩
    have hAl : (aroundsOf ps L).length = L.length := by unfold aroundsOf; rw [List.length_map]
    refine ⟨(by show 1 ≤ sizeLine; decide), fun z hz => ?_⟩
    have sz : Same H1 (upd H1 z (.lst [V.int 0])) := Same.put hz
    have en : ((ts.map V.ref).length : Int) = (ps.length : Int) := by rw [List.length_map, htl]
    refine ⟨_, rfl, a, _, rfl, .inl ((s1.trans sz).seq ht1), z, (ps.length : Int), [V.int 0], rfl, congrArg V.int en, upd_same, by omega, by omega, by rw [Int.toNat_natCast, sizeLine_eq]; show 1 * ps.length ≤ _; omega, fun l0 hl0 => ?_⟩
    rw [Int.toNat_natCast, rep_zero]
    have s2 : Same H (upd (upd H1 z (.lst [V.int 0])) l0 (.lst ((List.replicate ps.length 0).map nv))) := s1.trans (sz.trans (Same.put hl0))
    have s12 : Same H1 (upd (upd H1 z (.lst [V.int 0])) l0 (.lst ((List.replicate ps.length 0).map nv))) := sz.trans (Same.put hl0)
    refine ⟨fun m σ H' => ∃ (l : Addr) (row : List Nat), σ = [some (.ref a), some (nv r), some (.ref D), some (.ref l)] ∧ Same H1 H' ∧ H l = none ∧ H' l = some (.lst (row.map nv)) ∧ Search ps r row m,
      ⟨r ^ ps.length - val r (List.replicate ps.length 0) + 1, l0, List.replicate ps.length 0, rfl, s12, (s1.trans sz).free hl0, upd_same, .inl ⟨⟨List.length_replicate, fun d hd => by rw [List.eq_of_mem_replicate hd]; omega⟩, zeros_grow _, fun l' _ _ h => by rw [zeros_val] at h; omega, rfl⟩⟩, ?_⟩
    rintro m σ H2 ⟨l, row, rfl, s3, hl0', hl2, hS⟩
    rcases hS with ⟨hR, hG, hno, rfl⟩ | ⟨rfl, hno, rfl⟩
    · have hne : row ≠ [] := fun e => by rw [e] at hR; have := hR.1; simp at this; omega
      refine ⟨_, rfl, true, .inl ⟨_, SqL.of hl2, ?_⟩, iteT ⟨_, fun σ' H' h => h, ?_⟩⟩
      · cases row with
        | nil => exact absurd rfl hne
        | cons d row => rfl
      have hrow3 : SqL K H2 l ((row.map fun m : Nat => (m : Int)).map V.int) := by
        rw [← nv_int]
        exact SqL.of hl2
      refine ⟨_, rfl, l, row.map fun m : Nat => (m : Int), rfl, hrow3, ?_, fun mx hmx hle => ?_⟩
      · rw [List.length_map, hR.1]; exact hl1
      obtain ⟨m0, hm0, rfl⟩ := List.mem_map.mp hmx
      have hle' : ∀ y ∈ row, y ≤ m0 := fun y hy => by
        have := hle (y : Int) (List.mem_map.mpr ⟨y, hy, rfl⟩)
        omega
      have hm0r := hR.2 m0 hm0
      -- the test is whether it parts
      have test : parts ps r row = (decide (m0 = r - 1) && shares ((labs r row.length row).map fun s => reachOf s (aroundsOf ps L))) := by
        unfold parts
        have e1 : shares ((labs r row.length row).map fun s => reachOf s (aroundsOf ps L)) = Rc70.meetOf ps ((List.range r).map (Rc70.labelled ps.length row)) := by
          rw [hR.1]
          refine shares_meet T ?_
          intro z
          have := congrArg List.length z
          unfold labs at this
          rw [List.length_map, List.length_range] at this
          simp at this
          omega
        rw [e1]
        congr 1
        rw [Bool.eq_iff_iff, all_there hG hR.2 hr1, decide_eq_true_iff]
        constructor
        · intro h
          have := hle' _ h
          omega
        · intro h
          rw [← h]
          exact hm0
      have step : parts ps r row = false → ∀ H3, Same H2 H3 → ∃ x, ([some (V.ref a), some (nv r), some (V.ref D), some (V.ref l)] : L2.St)[3]? = some (some x) ∧ ∃ y, ([some (V.ref a), some (nv r), some (V.ref D), some (V.ref l)] : L2.St)[1]? = some (some y) ∧ spBehind K [x, y] H3 (fun v H4 => ∃ m', m' < r ^ ps.length - val r row + 1 ∧ ∃ (l' : Addr) (row' : List Nat), ([some (V.ref a), some (nv r), some (V.ref D), some (V.ref l)] : L2.St).set 3 (some v) = [some (.ref a), some (nv r), some (.ref D), some (.ref l')] ∧ Same H1 H4 ∧ H l' = none ∧ H4 l' = some (.lst (row'.map nv)) ∧ Search ps r row' m') (fun _ _ _ => True) := by
        intro hp H3 s4
        refine ⟨_, rfl, _, rfl, l, row, r, rfl, s4 _ _ hl2, by rw [hR.1]; omega, by rw [hR.1]; omega, hr1, fun H4 l4 res s5 hl4 hl5 hB => ?_⟩
        obtain ⟨m', hm', hS'⟩ := search_next hl1 hR hG hno hp hB
        exact ⟨m', hm', l4, res, rfl, s3.trans (s4.trans s5), (s1.trans (s3.trans s4)).free hl4, hl5, hS'⟩
      refine ⟨_, rfl, _, _, rfl, rfl, rfl, _, rfl, ?_⟩
      show if decide (V.int (m0 : Int) = V.int ((r : Int) - 1)) = true then _ else _
      have e2 : decide (V.int (m0 : Int) = V.int ((r : Int) - 1)) = decide (m0 = r - 1) := by
        rw [dec_V, Bool.eq_iff_iff, decide_eq_true_iff, decide_eq_true_iff]
        omega
      rw [e2]
      by_cases c1 : m0 = r - 1
      · rw [decide_eq_true c1] at test ⊢
        rw [Bool.true_and] at test
        refine iteT ⟨_, rfl, _, rfl, _, rfl, l, D, row, r, aroundsOf ps L, rfl, SqL.of hl2, by rw [hR.1]; omega, hr1, by omega, hR.2, hD.same s3, arounds_small hl, by rw [hAl]; exact hL, fun H3 s4 => ⟨_, rfl, ?_⟩⟩
        cases c2 : shares ((labs r row.length row).map fun s => reachOf s (aroundsOf ps L))
        · rw [c2] at test
          refine iteF ?_
          obtain ⟨x, hx, y, hy, hsp⟩ := step test H3 s4
          cases hx
          cases hy
          obtain ⟨a', row', r', e0, q1, q2, q3, q4, q5⟩ := hsp
          exact ⟨_, rfl, _, rfl, a', row', r', e0, q1, q2, q3, q4, q5⟩
        · rw [c2] at test
          refine iteT ⟨_, rfl, k H3 l (s1.trans (s3.trans s4)) hl0' ?_⟩
          rw [parted_some hR test hno]
          exact s4 _ _ hl2
      · rw [decide_eq_false c1] at test ⊢
        rw [Bool.false_and] at test
        refine iteF (iteF ?_)
        obtain ⟨x, hx, y, hy, hsp⟩ := step test H2 (Same.refl _)
        cases hx
        cases hy
        obtain ⟨a', row', r', e0, q1, q2, q3, q4, q5⟩ := hsp
        exact ⟨_, rfl, _, rfl, a', row', r', e0, q1, q2, q3, q4, q5⟩
    · refine ⟨_, rfl, false, .inl ⟨_, SqL.of hl2, rfl⟩, iteF ⟨Nat.zero_le _, fun q hq => ?_⟩⟩
      refine k _ q ((s1.trans s3).trans (Same.put hq)) ((s1.trans s3).free hq) ?_
      rw [parted_none hno]
      exact upd_same
end
end HQ

end
section
namespace HQ
open PySem PySem.Spec PyProof.Rows L2 HP
abbrev sHalve : Stmt := top 17
abbrev sIsLine : Stmt := top 59
abbrev sHasSets : Stmt := inClass cHeap 10
abbrev sPointsOf : Stmt := inClass cHeap 11
section
variable {P : Program} {w : World} {K : PySem.W.Frag} {mg : Str → Option Value} {base : Heap} {C : Addr}
def nAbove (u v c : Int) (l : List Ar) : Nat := (l.filter fun p => decide (c < u * p.1 + v * p.2)).length
def nBelow (u v c : Int) (l : List Ar) : Nat := (l.filter fun p => decide (u * p.1 + v * p.2 < c)).length
def halvesB (u v c : Int) (l : List Ar) : Bool := decide (2 * max (nAbove u v c l) (nBelow u v c l) ≤ l.length)
def LnB (u v : Int) : Prop := (-1000000000000 ≤ u ∧ u ≤ 1000000000000) ∧ (-1000000000000 ≤ v ∧ v ≤ 1000000000000)
def spHalve (K : PySem.W.Frag) : Sp := fun vs H Q _ => ∃ (a b : Addr) (u v c : Int) (us : List Ar), vs = [.ref a, .ref b] ∧ SqL K H a [.int u, .int v, .int c] ∧ LnB u v ∧ Prs K H b us ∧ Q (.bl (halvesB u v c us)) H
theorem scHv : FnScope ["line", "points", "above", "below", "point", "side"] ["line", "points"] (defScope sHalve) := ⟨rfl, rfl, rfl, by decide +kernel, rfl, by decide +kernel, by decide +kernel⟩
theorem max_int (i j : Nat) : (if (i : Int) < j then (j : Int) else i) = ((max i j : Nat) : Int) := by
  split <;> omega
theorem ok_halve {f : Addr} {fd : FuncData} (F : Fun K "does_halve" "does_halve" sHalve f fd) (hmax : mg "max" = none) (hlen : mg "len" = none) : FnOk P w K mg base CX0 1 f fd ["line", "points"] (spHalve K) := by
  refine F.ok scHv (fun vs H Q E h => ?_) (fun cdv A outr s H vs Q E hr h => ?_)
  · obtain ⟨a, b, u, v, c, us, rfl, _⟩ := h
    rfl
  · obtain ⟨a, b, u, v, c, us, rfl, ha, hln, ⟨ts, h1, h2⟩, k⟩ := h
    obtain ⟨hu, hv⟩ := hln
    refine ⟨_, pss_cons (ps_set (i := 2) scHv.nd rfl (Or.inl rfl) pe_int) (pss_cons (ps_set (i := 3) scHv.nd rfl (Or.inl rfl) pe_int)
      (pss_cons (ps_for PassesOwn.never rfl (pi_list (pv 1)) (pg_name (i := 4) scHv.nd rfl (Or.inl rfl))
        (pss_cons (ps_set (i := 5) scHv.nd rfl (Or.inl rfl) (pe_op op_sub (pe_op op_add (pe_op op_mul (pe_ix ix_list (pv 0) pe_int (fun _ _ => rfl)) (pe_fst (K := K) rfl (pv 4))) (pe_op op_mul (pe_ix ix_list (pv 0) pe_int (fun _ _ => rfl)) (pe_snd (K := K) rfl (pv 4)))) (pe_ix ix_list (pv 0) pe_int (fun _ _ => rfl))))
        (pss_one (ps_if (pt_cmpR op_gt (pv 5) pe_int (nomark _)) (pss_one (ps_aug (i := 2) scHv.nd rfl (Or.inl rfl) pe_int ip_add))
          (pss_one (ps_if (pt_cmpR op_lt (pv 5) pe_int (nomark _)) (pss_one (ps_aug (i := 3) scHv.nd rfl (Or.inl rfl) pe_int ip_add)) pss_nil))))))
      (pss_one (ps_ret (pe_cmpR op_le (pe_op op_mul pe_int (pe_callB (call_max2 rfl) (by rfl) hmax PyProof.Rows.boot_max (pa_cons (pv 2) (pa_cons (pv 3) pa_nil)))) (pe_callB call_len_seq (by rfl) hlen PySem.boot_len (pa_cons (pv 1) pa_nil)) (nomark _)))))), ?_⟩
    refine ⟨_, rfl, b, rfl, ⟨_, h1⟩, for_list (K := K) (a := b) (xs := ts.map V.ref) (fun i σ H' => H' = H ∧ ∃ v4 v5 : Option V, σ = [some (.ref a), some (.ref b), some (.int (nAbove u v c (us.take i) : Nat)), some (.int (nBelow u v c (us.take i) : Nat)), v4, v5])
      ⟨rfl, none, none, rfl⟩ (fun i σ H' _ ⟨e, _⟩ => e ▸ h1) ?_ ?_⟩
    · rintro i z σ H' hz ⟨rfl, v4, v5, rfl⟩
      obtain ⟨t, ht, rfl⟩ := map_at hz
      obtain ⟨p, hp, hpr⟩ := Paired.at h2 ht
      rw [take_snoc hp]
      have n1 : nAbove u v c (us.take i ++ [p]) = nAbove u v c (us.take i) + if decide (c < u * p.1 + v * p.2) = true then 1 else 0 := filter_snoc _ _ _
      have n2 : nBelow u v c (us.take i ++ [p]) = nBelow u v c (us.take i) + if decide (u * p.1 + v * p.2 < c) = true then 1 else 0 := filter_snoc _ _ _
      refine ⟨_, rfl, a, _, _, _, rfl, rfl, ha, rfl, _, rfl, t, p, rfl, hpr, _, _, rfl, rfl, .inl ⟨by omega, by omega⟩, _, rfl, a, _, _, _, rfl, rfl, ha, rfl, _, rfl, t, p, rfl, hpr, _, _, rfl, rfl, .inl ⟨by omega, by omega⟩, _, _, rfl, rfl, _, rfl, a, _, _, _, rfl, rfl, ha, rfl, _, _, rfl, rfl, ?_⟩
      refine ⟨_, rfl, _, _, rfl, rfl, _, rfl, ?_⟩
      refine ite2 (fun c1 => ?_) (fun c1 => ?_)
      · have c1 : 0 < u * p.1 + v * p.2 - c := of_decide_eq_true c1
        refine ⟨_, rfl, _, _, rfl, rfl, rfl, some (.ref t), some (.int (u * p.1 + v * p.2 - c)), ?_⟩
        rw [n1, n2, if_pos (decide_eq_true (by omega)), if_neg (by simp; omega)]
        rfl
      · have c1 : ¬ 0 < u * p.1 + v * p.2 - c := fun q => c1 (decide_eq_true q)
        refine ⟨_, rfl, _, _, rfl, rfl, _, rfl, ?_⟩
        refine ite2 (fun c2 => ?_) (fun c2 => ?_)
        · have c2 : u * p.1 + v * p.2 - c < 0 := of_decide_eq_true c2
          refine ⟨_, rfl, _, _, rfl, rfl, rfl, some (.ref t), some (.int (u * p.1 + v * p.2 - c)), ?_⟩
          rw [n1, n2, if_neg (by simp; omega), if_pos (decide_eq_true (by omega))]
          rfl
        · have c2 : ¬ u * p.1 + v * p.2 - c < 0 := fun q => c2 (decide_eq_true q)
          refine ⟨rfl, some (.ref t), some (.int (u * p.1 + v * p.2 - c)), ?_⟩
          rw [n1, n2, if_neg (by simp; omega), if_neg (by simp; omega)]
          rfl
    · rintro σ H' ⟨rfl, v4, v5, rfl⟩
      rw [List.length_map, Paired.length h2, List.take_length]
      refine ⟨_, rfl, _, rfl, _, _, rfl, _, _, rfl, rfl, .inl ⟨by decide, by decide⟩, _, rfl, b, _, rfl, .inl h1, _, _, rfl, rfl, ?_⟩
      have e : decide ((2 : Int) * (if ((nAbove u v c us : Nat) : Int) < (nBelow u v c us : Nat) then ((nBelow u v c us : Nat) : Int) else (nAbove u v c us : Nat)) ≤ ((ts.map V.ref).length : Int)) = halvesB u v c us := by
        rw [max_int, List.length_map, Paired.length h2]
        unfold halvesB
        rw [Bool.eq_iff_iff, decide_eq_true_iff, decide_eq_true_iff]
        omega
      rw [← e] at k
      exact k
def isLine (u v : Int) : Bool := !decide (u = 0) || !decide (v = 0)
def spIsLine (K : PySem.W.Frag) : Sp := fun vs H Q _ => ∃ (a : Addr) (u v c : Int), vs = [.ref a] ∧ SqL K H a [.int u, .int v, .int c] ∧ Q (.bl (isLine u v)) H
theorem scIL : FnScope ["line"] ["line"] (defScope sIsLine) := ⟨rfl, rfl, rfl, by decide +kernel, rfl, by decide +kernel, by decide +kernel⟩
theorem ok_isline {f : Addr} {fd : FuncData} (F : Fun K "is_line" "is_line" sIsLine f fd) : FnOk P w K mg base CX0 1 f fd ["line"] (spIsLine K) := by
  refine F.ok scIL (fun vs H Q E h => ?_) (fun cdv A outr s H vs Q E hr h => ?_)
  · obtain ⟨a, u, v, c, rfl, _⟩ := h
    rfl
  · obtain ⟨a, u, v, c, rfl, ha, k⟩ := h
    refine ⟨_, pss_one (ps_ret (pe_or (pe_cmpR op_ne (pe_ix ix_list (pv 0) pe_int (fun _ _ => rfl)) pe_int (nomark _)) (pe_one (pe_cmpR op_ne (pe_ix ix_list (pv 0) pe_int (fun _ _ => rfl)) pe_int (nomark _))))), ?_⟩
    refine ⟨_, rfl, a, _, _, _, rfl, rfl, ha, rfl, rfl, _, rfl, ?_⟩
    have k : Q (.bl (!decide (u = 0) || !decide (v = 0))) H := k
    show if (!decide (V.int u = V.int 0)) = true then _ else _
    rw [dec_V]
    by_cases h : u = 0
    · rw [decide_eq_true h] at k ⊢
      refine iteF ⟨_, rfl, a, _, _, _, rfl, rfl, ha, rfl, rfl, ?_⟩
      show Q (.bl (!decide (V.int v = V.int 0))) H
      rw [dec_V]
      exact k
    · rw [decide_eq_false h] at k ⊢
      exact iteT k
def spHasSets (K : PySem.W.Frag) (C : Addr) : Sp := fun vs H Q _ => ∃ (h b : Addr) (ss : List Nat) (ps : List Ar), vs = [.ref h, .ref b] ∧ HpAt K C H h ps ∧ Ns K H b ss ∧ ss.length ≤ 1000 ∧ ∀ H', Same H H' → Q (.bl (ss.all (Rc70.isSet ps))) H'
theorem scHSs : FnScope ["self", "sets", "chosen"] ["self", "sets"] (defScope sHasSets) := ⟨rfl, rfl, rfl, by decide +kernel, rfl, by decide +kernel, by decide +kernel⟩
theorem bkHSs : BlkOk ["self", "sets", "chosen"] (defScope sHasSets) { kind := ScopeKind.function, names := [(".0", .local), ("chosen", .local), ("self", .free)], isGenerator := false, isCoroutine := false } [("chosen", 2)] := blkOk_by (by decide +kernel)
theorem ok_hassets {f : Addr} {fd : FuncData} (F : Fun K "has_sets" "Heap.has_sets" sHasSets f fd) (T : HTxt K C) (hS : HasM P w K mg base C "has_set" 1 ["self", "chosen"] (spHasSet K C)) (hall : mg "all" = none) : FnOk P w K mg base CX0 2 f fd ["self", "sets"] (spHasSets K C) := by
  refine F.ok scHSs (fun vs H Q E h => ?_) (fun cdv A outr s H vs Q E hr h => ?_)
  · obtain ⟨h, b, ss, ps, rfl, _⟩ := h
    rfl
  · obtain ⟨h, b, ss, ps, rfl, hH, hss, hl, k⟩ := h
    obtain ⟨dx, a, h1, h2⟩ := id hH
    refine ⟨_, pss_one (ps_ret (pe_callB (cr_all rfl) (by rfl) hall PyProof.Rows.boot_all (pa_cons (pe_lc (own := [("chosen", 2)]) rfl scHSs.nd (pi_list (pv 1)) bkHSs (fun s H C cl fp => pg_name (i := 2) scHSs.nd rfl (Or.inl rfl)) (fun s H C cl fp => pts_nil)
      (fun s H C2 cl fp => pe_hasm hS T.cl hr (pv 0) (pa_cons (pv 2) pa_nil))) pa_nil))), ?_⟩
    refine ⟨_, rfl, b, rfl, ⟨_, hss⟩, fun D hD => ?_⟩
    refine lc_list (K := K) (a := b) (xs := ss.map nv) (fun i H' => H' D = some (.lst (((ss.take i).map (Rc70.isSet ps)).map V.bl)) ∧ Same H H') ?_ ?_ ?_ ?_
    · exact ⟨upd_same, Same.put hD⟩
    · rintro i H' hi ⟨_, e⟩
      exact e.seq hss
    · rintro i z H' hz ⟨e1, e3⟩
      obtain ⟨m, hm, rfl⟩ := map_at hz
      refine ⟨rfl, ?_⟩
      unfold tYes
      refine iteT ⟨_, rfl, h, dx, _, rfl, e3 _ _ h1, hf_no _ (by decide +kernel), _, rfl, h, m, ps, rfl, hH.same e3, _, e1, ?_, ?_, Same.own hD e3⟩
      · rw [List.length_map, List.length_map, List.length_take, sizeLine_eq]
        omega
      · rw [upd_same, take_snoc hm, List.map_append, List.map_append]
        rfl
    · rintro H' ⟨e1, e3⟩
      rw [List.length_map, List.take_length] at e1
      refine ⟨D, _, rfl, SqL.of e1, ?_⟩
      have e : (ss.map (Rc70.isSet ps)).all id = ss.all (Rc70.isSet ps) := by
        rw [List.all_map]
        rfl
      rw [e]
      exact k H' e3
def spPointsOf (K : PySem.W.Frag) (C : Addr) : Sp := fun vs H Q _ => ∃ (h : Addr) (s : Nat) (ps : List Ar), vs = [.ref h, nv s] ∧ HpAt K C H h ps ∧ s < 2 ^ ps.length ∧ ps.length ≤ 1000 ∧ ∀ (H' : Hp) (l : Addr), Same H H' → Prs K H' l ((Rc70.members ps s).map (Rc70.at_ ps)) → Q (.ref l) H'
theorem scPO : FnScope ["self", "chosen", "number"] ["self", "chosen"] (defScope sPointsOf) := ⟨rfl, rfl, rfl, by decide +kernel, rfl, by decide +kernel, by decide +kernel⟩
theorem bkPO : BlkOk ["self", "chosen", "number"] (defScope sPointsOf) { kind := ScopeKind.function, names := [(".0", .local), ("number", .local), ("self", .free)], isGenerator := false, isCoroutine := false } [("number", 2)] := blkOk_by (by decide +kernel)
theorem ok_pointsof {f : Addr} {fd : FuncData} (F : Fun K "points_of" "Heap.points_of" sPointsOf f fd) (T : HTxt K C) (hM : Has P w K mg base "members_of" 1 ["chosen"] (spMembers K)) : FnOk P w K mg base CX0 2 f fd ["self", "chosen"] (spPointsOf K C) := by
  refine F.ok scPO (fun vs H Q E h => ?_) (fun cdv A outr s H vs Q E hr h => ?_)
  · obtain ⟨h, c, ps, rfl, _⟩ := h
    rfl
  · obtain ⟨h, c, ps, rfl, hH, hc, hl, k⟩ := h
    obtain ⟨dx, a, h1, ts, ht1, ht2⟩ := id hH
    have hts : ts.length = ps.length := Paired.length ht2
    refine ⟨_, pss_one (ps_ret (pe_lc (own := [("number", 2)]) rfl scPO.nd (pi_list (pe_has hM hr rfl (pa_cons (pv 1) pa_nil))) bkPO (fun s H C cl fp => pg_name (i := 2) scPO.nd rfl (Or.inl rfl)) (fun s H C cl fp => pts_nil)
      (te := tOp (rIxL K) (tFld K (tVar 0) "points") (tVar 2)) (fun s H C2 cl fp => pe_ix ix_list (pe_fld (pv 0) rfl) (pv 2) (fun _ _ => rfl)))), ?_⟩
    refine ⟨_, rfl, c, ps.length, rfl, hc, hl, fun H1 l1 s1 hn1 => ?_⟩
    have emem : (List.range ps.length).filter (fun i => c.testBit i) = Rc70.members ps c := rfl
    rw [emem] at hn1
    have hml : (Rc70.members ps c).length ≤ ps.length := by
      have : (Rc70.members ps c).length ≤ (List.range ps.length).length := List.length_filter_le _ _
      rw [List.length_range] at this
      exact this
    refine ⟨l1, rfl, ⟨_, hn1⟩, fun D hD => ?_⟩
    refine lc_list (K := K) (a := l1) (xs := (Rc70.members ps c).map nv) (fun i H' => Own (Pr K) H1 H' D (((Rc70.members ps c).take i).map (Rc70.at_ ps))) ?_ ?_ ?_ ?_
    · exact Own.start hD
    · rintro i H' hi O
      exact O.2.1.seq hn1
    · rintro i z H' hz O
      obtain ⟨m, hm, rfl⟩ := map_at hz
      have hmp : m < ps.length := (mem_mem.mp (List.mem_of_getElem? hm)).1
      obtain ⟨p, hp, hpr⟩ := Paired.at ht2 (List.getElem?_eq_getElem (show m < ts.length by omega))
      have ep : Rc70.at_ ps m = p := by unfold Rc70.at_; rw [List.getD_eq_getElem?_getD, hp]; rfl
      have s2 := s1.trans O.2.1
      refine ⟨rfl, ?_⟩
      unfold tYes
      obtain ⟨acc, ha, hal, hgo⟩ := O.grow (stb_pr D)
      refine iteT ⟨_, rfl, h, C, dx, _, _, rfl, s2 _ _ h1, T.cl, T.nP, hf_pts _, _, rfl, a, _, _, _, rfl, rfl, s2.seq ht1, at_of rfl (by rw [List.getElem?_map, List.getElem?_eq_getElem (show m < ts.length by omega)]; rfl), acc, ha, ?_, ?_⟩
      · rw [hal, List.length_map, List.length_take, sizeLine_eq]
        omega
      · rw [take_snoc hm, List.map_append, List.map_singleton, ep]
        exact hgo _ p (hpr.same s2)
    · intro H' O
      rw [List.length_map, List.take_length] at O
      obtain ⟨ls, e1, e2⟩ := O.done
      exact k H' D (s1.trans O.2.1) ⟨ls, SqL.of e1, e2⟩
end
end HQ

end
section
namespace HQ
open PySem PySem.Spec PyProof.Rows L2 HP
abbrev sHDeep : Stmt := inClass cHeap 5
abbrev sHPart : Stmt := inClass cHeap 6
abbrev sHMeet : Stmt := inClass cHeap 7
abbrev sHHalve : Stmt := inClass cHeap 8
section
variable {P : Program} {w : World} {K : PySem.W.Frag} {mg : Str → Option Value} {base : Heap} {C : Addr}
theorem PsOk.bd {ps : List Ar} (h : PsOk ps) : ∀ p ∈ ps, Bd p := h.2
def spHDeep (K : PySem.W.Frag) (C : Addr) : Sp := fun vs H Q _ => ∃ (h : Addr) (ps : List Ar), vs = [.ref h] ∧ HpAt K C H h ps ∧ PsOk ps ∧ ps.length ≤ 8 ∧ ∀ (H' : Hp) (l : Addr), Same H H' → H l = none → H' l = some (.lst ((deepAns ps).map V.int)) → Q (.ref l) H'
theorem scHDp : FnScope ["self"] ["self"] (defScope sHDeep) := ⟨rfl, rfl, rfl, by decide +kernel, rfl, by decide +kernel, by decide +kernel⟩
theorem ok_hdeep {f : Addr} {fd : FuncData} (F : Fun K "deepest" "Heap.deepest" sHDeep f fd) (T : HTxt K C) (hD : Has P w K mg base "deepest_among" 5 ["points"] (spDeep K)) (hN : Const mg "NO_POINTS" (-4)) : FnOk P w K mg base CX0 6 f fd ["self"] (spHDeep K C) := by
  refine F.ok scHDp (fun vs H Q E h => ?_) (fun cdv A outr s H vs Q E hr h => ?_)
  · obtain ⟨h, ps, rfl, _⟩ := h
    rfl
  · obtain ⟨h, ps, rfl, hH, hok, hl, k⟩ := h
    obtain ⟨dx, a, h1, h2⟩ := id hH
    obtain ⟨ts, ht1, ht2⟩ := id h2
    refine ⟨_, pss_cons (ps_if (pt_not (pt_truth (pe_fld (pv 0) rfl) (fun _ => rfl))) (pss_one (ps_ret (pe_lst (pa_cons (pe_const rfl hN) pa_nil)))) pss_nil)
      (pss_one (ps_ret (pe_lst (pa_cons (pe_has hD hr rfl (pa_cons (pe_fld (pv 0) rfl) pa_nil)) pa_nil)))), ?_⟩
    have hE := empty_iff (Paired.length ht2)
    unfold deepAns at k
    by_cases hps : ps = []
    · rw [if_pos hps] at k
      exact ⟨_, rfl, h, C, dx, _, _, rfl, h1, T.cl, T.nP, hf_pts _, false, .inl ⟨_, ht1, by rw [hE, decide_eq_true hps]; rfl⟩, iteT ⟨(by show 1 ≤ sizeLine; decide), fun l hl => k _ l (Same.put hl) hl upd_same⟩⟩
    rw [if_neg hps] at k
    refine ⟨_, rfl, h, C, dx, _, _, rfl, h1, T.cl, T.nP, hf_pts _, true, .inl ⟨_, ht1, by rw [hE, decide_eq_false hps]; rfl⟩, ?_⟩
    refine iteF ⟨_, rfl, h, C, dx, _, _, rfl, h1, T.cl, T.nP, hf_pts _, a, ps, rfl, h2, hl, hps, hok.bd, fun H1 s1 => ⟨(by show 1 ≤ sizeLine; decide), fun l hl1 => ?_⟩⟩
    exact k _ l (s1.trans (Same.put hl1)) (s1.free hl1) upd_same
theorem int_map (l : List Nat) : (l.map fun (x : Nat) => (x : Int)).map V.int = l.map nv := by
  rw [List.map_map]
  rfl
theorem parted_ne {ps : List Ar} {r : Nat} {l : List Nat} (h : Rc70.partedOf ps r = some l) : l.length = ps.length := (mem_labels.mp (List.mem_of_find?_eq_some h)).1
def spHPart (K : PySem.W.Frag) (C : Addr) : Sp := fun vs H Q _ => ∃ (h : Addr) (ps : List Ar) (r : Int), vs = [.ref h, .int r] ∧ HpAt K C H h ps ∧ PsOk ps ∧ ps.length ≤ 8 ∧ ∀ (H' : Hp) (l : Addr), Same H H' → H l = none → H' l = some (.lst ((partAns ps r).map V.int)) → Q (.ref l) H'
theorem scHPt : FnScope ["self", "parts", "row"] ["self", "parts"] (defScope sHPart) := ⟨rfl, rfl, rfl, by decide +kernel, rfl, by decide +kernel, by decide +kernel⟩
theorem ok_hpart {f : Addr} {fd : FuncData} (F : Fun K "parted" "Heap.parted" sHPart f fd) (T : HTxt K C) (hF : Has P w K mg base "first_parting" 6 ["points", "parts"] (spFirstP K)) (hN : Const mg "NO_POINTS" (-4)) (hW : Const mg "WRONG" (-1)) (hlen : mg "len" = none) : FnOk P w K mg base CX0 7 f fd ["self", "parts"] (spHPart K C) := by
  refine F.ok scHPt (fun vs H Q E h => ?_) (fun cdv A outr s H vs Q E hr h => ?_)
  · obtain ⟨h, ps, r, rfl, _⟩ := h
    rfl
  · obtain ⟨h, ps, r, rfl, hH, hok, hl, k⟩ := h
    obtain ⟨dx, a, h1, h2⟩ := id hH
    obtain ⟨ts, ht1, ht2⟩ := id h2
    have hts : ts.length = ps.length := Paired.length ht2
    refine ⟨_, pss_cons (ps_if (pt_not (pt_truth (pe_fld (pv 0) rfl) (fun _ => rfl))) (pss_one (ps_ret (pe_lst (pa_cons (pe_const rfl hN) pa_nil)))) pss_nil)
      (pss_cons (ps_if (pt_not (pt_chain op_le op_le pe_int (pv 1) (pe_callB call_len_seq (by rfl) hlen PySem.boot_len (pa_cons (pe_fld (pv 0) rfl) pa_nil)))) (pss_one (ps_ret (pe_lst (pa_cons (pe_const rfl hW) pa_nil)))) pss_nil)
      (pss_cons (ps_set (i := 2) scHPt.nd rfl (Or.inl rfl) (pe_has hF hr rfl (pa_cons (pe_fld (pv 0) rfl) (pa_cons (pv 1) pa_nil))))
      (pss_cons (ps_if (pt_not (pt_truth (pv 2) (fun _ => rfl))) (pss_one (ps_ret (pe_lst (pa_cons pe_int pa_nil)))) pss_nil)
      (pss_one (ps_ret (pe_op op_cat (pe_lst (pa_cons pe_int pa_nil)) (pv 2))))))), ?_⟩
    have hE := empty_iff hts
    unfold partAns at k
    by_cases hps : ps = []
    · rw [if_pos hps] at k
      exact ⟨_, rfl, h, C, dx, _, _, rfl, h1, T.cl, T.nP, hf_pts _, false, .inl ⟨_, ht1, by rw [hE, decide_eq_true hps]; rfl⟩, iteT ⟨(by show 1 ≤ sizeLine; decide), fun l hl => k _ l (Same.put hl) hl upd_same⟩⟩
    rw [if_neg hps] at k
    have hpl : 1 ≤ ps.length := List.length_pos_iff.mpr hps
    refine ⟨_, rfl, h, C, dx, _, _, rfl, h1, T.cl, T.nP, hf_pts _, true, .inl ⟨_, ht1, by rw [hE, decide_eq_false hps]; rfl⟩, ?_⟩
    refine iteF ⟨_, rfl, _, _, rfl, rfl, _, rfl, ?_⟩
    by_cases c1 : 1 ≤ r
    · rw [decide_eq_true c1]
      refine iteT ⟨_, rfl, h, C, dx, _, _, rfl, h1, T.cl, T.nP, hf_pts _, a, _, rfl, .inl ht1, _, _, rfl, rfl, _, rfl, ?_⟩
      show if (!decide (r ≤ ((ts.map V.ref).length : Int))) = true then _ else _
      rw [List.length_map, hts]
      by_cases c2 : r ≤ (ps.length : Int)
      · rw [decide_eq_true c2]
        rw [if_neg (by omega)] at k
        obtain ⟨n, rfl⟩ : ∃ n : Nat, r = (n : Int) := ⟨r.toNat, by omega⟩
        rw [Int.toNat_natCast] at k
        refine iteF ⟨_, rfl, h, C, dx, _, _, rfl, h1, T.cl, T.nP, hf_pts _, _, rfl, a, ps, n, rfl, h2, hl, hpl, hok.bd, by omega, by omega, fun H1 l1 s1 hl1 hll => ?_⟩
        cases hp : Rc70.partedOf ps n with
        | none =>
          rw [hp] at hll k
          refine ⟨_, rfl, false, .inl ⟨_, SqL.of hll, rfl⟩, iteT ⟨(by show 1 ≤ sizeLine; decide), fun l hl2 => ?_⟩⟩
          exact k _ l (s1.trans (Same.put hl2)) (s1.free hl2) upd_same
        | some row =>
          rw [hp] at hll k
          have hrl := parted_ne hp
          have hll : H1 l1 = some (.lst (row.map nv)) := hll
          refine ⟨_, rfl, true, .inl ⟨_, SqL.of hll, ?_⟩, iteF ⟨(by show 1 ≤ sizeLine; decide), fun z hz => ?_⟩⟩
          · cases row with
            | nil => simp at hrl; omega
            | cons d row => rfl
          · have sz : Same H1 (upd H1 z (.lst [V.int 1])) := Same.put hz
            refine ⟨_, rfl, z, l1, _, _, rfl, rfl, upd_same, sz _ _ hll, ?_, fun l hl2 => ?_⟩
            · rw [List.length_map, sizeLine_eq]
              show 1 + _ ≤ _
              omega
            · refine k _ l (s1.trans (sz.trans (Same.put hl2))) ((s1.trans sz).free hl2) ?_
              rw [upd_same]
              show _ = some (HO.lst (V.int 1 :: (row.map fun (x : Nat) => (x : Int)).map V.int))
              rw [int_map]
              rfl
      · rw [decide_eq_false c2]
        rw [if_pos (by omega)] at k
        exact iteT ⟨(by show 1 ≤ sizeLine; decide), fun l hl => k _ l (Same.put hl) hl upd_same⟩
    · rw [decide_eq_false c1]
      rw [if_pos (by omega)] at k
      exact iteF ⟨_, rfl, iteT ⟨(by show 1 ≤ sizeLine; decide), fun l hl => k _ l (Same.put hl) hl upd_same⟩⟩
theorem apart_ne {ps : List Ar} {ss t : List Nat} (h : Rc70.apartOf ps ss = some t) : t ≠ [] ∧ t.length = 3 := by
  unfold Rc70.apartOf at h
  obtain ⟨i, _, h⟩ := List.exists_of_findSome?_eq_some h
  obtain ⟨j, _, h⟩ := List.exists_of_findSome?_eq_some h
  split at h
  · cases h
  · obtain ⟨k, _, h⟩ := List.exists_of_findSome?_eq_some h
    split at h
    · cases h
    · split at h
      · cases h
      · cases h
        exact ⟨List.cons_ne_nil _ _, rfl⟩
def spHMeet (K : PySem.W.Frag) (C : Addr) : Sp := fun vs H Q _ => ∃ (h b : Addr) (ps : List Ar) (ss : List Nat), vs = [.ref h, .ref b] ∧ HpAt K C H h ps ∧ PsOk ps ∧ ps.length ≤ 8 ∧ Ns K H b ss ∧ ss.length ≤ 100 ∧
  ∀ (H' : Hp) (l : Addr), Same H H' → H l = none → H' l = some (.lst ((meetAns ps ss).map V.int)) → Q (.ref l) H'
theorem scHMt : FnScope ["self", "sets", "apart"] ["self", "sets"] (defScope sHMeet) := ⟨rfl, rfl, rfl, by decide +kernel, rfl, by decide +kernel, by decide +kernel⟩
theorem ok_hmeet {f : Addr} {fd : FuncData} (F : Fun K "meet" "Heap.meet" sHMeet f fd) (T : HTxt K C) (hS : HasM P w K mg base C "has_sets" 2 ["self", "sets"] (spHasSets K C)) (hF : Has P w K mg base "first_apart" 6 ["points", "sets"] (spApart K)) (hN : Const mg "NO_POINTS" (-4)) (hW : Const mg "WRONG" (-1)) (hM : Const mg "MOST_SETS" 16) (hlen : mg "len" = none) :
    FnOk P w K mg base CX0 7 f fd ["self", "sets"] (spHMeet K C) := by
  refine F.ok scHMt (fun vs H Q E h => ?_) (fun cdv A outr s H vs Q E hr h => ?_)
  · obtain ⟨h, b, ps, ss, rfl, _⟩ := h
    rfl
  · obtain ⟨h, b, ps, ss, rfl, hH, hok, hl, hss, hsl, k⟩ := h
    obtain ⟨dx, a, h1, h2⟩ := id hH
    obtain ⟨ts, ht1, ht2⟩ := id h2
    have hr2 : Room 2 _ := hr.mono (by decide)
    refine ⟨_, pss_cons (ps_if (pt_not (pt_truth (pe_fld (pv 0) rfl) (fun _ => rfl))) (pss_one (ps_ret (pe_lst (pa_cons (pe_const rfl hN) pa_nil)))) pss_nil)
      (pss_cons (ps_if (PW.pt (pw_or (pt_not (pt_chain op_le op_le pe_int (pe_callB call_len_seq (by rfl) hlen PySem.boot_len (pa_cons (pv 1) pa_nil)) (pe_const rfl hM))) (pw_or1 (pt_not (pt_val (pe_hasm hS T.cl hr2 (pv 0) (pa_cons (pv 1) pa_nil))))))) (pss_one (ps_ret (pe_lst (pa_cons (pe_const rfl hW) pa_nil)))) pss_nil)
      (pss_cons (ps_set (i := 2) scHMt.nd rfl (Or.inl rfl) (pe_has hF hr rfl (pa_cons (pe_fld (pv 0) rfl) (pa_cons (pv 1) pa_nil))))
      (pss_cons (ps_if (pt_not (pt_truth (pv 2) (fun _ => rfl))) (pss_one (ps_ret (pe_lst (pa_cons pe_int pa_nil)))) pss_nil)
      (pss_one (ps_ret (pe_op op_cat (pe_lst (pa_cons pe_int pa_nil)) (pv 2))))))), ?_⟩
    have hE := empty_iff (Paired.length ht2)
    unfold meetAns at k
    by_cases hps : ps = []
    · rw [if_pos hps] at k
      exact ⟨_, rfl, h, C, dx, _, _, rfl, h1, T.cl, T.nP, hf_pts _, false, .inl ⟨_, ht1, by rw [hE, decide_eq_true hps]; rfl⟩, iteT ⟨(by show 1 ≤ sizeLine; decide), fun l hl => k _ l (Same.put hl) hl upd_same⟩⟩
    rw [if_neg hps] at k
    have hn : ((ss.map nv).length : Int) = (ss.length : Int) := by rw [List.length_map]
    refine ⟨_, rfl, h, C, dx, _, _, rfl, h1, T.cl, T.nP, hf_pts _, true, .inl ⟨_, ht1, by rw [hE, decide_eq_false hps]; rfl⟩, ?_⟩
    refine iteF ⟨_, rfl, b, _, rfl, .inl hss, _, _, rfl, rfl, _, rfl, ?_⟩
    rw [hn]
    have wrong : ∀ H1, Same H H1 → (ss = [] ∨ 16 < ss.length ∨ ss.all (Rc70.isSet ps) = false) → ∀ l, H1 l = none → Q (.ref l) (upd H1 l (.lst [V.int (-1)])) := by
      intro H1 s1 hw l hl1
      rw [if_pos hw] at k
      exact k _ l (s1.trans (Same.put hl1)) (s1.free hl1) upd_same
    by_cases c1 : 1 ≤ ss.length
    · rw [decide_eq_true (show (1 : Int) ≤ (ss.length : Int) by omega)]
      refine iteT ⟨_, _, rfl, rfl, _, rfl, ?_⟩
      by_cases c2 : ss.length ≤ 16
      · rw [decide_eq_true (show (ss.length : Int) ≤ 16 by omega)]
        refine iteF ⟨_, rfl, h, dx, _, rfl, h1, hf_no _ (by decide +kernel), _, rfl, h, b, ss, ps, rfl, hH, hss, by omega, fun H1 s1 => ⟨_, rfl, ?_⟩⟩
        cases c3 : ss.all (Rc70.isSet ps)
        · exact iteT ⟨(by show 1 ≤ sizeLine; decide), fun l hl => wrong H1 s1 (.inr (.inr c3)) l hl⟩
        · have hgood : ¬ (ss = [] ∨ 16 < ss.length ∨ ss.all (Rc70.isSet ps) = false) := by
            rintro (z | z | z)
            · rw [z] at c1; simp at c1
            · omega
            · rw [c3] at z; cases z
          rw [if_neg hgood] at k
          refine iteF ⟨_, rfl, h, C, dx, _, _, rfl, s1 _ _ h1, T.cl, T.nP, hf_pts _, _, rfl, a, b, ps, ss, rfl, h2.same s1, hl, hok.bd, s1.seq hss, hsl, fun H2 l2 s2 hl2 hll => ?_⟩
          have s12 := s1.trans s2
          cases hp : Rc70.apartOf ps ss with
          | none =>
            rw [hp] at hll k
            refine ⟨_, rfl, false, .inl ⟨_, SqL.of hll, rfl⟩, iteT ⟨(by show 1 ≤ sizeLine; decide), fun l hl3 => ?_⟩⟩
            exact k _ l (s12.trans (Same.put hl3)) (s12.free hl3) upd_same
          | some t =>
            rw [hp] at hll k
            obtain ⟨hne, ht3⟩ := apart_ne hp
            have hll : H2 l2 = some (.lst (t.map nv)) := hll
            refine ⟨_, rfl, true, .inl ⟨_, SqL.of hll, ?_⟩, iteF ⟨(by show 1 ≤ sizeLine; decide), fun z hz => ?_⟩⟩
            · cases t with
              | nil => exact absurd rfl hne
              | cons d t => rfl
            · have sz : Same H2 (upd H2 z (.lst [V.int 0])) := Same.put hz
              refine ⟨_, rfl, z, l2, _, _, rfl, rfl, upd_same, sz _ _ hll, ?_, fun l hl3 => ?_⟩
              · rw [List.length_map, ht3, sizeLine_eq]
                show 1 + 3 ≤ _
                omega
              · refine k _ l (s12.trans (sz.trans (Same.put hl3))) ((s12.trans sz).free hl3) ?_
                rw [upd_same]
                show _ = some (HO.lst (V.int 0 :: (t.map fun (x : Nat) => (x : Int)).map V.int))
                rw [int_map]
                rfl
      · rw [decide_eq_false (show ¬ (ss.length : Int) ≤ 16 by omega)]
        exact iteT (iteT ⟨(by show 1 ≤ sizeLine; decide), fun l hl => wrong H (Same.refl _) (.inr (.inl (by omega))) l hl⟩)
    · rw [decide_eq_false (show ¬ (1 : Int) ≤ (ss.length : Int) by omega)]
      exact iteF ⟨_, rfl, iteT (iteT ⟨(by show 1 ≤ sizeLine; decide), fun l hl => wrong H (Same.refl _) (.inl (List.eq_nil_of_length_eq_zero (by omega))) l hl⟩)⟩
theorem halve_eq {ps : List Ar} {s : Nat} {u v c : Int} : halvesB u v c ((Rc70.members ps s).map (Rc70.at_ ps)) = Rc70.halvesOf ps s ⟨u, v, c⟩ := by
  have e1 : nAbove u v c ((Rc70.members ps s).map (Rc70.at_ ps)) = Rc70.above ps s ⟨u, v, c⟩ := by
    unfold nAbove Rc70.above
    rw [List.filter_map, List.length_map]
    rfl
  have e2 : nBelow u v c ((Rc70.members ps s).map (Rc70.at_ ps)) = Rc70.below ps s ⟨u, v, c⟩ := by
    unfold nBelow Rc70.below
    rw [List.filter_map, List.length_map]
    rfl
  unfold halvesB Rc70.halvesOf
  rw [e1, e2, List.length_map, Bool.eq_iff_iff, decide_eq_true_iff, Bool.and_eq_true, decide_eq_true_iff, decide_eq_true_iff]
  omega
def spHHalve (K : PySem.W.Frag) (C : Addr) : Sp := fun vs H Q _ => ∃ (h b e : Addr) (ps : List Ar) (s t : Nat) (u v c : Int), vs = [.ref h, .ref b, .ref e] ∧ HpAt K C H h ps ∧ PsOk ps ∧ Ns K H b [s, t] ∧ SqL K H e [.int u, .int v, .int c] ∧ LnB u v ∧
  ∀ (H' : Hp) (l : Addr), Same H H' → H l = none → H' l = some (.lst ((halveAns ps s t u v c).map V.int)) → Q (.ref l) H'
theorem scHHv : FnScope ["self", "sets", "line", "halved", "chosen"] ["self", "sets", "line"] (defScope sHHalve) := ⟨rfl, rfl, rfl, by decide +kernel, rfl, by decide +kernel, by decide +kernel⟩
theorem bkHHv : BlkOk ["self", "sets", "line", "halved", "chosen"] (defScope sHHalve) { kind := ScopeKind.function, names := [(".0", .local), ("chosen", .local), ("does_halve", .globalImplicit), ("line", .free), ("self", .free)], isGenerator := false, isCoroutine := false } [("chosen", 4)] := blkOk_by (by decide +kernel)
theorem isset_lt {ps : List Ar} {s : Nat} (h : Rc70.isSet ps s = true) : s < 2 ^ ps.length := by
  unfold Rc70.isSet at h
  simp only [Bool.and_eq_true, decide_eq_true_iff] at h
  exact h.2
theorem ok_hhalve {f : Addr} {fd : FuncData} (F : Fun K "halves" "Heap.halves" sHHalve f fd) (T : HTxt K C) (hS : HasM P w K mg base C "has_sets" 2 ["self", "sets"] (spHasSets K C)) (hL : Has P w K mg base "is_line" 1 ["line"] (spIsLine K)) (hH2 : Has P w K mg base "does_halve" 1 ["line", "points"] (spHalve K))
    (hP : HasM P w K mg base C "points_of" 2 ["self", "chosen"] (spPointsOf K C)) (hN : Const mg "NO_POINTS" (-4)) (hW : Const mg "WRONG" (-1)) (hall : mg "all" = none) : FnOk P w K mg base CX0 3 f fd ["self", "sets", "line"] (spHHalve K C) := by
  refine F.ok scHHv (fun vs H Q E h => ?_) (fun cdv A outr s H vs Q E hr h => ?_)
  · obtain ⟨h, b, e, ps, s, t, u, v, c, rfl, _⟩ := h
    rfl
  · obtain ⟨h, b, e, ps, s, t, u, v, c, rfl, hH, hok, hss, hln, hlb, k⟩ := h
    obtain ⟨dx, a, h1, h2⟩ := id hH
    obtain ⟨ts, ht1, ht2⟩ := id h2
    have hr1 : Room 1 _ := hr.mono (by decide)
    refine ⟨_, pss_cons (ps_if (pt_not (pt_truth (pe_fld (pv 0) rfl) (fun _ => rfl))) (pss_one (ps_ret (pe_lst (pa_cons (pe_const rfl hN) pa_nil)))) pss_nil)
      (pss_cons (ps_if (PW.pt (pw_or (pt_not (pt_val (pe_hasm hS T.cl hr (pv 0) (pa_cons (pv 1) pa_nil)))) (pw_or1 (pt_not (pt_val (pe_has hL hr1 rfl (pa_cons (pv 2) pa_nil))))))) (pss_one (ps_ret (pe_lst (pa_cons (pe_const rfl hW) pa_nil)))) pss_nil)
      (pss_cons (ps_setLc (i := 3) (own := [("chosen", 4)]) rfl scHHv.nd rfl rfl (sw_true rfl rfl rfl rfl) (pi_list (pv 1)) bkHHv (fun s H C cl fp => pg_name (i := 4) scHHv.nd rfl (Or.inl rfl)) (fun s H C cl fp => pts_nil)
        (fun s H C2 cl fp => pe_has hH2 hr1 rfl (pa_cons (pv 2) (pa_cons (pe_hasm hP T.cl hr (pv 0) (pa_cons (pv 4) pa_nil)) pa_nil))))
      (pss_one (ps_ret (pe_lst (pa_cons (pe_ifExp (pt_val (pe_callB (cr_all rfl) (by rfl) hall PyProof.Rows.boot_all (pa_cons (pv 3) pa_nil))) pe_int pe_int) pa_nil)))))), ?_⟩
    have hE := empty_iff (Paired.length ht2)
    unfold halveAns at k
    by_cases hps : ps = []
    · rw [if_pos hps] at k
      exact ⟨_, rfl, h, C, dx, _, _, rfl, h1, T.cl, T.nP, hf_pts _, false, .inl ⟨_, ht1, by rw [hE, decide_eq_true hps]; rfl⟩, iteT ⟨(by show 1 ≤ sizeLine; decide), fun l hl => k _ l (Same.put hl) hl upd_same⟩⟩
    rw [if_neg hps] at k
    have ea : [s, t].all (Rc70.isSet ps) = (Rc70.isSet ps s && Rc70.isSet ps t) := by simp
    have wrong : ∀ H1, Same H H1 → ((Rc70.isSet ps s && Rc70.isSet ps t) = false ∨ (u = 0 ∧ v = 0)) → ∀ l, H1 l = none → Q (.ref l) (upd H1 l (.lst [V.int (-1)])) := by
      intro H1 s1 hw l hl1
      rw [if_pos hw] at k
      exact k _ l (s1.trans (Same.put hl1)) (s1.free hl1) upd_same
    refine ⟨_, rfl, h, C, dx, _, _, rfl, h1, T.cl, T.nP, hf_pts _, true, .inl ⟨_, ht1, by rw [hE, decide_eq_false hps]; rfl⟩, ?_⟩
    refine iteF ⟨_, rfl, h, dx, _, rfl, h1, hf_no _ (by decide +kernel), _, rfl, h, b, [s, t], ps, rfl, hH, hss, by show 2 ≤ 1000; decide, fun H1 s1 => ⟨_, rfl, ?_⟩⟩
    rw [ea]
    cases c1 : (Rc70.isSet ps s && Rc70.isSet ps t)
    · exact iteT (iteT ⟨(by show 1 ≤ sizeLine; decide), fun l hl => wrong H1 s1 (.inl c1) l hl⟩)
    · refine iteF ⟨_, rfl, e, u, v, c, rfl, s1.seq hln, _, rfl, ?_⟩
      cases c2 : isLine u v
      · refine iteT ⟨(by show 1 ≤ sizeLine; decide), fun l hl => wrong H1 s1 (.inr ?_) l hl⟩
        unfold isLine at c2
        simpa using c2
      · have hgood : ¬ ((Rc70.isSet ps s && Rc70.isSet ps t) = false ∨ (u = 0 ∧ v = 0)) := by
          rintro (z | ⟨z1, z2⟩)
          · rw [c1] at z; cases z
          · unfold isLine at c2
            rw [z1, z2] at c2
            simp at c2
        rw [if_neg hgood] at k
        have hset : ∀ m ∈ [s, t], m < 2 ^ ps.length := by
          intro m hm
          rw [Bool.and_eq_true] at c1
          rcases (by simpa using hm : m = s ∨ m = t) with z | z
          · rw [z]; exact isset_lt c1.1
          · rw [z]; exact isset_lt c1.2
        have hss1 : Ns K H1 b [s, t] := s1.seq hss
        have hpl := hok.1
        refine iteF ⟨_, rfl, b, rfl, ⟨_, hss1⟩, fun D hD => ?_⟩
        refine lc_list (K := K) (a := b) (xs := [s, t].map nv) (fun i H' => H' D = some (.lst ((([s, t].take i).map fun m => Rc70.halvesOf ps m ⟨u, v, c⟩).map V.bl)) ∧ Same H1 H') ?_ ?_ ?_ ?_
        · exact ⟨upd_same, Same.put hD⟩
        · rintro i H' hi ⟨_, e⟩
          exact e.seq hss1
        · rintro i z H' hz ⟨e1, e3⟩
          obtain ⟨m, hm, rfl⟩ := map_at hz
          have s2 := s1.trans e3
          refine ⟨rfl, ?_⟩
          unfold tYes
          refine iteT ⟨_, rfl, _, rfl, h, dx, _, rfl, s2 _ _ h1, hf_no _ (by decide +kernel), _, rfl, h, m, ps, rfl, hH.same s2, hset m (List.mem_of_getElem? hm), by omega, fun H2 l2 s3 hp2 => ?_⟩
          refine ⟨e, l2, u, v, c, _, rfl, (s2.trans s3).seq hln, hlb, hp2, _, s3 _ _ e1, ?_, ?_, Same.own hD (e3.trans s3)⟩
          · rw [List.length_map, List.length_map, List.length_take, sizeLine_eq]
            show min i 2 < _
            omega
          · rw [upd_same, take_snoc hm, List.map_append, List.map_append, halve_eq]
            rfl
        · rintro H' ⟨e1, e3⟩
          refine ⟨_, rfl, D, [Rc70.halvesOf ps s ⟨u, v, c⟩, Rc70.halvesOf ps t ⟨u, v, c⟩], rfl, SqL.of e1, _, rfl, ?_⟩
          have el : [Rc70.halvesOf ps s ⟨u, v, c⟩, Rc70.halvesOf ps t ⟨u, v, c⟩].all id = (Rc70.halvesOf ps s ⟨u, v, c⟩ && Rc70.halvesOf ps t ⟨u, v, c⟩) := by simp
          rw [el]
          have s2 := s1.trans e3
          cases z : (Rc70.halvesOf ps s ⟨u, v, c⟩ && Rc70.halvesOf ps t ⟨u, v, c⟩)
          · rw [z] at k
            exact iteF ⟨(by show 1 ≤ sizeLine; decide), fun l hl => k _ l (s2.trans (Same.put hl)) (s2.free hl) upd_same⟩
          · rw [z] at k
            exact iteT ⟨(by show 1 ≤ sizeLine; decide), fun l hl => k _ l (s2.trans (Same.put hl)) (s2.free hl) upd_same⟩
end
end HQ

end
section
namespace HQ
open PySem PySem.Spec PyProof.Rows L2 HP
open Rc70Neutral (pairs)
theorem scNx : FnScope ["heap", "reader", "call", "chosen", "sets"] ["heap", "reader"] (defScope sNext) := ⟨rfl, rfl, rfl, by decide +kernel, rfl, by decide +kernel, by decide +kernel⟩
section
variable {P : Program} {w : World} {K : PySem.W.Frag} {mg : Str → Option Value} {base : Heap} {CH CR : Addr}
theorem set_nn {z : Int} (h : Rc70Neutral.set z = true) : 0 ≤ z := by
  unfold Rc70Neutral.set at h
  rw [Bool.and_eq_true] at h
  exact of_decide_eq_true h.1
theorem small_set {ps : List Ar} {s x y d : Int} (h : Rc70Neutral.asked1 ps [1, s, x, y, d] = true) : 0 ≤ s := by
  have h : (Rc70Neutral.set s && (Rc70Neutral.long x && (Rc70Neutral.long y && Rc70Neutral.long d))) = true := h
  rw [Bool.and_eq_true] at h
  exact set_nn h.1
theorem small_set2 {ps : List Ar} {s x y d : Int} (h : Rc70Neutral.asked1 ps [2, s, x, y, d] = true) : 0 ≤ s := by
  have h : (Rc70Neutral.set s && (Rc70Neutral.long x && (Rc70Neutral.long y && Rc70Neutral.long d))) = true := h
  rw [Bool.and_eq_true] at h
  exact set_nn h.1
theorem small_points {ps : List Ar} {cs : List Int} (h : Rc70Neutral.asked1 ps (0 :: cs) = true) : cs.length % 2 = 0 ∧ cs.length ≤ 60 := by
  have h : (cs.all Rc70Neutral.whole32 && decide (cs.length % 2 = 0 ∧ cs.length ≤ 60)) = true := h
  rw [Bool.and_eq_true] at h
  exact of_decide_eq_true h.2
theorem ifEq {i j : Int} {A B : Prop} (h : i = j) (a : A) : if decide (V.int i = V.int j) = true then A else B := by
  rw [if_pos (decide_eq_true (by rw [h]))]
  exact a
theorem ifNe {i j : Int} {A B : Prop} (h : ¬ i = j) (a : B) : if decide (V.int i = V.int j) = true then A else B := by
  rw [if_neg (by intro z; exact h (V.int.inj (of_decide_eq_true z)))]
  exact a
theorem ok_next {f : Addr} {fd : FuncData} (F : Fun K "answer_next" "answer_next" sNext f fd) (TR : RTxt K CR) (TH : HTxt K CH)
    (hTake : HasM P w K mg base CR "take" 1 ["self"] (spTake K CR)) (hSev : HasM P w K mg base CR "take_several" 1 ["self", "size"] (spSeveral K CR)) (hRow : HasM P w K mg base CR "take_row" 2 ["self"] (spRow K CR))
    (hPut : HasM P w K mg base CH "put" 2 ["self", "coordinates"] (spPut K CH)) (hWi : HasM P w K mg base CH "within" 6 ["self", "chosen", "place"] (spWithin K CH)) (hTh : HasM P w K mg base CH "three" 5 ["self", "chosen", "place"] (spThree K CH))
    (hDe : HasM P w K mg base CH "depth" 4 ["self", "place"] (spHDepth K CH)) (hDp : HasM P w K mg base CH "deepest" 6 ["self"] (spHDeep K CH)) (hPt : HasM P w K mg base CH "parted" 7 ["self", "parts"] (spHPart K CH)) (hMt : HasM P w K mg base CH "meet" 7 ["self", "sets"] (spHMeet K CH)) (hHv : HasM P w K mg base CH "halves" 3 ["self", "sets", "line"] (spHHalve K CH))
    (k0 : Const mg "POINTS" 0) (k1 : Const mg "IN" 1) (k2 : Const mg "THREE" 2) (k3 : Const mg "DEPTH" 3) (k4 : Const mg "DEEPEST" 4) (k5 : Const mg "PARTED" 5) (k6 : Const mg "MEET" 6) (k7 : Const mg "HALVES" 7) : FnOk P w K mg base CX0 8 f fd ["heap", "reader"] (spNext K CH CR) := by
  refine F.ok scNx (fun vs H Q E h => ?_) (fun cdv A outr s H vs Q E hr h => ?_)
  · obtain ⟨h, b, r, a, p, ns, ps, c, t, rfl, _⟩ := h
    rfl
  · obtain ⟨h, b, r, a, p, ns, ps, c, t, rfl, hH, hok, hR, hS, his, hin, hask, k⟩ := h
    have hr1 : Room 1 _ := hr.mono (by decide)
    have hr2 : Room 2 _ := hr.mono (by decide)
    have hr3 : Room 3 _ := hr.mono (by decide)
    have hr4 : Room 4 _ := hr.mono (by decide)
    have hr5 : Room 5 _ := hr.mono (by decide)
    have hr6 : Room 6 _ := hr.mono (by decide)
    refine ⟨_, pss_cons (ps_set (i := 2) scNx.nd rfl (Or.inl rfl) (pe_hasm0 hTake TR.cl hr1 (pv 1)))
      (pss_cons (ps_if (pt_cmpR op_eq (pv 2) (pe_const rfl k0) (nomark _)) (pss_one (ps_ret (pe_hasm hPut TH.cl hr2 (pv 0) (pa_cons (pe_hasm0 hRow TR.cl hr2 (pv 1)) pa_nil)))) pss_nil)
      (pss_cons (ps_if (pt_cmpR op_eq (pv 2) (pe_const rfl k1) (nomark _)) (pss_cons (ps_set (i := 3) scNx.nd rfl (Or.inl rfl) (pe_hasm0 hTake TR.cl hr1 (pv 1)))
        (pss_one (ps_ret (pe_hasm hWi TH.cl hr6 (pv 0) (pa_cons (pv 3) (pa_cons (pe_hasm hSev TR.cl hr1 (pv 1) (pa_cons pe_int pa_nil)) pa_nil)))))) pss_nil)
      (pss_cons (ps_if (pt_cmpR op_eq (pv 2) (pe_const rfl k2) (nomark _)) (pss_cons (ps_set (i := 3) scNx.nd rfl (Or.inl rfl) (pe_hasm0 hTake TR.cl hr1 (pv 1)))
        (pss_one (ps_ret (pe_hasm hTh TH.cl hr5 (pv 0) (pa_cons (pv 3) (pa_cons (pe_hasm hSev TR.cl hr1 (pv 1) (pa_cons pe_int pa_nil)) pa_nil)))))) pss_nil)
      (pss_cons (ps_if (pt_cmpR op_eq (pv 2) (pe_const rfl k3) (nomark _)) (pss_one (ps_ret (pe_hasm hDe TH.cl hr4 (pv 0) (pa_cons (pe_hasm hSev TR.cl hr1 (pv 1) (pa_cons pe_int pa_nil)) pa_nil)))) pss_nil)
      (pss_cons (ps_if (pt_cmpR op_eq (pv 2) (pe_const rfl k4) (nomark _)) (pss_one (ps_ret (pe_hasm0 hDp TH.cl hr6 (pv 0)))) pss_nil)
      (pss_cons (ps_if (pt_cmpR op_eq (pv 2) (pe_const rfl k5) (nomark _)) (pss_one (ps_ret (pe_hasm hPt TH.cl hr (pv 0) (pa_cons (pe_hasm0 hTake TR.cl hr1 (pv 1)) pa_nil)))) pss_nil)
      (pss_cons (ps_if (pt_cmpR op_eq (pv 2) (pe_const rfl k6) (nomark _)) (pss_one (ps_ret (pe_hasm hMt TH.cl hr (pv 0) (pa_cons (pe_hasm0 hRow TR.cl hr2 (pv 1)) pa_nil)))) pss_nil)
      (pss_cons (ps_if (pt_cmpR op_eq (pv 2) (pe_const rfl k7) (nomark _)) (pss_cons (ps_set (i := 4) scNx.nd rfl (Or.inl rfl) (pe_hasm hSev TR.cl hr1 (pv 1) (pa_cons pe_int pa_nil)))
        (pss_one (ps_ret (pe_hasm hHv TH.cl hr3 (pv 0) (pa_cons (pv 4) (pa_cons (pe_hasm hSev TR.cl hr1 (pv 1) (pa_cons pe_int pa_nil)) pa_nil)))))) pss_nil)
      (pss_one ps_never))))))))), ?_⟩
    have M0 := Mid.start hH hR hS
    obtain ⟨dxr, hRe⟩ := id hR
    obtain ⟨dxh, _, hHe, _⟩ := id hH
    have nR : ∀ {m : Str} (p : Nat), ¬ m = "numbers" → ¬ m = "position" → (rf a p).lookup m = none := fun p h1 h2 => rf_no a p h1 h2
    -- a place's three numbers
    have place : ∀ (q : Nat) (x y d : Int) (t : List Int), ns.drop q = x :: y :: d :: t → ((ns.drop q).take 3).map V.int = [.int x, .int y, .int d] ∧ q + 3 ≤ ns.length ∧ ns.drop (q + 3) = t := by
      intro q x y d t e
      have hq := drop_lt e
      have e' : ns.drop q = [x, y, d] ++ t := e
      obtain ⟨g1, g2⟩ := drop_many e'
      exact ⟨by rw [show (3 : Nat) = [x, y, d].length from rfl, g1]; rfl, drop_len e' (by omega), g2⟩
    generalize hl : ns.drop p = l at his
    cases his with
    | points cs t =>
      obtain ⟨hz0, hd1, hp⟩ := drop_one hl
      obtain ⟨hz1, hd2, hp1⟩ := drop_one hd1
      obtain ⟨hev, hcl⟩ : cs.length % 2 = 0 ∧ cs.length ≤ 60 := small_points (ps := ps) hask
      have hd3 := drop_many hd2
      have hle := drop_len hd2 (by omega)
      refine ⟨_, rfl, r, dxr, _, rfl, hRe, nR p (by decide +kernel) (by decide +kernel), r, a, p, ns, 0, rfl, hR, hS, hz0, fun H1 hR1 kp1 => ?_⟩
      have M1 := M0.read hR1 kp1
      obtain ⟨dx1, hRe1⟩ := id hR1
      obtain ⟨dh1, ts1, hHe1, _⟩ := id M1.hp
      refine ⟨_, rfl, rfl, _, rfl, ifEq rfl ?_⟩
      refine ⟨_, rfl, h, dh1, _, rfl, hHe1, hf_no _ (by decide +kernel), _, rfl, r, dx1, _, rfl, hRe1, nR _ (by decide +kernel) (by decide +kernel), r, a, p + 1, cs.length, ns, rfl, hR1, M1.sq, hz1, by omega, fun H2 l hR2 kp2 hl0 hll => ?_⟩
      have M2 := M1.read hR2 kp2
      rw [hd3.1] at hll
      refine ⟨h, b, l, ps, cs, rfl, M2.hp, SqL.of hll, hev, by omega, fun H3 l3 b3 hH3 hb3 kp3 hl3 hll3 => ?_⟩
      have M3 := M2.put hH3 kp3
      have sp := step_points (ps := ps) hev
      have e1 : ptsOf ps [[0], cs] = (putOf ps cs).1 := congrArg Prod.fst sp
      have e2 : dueOf ps [[0], cs] = (putOf ps cs).2 := congrArg Prod.snd sp
      refine k H3 l3 b3 (p + 1 + 1 + cs.length) (by rw [e1]; exact hH3) ?_ M3.rd (by omega) hle hd3.2 M3.kp (M2.free hl3) (by rw [e2]; exact hll3)
      rcases hb3 with z | z
      · exact .inl z
      · exact .inr (M2.free z)
    | inn s x y d t =>
      obtain ⟨hz0, hd1, hp⟩ := drop_one hl
      obtain ⟨hz1, hd2, hp1⟩ := drop_one hd1
      obtain ⟨g1, g2, g3⟩ := place _ x y d t hd2
      have hs0 := small_set (ps := ps) hask
      obtain ⟨c, rfl⟩ : ∃ c : Nat, s = (c : Int) := ⟨s.toNat, by omega⟩
      refine ⟨_, rfl, r, dxr, _, rfl, hRe, nR p (by decide +kernel) (by decide +kernel), r, a, p, ns, 1, rfl, hR, hS, hz0, fun H1 hR1 kp1 => ?_⟩
      have M1 := M0.read hR1 kp1
      obtain ⟨dx1, hRe1⟩ := id hR1
      refine ⟨_, rfl, rfl, _, rfl, ifNe (by decide) ?_⟩
      refine ⟨_, rfl, rfl, _, rfl, ifEq rfl ?_⟩
      refine ⟨_, rfl, r, dx1, _, rfl, hRe1, nR _ (by decide +kernel) (by decide +kernel), r, a, p + 1, ns, (c : Int), rfl, hR1, M1.sq, hz1, fun H2 hR2 kp2 => ?_⟩
      have M2 := M1.read hR2 kp2
      obtain ⟨dx2, hRe2⟩ := id hR2
      obtain ⟨dh2, ts2, hHe2, _⟩ := id M2.hp
      refine ⟨_, rfl, h, dh2, _, rfl, hHe2, hf_no _ (by decide +kernel), _, rfl, _, rfl, r, dx2, _, rfl, hRe2, nR _ (by decide +kernel) (by decide +kernel), r, a, p + 1 + 1, 3, ns, rfl, hR2, M2.sq, g2, fun H3 l hR3 kp3 hl0 hll => ?_⟩
      have M3 := M2.read hR3 kp3
      rw [g1] at hll
      refine ⟨h, l, c, x, y, d, ps, rfl, M3.hp.at, hok, SqL.of hll, fun H4 l4 s4 hl4 hll4 => ?_⟩
      have M4 := M3.same s4
      obtain ⟨e1, e2⟩ := step_in ps (c : Int) x y d
      exact k H4 l4 b (p + 1 + 1 + 3) (by rw [e1]; exact M4.hp) (.inl rfl) M4.rd (by omega) g2 g3 M4.kp (M3.free hl4) (by rw [e2]; exact hll4)
    | three s x y d t =>
      obtain ⟨hz0, hd1, hp⟩ := drop_one hl
      obtain ⟨hz1, hd2, hp1⟩ := drop_one hd1
      obtain ⟨g1, g2, g3⟩ := place _ x y d t hd2
      have hs0 := small_set2 (ps := ps) hask
      obtain ⟨c, rfl⟩ : ∃ c : Nat, s = (c : Int) := ⟨s.toNat, by omega⟩
      refine ⟨_, rfl, r, dxr, _, rfl, hRe, nR p (by decide +kernel) (by decide +kernel), r, a, p, ns, 2, rfl, hR, hS, hz0, fun H1 hR1 kp1 => ?_⟩
      have M1 := M0.read hR1 kp1
      obtain ⟨dx1, hRe1⟩ := id hR1
      refine ⟨_, rfl, rfl, _, rfl, ifNe (by decide) ?_⟩
      refine ⟨_, rfl, rfl, _, rfl, ifNe (by decide) ?_⟩
      refine ⟨_, rfl, rfl, _, rfl, ifEq rfl ?_⟩
      refine ⟨_, rfl, r, dx1, _, rfl, hRe1, nR _ (by decide +kernel) (by decide +kernel), r, a, p + 1, ns, (c : Int), rfl, hR1, M1.sq, hz1, fun H2 hR2 kp2 => ?_⟩
      have M2 := M1.read hR2 kp2
      obtain ⟨dx2, hRe2⟩ := id hR2
      obtain ⟨dh2, ts2, hHe2, _⟩ := id M2.hp
      refine ⟨_, rfl, h, dh2, _, rfl, hHe2, hf_no _ (by decide +kernel), _, rfl, _, rfl, r, dx2, _, rfl, hRe2, nR _ (by decide +kernel) (by decide +kernel), r, a, p + 1 + 1, 3, ns, rfl, hR2, M2.sq, g2, fun H3 l hR3 kp3 hl0 hll => ?_⟩
      have M3 := M2.read hR3 kp3
      rw [g1] at hll
      refine ⟨h, l, c, x, y, d, ps, rfl, M3.hp.at, hok, SqL.of hll, fun H4 l4 s4 hl4 hll4 => ?_⟩
      have M4 := M3.same s4
      obtain ⟨e1, e2⟩ := step_three ps (c : Int) x y d
      exact k H4 l4 b (p + 1 + 1 + 3) (by rw [e1]; exact M4.hp) (.inl rfl) M4.rd (by omega) g2 g3 M4.kp (M3.free hl4) (by rw [e2]; exact hll4)
    | depth x y d t =>
      obtain ⟨hz0, hd1, hp⟩ := drop_one hl
      obtain ⟨g1, g2, g3⟩ := place _ x y d t hd1
      refine ⟨_, rfl, r, dxr, _, rfl, hRe, nR p (by decide +kernel) (by decide +kernel), r, a, p, ns, 3, rfl, hR, hS, hz0, fun H1 hR1 kp1 => ?_⟩
      have M1 := M0.read hR1 kp1
      obtain ⟨dx1, hRe1⟩ := id hR1
      obtain ⟨dh1, ts1, hHe1, _⟩ := id M1.hp
      refine ⟨_, rfl, rfl, _, rfl, ifNe (by decide) ?_⟩
      refine ⟨_, rfl, rfl, _, rfl, ifNe (by decide) ?_⟩
      refine ⟨_, rfl, rfl, _, rfl, ifNe (by decide) ?_⟩
      refine ⟨_, rfl, rfl, _, rfl, ifEq rfl ?_⟩
      refine ⟨_, rfl, h, dh1, _, rfl, hHe1, hf_no _ (by decide +kernel), _, rfl, r, dx1, _, rfl, hRe1, nR _ (by decide +kernel) (by decide +kernel), r, a, p + 1, 3, ns, rfl, hR1, M1.sq, g2, fun H3 l hR3 kp3 hl0 hll => ?_⟩
      have M3 := M1.read hR3 kp3
      rw [g1] at hll
      refine ⟨h, l, x, y, d, ps, rfl, M3.hp.at, hok, SqL.of hll, fun H4 l4 s4 hl4 hll4 => ?_⟩
      have M4 := M3.same s4
      obtain ⟨e1, e2⟩ := step_depth ps x y d
      exact k H4 l4 b (p + 1 + 3) (by rw [e1]; exact M4.hp) (.inl rfl) M4.rd (by omega) g2 g3 M4.kp (M3.free hl4) (by rw [e2]; exact hll4)
    | deepest t =>
      obtain ⟨hz0, hd1, hp⟩ := drop_one hl
      have hcl := ask_deepest (ps := ps) hask
      refine ⟨_, rfl, r, dxr, _, rfl, hRe, nR p (by decide +kernel) (by decide +kernel), r, a, p, ns, 4, rfl, hR, hS, hz0, fun H1 hR1 kp1 => ?_⟩
      have M1 := M0.read hR1 kp1
      obtain ⟨dx1, hRe1⟩ := id hR1
      obtain ⟨dh1, ts1, hHe1, _⟩ := id M1.hp
      refine ⟨_, rfl, rfl, _, rfl, ifNe (by decide) ?_⟩
      refine ⟨_, rfl, rfl, _, rfl, ifNe (by decide) ?_⟩
      refine ⟨_, rfl, rfl, _, rfl, ifNe (by decide) ?_⟩
      refine ⟨_, rfl, rfl, _, rfl, ifNe (by decide) ?_⟩
      refine ⟨_, rfl, rfl, _, rfl, ifEq rfl ?_⟩
      refine ⟨_, rfl, h, dh1, _, rfl, hHe1, hf_no _ (by decide +kernel), h, ps, rfl, M1.hp.at, hok, by omega, fun H4 l4 s4 hl4 hll4 => ?_⟩
      have M4 := M1.same s4
      obtain ⟨e1, e2⟩ := step_deepest ps
      exact k H4 l4 b (p + 1) (by rw [e1]; exact M4.hp) (.inl rfl) M4.rd (by omega) hp hd1 M4.kp (M1.free hl4) (by rw [e2]; exact hll4)
    | parted q t =>
      obtain ⟨hz0, hd1, hp⟩ := drop_one hl
      obtain ⟨hz1, hd2, hp1⟩ := drop_one hd1
      have hcl := ask_parted (ps := ps) hask
      refine ⟨_, rfl, r, dxr, _, rfl, hRe, nR p (by decide +kernel) (by decide +kernel), r, a, p, ns, 5, rfl, hR, hS, hz0, fun H1 hR1 kp1 => ?_⟩
      have M1 := M0.read hR1 kp1
      obtain ⟨dx1, hRe1⟩ := id hR1
      obtain ⟨dh1, ts1, hHe1, _⟩ := id M1.hp
      refine ⟨_, rfl, rfl, _, rfl, ifNe (by decide) ?_⟩
      refine ⟨_, rfl, rfl, _, rfl, ifNe (by decide) ?_⟩
      refine ⟨_, rfl, rfl, _, rfl, ifNe (by decide) ?_⟩
      refine ⟨_, rfl, rfl, _, rfl, ifNe (by decide) ?_⟩
      refine ⟨_, rfl, rfl, _, rfl, ifNe (by decide) ?_⟩
      refine ⟨_, rfl, rfl, _, rfl, ifEq rfl ?_⟩
      refine ⟨_, rfl, h, dh1, _, rfl, hHe1, hf_no _ (by decide +kernel), _, rfl, r, dx1, _, rfl, hRe1, nR _ (by decide +kernel) (by decide +kernel), r, a, p + 1, ns, q, rfl, hR1, M1.sq, hz1, fun H2 hR2 kp2 => ?_⟩
      have M2 := M1.read hR2 kp2
      refine ⟨h, ps, q, rfl, M2.hp.at, hok, by omega, fun H4 l4 s4 hl4 hll4 => ?_⟩
      have M4 := M2.same s4
      obtain ⟨e1, e2⟩ := step_parted ps q
      exact k H4 l4 b (p + 1 + 1) (by rw [e1]; exact M4.hp) (.inl rfl) M4.rd (by omega) hp1 hd2 M4.kp (M2.free hl4) (by rw [e2]; exact hll4)
    | meet cs t =>
      obtain ⟨hz0, hd1, hp⟩ := drop_one hl
      obtain ⟨hz1, hd2, hp1⟩ := drop_one hd1
      obtain ⟨hnn, hpl, hcl⟩ := ask_meet (ps := ps) (cs := cs) hask
      have hd3 := drop_many hd2
      have hle := drop_len hd2 (by omega)
      refine ⟨_, rfl, r, dxr, _, rfl, hRe, nR p (by decide +kernel) (by decide +kernel), r, a, p, ns, 6, rfl, hR, hS, hz0, fun H1 hR1 kp1 => ?_⟩
      have M1 := M0.read hR1 kp1
      obtain ⟨dx1, hRe1⟩ := id hR1
      obtain ⟨dh1, ts1, hHe1, _⟩ := id M1.hp
      refine ⟨_, rfl, rfl, _, rfl, ifNe (by decide) ?_⟩
      refine ⟨_, rfl, rfl, _, rfl, ifNe (by decide) ?_⟩
      refine ⟨_, rfl, rfl, _, rfl, ifNe (by decide) ?_⟩
      refine ⟨_, rfl, rfl, _, rfl, ifNe (by decide) ?_⟩
      refine ⟨_, rfl, rfl, _, rfl, ifNe (by decide) ?_⟩
      refine ⟨_, rfl, rfl, _, rfl, ifNe (by decide) ?_⟩
      refine ⟨_, rfl, rfl, _, rfl, ifEq rfl ?_⟩
      refine ⟨_, rfl, h, dh1, _, rfl, hHe1, hf_no _ (by decide +kernel), _, rfl, r, dx1, _, rfl, hRe1, nR _ (by decide +kernel) (by decide +kernel), r, a, p + 1, cs.length, ns, rfl, hR1, M1.sq, hz1, by omega, fun H2 l hR2 kp2 hl0 hll => ?_⟩
      have M2 := M1.read hR2 kp2
      rw [hd3.1] at hll
      have ecs : cs.map V.int = (cs.map Int.toNat).map nv := by
        rw [List.map_map]
        apply List.map_congr_left
        intro z hz
        have := (hnn z hz).1
        show V.int z = V.int ((z.toNat : Nat) : Int)
        rw [Int.toNat_of_nonneg this]
      rw [ecs] at hll
      refine ⟨h, l, ps, cs.map Int.toNat, rfl, M2.hp.at, hok, hpl, SqL.of hll, by rw [List.length_map]; omega, fun H4 l4 s4 hl4 hll4 => ?_⟩
      have M4 := M2.same s4
      obtain ⟨e1, e2⟩ := step_meet ps cs
      exact k H4 l4 b (p + 1 + 1 + cs.length) (by rw [e1]; exact M4.hp) (.inl rfl) M4.rd (by omega) hle hd3.2 M4.kp (M2.free hl4) (by rw [e2]; exact hll4)
    | halves s u x y c t =>
      obtain ⟨hz0, hd1, hp⟩ := drop_one hl
      have e' : ns.drop (p + 1) = [s, u] ++ (x :: y :: c :: t) := hd1
      obtain ⟨f1, f2⟩ := drop_many e'
      have f3 := drop_len e' (by omega)
      have f2 : ns.drop (p + 1 + 2) = x :: y :: c :: t := f2
      have f3 : p + 1 + 2 ≤ ns.length := f3
      obtain ⟨g1, g2, g3⟩ := place _ x y c t f2
      obtain ⟨a1, a2, a3, a4, a5⟩ := ask_halves (ps := ps) hask
      obtain ⟨m, rfl⟩ : ∃ m : Nat, s = (m : Int) := ⟨s.toNat, by omega⟩
      obtain ⟨n, rfl⟩ : ∃ n : Nat, u = (n : Int) := ⟨u.toNat, by omega⟩
      refine ⟨_, rfl, r, dxr, _, rfl, hRe, nR p (by decide +kernel) (by decide +kernel), r, a, p, ns, 7, rfl, hR, hS, hz0, fun H1 hR1 kp1 => ?_⟩
      have M1 := M0.read hR1 kp1
      obtain ⟨dx1, hRe1⟩ := id hR1
      obtain ⟨dh1, ts1, hHe1, _⟩ := id M1.hp
      refine ⟨_, rfl, rfl, _, rfl, ifNe (by decide) ?_⟩
      refine ⟨_, rfl, rfl, _, rfl, ifNe (by decide) ?_⟩
      refine ⟨_, rfl, rfl, _, rfl, ifNe (by decide) ?_⟩
      refine ⟨_, rfl, rfl, _, rfl, ifNe (by decide) ?_⟩
      refine ⟨_, rfl, rfl, _, rfl, ifNe (by decide) ?_⟩
      refine ⟨_, rfl, rfl, _, rfl, ifNe (by decide) ?_⟩
      refine ⟨_, rfl, rfl, _, rfl, ifNe (by decide) ?_⟩
      refine ⟨_, rfl, rfl, _, rfl, ifEq rfl ?_⟩
      refine ⟨_, rfl, r, dx1, _, rfl, hRe1, nR _ (by decide +kernel) (by decide +kernel), r, a, p + 1, 2, ns, rfl, hR1, M1.sq, f3, fun H2 l2 hR2 kp2 hl0 hll => ?_⟩
      have M2 := M1.read hR2 kp2
      have hll : H2 l2 = some (.lst ([m, n].map nv)) := by
        rw [hll]
        have : (ns.drop (p + 1)).take 2 = [(m : Int), (n : Int)] := f1
        rw [this]
        rfl
      obtain ⟨dx2, hRe2⟩ := id hR2
      obtain ⟨dh2, ts2, hHe2, _⟩ := id M2.hp
      refine ⟨_, rfl, h, dh2, _, rfl, hHe2, hf_no _ (by decide +kernel), _, rfl, _, rfl, r, dx2, _, rfl, hRe2, nR _ (by decide +kernel) (by decide +kernel), r, a, p + 1 + 2, 3, ns, rfl, hR2, M2.sq, g2, fun H3 l3 hR3 kp3 hl03 hll3 => ?_⟩
      have M3 := M2.read hR3 kp3
      rw [g1] at hll3
      have hl23 := M2.lst kp3 hll
      refine ⟨h, l2, l3, ps, m, n, x, y, c, rfl, M3.hp.at, hok, SqL.of hl23, SqL.of hll3, ⟨a3, a4⟩, fun H4 l4 s4 hl4 hll4 => ?_⟩
      have M4 := M3.same s4
      obtain ⟨e1, e2⟩ := step_halves ps (m : Int) (n : Int) x y c
      exact k H4 l4 b (p + 1 + 2 + 3) (by rw [e1]; exact M4.hp) (.inl rfl) M4.rd (by omega) g2 g3 M4.kp (M3.free hl4) (by rw [e2]; exact hll4)
end
end HQ

end
section
namespace HQ
open PySem PySem.Spec PyProof.Rows L2 HP
theorem args1 {us : List Value} (h : us.length = 1) : ∃ a, us = [a] := List.length_eq_one_iff.mp h
theorem args2 {us : List Value} (h : us.length = 2) : ∃ a b, us = [a, b] := by
  cases us with
  | nil => cases h
  | cons a us =>
    obtain ⟨b, rfl⟩ := args1 (Nat.succ.inj h)
    exact ⟨a, b, rfl⟩
theorem args3 {us : List Value} (h : us.length = 3) : ∃ a b c, us = [a, b, c] := by
  cases us with
  | nil => cases h
  | cons a us =>
    obtain ⟨b, c, rfl⟩ := args2 (Nat.succ.inj h)
    exact ⟨a, b, c, rfl⟩
theorem all_mk {P : Program} {w : World} {K : PySem.W.Frag} {h : Heap} {mg : Str → Option Value} {fa : Addr} (X : K.In h) (G : h.Ns mainGlobals mg) (hfa : mg "answers" = some (.ref fa))
    {C_R : Addr}
    {C_H : Addr}
    {f_arrows : Addr} {od_arrows an_arrows : Option Addr} {sl_arrows : Array (Option Value)} {oc_arrows kV_arrows dc_arrows pm_arrows cd_arrows ct_arrows : Value}
    {f_betw : Addr} {od_betw an_betw : Option Addr} {sl_betw : Array (Option Value)} {oc_betw kV_betw dc_betw pm_betw cd_betw ct_betw : Value}
    {f_nothing : Addr} {od_nothing an_nothing : Option Addr} {sl_nothing : Array (Option Value)} {oc_nothing kV_nothing dc_nothing pm_nothing cd_nothing ct_nothing : Value}
    {f_cross : Addr} {od_cross an_cross : Option Addr} {sl_cross : Array (Option Value)} {oc_cross kV_cross dc_cross pm_cross cd_cross ct_cross : Value}
    {f_dot : Addr} {od_dot an_dot : Option Addr} {sl_dot : Array (Option Value)} {oc_dot kV_dot dc_dot pm_dot cd_dot ct_dot : Value}
    {f_fewest : Addr} {od_fewest an_fewest : Option Addr} {sl_fewest : Array (Option Value)} {oc_fewest kV_fewest dc_fewest pm_fewest cd_fewest ct_fewest : Value}
    {f_depth : Addr} {od_depth an_depth : Option Addr} {sl_depth : Array (Option Value)} {oc_depth kV_depth dc_depth pm_depth cd_depth ct_depth : Value}
    {f_tell : Addr} {od_tell an_tell : Option Addr} {sl_tell : Array (Option Value)} {oc_tell kV_tell dc_tell pm_tell cd_tell ct_tell : Value}
    {f_strs : Addr} {od_strs an_strs : Option Addr} {sl_strs : Array (Option Value)} {oc_strs kV_strs dc_strs pm_strs cd_strs ct_strs : Value}
    {f_docross : Addr} {od_docross an_docross : Option Addr} {sl_docross : Array (Option Value)} {oc_docross kV_docross dc_docross pm_docross cd_docross ct_docross : Value}
    {f_parting : Addr} {od_parting an_parting : Option Addr} {sl_parting : Array (Option Value)} {oc_parting kV_parting dc_parting pm_parting cd_parting ct_parting : Value}
    {f_crossing : Addr} {od_crossing an_crossing : Option Addr} {sl_crossing : Array (Option Value)} {oc_crossing kV_crossing dc_crossing pm_crossing cd_crossing ct_crossing : Value}
    {f_deep : Addr} {od_deep an_deep : Option Addr} {sl_deep : Array (Option Value)} {oc_deep kV_deep dc_deep pm_deep cd_deep ct_deep : Value}
    {f_halve : Addr} {od_halve an_halve : Option Addr} {sl_halve : Array (Option Value)} {oc_halve kV_halve dc_halve pm_halve cd_halve ct_halve : Value}
    {f_sets : Addr} {od_sets an_sets : Option Addr} {sl_sets : Array (Option Value)} {oc_sets kV_sets dc_sets pm_sets cd_sets ct_sets : Value}
    {f_holds : Addr} {od_holds an_holds : Option Addr} {sl_holds : Array (Option Value)} {oc_holds kV_holds dc_holds pm_holds cd_holds ct_holds : Value}
    {f_arounds : Addr} {od_arounds an_arounds : Option Addr} {sl_arounds : Array (Option Value)} {oc_arounds kV_arounds dc_arounds pm_arounds cd_arounds ct_arounds : Value}
    {f_reach : Addr} {od_reach an_reach : Option Addr} {sl_reach : Array (Option Value)} {oc_reach kV_reach dc_reach pm_reach cd_reach ct_reach : Value}
    {f_share : Addr} {od_share an_share : Option Addr} {sl_share : Array (Option Value)} {oc_share kV_share dc_share pm_share cd_share ct_share : Value}
    {f_apart : Addr} {od_apart an_apart : Option Addr} {sl_apart : Array (Option Value)} {oc_apart kV_apart dc_apart pm_apart cd_apart ct_apart : Value}
    {f_firstp : Addr} {od_firstp an_firstp : Option Addr} {sl_firstp : Array (Option Value)} {oc_firstp kV_firstp dc_firstp pm_firstp cd_firstp ct_firstp : Value}
    {f_behind : Addr} {od_behind an_behind : Option Addr} {sl_behind : Array (Option Value)} {oc_behind kV_behind dc_behind pm_behind cd_behind ct_behind : Value}
    {f_fit : Addr} {od_fit an_fit : Option Addr} {sl_fit : Array (Option Value)} {oc_fit kV_fit dc_fit pm_fit cd_fit ct_fit : Value}
    {f_setsof : Addr} {od_setsof an_setsof : Option Addr} {sl_setsof : Array (Option Value)} {oc_setsof kV_setsof dc_setsof pm_setsof cd_setsof ct_setsof : Value}
    {f_below : Addr} {od_below an_below : Option Addr} {sl_below : Array (Option Value)} {oc_below kV_below dc_below pm_below cd_below ct_below : Value}
    {f_between : Addr} {od_between an_between : Option Addr} {sl_between : Array (Option Value)} {oc_between kV_between dc_between pm_between cd_between ct_between : Value}
    {f_amid : Addr} {od_amid an_amid : Option Addr} {sl_amid : Array (Option Value)} {oc_amid kV_amid dc_amid pm_amid cd_amid ct_amid : Value}
    {f_with : Addr} {od_with an_with : Option Addr} {sl_with : Array (Option Value)} {oc_with kV_with dc_with pm_with cd_with ct_with : Value}
    {f_around : Addr} {od_around an_around : Option Addr} {sl_around : Array (Option Value)} {oc_around kV_around dc_around pm_around cd_around ct_around : Value}
    {f_rinit : Addr} {od_rinit an_rinit : Option Addr} {sl_rinit : Array (Option Value)} {oc_rinit kV_rinit dc_rinit pm_rinit cd_rinit ct_rinit : Value}
    {f_more : Addr} {od_more an_more : Option Addr} {sl_more : Array (Option Value)} {oc_more kV_more dc_more pm_more cd_more ct_more : Value}
    {f_take : Addr} {od_take an_take : Option Addr} {sl_take : Array (Option Value)} {oc_take kV_take dc_take pm_take cd_take ct_take : Value}
    {f_several : Addr} {od_several an_several : Option Addr} {sl_several : Array (Option Value)} {oc_several kV_several dc_several pm_several cd_several ct_several : Value}
    {f_row : Addr} {od_row an_row : Option Addr} {sl_row : Array (Option Value)} {oc_row kV_row dc_row pm_row cd_row ct_row : Value}
    {f_arepts : Addr} {od_arepts an_arepts : Option Addr} {sl_arepts : Array (Option Value)} {oc_arepts kV_arepts dc_arepts pm_arepts cd_arepts ct_arepts : Value}
    {f_paired : Addr} {od_paired an_paired : Option Addr} {sl_paired : Array (Option Value)} {oc_paired kV_paired dc_paired pm_paired cd_paired ct_paired : Value}
    {f_isplace : Addr} {od_isplace an_isplace : Option Addr} {sl_isplace : Array (Option Value)} {oc_isplace kV_isplace dc_isplace pm_isplace cd_isplace ct_isplace : Value}
    {f_isline : Addr} {od_isline an_isline : Option Addr} {sl_isline : Array (Option Value)} {oc_isline kV_isline dc_isline pm_isline cd_isline ct_isline : Value}
    {f_members : Addr} {od_members an_members : Option Addr} {sl_members : Array (Option Value)} {oc_members kV_members dc_members pm_members cd_members ct_members : Value}
    {f_hinit : Addr} {od_hinit an_hinit : Option Addr} {sl_hinit : Array (Option Value)} {oc_hinit kV_hinit dc_hinit pm_hinit cd_hinit ct_hinit : Value}
    {f_put : Addr} {od_put an_put : Option Addr} {sl_put : Array (Option Value)} {oc_put kV_put dc_put pm_put cd_put ct_put : Value}
    {f_within : Addr} {od_within an_within : Option Addr} {sl_within : Array (Option Value)} {oc_within kV_within dc_within pm_within cd_within ct_within : Value}
    {f_three : Addr} {od_three an_three : Option Addr} {sl_three : Array (Option Value)} {oc_three kV_three dc_three pm_three cd_three ct_three : Value}
    {f_hdepth : Addr} {od_hdepth an_hdepth : Option Addr} {sl_hdepth : Array (Option Value)} {oc_hdepth kV_hdepth dc_hdepth pm_hdepth cd_hdepth ct_hdepth : Value}
    {f_hdeep : Addr} {od_hdeep an_hdeep : Option Addr} {sl_hdeep : Array (Option Value)} {oc_hdeep kV_hdeep dc_hdeep pm_hdeep cd_hdeep ct_hdeep : Value}
    {f_hpart : Addr} {od_hpart an_hpart : Option Addr} {sl_hpart : Array (Option Value)} {oc_hpart kV_hpart dc_hpart pm_hpart cd_hpart ct_hpart : Value}
    {f_hmeet : Addr} {od_hmeet an_hmeet : Option Addr} {sl_hmeet : Array (Option Value)} {oc_hmeet kV_hmeet dc_hmeet pm_hmeet cd_hmeet ct_hmeet : Value}
    {f_hhalve : Addr} {od_hhalve an_hhalve : Option Addr} {sl_hhalve : Array (Option Value)} {oc_hhalve kV_hhalve dc_hhalve pm_hhalve cd_hhalve ct_hhalve : Value}
    {f_hasset : Addr} {od_hasset an_hasset : Option Addr} {sl_hasset : Array (Option Value)} {oc_hasset kV_hasset dc_hasset pm_hasset cd_hasset ct_hasset : Value}
    {f_hassets : Addr} {od_hassets an_hassets : Option Addr} {sl_hassets : Array (Option Value)} {oc_hassets kV_hassets dc_hassets pm_hassets cd_hassets ct_hassets : Value}
    {f_pointsof : Addr} {od_pointsof an_pointsof : Option Addr} {sl_pointsof : Array (Option Value)} {oc_pointsof kV_pointsof dc_pointsof pm_pointsof cd_pointsof ct_pointsof : Value}
    {f_next : Addr} {od_next an_next : Option Addr} {sl_next : Array (Option Value)} {oc_next kV_next dc_next pm_next cd_next ct_next : Value}
    {f_ans : Addr} {od_ans an_ans : Option Addr} {sl_ans : Array (Option Value)} {oc_ans kV_ans dc_ans pm_ans cd_ans ct_ans : Value}
    {t_POINTS : Tok}
    {t_IN : Tok}
    {t_THREE : Tok}
    {t_DEPTH : Tok}
    {t_DEEPEST : Tok}
    {t_PARTED : Tok}
    {t_MEET : Tok}
    {t_HALVES : Tok}
    {t_WRONG : Tok}
    {t_NO_POINTS : Tok}
    {t_MOST_POINTS : Tok}
    {t_MOST_SETS : Tok}
    {t_FARTHEST_POINT : Tok}
    {t_FARTHEST_PLACE : Tok}
    (aC_R : PySem.W.nsIn K mainGlobals "Reader" = some (some (.ref C_R)))
    (aC_H : PySem.W.nsIn K mainGlobals "Heap" = some (some (.ref C_H)))
    (a_arrows : PySem.W.nsIn K mainGlobals "arrows_from" = some (some (.ref f_arrows)))
    (l_arrows : K.lookup f_arrows = some ⟨oc_arrows, od_arrows, .func (PySem.W.fnOf "arrows_from" "arrows_from" (defArgs sArrows) (defBody sArrows) (defScope sArrows) .none kV_arrows dc_arrows pm_arrows an_arrows cd_arrows ct_arrows), sl_arrows⟩)
    (c_arrows : PySem.W.codeIn K cd_arrows "arrows_from" = true)
    (k_arrows : PySem.W.keepIn K (.ref f_arrows) = true)
    (a_betw : PySem.W.nsIn K mainGlobals "arrow_between" = some (some (.ref f_betw)))
    (l_betw : K.lookup f_betw = some ⟨oc_betw, od_betw, .func (PySem.W.fnOf "arrow_between" "arrow_between" (defArgs sBetw) (defBody sBetw) (defScope sBetw) .none kV_betw dc_betw pm_betw an_betw cd_betw ct_betw), sl_betw⟩)
    (c_betw : PySem.W.codeIn K cd_betw "arrow_between" = true)
    (k_betw : PySem.W.keepIn K (.ref f_betw) = true)
    (a_nothing : PySem.W.nsIn K mainGlobals "is_nothing" = some (some (.ref f_nothing)))
    (l_nothing : K.lookup f_nothing = some ⟨oc_nothing, od_nothing, .func (PySem.W.fnOf "is_nothing" "is_nothing" (defArgs sNothing) (defBody sNothing) (defScope sNothing) .none kV_nothing dc_nothing pm_nothing an_nothing cd_nothing ct_nothing), sl_nothing⟩)
    (c_nothing : PySem.W.codeIn K cd_nothing "is_nothing" = true)
    (k_nothing : PySem.W.keepIn K (.ref f_nothing) = true)
    (a_cross : PySem.W.nsIn K mainGlobals "cross" = some (some (.ref f_cross)))
    (l_cross : K.lookup f_cross = some ⟨oc_cross, od_cross, .func (PySem.W.fnOf "cross" "cross" (defArgs sCross) (defBody sCross) (defScope sCross) .none kV_cross dc_cross pm_cross an_cross cd_cross ct_cross), sl_cross⟩)
    (c_cross : PySem.W.codeIn K cd_cross "cross" = true)
    (k_cross : PySem.W.keepIn K (.ref f_cross) = true)
    (a_dot : PySem.W.nsIn K mainGlobals "dot" = some (some (.ref f_dot)))
    (l_dot : K.lookup f_dot = some ⟨oc_dot, od_dot, .func (PySem.W.fnOf "dot" "dot" (defArgs sDot) (defBody sDot) (defScope sDot) .none kV_dot dc_dot pm_dot an_dot cd_dot ct_dot), sl_dot⟩)
    (c_dot : PySem.W.codeIn K cd_dot "dot" = true)
    (k_dot : PySem.W.keepIn K (.ref f_dot) = true)
    (a_fewest : PySem.W.nsIn K mainGlobals "fewest_beside" = some (some (.ref f_fewest)))
    (l_fewest : K.lookup f_fewest = some ⟨oc_fewest, od_fewest, .func (PySem.W.fnOf "fewest_beside" "fewest_beside" (defArgs sFewest) (defBody sFewest) (defScope sFewest) .none kV_fewest dc_fewest pm_fewest an_fewest cd_fewest ct_fewest), sl_fewest⟩)
    (c_fewest : PySem.W.codeIn K cd_fewest "fewest_beside" = true)
    (k_fewest : PySem.W.keepIn K (.ref f_fewest) = true)
    (a_depth : PySem.W.nsIn K mainGlobals "depth_among" = some (some (.ref f_depth)))
    (l_depth : K.lookup f_depth = some ⟨oc_depth, od_depth, .func (PySem.W.fnOf "depth_among" "depth_among" (defArgs sDepth) (defBody sDepth) (defScope sDepth) .none kV_depth dc_depth pm_depth an_depth cd_depth ct_depth), sl_depth⟩)
    (c_depth : PySem.W.codeIn K cd_depth "depth_among" = true)
    (k_depth : PySem.W.keepIn K (.ref f_depth) = true)
    (a_tell : PySem.W.nsIn K mainGlobals "telling_places" = some (some (.ref f_tell)))
    (l_tell : K.lookup f_tell = some ⟨oc_tell, od_tell, .func (PySem.W.fnOf "telling_places" "telling_places" (defArgs sTell) (defBody sTell) (defScope sTell) .none kV_tell dc_tell pm_tell an_tell cd_tell ct_tell), sl_tell⟩)
    (c_tell : PySem.W.codeIn K cd_tell "telling_places" = true)
    (k_tell : PySem.W.keepIn K (.ref f_tell) = true)
    (a_strs : PySem.W.nsIn K mainGlobals "stretches_between" = some (some (.ref f_strs)))
    (l_strs : K.lookup f_strs = some ⟨oc_strs, od_strs, .func (PySem.W.fnOf "stretches_between" "stretches_between" (defArgs sStrs) (defBody sStrs) (defScope sStrs) .none kV_strs dc_strs pm_strs an_strs cd_strs ct_strs), sl_strs⟩)
    (c_strs : PySem.W.codeIn K cd_strs "stretches_between" = true)
    (k_strs : PySem.W.keepIn K (.ref f_strs) = true)
    (a_docross : PySem.W.nsIn K mainGlobals "do_cross" = some (some (.ref f_docross)))
    (l_docross : K.lookup f_docross = some ⟨oc_docross, od_docross, .func (PySem.W.fnOf "do_cross" "do_cross" (defArgs sDoCross) (defBody sDoCross) (defScope sDoCross) .none kV_docross dc_docross pm_docross an_docross cd_docross ct_docross), sl_docross⟩)
    (c_docross : PySem.W.codeIn K cd_docross "do_cross" = true)
    (k_docross : PySem.W.keepIn K (.ref f_docross) = true)
    (a_parting : PySem.W.nsIn K mainGlobals "is_parting" = some (some (.ref f_parting)))
    (l_parting : K.lookup f_parting = some ⟨oc_parting, od_parting, .func (PySem.W.fnOf "is_parting" "is_parting" (defArgs sPart) (defBody sPart) (defScope sPart) .none kV_parting dc_parting pm_parting an_parting cd_parting ct_parting), sl_parting⟩)
    (c_parting : PySem.W.codeIn K cd_parting "is_parting" = true)
    (k_parting : PySem.W.keepIn K (.ref f_parting) = true)
    (a_crossing : PySem.W.nsIn K mainGlobals "crossing" = some (some (.ref f_crossing)))
    (l_crossing : K.lookup f_crossing = some ⟨oc_crossing, od_crossing, .func (PySem.W.fnOf "crossing" "crossing" (defArgs sCrossing) (defBody sCrossing) (defScope sCrossing) .none kV_crossing dc_crossing pm_crossing an_crossing cd_crossing ct_crossing), sl_crossing⟩)
    (c_crossing : PySem.W.codeIn K cd_crossing "crossing" = true)
    (k_crossing : PySem.W.keepIn K (.ref f_crossing) = true)
    (a_deep : PySem.W.nsIn K mainGlobals "deepest_among" = some (some (.ref f_deep)))
    (l_deep : K.lookup f_deep = some ⟨oc_deep, od_deep, .func (PySem.W.fnOf "deepest_among" "deepest_among" (defArgs sDeep) (defBody sDeep) (defScope sDeep) .none kV_deep dc_deep pm_deep an_deep cd_deep ct_deep), sl_deep⟩)
    (c_deep : PySem.W.codeIn K cd_deep "deepest_among" = true)
    (k_deep : PySem.W.keepIn K (.ref f_deep) = true)
    (a_halve : PySem.W.nsIn K mainGlobals "does_halve" = some (some (.ref f_halve)))
    (l_halve : K.lookup f_halve = some ⟨oc_halve, od_halve, .func (PySem.W.fnOf "does_halve" "does_halve" (defArgs sHalve) (defBody sHalve) (defScope sHalve) .none kV_halve dc_halve pm_halve an_halve cd_halve ct_halve), sl_halve⟩)
    (c_halve : PySem.W.codeIn K cd_halve "does_halve" = true)
    (k_halve : PySem.W.keepIn K (.ref f_halve) = true)
    (a_sets : PySem.W.nsIn K mainGlobals "sets_around" = some (some (.ref f_sets)))
    (l_sets : K.lookup f_sets = some ⟨oc_sets, od_sets, .func (PySem.W.fnOf "sets_around" "sets_around" (defArgs sSets) (defBody sSets) (defScope sSets) .none kV_sets dc_sets pm_sets an_sets cd_sets ct_sets), sl_sets⟩)
    (c_sets : PySem.W.codeIn K cd_sets "sets_around" = true)
    (k_sets : PySem.W.keepIn K (.ref f_sets) = true)
    (a_holds : PySem.W.nsIn K mainGlobals "holds_one" = some (some (.ref f_holds)))
    (l_holds : K.lookup f_holds = some ⟨oc_holds, od_holds, .func (PySem.W.fnOf "holds_one" "holds_one" (defArgs sHolds) (defBody sHolds) (defScope sHolds) .none kV_holds dc_holds pm_holds an_holds cd_holds ct_holds), sl_holds⟩)
    (c_holds : PySem.W.codeIn K cd_holds "holds_one" = true)
    (k_holds : PySem.W.keepIn K (.ref f_holds) = true)
    (a_arounds : PySem.W.nsIn K mainGlobals "arounds_of" = some (some (.ref f_arounds)))
    (l_arounds : K.lookup f_arounds = some ⟨oc_arounds, od_arounds, .func (PySem.W.fnOf "arounds_of" "arounds_of" (defArgs sArounds) (defBody sArounds) (defScope sArounds) .none kV_arounds dc_arounds pm_arounds an_arounds cd_arounds ct_arounds), sl_arounds⟩)
    (c_arounds : PySem.W.codeIn K cd_arounds "arounds_of" = true)
    (k_arounds : PySem.W.keepIn K (.ref f_arounds) = true)
    (a_reach : PySem.W.nsIn K mainGlobals "reach_of" = some (some (.ref f_reach)))
    (l_reach : K.lookup f_reach = some ⟨oc_reach, od_reach, .func (PySem.W.fnOf "reach_of" "reach_of" (defArgs sReach) (defBody sReach) (defScope sReach) .none kV_reach dc_reach pm_reach an_reach cd_reach ct_reach), sl_reach⟩)
    (c_reach : PySem.W.codeIn K cd_reach "reach_of" = true)
    (k_reach : PySem.W.keepIn K (.ref f_reach) = true)
    (a_share : PySem.W.nsIn K mainGlobals "share_a_place" = some (some (.ref f_share)))
    (l_share : K.lookup f_share = some ⟨oc_share, od_share, .func (PySem.W.fnOf "share_a_place" "share_a_place" (defArgs sShare) (defBody sShare) (defScope sShare) .none kV_share dc_share pm_share an_share cd_share ct_share), sl_share⟩)
    (c_share : PySem.W.codeIn K cd_share "share_a_place" = true)
    (k_share : PySem.W.keepIn K (.ref f_share) = true)
    (a_apart : PySem.W.nsIn K mainGlobals "first_apart" = some (some (.ref f_apart)))
    (l_apart : K.lookup f_apart = some ⟨oc_apart, od_apart, .func (PySem.W.fnOf "first_apart" "first_apart" (defArgs sApart) (defBody sApart) (defScope sApart) .none kV_apart dc_apart pm_apart an_apart cd_apart ct_apart), sl_apart⟩)
    (c_apart : PySem.W.codeIn K cd_apart "first_apart" = true)
    (k_apart : PySem.W.keepIn K (.ref f_apart) = true)
    (a_firstp : PySem.W.nsIn K mainGlobals "first_parting" = some (some (.ref f_firstp)))
    (l_firstp : K.lookup f_firstp = some ⟨oc_firstp, od_firstp, .func (PySem.W.fnOf "first_parting" "first_parting" (defArgs sFirstP) (defBody sFirstP) (defScope sFirstP) .none kV_firstp dc_firstp pm_firstp an_firstp cd_firstp ct_firstp), sl_firstp⟩)
    (c_firstp : PySem.W.codeIn K cd_firstp "first_parting" = true)
    (k_firstp : PySem.W.keepIn K (.ref f_firstp) = true)
    (a_behind : PySem.W.nsIn K mainGlobals "row_behind" = some (some (.ref f_behind)))
    (l_behind : K.lookup f_behind = some ⟨oc_behind, od_behind, .func (PySem.W.fnOf "row_behind" "row_behind" (defArgs sBehind) (defBody sBehind) (defScope sBehind) .none kV_behind dc_behind pm_behind an_behind cd_behind ct_behind), sl_behind⟩)
    (c_behind : PySem.W.codeIn K cd_behind "row_behind" = true)
    (k_behind : PySem.W.keepIn K (.ref f_behind) = true)
    (a_fit : PySem.W.nsIn K mainGlobals "is_fit" = some (some (.ref f_fit)))
    (l_fit : K.lookup f_fit = some ⟨oc_fit, od_fit, .func (PySem.W.fnOf "is_fit" "is_fit" (defArgs sFit) (defBody sFit) (defScope sFit) .none kV_fit dc_fit pm_fit an_fit cd_fit ct_fit), sl_fit⟩)
    (c_fit : PySem.W.codeIn K cd_fit "is_fit" = true)
    (k_fit : PySem.W.keepIn K (.ref f_fit) = true)
    (a_setsof : PySem.W.nsIn K mainGlobals "sets_of" = some (some (.ref f_setsof)))
    (l_setsof : K.lookup f_setsof = some ⟨oc_setsof, od_setsof, .func (PySem.W.fnOf "sets_of" "sets_of" (defArgs sSetsOf) (defBody sSetsOf) (defScope sSetsOf) .none kV_setsof dc_setsof pm_setsof an_setsof cd_setsof ct_setsof), sl_setsof⟩)
    (c_setsof : PySem.W.codeIn K cd_setsof "sets_of" = true)
    (k_setsof : PySem.W.keepIn K (.ref f_setsof) = true)
    (a_below : PySem.W.nsIn K mainGlobals "members_below" = some (some (.ref f_below)))
    (l_below : K.lookup f_below = some ⟨oc_below, od_below, .func (PySem.W.fnOf "members_below" "members_below" (defArgs sBelow) (defBody sBelow) (defScope sBelow) .none kV_below dc_below pm_below an_below cd_below ct_below), sl_below⟩)
    (c_below : PySem.W.codeIn K cd_below "members_below" = true)
    (k_below : PySem.W.keepIn K (.ref f_below) = true)
    (a_between : PySem.W.nsIn K mainGlobals "is_between" = some (some (.ref f_between)))
    (l_between : K.lookup f_between = some ⟨oc_between, od_between, .func (PySem.W.fnOf "is_between" "is_between" (defArgs sBetween) (defBody sBetween) (defScope sBetween) .none kV_between dc_between pm_between an_between cd_between ct_between), sl_between⟩)
    (c_between : PySem.W.codeIn K cd_between "is_between" = true)
    (k_between : PySem.W.keepIn K (.ref f_between) = true)
    (a_amid : PySem.W.nsIn K mainGlobals "is_amid" = some (some (.ref f_amid)))
    (l_amid : K.lookup f_amid = some ⟨oc_amid, od_amid, .func (PySem.W.fnOf "is_amid" "is_amid" (defArgs sAmid) (defBody sAmid) (defScope sAmid) .none kV_amid dc_amid pm_amid an_amid cd_amid ct_amid), sl_amid⟩)
    (c_amid : PySem.W.codeIn K cd_amid "is_amid" = true)
    (k_amid : PySem.W.keepIn K (.ref f_amid) = true)
    (a_with : PySem.W.nsIn K mainGlobals "least_around_with" = some (some (.ref f_with)))
    (l_with : K.lookup f_with = some ⟨oc_with, od_with, .func (PySem.W.fnOf "least_around_with" "least_around_with" (defArgs sWith) (defBody sWith) (defScope sWith) .none kV_with dc_with pm_with an_with cd_with ct_with), sl_with⟩)
    (c_with : PySem.W.codeIn K cd_with "least_around_with" = true)
    (k_with : PySem.W.keepIn K (.ref f_with) = true)
    (a_around : PySem.W.nsIn K mainGlobals "least_around" = some (some (.ref f_around)))
    (l_around : K.lookup f_around = some ⟨oc_around, od_around, .func (PySem.W.fnOf "least_around" "least_around" (defArgs sAround) (defBody sAround) (defScope sAround) .none kV_around dc_around pm_around an_around cd_around ct_around), sl_around⟩)
    (c_around : PySem.W.codeIn K cd_around "least_around" = true)
    (k_around : PySem.W.keepIn K (.ref f_around) = true)
    (a_rinit : PySem.W.findIn K (.ref C_R) "__init__" = some (some (.ref f_rinit)))
    (i_rinit : PySem.W.isFn K (.ref f_rinit) = true)
    (l_rinit : K.lookup f_rinit = some ⟨oc_rinit, od_rinit, .func (PySem.W.fnOf "__init__" "Reader.__init__" (defArgs sRInit) (defBody sRInit) (defScope sRInit) .none kV_rinit dc_rinit pm_rinit an_rinit cd_rinit ct_rinit), sl_rinit⟩)
    (c_rinit : PySem.W.codeIn K cd_rinit "Reader.__init__" = true)
    (k_rinit : PySem.W.keepIn K (.ref f_rinit) = true)
    (a_more : PySem.W.findIn K (.ref C_R) "has_more" = some (some (.ref f_more)))
    (i_more : PySem.W.isFn K (.ref f_more) = true)
    (l_more : K.lookup f_more = some ⟨oc_more, od_more, .func (PySem.W.fnOf "has_more" "Reader.has_more" (defArgs sMore) (defBody sMore) (defScope sMore) .none kV_more dc_more pm_more an_more cd_more ct_more), sl_more⟩)
    (c_more : PySem.W.codeIn K cd_more "Reader.has_more" = true)
    (k_more : PySem.W.keepIn K (.ref f_more) = true)
    (a_take : PySem.W.findIn K (.ref C_R) "take" = some (some (.ref f_take)))
    (i_take : PySem.W.isFn K (.ref f_take) = true)
    (l_take : K.lookup f_take = some ⟨oc_take, od_take, .func (PySem.W.fnOf "take" "Reader.take" (defArgs sTake) (defBody sTake) (defScope sTake) .none kV_take dc_take pm_take an_take cd_take ct_take), sl_take⟩)
    (c_take : PySem.W.codeIn K cd_take "Reader.take" = true)
    (k_take : PySem.W.keepIn K (.ref f_take) = true)
    (a_several : PySem.W.findIn K (.ref C_R) "take_several" = some (some (.ref f_several)))
    (i_several : PySem.W.isFn K (.ref f_several) = true)
    (l_several : K.lookup f_several = some ⟨oc_several, od_several, .func (PySem.W.fnOf "take_several" "Reader.take_several" (defArgs sSeveral) (defBody sSeveral) (defScope sSeveral) .none kV_several dc_several pm_several an_several cd_several ct_several), sl_several⟩)
    (c_several : PySem.W.codeIn K cd_several "Reader.take_several" = true)
    (k_several : PySem.W.keepIn K (.ref f_several) = true)
    (a_row : PySem.W.findIn K (.ref C_R) "take_row" = some (some (.ref f_row)))
    (i_row : PySem.W.isFn K (.ref f_row) = true)
    (l_row : K.lookup f_row = some ⟨oc_row, od_row, .func (PySem.W.fnOf "take_row" "Reader.take_row" (defArgs sRow) (defBody sRow) (defScope sRow) .none kV_row dc_row pm_row an_row cd_row ct_row), sl_row⟩)
    (c_row : PySem.W.codeIn K cd_row "Reader.take_row" = true)
    (k_row : PySem.W.keepIn K (.ref f_row) = true)
    (a_arepts : PySem.W.nsIn K mainGlobals "are_points" = some (some (.ref f_arepts)))
    (l_arepts : K.lookup f_arepts = some ⟨oc_arepts, od_arepts, .func (PySem.W.fnOf "are_points" "are_points" (defArgs sArePts) (defBody sArePts) (defScope sArePts) .none kV_arepts dc_arepts pm_arepts an_arepts cd_arepts ct_arepts), sl_arepts⟩)
    (c_arepts : PySem.W.codeIn K cd_arepts "are_points" = true)
    (k_arepts : PySem.W.keepIn K (.ref f_arepts) = true)
    (a_paired : PySem.W.nsIn K mainGlobals "paired" = some (some (.ref f_paired)))
    (l_paired : K.lookup f_paired = some ⟨oc_paired, od_paired, .func (PySem.W.fnOf "paired" "paired" (defArgs sPaired) (defBody sPaired) (defScope sPaired) .none kV_paired dc_paired pm_paired an_paired cd_paired ct_paired), sl_paired⟩)
    (c_paired : PySem.W.codeIn K cd_paired "paired" = true)
    (k_paired : PySem.W.keepIn K (.ref f_paired) = true)
    (a_isplace : PySem.W.nsIn K mainGlobals "is_place" = some (some (.ref f_isplace)))
    (l_isplace : K.lookup f_isplace = some ⟨oc_isplace, od_isplace, .func (PySem.W.fnOf "is_place" "is_place" (defArgs sIsPlace) (defBody sIsPlace) (defScope sIsPlace) .none kV_isplace dc_isplace pm_isplace an_isplace cd_isplace ct_isplace), sl_isplace⟩)
    (c_isplace : PySem.W.codeIn K cd_isplace "is_place" = true)
    (k_isplace : PySem.W.keepIn K (.ref f_isplace) = true)
    (a_isline : PySem.W.nsIn K mainGlobals "is_line" = some (some (.ref f_isline)))
    (l_isline : K.lookup f_isline = some ⟨oc_isline, od_isline, .func (PySem.W.fnOf "is_line" "is_line" (defArgs sIsLine) (defBody sIsLine) (defScope sIsLine) .none kV_isline dc_isline pm_isline an_isline cd_isline ct_isline), sl_isline⟩)
    (c_isline : PySem.W.codeIn K cd_isline "is_line" = true)
    (k_isline : PySem.W.keepIn K (.ref f_isline) = true)
    (a_members : PySem.W.nsIn K mainGlobals "members_of" = some (some (.ref f_members)))
    (l_members : K.lookup f_members = some ⟨oc_members, od_members, .func (PySem.W.fnOf "members_of" "members_of" (defArgs sMembers) (defBody sMembers) (defScope sMembers) .none kV_members dc_members pm_members an_members cd_members ct_members), sl_members⟩)
    (c_members : PySem.W.codeIn K cd_members "members_of" = true)
    (k_members : PySem.W.keepIn K (.ref f_members) = true)
    (a_hinit : PySem.W.findIn K (.ref C_H) "__init__" = some (some (.ref f_hinit)))
    (i_hinit : PySem.W.isFn K (.ref f_hinit) = true)
    (l_hinit : K.lookup f_hinit = some ⟨oc_hinit, od_hinit, .func (PySem.W.fnOf "__init__" "Heap.__init__" (defArgs sHInit) (defBody sHInit) (defScope sHInit) .none kV_hinit dc_hinit pm_hinit an_hinit cd_hinit ct_hinit), sl_hinit⟩)
    (c_hinit : PySem.W.codeIn K cd_hinit "Heap.__init__" = true)
    (k_hinit : PySem.W.keepIn K (.ref f_hinit) = true)
    (a_put : PySem.W.findIn K (.ref C_H) "put" = some (some (.ref f_put)))
    (i_put : PySem.W.isFn K (.ref f_put) = true)
    (l_put : K.lookup f_put = some ⟨oc_put, od_put, .func (PySem.W.fnOf "put" "Heap.put" (defArgs sPut) (defBody sPut) (defScope sPut) .none kV_put dc_put pm_put an_put cd_put ct_put), sl_put⟩)
    (c_put : PySem.W.codeIn K cd_put "Heap.put" = true)
    (k_put : PySem.W.keepIn K (.ref f_put) = true)
    (a_within : PySem.W.findIn K (.ref C_H) "within" = some (some (.ref f_within)))
    (i_within : PySem.W.isFn K (.ref f_within) = true)
    (l_within : K.lookup f_within = some ⟨oc_within, od_within, .func (PySem.W.fnOf "within" "Heap.within" (defArgs sWithin) (defBody sWithin) (defScope sWithin) .none kV_within dc_within pm_within an_within cd_within ct_within), sl_within⟩)
    (c_within : PySem.W.codeIn K cd_within "Heap.within" = true)
    (k_within : PySem.W.keepIn K (.ref f_within) = true)
    (a_three : PySem.W.findIn K (.ref C_H) "three" = some (some (.ref f_three)))
    (i_three : PySem.W.isFn K (.ref f_three) = true)
    (l_three : K.lookup f_three = some ⟨oc_three, od_three, .func (PySem.W.fnOf "three" "Heap.three" (defArgs sThree) (defBody sThree) (defScope sThree) .none kV_three dc_three pm_three an_three cd_three ct_three), sl_three⟩)
    (c_three : PySem.W.codeIn K cd_three "Heap.three" = true)
    (k_three : PySem.W.keepIn K (.ref f_three) = true)
    (a_hdepth : PySem.W.findIn K (.ref C_H) "depth" = some (some (.ref f_hdepth)))
    (i_hdepth : PySem.W.isFn K (.ref f_hdepth) = true)
    (l_hdepth : K.lookup f_hdepth = some ⟨oc_hdepth, od_hdepth, .func (PySem.W.fnOf "depth" "Heap.depth" (defArgs sHDepth) (defBody sHDepth) (defScope sHDepth) .none kV_hdepth dc_hdepth pm_hdepth an_hdepth cd_hdepth ct_hdepth), sl_hdepth⟩)
    (c_hdepth : PySem.W.codeIn K cd_hdepth "Heap.depth" = true)
    (k_hdepth : PySem.W.keepIn K (.ref f_hdepth) = true)
    (a_hdeep : PySem.W.findIn K (.ref C_H) "deepest" = some (some (.ref f_hdeep)))
    (i_hdeep : PySem.W.isFn K (.ref f_hdeep) = true)
    (l_hdeep : K.lookup f_hdeep = some ⟨oc_hdeep, od_hdeep, .func (PySem.W.fnOf "deepest" "Heap.deepest" (defArgs sHDeep) (defBody sHDeep) (defScope sHDeep) .none kV_hdeep dc_hdeep pm_hdeep an_hdeep cd_hdeep ct_hdeep), sl_hdeep⟩)
    (c_hdeep : PySem.W.codeIn K cd_hdeep "Heap.deepest" = true)
    (k_hdeep : PySem.W.keepIn K (.ref f_hdeep) = true)
    (a_hpart : PySem.W.findIn K (.ref C_H) "parted" = some (some (.ref f_hpart)))
    (i_hpart : PySem.W.isFn K (.ref f_hpart) = true)
    (l_hpart : K.lookup f_hpart = some ⟨oc_hpart, od_hpart, .func (PySem.W.fnOf "parted" "Heap.parted" (defArgs sHPart) (defBody sHPart) (defScope sHPart) .none kV_hpart dc_hpart pm_hpart an_hpart cd_hpart ct_hpart), sl_hpart⟩)
    (c_hpart : PySem.W.codeIn K cd_hpart "Heap.parted" = true)
    (k_hpart : PySem.W.keepIn K (.ref f_hpart) = true)
    (a_hmeet : PySem.W.findIn K (.ref C_H) "meet" = some (some (.ref f_hmeet)))
    (i_hmeet : PySem.W.isFn K (.ref f_hmeet) = true)
    (l_hmeet : K.lookup f_hmeet = some ⟨oc_hmeet, od_hmeet, .func (PySem.W.fnOf "meet" "Heap.meet" (defArgs sHMeet) (defBody sHMeet) (defScope sHMeet) .none kV_hmeet dc_hmeet pm_hmeet an_hmeet cd_hmeet ct_hmeet), sl_hmeet⟩)
    (c_hmeet : PySem.W.codeIn K cd_hmeet "Heap.meet" = true)
    (k_hmeet : PySem.W.keepIn K (.ref f_hmeet) = true)
    (a_hhalve : PySem.W.findIn K (.ref C_H) "halves" = some (some (.ref f_hhalve)))
    (i_hhalve : PySem.W.isFn K (.ref f_hhalve) = true)
    (l_hhalve : K.lookup f_hhalve = some ⟨oc_hhalve, od_hhalve, .func (PySem.W.fnOf "halves" "Heap.halves" (defArgs sHHalve) (defBody sHHalve) (defScope sHHalve) .none kV_hhalve dc_hhalve pm_hhalve an_hhalve cd_hhalve ct_hhalve), sl_hhalve⟩)
    (c_hhalve : PySem.W.codeIn K cd_hhalve "Heap.halves" = true)
    (k_hhalve : PySem.W.keepIn K (.ref f_hhalve) = true)
    (a_hasset : PySem.W.findIn K (.ref C_H) "has_set" = some (some (.ref f_hasset)))
    (i_hasset : PySem.W.isFn K (.ref f_hasset) = true)
    (l_hasset : K.lookup f_hasset = some ⟨oc_hasset, od_hasset, .func (PySem.W.fnOf "has_set" "Heap.has_set" (defArgs sHasSet) (defBody sHasSet) (defScope sHasSet) .none kV_hasset dc_hasset pm_hasset an_hasset cd_hasset ct_hasset), sl_hasset⟩)
    (c_hasset : PySem.W.codeIn K cd_hasset "Heap.has_set" = true)
    (k_hasset : PySem.W.keepIn K (.ref f_hasset) = true)
    (a_hassets : PySem.W.findIn K (.ref C_H) "has_sets" = some (some (.ref f_hassets)))
    (i_hassets : PySem.W.isFn K (.ref f_hassets) = true)
    (l_hassets : K.lookup f_hassets = some ⟨oc_hassets, od_hassets, .func (PySem.W.fnOf "has_sets" "Heap.has_sets" (defArgs sHasSets) (defBody sHasSets) (defScope sHasSets) .none kV_hassets dc_hassets pm_hassets an_hassets cd_hassets ct_hassets), sl_hassets⟩)
    (c_hassets : PySem.W.codeIn K cd_hassets "Heap.has_sets" = true)
    (k_hassets : PySem.W.keepIn K (.ref f_hassets) = true)
    (a_pointsof : PySem.W.findIn K (.ref C_H) "points_of" = some (some (.ref f_pointsof)))
    (i_pointsof : PySem.W.isFn K (.ref f_pointsof) = true)
    (l_pointsof : K.lookup f_pointsof = some ⟨oc_pointsof, od_pointsof, .func (PySem.W.fnOf "points_of" "Heap.points_of" (defArgs sPointsOf) (defBody sPointsOf) (defScope sPointsOf) .none kV_pointsof dc_pointsof pm_pointsof an_pointsof cd_pointsof ct_pointsof), sl_pointsof⟩)
    (c_pointsof : PySem.W.codeIn K cd_pointsof "Heap.points_of" = true)
    (k_pointsof : PySem.W.keepIn K (.ref f_pointsof) = true)
    (a_next : PySem.W.nsIn K mainGlobals "answer_next" = some (some (.ref f_next)))
    (l_next : K.lookup f_next = some ⟨oc_next, od_next, .func (PySem.W.fnOf "answer_next" "answer_next" (defArgs sNext) (defBody sNext) (defScope sNext) .none kV_next dc_next pm_next an_next cd_next ct_next), sl_next⟩)
    (c_next : PySem.W.codeIn K cd_next "answer_next" = true)
    (k_next : PySem.W.keepIn K (.ref f_next) = true)
    (a_ans : PySem.W.nsIn K mainGlobals "answers" = some (some (.ref f_ans)))
    (l_ans : K.lookup f_ans = some ⟨oc_ans, od_ans, .func (PySem.W.fnOf "answers" "answers" (defArgs sAnswers) (defBody sAnswers) (defScope sAnswers) .none kV_ans dc_ans pm_ans an_ans cd_ans ct_ans), sl_ans⟩)
    (c_ans : PySem.W.codeIn K cd_ans "answers" = true)
    (k_ans : PySem.W.keepIn K (.ref f_ans) = true)
    (pg_R : PySem.W.plainGet K C_R Str.empty = true)
    (hd_R : PySem.W.hasDictIn K C_R = true)
    (po_R : PySem.W.plainOver K C_R = true)
    (sa_R : PySem.W.findIn K (.ref C_R) "__setattr__" = some (some (.builtin "object.__setattr__")))
    (mk_R : PySem.W.makesIn K C_R = true)
    (kc_R : PySem.W.keepIn K (.ref C_R) = true)
    (n_R_numbers : PySem.W.findIn K (.ref C_R) "numbers" = some none)
    (n_R_position : PySem.W.findIn K (.ref C_R) "position" = some none)
    (pg_H : PySem.W.plainGet K C_H Str.empty = true)
    (hd_H : PySem.W.hasDictIn K C_H = true)
    (po_H : PySem.W.plainOver K C_H = true)
    (sa_H : PySem.W.findIn K (.ref C_H) "__setattr__" = some (some (.builtin "object.__setattr__")))
    (mk_H : PySem.W.makesIn K C_H = true)
    (kc_H : PySem.W.keepIn K (.ref C_H) = true)
    (n_H_points : PySem.W.findIn K (.ref C_H) "points" = some none)
    (v_POINTS : PySem.W.nsIn K mainGlobals "POINTS" = some (some (.int (0) t_POINTS)))
    (v_IN : PySem.W.nsIn K mainGlobals "IN" = some (some (.int (1) t_IN)))
    (v_THREE : PySem.W.nsIn K mainGlobals "THREE" = some (some (.int (2) t_THREE)))
    (v_DEPTH : PySem.W.nsIn K mainGlobals "DEPTH" = some (some (.int (3) t_DEPTH)))
    (v_DEEPEST : PySem.W.nsIn K mainGlobals "DEEPEST" = some (some (.int (4) t_DEEPEST)))
    (v_PARTED : PySem.W.nsIn K mainGlobals "PARTED" = some (some (.int (5) t_PARTED)))
    (v_MEET : PySem.W.nsIn K mainGlobals "MEET" = some (some (.int (6) t_MEET)))
    (v_HALVES : PySem.W.nsIn K mainGlobals "HALVES" = some (some (.int (7) t_HALVES)))
    (v_WRONG : PySem.W.nsIn K mainGlobals "WRONG" = some (some (.int (-1) t_WRONG)))
    (v_NO_POINTS : PySem.W.nsIn K mainGlobals "NO_POINTS" = some (some (.int (-4) t_NO_POINTS)))
    (v_MOST_POINTS : PySem.W.nsIn K mainGlobals "MOST_POINTS" = some (some (.int (24) t_MOST_POINTS)))
    (v_MOST_SETS : PySem.W.nsIn K mainGlobals "MOST_SETS" = some (some (.int (16) t_MOST_SETS)))
    (v_FARTHEST_POINT : PySem.W.nsIn K mainGlobals "FARTHEST_POINT" = some (some (.int (10000) t_FARTHEST_POINT)))
    (v_FARTHEST_PLACE : PySem.W.nsIn K mainGlobals "FARTHEST_PLACE" = some (some (.int (1099511627776) t_FARTHEST_PLACE)))
    (z_len : PySem.W.nsIn K mainGlobals "len" = some none)
    (z_min : PySem.W.nsIn K mainGlobals "min" = some none)
    (z_max : PySem.W.nsIn K mainGlobals "max" = some none)
    (z_all : PySem.W.nsIn K mainGlobals "all" = some none)
    (z_any : PySem.W.nsIn K mainGlobals "any" = some none)
    (z_range : PySem.W.nsIn K mainGlobals "range" = some none)
    (z_enumerate : PySem.W.nsIn K mainGlobals "enumerate" = some none)
    (z_sorted : PySem.W.nsIn K mainGlobals "sorted" = some none)
    (z_set : PySem.W.nsIn K mainGlobals "set" = some none) :
    ∃ fd : FuncData, (∀ (s : Shared) (us : List Value), us.length = (["calls"] : List Str).length → BindsTo s fd ⟨us, []⟩ ((["calls"] : List Str).zip us)) ∧ ∀ base : Heap, K.In base → base.Ns mainGlobals mg → FnOk P w K mg base CX0 9 fa fd ["calls"] (spAns K) := by
  have e := hfa.symm.trans (PySem.W.mg_of X G a_ans)
  cases e
  have F_arrows := fun_mk (st := sArrows) l_arrows c_arrows k_arrows
  have b_arrows := F_arrows.binds (ps := ["place", "points"]) fun _ _ _ _ _ _ us hl => by obtain ⟨_, _, rfl⟩ := args2 hl; rfl
  have F_betw := fun_mk (st := sBetw) l_betw c_betw k_betw
  have b_betw := F_betw.binds (ps := ["start", "end"]) fun _ _ _ _ _ _ us hl => by obtain ⟨_, _, rfl⟩ := args2 hl; rfl
  have F_nothing := fun_mk (st := sNothing) l_nothing c_nothing k_nothing
  have b_nothing := F_nothing.binds (ps := ["arrow"]) fun _ _ _ _ _ _ us hl => by obtain ⟨_, rfl⟩ := args1 hl; rfl
  have F_cross := fun_mk (st := sCross) l_cross c_cross k_cross
  have b_cross := F_cross.binds (ps := ["one", "other"]) fun _ _ _ _ _ _ us hl => by obtain ⟨_, _, rfl⟩ := args2 hl; rfl
  have F_dot := fun_mk (st := sDot) l_dot c_dot k_dot
  have b_dot := F_dot.binds (ps := ["one", "other"]) fun _ _ _ _ _ _ us hl => by obtain ⟨_, _, rfl⟩ := args2 hl; rfl
  have F_fewest := fun_mk (st := sFewest) l_fewest c_fewest k_fewest
  have b_fewest := F_fewest.binds (ps := ["along", "arrows"]) fun _ _ _ _ _ _ us hl => by obtain ⟨_, _, rfl⟩ := args2 hl; rfl
  have F_depth := fun_mk (st := sDepth) l_depth c_depth k_depth
  have b_depth := F_depth.binds (ps := ["arrows"]) fun _ _ _ _ _ _ us hl => by obtain ⟨_, rfl⟩ := args1 hl; rfl
  have F_tell := fun_mk (st := sTell) l_tell c_tell k_tell
  have b_tell := F_tell.binds (ps := ["points"]) fun _ _ _ _ _ _ us hl => by obtain ⟨_, rfl⟩ := args1 hl; rfl
  have F_strs := fun_mk (st := sStrs) l_strs c_strs k_strs
  have b_strs := F_strs.binds (ps := ["corners"]) fun _ _ _ _ _ _ us hl => by obtain ⟨_, rfl⟩ := args1 hl; rfl
  have F_docross := fun_mk (st := sDoCross) l_docross c_docross k_docross
  have b_docross := F_docross.binds (ps := ["one", "other"]) fun _ _ _ _ _ _ us hl => by obtain ⟨_, _, rfl⟩ := args2 hl; rfl
  have F_parting := fun_mk (st := sPart) l_parting c_parting k_parting
  have b_parting := F_parting.binds (ps := ["stretch", "other"]) fun _ _ _ _ _ _ us hl => by obtain ⟨_, _, rfl⟩ := args2 hl; rfl
  have F_crossing := fun_mk (st := sCrossing) l_crossing c_crossing k_crossing
  have b_crossing := F_crossing.binds (ps := ["one", "other"]) fun _ _ _ _ _ _ us hl => by obtain ⟨_, _, rfl⟩ := args2 hl; rfl
  have F_deep := fun_mk (st := sDeep) l_deep c_deep k_deep
  have b_deep := F_deep.binds (ps := ["points"]) fun _ _ _ _ _ _ us hl => by obtain ⟨_, rfl⟩ := args1 hl; rfl
  have F_halve := fun_mk (st := sHalve) l_halve c_halve k_halve
  have b_halve := F_halve.binds (ps := ["line", "points"]) fun _ _ _ _ _ _ us hl => by obtain ⟨_, _, rfl⟩ := args2 hl; rfl
  have F_sets := fun_mk (st := sSets) l_sets c_sets k_sets
  have b_sets := F_sets.binds (ps := ["arrows"]) fun _ _ _ _ _ _ us hl => by obtain ⟨_, rfl⟩ := args1 hl; rfl
  have F_holds := fun_mk (st := sHolds) l_holds c_holds k_holds
  have b_holds := F_holds.binds (ps := ["chosen", "around"]) fun _ _ _ _ _ _ us hl => by obtain ⟨_, _, rfl⟩ := args2 hl; rfl
  have F_arounds := fun_mk (st := sArounds) l_arounds c_arounds k_arounds
  have b_arounds := F_arounds.binds (ps := ["points"]) fun _ _ _ _ _ _ us hl => by obtain ⟨_, rfl⟩ := args1 hl; rfl
  have F_reach := fun_mk (st := sReach) l_reach c_reach k_reach
  have b_reach := F_reach.binds (ps := ["chosen", "arounds"]) fun _ _ _ _ _ _ us hl => by obtain ⟨_, _, rfl⟩ := args2 hl; rfl
  have F_share := fun_mk (st := sShare) l_share c_share k_share
  have b_share := F_share.binds (ps := ["reaches"]) fun _ _ _ _ _ _ us hl => by obtain ⟨_, rfl⟩ := args1 hl; rfl
  have F_apart := fun_mk (st := sApart) l_apart c_apart k_apart
  have b_apart := F_apart.binds (ps := ["points", "sets"]) fun _ _ _ _ _ _ us hl => by obtain ⟨_, _, rfl⟩ := args2 hl; rfl
  have F_firstp := fun_mk (st := sFirstP) l_firstp c_firstp k_firstp
  have b_firstp := F_firstp.binds (ps := ["points", "parts"]) fun _ _ _ _ _ _ us hl => by obtain ⟨_, _, rfl⟩ := args2 hl; rfl
  have F_behind := fun_mk (st := sBehind) l_behind c_behind k_behind
  have b_behind := F_behind.binds (ps := ["row", "parts"]) fun _ _ _ _ _ _ us hl => by obtain ⟨_, _, rfl⟩ := args2 hl; rfl
  have F_fit := fun_mk (st := sFit) l_fit c_fit k_fit
  have b_fit := F_fit.binds (ps := ["row", "parts", "arounds"]) fun _ _ _ _ _ _ us hl => by obtain ⟨_, _, _, rfl⟩ := args3 hl; rfl
  have F_setsof := fun_mk (st := sSetsOf) l_setsof c_setsof k_setsof
  have b_setsof := F_setsof.binds (ps := ["row", "parts"]) fun _ _ _ _ _ _ us hl => by obtain ⟨_, _, rfl⟩ := args2 hl; rfl
  have F_below := fun_mk (st := sBelow) l_below c_below k_below
  have b_below := F_below.binds (ps := ["bound", "members"]) fun _ _ _ _ _ _ us hl => by obtain ⟨_, _, rfl⟩ := args2 hl; rfl
  have F_between := fun_mk (st := sBetween) l_between c_between k_between
  have b_between := F_between.binds (ps := ["one", "other"]) fun _ _ _ _ _ _ us hl => by obtain ⟨_, _, rfl⟩ := args2 hl; rfl
  have F_amid := fun_mk (st := sAmid) l_amid c_amid k_amid
  have b_amid := F_amid.binds (ps := ["first", "second", "third"]) fun _ _ _ _ _ _ us hl => by obtain ⟨_, _, _, rfl⟩ := args3 hl; rfl
  have F_with := fun_mk (st := sWith) l_with c_with k_with
  have b_with := F_with.binds (ps := ["top", "arrows", "below"]) fun _ _ _ _ _ _ us hl => by obtain ⟨_, _, _, rfl⟩ := args3 hl; rfl
  have F_around := fun_mk (st := sAround) l_around c_around k_around
  have b_around := F_around.binds (ps := ["arrows", "members"]) fun _ _ _ _ _ _ us hl => by obtain ⟨_, _, rfl⟩ := args2 hl; rfl
  have F_rinit := fun_mk (st := sRInit) l_rinit c_rinit k_rinit
  have b_rinit := F_rinit.binds (ps := ["self", "numbers"]) fun _ _ _ _ _ _ us hl => by obtain ⟨_, _, rfl⟩ := args2 hl; rfl
  have F_more := fun_mk (st := sMore) l_more c_more k_more
  have b_more := F_more.binds (ps := ["self"]) fun _ _ _ _ _ _ us hl => by obtain ⟨_, rfl⟩ := args1 hl; rfl
  have F_take := fun_mk (st := sTake) l_take c_take k_take
  have b_take := F_take.binds (ps := ["self"]) fun _ _ _ _ _ _ us hl => by obtain ⟨_, rfl⟩ := args1 hl; rfl
  have F_several := fun_mk (st := sSeveral) l_several c_several k_several
  have b_several := F_several.binds (ps := ["self", "size"]) fun _ _ _ _ _ _ us hl => by obtain ⟨_, _, rfl⟩ := args2 hl; rfl
  have F_row := fun_mk (st := sRow) l_row c_row k_row
  have b_row := F_row.binds (ps := ["self"]) fun _ _ _ _ _ _ us hl => by obtain ⟨_, rfl⟩ := args1 hl; rfl
  have F_arepts := fun_mk (st := sArePts) l_arepts c_arepts k_arepts
  have b_arepts := F_arepts.binds (ps := ["coordinates"]) fun _ _ _ _ _ _ us hl => by obtain ⟨_, rfl⟩ := args1 hl; rfl
  have F_paired := fun_mk (st := sPaired) l_paired c_paired k_paired
  have b_paired := F_paired.binds (ps := ["coordinates"]) fun _ _ _ _ _ _ us hl => by obtain ⟨_, rfl⟩ := args1 hl; rfl
  have F_isplace := fun_mk (st := sIsPlace) l_isplace c_isplace k_isplace
  have b_isplace := F_isplace.binds (ps := ["place"]) fun _ _ _ _ _ _ us hl => by obtain ⟨_, rfl⟩ := args1 hl; rfl
  have F_isline := fun_mk (st := sIsLine) l_isline c_isline k_isline
  have b_isline := F_isline.binds (ps := ["line"]) fun _ _ _ _ _ _ us hl => by obtain ⟨_, rfl⟩ := args1 hl; rfl
  have F_members := fun_mk (st := sMembers) l_members c_members k_members
  have b_members := F_members.binds (ps := ["chosen"]) fun _ _ _ _ _ _ us hl => by obtain ⟨_, rfl⟩ := args1 hl; rfl
  have F_hinit := fun_mk (st := sHInit) l_hinit c_hinit k_hinit
  have b_hinit := F_hinit.binds (ps := ["self"]) fun _ _ _ _ _ _ us hl => by obtain ⟨_, rfl⟩ := args1 hl; rfl
  have F_put := fun_mk (st := sPut) l_put c_put k_put
  have b_put := F_put.binds (ps := ["self", "coordinates"]) fun _ _ _ _ _ _ us hl => by obtain ⟨_, _, rfl⟩ := args2 hl; rfl
  have F_within := fun_mk (st := sWithin) l_within c_within k_within
  have b_within := F_within.binds (ps := ["self", "chosen", "place"]) fun _ _ _ _ _ _ us hl => by obtain ⟨_, _, _, rfl⟩ := args3 hl; rfl
  have F_three := fun_mk (st := sThree) l_three c_three k_three
  have b_three := F_three.binds (ps := ["self", "chosen", "place"]) fun _ _ _ _ _ _ us hl => by obtain ⟨_, _, _, rfl⟩ := args3 hl; rfl
  have F_hdepth := fun_mk (st := sHDepth) l_hdepth c_hdepth k_hdepth
  have b_hdepth := F_hdepth.binds (ps := ["self", "place"]) fun _ _ _ _ _ _ us hl => by obtain ⟨_, _, rfl⟩ := args2 hl; rfl
  have F_hdeep := fun_mk (st := sHDeep) l_hdeep c_hdeep k_hdeep
  have b_hdeep := F_hdeep.binds (ps := ["self"]) fun _ _ _ _ _ _ us hl => by obtain ⟨_, rfl⟩ := args1 hl; rfl
  have F_hpart := fun_mk (st := sHPart) l_hpart c_hpart k_hpart
  have b_hpart := F_hpart.binds (ps := ["self", "parts"]) fun _ _ _ _ _ _ us hl => by obtain ⟨_, _, rfl⟩ := args2 hl; rfl
  have F_hmeet := fun_mk (st := sHMeet) l_hmeet c_hmeet k_hmeet
  have b_hmeet := F_hmeet.binds (ps := ["self", "sets"]) fun _ _ _ _ _ _ us hl => by obtain ⟨_, _, rfl⟩ := args2 hl; rfl
  have F_hhalve := fun_mk (st := sHHalve) l_hhalve c_hhalve k_hhalve
  have b_hhalve := F_hhalve.binds (ps := ["self", "sets", "line"]) fun _ _ _ _ _ _ us hl => by obtain ⟨_, _, _, rfl⟩ := args3 hl; rfl
  have F_hasset := fun_mk (st := sHasSet) l_hasset c_hasset k_hasset
  have b_hasset := F_hasset.binds (ps := ["self", "chosen"]) fun _ _ _ _ _ _ us hl => by obtain ⟨_, _, rfl⟩ := args2 hl; rfl
  have F_hassets := fun_mk (st := sHasSets) l_hassets c_hassets k_hassets
  have b_hassets := F_hassets.binds (ps := ["self", "sets"]) fun _ _ _ _ _ _ us hl => by obtain ⟨_, _, rfl⟩ := args2 hl; rfl
  have F_pointsof := fun_mk (st := sPointsOf) l_pointsof c_pointsof k_pointsof
  have b_pointsof := F_pointsof.binds (ps := ["self", "chosen"]) fun _ _ _ _ _ _ us hl => by obtain ⟨_, _, rfl⟩ := args2 hl; rfl
  have F_next := fun_mk (st := sNext) l_next c_next k_next
  have b_next := F_next.binds (ps := ["heap", "reader"]) fun _ _ _ _ _ _ us hl => by obtain ⟨_, _, rfl⟩ := args2 hl; rfl
  have F_ans := fun_mk (st := sAnswers) l_ans c_ans k_ans
  have b_ans := F_ans.binds (ps := ["calls"]) fun _ _ _ _ _ _ us hl => by obtain ⟨_, rfl⟩ := args1 hl; rfl
  have K_POINTS : Const mg "POINTS" (0) := ⟨_, PySem.W.mg_of X G v_POINTS⟩
  have K_IN : Const mg "IN" (1) := ⟨_, PySem.W.mg_of X G v_IN⟩
  have K_THREE : Const mg "THREE" (2) := ⟨_, PySem.W.mg_of X G v_THREE⟩
  have K_DEPTH : Const mg "DEPTH" (3) := ⟨_, PySem.W.mg_of X G v_DEPTH⟩
  have K_DEEPEST : Const mg "DEEPEST" (4) := ⟨_, PySem.W.mg_of X G v_DEEPEST⟩
  have K_PARTED : Const mg "PARTED" (5) := ⟨_, PySem.W.mg_of X G v_PARTED⟩
  have K_MEET : Const mg "MEET" (6) := ⟨_, PySem.W.mg_of X G v_MEET⟩
  have K_HALVES : Const mg "HALVES" (7) := ⟨_, PySem.W.mg_of X G v_HALVES⟩
  have K_WRONG : Const mg "WRONG" (-1) := ⟨_, PySem.W.mg_of X G v_WRONG⟩
  have K_NO_POINTS : Const mg "NO_POINTS" (-4) := ⟨_, PySem.W.mg_of X G v_NO_POINTS⟩
  have K_MOST_POINTS : Const mg "MOST_POINTS" (24) := ⟨_, PySem.W.mg_of X G v_MOST_POINTS⟩
  have K_MOST_SETS : Const mg "MOST_SETS" (16) := ⟨_, PySem.W.mg_of X G v_MOST_SETS⟩
  have K_FARTHEST_POINT : Const mg "FARTHEST_POINT" (10000) := ⟨_, PySem.W.mg_of X G v_FARTHEST_POINT⟩
  have K_FARTHEST_PLACE : Const mg "FARTHEST_PLACE" (1099511627776) := ⟨_, PySem.W.mg_of X G v_FARTHEST_PLACE⟩
  have Z_len : mg "len" = none := PySem.W.mg_none_of X G z_len
  have Z_min : mg "min" = none := PySem.W.mg_none_of X G z_min
  have Z_max : mg "max" = none := PySem.W.mg_none_of X G z_max
  have Z_all : mg "all" = none := PySem.W.mg_none_of X G z_all
  have Z_any : mg "any" = none := PySem.W.mg_none_of X G z_any
  have Z_range : mg "range" = none := PySem.W.mg_none_of X G z_range
  have Z_enumerate : mg "enumerate" = none := PySem.W.mg_none_of X G z_enumerate
  have Z_sorted : mg "sorted" = none := PySem.W.mg_none_of X G z_sorted
  have Z_set : mg "set" = none := PySem.W.mg_none_of X G z_set
  have T_R : RTxt K C_R := ⟨⟨pg_R, hd_R, po_R, sa_R⟩, n_R_numbers, n_R_position⟩
  have T_H : HTxt K C_H := ⟨⟨pg_H, hd_H, po_H, sa_H⟩, n_H_points⟩
  have G_arrows : ∀ base : Heap, FnOk P w K mg base CX0 1 f_arrows _ ["place", "points"] (spArrows K) := fun base => ok_arrows F_arrows 
  have H_arrows : ∀ base : Heap, Has P w K mg base "arrows_from" 1 ["place", "points"] (spArrows K) := fun base => ⟨⟨f_arrows, _, PySem.W.mg_of X G a_arrows, k_arrows, b_arrows, G_arrows base⟩⟩
  have G_nothing : ∀ base : Heap, FnOk P w K mg base CX0 1 f_nothing _ ["arrow"] (spNothing K) := fun base => ok_nothing F_nothing 
  have H_nothing : ∀ base : Heap, Has P w K mg base "is_nothing" 1 ["arrow"] (spNothing K) := fun base => ⟨⟨f_nothing, _, PySem.W.mg_of X G a_nothing, k_nothing, b_nothing, G_nothing base⟩⟩
  have G_cross : ∀ base : Heap, FnOk P w K mg base CX0 1 f_cross _ ["one", "other"] (spPair K fun u v => .int (cross u v)) := fun base => ok_cross F_cross 
  have H_cross : ∀ base : Heap, Has P w K mg base "cross" 1 ["one", "other"] (spPair K fun u v => .int (cross u v)) := fun base => ⟨⟨f_cross, _, PySem.W.mg_of X G a_cross, k_cross, b_cross, G_cross base⟩⟩
  have G_dot : ∀ base : Heap, FnOk P w K mg base CX0 1 f_dot _ ["one", "other"] (spPair K fun u v => .int (dot u v)) := fun base => ok_dot F_dot 
  have H_dot : ∀ base : Heap, Has P w K mg base "dot" 1 ["one", "other"] (spPair K fun u v => .int (dot u v)) := fun base => ⟨⟨f_dot, _, PySem.W.mg_of X G a_dot, k_dot, b_dot, G_dot base⟩⟩
  have G_fewest : ∀ base : Heap, FnOk P w K mg base CX0 2 f_fewest _ ["along", "arrows"] (spFewest K) := fun base => ok_fewest F_fewest (H_cross base) (H_dot base) Z_min
  have H_fewest : ∀ base : Heap, Has P w K mg base "fewest_beside" 2 ["along", "arrows"] (spFewest K) := fun base => ⟨⟨f_fewest, _, PySem.W.mg_of X G a_fewest, k_fewest, b_fewest, G_fewest base⟩⟩
  have G_depth : ∀ base : Heap, FnOk P w K mg base CX0 3 f_depth _ ["arrows"] (spDepth K) := fun base => ok_depth F_depth (H_nothing base) (H_fewest base) Z_min Z_len
  have H_depth : ∀ base : Heap, Has P w K mg base "depth_among" 3 ["arrows"] (spDepth K) := fun base => ⟨⟨f_depth, _, PySem.W.mg_of X G a_depth, k_depth, b_depth, G_depth base⟩⟩
  have G_below : ∀ base : Heap, FnOk P w K mg base CX0 1 f_below _ ["bound", "members"] (spBelow K) := fun base => ok_below F_below 
  have H_below : ∀ base : Heap, Has P w K mg base "members_below" 1 ["bound", "members"] (spBelow K) := fun base => ⟨⟨f_below, _, PySem.W.mg_of X G a_below, k_below, b_below, G_below base⟩⟩
  have G_between : ∀ base : Heap, FnOk P w K mg base CX0 2 f_between _ ["one", "other"] (spPair K fun u v => .bl (isBetween u v)) := fun base => ok_between F_between (H_cross base) (H_dot base)
  have H_between : ∀ base : Heap, Has P w K mg base "is_between" 2 ["one", "other"] (spPair K fun u v => .bl (isBetween u v)) := fun base => ⟨⟨f_between, _, PySem.W.mg_of X G a_between, k_between, b_between, G_between base⟩⟩
  have G_amid : ∀ base : Heap, FnOk P w K mg base CX0 2 f_amid _ ["first", "second", "third"] (spAmid K) := fun base => ok_amid F_amid (H_cross base) Z_min Z_max
  have H_amid : ∀ base : Heap, Has P w K mg base "is_amid" 2 ["first", "second", "third"] (spAmid K) := fun base => ⟨⟨f_amid, _, PySem.W.mg_of X G a_amid, k_amid, b_amid, G_amid base⟩⟩
  have G_with : ∀ base : Heap, FnOk P w K mg base CX0 3 f_with _ ["top", "arrows", "below"] (spWith K) := fun base => ok_with F_with (H_between base) (H_amid base) (H_below base)
  have H_with : ∀ base : Heap, Has P w K mg base "least_around_with" 3 ["top", "arrows", "below"] (spWith K) := fun base => ⟨⟨f_with, _, PySem.W.mg_of X G a_with, k_with, b_with, G_with base⟩⟩
  have G_around : ∀ base : Heap, FnOk P w K mg base CX0 4 f_around _ ["arrows", "members"] (spAround K) := fun base => ok_around F_around (H_nothing base) (H_with base) (H_below base)
  have H_around : ∀ base : Heap, Has P w K mg base "least_around" 4 ["arrows", "members"] (spAround K) := fun base => ⟨⟨f_around, _, PySem.W.mg_of X G a_around, k_around, b_around, G_around base⟩⟩
  have G_rinit : ∀ base : Heap, FnOk P w K mg base CX0 1 f_rinit _ ["self", "numbers"] (spRInit C_R) := fun base => ok_rinit F_rinit T_R
  have G_more : ∀ base : Heap, FnOk P w K mg base CX0 1 f_more _ ["self"] (spMore K C_R) := fun base => ok_more F_more T_R Z_len
  have H_more : ∀ base : Heap, HasM P w K mg base C_R "has_more" 1 ["self"] (spMore K C_R) := fun base => ⟨⟨f_more, _, ⟨a_more, i_more, k_more⟩, b_more, G_more base⟩⟩
  have G_take : ∀ base : Heap, FnOk P w K mg base CX0 1 f_take _ ["self"] (spTake K C_R) := fun base => ok_take F_take T_R
  have H_take : ∀ base : Heap, HasM P w K mg base C_R "take" 1 ["self"] (spTake K C_R) := fun base => ⟨⟨f_take, _, ⟨a_take, i_take, k_take⟩, b_take, G_take base⟩⟩
  have G_several : ∀ base : Heap, FnOk P w K mg base CX0 1 f_several _ ["self", "size"] (spSeveral K C_R) := fun base => ok_several F_several T_R
  have H_several : ∀ base : Heap, HasM P w K mg base C_R "take_several" 1 ["self", "size"] (spSeveral K C_R) := fun base => ⟨⟨f_several, _, ⟨a_several, i_several, k_several⟩, b_several, G_several base⟩⟩
  have G_row : ∀ base : Heap, FnOk P w K mg base CX0 2 f_row _ ["self"] (spRow K C_R) := fun base => ok_row F_row T_R (H_take base) (H_several base)
  have H_row : ∀ base : Heap, HasM P w K mg base C_R "take_row" 2 ["self"] (spRow K C_R) := fun base => ⟨⟨f_row, _, ⟨a_row, i_row, k_row⟩, b_row, G_row base⟩⟩
  have G_arepts : ∀ base : Heap, FnOk P w K mg base CX0 1 f_arepts _ ["coordinates"] (spArePts K) := fun base => ok_arepts F_arepts K_FARTHEST_POINT K_MOST_POINTS Z_len Z_all
  have H_arepts : ∀ base : Heap, Has P w K mg base "are_points" 1 ["coordinates"] (spArePts K) := fun base => ⟨⟨f_arepts, _, PySem.W.mg_of X G a_arepts, k_arepts, b_arepts, G_arepts base⟩⟩
  have G_paired : ∀ base : Heap, FnOk P w K mg base CX0 1 f_paired _ ["coordinates"] (spPaired K) := fun base => ok_paired F_paired Z_len Z_range
  have H_paired : ∀ base : Heap, Has P w K mg base "paired" 1 ["coordinates"] (spPaired K) := fun base => ⟨⟨f_paired, _, PySem.W.mg_of X G a_paired, k_paired, b_paired, G_paired base⟩⟩
  have G_isplace : ∀ base : Heap, FnOk P w K mg base CX0 1 f_isplace _ ["place"] (spIsPlace K) := fun base => ok_isplace F_isplace K_FARTHEST_PLACE
  have H_isplace : ∀ base : Heap, Has P w K mg base "is_place" 1 ["place"] (spIsPlace K) := fun base => ⟨⟨f_isplace, _, PySem.W.mg_of X G a_isplace, k_isplace, b_isplace, G_isplace base⟩⟩
  have G_members : ∀ base : Heap, FnOk P w K mg base CX0 1 f_members _ ["chosen"] (spMembers K) := fun base => ok_members F_members Z_range
  have H_members : ∀ base : Heap, Has P w K mg base "members_of" 1 ["chosen"] (spMembers K) := fun base => ⟨⟨f_members, _, PySem.W.mg_of X G a_members, k_members, b_members, G_members base⟩⟩
  have G_hinit : ∀ base : Heap, FnOk P w K mg base CX0 1 f_hinit _ ["self"] (spHInit K C_H) := fun base => ok_hinit F_hinit T_H
  have G_put : ∀ base : Heap, FnOk P w K mg base CX0 2 f_put _ ["self", "coordinates"] (spPut K C_H) := fun base => ok_put F_put T_H (H_arepts base) (H_paired base) K_WRONG Z_len
  have H_put : ∀ base : Heap, HasM P w K mg base C_H "put" 2 ["self", "coordinates"] (spPut K C_H) := fun base => ⟨⟨f_put, _, ⟨a_put, i_put, k_put⟩, b_put, G_put base⟩⟩
  have G_hasset : ∀ base : Heap, FnOk P w K mg base CX0 1 f_hasset _ ["self", "chosen"] (spHasSet K C_H) := fun base => ok_hasset F_hasset T_H Z_len
  have H_hasset : ∀ base : Heap, HasM P w K mg base C_H "has_set" 1 ["self", "chosen"] (spHasSet K C_H) := fun base => ⟨⟨f_hasset, _, ⟨a_hasset, i_hasset, k_hasset⟩, b_hasset, G_hasset base⟩⟩
  have G_three : ∀ base : Heap, FnOk P w K mg base CX0 5 f_three _ ["self", "chosen", "place"] (spThree K C_H) := fun base => ok_three F_three T_H (H_hasset base) (H_isplace base) (H_around base) (H_arrows base) (H_members base) K_NO_POINTS K_WRONG
  have H_three : ∀ base : Heap, HasM P w K mg base C_H "three" 5 ["self", "chosen", "place"] (spThree K C_H) := fun base => ⟨⟨f_three, _, ⟨a_three, i_three, k_three⟩, b_three, G_three base⟩⟩
  have G_within : ∀ base : Heap, FnOk P w K mg base CX0 6 f_within _ ["self", "chosen", "place"] (spWithin K C_H) := fun base => ok_within F_within T_H (H_three base)
  have H_within : ∀ base : Heap, HasM P w K mg base C_H "within" 6 ["self", "chosen", "place"] (spWithin K C_H) := fun base => ⟨⟨f_within, _, ⟨a_within, i_within, k_within⟩, b_within, G_within base⟩⟩
  have G_hdepth : ∀ base : Heap, FnOk P w K mg base CX0 4 f_hdepth _ ["self", "place"] (spHDepth K C_H) := fun base => ok_hdepth F_hdepth T_H (H_isplace base) (H_depth base) (H_arrows base) K_NO_POINTS K_WRONG
  have H_hdepth : ∀ base : Heap, HasM P w K mg base C_H "depth" 4 ["self", "place"] (spHDepth K C_H) := fun base => ⟨⟨f_hdepth, _, ⟨a_hdepth, i_hdepth, k_hdepth⟩, b_hdepth, G_hdepth base⟩⟩
  have G_betw : ∀ base : Heap, FnOk P w K mg base CX0 1 f_betw _ ["start", "end"] (spBetw K) := fun base => ok_betw F_betw 
  have H_betw : ∀ base : Heap, Has P w K mg base "arrow_between" 1 ["start", "end"] (spBetw K) := fun base => ⟨⟨f_betw, _, PySem.W.mg_of X G a_betw, k_betw, b_betw, G_betw base⟩⟩
  have G_parting : ∀ base : Heap, FnOk P w K mg base CX0 2 f_parting _ ["stretch", "other"] (spPart K fun u v => .bl (parting u.1 u.2 v.1 v.2)) := fun base => ok_parting F_parting (H_cross base) (H_betw base)
  have H_parting : ∀ base : Heap, Has P w K mg base "is_parting" 2 ["stretch", "other"] (spPart K fun u v => .bl (parting u.1 u.2 v.1 v.2)) := fun base => ⟨⟨f_parting, _, PySem.W.mg_of X G a_parting, k_parting, b_parting, G_parting base⟩⟩
  have G_docross : ∀ base : Heap, FnOk P w K mg base CX0 3 f_docross _ ["one", "other"] (spPart K fun u v => .bl (crossB u v)) := fun base => ok_docross F_docross (H_parting base)
  have H_docross : ∀ base : Heap, Has P w K mg base "do_cross" 3 ["one", "other"] (spPart K fun u v => .bl (crossB u v)) := fun base => ⟨⟨f_docross, _, PySem.W.mg_of X G a_docross, k_docross, b_docross, G_docross base⟩⟩
  have G_crossing : ∀ base : Heap, FnOk P w K mg base CX0 2 f_crossing _ ["one", "other"] (spCross K) := fun base => ok_crossing F_crossing (H_cross base) (H_betw base)
  have H_crossing : ∀ base : Heap, Has P w K mg base "crossing" 2 ["one", "other"] (spCross K) := fun base => ⟨⟨f_crossing, _, PySem.W.mg_of X G a_crossing, k_crossing, b_crossing, G_crossing base⟩⟩
  have G_strs : ∀ base : Heap, FnOk P w K mg base CX0 1 f_strs _ ["corners"] (spStrs K) := fun base => ok_strs F_strs Z_len Z_range
  have H_strs : ∀ base : Heap, Has P w K mg base "stretches_between" 1 ["corners"] (spStrs K) := fun base => ⟨⟨f_strs, _, PySem.W.mg_of X G a_strs, k_strs, b_strs, G_strs base⟩⟩
  have G_tell : ∀ base : Heap, FnOk P w K mg base CX0 4 f_tell _ ["points"] (spTell K) := fun base => ok_tell F_tell (H_strs base) (H_docross base) (H_crossing base) Z_len Z_range Z_sorted Z_set
  have H_tell : ∀ base : Heap, Has P w K mg base "telling_places" 4 ["points"] (spTell K) := fun base => ⟨⟨f_tell, _, PySem.W.mg_of X G a_tell, k_tell, b_tell, G_tell base⟩⟩
  have G_deep : ∀ base : Heap, FnOk P w K mg base CX0 5 f_deep _ ["points"] (spDeep K) := fun base => ok_deep F_deep (H_tell base) (H_depth base) (H_arrows base) Z_max
  have H_deep : ∀ base : Heap, Has P w K mg base "deepest_among" 5 ["points"] (spDeep K) := fun base => ⟨⟨f_deep, _, PySem.W.mg_of X G a_deep, k_deep, b_deep, G_deep base⟩⟩
  have G_halve : ∀ base : Heap, FnOk P w K mg base CX0 1 f_halve _ ["line", "points"] (spHalve K) := fun base => ok_halve F_halve Z_max Z_len
  have H_halve : ∀ base : Heap, Has P w K mg base "does_halve" 1 ["line", "points"] (spHalve K) := fun base => ⟨⟨f_halve, _, PySem.W.mg_of X G a_halve, k_halve, b_halve, G_halve base⟩⟩
  have G_sets : ∀ base : Heap, FnOk P w K mg base CX0 3 f_sets _ ["arrows"] (spSets K) := fun base => ok_sets F_sets (H_nothing base) (H_between base) (H_amid base) Z_len Z_range
  have H_sets : ∀ base : Heap, Has P w K mg base "sets_around" 3 ["arrows"] (spSets K) := fun base => ⟨⟨f_sets, _, PySem.W.mg_of X G a_sets, k_sets, b_sets, G_sets base⟩⟩
  have G_holds : ∀ base : Heap, FnOk P w K mg base CX0 1 f_holds _ ["chosen", "around"] (spHolds K) := fun base => ok_holds F_holds Z_any
  have H_holds : ∀ base : Heap, Has P w K mg base "holds_one" 1 ["chosen", "around"] (spHolds K) := fun base => ⟨⟨f_holds, _, PySem.W.mg_of X G a_holds, k_holds, b_holds, G_holds base⟩⟩
  have G_arounds : ∀ base : Heap, FnOk P w K mg base CX0 5 f_arounds _ ["points"] (spArounds K) := fun base => ok_arounds F_arounds (H_tell base) (H_sets base) (H_arrows base)
  have H_arounds : ∀ base : Heap, Has P w K mg base "arounds_of" 5 ["points"] (spArounds K) := fun base => ⟨⟨f_arounds, _, PySem.W.mg_of X G a_arounds, k_arounds, b_arounds, G_arounds base⟩⟩
  have G_reach : ∀ base : Heap, FnOk P w K mg base CX0 2 f_reach _ ["chosen", "arounds"] (spReach K) := fun base => ok_reach F_reach (H_holds base) Z_enumerate
  have H_reach : ∀ base : Heap, Has P w K mg base "reach_of" 2 ["chosen", "arounds"] (spReach K) := fun base => ⟨⟨f_reach, _, PySem.W.mg_of X G a_reach, k_reach, b_reach, G_reach base⟩⟩
  have G_share : ∀ base : Heap, FnOk P w K mg base CX0 1 f_share _ ["reaches"] (spShare K) := fun base => ok_share F_share 
  have H_share : ∀ base : Heap, Has P w K mg base "share_a_place" 1 ["reaches"] (spShare K) := fun base => ⟨⟨f_share, _, PySem.W.mg_of X G a_share, k_share, b_share, G_share base⟩⟩
  have G_apart : ∀ base : Heap, FnOk P w K mg base CX0 6 f_apart _ ["points", "sets"] (spApart K) := fun base => ok_apart F_apart (H_arounds base) (H_reach base) (H_share base) Z_len Z_range
  have H_apart : ∀ base : Heap, Has P w K mg base "first_apart" 6 ["points", "sets"] (spApart K) := fun base => ⟨⟨f_apart, _, PySem.W.mg_of X G a_apart, k_apart, b_apart, G_apart base⟩⟩
  have G_behind : ∀ base : Heap, FnOk P w K mg base CX0 1 f_behind _ ["row", "parts"] (spBehind K) := fun base => ok_behind F_behind Z_len Z_range Z_max
  have H_behind : ∀ base : Heap, Has P w K mg base "row_behind" 1 ["row", "parts"] (spBehind K) := fun base => ⟨⟨f_behind, _, PySem.W.mg_of X G a_behind, k_behind, b_behind, G_behind base⟩⟩
  have G_setsof : ∀ base : Heap, FnOk P w K mg base CX0 1 f_setsof _ ["row", "parts"] (spSetsOf K) := fun base => ok_setsof F_setsof Z_enumerate
  have H_setsof : ∀ base : Heap, Has P w K mg base "sets_of" 1 ["row", "parts"] (spSetsOf K) := fun base => ⟨⟨f_setsof, _, PySem.W.mg_of X G a_setsof, k_setsof, b_setsof, G_setsof base⟩⟩
  have G_fit : ∀ base : Heap, FnOk P w K mg base CX0 3 f_fit _ ["row", "parts", "arounds"] (spFit K) := fun base => ok_fit F_fit (H_share base) (H_reach base) (H_setsof base)
  have H_fit : ∀ base : Heap, Has P w K mg base "is_fit" 3 ["row", "parts", "arounds"] (spFit K) := fun base => ⟨⟨f_fit, _, PySem.W.mg_of X G a_fit, k_fit, b_fit, G_fit base⟩⟩
  have G_firstp : ∀ base : Heap, FnOk P w K mg base CX0 6 f_firstp _ ["points", "parts"] (spFirstP K) := fun base => ok_firstp F_firstp (H_arounds base) (H_fit base) (H_behind base) Z_len Z_max
  have H_firstp : ∀ base : Heap, Has P w K mg base "first_parting" 6 ["points", "parts"] (spFirstP K) := fun base => ⟨⟨f_firstp, _, PySem.W.mg_of X G a_firstp, k_firstp, b_firstp, G_firstp base⟩⟩
  have G_isline : ∀ base : Heap, FnOk P w K mg base CX0 1 f_isline _ ["line"] (spIsLine K) := fun base => ok_isline F_isline 
  have H_isline : ∀ base : Heap, Has P w K mg base "is_line" 1 ["line"] (spIsLine K) := fun base => ⟨⟨f_isline, _, PySem.W.mg_of X G a_isline, k_isline, b_isline, G_isline base⟩⟩
  have G_hassets : ∀ base : Heap, FnOk P w K mg base CX0 2 f_hassets _ ["self", "sets"] (spHasSets K C_H) := fun base => ok_hassets F_hassets T_H (H_hasset base) Z_all
  have H_hassets : ∀ base : Heap, HasM P w K mg base C_H "has_sets" 2 ["self", "sets"] (spHasSets K C_H) := fun base => ⟨⟨f_hassets, _, ⟨a_hassets, i_hassets, k_hassets⟩, b_hassets, G_hassets base⟩⟩
  have G_pointsof : ∀ base : Heap, FnOk P w K mg base CX0 2 f_pointsof _ ["self", "chosen"] (spPointsOf K C_H) := fun base => ok_pointsof F_pointsof T_H (H_members base)
  have H_pointsof : ∀ base : Heap, HasM P w K mg base C_H "points_of" 2 ["self", "chosen"] (spPointsOf K C_H) := fun base => ⟨⟨f_pointsof, _, ⟨a_pointsof, i_pointsof, k_pointsof⟩, b_pointsof, G_pointsof base⟩⟩
  have G_hdeep : ∀ base : Heap, FnOk P w K mg base CX0 6 f_hdeep _ ["self"] (spHDeep K C_H) := fun base => ok_hdeep F_hdeep T_H (H_deep base) K_NO_POINTS
  have H_hdeep : ∀ base : Heap, HasM P w K mg base C_H "deepest" 6 ["self"] (spHDeep K C_H) := fun base => ⟨⟨f_hdeep, _, ⟨a_hdeep, i_hdeep, k_hdeep⟩, b_hdeep, G_hdeep base⟩⟩
  have G_hpart : ∀ base : Heap, FnOk P w K mg base CX0 7 f_hpart _ ["self", "parts"] (spHPart K C_H) := fun base => ok_hpart F_hpart T_H (H_firstp base) K_NO_POINTS K_WRONG Z_len
  have H_hpart : ∀ base : Heap, HasM P w K mg base C_H "parted" 7 ["self", "parts"] (spHPart K C_H) := fun base => ⟨⟨f_hpart, _, ⟨a_hpart, i_hpart, k_hpart⟩, b_hpart, G_hpart base⟩⟩
  have G_hmeet : ∀ base : Heap, FnOk P w K mg base CX0 7 f_hmeet _ ["self", "sets"] (spHMeet K C_H) := fun base => ok_hmeet F_hmeet T_H (H_hassets base) (H_apart base) K_NO_POINTS K_WRONG K_MOST_SETS Z_len
  have H_hmeet : ∀ base : Heap, HasM P w K mg base C_H "meet" 7 ["self", "sets"] (spHMeet K C_H) := fun base => ⟨⟨f_hmeet, _, ⟨a_hmeet, i_hmeet, k_hmeet⟩, b_hmeet, G_hmeet base⟩⟩
  have G_hhalve : ∀ base : Heap, FnOk P w K mg base CX0 3 f_hhalve _ ["self", "sets", "line"] (spHHalve K C_H) := fun base => ok_hhalve F_hhalve T_H (H_hassets base) (H_isline base) (H_halve base) (H_pointsof base) K_NO_POINTS K_WRONG Z_all
  have H_hhalve : ∀ base : Heap, HasM P w K mg base C_H "halves" 3 ["self", "sets", "line"] (spHHalve K C_H) := fun base => ⟨⟨f_hhalve, _, ⟨a_hhalve, i_hhalve, k_hhalve⟩, b_hhalve, G_hhalve base⟩⟩
  have G_next : ∀ base : Heap, FnOk P w K mg base CX0 8 f_next _ ["heap", "reader"] (spNext K C_H C_R) := fun base => ok_next F_next T_R T_H (H_take base) (H_several base) (H_row base) (H_put base) (H_within base) (H_three base) (H_hdepth base) (H_hdeep base) (H_hpart base) (H_hmeet base) (H_hhalve base) K_POINTS K_IN K_THREE K_DEPTH K_DEEPEST K_PARTED K_MEET K_HALVES
  have H_next : ∀ base : Heap, Has P w K mg base "answer_next" 8 ["heap", "reader"] (spNext K C_H C_R) := fun base => ⟨⟨f_next, _, PySem.W.mg_of X G a_next, k_next, b_next, G_next base⟩⟩
  exact ⟨PySem.W.fnOf "answers" "answers" (defArgs sAnswers) (defBody sAnswers) (defScope sAnswers) .none kV_ans dc_ans pm_ans an_ans cd_ans ct_ans, fun s us hu => match us, hu with | [_], _ => .of_eq rfl, fun base _ _ =>
    ok_answers (k := 6) F_ans T_R T_H ⟨mk_R, a_rinit, i_rinit, kc_R⟩ (G_rinit base) b_rinit (PySem.W.mg_of X G aC_R) ⟨mk_H, a_hinit, i_hinit, kc_H⟩ (G_hinit base) b_hinit (PySem.W.mg_of X G aC_H) (H_more base) (H_next base) Z_len⟩
end HQ
def PySem.W.Fast.tw8037655202469483612 : Nat := 0
def PySem.W.Fast.tw1265301671175895689 : Nat := 0
def PySem.W.Fast.tw11462483412118160571 : Nat := 0
def PySem.W.Fast.tw4537640182037494146 : Nat := 0
def PySem.W.Fast.tw17047709710682228187 : Nat := 0
def PySem.W.Fast.tw15667820428815412999 : Nat := 0
def PySem.W.Fast.tw5892927551915932139 : Nat := 0
def PySem.W.Fast.tw7057055971176941184 : Nat := 0
def PySem.W.Fast.tw5920085203147480346 : Nat := 0
def PySem.W.Fast.tw15968712944015534914 : Nat := 0
def PySem.W.Fast.tw916732683779797236 : Nat := 0
open PySem PySem.W PyProof.Rows
set_option maxRecDepth 100000 in
set_option maxHeartbeats 0 in
theorem PySem.Challenge.cw_hullpoints_s01_answers_holds : PySem.Challenge.rw_hullpoints_s01_answers.Holds := by
  w_on; k_headS; (case hw => exact ⟨[.list [.int 4]], by decide +kernel, by decide +kernel⟩)
  k_fillS
  refine L2.walk_specK (r := PySem.Challenge.rw_hullpoints_s01_answers) (k := 9) (CX := L2.CX0) (ps := ["calls"]) (sp := HQ.spAns) (by decide +kernel) rfl rfl ⟨rfl, by decide, by decide⟩ (fun w h Y => PySem.W.kIn_of Y) ?F ?S (fun _ _ _ _ z => z)
  case F =>
    intro w mg fa h Y KX G hmg
    refine' HQ.all_mk KX G hmg ?aC_R ?aC_H ?a_arrows ?l_arrows ?c_arrows ?k_arrows ?a_betw ?l_betw ?c_betw ?k_betw ?a_nothing ?l_nothing ?c_nothing ?k_nothing ?a_cross ?l_cross ?c_cross ?k_cross ?a_dot ?l_dot ?c_dot ?k_dot ?a_fewest ?l_fewest ?c_fewest ?k_fewest ?a_depth ?l_depth ?c_depth ?k_depth ?a_tell ?l_tell ?c_tell ?k_tell ?a_strs ?l_strs ?c_strs ?k_strs ?a_docross ?l_docross ?c_docross ?k_docross ?a_parting ?l_parting ?c_parting ?k_parting ?a_crossing ?l_crossing ?c_crossing ?k_crossing ?a_deep ?l_deep ?c_deep ?k_deep ?a_halve ?l_halve ?c_halve ?k_halve ?a_sets ?l_sets ?c_sets ?k_sets ?a_holds ?l_holds ?c_holds ?k_holds ?a_arounds ?l_arounds ?c_arounds ?k_arounds ?a_reach ?l_reach ?c_reach ?k_reach ?a_share ?l_share ?c_share ?k_share ?a_apart ?l_apart ?c_apart ?k_apart ?a_firstp ?l_firstp ?c_firstp ?k_firstp ?a_behind ?l_behind ?c_behind ?k_behind ?a_fit ?l_fit ?c_fit ?k_fit ?a_setsof ?l_setsof ?c_setsof ?k_setsof ?a_below ?l_below ?c_below ?k_below ?a_between ?l_between ?c_between ?k_between ?a_amid ?l_amid ?c_amid ?k_amid ?a_with ?l_with ?c_with ?k_with ?a_around ?l_around ?c_around ?k_around ?a_rinit ?i_rinit ?l_rinit ?c_rinit ?k_rinit ?a_more ?i_more ?l_more ?c_more ?k_more ?a_take ?i_take ?l_take ?c_take ?k_take ?a_several ?i_several ?l_several ?c_several ?k_several ?a_row ?i_row ?l_row ?c_row ?k_row ?a_arepts ?l_arepts ?c_arepts ?k_arepts ?a_paired ?l_paired ?c_paired ?k_paired ?a_isplace ?l_isplace ?c_isplace ?k_isplace ?a_isline ?l_isline ?c_isline ?k_isline ?a_members ?l_members ?c_members ?k_members ?a_hinit ?i_hinit ?l_hinit ?c_hinit ?k_hinit ?a_put ?i_put ?l_put ?c_put ?k_put ?a_within ?i_within ?l_within ?c_within ?k_within ?a_three ?i_three ?l_three ?c_three ?k_three ?a_hdepth ?i_hdepth ?l_hdepth ?c_hdepth ?k_hdepth ?a_hdeep ?i_hdeep ?l_hdeep ?c_hdeep ?k_hdeep ?a_hpart ?i_hpart ?l_hpart ?c_hpart ?k_hpart ?a_hmeet ?i_hmeet ?l_hmeet ?c_hmeet ?k_hmeet ?a_hhalve ?i_hhalve ?l_hhalve ?c_hhalve ?k_hhalve ?a_hasset ?i_hasset ?l_hasset ?c_hasset ?k_hasset ?a_hassets ?i_hassets ?l_hassets ?c_hassets ?k_hassets ?a_pointsof ?i_pointsof ?l_pointsof ?c_pointsof ?k_pointsof ?a_next ?l_next ?c_next ?k_next ?a_ans ?l_ans ?c_ans ?k_ans ?pg_R ?hd_R ?po_R ?sa_R ?mk_R ?kc_R ?n_R_numbers ?n_R_position ?pg_H ?hd_H ?po_H ?sa_H ?mk_H ?kc_H ?n_H_points ?v_POINTS ?v_IN ?v_THREE ?v_DEPTH ?v_DEEPEST ?v_PARTED ?v_MEET ?v_HALVES ?v_WRONG ?v_NO_POINTS ?v_MOST_POINTS ?v_MOST_SETS ?v_FARTHEST_POINT ?v_FARTHEST_PLACE ?z_len ?z_min ?z_max ?z_all ?z_any ?z_range ?z_enumerate ?z_sorted ?z_set
    (case aC_R => k_is)
    (case aC_H => k_is)
    (case a_arrows => k_is)
    (case l_arrows => k_is)
    (case c_arrows => k_is)
    (case k_arrows => k_is)
    (case a_betw => k_is)
    (case l_betw => k_is)
    (case c_betw => k_is)
    (case k_betw => k_is)
    (case a_nothing => k_is)
    (case l_nothing => k_is)
    (case c_nothing => k_is)
    (case k_nothing => k_is)
    (case a_cross => k_is)
    (case l_cross => k_is)
    (case c_cross => k_is)
    (case k_cross => k_is)
    (case a_dot => k_is)
    (case l_dot => k_is)
    (case c_dot => k_is)
    (case k_dot => k_is)
    (case a_fewest => k_is)
    (case l_fewest => k_is)
    (case c_fewest => k_is)
    (case k_fewest => k_is)
    (case a_depth => k_is)
    (case l_depth => k_is)
    (case c_depth => k_is)
    (case k_depth => k_is)
    (case a_tell => k_is)
    (case l_tell => k_is)
    (case c_tell => k_is)
    (case k_tell => k_is)
    (case a_strs => k_is)
    (case l_strs => k_is)
    (case c_strs => k_is)
    (case k_strs => k_is)
    (case a_docross => k_is)
    (case l_docross => k_is)
    (case c_docross => k_is)
    (case k_docross => k_is)
    (case a_parting => k_is)
    (case l_parting => k_is)
    (case c_parting => k_is)
    (case k_parting => k_is)
    (case a_crossing => k_is)
    (case l_crossing => k_is)
    (case c_crossing => k_is)
    (case k_crossing => k_is)
    (case a_deep => k_is)
    (case l_deep => k_is)
    (case c_deep => k_is)
    (case k_deep => k_is)
    (case a_halve => k_is)
    (case l_halve => k_is)
    (case c_halve => k_is)
    (case k_halve => k_is)
    (case a_sets => k_is)
    (case l_sets => k_is)
    (case c_sets => k_is)
    (case k_sets => k_is)
    (case a_holds => k_is)
    (case l_holds => k_is)
    (case c_holds => k_is)
    (case k_holds => k_is)
    (case a_arounds => k_is)
    (case l_arounds => k_is)
    (case c_arounds => k_is)
    (case k_arounds => k_is)
    (case a_reach => k_is)
    (case l_reach => k_is)
    (case c_reach => k_is)
    (case k_reach => k_is)
    (case a_share => k_is)
    (case l_share => k_is)
    (case c_share => k_is)
    (case k_share => k_is)
    (case a_apart => k_is)
    (case l_apart => k_is)
    (case c_apart => k_is)
    (case k_apart => k_is)
    (case a_firstp => k_is)
    (case l_firstp => k_is)
    (case c_firstp => k_is)
    (case k_firstp => k_is)
    (case a_behind => k_is)
    (case l_behind => k_is)
    (case c_behind => k_is)
    (case k_behind => k_is)
    (case a_fit => k_is)
    (case l_fit => k_is)
    (case c_fit => k_is)
    (case k_fit => k_is)
    (case a_setsof => k_is)
    (case l_setsof => k_is)
    (case c_setsof => k_is)
    (case k_setsof => k_is)
    (case a_below => k_is)
    (case l_below => k_is)
    (case c_below => k_is)
    (case k_below => k_is)
    (case a_between => k_is)
    (case l_between => k_is)
    (case c_between => k_is)
    (case k_between => k_is)
    (case a_amid => k_is)
    (case l_amid => k_is)
    (case c_amid => k_is)
    (case k_amid => k_is)
    (case a_with => k_is)
    (case l_with => k_is)
    (case c_with => k_is)
    (case k_with => k_is)
    (case a_around => k_is)
    (case l_around => k_is)
    (case c_around => k_is)
    (case k_around => k_is)
    (case a_rinit => k_is)
    (case i_rinit => k_is)
    (case l_rinit => k_is)
    (case c_rinit => k_is)
    (case k_rinit => k_is)
    (case a_more => k_is)
    (case i_more => k_is)
    (case l_more => k_is)
    (case c_more => k_is)
    (case k_more => k_is)
    (case a_take => k_is)
    (case i_take => k_is)
    (case l_take => k_is)
    (case c_take => k_is)
    (case k_take => k_is)
    (case a_several => k_is)
    (case i_several => k_is)
    (case l_several => k_is)
    (case c_several => k_is)
    (case k_several => k_is)
    (case a_row => k_is)
    (case i_row => k_is)
    (case l_row => k_is)
    (case c_row => k_is)
    (case k_row => k_is)
    (case a_arepts => k_is)
    (case l_arepts => k_is)
    (case c_arepts => k_is)
    (case k_arepts => k_is)
    (case a_paired => k_is)
    (case l_paired => k_is)
    (case c_paired => k_is)
    (case k_paired => k_is)
    (case a_isplace => k_is)
    (case l_isplace => k_is)
    (case c_isplace => k_is)
    (case k_isplace => k_is)
    (case a_isline => k_is)
    (case l_isline => k_is)
    (case c_isline => k_is)
    (case k_isline => k_is)
    (case a_members => k_is)
    (case l_members => k_is)
    (case c_members => k_is)
    (case k_members => k_is)
    (case a_hinit => k_is)
    (case i_hinit => k_is)
    (case l_hinit => k_is)
    (case c_hinit => k_is)
    (case k_hinit => k_is)
    (case a_put => k_is)
    (case i_put => k_is)
    (case l_put => k_is)
    (case c_put => k_is)
    (case k_put => k_is)
    (case a_within => k_is)
    (case i_within => k_is)
    (case l_within => k_is)
    (case c_within => k_is)
    (case k_within => k_is)
    (case a_three => k_is)
    (case i_three => k_is)
    (case l_three => k_is)
    (case c_three => k_is)
    (case k_three => k_is)
    (case a_hdepth => k_is)
    (case i_hdepth => k_is)
    (case l_hdepth => k_is)
    (case c_hdepth => k_is)
    (case k_hdepth => k_is)
    (case a_hdeep => k_is)
    (case i_hdeep => k_is)
    (case l_hdeep => k_is)
    (case c_hdeep => k_is)
    (case k_hdeep => k_is)
    (case a_hpart => k_is)
    (case i_hpart => k_is)
    (case l_hpart => k_is)
    (case c_hpart => k_is)
    (case k_hpart => k_is)
    (case a_hmeet => k_is)
    (case i_hmeet => k_is)
    (case l_hmeet => k_is)
    (case c_hmeet => k_is)
    (case k_hmeet => k_is)
    (case a_hhalve => k_is)
    (case i_hhalve => k_is)
    (case l_hhalve => k_is)
    (case c_hhalve => k_is)
    (case k_hhalve => k_is)
    (case a_hasset => k_is)
    (case i_hasset => k_is)
    (case l_hasset => k_is)
    (case c_hasset => k_is)
    (case k_hasset => k_is)
    (case a_hassets => k_is)
    (case i_hassets => k_is)
    (case l_hassets => k_is)
    (case c_hassets => k_is)
    (case k_hassets => k_is)
    (case a_pointsof => k_is)
    (case i_pointsof => k_is)
    (case l_pointsof => k_is)
    (case c_pointsof => k_is)
    (case k_pointsof => k_is)
    (case a_next => k_is)
    (case l_next => k_is)
    (case c_next => k_is)
    (case k_next => k_is)
    (case a_ans => k_is)
    (case l_ans => k_is)
    (case c_ans => k_is)
    (case k_ans => k_is)
    (case pg_R => k_is)
    (case hd_R => k_is)
    (case po_R => k_is)
    (case sa_R => k_is)
    (case mk_R => k_is)
    (case kc_R => k_is)
    (case n_R_numbers => k_is)
    (case n_R_position => k_is)
    (case pg_H => k_is)
    (case hd_H => k_is)
    (case po_H => k_is)
    (case sa_H => k_is)
    (case mk_H => k_is)
    (case kc_H => k_is)
    (case n_H_points => k_is)
    (case v_POINTS => k_is)
    (case v_IN => k_is)
    (case v_THREE => k_is)
    (case v_DEPTH => k_is)
    (case v_DEEPEST => k_is)
    (case v_PARTED => k_is)
    (case v_MEET => k_is)
    (case v_HALVES => k_is)
    (case v_WRONG => k_is)
    (case v_NO_POINTS => k_is)
    (case v_MOST_POINTS => k_is)
    (case v_MOST_SETS => k_is)
    (case v_FARTHEST_POINT => k_is)
    (case v_FARTHEST_PLACE => k_is)
    (case z_len => k_is)
    (case z_min => k_is)
    (case z_max => k_is)
    (case z_all => k_is)
    (case z_any => k_is)
    (case z_range => k_is)
    (case z_enumerate => k_is)
    (case z_sorted => k_is)
    (case z_set => k_is)
  case S =>
    intro K H xs a hO hwi hask hx
    cases hx with
    | cons h1 h2 =>
      cases h2
      cases h1 with
      | lst hs ha =>
        have e := L2.ints_dw a.1 _ ha
        subst e
        exact ⟨_, a.1, rfl, hs, hask, fun H' p hp => .lst (L2.SqL.of hp) (L2.dw_ints _)⟩
#print axioms PySem.Challenge.cw_hullpoints_s01_answers_holds

end
