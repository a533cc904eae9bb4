import PyProof.Rows.All
import Wide.All
import OpenK.AllK
import Wide.FinOn
import PyProof.EqAt
import PyProof.EqKinds
import PyProof.TupleCall
import Open.SpecLaws
import KE.OsHead
import KE.OsGo
import PyProof.StationsW
import PyProof.ExcArgsOwn
import PyProof.RulesAs
import PyProof.PassesOwn
import PyProof.ExcInit
import PyProof.InstStoreFacts
import PyProof.ExcAttrAll.ValueError
import KE.BitLaws
import PyProof.Draws
import PyProof.EnumMake
import KE.IntTextLaws
import PySem.Challenge.RW_shieldwords_s07_read
section
set_option Elab.async false
set_option linter.all false
set_option maxRecDepth 100000
namespace L2
open PySem PySem.Spec PyProof.Rows

noncomputable abbrev Key := Sum Int Str
noncomputable def keyIs : Key → Value → Bool
  | .inl k, v => Value.isInt k v
  | .inr x, v => Value.isStrOf x v
noncomputable def keyH (w : World) : Key → Int
  | .inl k => hashInt k
  | .inr x => hashStr w x
theorem keyIs_shape : ∀ {k : Key} {v : Value}, keyIs k v = true → (∃ i t, k = Sum.inl i ∧ v = Value.int i t) ∨ (∃ x t, k = Sum.inr x ∧ v = Value.str x t)
  | .inl i, v, h => by
    obtain ⟨t, e⟩ := Value.isInt_shape (k := i) (v := v) h
    exact .inl ⟨i, t, rfl, e⟩
  | .inr x, v, h => by
    obtain ⟨t, e⟩ := Value.isStrOf_shape (x := x) (v := v) h
    exact .inr ⟨x, t, rfl, e⟩
theorem key_ll (a b : Int) : decide ((Sum.inl a : Key) = Sum.inl b) = (a == b) := by
  by_cases e : a = b
  · subst e; simp
  · have h : ¬ (Sum.inl a : Key) = Sum.inl b := fun q => e (Sum.inl.inj q)
    rw [decide_eq_false h]
    exact (beq_eq_false_iff_ne.mpr e).symm
theorem key_rr (a b : Str) : decide ((Sum.inr a : Key) = Sum.inr b) = decide (a = b) := by
  by_cases e : a = b
  · subst e; simp
  · have h : ¬ (Sum.inr a : Key) = Sum.inr b := fun q => e (Sum.inr.inj q)
    rw [decide_eq_false h, decide_eq_false e]
theorem key_lr (a : Int) (b : Str) : decide ((Sum.inl a : Key) = Sum.inr b) = false := decide_eq_false (fun q => nomatch q)
theorem key_rl (a : Str) (b : Int) : decide ((Sum.inr a : Key) = Sum.inl b) = false := decide_eq_false (fun q => nomatch q)

noncomputable def mixKind (prog : Program) (w : World) : PySem.KeyKind prog w Key where
  is := keyIs
  hash := keyH w
  inj := fun v a b ha hb => by
    rcases keyIs_shape ha with ⟨i, t, rfl, rfl⟩ | ⟨x, t, rfl, rfl⟩
    · rcases keyIs_shape hb with ⟨j, u, rfl, e⟩ | ⟨y, u, rfl, e⟩
      · injection e with e1 _; rw [e1]
      · exact nomatch e
    · rcases keyIs_shape hb with ⟨j, u, rfl, e⟩ | ⟨y, u, rfl, e⟩
      · exact nomatch e
      · injection e with e1 _; rw [e1]
  byValue := fun k v h => by
    rcases keyIs_shape h with ⟨i, t, rfl, rfl⟩ | ⟨x, t, rfl, rfl⟩ <;> rfl
  pyHash := fun hv h => by
    rcases keyIs_shape hv with ⟨i, t, rfl, rfl⟩ | ⟨x, t, rfl, rfl⟩
    · exact wpAny_pyHash_int h
    · exact wpAny_pyHash_str h
  eqBool := fun hu hv h => by
    rcases keyIs_shape hu with ⟨i, t, rfl, rfl⟩ | ⟨x, t, rfl, rfl⟩
    · rcases keyIs_shape hv with ⟨j, u, rfl, rfl⟩ | ⟨y, u, rfl, rfl⟩
      · rw [key_ll] at h; exact wpAny_eqBool_int h
      · rw [key_lr] at h; exact SeqAt.EqAt.int_str i t y u _ _ _ _ h
    · rcases keyIs_shape hv with ⟨j, u, rfl, rfl⟩ | ⟨y, u, rfl, rfl⟩
      · rw [key_rl] at h; exact SeqAt.EqAt.str_int x t j u _ _ _ _ h
      · rw [key_rr] at h; exact wpAny_eqBool_str h
  «strs» := fun k x t v h => by
    rcases keyIs_shape h with ⟨i, u, rfl, e⟩ | ⟨y, u, rfl, e⟩
    · exact nomatch e
    · injection e with e1 _
      subst e1
      cases v <;> rfl

end L2

namespace L2
open PySem PySem.Spec PyProof.Rows

inductive V where
  | non | bl (b : Bool) | int (i : Int) | str (x : Str) | byt (b : Array UInt8) | flt (b : UInt64) | ref (a : Addr) | ty (n : String)
  deriving DecidableEq

noncomputable def RelV : V → Value → Prop
  | .non, u => u = Value.none
  | .bl b, u => u = Value.bool b
  | .int i, u => ∃ t, u = Value.int i t
  | .str x, u => ∃ t, u = Value.str x t
  | .byt b, u => ∃ t, u = Value.bytes b t
  | .flt b, u => ∃ t, u = Value.float b t
  | .ref a, u => u = Value.ref a
  | .ty n, u => u = Value.type n

noncomputable abbrev Vals : List V → List Value → Prop := Paired RelV
theorem Vals.length {xs : List V} {us : List Value} (r : Vals xs us) : xs.length = us.length := Paired.length r
theorem Vals.get : ∀ {xs : List V} {us : List Value} {i : Nat} {x : V}, Vals xs us → xs[i]? = some x → ∃ u, us[i]? = some u ∧ RelV x u
  | _, _, _, _, .nil, e => by simp at e
  | _, _, 0, _, .cons r _, e => by simp at e; subst e; exact ⟨_, rfl, r⟩
  | _, _, i + 1, x, .cons _ t, e => by
    obtain ⟨u, h1, h2⟩ := Vals.get (i := i) (x := x) t (by simpa using e)
    exact ⟨u, by simpa using h1, h2⟩
theorem Vals.append : ∀ {xs ys : List V} {us ws : List Value}, Vals xs us → Vals ys ws → Vals (xs ++ ys) (us ++ ws)
  | _, _, _, _, .nil, s => s
  | _, _, _, _, .cons r t, s => .cons r (Vals.append t s)
noncomputable def RelO : Option V → Option Value → Prop
  | some v, some u => RelV v u
  | none, none => True
  | _, _ => False
noncomputable def KV {κ : Type} : List (κ × V) → List (κ × Value) → Prop := Paired fun (p : κ × V) (q : κ × Value) => p.1 = q.1 ∧ RelV p.2 q.2

noncomputable def kV : Key → V
  | .inl i => .int i
  | .inr x => .str x

inductive HO where
  /-- a list -/
  | lst (xs : List V)
  /-- a tuple (never changes) -/
  | tup (xs : List V)
  /-- a dict whose keys are ints and texts; one whose keys are tuples of ints and texts (the empty one is both) -/
  | dK (kvs : List (Key × V)) | dT (kvs : List (List Key × V))
  /-- a set of ints: its members, its size -/
  | set (S : Int → Bool) (n : Nat)
  /-- an instance of the class at C, its dict at dx, its attributes -/
  | ins (C dx : Addr) (fs : List (Str × V))
  /-- the dict of the instance at x -/
  | own (x : Addr)
  /-- the dict of an exception -/
  | xd (fs : List (Str × V))
  /-- a bound method, f of x -/
  | met (f x : Addr)
  /-- a range object lo, lo + 1, .. below hi -/
  | rng (lo hi : Int)
  /-- a thing that is known to the object (the script; a dict while a loop walks it): read, never written while it is so -/
  | frz (o : Obj) (u : HO)
  /-- a code object's table -/
  | tbl (ps : Array Value)
  /-- any other thing, by what is true of its one object (a def of one's own: SetO a S n := HO.ext fun h => ..) -/
  | ext (φ : Heap → Prop)

noncomputable abbrev Hp := Addr → Option HO
noncomputable def upd (H : Hp) (a : Addr) (o : HO) : Hp := fun b => if b = a then some o else H b
theorem upd_same {H : Hp} {a : Addr} {o : HO} : upd H a o a = some o := by unfold upd; rw [if_pos rfl]
theorem upd_ne {H : Hp} {a b : Addr} {o : HO} (h : b ≠ a) : upd H a o b = H b := by unfold upd; rw [if_neg h]
theorem upd_upd {H : Hp} {a : Addr} {o u : HO} : upd (upd H a o) a u = upd H a u := by
  funext b; unfold upd; split <;> rfl
theorem ne_of {H : Hp} {a b : Addr} {o u : HO} (h : H a = some o) (h' : H b = some u) (d : o ≠ u) : a ≠ b := by
  intro e; subst e; rw [h] at h'; exact d (Option.some.inj h')
theorem ne_of_none {H : Hp} {a b : Addr} {o : HO} (h : H a = some o) (h' : H b = none) : a ≠ b := by
  intro e; subst e; rw [h] at h'; cases h'

section
variable (P : Program) (w : World)
noncomputable def ObjOk (H : Hp) (h : Heap) (a : Addr) : HO → Prop
  | .lst xs => xs.length ≤ sizeLine ∧ ∃ (its : List Value) (n : Nat), Vals xs its ∧ h.get? a = some { cls := .type "list", data := .seq its.toArray n }
  | .tup xs => xs.length ≤ sizeLine ∧ ∃ its : List Value, Vals xs its ∧ IsTup h a its.toArray
  | .dK kvs => kvs.length ≤ sizeLine ∧ (a == sysModules) = false ∧ ∃ vs, KV kvs vs ∧ h.DictOf (mixKind P w) a vs
  | .dT kvs => kvs.length ≤ sizeLine ∧ (a == sysModules) = false ∧ ∃ xs : List (List Key × Addr × Value),
      Paired (fun (p : List Key × V) (q : List Key × Addr × Value) => p.1 = q.1 ∧ H q.2.1 = some (.tup (p.1.map kV)) ∧ RelV p.2 q.2.2) kvs xs ∧
      ∃ o es ep, h.get? a = some o ∧ o.ExactDict ∧ o.data = .dict es ep ∧ es.toList = xs.map (entryOfKey (tupleKind (mixKind P w))) ∧ (xs.map (·.1)).Nodup
  | .set S n => h.SetOf (intKind P w) a S n
  | .ins C dx fs => H dx = some (.own a) ∧ fs.length ≤ 1000 ∧ dx ≠ a ∧ h.get? a = some (PySem.W.instObj C dx) ∧
      ∃ mA, h.Ns1 dx mA ∧ (∀ f, RelO (fs.lookup f) (mA f)) ∧ PySem.Within mA (fs.map (·.1))
  | .own _ => ∃ o, h.get? a = some o
  | .xd fs => ∃ mA, h.Ns1 a mA ∧ ∀ f, RelO (fs.lookup f) (mA f)
  | .rng lo hi => ∃ t u v, h.get? a = some { cls := .type "range", data := .fields #[.int lo t, .int hi u, .int 1 v] }
  | .frz o u => h.get? a = some o ∧ ObjOk H h a u
  | .tbl ps => h.get? a = some { cls := .none, data := .fields ps }
  | .met f x => h.get? a = some (PySem.W.methodObj (.ref f) (.ref x))
  | .ext φ => φ h ∧ (∃ o, h.get? a = some o) ∧ ∀ h1 h2 : Heap, φ h1 → (∀ o, h1.get? a = some o → h2.get? a = some o) → φ h2
noncomputable def HOk (H : Hp) (h : Heap) : Prop := ∀ a o, H a = some o → ObjOk P w H h a o
end

section
variable {P : Program} {w : World} {H H' : Hp} {h h' : Heap} {a : Addr} {o : HO}
theorem ObjOk.lt (x : ObjOk P w H h a o) : a < h.objs.size := by
  cases o with
  | lst xs => obtain ⟨_, _, _, _, e⟩ := x; exact Heap.lt_size e
  | tup xs => obtain ⟨_, _, _, p⟩ := x; exact p.lt
  | dK kvs => obtain ⟨_, _, _, _, o, _, _, e, _⟩ := x; exact Heap.lt_size e
  | dT kvs => obtain ⟨_, _, _, _, o, _, _, e, _⟩ := x; exact Heap.lt_size e
  | set S n => obtain ⟨o, _, _, _, e, _⟩ := x; exact Heap.lt_size e
  | ins C dx fs => obtain ⟨_, _, _, e, _⟩ := x; exact Heap.lt_size e
  | own y => obtain ⟨_, e⟩ := x; exact Heap.lt_size e
  | xd fs => obtain ⟨_, ⟨_, _, _, e, _⟩, _⟩ := x; exact Heap.lt_size e
  | rng lo hi => obtain ⟨_, _, _, e⟩ := x; exact Heap.lt_size e
  | frz ob u => obtain ⟨e, _⟩ := x; exact Heap.lt_size e
  | tbl ps => exact Heap.lt_size (show h.get? a = some _ from x)
  | met f y => exact Heap.lt_size (show h.get? a = some _ from x)
  | ext φ => obtain ⟨_, ⟨_, e⟩, _⟩ := x; exact Heap.lt_size e
theorem Paired.mapP {α β : Type} {F G : α → β → Prop} : ∀ {l₁ : List α} {l₂ : List β}, Paired F l₁ l₂ → (∀ a b, F a b → G a b) → Paired G l₁ l₂
  | _, _, .nil, _ => .nil
  | _, _, .cons r t, f => .cons (f _ _ r) (Paired.mapP t f)
theorem ObjOk.stay (x : ObjOk P w H h a o) (k : ∀ b u, (b = a ∨ H b = some (.own a)) → h.get? b = some u → h'.get? b = some u)
    (ho : ∀ b, H b = some (.own a) → H' b = some (.own a)) (ht : ∀ b xs, H b = some (.tup xs) → H' b = some (.tup xs)) : ObjOk P w H' h' a o := by
  induction o with
  | lst xs => obtain ⟨z, its, n, r, e⟩ := x; exact ⟨z, its, n, r, k _ _ (.inl rfl) e⟩
  | tup xs => obtain ⟨z, its, r, ob, e, c⟩ := x; exact ⟨z, its, r, ob, k _ _ (.inl rfl) e, c⟩
  | dK kvs => obtain ⟨z, y, vs, r, ob, es, ep, e, c⟩ := x; exact ⟨z, y, vs, r, ob, es, ep, k _ _ (.inl rfl) e, c⟩
  | dT kvs =>
    obtain ⟨z, y, xs, r, ob, es, ep, e, c⟩ := x
    exact ⟨z, y, xs, Paired.mapP r fun p q z => ⟨z.1, ht _ _ z.2.1, z.2.2⟩, ob, es, ep, k _ _ (.inl rfl) e, c⟩
  | set S n => obtain ⟨ob, es, ep, t, e, c⟩ := x; exact ⟨ob, es, ep, t, k _ _ (.inl rfl) e, c⟩
  | ins C dx fs =>
    obtain ⟨d, z, ne, e, mA, ⟨od, es, ep, e2, c⟩, r⟩ := x
    exact ⟨ho _ d, z, ne, k _ _ (.inl rfl) e, mA, ⟨od, es, ep, k _ _ (.inr d) e2, c⟩, r⟩
  | own y => obtain ⟨ob, e⟩ := x; exact ⟨ob, k _ _ (.inl rfl) e⟩
  | xd fs => obtain ⟨mA, ⟨od, es, ep, e, c⟩, r⟩ := x; exact ⟨mA, ⟨od, es, ep, k _ _ (.inl rfl) e, c⟩, r⟩
  | rng lo hi => obtain ⟨t, u, v, e⟩ := x; exact ⟨t, u, v, k _ _ (.inl rfl) e⟩
  | frz ob u ih => obtain ⟨e, q⟩ := x; exact ⟨k _ _ (.inl rfl) e, ih q⟩
  | tbl ps =>
    have e : h.get? a = some { cls := .none, data := .fields ps } := x
    show h'.get? a = some { cls := .none, data := .fields ps }
    exact k a _ (.inl rfl) e
  | met f y =>
    have e : h.get? a = some (PySem.W.methodObj (.ref f) (.ref y)) := x
    show h'.get? a = some (PySem.W.methodObj (.ref f) (.ref y))
    exact k a _ (.inl rfl) e
  | ext φ => obtain ⟨p, ⟨o, e⟩, st⟩ := x; exact ⟨st _ _ p fun o q => k _ _ (.inl rfl) q, ⟨o, k _ _ (.inl rfl) e⟩, st⟩
theorem HOk.lt (x : HOk P w H h) (e : H a = some o) : a < h.objs.size := (x a o e).lt
theorem HOk.fresh (x : HOk P w H h) (e : h.objs.size ≤ a) : H a = none := by
  cases q : H a with
  | none => rfl
  | some u => exact absurd (Nat.lt_of_lt_of_le (x.lt q) e) (Nat.lt_irrefl _)
theorem HOk.kept (x : HOk P w H h) (k : ∀ b u, h.get? b = some u → h'.get? b = some u) : HOk P w H h' := fun a o e =>
  (x a o e).stay (fun b u _ q => k b u q) (fun _ q => q) fun _ _ q => q
theorem HOk.laid (x : HOk P w H h) (k : ∀ b u, h.get? b = some u → h'.get? b = some u) (hp : h.objs.size ≤ a) (new : ObjOk P w (upd H a o) h' a o) : HOk P w (upd H a o) h' := fun b u e => by
  have hn := x.fresh hp
  by_cases hb : b = a
  · subst hb; rw [upd_same] at e; cases e; exact new
  · rw [upd_ne hb] at e
    exact (x b u e).stay (fun c v _ q => k c v q) (fun c q => by rw [upd_ne (ne_of_none q hn)]; exact q) fun c xs q => by rw [upd_ne (ne_of_none q hn)]; exact q
end

noncomputable def Rd (H : Hp) (a : Addr) (u : HO) : Prop := H a = some u ∨ ∃ o, H a = some (.frz o u)
theorem Rd.ok {P : Program} {w : World} {H : Hp} {h : Heap} {a : Addr} {u : HO} (r : Rd H a u) (x : HOk P w H h) : ObjOk P w H h a u := by
  rcases r with r | ⟨o, r⟩
  · exact x a u r
  · obtain ⟨_, q⟩ := x a _ r
    exact q
noncomputable def Mut : Option HO → Prop
  | some (.lst _) => True
  | some (.dK _) => True
  | some (.dT _) => True
  | some (.set _ _) => True
  | some (.ins _ _ _) => True
  | some (.ext _) => True
  | _ => False
section
variable {P : Program} {w : World} {H : Hp} {h h' : Heap} {x e : Addr} {o' : HO}
theorem HOk.write (ok : HOk P w H h) (mu : Mut (H x)) (he : e = x ∨ H e = some (.own x)) (k : ∀ b u, b ≠ e → h.get? b = some u → h'.get? b = some u) (heo : ∃ u, h'.get? e = some u)
    (new : ObjOk P w (upd H x o') h' x o') : HOk P w (upd H x o') h' := fun b u q => by
  have nown : ∀ c y, H c = some (.own y) → c ≠ x := fun c y r z => by subst z; rw [r] at mu; exact mu
  have ntup : ∀ c xs, H c = some (.tup xs) → c ≠ x := fun c xs r z => by subst z; rw [r] at mu; exact mu
  by_cases hb : b = x
  · subst hb; rw [upd_same] at q; cases q; exact new
  · rw [upd_ne hb] at q
    by_cases hbe : b = e
    · have q' : H b = some (.own x) := by
        rcases he with z | z
        · exact absurd (hbe.trans z) hb
        · rw [hbe]; exact z
      rw [q] at q'; cases q'
      obtain ⟨v, hv⟩ := heo
      exact ⟨v, by rw [hbe]; exact hv⟩
    · refine (ok b u q).stay (fun c v hc r => k c v ?_ r) (fun c r => by rw [upd_ne (nown c b r)]; exact r) fun c xs r => by rw [upd_ne (ntup c xs r)]; exact r
      rcases hc with rfl | hc
      · exact hbe
      · rintro rfl
        rcases he with z | z
        · exact nown c b hc z
        · rw [hc] at z; cases z; exact hb rfl
end

structure Un (fs ex : List Addr) (H H' : Hp) (h h' : Heap) : Prop where
  keep : ∀ b o, h.get? b = some o → H b = none → b ∉ fs → b ∉ ex → h'.get? b = some o
  slot : ∀ b o, h.get? b = some o → H b = none → b ∈ fs → b ∉ ex → ∃ sl, h'.get? b = some { o with slots := sl }
  free : ∀ b o, h.get? b = some o → H b = none → b ∉ ex → H' b = none
  there : ∀ b o, h.get? b = some o → b ∉ ex → ∃ o', h'.get? b = some o'
  tups : ∀ b xs, H b = some (.tup xs) → H' b = some (.tup xs)
  frzs : ∀ b o u, H b = some (.frz o u) → H' b = some (.frz o u)
  tbls : ∀ b ps, H b = some (.tbl ps) → ∃ more, H' b = some (.tbl (ps ++ more))
section
variable {fs fs' ex ex' : List Addr} {H H1 H2 : Hp} {h h1 h2 h' : Heap} {a x e : Addr} {o : HO}
theorem Un.any (u : Un fs ex H H1 h h1) {b : Addr} {ob : Obj} (q : h.get? b = some ob) (n : H b = none) (hx : b ∉ ex) : ∃ sl, h1.get? b = some { ob with slots := sl } := by
  by_cases hb : b ∈ fs
  · exact u.slot b ob q n hb hx
  · exact ⟨ob.slots, u.keep b ob q n hb hx⟩
theorem Un.kept (k : ∀ b u, h.get? b = some u → h'.get? b = some u) : Un fs ex H H h h' :=
  ⟨fun b ob q _ _ _ => k b ob q, fun b ob q _ _ _ => ⟨ob.slots, k b ob q⟩, fun _ _ _ n _ => n, fun b ob q _ => ⟨ob, k b ob q⟩, fun _ _ q => q, fun _ _ _ q => q, fun _ ps q => ⟨#[], by rw [q]; simp⟩⟩
theorem Un.refl : Un fs ex H H h h := Un.kept fun _ _ q => q
theorem Un.laid (k : ∀ b u, h.get? b = some u → h'.get? b = some u) (hp : h.objs.size ≤ a) (hn : H a = none) : Un fs ex H (upd H a o) h h' where
  keep := fun b u q _ _ _ => k b u q
  slot := fun b u q _ _ _ => ⟨u.slots, k b u q⟩
  free := fun b u q n _ => by rw [upd_ne (Nat.ne_of_lt (Nat.lt_of_lt_of_le (Heap.lt_size q) hp))]; exact n
  there := fun b u q _ => ⟨u, k b u q⟩
  tups := fun b xs q => by rw [upd_ne (ne_of_none q hn)]; exact q
  frzs := fun b u xs q => by rw [upd_ne (ne_of_none q hn)]; exact q
  tbls := fun b ps q => ⟨#[], by rw [upd_ne (ne_of_none q hn), q]; simp⟩
theorem Un.write (mu : Mut (H x)) (he : e = x ∨ H e = some (.own x)) (k : ∀ b u, b ≠ e → h.get? b = some u → h'.get? b = some u) (heo : ∃ u, h'.get? e = some u) : Un fs ex H (upd H x o) h h' := by
  have hx : ∀ b, H b = none → b ≠ x := fun b n z => by subst z; rw [n] at mu; exact mu
  have hb : ∀ b, H b = none → b ≠ e := fun b n z => by
    subst z
    rcases he with r | r
    · exact hx b n r
    · rw [n] at r; cases r
  have hm : ∀ b u, H b = some u → ¬ Mut (some u) → b ≠ x := fun b u q nm z => by subst z; rw [q] at mu; exact nm mu
  refine ⟨fun b u q n _ _ => k b u (hb b n) q, fun b u q n _ _ => ⟨u.slots, k b u (hb b n) q⟩, fun b u q n _ => by rw [upd_ne (hx b n)]; exact n, fun b u q _ => ?_,
    fun b xs q => by rw [upd_ne (hm b _ q fun z => z)]; exact q, fun b u xs q => by rw [upd_ne (hm b _ q fun z => z)]; exact q, fun b ps q => ⟨#[], by rw [upd_ne (hm b _ q fun z => z), q]; simp⟩⟩
  by_cases hbe : b = e
  · subst hbe; exact heo
  · exact ⟨u, k b u hbe q⟩
end

noncomputable def trk (h : Heap) (H : Hp) : List Addr := (List.range h.objs.size).filter fun a => (H a).isSome
noncomputable def hidT (h : Heap) (H : Hp) : Heap := PySem.W.hideAll h (trk h H)
theorem hidT_size (h : Heap) (H : Hp) : (hidT h H).objs.size = h.objs.size := PySem.W.hideAll_size _ _
theorem hidT_get {h : Heap} {H : Hp} {b : Addr} {o : Obj} (e : h.get? b = some o) (n : H b = none) : (hidT h H).get? b = some o :=
  PySem.W.hideAll_get _ e fun hm => by
    have q : (H b).isSome = true := (List.mem_filter.mp hm).2
    rw [n] at q; simp at q
theorem of_hidT {h : Heap} {H : Hp} {b : Addr} {o : Obj} (e : (hidT h H).get? b = some o) : h.get? b = some o ∧ H b = none := by
  have e' : h.get? b = some o := PySem.W.of_hideAll (trk h H) e
  refine ⟨e', ?_⟩
  cases q : H b with
  | none => rfl
  | some x =>
    have hm : b ∈ trk h H := List.mem_filter.mpr ⟨List.mem_range.mpr (Heap.lt_size e'), by simp [q]⟩
    have z : (hidT h H).get? b = none := PySem.W.hideAll_none (trk h H) hm
    rw [z] at e; cases e

noncomputable def allNews (g h : Heap) (L : Addr) : List (Addr × Obj) := (List.range h.objs.size).filterMap fun a => if a = L ∨ (g.get? a).isSome = true then none else (h.get? a).map fun o => (a, o)
noncomputable def rest (g h : Heap) (L d : Addr) : List (Addr × Obj) := (allNews g h L).filter fun p => decide (p.1 ≠ d)
end L2

namespace L2
open PySem PySem.Spec PyProof.Rows

structure Mod (K : PySem.W.Frag) (mg : Str → Option Value) (base : Heap) : Prop where
  kin : K.In base
  glob : base.Ns mainGlobals mg
  blt : ∃ mb, base.Ns builtinsNs mb ∧ ∀ x : Str, x ≠ "__name__" → mb x = bootBuiltins x
  nolimit : base.NoLimit

structure Cx where
  prog : Program
  w : World
  K : PySem.W.Frag
  mg : Str → Option Value
  base : Heap
  A : Around
  N : List Str
  s_0 : Shared
  H_0 : Hp
  env : Env
  outer : List Env
  stack : List Env
  ex : List Addr
  fn : Str → Bool
  calm : Bool
  pn : List (Addr × Obj)
  xe : Value → Shared → Prop
noncomputable def frs (l : List Env) : List Addr := l.filterMap (·.frame)
noncomputable abbrev Cx.fs (X : Cx) : List Addr := frs X.outer

noncomputable def Vis (sc : Scope) (x : Str) : Prop := sc.names.lookup x = some .local ∨ sc.names.lookup x = some .cell ∨ sc.names.lookup x = some .free
noncomputable def Loc (sc : Scope) (x : Str) : Prop := sc.names.lookup x = some .local ∨ sc.names.lookup x = some .cell
noncomputable def Look (env : Env) (h : Heap) (m : Str → Option Value) (x : Str) (u : Value) : Prop :=
  (env.kindOf x = some .local ∧ m x = some u) ∨ ((env.kindOf x = some .cell ∨ env.kindOf x = some .free) ∧ ∃ c, env.cells.lookup x = some c ∧ h.IsCell c (some u))

structure Cx.Ok (X : Cx) : Prop where
  mod : Mod X.K X.mg X.base
  kind : X.env.scope.kind = .function
  glob : X.env.globals = mainGlobals
  blt : X.env.builtins = builtinsNs
  above : X.s_0.heap.objs.size ≤ X.env.locals
  inj : ∀ x y c, X.env.cells.lookup x = some c → X.env.cells.lookup y = some c → x = y
  has : ∀ x, (X.env.kindOf x = some .cell ∨ X.env.kindOf x = some .free) → ∃ c, X.env.cells.lookup x = some c
  cab : ∀ x c, X.fn x = true → X.env.cells.lookup x = some c → X.s_0.heap.objs.size ≤ c
  hd : X.calm = true → X.A.handled = none
  frames : X.A.frames = some X.stack
  stk : X.stack = X.outer ∨ (X.stack = X.env :: X.outer ∧ X.env.frame = some X.env.locals)
  exf : ∀ b ∈ X.ex, b ≠ X.env.locals ∧ ∀ x c, X.env.cells.lookup x = some c → c ≠ b
  bs : ∀ b o, X.base.get? b = some o → X.s_0.heap.get? b = some o ∧ X.H_0 b = none
  bsz : X.base.objs.size ≤ X.s_0.heap.objs.size
  noex : ∀ b o, X.base.get? b = some o → b ∉ X.ex
  exfs : ∀ b ∈ X.ex, b ∉ X.fs
  funs : X.s_0.heap.FunFrames X.base X.outer
  frf : ∀ b ∈ X.fs, X.H_0 b = none

structure Inv (X : Cx) (pins : List (Addr × Obj)) (σ : List (Option V)) (H : Hp) (s : Shared) : Prop where
  ok : X.Ok
  os : s.os = X.s_0.os
  bare : AllBare s.gens
  base : Un X.fs X.ex X.H_0 H X.s_0.heap s.heap
  loc : ∃ m, s.heap.Ns X.env.locals m ∧ ∀ (i : Nat) (x : Str) (v : V), X.N[i]? = some x → σ[i]? = some (some v) → Vis X.env.scope x → ∃ u, RelV v u ∧ Look X.env s.heap m x u
  cell : ∀ x c, X.env.cells.lookup x = some c → ∃ v, s.heap.IsCell c v
  free : H X.env.locals = none
  freeC : ∀ x c, X.env.cells.lookup x = some c → H c = none
  pin : ∀ p ∈ X.pn ++ pins, s.heap.get? p.1 = some p.2 ∧ H p.1 = none ∧ p.1 ≠ X.env.locals ∧ p.1 ∉ X.fs ∧ ∀ v, p.2.data ≠ .cell v
  hok : HOk X.prog X.w H s.heap
  len : σ.length = X.N.length

section
variable {X : Cx} {pins : List (Addr × Obj)} {σ : List (Option V)} {H H' : Hp} {s : Shared} {h' : Heap}

theorem Cx.Ok.nofr (ok : X.Ok) {b : Addr} {o : Obj} (e : X.base.get? b = some o) : b ∉ X.fs := fun hb => by
  have := (ok.funs.mem hb).1
  rw [e] at this; cases this
theorem Inv.bs (I : Inv X pins σ H s) : ∀ b o, X.base.get? b = some o → s.heap.get? b = some o ∧ H b = none := fun b o e =>
  ⟨I.base.keep b o (I.ok.bs b o e).1 (I.ok.bs b o e).2 (I.ok.nofr e) (I.ok.noex b o e), I.base.free b o (I.ok.bs b o e).1 (I.ok.bs b o e).2 (I.ok.noex b o e)⟩
theorem Inv.bk (I : Inv X pins σ H s) : ∀ b o, X.base.get? b = some o → s.heap.get? b = some o := fun b o e => (I.bs b o e).1
theorem Inv.mod (I : Inv X pins σ H s) : Mod X.K X.mg X.base := I.ok.mod
theorem Inv.kIn (I : Inv X pins σ H s) : X.K.In s.heap := I.ok.mod.kin.keeps I.bk
theorem Inv.fr (I : Inv X pins σ H s) : ∃ m, Fr X.base X.env.locals s.heap m :=
  let ⟨m, hn, _⟩ := I.loc
  ⟨m, hn, I.bk, Nat.le_trans I.ok.bsz I.ok.above⟩
theorem Inv.lt (I : Inv X pins σ H s) : X.env.locals < s.heap.objs.size := let ⟨_, hn, _⟩ := I.loc; hn.lt
theorem Inv.sz (I : Inv X pins σ H s) : X.s_0.heap.objs.size ≤ s.heap.objs.size := Nat.le_trans I.ok.above (Nat.le_of_lt I.lt)
theorem Inv.nofs (I : Inv X pins σ H s) {a : Addr} (h : s.heap.objs.size ≤ a) : a ∉ X.fs := fun hb => by
  obtain ⟨_, o, ho, _⟩ := I.ok.funs.mem hb
  exact absurd (Nat.lt_of_lt_of_le (Heap.lt_size ho) (Nat.le_trans I.sz h)) (Nat.lt_irrefl _)
theorem Inv.cne (I : Inv X pins σ H s) : ∀ x c, X.env.cells.lookup x = some c → c ≠ X.env.locals := fun x c e z => by
  obtain ⟨v, o, ho, hd⟩ := I.cell x c e
  obtain ⟨m, ⟨o', es, ep, ho', hd', _⟩, _⟩ := I.loc
  rw [z, ho'] at ho; cases ho; rw [hd'] at hd; cases hd
theorem Inv.funs (I : Inv X pins σ H s) : s.heap.FunFrames X.base X.outer := by
  have all : ∀ (l : List Env), (∀ b ∈ frs l, b ∈ X.fs) → X.s_0.heap.FunFrames X.base l → s.heap.FunFrames X.base l := by
    intro l
    induction l with
    | nil => intro _ _; trivial
    | cons env r ih =>
      intro hs hl
      obtain ⟨hk, ⟨L, o, hf, hn, ho, hd⟩, hr⟩ := hl
      have hL : L ∈ X.fs := hs L (by unfold frs; rw [List.filterMap_cons, hf]; exact List.mem_cons_self)
      obtain ⟨sl, e⟩ := I.base.slot L o ho (I.ok.frf L hL) hL fun z => I.ok.exfs L z hL
      exact ⟨hk, ⟨L, _, hf, hn, e, hd⟩, ih (fun b hb => hs b (by unfold frs; rw [List.filterMap_cons, hf]; exact List.mem_cons_of_mem _ hb)) hr⟩
  exact all X.outer (fun _ hb => hb) I.ok.funs

theorem Inv.stack (I : Inv X pins σ H s) : s.heap.FunFrames X.base X.stack := by
  rcases I.ok.stk with e | ⟨e, hf⟩
  · rw [e]; exact I.funs
  · rw [e]
    obtain ⟨m, hn, _⟩ := I.loc
    refine .cons (by rw [I.ok.kind]; decide) hf hn ?_ I.funs
    exact Heap.get?_none_of_le (Nat.le_trans I.ok.bsz I.ok.above)
theorem Inv.stkSub (I : Inv X pins σ H s) : ∀ b ∈ frs X.stack, b ∈ X.env.locals :: X.fs := fun b hb => by
  rcases I.ok.stk with e | ⟨e, hf⟩
  · rw [e] at hb; exact List.mem_cons_of_mem _ hb
  · rw [e] at hb
    unfold frs at hb
    rw [List.filterMap_cons, hf] at hb
    exact hb
theorem Inv.stkFree (I : Inv X pins σ H s) : ∀ b ∈ frs X.stack, H b = none := fun b hb => by
  rcases List.mem_cons.mp (I.stkSub b hb) with e | hb
  · rw [e]; exact I.free
  · obtain ⟨_, o, ho, _⟩ := I.ok.funs.mem hb
    exact I.base.free b o ho (I.ok.frf b hb) fun z => I.ok.exfs b z hb

theorem Inv.step {g' : Array GenState} {t' : Nat} {d' : Drawn} {ch : List Addr} (I : Inv X pins σ H s)
    (hch : ∀ b ∈ ch, (b ∈ X.ex ∨ X.s_0.heap.objs.size ≤ b) ∧ b ≠ X.env.locals ∧ (∀ x c, X.env.cells.lookup x = some c → c ≠ b) ∧ ∀ p ∈ X.pn ++ pins, p.1 ≠ b)
    (keep : ∀ b o, b ≠ X.env.locals → b ∉ X.fs → b ∉ ch → s.heap.get? b = some o → H b = none → h'.get? b = some o)
    (slot : ∀ b o, b ≠ X.env.locals → b ∈ X.fs → b ∉ ch → s.heap.get? b = some o → H b = none → ∃ sl, h'.get? b = some { o with slots := sl }) (free : ∀ b o, b ∉ ch → s.heap.get? b = some o → H b = none → H' b = none)
    (there : ∀ b o, b ∉ ch → s.heap.get? b = some o → ∃ o', h'.get? b = some o')
    (tups : ∀ b xs, H b = some (.tup xs) → H' b = some (.tup xs)) (frzs : ∀ b o u, H b = some (.frz o u) → H' b = some (.frz o u)) (tbls : ∀ b ps, H b = some (.tbl ps) → ∃ more, H' b = some (.tbl (ps ++ more)))
    (ns : ∀ m, s.heap.Ns X.env.locals m → h'.Ns X.env.locals m) (hok : HOk X.prog X.w H' h') (hg : AllBare g') :
    Inv X pins σ H' { s with heap := h', gens := g', drawn := d', toks := t' } := by
  have neL : ∀ b o, X.s_0.heap.get? b = some o → b ≠ X.env.locals := fun b o e => Nat.ne_of_lt (Nat.lt_of_lt_of_le (Heap.lt_size e) I.ok.above)
  have neC : ∀ b o, X.s_0.heap.get? b = some o → b ∉ X.ex → b ∉ ch := fun b o e hx hb => by
    rcases (hch b hb).1 with z | z
    · exact hx z
    · exact absurd (Nat.lt_of_lt_of_le (Heap.lt_size e) z) (Nat.lt_irrefl _)
  have cellK : ∀ x c, X.env.cells.lookup x = some c → ∀ v, s.heap.IsCell c v → h'.IsCell c v := fun x c e v ⟨o, ho, hd⟩ => by
    have nch : c ∉ ch := fun z => (hch c z).2.2.1 x c e rfl
    by_cases hc : c ∈ X.fs
    · obtain ⟨sl, q⟩ := slot c o (I.cne x c e) hc nch ho (I.freeC x c e)
      exact ⟨_, q, hd⟩
    · exact ⟨o, keep c o (I.cne x c e) hc nch ho (I.freeC x c e), hd⟩
  refine ⟨I.ok, I.os, hg, ⟨fun b o e n hb hx => ?_, fun b o e n hb hx => ?_, fun b o e n hx => ?_, fun b o e hx => ?_, fun b xs e => tups b xs (I.base.tups b xs e), fun b o xs e => frzs b o xs (I.base.frzs b o xs e), fun b ps e => ?_⟩, ?_, fun x c e => ?_, ?_, fun x c e => ?_, fun p hp => ?_, hok, I.len⟩
  · exact keep b o (neL b o e) hb (neC b o e hx) (I.base.keep b o e n hb hx) (I.base.free b o e n hx)
  · obtain ⟨sl, e1⟩ := I.base.slot b o e n hb hx
    obtain ⟨sl', e2⟩ := slot b _ (neL b o e) hb (neC b o e hx) e1 (I.base.free b o e n hx)
    exact ⟨sl', e2⟩
  · obtain ⟨o', e1⟩ := I.base.there b o e hx
    exact free b o' (neC b o e hx) e1 (I.base.free b o e n hx)
  · obtain ⟨o', e1⟩ := I.base.there b o e hx
    exact there b o' (neC b o e hx) e1
  · obtain ⟨m1, e1⟩ := I.base.tbls b ps e
    obtain ⟨m2, e2⟩ := tbls b _ e1
    exact ⟨m1 ++ m2, by rw [e2, Array.append_assoc]⟩
  · obtain ⟨m, hn, hl⟩ := I.loc
    refine ⟨m, ns m hn, fun i x v e1 e2 e3 => ?_⟩
    obtain ⟨u, r, l⟩ := hl i x v e1 e2 e3
    refine ⟨u, r, ?_⟩
    rcases l with l | ⟨k, c, e, z⟩
    · exact .inl l
    · exact .inr ⟨k, c, e, cellK x c e _ z⟩
  · obtain ⟨v, z⟩ := I.cell x c e
    exact ⟨v, cellK x c e v z⟩
  · obtain ⟨m, ⟨o, _, _, ho, _⟩, _⟩ := I.loc
    exact free _ o (fun z => (hch _ z).2.1 rfl) ho I.free
  · obtain ⟨v, o, ho, hd⟩ := I.cell x c e
    exact free c o (fun z => (hch c z).2.2.1 x c e rfl) ho (I.freeC x c e)
  · obtain ⟨e, n, ne, nf, d⟩ := I.pin p hp
    have nch : p.1 ∉ ch := fun z => (hch p.1 z).2.2.2 p hp rfl
    exact ⟨keep p.1 p.2 ne nf nch e n, free p.1 p.2 nch e n, ne, nf, d⟩
theorem Inv.un {t' : Nat} (I : Inv X pins σ H s) (u : Un X.fs [] H H' s.heap h') (hok : HOk X.prog X.w H' h') : Inv X pins σ H' { s with heap := h', toks := t' } := by
  obtain ⟨m, ⟨o, es, ep, ho, r⟩, _⟩ := id I.loc
  obtain ⟨sl, hL⟩ := u.any ho I.free (by simp)
  exact I.step (g' := s.gens) (d' := s.drawn) (ch := []) (fun _ z => nomatch z) (fun b o _ hb _ e n => u.keep b o e n hb (by simp)) (fun b o _ hb _ e n => u.slot b o e n hb (by simp)) (fun b o _ e n => u.free b o e n (by simp)) (fun b o _ e => u.there b o e (by simp)) u.tups u.frzs u.tbls (fun m' hm => by
    obtain ⟨o', es', ep', ho', r'⟩ := hm
    rw [ho] at ho'; cases ho'
    exact ⟨_, es', ep', hL, r'⟩) hok I.bare
theorem Inv.call {g' : Array GenState} {t' : Nat} {d' : Drawn} {ch : List Addr} (I : Inv X pins σ H s) (u : Un (frs X.stack) ch H H' s.heap h') (hok : HOk X.prog X.w H' h') (hg : AllBare g')
    (hch : ∀ b ∈ ch, (b ∈ X.ex ∨ X.s_0.heap.objs.size ≤ b) ∧ b ≠ X.env.locals ∧ (∀ x c, X.env.cells.lookup x = some c → c ≠ b) ∧ ∀ p ∈ X.pn ++ pins, p.1 ≠ b) :
    Inv X pins σ H' { s with heap := h', gens := g', drawn := d', toks := t' } := by
  obtain ⟨m, ⟨o, es, ep, ho, r⟩, _⟩ := id I.loc
  obtain ⟨sl, hL⟩ := u.any ho I.free fun z => (hch _ z).2.1 rfl
  exact I.step (ch := ch) hch (fun b o hL hb hc e n => u.keep b o e n (fun z => (List.mem_cons.mp (I.stkSub b z)).elim hL hb) hc) (fun b o _ _ hc e n => u.any e n hc) (fun b o hc e n => u.free b o e n hc) (fun b o hc e => u.there b o e hc) u.tups u.frzs u.tbls (fun m' hm => by
    obtain ⟨o', es', ep', ho', r'⟩ := hm
    rw [ho] at ho'; cases ho'
    exact ⟨_, es', ep', hL, r'⟩) hok hg
theorem Inv.turned {t' : Nat} {it : Addr} (I : Inv X pins σ H s) (k : ∀ b o, b ≠ it → s.heap.get? b = some o → h'.get? b = some o) (hn : H it = none) (hL : it ≠ X.env.locals)
    (h1 : it ∈ X.ex ∨ X.s_0.heap.objs.size ≤ it) (h2 : ∀ x c, X.env.cells.lookup x = some c → c ≠ it) (h3 : ∀ p ∈ X.pn ++ pins, p.1 ≠ it) : Inv X pins σ H { s with heap := h', toks := t' } := by
  have nit : ∀ b u, H b = some u → b ≠ it := fun b u e z => by rw [z, hn] at e; cases e
  refine I.step (g' := s.gens) (d' := s.drawn) (ch := [it]) (fun b hb => ?_) (fun b o _ _ hc e _ => k b o (fun z => hc (by simp [z])) e) (fun b o _ _ hc e _ => ⟨o.slots, k b o (fun z => hc (by simp [z])) e⟩) (fun _ _ _ _ n => n)
    (fun b o hc e => ⟨o, k b o (fun z => hc (by simp [z])) e⟩) (fun _ _ e => e) (fun _ _ _ e => e) (fun b ps e => ⟨#[], by rw [e]; simp⟩) (fun m hm => ?_) (fun b u e => ?_) I.bare
  · have e : b = it := by simpa using hb
    subst e
    exact ⟨h1, hL, h2, h3⟩
  · obtain ⟨o, es, ep, ho, r⟩ := hm
    exact ⟨o, es, ep, k _ o (Ne.symm hL) ho, r⟩
  · refine (I.hok b u e).stay (fun c v hc q => k c v ?_ q) (fun _ q => q) fun _ _ q => q
    rcases hc with z | z
    · rw [z]; exact nit b u e
    · exact nit c _ z
theorem Inv.tok (I : Inv X pins σ H s) (t : Nat) : Inv X pins σ H { s with toks := t } := I.un (h' := s.heap) (t' := t) Un.refl I.hok
theorem Inv.kept {t' : Nat} (I : Inv X pins σ H s) (k : ∀ b u, s.heap.get? b = some u → h'.get? b = some u) : Inv X pins σ H { s with heap := h', toks := t' } := I.un (Un.kept k) (I.hok.kept k)
theorem Inv.laid {a : Addr} {o : HO} {t' : Nat} (I : Inv X pins σ H s) (k : ∀ b u, s.heap.get? b = some u → h'.get? b = some u) (hp : s.heap.objs.size ≤ a) (new : ObjOk X.prog X.w (upd H a o) h' a o) :
    Inv X pins σ (upd H a o) { s with heap := h', toks := t' } := I.un (Un.laid k hp (I.hok.fresh hp)) (I.hok.laid k hp new)
theorem Inv.write {x e : Addr} {o : HO} {t' : Nat} (I : Inv X pins σ H s) (mu : Mut (H x)) (he : e = x ∨ H e = some (.own x)) (k : ∀ b u, b ≠ e → s.heap.get? b = some u → h'.get? b = some u) (heo : ∃ u, h'.get? e = some u)
    (new : ObjOk X.prog X.w (upd H x o) h' x o) : Inv X pins σ (upd H x o) { s with heap := h', toks := t' } := I.un (Un.write mu he k heo) (I.hok.write mu he k heo new)
theorem Inv.weak {σ' : List (Option V)} (I : Inv X pins σ H s) (hl : σ'.length = σ.length) (w : ∀ (i : Nat) v, σ'[i]? = some (some v) → σ[i]? = some (some v)) : Inv X pins σ' H s :=
  ⟨I.ok, I.os, I.bare, I.base, let ⟨m, hn, hl'⟩ := I.loc; ⟨m, hn, fun i x v e1 e2 e3 => hl' i x v e1 (w i v e2) e3⟩, I.cell, I.free, I.freeC, I.pin, I.hok, hl.trans I.len⟩
theorem Inv.pins_of {pins' : List (Addr × Obj)} (I : Inv X pins σ H s) (h : ∀ p ∈ pins', s.heap.get? p.1 = some p.2 ∧ H p.1 = none ∧ p.1 ≠ X.env.locals ∧ p.1 ∉ X.fs ∧ ∀ v, p.2.data ≠ .cell v) : Inv X pins' σ H s :=
  ⟨I.ok, I.os, I.bare, I.base, I.loc, I.cell, I.free, I.freeC, fun p hp => (List.mem_append.mp hp).elim (fun z => I.pin p (List.mem_append_left _ z)) (h p), I.hok, I.len⟩

theorem nodup_ix {N : List Str} (hN : N.Nodup) {i j : Nat} {x : Str} (a : N[i]? = some x) (b : N[j]? = some x) : i = j := by
  obtain ⟨h1, e1⟩ := List.getElem?_eq_some_iff.mp a
  obtain ⟨h2, e2⟩ := List.getElem?_eq_some_iff.mp b
  exact (List.getElem_inj hN).mp (e1.trans e2.symm)

theorem store_ok2 {M : Model} {A : Around} {E : Value → Shared → Prop} {i : Nat} {x : Str} {v : V} {u : Value} {Q : Unit → Shared → Prop} (I : Inv X pins σ H s) (hN : X.N.Nodup) (hi : X.N[i]? = some x) (hx : Loc X.env.scope x) (r : RelV v u)
    (h : ∀ s', Inv X pins (σ.set i (some v)) H s' → (∃ a, Heap.SameBut a s.heap s'.heap ∧ (a = X.env.locals ∨ X.env.cells.lookup x = some a)) → Q () s') (hf : X.fn x = true ∨ X.env.scope.names.lookup x = some .local := by first | exact .inl rfl | exact .inr rfl | assumption) : wpAny M A (storeName X.env x u) Q E s := by
  obtain ⟨m, hn, hl⟩ := id I.loc
  have hcls : (X.env.scope.kind == .class || (X.env.scope.kind == .module && X.env.locals != X.env.globals)) = false := by rw [I.ok.kind]; rfl
  have hiσ : i < σ.length := by rw [I.len]; exact (List.getElem?_eq_some_iff.mp hi).1
  have cne := I.cne
  have tracked : ∀ {a : Addr} {h' : Heap}, (∃ o, s.heap.get? a = some o ∧ H a = none) → Heap.SameBut a s.heap h' → HOk X.prog X.w H h' := fun {a h'} ha hs b ob e => by
    obtain ⟨_, _, hfree⟩ := ha
    refine (I.hok b ob e).stay (fun c w' hc q => (hs.2 c ?_).trans q) (fun _ q => q) fun _ _ q => q
    rintro rfl
    rcases hc with rfl | hc
    · rw [hfree] at e; cases e
    · rw [hfree] at hc; cases hc
  rcases hx with hk | hk
  · refine wpAny_storeName_local hk hn (fun h' hn' hs => ?_) hcls
    obtain ⟨oL, _, _, hoL, _⟩ := id hn
    refine h _ ⟨I.ok, I.os, I.bare, ⟨fun b o e n hb hx => ?_, fun b o e n hb hx => ?_, I.base.free, fun b o e hx => ?_, I.base.tups, I.base.frzs, I.base.tbls⟩, ⟨_, hn', fun j y v' e1 e2 e3 => ?_⟩, fun y c e => ?_, I.free, I.freeC, fun p hp => ?_, tracked ⟨oL, hoL, I.free⟩ hs, by simpa using I.len⟩ ⟨_, hs, .inl rfl⟩
    · exact (hs.2 b (Nat.ne_of_lt (Nat.lt_of_lt_of_le (Heap.lt_size e) I.ok.above))).trans (I.base.keep b o e n hb hx)
    · obtain ⟨sl, e1⟩ := I.base.slot b o e n hb hx
      exact ⟨sl, (hs.2 b (Nat.ne_of_lt (Nat.lt_of_lt_of_le (Heap.lt_size e) I.ok.above))).trans e1⟩
    · obtain ⟨o', e1⟩ := I.base.there b o e hx
      exact ⟨o', (hs.2 b (Nat.ne_of_lt (Nat.lt_of_lt_of_le (Heap.lt_size e) I.ok.above))).trans e1⟩
    · by_cases hj : j = i
      · subst hj
        rw [hi] at e1; cases e1
        rw [List.getElem?_set_self hiσ] at e2
        cases e2
        exact ⟨u, r, .inl ⟨hk, by simp⟩⟩
      · rw [List.getElem?_set_ne (Ne.symm hj)] at e2
        obtain ⟨u', r', q⟩ := hl j y v' e1 e2 e3
        refine ⟨u', r', ?_⟩
        rcases q with ⟨k, e⟩ | ⟨k, c, e, z⟩
        · refine .inl ⟨k, ?_⟩
          have : y ≠ x := fun e => hj (nodup_ix hN e1 (e ▸ hi))
          simp [this, e]
        · exact .inr ⟨k, c, e, z.sameBut hs (cne y c e)⟩
    · obtain ⟨w', z⟩ := I.cell y c e
      exact ⟨w', z.sameBut hs (cne y c e)⟩
    · obtain ⟨e, n, ne, nf, d⟩ := I.pin p hp
      exact ⟨(hs.2 p.1 ne).trans e, n, ne, nf, d⟩
  · have hfn : X.fn x = true := by
      rcases hf with z | z
      · exact z
      · rw [z] at hk; cases hk
    obtain ⟨c, hc⟩ := I.ok.has x (.inl hk)
    obtain ⟨w', z⟩ := I.cell x c hc
    refine wpAny_storeName_cell I.ok.kind hk hc z (fun h' hc' hs => ?_)
    obtain ⟨oc, hoc, hocd⟩ := id z
    refine h { s with heap := h' } ⟨I.ok, I.os, I.bare, ⟨fun b o e n hb hx => ?_, fun b o e n hb hx => ?_, I.base.free, fun b o e hx => ?_, I.base.tups, I.base.frzs, I.base.tbls⟩, ⟨m, hn.sameBut hs (Ne.symm (cne x c hc)), fun j y v' e1 e2 e3 => ?_⟩, fun y c' e => ?_, I.free, I.freeC, fun p hp => ?_, tracked ⟨oc, hoc, I.freeC x c hc⟩ hs, by simpa using I.len⟩ ⟨c, hs, .inr hc⟩
    · exact (hs.2 b (Nat.ne_of_lt (Nat.lt_of_lt_of_le (Heap.lt_size e) (I.ok.cab x c hfn hc)))).trans (I.base.keep b o e n hb hx)
    · obtain ⟨sl, e1⟩ := I.base.slot b o e n hb hx
      exact ⟨sl, (hs.2 b (Nat.ne_of_lt (Nat.lt_of_lt_of_le (Heap.lt_size e) (I.ok.cab x c hfn hc)))).trans e1⟩
    · obtain ⟨o', e1⟩ := I.base.there b o e hx
      exact ⟨o', (hs.2 b (Nat.ne_of_lt (Nat.lt_of_lt_of_le (Heap.lt_size e) (I.ok.cab x c hfn hc)))).trans e1⟩
    · by_cases hj : j = i
      · subst hj
        rw [hi] at e1; cases e1
        rw [List.getElem?_set_self hiσ] at e2
        cases e2
        exact ⟨u, r, .inr ⟨.inl hk, c, hc, hc'⟩⟩
      · rw [List.getElem?_set_ne (Ne.symm hj)] at e2
        obtain ⟨u', r', q⟩ := hl j y v' e1 e2 e3
        refine ⟨u', r', ?_⟩
        rcases q with q | ⟨k, c', e, z'⟩
        · exact .inl q
        · refine .inr ⟨k, c', e, z'.sameBut hs ?_⟩
          rintro rfl
          exact hj (nodup_ix hN e1 (I.ok.inj _ _ _ e hc ▸ hi))
    · by_cases hcc : c' = c
      · subst hcc; exact ⟨_, hc'⟩
      · obtain ⟨w2, z2⟩ := I.cell y c' e
        exact ⟨w2, z2.sameBut hs hcc⟩
    · obtain ⟨e, n, ne, nf, d⟩ := I.pin p hp
      refine ⟨(hs.2 p.1 ?_).trans e, n, ne, nf, d⟩
      intro q
      rw [q, hoc] at e
      have q' : oc = p.2 := Option.some.inj e
      exact d w' (by rw [← q']; exact hocd)
theorem store_ok {M : Model} {A : Around} {E : Value → Shared → Prop} {i : Nat} {x : Str} {v : V} {u : Value} {Q : Unit → Shared → Prop} (I : Inv X pins σ H s) (hN : X.N.Nodup) (hi : X.N[i]? = some x) (hx : Loc X.env.scope x) (r : RelV v u)
    (h : ∀ s', Inv X pins (σ.set i (some v)) H s' → Q () s') (hf : X.fn x = true ∨ X.env.scope.names.lookup x = some .local := by first | exact .inl rfl | exact .inr rfl | assumption) : wpAny M A (storeName X.env x u) Q E s :=
  store_ok2 I hN hi hx r (fun s' I' _ => h s' I') hf
theorem Inv.call' {s' : Shared} {ch : List Addr} (I : Inv X pins σ H s) (ho : s'.os = s.os) (u : Un (frs X.stack) ch H H' s.heap s'.heap) (hok : HOk X.prog X.w H' s'.heap) (hg : AllBare s'.gens)
    (hch : ∀ b ∈ ch, (b ∈ X.ex ∨ X.s_0.heap.objs.size ≤ b) ∧ b ≠ X.env.locals ∧ (∀ x c, X.env.cells.lookup x = some c → c ≠ b) ∧ ∀ p ∈ X.pn ++ pins, p.1 ≠ b) : Inv X pins σ H' s' := by
  obtain ⟨h', g', d', t', o'⟩ := s'
  have e : o' = s.os := ho
  subst e
  exact I.call (g' := g') (t' := t') (d' := d') u hok hg hch
end

noncomputable abbrev XK := Value → Option Addr → Hp → Prop
noncomputable abbrev St := List (Option V)
noncomputable abbrev VK := V → Hp → Prop
noncomputable abbrev TE := St → Hp → VK → Prop
noncomputable abbrev TT := St → Hp → (Bool → Hp → Prop) → Prop
noncomputable abbrev TA := St → Hp → (List V → Hp → Prop) → Prop
structure Ends where
  nx : St → Hp → Prop
  rt : VK
  bk : St → Hp → Prop := fun _ _ => False
  ct : St → Hp → Prop := fun _ _ => False
noncomputable abbrev TS := Ends → St → Hp → Prop

noncomputable def EP (X : Cx) (pins : List (Addr × Obj)) (σ : St) (Q : VK) (u : Value) (s' : Shared) : Prop := ∃ v H', Inv X pins σ H' s' ∧ RelV v u ∧ Q v H'
noncomputable def TP (X : Cx) (pins : List (Addr × Obj)) (σ : St) (Q : Bool → Hp → Prop) (b : Bool) (s' : Shared) : Prop := ∃ H', Inv X pins σ H' s' ∧ Q b H'
noncomputable def AP (X : Cx) (pins : List (Addr × Obj)) (σ : St) (Q : List V → Hp → Prop) (us : List Value) (s' : Shared) : Prop := ∃ vs H', Inv X pins σ H' s' ∧ Vals vs us ∧ Q vs H'
noncomputable def SP (X : Cx) (pins : List (Addr × Obj)) (D : Ends) (f : Flow) (s' : Shared) : Prop :=
  match f with
  | .next => ∃ σ' H', Inv X pins σ' H' s' ∧ D.nx σ' H'
  | .brk => ∃ σ' H', Inv X pins σ' H' s' ∧ D.bk σ' H'
  | .cont => ∃ σ' H', Inv X pins σ' H' s' ∧ D.ct σ' H'
  | .ret u => ∃ v σ' H', Inv X pins σ' H' s' ∧ RelV v u ∧ D.rt v H'

noncomputable def PE (X : Cx) (e : Expr) (t : TE) : Prop :=
  ∀ (pins : List (Addr × Obj)) (s : Shared) (σ : St) (H : Hp) (Q : VK), Inv X pins σ H s → t σ H Q → wpAny (model X.prog X.w) X.A (eval e X.env) (EP X pins σ Q) X.xe s
noncomputable def PT (X : Cx) (e : Expr) (t : TT) : Prop :=
  ∀ (pins : List (Addr × Obj)) (s : Shared) (σ : St) (H : Hp) (Q : Bool → Hp → Prop), Inv X pins σ H s → t σ H Q → wpAny (model X.prog X.w) X.A (isTrue e X.env (eval e X.env)) (TP X pins σ Q) X.xe s
noncomputable def PW (X : Cx) (e : Expr) (t : TT) : Prop :=
  ∀ (whole : Sem Value) (pins : List (Addr × Obj)) (s : Shared) (σ : St) (H : Hp) (Q : Bool → Hp → Prop), Inv X pins σ H s → t σ H Q → wpAny (model X.prog X.w) X.A (isTrue e X.env whole) (TP X pins σ Q) X.xe s
theorem PW.pt {X : Cx} {e : Expr} {t : TT} (h : PW X e t) : PT X e t := h _
noncomputable def PA (X : Cx) (es : List Expr) (t : TA) : Prop :=
  ∀ (pos : Pos) (pins : List (Addr × Obj)) (s : Shared) (σ : St) (H : Hp) (Q : List V → Hp → Prop), Inv X pins σ H s → t σ H Q → wpAny (model X.prog X.w) X.A (spliced (backTo pos (starEach es X.env))) (AP X pins σ Q) X.xe s
noncomputable def PS (X : Cx) (st : Stmt) (t : TS) : Prop :=
  ∀ (pins : List (Addr × Obj)) (s : Shared) (σ : St) (H : Hp) (D : Ends), Inv X pins σ H s → t D σ H → wpAny (model X.prog X.w) X.A (exec st X.env) (SP X pins D) X.xe s
noncomputable def PSs (X : Cx) (st : List Stmt) (t : TS) : Prop :=
  ∀ (pins : List (Addr × Obj)) (s : Shared) (σ : St) (H : Hp) (D : Ends), Inv X pins σ H s → t D σ H → wpAny (model X.prog X.w) X.A (execs st X.env) (SP X pins D) X.xe s
theorem thn {α : Type} {t : Sem α} {Q Q' : α → Shared → Prop} {M : Model} {A : Around} {E : Value → Shared → Prop} {s : Shared} (h : wpAny M A t Q E s) (hQ : ∀ a s, Q a s → Q' a s) : wpAny M A t Q' E s := wpAny_mono h hQ fun _ _ x => x
end L2

namespace L2
open PySem PySem.Spec PyProof.Rows
section
variable {X : Cx}

noncomputable def tVar (i : Nat) : TE := fun σ H Q => ∃ v, σ[i]? = some (some v) ∧ Q v H
noncomputable def tC (v : V) : TE := fun _ H Q => Q v H
theorem pe_var {i : Nat} {x : Str} {pos : Pos} (hN : X.N[i]? = some x) (hv : Vis X.env.scope x) (hd : (x == ("__debug__" : Str)) = false := by decide) (hcd : (x == ("__classdict__" : Str)) = false := by decide) : PE X (.Name x pos) (tVar i) := by
  intro pins s σ H Q I h
  obtain ⟨v, e, h⟩ := h
  obtain ⟨m, hn, hl⟩ := I.loc
  obtain ⟨u, r, l⟩ := hl i x v hN e hv
  have fin : EP X pins σ Q u s := ⟨v, H, I, r, h⟩
  rcases l with ⟨hk, hm⟩ | ⟨hk, c, hc, hcell⟩
  · exact wpAny_Name (wpAny_loadName_local I.ok.kind hk hn hm fin) hd
  · rcases hk with hk | hk
    · exact wpAny_Name (wpAny_loadName_cell I.ok.kind hk hc hcell fin) hd
    · exact wpAny_Name (wpAny_loadName_free I.ok.kind hk hc hcell fin hcd) hd
theorem pe_int {i j pos} : PE X (.Constant (.int i) j pos) (tC (.int i)) := fun _ _ _ H _ I h => wpAny_Constant_int ⟨.int i, H, I.tok _, ⟨_, rfl⟩, h⟩
theorem pe_non {j pos} : PE X (.Constant .none j pos) (tC .non) := fun _ _ _ H _ I h => Constant_none ⟨.non, H, I, rfl, h⟩
theorem pe_str {x j pos} : PE X (.Constant (.str x) j pos) (tC (.str x)) := fun _ _ _ H _ I h => Calls.Constant_str ⟨.str x, H, I.tok _, ⟨_, rfl⟩, h⟩

noncomputable def Gl (X : Cx) (x : Str) : Prop := X.env.kindOf x = some .globalImplicit
theorem ld_glob {E : Value → Shared → Prop} {pins : List (Addr × Obj)} {s : Shared} {σ : St} {H : Hp} {x : Str} {u : Value} {pos : Pos} {Q : Value → Shared → Prop} (I : Inv X pins σ H s) (hg : Gl X x) (hm : X.mg x = some u) (h : Q u s)
    (hd : (x == ("__debug__" : Str)) = false := by decide) : wpAny (model X.prog X.w) X.A (eval (.Name x pos) X.env) Q E s :=
  Calls.Name_function_global I.ok.kind hg (Calls.loadGlobal_global (by rw [I.ok.glob]; exact I.mod.glob.keeps I.bk) hm h) hd
theorem ld_blt {E : Value → Shared → Prop} {pins : List (Addr × Obj)} {s : Shared} {σ : St} {H : Hp} {x : Str} {u : Value} {pos : Pos} {Q : Value → Shared → Prop} (I : Inv X pins σ H s) (hg : Gl X x) (hm : X.mg x = none) (hv : bootBuiltins x = some u) (h : Q u s)
    (hn : x ≠ "__name__" := by decide) (hd : (x == ("__debug__" : Str)) = false := by decide) : wpAny (model X.prog X.w) X.A (eval (.Name x pos) X.env) Q E s := by
  obtain ⟨mb, h1, h2⟩ := I.mod.blt
  exact Calls.Name_function_global I.ok.kind hg (Calls.loadGlobal_builtin (by rw [I.ok.glob]; exact I.mod.glob.keeps I.bk) hm (by rw [I.ok.blt]; exact h1.keeps I.bk) ((h2 x hn).trans hv) h) hd
theorem pe_glob {x : Str} {v : V} {u : Value} {pos : Pos} (hg : Gl X x) (hm : X.mg x = some u) (r : RelV v u) (hd : (x == ("__debug__" : Str)) = false := by decide) : PE X (.Name x pos) (tC v) :=
  fun _ _ _ H _ I h => ld_glob I hg hm ⟨v, H, I, r, h⟩ hd
variable {a b : Expr} {ta tb : TE} {pos : Pos}
noncomputable def tB (t : TE) : TT := fun σ H Q => t σ H fun x H1 => ∃ c, x = .bl c ∧ Q c H1
theorem pt_val {e : Expr} {t : TE} (h : PE X e t) (he : ∀ whole, isTrue e X.env whole = (do let v ← whole; standAt e.pos; holding [v] (truthy v)) := by intro _; rfl) : PT X e (tB t) := by
  intro pins s σ H Q I hw
  refine isTrue_plain (thn (h pins s σ H _ I hw) fun v s1 ⟨x, H1, I1, r1, q1⟩ => ?_) (he _)
  obtain ⟨d, rfl, q⟩ := q1
  cases r1
  exact wpAny_truthy_bool ⟨H1, I1, q⟩

variable {tA tB' : TT} {rest : List Expr}
noncomputable def tAnd (t u : TT) : TT := fun σ H Q => t σ H fun c H1 => if c = true then u σ H1 Q else Q false H1
noncomputable def tOr (t u : TT) : TT := fun σ H Q => t σ H fun c H1 => if c = true then Q true H1 else u σ H1 Q
noncomputable def tNot (t : TT) : TT := fun σ H Q => t σ H fun c H1 => Q (!c) H1
theorem pw_and1 (ha : PT X a tA) : PW X (.BoolOp .And [a] pos) tA := by
  intro wh pins s σ H Q I h
  refine isTrue_and (thn (ha pins s σ H Q I h) fun c s1 e => ?_)
  cases c with
  | true => exact isTrue_and_nil e
  | false => exact e
theorem pw_or1 (ha : PT X a tA) : PW X (.BoolOp .Or [a] pos) tA := by
  intro wh pins s σ H Q I h
  refine isTrue_or (thn (ha pins s σ H Q I h) fun c s1 e => ?_)
  cases c with
  | false => exact isTrue_or_nil e
  | true => exact e
theorem pw_and (ha : PT X a tA) (hb : PW X (.BoolOp .And (b :: rest) pos) tB') : PW X (.BoolOp .And (a :: b :: rest) pos) (tAnd tA tB') := by
  intro wh pins s σ H Q I h
  refine isTrue_and (thn (ha pins s σ H _ I h) fun c s1 ⟨H1, I1, q1⟩ => ?_)
  cases c with
  | true => exact hb wh pins s1 σ H1 Q I1 q1
  | false => exact ⟨H1, I1, q1⟩
theorem pw_or (ha : PT X a tA) (hb : PW X (.BoolOp .Or (b :: rest) pos) tB') : PW X (.BoolOp .Or (a :: b :: rest) pos) (tOr tA tB') := by
  intro wh pins s σ H Q I h
  refine isTrue_or (thn (ha pins s σ H _ I h) fun c s1 ⟨H1, I1, q1⟩ => ?_)
  cases c with
  | true => exact ⟨H1, I1, q1⟩
  | false => exact hb wh pins s1 σ H1 Q I1 q1
theorem pt_not (ha : PT X a tA) : PT X (.UnaryOp .Not a pos) (tNot tA) := by
  intro pins s σ H Q I h
  exact isTrue_not (ha pins s σ H (fun c H1 => Q (!c) H1) I h)
end
end L2

namespace L2
open PySem PySem.Spec PyProof.Rows

noncomputable def SqL (K : PySem.W.Frag) (H : Hp) (a : Addr) (xs : List V) : Prop :=
  Rd H a (.lst xs) ∨
    ∃ (o : Obj) (its : Array Value) (n : Nat), K.lookup a = some o ∧ o.cls = .type "list" ∧ o.dict = none ∧ o.data = .seq its n ∧ its.size ≤ sizeLine ∧ Vals xs its.toList
noncomputable def SqT (K : PySem.W.Frag) (H : Hp) (a : Addr) (xs : List V) : Prop :=
  Rd H a (.tup xs) ∨
    ∃ (o : Obj) (its : Array Value) (n : Nat), K.lookup a = some o ∧ o.cls = .type "tuple" ∧ o.data = .seq its n ∧ its.size ≤ sizeLine ∧ Vals xs its.toList
noncomputable def absV : Value → Option V
  | .none => some .non
  | .bool b => some (.bl b)
  | .int i _ => some (.int i)
  | .str x _ => some (.str x)
  | .bytes b _ => some (.byt b)
  | .float b _ => some (.flt b)
  | .ref a => some (.ref a)
  | .type n => some (.ty n)
  | _ => none
theorem RelV.abs {x : V} {u : Value} (r : RelV x u) : absV u = some x := by
  cases x with
  | non => cases r; rfl
  | bl _ => cases r; rfl
  | int _ => obtain ⟨t, rfl⟩ := r; rfl
  | str _ => obtain ⟨t, rfl⟩ := r; rfl
  | byt _ => obtain ⟨t, rfl⟩ := r; rfl
  | flt _ => obtain ⟨t, rfl⟩ := r; rfl
  | ref _ => cases r; rfl
  | ty _ => cases r; rfl
theorem RelV.inj {x y : V} {u : Value} (r : RelV x u) (q : RelV y u) : x = y := Option.some.inj (r.abs.symm.trans q.abs)
theorem Vals.inj : ∀ {xs ys : List V} {us : List Value}, Vals xs us → Vals ys us → xs = ys
  | _, _, _, .nil, .nil => rfl
  | _, _, _, .cons r t, .cons r' t' => by rw [r.inj r', Vals.inj t t']
section
variable {X : Cx} {pins : List (Addr × Obj)} {σ : St} {H : Hp} {s : Shared} {a : Addr} {xs ys : List V}
theorem SqL.of {K : PySem.W.Frag} (h : H a = some (.lst xs)) : SqL K H a xs := .inl (.inl h)
theorem SqT.of {K : PySem.W.Frag} (h : H a = some (.tup xs)) : SqT K H a xs := .inl (.inl h)
theorem Inv.list (I : Inv X pins σ H s) (h : SqL X.K H a xs) : ∃ its : List Value, Vals xs its ∧ PlainL s.heap a its.toArray ∧ xs.length ≤ sizeLine := by
  rcases h with h | ⟨o, its, n, hk, hc, hd, hs, hz, r⟩
  · obtain ⟨z, its, n, r, e⟩ := h.ok I.hok
    exact ⟨its, r, ⟨_, n, e, rfl, rfl, rfl⟩, z⟩
  · refine ⟨its.toList, r, ⟨o, n, I.kIn a o hk, hc, hd, by simpa using hs⟩, ?_⟩
    have e := r.length
    simp only [Array.length_toList] at e
    omega
theorem Inv.tuple (I : Inv X pins σ H s) (h : SqT X.K H a xs) : ∃ its : List Value, Vals xs its ∧ IsTup s.heap a its.toArray ∧ xs.length ≤ sizeLine := by
  rcases h with h | ⟨o, its, n, hk, hc, hs, hz, r⟩
  · obtain ⟨z, its, r, p⟩ := h.ok I.hok
    exact ⟨its, r, p, z⟩
  · refine ⟨its.toList, r, ⟨o, I.kIn a o hk, hc, n, by simpa using hs⟩, ?_⟩
    have e := r.length
    simp only [Array.length_toList] at e
    omega
theorem Inv.list_inj (I : Inv X pins σ H s) (h : SqL X.K H a xs) (h' : SqL X.K H a ys) : xs = ys := by
  obtain ⟨its, r, ⟨o, n, e, _, _, d⟩, _⟩ := I.list h
  obtain ⟨its', r', ⟨o', n', e', _, _, d'⟩, _⟩ := I.list h'
  rw [e] at e'; cases e'
  rw [d] at d'
  injection d' with d1 _
  have : its = its' := by simpa using congrArg Array.toList d1
  subst this
  exact r.inj r'
theorem Inv.tuple_inj (I : Inv X pins σ H s) (h : SqT X.K H a xs) (h' : SqT X.K H a ys) : xs = ys := by
  obtain ⟨its, r, ⟨o, e, _, n, d⟩, _⟩ := I.tuple h
  obtain ⟨its', r', ⟨o', e', _, n', d'⟩, _⟩ := I.tuple h'
  rw [e] at e'; cases e'
  rw [d] at d'
  injection d' with d1 _
  have : its = its' := by simpa using congrArg Array.toList d1
  subst this
  exact r.inj r'
end

noncomputable abbrev Cx.wish (X : Cx) (E : Value → Shared → Prop) : Cx := { X with xe := E }
section
variable {X : Cx} {pins : List (Addr × Obj)} {σ : St} {H : Hp} {s : Shared} {E : Value → Shared → Prop}
end

section
variable {X : Cx} {st : Stmt} {rest : List Stmt} {t u : TS} {e : Expr} {te : TE} {pos : Pos}
noncomputable def tNext : TS := fun D σ H => D.nx σ H
noncomputable def tSeq (t u : TS) : TS := fun D σ H => t { D with nx := u D } σ H
theorem pss_nil : PSs X [] tNext := fun _ _ σ H _ I h => wpAny_execs_nil ⟨σ, H, I, h⟩
theorem pss_cons (h1 : PS X st t) (h2 : PSs X rest u) : PSs X (st :: rest) (tSeq t u) := by
  intro pins s σ H D I h
  refine wpAny_execs_cons (thn (h1 pins s σ H { D with nx := u D } I h) fun f s1 q => ?_)
  cases f with
  | next =>
    obtain ⟨σ', H', I', q⟩ := q
    exact h2 pins s1 σ' H' D I' q
  | ret v => exact q
  | brk => exact q
  | cont => exact q
theorem pss_one (h1 : PS X st t) : PSs X [st] t := by
  intro pins s σ H D I h
  refine wpAny_execs_cons (thn (h1 pins s σ H D I h) fun f s1 q => ?_)
  cases f with
  | next => exact wpAny_execs_nil q
  | ret v => exact q
  | brk => exact q
  | cont => exact q
theorem Inv.quiet {pins : List (Addr × Obj)} {σ : St} {H : Hp} {s : Shared} (I : Inv X pins σ H s) : interactive X.env = false := by simp [interactive, I.ok.kind]
noncomputable def tDrop (te : TE) : TS := fun D σ H => te σ H fun _ H1 => D.nx σ H1
theorem ps_expr (he : PE X e te) (hs : swapsWith e none pos.line X.env = pure false := by rfl) : PS X (.Expr e pos) (tDrop te) := by
  intro pins s σ H D I h
  exact wpAny_Expr_any (thn (he pins s σ H _ I h) fun v s1 ⟨x, H1, I1, r1, q1⟩ => ⟨σ, H1, I1, q1⟩) I.quiet hs
noncomputable def tRet (te : TE) : TS := fun D σ H => te σ H D.rt
theorem ps_ret (he : PE X e te) : PS X (.Return (some e) pos) (tRet te) := by
  intro pins s σ H D I h
  exact wpAny_Return_some (thn (he pins s σ H _ I h) fun v s1 ⟨x, H1, I1, r1, q1⟩ => ⟨x, σ, H1, I1, r1, q1⟩)
noncomputable def tIfS (c : TT) (t u : TS) : TS := fun D σ H => c σ H fun b H1 => if b = true then t D σ H1 else u D σ H1
theorem ps_if {c : Expr} {a b : List Stmt} {tc : TT} (hc : PT X c tc) (ha : PSs X a t) (hb : PSs X b u) : PS X (.If c a b pos) (tIfS tc t u) := by
  intro pins s σ H D I h
  refine wpAny_If (thn (hc pins s σ H _ I h) fun d s1 ⟨H1, I1, q1⟩ => ?_)
  cases d with
  | true => exact ha pins s1 σ H1 D I1 q1
  | false => exact hb pins s1 σ H1 D I1 q1
end

noncomputable abbrev TG := V → St → Hp → (St → Hp → Prop) → Prop
noncomputable def PG (X : Cx) (target : Expr) (t : TG) : Prop :=
  ∀ (pins : List (Addr × Obj)) (s : Shared) (σ : St) (H : Hp) (v : V) (u : Value) (Q : St → Hp → Prop), Inv X pins σ H s → RelV v u → t v σ H Q →
    wpAny (model X.prog X.w) X.A (assign target X.env u) (fun _ s' => ∃ σ' H', Inv X pins σ' H' s' ∧ Q σ' H') X.xe s
section
variable {X : Cx} {pos : Pos}
noncomputable def gName (i : Nat) : TG := fun v σ H Q => Q (σ.set i (some v)) H
theorem pg_name {i : Nat} {x : Str} (hN : X.N.Nodup) (hi : X.N[i]? = some x) (hx : Loc X.env.scope x) (hf : X.fn x = true ∨ X.env.scope.names.lookup x = some .local := by first | exact .inl rfl | exact .inr rfl | assumption) : PG X (.Name x pos) (gName i) := by
  intro pins s σ H v u Q I r h
  exact wpAny_assign_Name (store_ok I hN hi hx r (fun s' I' => ⟨_, H, I', h⟩) hf)
noncomputable def tAsg (te : TE) (g : TG) : TS := fun D σ H => te σ H fun x H1 => g x σ H1 D.nx
theorem ps_set {i : Nat} {x : Str} {e : Expr} {te : TE} {pos' : Pos} (hN : X.N.Nodup) (hi : X.N[i]? = some x) (hx : Loc X.env.scope x) (he : PE X e te) (hs : swapsWith e (some (.Name x pos')) pos.line X.env = pure false := by rfl) (hf : X.fn x = true ∨ X.env.scope.names.lookup x = some .local := by first | exact .inl rfl | exact .inr rfl | assumption) :
    PS X (.Assign [.Name x pos'] e pos) (tAsg te (gName i)) := by
  intro pins s σ H D I h
  refine wpAny_Assign_Name (thn (he pins s σ H _ I h) fun v s1 ⟨y, H1, I1, r1, q1⟩ => ?_) hs
  exact store_ok I1 hN hi hx r1 (fun s2 I2 => ⟨_, H1, I2, q1⟩) hf
end

section
variable {X : Cx} {pos : Pos}
noncomputable def tWhile (c : TT) (tb : TS) : TS := fun D σ H => ∃ W : Nat → St → Hp → Prop, (∃ m, W m σ H) ∧ ∀ m σ H, W m σ H →
  c σ H fun b H1 => if b = true then ∃ N : St → Hp → Prop, (∀ σ' H', N σ' H' → ∃ m', m' < m ∧ W m' σ' H') ∧ tb { D with nx := N, ct := N, bk := D.nx } σ H1 else D.nx σ H1
theorem ps_while {c : Expr} {body : List Stmt} {tc : TT} {tb : TS} (hp : PassesOwn (model X.prog X.w) X.A X.env X.xe) (hc : PT X c tc) (hb : PSs X body tb) : PS X (.While c body [] pos) (tWhile tc tb) := by
  intro pins s σ H D I h
  obtain ⟨W, ⟨m0, w0⟩, turn⟩ := h
  refine wpAny_While (codeAny_whileLoop (fun n s' => ∃ σ' H', Inv X pins σ' H' s' ∧ W n σ' H') ?_ m0 ⟨σ, H, I, w0⟩)
  rintro n s1 ⟨σ1, H1, I1, w1⟩
  refine wpAny_passesOwn hp (thn (hc pins s1 σ1 H1 _ I1 (turn n σ1 H1 w1)) fun b s2 ⟨H2, I2, q2⟩ => ?_)
  cases b with
  | true =>
    obtain ⟨N, hN, q2⟩ := q2
    rw [if_pos rfl]
    refine wpAny_passesOwn hp (thn (hb pins s2 σ1 H2 _ I2 q2) fun f s3 q3 => ?_)
    cases f with
    | next =>
      obtain ⟨σ3, H3, I3, n3⟩ := q3
      obtain ⟨m', hm, w3⟩ := hN σ3 H3 n3
      exact ⟨m', hm, σ3, H3, I3, w3⟩
    | cont =>
      obtain ⟨σ3, H3, I3, n3⟩ := q3
      obtain ⟨m', hm, w3⟩ := hN σ3 H3 n3
      exact ⟨m', hm, σ3, H3, I3, w3⟩
    | brk => exact q3
    | ret v => exact q3
  | false =>
    rw [if_neg Bool.false_ne_true]
    exact wpAny_execs_nil ⟨σ1, H2, I2, q2⟩
end

structure It where
  go : Nat → Hp → Prop
  yld : Nat → Hp → V → Hp → Prop
  stop : Nat → Hp → Prop
noncomputable def FpOk (X : Cx) (pins : List (Addr × Obj)) (H : Hp) (b : Addr) : Prop :=
  H b = none ∧ b ≠ X.env.locals ∧ b ∉ X.fs ∧ (b ∈ X.ex ∨ X.s_0.heap.objs.size ≤ b) ∧ (∀ x c, X.env.cells.lookup x = some c → c ≠ b) ∧ ∀ p ∈ X.pn ++ pins, p.1 ≠ b
theorem Inv.fpOk {X : Cx} {pins : List (Addr × Obj)} {σ : St} {H H' : Hp} {s : Shared} {b : Addr} (I : Inv X pins σ H s) (hb : s.heap.objs.size ≤ b) (hn : H' b = none) : FpOk X pins H' b := by
  refine ⟨hn, Nat.ne_of_gt (Nat.lt_of_lt_of_le I.lt hb), I.nofs hb, .inr (Nat.le_trans I.sz hb), fun x c e z => ?_, fun p hp z => ?_⟩
  · obtain ⟨v, q⟩ := I.cell x c e
    exact absurd (Nat.lt_of_lt_of_le q.lt (by rw [z]; exact hb)) (Nat.lt_irrefl _)
  · exact absurd (Nat.lt_of_lt_of_le (Heap.lt_size (I.pin p hp).1) (by rw [z]; exact hb)) (Nat.lt_irrefl _)
structure Turn (P : Program) (w : World) (K : PySem.W.Frag) (tg : Expr) (J : It) (fp : List Addr) (it : Addr) (tn : Nat → Heap → Prop) : Prop where
  mem : it ∈ fp
  obj : ∀ i h, tn i h → ∀ b ∈ fp, ∃ o, h.get? b = some o ∧ ∀ v, o.data ≠ .cell v
  keep : ∀ i h h', tn i h → (∀ b ∈ fp, ∀ o, h.get? b = some o → h'.get? b = some o) → tn i h'
  item : ∀ (X : Cx), X.prog = P → X.w = w → X.K = K → X.calm = true → ∀ (i : Nat) (pins : List (Addr × Obj)) (s : Shared) (σ : St) (H : Hp) (E : Value → Shared → Prop), Inv X pins σ H s → (∀ b ∈ fp, FpOk X pins H b) → tn i s.heap → J.go i H →
    wpAny (model P w) X.A (pyNext (.ref it)) (fun r s1 => ∃ u, r = some u ∧
      wpAny (model P w) X.A (letOwnedTupleGo tg (.ref it) u) (fun _ s2 => ∃ x H', Inv X pins σ H' s2 ∧ RelV x u ∧ J.yld i H x H' ∧ tn (i + 1) s2.heap ∧ ∀ b ∈ fp, H' b = none) E s1) E s
  done : ∀ (X : Cx), X.prog = P → X.w = w → X.K = K → X.calm = true → ∀ (i : Nat) (pins : List (Addr × Obj)) (s : Shared) (σ : St) (H : Hp) (E : Value → Shared → Prop), Inv X pins σ H s → (∀ b ∈ fp, FpOk X pins H b) → tn i s.heap → J.stop i H →
    wpAny (model P w) X.A (pyNext (.ref it)) (fun r s1 => r = none ∧ Inv X pins σ H s1) E s
  self : ∀ (A : Around) (i : Nat) (s : Shared) (Q : Value → Shared → Prop) (E : Value → Shared → Prop), tn i s.heap → Q (.ref it) s → wpAny (model P w) A (pyIter (.ref it)) Q E s
noncomputable abbrev TI := St → Hp → (It → Hp → Prop) → Prop
noncomputable def PIE (X : Cx) (pins : List (Addr × Obj)) (σ : St) (tg : Expr) (R : It → Hp → Prop) (itv : Value) (s2 : Shared) : Prop :=
  ∃ (it : Addr) (fp : List Addr) (tn : Nat → Heap → Prop) (J : It) (H' : Hp), itv = .ref it ∧ Inv X pins σ H' s2 ∧ Turn X.prog X.w X.K tg J fp it tn ∧ tn 0 s2.heap ∧ (∀ b ∈ fp, FpOk X pins H' b) ∧ R J H'
noncomputable def PI (X : Cx) (tg iter : Expr) (wi : TI) : Prop :=
  ∀ (pins : List (Addr × Obj)) (s : Shared) (σ : St) (H : Hp) (R : It → Hp → Prop), Inv X pins σ H s → wi σ H R →
    wpAny (model X.prog X.w) X.A (eval iter X.env) (fun v s1 => wpAny (model X.prog X.w) X.A (pyIter v) (PIE X pins σ tg R) X.xe s1) X.xe s

theorem go_of {M : Model} {A : Around} {E : Value → Shared → Prop} {s : Shared} {tg : Expr} {it : Addr} {u : Value} {o : Obj} {n : String} {vs : Array Value} {Q : Unit → Shared → Prop} (ho : s.heap.get? it = some o) (hc : o.cls = .type n) (hd : o.data = .fields vs)
    (hn : ["enumerate", "zip", "dict_itemiterator", "dict_reverseitemiterator", "odict_iterator", "itertools.zip_longest", "itertools.pairwise"].contains n = false) (hQ : Q () s) : wpAny M A (letOwnedTupleGo tg (.ref it) u) Q E s := by
  unfold letOwnedTupleGo
  cases tg <;> first
    | exact wpAny_pure hQ
    | (cases u <;> first
        | exact wpAny_pure hQ
        | (refine wpAny_bind (wpAny_load ho ?_)
           rw [hc, hd]
           show wpAny M A (if (["enumerate", "zip", "dict_itemiterator", "dict_reverseitemiterator", "odict_iterator", "itertools.zip_longest", "itertools.pairwise"].contains n && vs[0]? == some (rawInt _)) = true then _ else _) Q E s
           rw [if_neg (by intro h; rw [hn, Bool.false_and] at h; cases h)]
           exact wpAny_pure hQ))

noncomputable def Itl (K : PySem.W.Frag) (a : Addr) : It :=
  ⟨fun i H => ∃ xs x, SqL K H a xs ∧ xs[i]? = some x, fun i H x H' => H' = H ∧ ∀ xs, SqL K H a xs → xs[i]? = some x, fun i H => ∃ xs, SqL K H a xs ∧ xs.length ≤ i⟩
noncomputable def Itt (K : PySem.W.Frag) (a : Addr) : It :=
  ⟨fun i H => ∃ xs x, SqT K H a xs ∧ xs[i]? = some x, fun i H x H' => H' = H ∧ ∀ xs, SqT K H a xs → xs[i]? = some x, fun i H => ∃ xs, SqT K H a xs ∧ xs.length ≤ i⟩
theorem turn_list {P : Program} {w : World} {K : PySem.W.Frag} {tg : Expr} (a it : Addr) : Turn P w K tg (Itl K a) [it] it (fun i h => h.IsListIter it a i) where
  mem := by simp
  obj := fun i h st b hb => by
    have e : b = it := by simpa using hb
    subst e
    obtain ⟨o, e, c, d⟩ := st
    exact ⟨o, e, fun v z => by rw [d] at z; cases z⟩
  keep := fun i h h' st k => st.at fun o e => k it (by simp) o e
  item := by
    intro X hP hw hK hc i pins s σ H E I hf st hg
    subst hP hw hK
    obtain ⟨xs, x, hq, hx⟩ := hg
    obtain ⟨its, rv, p, hz⟩ := I.list hq
    obtain ⟨u, hu, ru⟩ := rv.get hx
    obtain ⟨f0, f1, f2, f3, f4, f5⟩ := hf it (by simp)
    refine wpAny_pyNext_list_item st p.isList (x := u) (by simpa using hu) fun h' st' sb => ?_
    have I1 : Inv X pins σ H { s with heap := h' } := I.turned (t' := s.toks) (fun b o hb e => (sb.2 b hb).trans e) f0 f1 f3 f4 f5
    obtain ⟨o, e, c, d⟩ := id st'
    exact ⟨u, rfl, go_of (s := { s with heap := h' }) e c d (by decide) ⟨x, H, I1, ru, ⟨rfl, fun ys hy => by rw [I.list_inj hy hq]; exact hx⟩, st', fun b hb => (hf b hb).1⟩⟩
  done := by
    intro X hP hw hK hc i pins s σ H E I hf st hg
    subst hP hw hK
    obtain ⟨xs, hq, hx⟩ := hg
    obtain ⟨its, rv, p, hz⟩ := I.list hq
    obtain ⟨f0, f1, f2, f3, f4, f5⟩ := hf it (by simp)
    have hl := rv.length
    exact wpAny_pyNext_list_end (I.ok.hd hc) st p.isList (by simp; omega) fun h' eb => ⟨rfl, I.turned (t' := s.toks) (fun b o hb e => eb b o hb e) f0 f1 f3 f4 f5⟩
  self := fun _ _ _ _ _ st h => wpAny_pyIter_listiter st h
theorem turn_tuple {P : Program} {w : World} {K : PySem.W.Frag} {tg : Expr} (a it : Addr) : Turn P w K tg (Itt K a) [it] it (fun i h => h.IsTupleIter it a i) where
  mem := by simp
  obj := fun i h st b hb => by
    have e : b = it := by simpa using hb
    subst e
    obtain ⟨o, e, c, d⟩ := st
    exact ⟨o, e, fun v z => by rw [d] at z; cases z⟩
  keep := fun i h h' st k => st.at fun o e => k it (by simp) o e
  item := by
    intro X hP hw hK hc i pins s σ H E I hf st hg
    subst hP hw hK
    obtain ⟨xs, x, hq, hx⟩ := hg
    obtain ⟨its, rv, p, hz⟩ := I.tuple hq
    obtain ⟨u, hu, ru⟩ := rv.get hx
    obtain ⟨f0, f1, f2, f3, f4, f5⟩ := hf it (by simp)
    refine wpAny_pyNext_tuple_item st (show s.heap.IsTuple a its.toArray from p) (x := u) (by simpa using hu) fun h' st' sb => ?_
    have I1 : Inv X pins σ H { s with heap := h' } := I.turned (t' := s.toks) (fun b o hb e => (sb.2 b hb).trans e) f0 f1 f3 f4 f5
    obtain ⟨o, e, c, d⟩ := id st'
    exact ⟨u, rfl, go_of (s := { s with heap := h' }) e c d (by decide) ⟨x, H, I1, ru, ⟨rfl, fun ys hy => by rw [I.tuple_inj hy hq]; exact hx⟩, st', fun b hb => (hf b hb).1⟩⟩
  done := by
    intro X hP hw hK hc i pins s σ H E I hf st hg
    subst hP hw hK
    obtain ⟨xs, hq, hx⟩ := hg
    obtain ⟨its, rv, p, hz⟩ := I.tuple hq
    obtain ⟨f0, f1, f2, f3, f4, f5⟩ := hf it (by simp)
    have hl := rv.length
    exact wpAny_pyNext_tuple_end (I.ok.hd hc) st (show s.heap.IsTuple a its.toArray from p) (by simp; omega) fun h' eb => ⟨rfl, I.turned (t' := s.toks) (fun b o hb e => eb b o hb e) f0 f1 f3 f4 f5⟩
  self := fun _ _ _ _ _ st h => wpAny_pyIter_tupleiter st h
end L2

namespace L2
open PySem PySem.Spec PyProof.Rows
section
variable {X : Cx} {tg : Expr}
noncomputable def iList (K : PySem.W.Frag) (tl : TE) : TI := fun σ H R => tl σ H fun x H1 => ∃ a, x = .ref a ∧ (∃ xs, SqL K H1 a xs) ∧ R (Itl K a) H1
noncomputable def iTup (K : PySem.W.Frag) (tl : TE) : TI := fun σ H R => tl σ H fun x H1 => ∃ a, x = .ref a ∧ (∃ xs, SqT K H1 a xs) ∧ R (Itt K a) H1
theorem pi_list {l : Expr} {tl : TE} (hl : PE X l tl) : PI X tg l (iList X.K tl) := by
  intro pins s σ H R I h
  refine thn (hl pins s σ H _ I h) fun v s1 ⟨x, H1, I1, r1, q1⟩ => ?_
  obtain ⟨a, e, ⟨xs, hq⟩, q⟩ := q1
  subst e
  cases r1
  obtain ⟨its, rv, p, hz⟩ := I1.list hq
  refine wpAny_pyIter_list p.isList ?_
  refine ⟨s1.heap.objs.size, [s1.heap.objs.size], _, _, H1, rfl, I1.kept (t' := s1.toks) fun b o e => Heap.get?_push_of_some _ e, turn_list a _, ⟨_, Heap.get?_push_size _ rfl, rfl, rfl⟩, fun b hb => ?_, q⟩
  have e : b = s1.heap.objs.size := by simpa using hb
  subst e
  exact I1.fpOk (Nat.le_refl _) (I1.hok.fresh (Nat.le_refl _))
theorem pi_tup {l : Expr} {tl : TE} (hl : PE X l tl) : PI X tg l (iTup X.K tl) := by
  intro pins s σ H R I h
  refine thn (hl pins s σ H _ I h) fun v s1 ⟨x, H1, I1, r1, q1⟩ => ?_
  obtain ⟨a, e, ⟨xs, hq⟩, q⟩ := q1
  subst e
  cases r1
  obtain ⟨its, rv, p, hz⟩ := I1.tuple hq
  refine wpAny_pyIter_tuple (show s1.heap.IsTuple a its.toArray from p) ?_
  refine ⟨s1.heap.objs.size, [s1.heap.objs.size], _, _, H1, rfl, I1.kept (t' := s1.toks) fun b o e => Heap.get?_push_of_some _ e, turn_tuple a _, ⟨_, Heap.get?_push_size _ rfl, rfl, rfl⟩, fun b hb => ?_, q⟩
  have e : b = s1.heap.objs.size := by simpa using hb
  subst e
  exact I1.fpOk (Nat.le_refl _) (I1.hok.fresh (Nat.le_refl _))
noncomputable def tFor (wi : TI) (g : TG) (tb : TS) : TS := fun D σ H => wi σ H fun J H1 => ∃ W : Nat → Nat → St → Hp → Prop, (∃ m, W 0 m σ H1) ∧ ∀ i m σ H, W i m σ H →
  (J.stop i H ∧ D.nx σ H) ∨ (J.go i H ∧ ∃ N : St → Hp → Prop, (∀ σ' H', N σ' H' → ∃ m', m' < m ∧ W (i + 1) m' σ' H') ∧ ∀ x H', J.yld i H x H' → g x σ H' fun σ2 H2 => tb { D with nx := N, ct := N, bk := D.nx } σ2 H2)
noncomputable def pinsAt (fp : List Addr) (h : Heap) : List (Addr × Obj) := fp.filterMap fun b => (h.get? b).map fun o => (b, o)
theorem mem_pinsAt {fp : List Addr} {h : Heap} {b : Addr} {o : Obj} (hb : b ∈ fp) (e : h.get? b = some o) : (b, o) ∈ pinsAt fp h := List.mem_filterMap.mpr ⟨b, hb, by rw [e]; rfl⟩
theorem of_pinsAt {fp : List Addr} {h : Heap} {p : Addr × Obj} (hp : p ∈ pinsAt fp h) : p.1 ∈ fp ∧ h.get? p.1 = some p.2 := by
  obtain ⟨b, hb, e⟩ := List.mem_filterMap.mp hp
  cases q : h.get? b with
  | none => rw [q] at e; cases e
  | some o =>
    rw [q] at e
    have e' : (b, o) = p := Option.some.inj e
    subst e'
    exact ⟨hb, q⟩
theorem Inv.pinned {pins : List (Addr × Obj)} {σ : St} {H : Hp} {s : Shared} {fp : List Addr} (I : Inv X pins σ H s) (hf : ∀ b ∈ fp, FpOk X pins H b) (ho : ∀ b ∈ fp, ∃ o, s.heap.get? b = some o ∧ ∀ v, o.data ≠ .cell v) : Inv X (pins ++ pinsAt fp s.heap) σ H s :=
  I.pins_of fun p hp => (List.mem_append.mp hp).elim (fun z => I.pin p (List.mem_append_right _ z)) fun z => by
    obtain ⟨hb, e⟩ := of_pinsAt z
    obtain ⟨f0, f1, f2, _⟩ := hf p.1 hb
    obtain ⟨o, e', d⟩ := ho p.1 hb
    rw [e] at e'; cases e'
    exact ⟨e, f0, f1, f2, d⟩
theorem Inv.unpinned {pins pl : List (Addr × Obj)} {σ : St} {H : Hp} {s : Shared} (I : Inv X (pins ++ pl) σ H s) : Inv X pins σ H s := I.pins_of fun p hp => I.pin p (List.mem_append_right _ (List.mem_append_left _ hp))
theorem ps_for {iter : Expr} {body : List Stmt} {wi : TI} {g : TG} {tb : TS} {pos : Pos} (hp : PassesOwn (model X.prog X.w) X.A X.env X.xe) (hc : X.calm = true) (hi : PI X tg iter wi) (hg : PG X tg g) (hb : PSs X body tb)
    (hs : ∀ x, foldedSetIterable iter X.env x = pure x := by intro _; rfl) : PS X (.For tg iter body [] pos) (tFor wi g tb) := by
  intro pins s σ H D I h
  refine wpAny_For (thn (hi pins s σ H _ I h) fun v s1 h1 => thn h1 fun itv s2 h2 => ?_) hs
  obtain ⟨it, fp, tn, J, H2, e, I2, T, st2, f2, W, ⟨m0, w0⟩, turn⟩ := h2
  subst e
  -- what stays true of the iterator's objects through the loop
  have stat : ∀ {H' : Hp}, (∀ b ∈ fp, H' b = none) → ∀ b ∈ fp, FpOk X pins H' b := fun hn b hb => ⟨hn b hb, (f2 b hb).2⟩
  refine codeAny_forLoop_any (fun n s' => ∃ i σ' H', Inv X pins σ' H' s' ∧ tn i s'.heap ∧ (∀ b ∈ fp, H' b = none) ∧ W i n σ' H') ?_ m0 ⟨0, σ, H2, I2, st2, fun b hb => (f2 b hb).1, w0⟩
  rintro n s3 ⟨i, σ3, H3, I3, st3, fr3, w3⟩
  rcases turn i n σ3 H3 w3 with ⟨stop, qn⟩ | ⟨go, N, hN, step⟩
  · refine wpAny_passesOwn hp (thn (T.done X rfl rfl rfl hc i pins s3 σ3 H3 X.xe I3 (stat fr3) st3 stop) fun r s4 ⟨hr, I4⟩ => ?_)
    subst hr
    exact wpAny_execs_nil ⟨σ3, H3, I4, qn⟩
  · refine wpAny_passesOwn hp (thn (T.item X rfl rfl rfl hc i pins s3 σ3 H3 X.xe I3 (stat fr3) st3 go) fun r s4 ⟨u, hr, h4⟩ => ?_)
    subst hr
    refine wpAny_passesOwn hp (thn h4 fun _ s5 ⟨x, H5, I5, r5, y5, st5, fr5⟩ => ?_)
    have I5' := I5.pinned (stat fr5) (T.obj _ _ st5)
    refine wpAny_passesOwn hp (thn (hg _ s5 σ3 H5 x u _ I5' r5 (step x H5 y5)) fun _ s6 ⟨σ6, H6, I6, q6⟩ => ?_)
    refine wpAny_passesOwn hp (thn (hb _ s6 σ6 H6 _ I6 q6) fun f s7 q7 => ?_)
    have again : ∀ {σ7 : St} {H7 : Hp}, Inv X (pins ++ pinsAt fp s5.heap) σ7 H7 s7 → N σ7 H7 → ∃ m, m < n ∧ ∃ i σ' H', Inv X pins σ' H' s7 ∧ tn i s7.heap ∧ (∀ b ∈ fp, H' b = none) ∧ W i m σ' H' := fun {σ7 H7} I7 n7 => by
      obtain ⟨m', hm, w7⟩ := hN σ7 H7 n7
      refine ⟨m', hm, i + 1, σ7, H7, I7.unpinned, T.keep _ _ _ st5 fun b hb o e => (I7.pin (b, o) (List.mem_append_right _ (List.mem_append_right _ (mem_pinsAt hb e)))).1, fun b hb => ?_, w7⟩
      obtain ⟨o, e, d⟩ := T.obj _ _ st5 b hb
      exact (I7.pin (b, o) (List.mem_append_right _ (List.mem_append_right _ (mem_pinsAt hb e)))).2.1
    cases f with
    | next => obtain ⟨σ7, H7, I7, n7⟩ := q7; exact again I7 n7
    | cont => obtain ⟨σ7, H7, I7, n7⟩ := q7; exact again I7 n7
    | brk => obtain ⟨σ7, H7, I7, q7⟩ := q7; exact ⟨σ7, H7, I7.unpinned, q7⟩
    | ret v => obtain ⟨x7, σ7, H7, I7, r7, q7⟩ := q7; exact ⟨x7, σ7, H7, I7.unpinned, r7, q7⟩
end

theorem for_list {K : PySem.W.Frag} {a : Addr} {xs : List V} {g : TG} {tb : TS} {D : Ends} {σ : St} {H : Hp} (Pv : Nat → St → Hp → Prop) (h0 : Pv 0 σ H) (hl : ∀ i σ H, i ≤ xs.length → Pv i σ H → SqL K H a xs)
    (hs : ∀ i x σ H, xs[i]? = some x → Pv i σ H → g x σ H fun σ2 H2 => tb { D with nx := Pv (i + 1), ct := Pv (i + 1), bk := D.nx } σ2 H2) (hd : ∀ σ H, Pv xs.length σ H → D.nx σ H) :
    ∃ W : Nat → Nat → St → Hp → Prop, (∃ m, W 0 m σ H) ∧ ∀ i m σ H, W i m σ H →
      ((Itl K a).stop i H ∧ D.nx σ H) ∨ ((Itl K a).go i H ∧ ∃ N : St → Hp → Prop, (∀ σ' H', N σ' H' → ∃ m', m' < m ∧ W (i + 1) m' σ' H') ∧ ∀ x H', (Itl K a).yld i H x H' → g x σ H' fun σ2 H2 => tb { D with nx := N, ct := N, bk := D.nx } σ2 H2) := by
  refine ⟨fun i m σ H => m = xs.length - i ∧ i ≤ xs.length ∧ Pv i σ H, ⟨xs.length, by simp, Nat.zero_le _, h0⟩, ?_⟩
  rintro i m σ H ⟨rfl, hi, p⟩
  have q := hl i σ H hi p
  by_cases hlt : i < xs.length
  · refine .inr ⟨⟨xs, xs[i], q, by simp [hlt]⟩, Pv (i + 1), fun σ' H' p' => ⟨xs.length - (i + 1), by omega, rfl, hlt, p'⟩, fun x H' y => ?_⟩
    obtain ⟨e, y⟩ := y
    subst e
    exact hs i x σ _ (y xs q) p
  · have e : i = xs.length := by omega
    subst e
    exact .inl ⟨⟨xs, q, Nat.le_refl _⟩, hd σ H p⟩
theorem for_tup {K : PySem.W.Frag} {a : Addr} {xs : List V} {g : TG} {tb : TS} {D : Ends} {σ : St} {H : Hp} (Pv : Nat → St → Hp → Prop) (h0 : Pv 0 σ H) (hl : ∀ i σ H, i ≤ xs.length → Pv i σ H → SqT K H a xs)
    (hs : ∀ i x σ H, xs[i]? = some x → Pv i σ H → g x σ H fun σ2 H2 => tb { D with nx := Pv (i + 1), ct := Pv (i + 1), bk := D.nx } σ2 H2) (hd : ∀ σ H, Pv xs.length σ H → D.nx σ H) :
    ∃ W : Nat → Nat → St → Hp → Prop, (∃ m, W 0 m σ H) ∧ ∀ i m σ H, W i m σ H →
      ((Itt K a).stop i H ∧ D.nx σ H) ∨ ((Itt K a).go i H ∧ ∃ N : St → Hp → Prop, (∀ σ' H', N σ' H' → ∃ m', m' < m ∧ W (i + 1) m' σ' H') ∧ ∀ x H', (Itt K a).yld i H x H' → g x σ H' fun σ2 H2 => tb { D with nx := N, ct := N, bk := D.nx } σ2 H2) := by
  refine ⟨fun i m σ H => m = xs.length - i ∧ i ≤ xs.length ∧ Pv i σ H, ⟨xs.length, by simp, Nat.zero_le _, h0⟩, ?_⟩
  rintro i m σ H ⟨rfl, hi, p⟩
  have q := hl i σ H hi p
  by_cases hlt : i < xs.length
  · refine .inr ⟨⟨xs, xs[i], q, by simp [hlt]⟩, Pv (i + 1), fun σ' H' p' => ⟨xs.length - (i + 1), by omega, rfl, hlt, p'⟩, fun x H' y => ?_⟩
    obtain ⟨e, y⟩ := y
    subst e
    exact hs i x σ _ (y xs q) p
  · have e : i = xs.length := by omega
    subst e
    exact .inl ⟨⟨xs, q, Nat.le_refl _⟩, hd σ H p⟩
end L2

namespace L2
open PySem PySem.Spec PyProof.Rows

noncomputable abbrev R2 := V → V → Hp → VK → Prop
noncomputable def OpR (X : Cx) (f : Value → Value → Sem Value) (r : R2) : Prop :=
  ∀ (pins : List (Addr × Obj)) (s : Shared) (σ : St) (H : Hp) (x y : V) (v u : Value) (Q : VK), Inv X pins σ H s → RelV x v → RelV y u → r x y H Q →
    wpAny (model X.prog X.w) X.A (f v u) (EP X pins σ Q) X.xe s
noncomputable def UnR (X : Cx) (f : Value → Sem Value) (r : V → Hp → VK → Prop) : Prop :=
  ∀ (pins : List (Addr × Obj)) (s : Shared) (σ : St) (H : Hp) (x : V) (v : Value) (Q : VK), Inv X pins σ H s → RelV x v → r x H Q →
    wpAny (model X.prog X.w) X.A (f v) (EP X pins σ Q) X.xe s
noncomputable def CallR (X : Cx) (f : Value) (r : List V → Hp → VK → Prop) : Prop :=
  ∀ (pins : List (Addr × Obj)) (s : Shared) (σ : St) (H : Hp) (xs : List V) (us : List Value) (Q : VK), Inv X pins σ H s → Vals xs us → r xs H Q →
    wpAny (model X.prog X.w) X.A (call f us) (EP X pins σ Q) X.xe s
noncomputable def tOp (r : R2) (ta tb : TE) : TE := fun σ H Q => ta σ H fun x H1 => tb σ H1 fun y H2 => r x y H2 Q
noncomputable def tUn (r : V → Hp → VK → Prop) (ta : TE) : TE := fun σ H Q => ta σ H fun x H1 => r x H1 Q
noncomputable def rI0 (g : Int → Int → V) : R2 := fun x y H Q => ∃ i j, x = .int i ∧ y = .int j ∧ Q (g i j) H
noncomputable def rU (g : Int → V) : V → Hp → VK → Prop := fun x H Q => ∃ i, x = .int i ∧ Q (g i) H

section
variable {X : Cx} {a b c : Expr} {ta tb tc : TE} {pos : Pos}

theorem binT (ha : PE X a ta) (hb : PE X b tb) {pins : List (Addr × Obj)} {s : Shared} {σ : St} {H : Hp} {R : V → V → Hp → Prop} (I : Inv X pins σ H s)
    (h : ta σ H fun x H1 => tb σ H1 fun y H2 => R x y H2) {Q : Value → Shared → Prop} {f : Value → Value → Sem Value}
    (hf : ∀ v u s2 x y H2, Inv X pins σ H2 s2 → RelV x v → RelV y u → R x y H2 → wpAny (model X.prog X.w) X.A (f v u) Q X.xe s2) :
    wpAny (model X.prog X.w) X.A (eval a X.env) (fun v s₁ => wpAny (model X.prog X.w) X.A (eval b X.env) (fun u s₂ => wpAny (model X.prog X.w) X.A (f v u) Q X.xe s₂) X.xe s₁) X.xe s := by
  refine thn (ha pins s σ H _ I h) fun v s1 ⟨x, H1, I1, r1, q1⟩ => ?_
  refine thn (hb pins s1 σ H1 _ I1 q1) fun u s2 ⟨y, H2, I2, r2, q2⟩ => ?_
  exact hf v u s2 x y H2 I2 r1 r2 q2

theorem pe_op {op : Operator} {r : R2} (ho : OpR X (binaryOp op) r) (ha : PE X a ta) (hb : PE X b tb) : PE X (.BinOp a op b pos) (tOp r ta tb) := by
  intro pins s σ H Q I h
  exact wpAny_BinOp (binT ha hb I h fun v u s2 x y H2 I2 rx ry q => ho pins s2 σ H2 x y v u Q I2 rx ry q)
theorem pe_un {op : UnaryOp} {r : V → Hp → VK → Prop} (ho : UnR X (unaryOp op) r) (ha : PE X a ta) : PE X (.UnaryOp op a pos) (tUn r ta) := by
  intro pins s σ H Q I h
  exact UnaryOp_ (thn (ha pins s σ H _ I h) fun v s1 ⟨x, H1, I1, r1, q1⟩ => ho pins s1 σ H1 x v Q I1 r1 q1)
theorem opI0 {f : Value → Value → Sem Value} {g : Int → Int → Int}
    (rule : ∀ (i j : Int) (t u : Tok) (s : Shared) (Q : Value → Shared → Prop) (E : Value → Shared → Prop), Q (.int (g i j) s.toks) { s with toks := s.toks + 1 } → wpAny (model X.prog X.w) X.A (f (.int i t) (.int j u)) Q E s) :
    OpR X f (rI0 fun i j => .int (g i j)) := by
  intro pins s σ H x y v u Q I rx ry h
  obtain ⟨i, j, rfl, rfl, q⟩ := h
  obtain ⟨t, rfl⟩ := rx
  obtain ⟨t', rfl⟩ := ry
  exact rule i j t t' s _ _ ⟨.int (g i j), H, I.tok _, ⟨_, rfl⟩, q⟩
theorem opB0 {f : Value → Value → Sem Value} {g : Int → Int → Bool}
    (rule : ∀ (i j : Int) (t u : Tok) (s : Shared) (Q : Value → Shared → Prop) (E : Value → Shared → Prop), Q (.bool (g i j)) s → wpAny (model X.prog X.w) X.A (f (.int i t) (.int j u)) Q E s) :
    OpR X f (rI0 fun i j => .bl (g i j)) := by
  intro pins s σ H x y v u Q I rx ry h
  obtain ⟨i, j, rfl, rfl, q⟩ := h
  obtain ⟨t, rfl⟩ := rx
  obtain ⟨t', rfl⟩ := ry
  exact rule i j t t' s _ _ ⟨.bl (g i j), H, I, rfl, q⟩

theorem op_add : OpR X (binaryOp .Add) (rI0 fun i j => .int (i + j)) := opI0 fun _ _ _ _ _ _ _ q => add_int q
theorem op_sub : OpR X (binaryOp .Sub) (rI0 fun i j => .int (i - j)) := opI0 fun _ _ _ _ _ _ _ q => sub_int q
theorem unI {f : Value → Sem Value} {g : Int → Int}
    (rule : ∀ (i : Int) (t : Tok) (s : Shared) (Q : Value → Shared → Prop) (E : Value → Shared → Prop), Q (.int (g i) s.toks) { s with toks := s.toks + 1 } → wpAny (model X.prog X.w) X.A (f (.int i t)) Q E s) :
    UnR X f (rU fun i => .int (g i)) := by
  intro pins s σ H x v Q I rx h
  obtain ⟨i, rfl, q⟩ := h
  obtain ⟨t, rfl⟩ := rx
  exact rule i t s _ _ ⟨.int (g i), H, I.tok _, ⟨_, rfl⟩, q⟩
theorem un_neg : UnR X (unaryOp .USub) (rU fun i => .int (-i)) := unI fun _ _ _ _ _ q => neg_int q
end

noncomputable def scal : V → V → Bool
  | .non, .non => true | .non, .int _ => true | .int _, .non => true | .non, .bl _ => true | .bl _, .non => true | .non, .str _ => true | .str _, .non => true
  | .int _, .int _ => true | .bl _, .bl _ => true | .str _, .str _ => true | .byt _, .byt _ => true
  | .int _, .str _ => true | .str _, .int _ => true | .bl _, .str _ => true | .str _, .bl _ => true
  | _, _ => false
noncomputable def rEq : R2 := fun x y H Q => scal x y = true ∧ Q (.bl (decide (x = y))) H
noncomputable def rNe : R2 := fun x y H Q => scal x y = true ∧ Q (.bl (!decide (x = y))) H

theorem dec_int {i j : Int} : decide (V.int i = V.int j) = (i == j) := by
  rw [Bool.eq_iff_iff]
  simp
theorem dec_bl {i j : Bool} : decide (V.bl i = V.bl j) = (i == j) := by
  rw [Bool.eq_iff_iff]
  simp
theorem dec_str {i j : Str} : decide (V.str i = V.str j) = (i == j) := by
  rw [Bool.eq_iff_iff]
  simp
theorem dec_byt {i j : Array UInt8} : decide (V.byt i = V.byt j) = (i.toList == j.toList) := by
  rw [Bool.eq_iff_iff]
  cases i
  cases j
  simp

section
variable {X : Cx} {a b c : Expr} {ta tb tc : TE} {pos : Pos}
theorem fin_bl {pins : List (Addr × Obj)} {σ : St} {H : Hp} {s : Shared} {Q : VK} {k k' : Bool} (I : Inv X pins σ H s) (q : Q (.bl k) H) (e : k = k') : EP X pins σ Q (.bool k') s := by
  subst e
  exact ⟨.bl k, H, I, rfl, q⟩
theorem op_eq : OpR X (compareOp .Eq) rEq := by
  intro pins s σ H x y v u Q I rx ry h
  obtain ⟨hs, q⟩ := h
  cases x with
  | non =>
    cases rx
    cases y with
    | non => cases ry; exact PySem.EqNone.eq_none_none (fin_bl I q (by simp))
    | bl j => cases ry; exact PySem.EqNone.eq_none_bool (fin_bl I q (by simp))
    | int j => obtain ⟨t', rfl⟩ := ry; exact PySem.EqNone.eq_none_int (fin_bl I q (by simp))
    | str j => obtain ⟨t', rfl⟩ := ry; exact PySem.EqNone.eq_none_str (fin_bl I q (by simp))
    | _ => exact absurd (show false = true from hs) Bool.false_ne_true
  | bl i =>
    cases rx
    cases y with
    | non => cases ry; exact PySem.EqNone.eq_bool_none (fin_bl I q (by simp))
    | bl j => cases ry; exact eq_bool (fin_bl I q dec_bl)
    | str j => obtain ⟨t', rfl⟩ := ry; exact PySem.EqMixed.eq_bool_str (fin_bl I q (by simp))
    | _ => exact absurd (show false = true from hs) Bool.false_ne_true
  | int i =>
    obtain ⟨t, rfl⟩ := rx
    cases y with
    | non => cases ry; exact PySem.EqNone.eq_int_none (fin_bl I q (by simp))
    | int j => obtain ⟨t', rfl⟩ := ry; exact eq_int (fin_bl I q dec_int)
    | str j => obtain ⟨t', rfl⟩ := ry; exact PySem.EqMixed.eq_int_str (fin_bl I q (by simp))
    | _ => exact absurd (show false = true from hs) Bool.false_ne_true
  | str i =>
    obtain ⟨t, rfl⟩ := rx
    cases y with
    | non => cases ry; exact PySem.EqNone.eq_str_none (fin_bl I q (by simp))
    | bl j => cases ry; exact PySem.EqMixed.eq_str_bool (fin_bl I q (by simp))
    | int j => obtain ⟨t', rfl⟩ := ry; exact PySem.EqMixed.eq_str_int (fin_bl I q (by simp))
    | str j => obtain ⟨t', rfl⟩ := ry; exact eq_str (fin_bl I q dec_str)
    | _ => exact absurd (show false = true from hs) Bool.false_ne_true
  | byt i =>
    obtain ⟨t, rfl⟩ := rx
    cases y with
    | byt j => obtain ⟨t', rfl⟩ := ry; exact PySem.W.eq_bytes (fin_bl I q dec_byt)
    | _ => exact absurd (show false = true from hs) Bool.false_ne_true
  | _ => cases y <;> exact absurd (show false = true from hs) Bool.false_ne_true
theorem op_ne : OpR X (compareOp .NotEq) rNe := by
  intro pins s σ H x y v u Q I rx ry h
  obtain ⟨hs, q⟩ := h
  cases x with
  | non =>
    cases rx
    cases y with
    | non => cases ry; exact PySem.EqNone.ne_none_none (fin_bl I q (by simp))
    | bl j => cases ry; exact PySem.EqNone.ne_none_bool (fin_bl I q (by simp))
    | int j => obtain ⟨t', rfl⟩ := ry; exact PySem.EqNone.ne_none_int (fin_bl I q (by simp))
    | str j => obtain ⟨t', rfl⟩ := ry; exact PySem.EqNone.ne_none_str (fin_bl I q (by simp))
    | _ => exact absurd (show false = true from hs) Bool.false_ne_true
  | bl i =>
    cases rx
    cases y with
    | non => cases ry; exact PySem.EqNone.ne_bool_none (fin_bl I q (by simp))
    | bl j => cases ry; exact ne_bool (fin_bl I q (congrArg not dec_bl))
    | str j => obtain ⟨t', rfl⟩ := ry; exact PySem.EqMixed.ne_bool_str (fin_bl I q (by simp))
    | _ => exact absurd (show false = true from hs) Bool.false_ne_true
  | int i =>
    obtain ⟨t, rfl⟩ := rx
    cases y with
    | non => cases ry; exact PySem.EqNone.ne_int_none (fin_bl I q (by simp))
    | int j => obtain ⟨t', rfl⟩ := ry; exact ne_int (fin_bl I q (congrArg not dec_int))
    | str j => obtain ⟨t', rfl⟩ := ry; exact PySem.EqMixed.ne_int_str (fin_bl I q (by simp))
    | _ => exact absurd (show false = true from hs) Bool.false_ne_true
  | str i =>
    obtain ⟨t, rfl⟩ := rx
    cases y with
    | non => cases ry; exact PySem.EqNone.ne_str_none (fin_bl I q (by simp))
    | bl j => cases ry; exact PySem.EqMixed.ne_str_bool (fin_bl I q (by simp))
    | int j => obtain ⟨t', rfl⟩ := ry; exact PySem.EqMixed.ne_str_int (fin_bl I q (by simp))
    | str j => obtain ⟨t', rfl⟩ := ry; exact ne_str (fin_bl I q (congrArg not dec_str))
    | _ => exact absurd (show false = true from hs) Bool.false_ne_true
  | byt i =>
    obtain ⟨t, rfl⟩ := rx
    cases y with
    | byt j => obtain ⟨t', rfl⟩ := ry; exact PySem.W.ne_bytes (fin_bl I q (congrArg not dec_byt))
    | _ => exact absurd (show false = true from hs) Bool.false_ne_true
  | _ => cases y <;> exact absurd (show false = true from hs) Bool.false_ne_true

theorem op_lt : OpR X (compareOp .Lt) (rI0 fun i j => .bl (decide (i < j))) := opB0 fun _ _ _ _ _ _ _ q => lt_int q
theorem op_le : OpR X (compareOp .LtE) (rI0 fun i j => .bl (decide (i ≤ j))) := opB0 fun _ _ _ _ _ _ _ q => le_int q
theorem op_gt : OpR X (compareOp .Gt) (rI0 fun i j => .bl (decide (j < i))) := opB0 fun _ _ _ _ _ _ _ q => gt_int q
theorem op_isN : OpR X (compareOp .Is) (fun x y H Q => y = .non ∧ Q (.bl (decide (x = .non))) H) := by
  intro pins s σ H x y v u Q I rx ry h
  obtain ⟨rfl, q⟩ := h
  cases ry
  refine is_none_gen (fin_bl I q ?_)
  cases x <;> first
    | (cases rx; rfl)
    | (obtain ⟨t, rfl⟩ := rx; rfl)
theorem nomark (b : Expr) {op : CmpOp} (h : op ≠ .In := by decide) (h2 : op ≠ .NotIn := by decide) : behindInMarks op b = false := by
  have e1 : (op == CmpOp.In) = false := by cases op <;> first | rfl | exact absurd rfl h
  have e2 : (op == CmpOp.NotIn) = false := by cases op <;> first | rfl | exact absurd rfl h2
  cases b <;> simp [behindInMarks, e1, e2]
theorem pe_cmpR {op : CmpOp} {r : R2} (ho : OpR X (compareOp op) r) (ha : PE X a ta) (hb : PE X b tb) (hm : behindInMarks op b = false) : PE X (.Compare a [op] [b] pos) (tOp r ta tb) := by
  intro pins s σ H Q I h
  exact wpAny_Compare1 (binT ha hb I h fun v u s2 x y H2 I2 rx ry q => ho pins s2 σ H2 x y v u Q I2 rx ry q) hm
noncomputable def tTest (t : TE) : TT := fun σ H Q => t σ H fun x H' => ∃ k, x = .bl k ∧ Q k H'
theorem pt_cmpR {op : CmpOp} {r : R2} (ho : OpR X (compareOp op) r) (ha : PE X a ta) (hb : PE X b tb) (hm : behindInMarks op b = false) : PT X (.Compare a [op] [b] pos) (tTest (tOp r ta tb)) := by
  intro pins s σ H Q I h
  refine wpAny_isTrue_Compare1 (thn (ha pins s σ H _ I h) fun v s1 ⟨x, H1, I1, r1, q1⟩ => thn (hb pins s1 σ H1 _ I1 q1) fun u s2 ⟨y, H2, I2, r2, q2⟩ =>
    thn (ho pins s2 σ H2 x y v u _ I2 r1 r2 q2) fun c s3 ⟨z, H3, I3, r3, k, e, q3⟩ => ?_) hm
  subst e
  cases r3
  exact wpAny_truthy_bool ⟨H3, I3, q3⟩
noncomputable def tChain (r r' : R2) (ta tb tc : TE) : TE := fun σ H Q => ta σ H fun x H1 => tb σ H1 fun y H2 => r x y H2 fun z H3 => ∃ k, z = .bl k ∧
  (if k = true then tc σ H3 fun w' H4 => r' y w' H4 Q else Q (.bl false) H3)
theorem pt_chain {op op' : CmpOp} {r r' : R2} (ho : OpR X (compareOp op) r) (ho' : OpR X (compareOp op') r') (ha : PE X a ta) (hb : PE X b tb) (hc : PE X c tc)
    (hm : lastMarks [op, op'] [b, c] = false := by with_unfolding_all rfl) : PT X (.Compare a [op, op'] [b, c] pos) (tTest (tChain r r' ta tb tc)) := by
  intro pins s σ H Q I h
  refine isTrue_chain (thn (ha pins s σ H _ I h) fun v s1 ⟨x, H1, I1, r1, q1⟩ => test_link (thn (hb pins s1 σ H1 _ I1 q1) fun u s2 ⟨y, H2, I2, r2, q2⟩ =>
    thn (ho pins s2 σ H2 x y v u _ I2 r1 r2 q2) fun d s3 ⟨z, H3, I3, r3, k, e, q3⟩ => ?_)) hm
  subst e
  cases r3
  refine wpAny_truthy_bool ?_
  cases k with
  | false =>
    obtain ⟨k', e', q'⟩ := q3
    cases e'
    exact ite_ff ⟨H3, I3, q'⟩
  | true =>
    refine ite_tt (test_last (thn (hc pins s3 σ H3 _ I3 q3) fun w' s4 ⟨z', H4, I4, r4, q4⟩ => thn (ho' pins s4 σ H4 y z' u w' _ I4 r2 r4 q4) fun d' s5 ⟨z2, H5, I5, r5, k2, e2, q5⟩ => ?_))
    subst e2
    cases r5
    exact wpAny_truthy_bool ⟨H5, I5, q5⟩

theorem line63 : (sizeLine : Nat) < 2 ^ 63 := by rw [sizeLine_eq]; decide
theorem op_add_str : OpR X (binaryOp .Add) (fun x y H Q => ∃ i j, x = .str i ∧ y = .str j ∧ i.length + j.length ≤ sizeLine ∧ Q (.str (i ++ j)) H) := by
  intro pins s σ H x y v u Q I rx ry h
  obtain ⟨i, j, rfl, rfl, hz, q⟩ := h
  obtain ⟨t, rfl⟩ := rx
  obtain ⟨t', rfl⟩ := ry
  exact add_str (fun t' tk => ⟨.str (i ++ j), H, I.tok _, ⟨_, rfl⟩, q⟩) hz
theorem vals1 {x : V} {us : List Value} (r : Vals [x] us) : ∃ u, us = [u] ∧ RelV x u := by
  cases r with
  | cons r1 r2 => cases r2; exact ⟨_, rfl, r1⟩
theorem vals2 {x y : V} {us : List Value} (r : Vals [x, y] us) : ∃ u w', us = [u, w'] ∧ RelV x u ∧ RelV y w' := by
  cases r with
  | cons r1 r2 =>
    cases r2 with
    | cons r3 r4 => cases r4; exact ⟨_, _, rfl, r1, r3⟩
theorem call_ord : CallR X (.builtin "ord") (fun xs H Q => ∃ x, xs = [.str x] ∧ x.length = 1 ∧ Q (.int (x.cps.getD 0 0 : Nat)) H) := by
  intro pins s σ H xs us Q I r h
  obtain ⟨x, rfl, hz, q⟩ := h
  obtain ⟨u, rfl, t, rfl⟩ := vals1 r
  exact ord_of_one hz ⟨.int _, H, I.tok _, ⟨_, rfl⟩, q⟩
end
end L2

namespace L2
open PySem PySem.Spec PyProof.Rows

structure ObjM (h : Heap) (x dx C : Addr) (mA : Str → Option Value) : Prop where
  obj : h.get? x = some (PySem.W.instObj C dx)
  ns : h.Ns1 dx mA
  ne : dx ≠ x

theorem lookIn_ns {h : Heap} {dx : Addr} {mA : Str → Option Value} (n : h.Ns1 dx mA) : ∃ od, h.get? dx = some od ∧ ∀ name, PySem.W.lookIn name od = some (mA name) := by
  obtain ⟨o, es, ep, ho, hd, hk, _, hm⟩ := n
  refine ⟨o, ho, fun name => ?_⟩
  have e := hm name
  unfold nsFind findBy at e
  rw [← Array.find?_toList] at e
  unfold PySem.W.lookIn
  rw [hd]
  dsimp only
  split
  · rename_i y q
    rw [q] at e
    exact congrArg some e
  · rename_i q
    rw [q] at e
    have a : es.toList.any (·.refKey) = false := by
      rw [List.any_eq_false]
      intro y hy
      obtain ⟨z, t, hkey⟩ := hk y (Array.mem_toList_iff.mp hy)
      simp [DictEntry.refKey, hkey]
    have a' : ¬ es.toList.any (·.refKey) = true := by rw [a]; exact Bool.false_ne_true
    rw [if_neg a']
    exact congrArg some e

theorem ObjM.look {h : Heap} {x dx C : Addr} {mA : Str → Option Value} (I : ObjM h x dx C mA) : ∃ od, PySem.W.InstAt h x (PySem.W.instObj C dx) C (some od) ∧ ∀ name, PySem.W.lookIn name od = some (mA name) :=
  let ⟨od, ho, hl⟩ := lookIn_ns I.ns
  ⟨od, ⟨I.obj, rfl, rfl, ho⟩, hl⟩

section
variable {prog : Program} {w : World} {A : Around} {E : Value → Shared → Prop} {s : Shared} {K : PySem.W.Frag} {x dx C f : Addr} {mA : Str → Option Value} {name : Str} {v : Value}

theorem get_map {expr : Bool} {Q : Value → Shared → Prop} (X : K.In s.heap) (I : ObjM s.heap x dx C mA) (hg : PySem.W.plainGet K C name = true) (hh : PySem.W.hasDictIn K C = true)
    (ha : PySem.W.findIn K (.ref C) name = some none) (hv : mA name = some v) (hv' : PySem.W.handedIn v = true) (h : Q v { s with toks := s.toks + 1 }) :
    wpAny (model prog w) A (getAttr (.ref x) name expr) Q E s := by
  obtain ⟨od, J, hl⟩ := I.look
  exact PySem.W.get_value X J (PySem.W.plainGet_of hg).1 (PySem.W.findObj_own hh ha rfl (by rw [hl, hv])) hv' h

theorem get_meth {pl : Sem Bool} {Q : Value × List Value → Shared → Prop} (X : K.In s.heap) (I : ObjM s.heap x dx C mA) (hg : PySem.W.plainGet K C name = true)
    (hf : PySem.W.findIn K (.ref C) name = some (some (.ref f))) (ht : PySem.W.isFn K (.ref f) = true) (hv : mA name = none) (h : Q (.ref f, [.ref x]) s) :
    wpAny (model prog w) A (getMethod (.ref x) name pl) Q E s := by
  obtain ⟨od, J, hl⟩ := I.look
  exact PySem.W.method_fn X J (PySem.W.plainGet_of hg).1 (PySem.W.plainGet_of hg).2 hf (beq_iff_eq.mp ht) (by show (PySem.W.lookIn name od).map (·.isSome) = some false; rw [hl, hv]; rfl) h

theorem set_map {ns : List Str} {Q : Unit → Shared → Prop} (X : K.In s.heap) (I : ObjM s.heap x dx C mA)
    (hs : PySem.W.findIn K (.ref C) "__setattr__" = some (some (.builtin "object.__setattr__"))) (hp : PySem.W.plainOver K C = true) (ht : PySem.W.takerIn K C name = some none) (hh : PySem.W.hasDictIn K C = true)
    (hw : PySem.Within mA ns) (hsz : ns.length ≤ sizeLine)
    (h : ∀ h', ObjM h' x dx C (fun y => if y = name then some v else mA y) → Heap.SameBut dx s.heap h' → Q () { s with heap := h', toks := s.toks + 2 }) :
    wpAny (model prog w) A (setAttr (.ref x) name v) Q E s := by
  obtain ⟨od, J, hl⟩ := I.look
  refine PySem.W.set_plain X J hs (PySem.W.osa_open (s := { s with toks := s.toks + 1 }) (r := none) X J hp ht fun b => ?_)
  obtain ⟨cd, hc, hd'⟩ := PySem.W.any_some hh
  have hx : s.heap.get? x = some ⟨.ref C, some dx, .plain, #[]⟩ := I.obj
  refine wpAny_bind (wpAny_pure (wpAny_bind (wpAny_bind (wpAny_loadPart hx (wpAny_bind (PySem.W.Looks.here (s := { s with toks := s.toks + 1 }) (PySem.W.looks_clsIn X hc) ?_))))))
  rw [hd']
  refine wpAny_pure (a := some dx) (wpAny_bind (wpAny_pure (wpAny_bind ?_)))
  refine wpAny_nsSet1 (s := { s with toks := s.toks + 1 }) I.ns fun h' hn2 hs2 => ?_
  obtain ⟨oD, esD, epD, hoD, hdD, hcD⟩ := hn2.count (PySem.Within.cons name v hw)
  refine wpAny_bind (wpAny_lookBehind hoD (by rw [hdD]; exact pastItsLine_dict (Nat.le_trans hcD (by rw [List.length_cons]; omega))) ?_)
  exact wpAny_pure (h _ ⟨(hs2.2 _ (Ne.symm I.ne)).trans I.obj, hn2, I.ne⟩ hs2)

theorem make_map {R : Result → Shared → Prop} {vs : List Value} {kw : List (Str × Value)} (X : K.In s.heap) (hm : PySem.W.makesIn K C = true)
    (hi : PySem.W.findIn K (.ref C) "__init__" = some (some (.ref f))) (hf : PySem.W.typeIn K (.ref f) = some (.type "function"))
    (h : codeAny (model prog w) (A.under (.builtin "type.__call__" ⟨.ref C :: vs, kw⟩)) (.call (.ref f) ⟨.ref (s.heap.objs.size + 1) :: vs, kw⟩) (PySem.W.InitBack (s.heap.objs.size + 1) R)
      { s with heap := (s.heap.push PySem.W.emptyDict).push (PySem.W.instObj C s.heap.objs.size) }) :
    codeAny (model prog w) A (.call (.ref C) ⟨vs, kw⟩) R s := by
  obtain ⟨hh, g, d, t, os⟩ := s
  exact PySem.W.make_core (PySem.W.makes_of X hm) (PySem.W.looks_findIn X hi) (fun self => PySem.W.bind_fn X self hf) (.inl rfl) h
end

noncomputable def putF (f : Str) (v : V) : List (Str × V) → List (Str × V)
  | [] => [(f, v)]
  | (g, x) :: r => if g = f then (g, v) :: r else (g, x) :: putF f v r
theorem lookup_putF (f g : Str) (v : V) : ∀ fs : List (Str × V), (putF f v fs).lookup g = if g = f then some v else fs.lookup g
  | [] => by
    show List.lookup g [(f, v)] = _
    by_cases h : g = f
    · have hb : (g == f) = true := beq_iff_eq.mpr h
      simp only [List.lookup, hb, if_pos h]
    · have hb : (g == f) = false := beq_eq_false_iff_ne.mpr h
      simp only [List.lookup, hb, if_neg h]
  | (k, x) :: r => by
    have ih := lookup_putF f g v r
    rw [show putF f v ((k, x) :: r) = (if k = f then (k, v) :: r else (k, x) :: putF f v r) from rfl]
    by_cases hk : k = f
    · rw [if_pos hk]
      by_cases h : g = k
      · have hb : (g == k) = true := beq_iff_eq.mpr h
        simp only [List.lookup, hb, if_pos (h.trans hk)]
      · have hb : (g == k) = false := beq_eq_false_iff_ne.mpr h
        simp only [List.lookup, hb, if_neg (fun e : g = f => h (e.trans hk.symm))]
    · rw [if_neg hk]
      by_cases h : g = k
      · have hb : (g == k) = true := beq_iff_eq.mpr h
        simp only [List.lookup, hb, if_neg (fun e : g = f => hk (h.symm.trans e))]
      · have hb : (g == k) = false := beq_eq_false_iff_ne.mpr h
        simp only [List.lookup, hb]
        exact ih
theorem keys_putF (f : Str) (v : V) : ∀ fs : List (Str × V), f ∈ (putF f v fs).map (·.1) ∧ ∀ g, g ∈ fs.map (·.1) → g ∈ (putF f v fs).map (·.1)
  | [] => ⟨by simp [putF], fun g h => by simp at h⟩
  | (k, x) :: r => by
    obtain ⟨i1, i2⟩ := keys_putF f v r
    rw [show putF f v ((k, x) :: r) = (if k = f then (k, v) :: r else (k, x) :: putF f v r) from rfl]
    by_cases hk : k = f
    · rw [if_pos hk]
      subst hk
      exact ⟨by simp, fun g h => by simpa using h⟩
    · rw [if_neg hk]
      refine ⟨?_, fun g h => ?_⟩
      · rw [List.map_cons]
        exact List.mem_cons_of_mem _ i1
      · rw [List.map_cons] at h ⊢
        rcases List.mem_cons.mp h with e | e
        · exact List.mem_cons.mpr (.inl e)
        · exact List.mem_cons_of_mem _ (i2 g e)
theorem length_putF (f : Str) (v : V) : ∀ fs : List (Str × V), (putF f v fs).length ≤ fs.length + 1
  | [] => by simp [putF]
  | (k, x) :: r => by
    have ih := length_putF f v r
    rw [show putF f v ((k, x) :: r) = (if k = f then (k, v) :: r else (k, x) :: putF f v r) from rfl]
    by_cases hk : k = f
    · rw [if_pos hk, List.length_cons, List.length_cons]; omega
    · rw [if_neg hk, List.length_cons, List.length_cons]; omega

theorem RelO.some_of {v : V} {o : Option Value} (r : RelO (some v) o) : ∃ u, o = some u ∧ RelV v u := by
  cases o with
  | none => exact (show False from r).elim
  | some u => exact ⟨u, rfl, r⟩
theorem RelO.none_of {o : Option Value} (r : RelO none o) : o = none := by
  cases o with
  | none => rfl
  | some u => exact (show False from r).elim
theorem handed_of {v : V} {u : Value} (r : RelV v u) : PySem.W.handedIn u = true := by
  cases v with
  | non => cases (show u = Value.none from r); rfl
  | bl b => cases (show u = Value.bool b from r); rfl
  | int i => obtain ⟨t, e⟩ := (show ∃ t, u = Value.int i t from r); cases e; rfl
  | str x => obtain ⟨t, e⟩ := (show ∃ t, u = Value.str x t from r); cases e; rfl
  | byt b => obtain ⟨t, e⟩ := (show ∃ t, u = Value.bytes b t from r); cases e; rfl
  | flt b => obtain ⟨t, e⟩ := (show ∃ t, u = Value.float b t from r); cases e; rfl
  | ref a => cases (show u = Value.ref a from r); rfl
  | ty n => cases (show u = Value.type n from r); rfl

section
variable {P : Program} {w : World} {H H' : Hp} {h h' : Heap} {a C dx : Addr} {fs fs' : List (Str × V)}
theorem ins_get (hok : HOk P w H h) (e : H a = some (.ins C dx fs)) : ∃ mA, ObjM h a dx C mA ∧ (∀ f, RelO (fs.lookup f) (mA f)) ∧ PySem.Within mA (fs.map (·.1)) ∧ fs.length ≤ 1000 ∧ H dx = some (.own a) := by
  obtain ⟨d, z, ne, ob, mA, n, r, q⟩ := (show ObjOk P w H h a (.ins C dx fs) from hok a _ e)
  exact ⟨mA, ⟨ob, n, ne⟩, r, q, z, d⟩
end

structure Cls (K : PySem.W.Frag) (C : Addr) : Prop where
  pg : PySem.W.plainGet K C Str.empty = true
  hd : PySem.W.hasDictIn K C = true
  po : PySem.W.plainOver K C = true
  sa : PySem.W.findIn K (.ref C) "__setattr__" = some (some (.builtin "object.__setattr__"))
theorem Cls.get {K : PySem.W.Frag} {C : Addr} (c : Cls K C) (f : Str) : PySem.W.plainGet K C f = true := c.pg
noncomputable def NoAttr (K : PySem.W.Frag) (C : Addr) (f : Str) : Prop := PySem.W.findIn K (.ref C) f = some none
theorem NoAttr.taker {K : PySem.W.Frag} {C : Addr} {f : Str} (n : NoAttr K C f) : PySem.W.takerIn K C f = some none := by
  unfold PySem.W.takerIn
  rw [show PySem.W.findIn K (.ref C) f = some none from n]
  rfl
structure Con (K : PySem.W.Frag) (C : Addr) (f : Str) (v : V) (u : Value) : Prop where
  at_ : PySem.W.findIn K (.ref C) f = some (some u)
  rel : RelV v u
  get : PySem.W.specialIn K u "__get__" = some none
  cp : PySem.W.copiedNames.contains f = false
structure Meth (K : PySem.W.Frag) (C : Addr) (m : Str) (f : Addr) : Prop where
  at_ : PySem.W.findIn K (.ref C) m = some (some (.ref f))
  fn : PySem.W.isFn K (.ref f) = true
  kp : PySem.W.keepIn K (.ref f) = true

section
variable {X : Cx} {pins : List (Addr × Obj)} {σ : St} {H : Hp} {s : Shared} {a C dx : Addr} {fs : List (Str × V)} {f : Str} {v : V} {A : Around} {E : Value → Shared → Prop}

theorem getattr_ok {b : Bool} {Q : Value → Shared → Prop} (I : Inv X pins σ H s) (e : H a = some (.ins C dx fs)) (c : Cls X.K C) (n : NoAttr X.K C f) (l : fs.lookup f = some v)
    (h : ∀ u s', Inv X pins σ H s' → RelV v u → Q u s') : wpAny (model X.prog X.w) A (getAttr (.ref a) f b) Q E s := by
  obtain ⟨mA, O, r, _, _, _⟩ := ins_get I.hok e
  obtain ⟨u, hu, ru⟩ := RelO.some_of (v := v) (o := mA f) (by rw [← l]; exact r f)
  exact get_map I.kIn O (c.get f) c.hd n hu (handed_of ru) (h u _ (I.tok _) ru)

theorem getmeth_ok {m : Str} {g : Addr} {pl : Sem Bool} {Q : Value × List Value → Shared → Prop} (I : Inv X pins σ H s) (e : H a = some (.ins C dx fs)) (c : Cls X.K C) (k : Meth X.K C m g) (l : fs.lookup m = none)
    (h : Q (.ref g, [.ref a]) s) : wpAny (model X.prog X.w) A (getMethod (.ref a) m pl) Q E s := by
  obtain ⟨mA, O, r, _, _, _⟩ := ins_get I.hok e
  have hn : mA m = none := RelO.none_of (by rw [← l]; exact r m)
  exact get_meth I.kIn O (c.get m) k.at_ k.fn hn h

theorem setattr_ok {y : V} {u : Value} {Q : Unit → Shared → Prop} (I : Inv X pins σ H s) (e : H a = some (.ins C dx fs)) (c : Cls X.K C) (n : NoAttr X.K C f) (hl : fs.length < 1000) (ry : RelV y u)
    (h : ∀ s', Inv X pins σ (upd H a (.ins C dx (putF f y fs))) s' → Q () s') : wpAny (model X.prog X.w) A (setAttr (.ref a) f u) Q E s := by
  obtain ⟨mA, O, r, wi, _, ho⟩ := ins_get I.hok e
  have hz : (fs.map (·.1)).length ≤ sizeLine := by rw [List.length_map, sizeLine_eq]; omega
  refine set_map I.kIn O c.sa c.po n.taker c.hd wi hz fun h' O' sb => h _ ?_
  have hd : ∃ o, h'.get? dx = some o := let ⟨o, _, _, e', _⟩ := O'.ns; ⟨o, e'⟩
  refine I.write (x := a) (e := dx) (by rw [e]; exact True.intro) (.inr ho) (fun b q hb z => (sb.2 b hb).trans z) hd ?_
  refine ⟨by rw [upd_ne O.ne]; exact ho, ?_, O.ne, O'.obj, _, O'.ns, fun g => ?_, fun g hg => ?_⟩
  · have := length_putF f y fs; omega
  · show RelO ((putF f y fs).lookup g) (if g = f then some u else mA g)
    rw [lookup_putF]
    by_cases q : g = f
    · rw [if_pos q, if_pos q]; exact ry
    · rw [if_neg q, if_neg q]; exact r g
  · by_cases q : g = f
    · rw [q]; exact (keys_putF f y fs).1
    · refine (keys_putF f y fs).2 g (wi g fun z => hg ?_)
      show (if g = f then some u else mA g) = none
      rw [if_neg q]; exact z

theorem Inv.made (I : Inv X pins σ H s) : Inv X pins σ (upd (upd H s.heap.objs.size (.own (s.heap.objs.size + 1))) (s.heap.objs.size + 1) (.ins C s.heap.objs.size []))
    { s with heap := (s.heap.push PySem.W.emptyDict).push (PySem.W.instObj C s.heap.objs.size) } := by
  have e1 : (s.heap.push PySem.W.emptyDict).get? s.heap.objs.size = some PySem.W.emptyDict := Heap.get?_push_size s.heap rfl
  have e2 : ((s.heap.push PySem.W.emptyDict).push (PySem.W.instObj C s.heap.objs.size)).get? (s.heap.objs.size + 1) = some (PySem.W.instObj C s.heap.objs.size) := by
    have := Heap.get?_push_size (s.heap.push PySem.W.emptyDict) (o := PySem.W.instObj C s.heap.objs.size) rfl
    rwa [Heap.size_push] at this
  have e3 : (s.heap.push PySem.W.emptyDict).Ns s.heap.objs.size (fun _ => none) := ⟨PySem.W.emptyDict, #[], _, e1, rfl, (fun e he => absurd he (by simp)), fun _ => rfl⟩
  have I1 := I.laid (a := s.heap.objs.size) (o := .own (s.heap.objs.size + 1)) (h' := s.heap.push PySem.W.emptyDict) (t' := s.toks) (fun b u q => Heap.get?_push_of_some _ q) (Nat.le_refl _) ⟨_, e1⟩
  refine I1.laid (a := s.heap.objs.size + 1) (o := .ins C s.heap.objs.size []) (t' := s.toks) (fun b u q => Heap.get?_push_of_some _ q) (Nat.le_of_eq (Heap.size_push _ _)) ?_
  have ne : s.heap.objs.size ≠ s.heap.objs.size + 1 := Nat.ne_of_lt (Nat.lt_succ_self _)
  refine ⟨by rw [upd_ne ne, upd_same], Nat.zero_le _, ne, e2, fun _ => none, (Heap.Ns1.of_empty e3).at fun o q => Heap.get?_push_of_some _ q, fun _ => True.intro, fun y hy => absurd rfl hy⟩

theorem attr_of {prog : Program} {w : World} {env : Env} {e : Expr} {f : Str} {pos : Pos} {s : Shared} {Q : Value → Shared → Prop} (hb : attributeBase e f env (eval e env) = eval e env)
    (h : wpAny (model prog w) A (eval e env) (fun o s₁ => wpAny (model prog w) A (getAttr o f true) Q E s₁) E s) : wpAny (model prog w) A (eval (.Attribute e f pos) env) Q E s :=
  Attribute_any_ h (by rw [arm_eval_Attribute, hb])
end

noncomputable def tFld (K : PySem.W.Frag) (ta : TE) (f : Str) : TE := fun σ H Q => ta σ H fun x H1 => ∃ a C dx fs v, x = .ref a ∧ H1 a = some (.ins C dx fs) ∧ Cls K C ∧ NoAttr K C f ∧ fs.lookup f = some v ∧ Q v H1
noncomputable def sFld (K : PySem.W.Frag) (ta tv : TE) (f : Str) : TS := fun D σ H => tv σ H fun y H1 => ta σ H1 fun x H2 => ∃ a C dx fs, x = .ref a ∧ H2 a = some (.ins C dx fs) ∧ Cls K C ∧ NoAttr K C f ∧ fs.length < 1000 ∧
  D.nx σ (upd H2 a (.ins C dx (putF f y fs)))
section
variable {X : Cx} {o e value : Expr} {f : Str} {pos pos' tpos : Pos} {ta tv : TE}
theorem pe_fld (he : PE X e ta) (hb : attributeBase e f X.env (eval e X.env) = eval e X.env) : PE X (.Attribute e f pos) (tFld X.K ta f) := by
  intro pins s σ H Q I h
  refine attr_of hb (thn (he pins s σ H _ I h) fun u s1 ⟨x, H1, I1, rx, a, C, dx, fs, v, ex, ea, c, n, l, q⟩ => ?_)
  subst ex
  obtain rfl : u = Value.ref a := rx
  exact getattr_ok I1 ea c n l fun u' s2 I2 ru => ⟨v, H1, I2, ru, q⟩
theorem ps_fld (ha : PE X o ta) (hv : PE X value tv) (hs : swapsWith value (some (.Attribute o f pos')) pos.line X.env = pure false) : PS X (.Assign [.Attribute o f pos'] value pos) (sFld X.K ta tv f) := by
  intro pins s σ H D I h
  refine plainObj_wpAny_Assign_Attribute (thn (hv pins s σ H _ I h) fun u s1 ⟨y, H1, I1, ry, q⟩ => thn (ha pins s1 σ H1 _ I1 q) fun ov s2 ⟨x, H2, I2, rx, a, C, dx, fs, ex, ea, c, n, l, q2⟩ => ?_) hs
  subst ex
  obtain rfl : ov = Value.ref a := rx
  exact setattr_ok I2 ea c n l ry fun s3 I3 => ⟨σ, _, I3, q2⟩
end

section
variable {X : Cx} {pins : List (Addr × Obj)} {σ : St} {H : Hp} {s : Shared} {A : Around} {E : Value → Shared → Prop} {Q : Value → Shared → Prop} {c : Value} {b : Bool}
inductive TyOf (K : PySem.W.Frag) (H : Hp) : V → Value → Prop where
  | non : TyOf K H .non (.type "NoneType")
  | bl (x : Bool) : TyOf K H (.bl x) (.type "bool")
  | int (i : Int) : TyOf K H (.int i) (.type "int")
  | str (x : Str) : TyOf K H (.str x) (.type "str")
  | flt (x : UInt64) : TyOf K H (.flt x) (.type "float")
  | lst {a : Addr} {xs : List V} (e : H a = some (.lst xs)) : TyOf K H (.ref a) (.type "list")
  | frz {a : Addr} {o : Obj} {xs : List V} (e : H a = some (.frz o (.lst xs))) : TyOf K H (.ref a) (.type "list")
  | tup {a : Addr} {xs : List V} (e : H a = some (.tup xs)) : TyOf K H (.ref a) (.type "tuple")
  | dK {a : Addr} {kvs : List (Key × V)} (e : H a = some (.dK kvs)) : TyOf K H (.ref a) (.type "dict")
  | dT {a : Addr} {kvs : List (List Key × V)} (e : H a = some (.dT kvs)) : TyOf K H (.ref a) (.type "dict")
  | ins {a C dx : Addr} {fs : List (Str × V)} (e : H a = some (.ins C dx fs)) (cl : Cls K C) (ha : PySem.W.findIn K (.ref C) "__class__" = some (some (.builtin "object.__class__")))
      (hn : PySem.W.specialIn K (.builtin "object.__class__") "__get__" = some (some (.builtin "getset_descriptor.__get__"))) (htk : PySem.W.takesIn K (.builtin "object.__class__") = some true)
      (hm : PySem.W.mroIn K C (.type "object") = some true) : TyOf K H (.ref a) (.ref C)
theorem isinst_ok {x : V} {u t : Value} (I : Inv X pins σ H s) (rx : RelV x u) (ty : TyOf X.K H x t) (e : PySem.W.kitOne X.K t c = some b) (h : ∀ tk, Q (.bool b) { s with toks := tk }) :
    wpAny (model X.prog X.w) A (call (.builtin "isinstance") [u, c]) Q E s := by
  cases ty with
  | non => cases (show u = Value.none from rx); exact PySem.W.kia_one PySem.W.kitx_none I.kIn True.intro e (fun z => nomatch z) h
  | bl y => cases (show u = Value.bool y from rx); exact PySem.W.kia_one PySem.W.kitx_bool I.kIn True.intro e (fun z => nomatch z) h
  | int i => obtain ⟨t, q⟩ := (show ∃ t, u = Value.int i t from rx); cases q; exact PySem.W.kia_one PySem.W.kitx_int I.kIn True.intro e (fun z => nomatch z) h
  | str y => obtain ⟨t, q⟩ := (show ∃ t, u = Value.str y t from rx); cases q; exact PySem.W.kia_one PySem.W.kitx_str I.kIn True.intro e (fun z => nomatch z) h
  | flt y => obtain ⟨t, q⟩ := (show ∃ t, u = Value.float y t from rx); cases q; exact PySem.W.kia_one PySem.W.kitx_float I.kIn True.intro e (fun z => nomatch z) h
  | @lst a xs ea =>
    cases (show u = Value.ref a from rx)
    obtain ⟨_, _, n, _, h1⟩ := (show ObjOk X.prog X.w H s.heap a (.lst xs) from I.hok a _ ea)
    exact PySem.W.kia_one PySem.W.kitx_list I.kIn ⟨_, h1, rfl⟩ e (fun z => nomatch z) h
  | @frz a ob xs ea =>
    cases (show u = Value.ref a from rx)
    obtain ⟨_, _, _, n, _, h1⟩ := (show ObjOk X.prog X.w H s.heap a (.frz ob (.lst xs)) from I.hok a _ ea)
    exact PySem.W.kia_one PySem.W.kitx_list I.kIn ⟨_, h1, rfl⟩ e (fun z => nomatch z) h
  | @tup a xs ea =>
    cases (show u = Value.ref a from rx)
    obtain ⟨_, _, _, p⟩ := (show ObjOk X.prog X.w H s.heap a (.tup xs) from I.hok a _ ea)
    obtain ⟨o, h1, h2, _⟩ := p
    exact PySem.W.kia_one PySem.W.kitx_tuple I.kIn ⟨o, h1, h2⟩ e (fun z => nomatch z) h
  | @dK a kvs ea =>
    cases (show u = Value.ref a from rx)
    obtain ⟨_, _, vs, _, p⟩ := (show ObjOk X.prog X.w H s.heap a (.dK kvs) from I.hok a _ ea)
    obtain ⟨o, es, ep, h1, h2, _⟩ := p
    exact PySem.W.kia_one PySem.W.kitx_dict I.kIn ⟨o, h1, h2.1⟩ e (fun z => nomatch z) h
  | @dT a kvs ea =>
    cases (show u = Value.ref a from rx)
    obtain ⟨_, _, xs, _, o, es, ep, h1, h2, _⟩ := (show ObjOk X.prog X.w H s.heap a (.dT kvs) from I.hok a _ ea)
    exact PySem.W.kia_one PySem.W.kitx_dict I.kIn ⟨o, h1, h2.1⟩ e (fun z => nomatch z) h
  | @ins a C dx fs ea cl ha hn htk hm =>
    cases (show u = Value.ref a from rx)
    obtain ⟨mA, O, _⟩ := ins_get I.hok ea
    obtain ⟨od, J, _⟩ := O.look
    exact PySem.W.kia_one (PySem.W.kitx_own (cl.get _) cl.hd ha hn htk hm) I.kIn J e (fun z => nomatch z) h
end
end L2

namespace L2
open PySem PySem.Spec PyProof.Rows

structure Room (k : Nat) (A : Around) : Prop where
  hd : A.handled = none
  dp : A.depth + 3 * k + 5 < recursionLimit
  un : A.units + 16 * k + 200 < cLine
theorem Room.mono {j k : Nat} {A : Around} (r : Room k A) (h : j ≤ k) : Room j A := ⟨r.hd, by have := r.dp; omega, by have := r.un; omega⟩
theorem Room.deeper {k : Nat} {A : Around} (r : Room (k + 1) A) (env : Env) : Room k (A.deeper env) :=
  ⟨r.hd, by have := r.dp; show A.depth + 1 + 3 * k + 5 < _; omega, by have := r.un; show A.units + 3 + 16 * k + 200 < _; omega⟩
theorem make_depth {A : Around} {C : Addr} {us : List Value} {kw : List (Str × Value)} : (A.under (.builtin "type.__call__" ⟨.ref C :: us, kw⟩)).depth = A.depth + 1 := by
  first | rfl | simp [Around.under, Code.weight, Code.isCreation, Code.isGuard, Code.isCaller, Code.frames, Code.isFrame, guardIds]
theorem make_units {A : Around} {C : Addr} {us : List Value} {kw : List (Str × Value)} : (A.under (.builtin "type.__call__" ⟨.ref C :: us, kw⟩)).units = A.units + 1 := by
  first | rfl | simp [Around.under, Code.cUnits, Code.frames, Code.isFrame]
theorem Room.make {k : Nat} {A : Around} (r : Room (k + 1) A) (C : Addr) (us : List Value) (kw : List (Str × Value)) : Room k (A.under (.builtin "type.__call__" ⟨.ref C :: us, kw⟩)) :=
  ⟨r.hd, by have := r.dp; rw [make_depth]; omega, by have := r.un; rw [make_units]; omega⟩
theorem Room.depth {k : Nat} {A : Around} (r : Room k A) : A.depth < recursionLimit := by have := r.dp; omega
noncomputable def tNil : TA := fun _ H Q => Q [] H
noncomputable def tCons (ta : TE) (tr : TA) : TA := fun σ H Q => ta σ H fun x H1 => tr σ H1 fun xs H2 => Q (x :: xs) H2
section
variable {X : Cx} {e : Expr} {es : List Expr} {te : TE} {t : TA} {pos : Pos}
theorem pa_nil : PA X [] tNil := fun _ _ _ _ H Q I h => Calls.spliced_nil ⟨[], H, I, .nil, h⟩
theorem pa_cons (ha : PE X e te) (hr : PA X es t) (hs : starEach (e :: es) X.env = (false, eval e X.env) :: starEach es X.env := by rfl) : PA X (e :: es) (tCons te t) := by
  intro pos pins s σ H Q I h
  rw [hs]
  show wpAny _ _ (spliced ((false, eval e X.env) :: backTo pos (starEach es X.env))) _ _ s
  refine Calls.spliced_cons (thn (ha pins s σ H _ I h) fun u s1 ⟨x, H1, I1, r1, q1⟩ => ?_)
  exact thn (hr pos pins s1 σ H1 _ I1 q1) fun us s2 ⟨xs, H2, I2, r2, q2⟩ => ⟨x :: xs, H2, I2, .cons r1 r2, q2⟩

noncomputable def tTup (t : TA) : TE := fun σ H Q => t σ H fun xs H1 => xs.length ≤ sizeLine ∧ ∀ p, H1 p = none → Q (.ref p) (upd H1 p (.tup xs))
noncomputable def tLst (t : TA) : TE := fun σ H Q => t σ H fun xs H1 => xs.length ≤ sizeLine ∧ ∀ p, H1 p = none → Q (.ref p) (upd H1 p (.lst xs))
theorem pe_tup {x1} (h : PA X es t) : PE X (.Tuple es x1 pos) (tTup t) := by
  intro pins s σ H Q I hq
  refine wpAny_Tuple_spliced (thn (h pos pins s σ H _ I hq) fun us s1 ⟨xs, H1, I1, r, z, q⟩ => ⟨by rw [← r.length]; exact z, ?_⟩)
  have hf : H1 s1.heap.objs.size = none := I1.hok.fresh (Nat.le_refl _)
  refine ⟨.ref s1.heap.objs.size, upd H1 s1.heap.objs.size (.tup xs), I1.laid (t' := s1.toks) (fun b u e => Heap.get?_push_of_some _ e) (Nat.le_refl _) ?_, rfl, q _ hf⟩
  exact ⟨z, us, r, ⟨_, Heap.get?_push_size _ rfl, rfl, _, rfl⟩⟩
theorem pe_lst (h : PA X es t) : PE X (.List es pos) (tLst t) := by
  intro pins s σ H Q I hq
  refine wpAny_List_spliced (thn (h pos pins s σ H _ I hq) fun us s1 ⟨xs, H1, I1, r, z, q⟩ => ⟨by rw [← r.length]; exact z, ?_⟩)
  have hf : H1 s1.heap.objs.size = none := I1.hok.fresh (Nat.le_refl _)
  refine ⟨.ref s1.heap.objs.size, upd H1 s1.heap.objs.size (.lst xs), I1.laid (t' := s1.toks) (fun b u e => Heap.get?_push_of_some _ e) (Nat.le_refl _) ?_, rfl, q _ hf⟩
  exact ⟨z, us, 0, r, Heap.get?_push_size _ rfl⟩
end

noncomputable abbrev Sp := List V → Hp → VK → XK → Prop
noncomputable abbrev CXT := List Env → Hp → Shared → XK → Value → Shared → Prop

structure Env0 (P : Program) (w : World) (K : PySem.W.Frag) (mg : Str → Option Value) (base : Heap) (A : Around) (outer : List Env) (s : Shared) (H : Hp) : Prop where
  frames : A.frames = some outer
  mod : Mod K mg base
  bs : ∀ b o, base.get? b = some o → s.heap.get? b = some o ∧ H b = none
  bsz : base.objs.size ≤ s.heap.objs.size
  funs : s.heap.FunFrames base outer
  frf : ∀ b ∈ frs outer, H b = none
  hok : HOk P w H s.heap
  bare : AllBare s.gens
noncomputable def CE (outer : List Env) (P : Program) (w : World) (H : Hp) (s : Shared) (Q : VK) (u : Value) (s' : Shared) : Prop :=
  ∃ v H', s'.os = s.os ∧ AllBare s'.gens ∧ Un (frs outer) [] H H' s.heap s'.heap ∧ HOk P w H' s'.heap ∧ RelV v u ∧ Q v H'
noncomputable def CR (CX : CXT) (outer : List Env) (P : Program) (w : World) (H : Hp) (s : Shared) (Q : VK) (E : XK) (r : Result) (s' : Shared) : Prop :=
  match r with
  | .ok (.ret u) => CE outer P w H s Q u s'
  | .ok _ => False
  | .error e => CX outer H s E e s'
structure FnOk (P : Program) (w : World) (K : PySem.W.Frag) (mg : Str → Option Value) (base : Heap) (CX : CXT) (k : Nat) (f : Addr) (fd : FuncData) (ps : List Str) (sp : Sp) : Prop where
  len : ∀ vs H Q E, sp vs H Q E → vs.length = ps.length
  run : ∀ (A : Around) (outer : List Env) (s : Shared) (H : Hp) (args : Args) (us : List Value) (vs : List V) (Q : VK) (E : XK), Room k A → Env0 P w K mg base A outer s H → BindsTo s fd args (ps.zip us) → Vals vs us → sp vs H Q E →
    codeAny (model P w) A (.call (.ref f) args) (CR CX outer P w H s Q E) s
theorem Env0.make {P : Program} {w : World} {K : PySem.W.Frag} {mg : Str → Option Value} {base : Heap} {A : Around} {outer : List Env} {s : Shared} {H : Hp} (e : Env0 P w K mg base A outer s H) (C : Addr) (us : List Value) (kw : List (Str × Value)) :
    Env0 P w K mg base (A.under (.builtin "type.__call__" ⟨.ref C :: us, kw⟩)) outer s H := ⟨by first | exact e.frames | (simpa [Around.under, Code.envs, Code.isFrame, pushEnvs] using e.frames), e.mod, e.bs, e.bsz, e.funs, e.frf, e.hok, e.bare⟩
section
variable {X : Cx} {pins : List (Addr × Obj)} {σ : St} {H : Hp} {s s' : Shared}
theorem Inv.env0 (I : Inv X pins σ H s) : Env0 X.prog X.w X.K X.mg X.base X.A X.stack s H :=
  ⟨I.ok.frames, I.ok.mod, I.bs, Nat.le_trans I.ok.bsz I.sz, I.stack, I.stkFree, I.hok, I.bare⟩
theorem Inv.after {Q : VK} {u : Value} (I : Inv X pins σ H s) (h : CE X.stack X.prog X.w H s Q u s') : EP X pins σ Q u s' := by
  obtain ⟨v, H', os, bare, un, hok, r, q⟩ := h
  obtain ⟨hh, g, d, t, os'⟩ := s'
  obtain rfl : os' = s.os := os
  exact ⟨v, H', I.call (h' := hh) (g' := g) (d' := d) (t' := t) (ch := []) un hok bare (fun b z => absurd z (by simp)), r, q⟩
end

noncomputable def tCall (sp : Sp) (dvs : List V) (E : XK) (t : TA) : TE := fun σ H Q => t σ H fun vs H1 => sp (vs ++ dvs) H1 Q E
noncomputable def tMeth (C : Addr) (m : Str) (sp : Sp) (dvs : List V) (E : XK) (ta : TE) (t : TA) : TE := fun σ H Q => ta σ H fun x H1 => ∃ a dx fs, x = .ref a ∧ H1 a = some (.ins C dx fs) ∧ fs.lookup m = none ∧
  t σ H1 fun vs H2 => sp (x :: (vs ++ dvs)) H2 Q E
noncomputable def tMake (C : Addr) (sp : Sp) (dvs : List V) (E : XK) (t : TA) : TE := fun σ H Q => t σ H fun vs H1 => ∀ x dx, H1 x = none → H1 dx = none → dx ≠ x →
  sp (.ref x :: (vs ++ dvs)) (upd (upd H1 dx (.own x)) x (.ins C dx [])) (fun v H2 => v = .non ∧ Q (.ref x) H2) E

noncomputable def Binds (K : PySem.W.Frag) (fd : FuncData) (ps : List Str) (ds : List Value) : Prop :=
  ∀ (s : Shared) (us : List Value), K.In s.heap → (us ++ ds).length = ps.length → BindsTo s fd ⟨us, []⟩ (ps.zip (us ++ ds))
theorem Binds.all {K : PySem.W.Frag} {fd : FuncData} {ps : List Str} (h : ∀ us : List Value, us.length = ps.length → bindArgs fd ⟨us, []⟩ = pure (ps.zip us)) : Binds K fd ps [] := fun s us _ hl => by
  rw [List.append_nil] at hl ⊢
  exact .of_eq (h us hl)

noncomputable def Passes (CX : CXT) (X : Cx) (E : XK) : Prop := ∀ (pins : List (Addr × Obj)) (σ : St) (H : Hp) (s : Shared) (e : Value) (s' : Shared), Inv X pins σ H s → CX X.stack H s E e s' → X.xe e s'

section
variable {X : Cx} {CX : CXT} {k : Nat} {f C : Addr} {fd : FuncData} {ps : List Str} {sp : Sp} {dvs : List V} {ds : List Value} {E : XK} {x m : Str} {p pos apos : Pos} {e o : Expr} {es : List Expr} {ta : TE} {t : TA}

theorem run_fn {pins : List (Addr × Obj)} {σ : St} {H : Hp} {s : Shared} {Q : VK} {us : List Value} {vs : List V} (F : FnOk X.prog X.w X.K X.mg X.base CX k f fd ps sp) (hr : Room k X.A) (hb : Binds X.K fd ps ds) (hd : Vals dvs ds) (hx : Passes CX X E)
    (I : Inv X pins σ H s) (r : Vals vs us) (h : sp (vs ++ dvs) H Q E) : wpAny (model X.prog X.w) X.A (call (.ref f) us) (EP X pins σ Q) X.xe s := by
  have r2 : Vals (vs ++ dvs) (us ++ ds) := r.append hd
  have hl : (us ++ ds).length = ps.length := by rw [← r2.length]; exact F.len _ _ _ _ h
  refine wpAny_call (codeAny_mono (F.run X.A X.stack s H ⟨us, []⟩ (us ++ ds) (vs ++ dvs) Q E hr I.env0 (hb s us I.kIn hl) r2 h) fun r s' hq => ?_)
  cases r with
  | error e => exact hx pins σ H s e s' I hq
  | ok fl =>
    cases fl with
    | ret u => exact I.after hq
    | next => exact False.elim hq
    | brk => exact False.elim hq
    | cont => exact False.elim hq

theorem pe_call (F : FnOk X.prog X.w X.K X.mg X.base CX k f fd ps sp) (hr : Room k X.A) (hg : Gl X x) (hm : X.mg x = some (.ref f)) (hk : PySem.W.keepIn X.K (.ref f) = true) (hb : Binds X.K fd ps ds) (hd : Vals dvs ds) (hx : Passes CX X E)
    (ha : PA X (e :: es) t) (hdb : (x == ("__debug__" : Str)) = false := by decide) (he : starEach (e :: es) X.env = (false, eval e X.env) :: starEach es X.env := by rfl) (hpl : (backTo pos (starEach es X.env)).any (·.1) = false := by rfl) :
    PE X (.Call (.Name x p) (e :: es) [] pos) (tCall sp dvs E t) := by
  intro pins s σ H Q I h
  refine wpAny_Call_Name_kw (ld_glob I hg hm ?_ hdb)
  refine PySem.W.callWith_K (h₀ := X.base) I.ok.mod.kin hk (thn (ha pos pins s σ H _ I h) fun us s1 ⟨vs, H1, I1, r, q⟩ => ⟨I1.kIn, ?_⟩) he hpl
  exact run_fn F hr hb hd hx I1 r q
theorem pe_meth {pl : Sem Bool} (he : PE X o ta) (c : Cls X.K C) (hm : Meth X.K C m f) (F : FnOk X.prog X.w X.K X.mg X.base CX k f fd ps sp) (hr : Room k X.A) (hb : Binds X.K fd ps ds) (hd : Vals dvs ds) (hx : Passes CX X E) (ha : PA X (e :: es) t)
    (hst : starEach (e :: es) X.env = (false, eval e X.env) :: starEach es X.env := by rfl) (hpl : (backTo pos (starEach es X.env)).any (·.1) = false := by rfl)
    (ht : eval (.Call (.Attribute o m apos) (e :: es) [] pos) X.env = (do
      let ov ← eval o X.env
      standAt apos.atName
      let (f, first) ← holding [ov] (getMethod ov m pl)
      callWith pos f first (backTo pos (starEach (e :: es) X.env)) (backToKw pos (keywordEach [] X.env))) := by rfl) :
    PE X (.Call (.Attribute o m apos) (e :: es) [] pos) (tMeth C m sp dvs E ta t) := by
  intro pins s σ H Q I h
  refine PySem.W.methodCall_KW (pl := pl) (thn (he pins s σ H _ I h) fun u s1 ⟨x, H1, I1, rx, a, dx, fs, ex, ea, l, q⟩ => ?_) ht
  subst ex
  obtain rfl : u = Value.ref a := rx
  refine getmeth_ok I1 ea c hm l ?_
  refine PySem.W.callWith_K (first := [.ref a]) (h₀ := X.base) I.ok.mod.kin hm.kp (thn (ha pos pins s1 σ H1 _ I1 q) fun us s2 ⟨vs, H2, I2, r, q2⟩ => ⟨I2.kIn, ?_⟩) hst hpl
  exact run_fn (us := .ref a :: us) (vs := .ref a :: vs) F hr hb hd hx I2 (.cons rfl r) q2
theorem pe_meth0 {pl : Sem Bool} (he : PE X o ta) (c : Cls X.K C) (hm : Meth X.K C m f) (F : FnOk X.prog X.w X.K X.mg X.base CX k f fd ps sp) (hr : Room k X.A) (hb : Binds X.K fd ps ds) (hd : Vals dvs ds) (hx : Passes CX X E)
    (ht : eval (.Call (.Attribute o m apos) [] [] pos) X.env = (do
      let ov ← eval o X.env
      standAt apos.atName
      let (f, first) ← holding [ov] (getMethod ov m pl)
      callWith pos f first (backTo pos (starEach [] X.env)) (backToKw pos (keywordEach [] X.env))) := by rfl) :
    PE X (.Call (.Attribute o m apos) [] [] pos) (tMeth C m sp dvs E ta tNil) := by
  intro pins s σ H Q I h
  refine PySem.W.methodCall_KW (pl := pl) (thn (he pins s σ H _ I h) fun u s1 ⟨x, H1, I1, rx, a, dx, fs, ex, ea, l, q⟩ => ?_) ht
  subst ex
  obtain rfl : u = Value.ref a := rx
  refine getmeth_ok I1 ea c hm l ?_
  exact PySem.W.callWith_K0 (first := [.ref a]) I1.kIn hm.kp (run_fn (us := [.ref a]) (vs := [.ref a]) F hr hb hd hx I1 (.cons rfl .nil) q)

structure Mk (K : PySem.W.Frag) (C f : Addr) : Prop where
  makes : PySem.W.makesIn K C = true
  init : PySem.W.findIn K (.ref C) "__init__" = some (some (.ref f))
  fn : PySem.W.isFn K (.ref f) = true
  kp : PySem.W.keepIn K (.ref C) = true

theorem run_make {pins : List (Addr × Obj)} {σ : St} {H : Hp} {s : Shared} {Q : VK} {us : List Value} {vs : List V} (M : Mk X.K C f) (F : FnOk X.prog X.w X.K X.mg X.base CX k f fd ps sp) (hr : Room (k + 1) X.A) (hb : Binds X.K fd ps ds) (hd : Vals dvs ds)
    (hx : Passes CX X E) (I : Inv X pins σ H s) (r : Vals vs us)
    (h : ∀ x dx, H x = none → H dx = none → dx ≠ x → sp (.ref x :: (vs ++ dvs)) (upd (upd H dx (.own x)) x (.ins C dx [])) (fun v H2 => v = .non ∧ Q (.ref x) H2) E) :
    wpAny (model X.prog X.w) X.A (call (.ref C) us) (EP X pins σ Q) X.xe s := by
  have hq := h (s.heap.objs.size + 1) s.heap.objs.size (I.hok.fresh (Nat.le_succ _)) (I.hok.fresh (Nat.le_refl _)) (Nat.ne_of_lt (Nat.lt_succ_self _))
  have I2 := Inv.made (C := C) I
  have r2 : Vals (V.ref (s.heap.objs.size + 1) :: (vs ++ dvs)) (Value.ref (s.heap.objs.size + 1) :: (us ++ ds)) := .cons rfl (r.append hd)
  have hl : (Value.ref (s.heap.objs.size + 1) :: us ++ ds).length = ps.length := by
    have e := r2.length
    rw [F.len _ _ _ _ hq] at e
    exact e.symm
  refine wpAny_call (make_map (f := f) I.kIn M.makes M.init (beq_iff_eq.mp M.fn) (codeAny_mono (F.run _ X.stack _ _ ⟨Value.ref (s.heap.objs.size + 1) :: us, []⟩ (Value.ref (s.heap.objs.size + 1) :: (us ++ ds)) _ _ E (hr.make C us [])
    (I2.env0.make C us []) (hb _ (Value.ref (s.heap.objs.size + 1) :: us) I2.kIn hl) r2 hq) fun r s' hq' => ?_))
  cases r with
  | error e => exact hx pins σ _ _ e s' I2 hq'
  | ok fl =>
    cases fl with
    | ret u =>
      obtain ⟨v, H', I3, rv, ev, q3⟩ := I2.after hq'
      subst ev
      exact ⟨rv, ⟨V.ref (s.heap.objs.size + 1), H', I3, rfl, q3⟩⟩
    | next => exact False.elim hq'
    | brk => exact False.elim hq'
    | cont => exact False.elim hq'
theorem pe_make (M : Mk X.K C f) (F : FnOk X.prog X.w X.K X.mg X.base CX k f fd ps sp) (hr : Room (k + 1) X.A) (hg : Gl X x) (hm : X.mg x = some (.ref C)) (hb : Binds X.K fd ps ds) (hd : Vals dvs ds) (hx : Passes CX X E)
    (ha : PA X (e :: es) t) (hdb : (x == ("__debug__" : Str)) = false := by decide) (he : starEach (e :: es) X.env = (false, eval e X.env) :: starEach es X.env := by rfl) (hpl : (backTo pos (starEach es X.env)).any (·.1) = false := by rfl) :
    PE X (.Call (.Name x p) (e :: es) [] pos) (tMake C sp dvs E t) := by
  intro pins s σ H Q I h
  refine wpAny_Call_Name_kw (ld_glob I hg hm ?_ hdb)
  refine PySem.W.callWith_K (h₀ := X.base) I.ok.mod.kin M.kp (thn (ha pos pins s σ H _ I h) fun us s1 ⟨vs, H1, I1, r, q⟩ => ⟨I1.kIn, ?_⟩) he hpl
  exact run_make M F hr hb hd hx I1 r q
end

section
variable {X : Cx} {CX : CXT} {k : Nat} {f C : Addr} {fd : FuncData} {ps ks : List Str} {sp : Sp} {E : XK} {x m : Str} {p pos apos kpos : Pos} {e o : Expr} {es : List Expr} {kws : List Keyword} {te ta : TE} {t tk : TA} {nm : Option Str}
structure KBinds (K : PySem.W.Frag) (fd : FuncData) (ps ks : List Str) (g : List Value → List Value → List Value) (gV : List V → List V → List V) : Prop where
  to : ∀ (s : Shared) (us ws : List Value), K.In s.heap → (g us ws).length = ps.length → BindsTo s fd ⟨us, ks.zip ws⟩ (ps.zip (g us ws))
  rel : ∀ {vs : List V} {us : List Value} {zs : List V} {ws : List Value}, Vals vs us → Vals zs ws → Vals (gV vs zs) (g us ws)
variable {g : List Value → List Value → List Value} {gV : List V → List V → List V}
end

structure FnScope (N P : List Str) (sc : Scope) : Prop where
  kind : sc.kind = .function
  co : sc.isCoroutine = false
  gen : sc.isGenerator = false
  nd : N.Nodup
  pre : N.take P.length = P
  par : ∀ x ∈ P, sc.names.lookup x = some .local ∨ sc.names.lookup x = some .cell
  nofree : ∀ y ∈ sc.names, y.2 ≠ .free

theorem bindL_out {kindOf : Str → Option NameKind} {x : Str} : ∀ {binds : List (Str × Value)} {m : Str → Option Value}, (∀ v, (x, v) ∉ binds) → bindL kindOf binds m x = m x
  | [], _, _ => rfl
  | (n, v) :: r, m, h => by
    unfold bindL
    rw [bindL_out fun w hw => h w (List.mem_cons_of_mem _ hw)]
    split
    · have : x ≠ n := by rintro rfl; exact h v List.mem_cons_self
      simp [this]
    · rfl
theorem bindC_out {kindOf : Str → Option NameKind} {x : Str} : ∀ {binds : List (Str × Value)} {m : Str → Option Value}, (∀ v, (x, v) ∉ binds) → bindC kindOf binds m x = m x
  | [], _, _ => rfl
  | (n, v) :: r, m, h => by
    unfold bindC
    rw [bindC_out fun w hw => h w (List.mem_cons_of_mem _ hw)]
    split
    · rfl
    · have : x ≠ n := by rintro rfl; exact h v List.mem_cons_self
      simp [this]
theorem bindL_get {kindOf : Str → Option NameKind} {x : Str} {v : Value} : ∀ {P : List Str} {vs : List Value} {i : Nat} {m : Str → Option Value}, P.Nodup → P[i]? = some x → vs[i]? = some v → kindOf x = some .local →
    bindL kindOf (P.zip vs) m x = some v
  | [], _, _, _, _, h, _, _ => by simp at h
  | _ :: _, [], _, _, _, _, h, _ => by simp at h
  | p :: P, w :: vs, 0, m, nd, h1, h2, hk => by
    simp at h1 h2; subst h1; subst h2
    show bindL kindOf ((p, w) :: P.zip vs) m p = _
    unfold bindL
    rw [bindL_out fun v hv => (List.nodup_cons.mp nd).1 (List.of_mem_zip hv).1, if_pos hk]
    simp
  | p :: P, w :: vs, i + 1, m, nd, h1, h2, hk => by
    show bindL kindOf ((p, w) :: P.zip vs) m x = _
    unfold bindL
    exact bindL_get (i := i) (List.nodup_cons.mp nd).2 (by simpa using h1) (by simpa using h2) hk
theorem bindC_get {kindOf : Str → Option NameKind} {x : Str} {v : Value} : ∀ {P : List Str} {vs : List Value} {i : Nat} {m : Str → Option Value}, P.Nodup → P[i]? = some x → vs[i]? = some v → kindOf x ≠ some .local →
    bindC kindOf (P.zip vs) m x = some v
  | [], _, _, _, _, h, _, _ => by simp at h
  | _ :: _, [], _, _, _, _, h, _ => by simp at h
  | p :: P, w :: vs, 0, m, nd, h1, h2, hk => by
    simp at h1 h2; subst h1; subst h2
    show bindC kindOf ((p, w) :: P.zip vs) m p = _
    unfold bindC
    rw [bindC_out fun v hv => (List.nodup_cons.mp nd).1 (List.of_mem_zip hv).1, if_neg hk]
    simp
  | p :: P, w :: vs, i + 1, m, nd, h1, h2, hk => by
    show bindC kindOf ((p, w) :: P.zip vs) m x = _
    unfold bindC
    exact bindC_get (i := i) (List.nodup_cons.mp nd).2 (by simpa using h1) (by simpa using h2) hk

noncomputable def start (N : List Str) (vs : List V) : St := vs.map some ++ List.replicate (N.length - vs.length) none

noncomputable def cxOf (CX : CXT) (P : Program) (w : World) (K : PySem.W.Frag) (mg : Str → Option Value) (base : Heap) (N : List Str) (qual : Str) (scope : Scope) (f : Addr) (cd : Value) (A : Around) (outer : List Env) (s : Shared) (H : Hp) (E : XK) : Cx where
  prog := P
  w := w
  K := K
  mg := mg
  base := base
  A := A.deeper (envOfC qual scope s.heap.objs.size f cd)
  N := N
  s_0 := s
  H_0 := H
  env := envOfC qual scope s.heap.objs.size f cd
  outer := outer
  stack := envOfC qual scope s.heap.objs.size f cd :: outer
  ex := []
  calm := true
  fn := fun _ => true
  pn := []
  xe := fun e s' => wpAny (model P w) (A.deeper (envOfC qual scope s.heap.objs.size f cd)) (leaving (envOfC qual scope s.heap.objs.size f cd) e) (fun _ s'' => CX outer H s E e s'') (fun e' s'' => CX outer H s E e' s'') s'

theorem cell_has {sc : Scope} {n : Nat} {x : Str} (h : sc.names.lookup x = some .cell) : ∃ c, (cellsFrom n sc.names []).lookup x = some c := by
  have q := PySem.W.cellsFrom_some sc.names n [] (.inl h)
  exact Option.isSome_iff_exists.mp q

theorem inv_start {CX : CXT} {P : Program} {w : World} {K : PySem.W.Frag} {mg : Str → Option Value} {base : Heap} {N ps : List Str} {qual : Str} {scope : Scope} {f : Addr} {cd : Value} {A : Around} {outer : List Env} {s s1 : Shared} {H : Hp} {E : XK} {us : List Value} {vs : List V}
    (S : FnScope N ps scope) (hd : A.handled = none) (e0 : Env0 P w K mg base A outer s H) (hl : vs.length = ps.length) (r : Vals vs us)
    (x : InCallC s s.heap.objs.size (bindL (envOfC qual scope s.heap.objs.size f cd).kindOf (ps.zip us) fun _ => none) (cellsFrom (s.heap.objs.size + 1) scope.names []) (bindC (envOfC qual scope s.heap.objs.size f cd).kindOf (ps.zip us) fun _ => none) s1) :
    Inv (cxOf CX P w K mg base N qual scope f cd A outer s H E) [] (start N vs) H s1 := by
  have hpl : ps.length ≤ N.length := by have := congrArg List.length S.pre; rw [List.length_take] at this; omega
  obtain ⟨h1, tk, rfl, hk⟩ := x.done
  have noA : ∀ b : Addr, b ∉ (cxOf CX P w K mg base N qual scope f cd A outer s H E).ex := fun b z => absurd (show b ∈ ([] : List Addr) from z) (by simp)
  refine ⟨⟨e0.mod, S.kind, rfl, rfl, Nat.le_refl _, fun y z c h1 h2 => ?_, fun y hy => ?_, fun y c _ h => ?_, fun _ => hd, Around.frames_deeper e0.frames, .inr ⟨rfl, rfl⟩, fun b z => absurd z (noA b), e0.bs, e0.bsz, fun b _ _ => noA b, fun b z => absurd z (noA b), e0.funs, e0.frf⟩,
    rfl, e0.bare, Un.kept hk, ⟨_, x.toInCall.ns, fun i y v h1 h2 h3 => ?_⟩, fun y c h => ⟨_, x.cell y c h⟩, e0.hok.fresh (Nat.le_refl _), fun y c h => ?_, fun p hp => absurd (show p ∈ ([] : List (Addr × Obj)) from hp) (by simp), e0.hok.kept hk, ?_⟩
  · exact name_of_addr x.apart (PySem.mem_of_lookup h1) (PySem.mem_of_lookup h2)
  · have hy : scope.names.lookup y = some .cell ∨ scope.names.lookup y = some .free := hy
    rcases hy with hy | hy
    · exact cell_has hy
    · exact absurd rfl (S.nofree _ (PySem.mem_of_lookup hy))
  · exact Nat.le_of_lt (x.above y c (PySem.mem_of_lookup h))
  · have hi : i < vs.length := by
      unfold start at h2
      by_cases hi : i < vs.length
      · exact hi
      · rw [List.getElem?_append_right (by simpa using hi)] at h2
        rw [List.getElem?_replicate] at h2
        split at h2 <;> cases h2
    have ha : vs[i]? = some v := by
      unfold start at h2
      rw [List.getElem?_append_left (by simpa using hi), List.getElem?_map] at h2
      cases e : vs[i]? with
      | none => rw [e] at h2; cases h2
      | some a => rw [e] at h2; cases h2; rfl
    obtain ⟨u, hu, rv⟩ := r.get ha
    have hp : ps[i]? = some y := by
      rw [← S.pre, List.getElem?_take_of_lt (by omega)]; exact h1
    have ndP : ps.Nodup := by rw [← S.pre]; exact S.nd.sublist (List.take_sublist _ _)
    refine ⟨u, rv, ?_⟩
    rcases S.par y (List.mem_of_getElem? hp) with k | k
    · exact .inl ⟨k, bindL_get ndP hp hu k⟩
    · obtain ⟨c, e⟩ := cell_has (n := s.heap.objs.size + 1) k
      refine .inr ⟨.inl k, c, e, ?_⟩
      have q := x.cell y c e
      rw [bindC_get ndP hp hu (by show scope.names.lookup y ≠ _; rw [k]; decide)] at q
      exact q
  · exact e0.hok.fresh (Nat.le_of_lt (x.above y c (PySem.mem_of_lookup h)))
  · unfold start
    show _ = N.length
    rw [List.length_append, List.length_map, List.length_replicate]
    omega

theorem fn_of {CX : CXT} {P : Program} {w : World} {K : PySem.W.Frag} {mg : Str → Option Value} {base : Heap} {k : Nat} {f : Addr} {name qual : Str} {params : Arguments} {body : List Stmt} {scope : Scope} {dV kV doc pm cdv ct oc : Value} {an od : Option Addr}
    {osl : Array (Option Value)} {N ps : List Str} {sp : Sp} (lk : K.lookup f = some ⟨oc, od, .func (PySem.W.fnOf name qual params body scope dV kV doc pm an cdv ct), osl⟩) (hcd : PySem.W.codeIn K cdv qual = true) (S : FnScope N ps scope)
    (len : ∀ vs H Q E, sp vs H Q E → vs.length = ps.length)
    (hbody : ∀ (A : Around) (outer : List Env) (s : Shared) (H : Hp) (vs : List V) (Q : VK) (E : XK), Room k (A.deeper (envOfC qual scope s.heap.objs.size f cdv)) → sp vs H Q E →
      ∃ t, PSs (cxOf CX P w K mg base N qual scope f cdv A outer s H E) body t ∧ t { nx := fun _ H' => Q .non H', rt := Q } (start N vs) H) :
    FnOk P w K mg base CX (k + 1) f (PySem.W.fnOf name qual params body scope dV kV doc pm an cdv ct) ps sp := by
  refine ⟨len, fun A outer s H args us vs Q E hr e0 hb r hsp => ?_⟩
  have hl := len _ _ _ _ hsp
  have KX : K.In s.heap := e0.mod.kin.keeps fun b o e => (e0.bs b o e).1
  have lim : s.heap.NoLimit := e0.mod.nolimit.keeps fun b o e => (e0.bs b o e).1
  have hkind : ∀ y ∈ ps.zip us, scope.names.lookup y.1 = some .local ∨ (scope.names.lookup y.1 = some .cell ∧ ((cellsFrom (s.heap.objs.size + 1) scope.names []).lookup y.1).isSome = true) := fun ⟨n, v⟩ hy => by
    rcases S.par n (List.of_mem_zip hy).1 with q | q
    · exact .inl q
    · exact .inr ⟨q, PySem.W.cellsFrom_some _ _ _ (.inl q)⟩
  refine codeAny_call_function hr.depth (KX _ _ lk) rfl S.co S.gen rfl (PySem.W.codeRec_of KX hcd) (hb _ _ _ _ ?_)
  refine wpAny_newFunctionEnv_cells S.kind hkind fun env he s1 x => ?_
  subst he
  refine ⟨lim.keeps x.toInCall.keep, codeAny_func ?_⟩
  obtain ⟨t, ht, hq⟩ := hbody A outer s H vs Q E (hr.deeper _) hsp
  have I : Inv (cxOf CX P w K mg base N qual scope f cdv A outer s H E) [] (start N vs) H s1 := inv_start S hr.hd e0 hl r x
  refine wpAny_mono (ht [] s1 (start N vs) H _ I hq) (fun fl s' hs => ?_) fun e s' hs => hs
  have fin : ∀ {σ' : St} {H' : Hp} {v : V} {u : Value}, Inv (cxOf CX P w K mg base N qual scope f cdv A outer s H E) [] σ' H' s' → RelV v u → Q v H' → CE outer P w H s Q u s' :=
    fun {σ' H' v u} J rv q => ⟨v, H', J.os, J.bare, J.base, J.hok, rv, q⟩
  cases fl with
  | ret u =>
    obtain ⟨v, σ', H', J, rv, q⟩ := hs
    exact fin J rv q
  | next =>
    obtain ⟨σ', H', J, q⟩ := hs
    exact fin (v := V.non) (u := Value.none) J rfl q
  | brk =>
    obtain ⟨_, _, _, q⟩ := hs
    exact False.elim q
  | cont =>
    obtain ⟨_, _, _, q⟩ := hs
    exact False.elim q
end L2

namespace L2
open PySem PySem.Spec PyProof.Rows
section
variable {X : Cx} {x : Str} {p pos : Pos} {e : Expr} {es : List Expr} {t : TA} {id T : String} {r : List V → Hp → VK → Prop}

noncomputable def tCB (r : List V → Hp → VK → Prop) (t : TA) : TE := fun σ H Q => t σ H fun vs H1 => r vs H1 Q
theorem pe_callB (hc : CallR X (.builtin id) r) (hg : Gl X x) (hm : X.mg x = none) (hv : bootBuiltins x = some (.builtin id)) (ha : PA X (e :: es) t) (hn : x ≠ "__name__" := by decide) (hdb : (x == ("__debug__" : Str)) = false := by decide)
    (he : starEach (e :: es) X.env = (false, eval e X.env) :: starEach es X.env := by rfl) (hpl : (backTo pos (starEach es X.env)).any (·.1) = false := by rfl) : PE X (.Call (.Name x p) (e :: es) [] pos) (tCB r t) := by
  intro pins s σ H Q I h
  refine wpAny_Call_Name_kw (ld_blt I hg hm hv ?_ hn hdb)
  exact PyProof.Rows.callWith_builtin1 (thn (ha pos pins s σ H _ I h) fun us s1 ⟨vs, H1, I1, r1, q1⟩ => hc pins s1 σ H1 vs us Q I1 r1 q1) he hpl
theorem pe_callTy (hc : CallR X (.type T) r) (hg : Gl X x) (hm : X.mg x = none) (hv : bootBuiltins x = some (.type T)) (ha : PA X (e :: es) t) (hn : x ≠ "__name__" := by decide) (hdb : (x == ("__debug__" : Str)) = false := by decide)
    (he : starEach (e :: es) X.env = (false, eval e X.env) :: starEach es X.env := by rfl) (hpl : (backTo pos (starEach es X.env)).any (·.1) = false := by rfl) : PE X (.Call (.Name x p) (e :: es) [] pos) (tCB r t) := by
  intro pins s σ H Q I h
  refine wpAny_Call_Name_kw (ld_blt I hg hm hv ?_ hn hdb)
  exact PyProof.Rows.callWith_type1 (thn (ha pos pins s σ H _ I h) fun us s1 ⟨vs, H1, I1, r1, q1⟩ => hc pins s1 σ H1 vs us Q I1 r1 q1) he hpl
end
end L2

namespace HT
open PySem PyProof.Rows

section
open PySem.SeqAt
open PySem.AutoSeq1 (wpAny_loadPart')
open PySem.MeetsSeq PySem.MeetsSeq2 PySem.MeetsSeq3

end

section
variable {prog : Program} {w : World} {A : Around} {E : Value → Shared → Prop} {s : Shared}

end
end HT

namespace L2
open PySem PySem.Spec PyProof.Rows

noncomputable abbrev TO := St → Hp → (Option Int → Hp → Prop) → Prop
section
variable {X : Cx} {e : Expr} {te : TE} {lo hi : Option Expr} {tl th : TO} {pos p2 : Pos}

end
end L2

namespace L2
open PySem PySem.Spec PyProof.Rows

noncomputable def ixN (n : Nat) (i : Int) : Option Nat := if 0 ≤ i then (if i < n then some i.toNat else none) else if -(n : Int) ≤ i then some (i + n).toNat else none
noncomputable def atI {α : Type} (xs : List α) (i : Int) : Option α := (ixN xs.length i).bind fun j => xs[j]?
theorem ixN_seq {n : Nat} {i : Int} {j : Nat} (h : ixN n i = some j) : seqIndex? i n = some j ∧ j < n ∧ -(n : Int) ≤ i ∧ i < n := by
  unfold ixN at h
  by_cases h0 : 0 ≤ i
  · rw [if_pos h0] at h
    by_cases h1 : i < n
    · rw [if_pos h1] at h
      have e : i.toNat = j := Option.some.inj h
      exact ⟨by rw [seqIndex_of h0 h1, e], by omega, by omega, h1⟩
    · rw [if_neg h1] at h; cases h
  · rw [if_neg h0] at h
    by_cases h1 : -(n : Int) ≤ i
    · rw [if_pos h1] at h
      have e : (i + n).toNat = j := Option.some.inj h
      exact ⟨by rw [seqIndex_neg (by omega) h1, e], by omega, h1, by omega⟩
    · rw [if_neg h1] at h; cases h
theorem atI_get {α : Type} {xs : List α} {i : Int} {v : α} (h : atI xs i = some v) : ∃ j, seqIndex? i xs.length = some j ∧ xs[j]? = some v ∧ j < xs.length ∧ -(xs.length : Int) ≤ i ∧ i < xs.length := by
  unfold atI at h
  cases e : ixN xs.length i with
  | none => rw [e] at h; cases h
  | some j =>
    rw [e] at h
    obtain ⟨h1, h2, h3, h4⟩ := ixN_seq e
    exact ⟨j, h1, h, h2, h3, h4⟩
theorem atI_nat {α : Type} {xs : List α} {j : Nat} {v : α} (h : xs[j]? = some v) : atI xs (j : Int) = some v := by
  have hj : j < xs.length := (List.getElem?_eq_some_iff.mp h).1
  have e : ixN xs.length (j : Int) = some j := by
    unfold ixN
    rw [if_pos (by omega), if_pos (by omega)]; simp
  unfold atI; rw [e]; exact h
noncomputable def PlainIx (b : Expr) : Prop := ∀ o i, subscripted b false o i = operate [o, i] (getItem o i)
noncomputable def IxR (X : Cx) (r : R2) : Prop :=
  ∀ (value slice : Expr) (pins : List (Addr × Obj)) (s : Shared) (σ : St) (H : Hp) (x y : V) (v u : Value) (Q : VK), Inv X pins σ H s → RelV x v → RelV y u → r x y H Q →
    subscripted slice false v u = operate [v, u] (getItem v u) → wpAny (model X.prog X.w) X.A (subscriptTail value slice v u) (EP X pins σ Q) X.xe s
noncomputable def MtR (X : Cx) (id : String) (r : V → List V → Hp → VK → Prop) : Prop :=
  ∀ (pins : List (Addr × Obj)) (s : Shared) (σ : St) (H : Hp) (x : V) (xs : List V) (v : Value) (us : List Value) (Q : VK), Inv X pins σ H s → RelV x v → Vals xs us → r x xs H Q →
    wpAny (model X.prog X.w) X.A (call (.builtin id) (v :: us)) (EP X pins σ Q) X.xe s
section
variable {X : Cx} {a b : Expr} {ta tb : TE} {pos : Pos}
theorem pe_ix {r : R2} (hr : IxR X r) (ha : PE X a ta) (hb : PE X b tb) (hs : PlainIx b) : PE X (.Subscript a b pos) (tOp r ta tb) := by
  intro pins s σ H Q I h
  exact Subscript_ (binT ha hb I h fun v u s2 x y H2 I2 rx ry q => hr a b pins s2 σ H2 x y v u Q I2 rx ry q (hs _ _))

noncomputable def rIxL (K : PySem.W.Frag) : R2 := fun x y H Q => ∃ p xs i v, x = .ref p ∧ y = .int i ∧ SqL K H p xs ∧ atI xs i = some v ∧ Q v H
noncomputable def rIxT (K : PySem.W.Frag) : R2 := fun x y H Q => ∃ p xs i v, x = .ref p ∧ y = .int i ∧ SqT K H p xs ∧ atI xs i = some v ∧ Q v H
noncomputable def rIxS : R2 := fun x y H Q => ∃ z i c, x = .str z ∧ y = .int i ∧ z.length ≤ sizeLine ∧ atI z.cps.toList i = some c ∧ Q (.str ⟨#[c]⟩) H
theorem ix_list : IxR X (rIxL X.K) := by
  intro value slice pins s σ H x y v u Q I rx ry h hs
  obtain ⟨p, xs, i, z, rfl, rfl, hq, he, q⟩ := h
  cases rx
  obtain ⟨t, rfl⟩ := ry
  obtain ⟨its, r, pl, hz⟩ := I.list hq
  obtain ⟨j, h1, h2, h3, h4, h5⟩ := atI_get he
  obtain ⟨w, ew, rw'⟩ := r.get h2
  have hl := r.length
  have hn := line63
  have fin : EP X pins σ Q w s := ⟨z, H, I, rw', q⟩
  by_cases h0 : 0 ≤ i
  · have hj : i.toNat = j := by
      rw [seqIndex_of h0 h5] at h1
      exact Option.some.inj h1
    exact item_listR pl.isList h0 (by omega) (by rw [hj]; simpa using ew) fin hs
  · have hj : (i + (its.toArray.size : Int)).toNat = j := by
      rw [seqIndex_neg (by omega) h4] at h1
      rw [List.size_toArray, ← hl]
      exact Option.some.inj h1
    exact subscriptTail_builtinR (x := w) pl.isList.typeIs slot_list_getitem.lookup
      (wpAny_getItem_list_neg (Q := fun r s' => r = w ∧ EP X pins σ Q r s') pl.isList (by omega) (by rw [List.size_toArray] <;> omega) (by omega) (by rw [hj]; simpa using ew) ⟨rfl, fin⟩) hs
theorem ix_tup : IxR X (rIxT X.K) := by
  intro value slice pins s σ H x y v u Q I rx ry h hs
  obtain ⟨p, xs, i, z, rfl, rfl, hq, he, q⟩ := h
  cases rx
  obtain ⟨t, rfl⟩ := ry
  obtain ⟨its, r, pl, hz⟩ := I.tuple hq
  obtain ⟨j, h1, h2, h3, h4, h5⟩ := atI_get he
  obtain ⟨w, ew, rw'⟩ := r.get h2
  have hl := r.length
  have hn := line63
  have fin : EP X pins σ Q w s := ⟨z, H, I, rw', q⟩
  exact subscriptTail_builtinR (x := w) pl.typeIs slot_tuple_getitem.lookup
    (getItem_tuple (j := j) (Q := fun r s' => r = w ∧ EP X pins σ Q r s') pl (by omega) (by omega) (by rw [List.size_toArray, ← hl]; exact h1) (by simpa using ew) ⟨rfl, fin⟩) hs
theorem ix_str : IxR X rIxS := by
  intro value slice pins s σ H x y v u Q I rx ry h hs
  obtain ⟨z, i, c, rfl, rfl, hz, he, q⟩ := h
  obtain ⟨t, rfl⟩ := rx
  obtain ⟨t', rfl⟩ := ry
  obtain ⟨j, h1, h2, h3, h4, h5⟩ := atI_get he
  have hl : z.cps.toList.length = z.length := by simp [Str.length]
  rw [hl] at h1 h4 h5
  have hn := line63
  exact tail_any (typeIs_str s z t) slot_str_getitem.lookup (getItem_str (c := c) (by
    have e1 : decide (i < -(2 ^ 63 : Int)) = false := decide_eq_false (by omega)
    have e2 : decide (i ≥ 2 ^ 63) = false := decide_eq_false (by omega)
    rw [e1, e2, Bool.or_false]) (by rw [h1]; simpa using h2) ⟨.str ⟨#[c]⟩, H, I.tok _, ⟨_, rfl⟩, q⟩) hs
noncomputable def flatV : V → Bool
  | .non => true
  | .bl _ => true
  | .int _ => true
  | .str _ => true
  | _ => false
noncomputable def eqV : V → V → Bool
  | .non, .non => true
  | .bl a, .bl b => a == b
  | .bl a, .int b => (if a then 1 else 0) == b
  | .int a, .bl b => a == (if b then 1 else 0)
  | .int a, .int b => a == b
  | .str a, .str b => a == b
  | _, _ => false
theorem eqAt_V {A : Around} {s : Shared} {y x : V} {u v : Value} (ry : RelV y u) (rx : RelV x v) (fy : flatV y = true) (fx : flatV x = true) : SeqAt.EqAt A s u v (eqV y x) := by
  cases y with
  | non =>
    cases ry
    cases x with
    | non => cases rx; exact SeqAt.EqAt.same _
    | bl b => cases rx; exact SeqAt.EqAt.none_bool b
    | int b => obtain ⟨t, rfl⟩ := rx; exact SeqAt.EqAt.none_int b t
    | str b => obtain ⟨t, rfl⟩ := rx; exact SeqAt.EqAt.none_str b t
    | _ => exact absurd (show false = true from fx) Bool.false_ne_true
  | bl a =>
    cases ry
    cases x with
    | non => cases rx; exact SeqAt.EqAt.bool_none a
    | bl b => cases rx; exact SeqAt.EqAt.bool_bool a b
    | int b => obtain ⟨t, rfl⟩ := rx; exact SeqAt.EqAt.bool_int a b t
    | str b => obtain ⟨t, rfl⟩ := rx; exact SeqAt.EqAt.bool_str a b t
    | _ => exact absurd (show false = true from fx) Bool.false_ne_true
  | int a =>
    obtain ⟨t', rfl⟩ := ry
    cases x with
    | non => cases rx; exact SeqAt.EqAt.int_none a t'
    | bl b => cases rx; exact SeqAt.EqAt.int_bool a t' b
    | int b => obtain ⟨t, rfl⟩ := rx; exact SeqAt.EqAt.int_int a t' b t
    | str b => obtain ⟨t, rfl⟩ := rx; exact SeqAt.EqAt.int_str a t' b t
    | _ => exact absurd (show false = true from fx) Bool.false_ne_true
  | str a =>
    obtain ⟨t', rfl⟩ := ry
    cases x with
    | non => cases rx; exact SeqAt.EqAt.str_none a t'
    | bl b => cases rx; exact SeqAt.EqAt.str_bool a t' b
    | int b => obtain ⟨t, rfl⟩ := rx; exact SeqAt.EqAt.str_int a t' b t
    | str b => obtain ⟨t, rfl⟩ := rx; exact SeqAt.EqAt.str_str a t' b t
    | _ => exact absurd (show false = true from fx) Bool.false_ne_true
  | _ => exact absurd (show false = true from fy) Bool.false_ne_true
noncomputable def eqU (x : V) (u : Value) : Bool := match u with
  | .none => eqV .non x
  | .bool b => eqV (.bl b) x
  | .int i _ => eqV (.int i) x
  | .str z _ => eqV (.str z) x
  | _ => false
theorem eqU_of {x y : V} {u : Value} (r : RelV y u) (f : flatV y = true) : eqU x u = eqV y x := by
  cases y with
  | non => cases r; rfl
  | bl b => cases r; rfl
  | int i => obtain ⟨t, rfl⟩ := r; rfl
  | str z => obtain ⟨t, rfl⟩ := r; rfl
  | _ => exact absurd (show false = true from f) Bool.false_ne_true
theorem any_eqU {x : V} : ∀ {xs : List V} {us : List Value}, Vals xs us → xs.all flatV = true → us.any (eqU x) = xs.any fun y => eqV y x
  | _, _, .nil, _ => rfl
  | y :: xs, u :: us, .cons r t, f => by
    rw [List.all_cons, Bool.and_eq_true] at f
    rw [List.any_cons, List.any_cons, eqU_of r f.1, any_eqU t f.2]
theorem mem_eqAt {A : Around} {s : Shared} {x : V} {v : Value} (rx : RelV x v) (fx : flatV x = true) : ∀ {xs : List V} {us : List Value}, Vals xs us → xs.all flatV = true → ∀ u ∈ us, SeqAt.EqAt A s u v (eqU x u)
  | _, _, .nil, _ => fun u hu => by cases hu
  | y :: xs, u :: us, .cons r t, f => fun u' hu => by
    rw [List.all_cons, Bool.and_eq_true] at f
    rcases List.mem_cons.mp hu with rfl | hu
    · rw [eqU_of r f.1]; exact eqAt_V r rx f.1 fx
    · exact mem_eqAt rx fx t f.2 u' hu
noncomputable def inV (x : V) (xs : List V) : Bool := xs.any fun y => eqV y x
noncomputable def rIn (K : PySem.W.Frag) (neg : Bool) : R2 := fun x y H Q => ∃ p xs, y = .ref p ∧ (SqL K H p xs ∨ SqT K H p xs) ∧ flatV x = true ∧ xs.all flatV = true ∧ Q (.bl (if neg then !inV x xs else inV x xs)) H
theorem op_in_seq : OpR X (compareOp .In) (rIn X.K false) := by
  intro pins s σ H x y v u Q I rx ry h
  obtain ⟨p, xs, rfl, hq, fx, fs, q⟩ := h
  cases ry
  rcases hq with hq | hq
  · obtain ⟨its, r, pl, hz⟩ := I.list hq
    refine SeqAt.in_listAt (eqU x) pl.isList (fun w hw => mem_eqAt rx fx r fs w (by simpa using hw)) ⟨.bl _, H, I, rfl, ?_⟩
    rw [show its.toArray.any (eqU x) = its.any (eqU x) by simp, any_eqU r fs]
    exact q
  · obtain ⟨its, r, pl, hz⟩ := I.tuple hq
    refine SeqAt.in_tupleAt (eqU x) pl (fun w hw => mem_eqAt rx fx r fs w (by simpa using hw)) ⟨.bl _, H, I, rfl, ?_⟩
    rw [show its.toArray.any (eqU x) = its.any (eqU x) by simp, any_eqU r fs]
    exact q
theorem call_len_seq : CallR X (.builtin "len") (fun xs H Q => ∃ p ys, xs = [.ref p] ∧ (SqL X.K H p ys ∨ SqT X.K H p ys) ∧ Q (.int ys.length) H) := by
  intro pins s σ H xs us Q I r h
  obtain ⟨p, ys, rfl, hq, q⟩ := h
  obtain ⟨u, rfl, rx⟩ := vals1 r
  cases rx
  have hn := line63
  rcases hq with hq | hq
  · obtain ⟨its, r', pl, hz⟩ := I.list hq
    have hlen := r'.length
    exact Calls.call_len_list pl.isList (by simp only [List.size_toArray] <;> omega) ⟨.int ys.length, H, I.tok _, ⟨s.toks + 1, by rw [List.size_toArray, hlen]⟩, q⟩
  · obtain ⟨its, r', pl, hz⟩ := I.tuple hq
    have hlen := r'.length
    exact len_tuple pl (by simp only [List.size_toArray] <;> omega) ⟨.int ys.length, H, I.tok _, ⟨s.toks + 1, by rw [List.size_toArray, hlen]⟩, q⟩
theorem call_len_str : CallR X (.builtin "len") (fun xs H Q => ∃ z, xs = [.str z] ∧ z.length ≤ sizeLine ∧ Q (.int z.length) H) := by
  intro pins s σ H xs us Q I r h
  obtain ⟨z, rfl, hz, q⟩ := h
  obtain ⟨u, rfl, t, rfl⟩ := vals1 r
  have hn := line63
  exact len_str (by omega) ⟨.int z.length, H, I.tok _, ⟨_, rfl⟩, q⟩
theorem call_list_of : CallR X (.type "list") (fun xs H Q => ∃ p ys, xs = [.ref p] ∧ (SqL X.K H p ys ∨ SqT X.K H p ys) ∧ ∀ l, H l = none → Q (.ref l) (upd H l (.lst ys))) := by
  intro pins s σ H xs us Q I r h
  obtain ⟨p, ys, rfl, hq, q⟩ := h
  obtain ⟨u, rfl, rx⟩ := vals1 r
  cases rx
  have fin : ∀ (its : List Value), Vals ys its → ys.length ≤ sizeLine → ∀ (h' : Heap) (c' : Nat), (∀ b o', s.heap.get? b = some o' → h'.get? b = some o') →
      h'.get? s.heap.objs.size = some { cls := .type "list", dict := none, data := .seq its.toArray c', slots := #[] } → EP X pins σ Q (.ref s.heap.objs.size) { s with heap := h' } := fun its r' hz h' c' kp e =>
    ⟨.ref s.heap.objs.size, _, I.laid (t' := s.toks) kp (Nat.le_refl _) (show ObjOk X.prog X.w _ h' _ (.lst ys) from ⟨hz, its, c', r', e⟩), rfl, q _ (I.hok.fresh (Nat.le_refl _))⟩
  rcases hq with hq | hq
  · obtain ⟨its, r', pl, hz⟩ := I.list hq
    have hlen := r'.length
    obtain ⟨o, ho, hc, n, hd⟩ := pl.isList
    exact call_list_seq p (.inl rfl) ho hc hd (fun h' c' kp e => fin its r' hz h' c' kp e) (by simp only [List.size_toArray] <;> omega)
  · obtain ⟨its, r', pl, hz⟩ := I.tuple hq
    have hlen := r'.length
    obtain ⟨o, ho, hc, n, hd⟩ := pl
    exact call_list_seq p (.inr rfl) ho hc hd (fun h' c' kp e => fin its r' hz h' c' kp e) (by simp only [List.size_toArray] <;> omega)
noncomputable def tyV (K : PySem.W.Frag) (T : String) (x : V) (H : Hp) : Prop := match x with
  | .str _ => T = "str"
  | .int _ => T = "int"
  | .ref p => (T = "list" ∧ ∃ xs, SqL K H p xs) ∨ (T = "tuple" ∧ ∃ o, K.lookup p = some o ∧ o.cls = .type "tuple" ∧ o.dict = none) ∨
      (T = "dict" ∧ ((∃ kvs, H p = some (.dK kvs)) ∨ ∃ kvs, H p = some (.dT kvs))) ∨ (T = "set" ∧ ∃ S n, H p = some (.set S n))
  | _ => False
theorem tyV_is {pins : List (Addr × Obj)} {σ : St} {H : Hp} {s : Shared} {T : String} {x : V} {v : Value} (I : Inv X pins σ H s) (r : RelV x v) (ty : tyV X.K T x H) :
    s.TypeIs v T ∧ ∀ a, v = .ref a → ∃ ob, s.heap.get? a = some ob ∧ ob.dict = none := by
  cases x with
  | str z =>
    obtain ⟨t, rfl⟩ := r
    cases (show T = "str" from ty)
    exact ⟨typeIs_str s z t, fun _ e => nomatch e⟩
  | int i =>
    obtain ⟨t, rfl⟩ := r
    cases (show T = "int" from ty)
    exact ⟨typeIs_int s i t, fun _ e => nomatch e⟩
  | ref p =>
    cases r
    rcases ty with ⟨rfl, xs, hq⟩ | ⟨rfl, o, hk, hc, hd⟩ | ⟨rfl, hk⟩ | ⟨rfl, S, n, hk⟩
    · obtain ⟨its, _, pl, _⟩ := I.list hq
      refine ⟨pl.isList.typeIs, fun a e => ?_⟩
      cases e
      obtain ⟨o, n, e, c, hd, _⟩ := pl
      exact ⟨o, e, hd⟩
    · refine ⟨⟨o, I.kIn p o hk, hc⟩, fun a e => ?_⟩
      cases e
      exact ⟨o, I.kIn _ o hk, hd⟩
    · have z : ∃ o, s.heap.get? p = some o ∧ o.ExactDict := by
        rcases hk with ⟨kvs, hk⟩ | ⟨kvs, hk⟩
        · obtain ⟨_, _, _, _, o, _, _, e, ex, _⟩ := I.hok p _ hk
          exact ⟨o, e, ex⟩
        · obtain ⟨_, _, _, _, o, _, _, e, ex, _⟩ := I.hok p _ hk
          exact ⟨o, e, ex⟩
      obtain ⟨o, e, ex⟩ := z
      refine ⟨⟨o, e, ex.1⟩, fun a e2 => ?_⟩
      cases e2
      exact ⟨o, e, ex.2.1⟩
    · obtain ⟨o, _, _, _, e, ex, _⟩ := I.hok p _ hk
      refine ⟨⟨o, e, ex.1⟩, fun a e2 => ?_⟩
      cases e2
      exact ⟨o, e, ex.2.1⟩
  | _ => exact False.elim ty
noncomputable def tBM (K : PySem.W.Frag) (T : String) (r : V → List V → Hp → VK → Prop) (to : TE) (t : TA) : TE := fun σ H Q => to σ H fun x H1 => tyV K T x H1 ∧ t σ H1 fun xs H2 => r x xs H2 Q
variable {o e : Expr} {es : List Expr} {to : TE} {t : TA} {name : Str} {apos cpos : Pos} {T id : String} {r : V → List V → Hp → VK → Prop}
theorem pe_bm (pa : PlainAttrs T) (slot : Slot T name id) (hty : typeOf (.builtin id) = pure (.type "method_descriptor")) (hm : MtR X id r) (ho : PE X o to) (ha : PA X (e :: es) t)
    (hbase : attributeBase o name X.env (eval o X.env) = eval o X.env := by rfl)
    (hfew : ((backTo cpos (starEach (e :: es) X.env)).all (fun x => !x.1) && (backToKw cpos (keywordEach [] X.env)).all (fun x => x.1.isSome)
      && decide ((e :: es).length + ([] : List Keyword).length + (if ([] : List Keyword).isEmpty then 0 else 1) < 30)) = true := by rfl)
    (hline : (apos.endLine == cpos.line) = true := by rfl) (hs : starEach (e :: es) X.env = (false, eval e X.env) :: starEach es X.env := by rfl) (hplain : (backTo cpos (starEach es X.env)).any (·.1) = false := by rfl) :
    PE X (.Call (.Attribute o name apos) (e :: es) [] cpos) (tBM X.K T r to t) := by
  intro pins s σ H Q I h
  refine wpAny_Call_method_late hbase hfew hline rfl (thn (ho pins s σ H _ I h) fun v s1 ⟨x, H1, I1, r1, ty, q1⟩ => ?_)
  obtain ⟨h1, h2⟩ := tyV_is I1 r1 ty
  refine ⟨T, id, pa, slot, hty, h1, h2, ?_⟩
  have hA := ha cpos pins s1 σ H1 _ I1 q1
  rw [hs] at hA ⊢
  refine Calls.callWith_builtin (by show (false || (backTo cpos (starEach es X.env)).any (·.1)) = false; rw [hplain] <;> rfl) (Calls.evalArgs_plain ?_)
  exact thn hA fun us s2 ⟨vs, H2, I2, r2, q2⟩ => hm pins s2 σ H2 x vs v us Q I2 r1 r2 q2
/- xs.append(e), list.index on a module's tuple .. are MtR facts of 06m -/
end
end L2

namespace L2
open PySem PySem.Spec PyProof.Rows

noncomputable def MtM (X : Cx) (id : String) (r : V → List V → Hp → VK → Prop) : Prop :=
  ∀ (pins : List (Addr × Obj)) (s : Shared) (σ : St) (H : Hp) (x : V) (xs : List V) (v : Value) (us : List Value) (Q : VK), Inv X pins σ H s → RelV x v → Vals xs us → r x xs H Q →
    wpAny (model X.prog X.w) X.A (call (.builtin id) (v :: us)) (EP X pins σ Q) X.xe s

theorem Vals.one : ∀ {x : V} {us : List Value}, Vals [x] us → ∃ u, us = [u] ∧ RelV x u
  | _, _, .cons r .nil => ⟨_, rfl, r⟩
section
variable {X : Cx} {pins : List (Addr × Obj)} {σ : St} {H : Hp} {s : Shared} {l b : Addr} {xs ys zs : List V}

theorem Inv.lset {its its' : List Value} {n : Nat} {f : Array Value → Array Value} {t' : Nat} (I : Inv X pins σ H s) (hH : H l = some (.lst xs))
    (e : s.heap.get? l = some { cls := .type "list", data := .seq its.toArray n }) (hf : f its.toArray = its'.toArray) (hv : Vals ys its') (hz : ys.length ≤ sizeLine) :
    Inv X pins σ (upd H l (.lst ys)) { s with heap := s.heap.update l (Obj.mapSeq f), toks := t' } := by
  have q := PySem.IsL.update e f
  rw [hf] at q
  refine I.write (x := l) (e := l) (by rw [hH]; exact trivial) (.inl rfl) (fun b' u hb hu => (Heap.get?_update_other s.heap (Obj.mapSeq f) (Ne.symm hb)).trans hu) ⟨_, q⟩ ?_
  exact ⟨hz, its', _, hv, q⟩
theorem Inv.lnew {its : List Value} {t' : Nat} (I : Inv X pins σ H s) (hv : Vals ys its) (hz : ys.length ≤ sizeLine) :
    Inv X pins σ (upd H s.heap.objs.size (.lst ys)) { s with heap := s.heap.push { cls := .type "list", data := .seq its.toArray }, toks := t' } :=
  I.laid (fun _ _ q => Heap.get?_push_of_some _ q) (Nat.le_refl _) ⟨hz, its, 0, hv, Heap.get?_push_size _ rfl⟩
theorem Inv.fresh (I : Inv X pins σ H s) : H s.heap.objs.size = none := I.hok.fresh (Nat.le_refl _)
theorem Inv.lstM (I : Inv X pins σ H s) (hH : H l = some (.lst xs)) : xs.length ≤ sizeLine ∧ ∃ (its : List Value) (n : Nat), Vals xs its ∧ xs.length = its.length ∧ s.heap.get? l = some { cls := .type "list", data := .seq its.toArray n } := by
  obtain ⟨z, its, n, r, e⟩ := I.hok l _ hH
  exact ⟨z, its, n, r, r.length, e⟩

theorem notLongL {n : Nat} (h : n ≤ sizeLine) : Builtin.List.listTooLong n = false := by
  unfold Builtin.List.listTooLong
  exact decide_eq_false (by omega)
end

section
variable {X : Cx}

noncomputable def rAppend : V → List V → Hp → VK → Prop := fun x vs H Q => ∃ l xs y, x = .ref l ∧ vs = [y] ∧ H l = some (.lst xs) ∧ xs.length < sizeLine ∧ Q .non (upd H l (.lst (xs ++ [y])))
theorem mt_append : MtM X "list.append" rAppend := by
  intro pins s σ H x vs v us Q I rx rv h
  obtain ⟨l, xs, y, rfl, rfl, hH, hz, q⟩ := h
  cases rx
  obtain ⟨u, rfl, ru⟩ := rv.one
  obtain ⟨z, its, n, r, hl, e⟩ := I.lstM hH
  refine call_meets F.slot_list_append ⟨_, e, rfl⟩ F.entry_list_append (F.args_list_append_2 _ _) (PySem.list_append l its.toArray n u (by rw [List.size_toArray]; omega)) ⟨e, ?_⟩
  refine ⟨.non, _, I.lset (its' := its ++ [u]) hH e (by simp) (r.append (.cons ru .nil)) ?_, rfl, q⟩
  rw [List.length_append, List.length_singleton]
  omega

noncomputable def rExtend : V → List V → Hp → VK → Prop := fun x vs H Q => ∃ l b xs zs, x = .ref l ∧ vs = [.ref b] ∧ H l = some (.lst xs) ∧ H b = some (.lst zs) ∧ xs.length + zs.length ≤ sizeLine ∧ Q .non (upd H l (.lst (xs ++ zs)))
theorem mt_extend : MtM X "list.extend" rExtend := by
  intro pins s σ H x vs v us Q I rx rv h
  obtain ⟨l, b, xs, zs, rfl, rfl, hH, hB, hz, q⟩ := h
  cases rx
  obtain ⟨u, rfl, ru⟩ := rv.one
  cases ru
  obtain ⟨z, its, n, r, hl, e⟩ := I.lstM hH
  obtain ⟨z2, its2, n2, r2, hl2, e2⟩ := I.lstM hB
  have hsz : its.toArray.size + its2.toArray.size ≤ sizeLine := by rw [List.size_toArray, List.size_toArray]; omega
  have hlong : ¬ (!its.toArray.isEmpty && Builtin.List.listTooLong (its.toArray.size + its2.toArray.size)) = true := by
    rw [notLongL hsz, Bool.and_false]
    exact Bool.false_ne_true
  refine call_meets F.slot_list_extend ⟨_, e, rfl⟩ F.entry_list_extend (F.args_list_extend_2 _ _)
    (AutoSeq1.list_extend_list_list_0 l its.toArray n b its2.toArray n2 hlong (by rw [List.size_toArray]; omega) (by omega)) ⟨e, e2, ?_⟩
  refine ⟨.non, _, I.lset (its' := its ++ its2) hH e (by simp) (r.append r2) ?_, rfl, q⟩
  rw [List.length_append]
  omega

noncomputable def rCat : R2 := fun x y H Q => ∃ l b xs zs, x = .ref l ∧ y = .ref b ∧ H l = some (.lst xs) ∧ H b = some (.lst zs) ∧ xs.length + zs.length ≤ sizeLine ∧ ∀ p, H p = none → Q (.ref p) (upd H p (.lst (xs ++ zs)))
theorem op_cat : OpR X (binaryOp .Add) rCat := by
  intro pins s σ H x y v u Q I rx ry h
  obtain ⟨l, b, xs, zs, rfl, rfl, hH, hB, hz, q⟩ := h
  cases rx
  cases ry
  obtain ⟨z, its, n, r, hl, e⟩ := I.lstM hH
  obtain ⟨z2, its2, n2, r2, hl2, e2⟩ := I.lstM hB
  refine PySem.P.add_list e e2 ?_ (by rw [List.size_toArray, List.size_toArray]; omega)
  have ea : its.toArray ++ its2.toArray = (its ++ its2).toArray := by simp
  rw [ea]
  exact ⟨.ref _, _, I.lnew (t' := s.toks) (r.append r2) (by rw [List.length_append]; omega), rfl, q _ I.fresh⟩
end

section
variable {prog : Program} {w : World} {A : Around} {E : Value → Shared → Prop} {s : Shared}
set_option maxRecDepth 100000 in
end

section
variable {X : Cx}
end
end L2

namespace L2
open PySem PySem.Spec PyProof.Rows

section
variable {prog : Program} {w : World} {A : Around} {E : Value → Shared → Prop} {s : Shared} {l : Addr} {its : List Value} {ns : List Int} {Q : Value → Shared → Prop}
end

section
variable {X : Cx}
end

section
variable {X : Cx}
noncomputable def rIndex (K : PySem.W.Frag) : V → List V → Hp → VK → Prop := fun x xs H Q => ∃ (a : Addr) (ys : List V) (y : V) (j : Nat) (z : V), x = V.ref a ∧ xs = [y] ∧ SqL K H a ys ∧ flatV y = true ∧ ys.all flatV = true ∧ ys[j]? = some z ∧ eqV z y = true ∧
  (∀ (m : Nat) (z' : V), m < j → ys[m]? = some z' → eqV z' y = false) ∧ Q (.int (j : Nat)) H
theorem flat_at {ys : List V} (f : ys.all flatV = true) {j : Nat} {z : V} (h : ys[j]? = some z) : flatV z = true := List.all_eq_true.mp f z (List.mem_of_getElem? h)
theorem mt_index : MtR X "list.index" (rIndex X.K) := by
  intro pins s σ H x xs v us Q I rx rxs h
  obtain ⟨a, ys, y, j, z, rfl, rfl, hs, fy, fys, hz, hzj, hno, q⟩ := h
  cases rx
  cases rxs with
  | cons ry rt =>
    rename_i uy ut
    cases rt
    obtain ⟨its, rv, ⟨⟨cls, dd, data, sl⟩, n, ho, hc, hdn, hd⟩, hlen⟩ := I.list hs
    simp only at hc hd
    subst hc hd
    obtain ⟨u, hu, ru⟩ := rv.get hz
    obtain ⟨hjl, hje⟩ := List.getElem?_eq_some_iff.mp hu
    have hvl := rv.length
    have hj : j < its.toArray.size := by simpa using hjl
    have hsl := sizeLine_eq
    refine call_meets PySem.F.slot_list_index ⟨_, ho, rfl⟩ PySem.F.entry_list_index (PySem.F.args_list_index_2 _ _)
      (SeqAt.list_indexAt a its.toArray n dd sl uy (eqU y) j hj (by omega) ?_ ?_) ⟨ho, fun u' hu' => mem_eqAt ry fy rv fys u' (by simpa using hu'), ?_⟩
    · have e1 : its.toArray[j] = u := by simpa using hje
      rw [e1, eqU_of ru (flat_at fys hz)]
      exact hzj
    · intro m hm hmj
      have hml : m < its.length := by simpa using hm
      have hmy : m < ys.length := by omega
      have hy' : ys[m]? = some ys[m] := List.getElem?_eq_getElem hmy
      obtain ⟨u2, hu2, ru2⟩ := rv.get hy'
      obtain ⟨_, hme⟩ := List.getElem?_eq_some_iff.mp hu2
      have e1 : its.toArray[m] = u2 := by simpa using hme
      rw [e1, eqU_of ru2 (flat_at fys hy')]
      exact hno m _ hmj hy'
    · exact ⟨.int (j : Nat), H, I.tok _, ⟨_, rfl⟩, q⟩
end

section
variable {X : Cx}
end

section
variable {X : Cx}
end

mutual
inductive Dp (K : PySem.W.Frag) (H : Hp) : V → PyData → Prop
  | non : Dp K H .non .none
  | bl (b : Bool) : Dp K H (.bl b) (.bool b)
  | int (i : Int) : Dp K H (.int i) (.int i)
  | str (x : Str) : Dp K H (.str x) (.str x)
  | lst {a : Addr} {xs : List V} {ds : List PyData} : SqL K H a xs → DpAll K H xs ds → Dp K H (.ref a) (.list ds)
  | tup {a : Addr} {xs : List V} {ds : List PyData} : SqT K H a xs → DpAll K H xs ds → Dp K H (.ref a) (.tuple ds)
inductive DpAll (K : PySem.W.Frag) (H : Hp) : List V → List PyData → Prop
  | nil : DpAll K H [] []
  | cons {v : V} {vs : List V} {d : PyData} {ds : List PyData} : Dp K H v d → DpAll K H vs ds → DpAll K H (v :: vs) (d :: ds)
end
section
variable {X : Cx} {pins : List (Addr × Obj)} {σ : St} {H : Hp} {s : Shared}
mutual
theorem Dp.reads (I : Inv X pins σ H s) : ∀ (d : PyData) (v : V) (u : Value), Dp X.K H v d → RelV v u → ∃ as, Reads s.heap u d as
  | .none, _, _, h, r => by
    cases h
    cases r
    exact ⟨_, Reads.none⟩
  | .bool b, _, _, h, r => by
    cases h
    cases r
    exact ⟨_, Reads.bool b⟩
  | .int i, _, _, h, r => by
    cases h
    obtain ⟨t, rfl⟩ := r
    exact ⟨_, Reads.int i t⟩
  | .str x, _, _, h, r => by
    cases h
    obtain ⟨t, rfl⟩ := r
    exact ⟨_, Reads.str x t⟩
  | .list ds, _, _, h, r => by
    cases h with
    | lst hs ha =>
      cases r
      obtain ⟨its, rv, ⟨o, n, ho, hc, _, hd⟩, _⟩ := I.list hs
      obtain ⟨as, hr⟩ := Dp.readsAll I ds _ its ha rv
      exact ⟨_, Reads.list ho hc hd hr⟩
  | .tuple ds, _, _, h, r => by
    cases h with
    | tup hs ha =>
      cases r
      obtain ⟨its, rv, ⟨o, ho, hc, n, hd⟩, _⟩ := I.tuple hs
      obtain ⟨as, hr⟩ := Dp.readsAll I ds _ its ha rv
      exact ⟨_, Reads.tuple ho hc hd hr⟩
  | .dict _, _, _, h, _ => by cases h
theorem Dp.readsAll (I : Inv X pins σ H s) : ∀ (ds : List PyData) (vs : List V) (us : List Value), DpAll X.K H vs ds → Vals vs us → ∃ as, ReadsAll s.heap us ds as
  | [], _, _, h, r => by
    cases h
    cases r
    exact ⟨_, ReadsAll.nil⟩
  | d :: ds, _, _, h, r => by
    cases h with
    | cons h1 h2 =>
      cases r with
      | cons r1 r2 =>
        obtain ⟨as, q1⟩ := Dp.reads I d _ _ h1 r1
        obtain ⟨bs, q2⟩ := Dp.readsAll I ds _ _ h2 r2
        exact ⟨_, ReadsAll.cons q1 q2⟩
end
end
section
variable {X : Cx}
end
end L2

namespace L2
open PySem PySem.Spec PyProof.Rows
noncomputable abbrev CellAt (h : Heap) (c : Addr) (v : Option Value) : Prop := h.IsCell c v
noncomputable def relS (scope sc : Scope) : Scope :=
  { scope with names := scope.names.map fun (n, k) => if (k == .free && sc.kind == .function && sc.names.lookup n == some .cell) then (n, .cell) else (n, k) }

noncomputable def cloFrom (cells : List (Str × Addr)) : List (Str × NameKind) → List (Str × Addr) → List (Str × Addr)
  | [], acc => acc
  | (n, k) :: r, acc => if k == .free then cloFrom cells r ((n, (cells.lookup n).getD 0) :: acc) else cloFrom cells r acc

theorem closure_loop (env : Env) (f : Str × NameKind → List (Str × Addr) → Sem (ForInStep (List (Str × Addr))))
    (hf : ∀ n k c, f (n, k) c = if k == .free then (do let a ← cellOf env n; pure (.yield ((n, a) :: c))) else pure (.yield c)) :
    ∀ (names : List (Str × NameKind)) (acc : List (Str × Addr)), (∀ y ∈ names, y.2 = .free → ∃ c, env.cells.lookup y.1 = some c) → forIn names acc f = pure (cloFrom env.cells names acc)
  | [], acc, _ => by rw [List.forIn_nil]; rfl
  | (n, k) :: r, acc, h => by
    rw [List.forIn_cons, hf]
    have ih := fun acc => closure_loop env f hf r acc fun y hy => h y (List.mem_cons_of_mem _ hy)
    unfold cloFrom
    by_cases hk : (k == NameKind.free) = true
    · rw [if_pos hk, if_pos hk]
      obtain ⟨c, hc⟩ := h (n, k) List.mem_cons_self (by simpa using hk)
      have e : cellOf env n = pure c := by unfold cellOf; rw [hc]
      rw [e]
      have e2 : (env.cells.lookup n).getD 0 = c := by rw [hc]; rfl
      rw [e2]
      exact ih _
    · rw [if_neg hk, if_neg hk]
      exact ih _
theorem closure_ok {scope : Scope} {env : Env} (h : ∀ y ∈ scope.names, y.2 = .free → ∃ c, env.cells.lookup y.1 = some c) : closureFor scope env = pure (cloFrom env.cells scope.names []) := by
  simp only [closureFor]
  rw [closure_loop env _ (fun n k c => rfl) scope.names [] h]
  rfl

theorem mem_lookup {α : Type} : ∀ {l : List (Str × α)} {n : Str} {c : α}, (n, c) ∈ l → ∃ c', l.lookup n = some c'
  | (k, v) :: r, n, c, h => by
    rw [List.lookup_cons]
    cases hb : n == k with
    | true => exact ⟨_, rfl⟩
    | false =>
      rcases List.mem_cons.mp h with e | h
      · cases e; simp at hb
      · exact mem_lookup h

theorem cloFrom_mem {cells : List (Str × Addr)} : ∀ {names : List (Str × NameKind)} {acc : List (Str × Addr)} {n : Str} {c : Addr}, (n, c) ∈ cloFrom cells names acc → (n, c) ∈ acc ∨ ((n, .free) ∈ names ∧ c = (cells.lookup n).getD 0)
  | [], _, _, _, h => .inl h
  | (m, k) :: r, acc, n, c, h => by
    unfold cloFrom at h
    split at h
    · rename_i hk
      have hk : k = .free := by simpa using hk
      rcases cloFrom_mem h with h | ⟨h1, h2⟩
      · rcases List.mem_cons.mp h with e | h
        · cases e; exact .inr ⟨hk ▸ List.mem_cons_self, rfl⟩
        · exact .inl h
      · exact .inr ⟨List.mem_cons_of_mem _ h1, h2⟩
    · rcases cloFrom_mem h with h | ⟨h1, h2⟩
      · exact .inl h
      · exact .inr ⟨List.mem_cons_of_mem _ h1, h2⟩
theorem cloFrom_acc {cells : List (Str × Addr)} : ∀ {names : List (Str × NameKind)} {acc : List (Str × Addr)} {p : Str × Addr}, p ∈ acc → p ∈ cloFrom cells names acc
  | [], _, _, h => h
  | (m, k) :: r, acc, p, h => by
    unfold cloFrom
    split
    · exact cloFrom_acc (List.mem_cons_of_mem _ h)
    · exact cloFrom_acc h
theorem cloFrom_has {cells : List (Str × Addr)} : ∀ {names : List (Str × NameKind)} {acc : List (Str × Addr)} {n : Str}, (n, .free) ∈ names → (n, (cells.lookup n).getD 0) ∈ cloFrom cells names acc
  | (m, k) :: r, acc, n, h => by
    unfold cloFrom
    rcases List.mem_cons.mp h with e | h
    · cases e
      exact cloFrom_acc List.mem_cons_self
    · split
      · exact cloFrom_has h
      · exact cloFrom_has h

theorem cells_mem : ∀ {names : List (Str × NameKind)} {h : Heap} {acc : List (Str × Addr)} {x : Str} {c : Addr}, (x, c) ∈ cellsFrom h.objs.size names acc →
    (x, c) ∈ acc ∨ ((x, .cell) ∈ names ∧ h.objs.size ≤ c ∧ CellAt (pushCells h names) c none)
  | [], _, _, _, _, h => .inl h
  | (n, k) :: r, h, acc, x, c, hm => by
    unfold cellsFrom at hm
    unfold pushCells
    split at hm
    · rename_i hk
      rw [if_pos hk]
      have hk : k = .cell := by simpa using hk
      rw [← Heap.size_push h { cls := .type "cell", data := .cell none }] at hm
      rcases cells_mem hm with hm | ⟨h1, h2, h3⟩
      · rcases List.mem_cons.mp hm with e | hm
        · cases e
          exact .inr ⟨hk ▸ List.mem_cons_self, Nat.le_refl _, _, pushCells_keeps r _ _ _ (Heap.get?_push_size _ rfl), rfl⟩
        · exact .inl hm
      · rw [Heap.size_push] at h2
        exact .inr ⟨List.mem_cons_of_mem _ h1, Nat.le_of_succ_le h2, h3⟩
    · rename_i hk
      rw [if_neg hk]
      rcases cells_mem hm with hm | ⟨h1, h2, h3⟩
      · exact .inl hm
      · exact .inr ⟨List.mem_cons_of_mem _ h1, h2, h3⟩
theorem cells_acc : ∀ {names : List (Str × NameKind)} {n : Nat} {acc : List (Str × Addr)} {p : Str × Addr}, p ∈ acc → p ∈ cellsFrom n names acc
  | [], _, _, _, h => h
  | (m, k) :: r, n, acc, p, h => by
    unfold cellsFrom
    split
    · exact cells_acc (List.mem_cons_of_mem _ h)
    · exact cells_acc h
theorem cells_has : ∀ {names : List (Str × NameKind)} {n : Nat} {acc : List (Str × Addr)} {x : Str}, (x, .cell) ∈ names → ∃ c, (x, c) ∈ cellsFrom n names acc
  | (m, k) :: r, n, acc, x, h => by
    unfold cellsFrom
    rcases List.mem_cons.mp h with e | h
    · cases e
      exact ⟨n, cells_acc List.mem_cons_self⟩
    · split
      · exact cells_has h
      · exact cells_has h
theorem cells_inj : ∀ {names : List (Str × NameKind)} {h : Heap} {acc : List (Str × Addr)} {x y : Str} {c : Addr}, (∀ p ∈ acc, p.2 < h.objs.size) → (∀ x y c, (x, c) ∈ acc → (y, c) ∈ acc → x = y) →
    (x, c) ∈ cellsFrom h.objs.size names acc → (y, c) ∈ cellsFrom h.objs.size names acc → x = y
  | [], _, _, _, _, _, _, hi, h1, h2 => hi _ _ _ h1 h2
  | (n, k) :: r, h, acc, x, y, c, hl, hi, h1, h2 => by
    unfold cellsFrom at h1 h2
    split at h1
    · rename_i hk
      rw [if_pos hk] at h2
      rw [← Heap.size_push h { cls := .type "cell", data := .cell none }] at h1 h2
      refine cells_inj (h := h.push _) (fun p hp => ?_) (fun x y c a b => ?_) h1 h2
      · rw [Heap.size_push]
        rcases List.mem_cons.mp hp with rfl | hp
        · exact Nat.lt_succ_self _
        · exact Nat.lt_succ_of_lt (hl p hp)
      · rcases List.mem_cons.mp a with e | a <;> rcases List.mem_cons.mp b with e' | b
        · cases e; cases e'; rfl
        · cases e; exact absurd (hl _ b) (Nat.lt_irrefl _)
        · cases e'; exact absurd (hl _ a) (Nat.lt_irrefl _)
        · exact hi _ _ _ a b
    · rename_i hk
      rw [if_neg hk] at h2
      exact cells_inj hl hi h1 h2

theorem newEnv_comp {M : Model} {A : Around} {E : Value → Shared → Prop} {s : Shared} {scope : Scope} {globals : Addr} {closure : List (Str × Addr)} {qual : Str} {func : Option Addr} {code : Value} {around : Env} {builtins : Addr} {Q : Env → Shared → Prop}
    (h : Q (newEnv scope s.heap.objs.size globals (cellsFrom (s.heap.objs.size + 1) scope.names closure) qual func code (some around) builtins)
      { s with heap := pushCells (s.heap.push { cls := .type "dict", data := .dict #[] }) scope.names }) :
    wpAny M A (newFunctionEnv scope globals closure [] qual func code (some around) builtins) Q E s := by
  simp only [newFunctionEnv, Option.isSome_some, if_true]
  refine wpAny_bind (wpAny_alloc ?_)
  refine wpAny_bind (wpAny_layCells _ (fun n k c => rfl) scope.names closure _ _ ?_)
  rw [show ({ s with heap := s.heap.push { cls := .type "dict", data := .dict #[] } } : Shared).heap.objs.size = s.heap.objs.size + 1 from Heap.size_push ..]
  rw [List.forIn_nil]
  exact wpAny_bind (wpAny_pure (wpAny_pure h))

theorem lookup_relS {sc : Scope} : ∀ {names : List (Str × NameKind)} {x : Str} {k : NameKind},
    (names.map fun (n, k) => if (k == NameKind.free && sc.kind == .function && sc.names.lookup n == some .cell) then (n, NameKind.cell) else (n, k)).lookup x = some k →
    ∃ k', names.lookup x = some k' ∧ (k = k' ∨ (k' = .free ∧ k = .cell))
  | [], _, _, h => by simp at h
  | (n, k₀) :: r, x, k, h => by
    have ih := @lookup_relS sc r x k
    have h' : List.lookup x ((if (k₀ == NameKind.free && sc.kind == .function && sc.names.lookup n == some .cell) = true then (n, NameKind.cell) else (n, k₀)) :: (r.map _)) = some k := h
    cases hx : x == n with
    | true =>
      simp only [List.lookup_cons, hx]
      by_cases hc : (k₀ == NameKind.free && sc.kind == .function && sc.names.lookup n == some .cell) = true
      · rw [if_pos hc] at h'
        simp only [List.lookup_cons, hx] at h'
        cases h'
        simp only [Bool.and_eq_true, beq_iff_eq] at hc
        exact ⟨k₀, rfl, .inr ⟨hc.1.1, rfl⟩⟩
      · rw [if_neg hc] at h'
        simp only [List.lookup_cons, hx] at h'
        cases h'
        exact ⟨_, rfl, .inl rfl⟩
    | false =>
      simp only [List.lookup_cons, hx]
      by_cases hc : (k₀ == NameKind.free && sc.kind == .function && sc.names.lookup n == some .cell) = true
      · rw [if_pos hc] at h'
        simp only [List.lookup_cons, hx] at h'
        exact ih h'
      · rw [if_neg hc] at h'
        simp only [List.lookup_cons, hx] at h'
        exact ih h'
structure BlkOk (N : List Str) (sc scope : Scope) (own : List (Str × Nat)) : Prop where
  kind : scope.kind = .function
  uniq : ∀ y ∈ scope.names, scope.names.lookup y.1 = some y.2
  ix : ∀ p ∈ own, N[p.2]? = some p.1
  free : ∀ y ∈ scope.names, y.2 = .free → sc.names.lookup y.1 = some .cell ∨ sc.names.lookup y.1 = some .free
  own : ∀ y ∈ scope.names, y.2 = .local ∨ y.2 = .cell → y.1 ∈ own.map (·.1) ∨ y.1 ∉ N
noncomputable def wipe (σ : St) : List Nat → St
  | [] => σ
  | v :: vs => (wipe σ vs).set v none
theorem wipe_length (σ : St) : ∀ vs : List Nat, (wipe σ vs).length = σ.length
  | [] => rfl
  | v :: vs => by unfold wipe; rw [List.length_set, wipe_length σ vs]
theorem wipe_some {σ : St} {i : Nat} {x : V} : ∀ {vs : List Nat}, (wipe σ vs)[i]? = some (some x) → σ[i]? = some (some x) ∧ i ∉ vs
  | [], h => ⟨h, by simp⟩
  | v :: vs, h => by
    unfold wipe at h
    by_cases hi : v = i
    · subst hi
      by_cases hv : v < (wipe σ vs).length
      · rw [List.getElem?_set_self hv] at h; cases h
      · rw [List.getElem?_eq_none (by simpa using hv)] at h; cases h
    · rw [List.getElem?_set_ne hi] at h
      obtain ⟨h1, h2⟩ := wipe_some h
      exact ⟨h1, by simp only [List.mem_cons, not_or]; exact ⟨fun e => hi e.symm, h2⟩⟩

noncomputable abbrev Cx.blk (X : Cx) (s : Shared) (H : Hp) (scope : Scope) (cenv : Env) (fp : List Addr) : Cx := { X with s_0 := s, H_0 := H, env := cenv, outer := X.stack, ex := fp, fn := fun x => scope.names.lookup x == some .cell, pn := [], xe := fun _ _ => False }
section
variable {X : Cx} {pins : List (Addr × Obj)} {σ : St} {H : Hp} {s : Shared}
theorem block_start {scope : Scope} {own : List (Str × Nat)} {fp : List Addr} (I : Inv X pins σ H s) (ok : BlkOk X.N X.env.scope scope own) (hN : X.N.Nodup) (hfp : ∀ b ∈ fp, FpOk X pins H b ∧ b < s.heap.objs.size) :
    Inv (X.blk s H scope (compEnvC scope (cellsFrom (s.heap.objs.size + 1) scope.names (cloFrom X.env.cells scope.names [])) s.heap.objs.size X.env) fp) [] (wipe σ (own.map (·.2))) H { s with heap := pushCells (s.heap.push { cls := .type "dict", data := .dict #[] }) scope.names } := by
  have hfree : ∀ y ∈ scope.names, y.2 = .free → ∃ c, X.env.cells.lookup y.1 = some c := fun y hy e => by
    rcases ok.free y hy e with k | k
    · exact I.ok.has _ (.inl k)
    · exact I.ok.has _ (.inr k)
  generalize hcenv : compEnvC scope (cellsFrom (s.heap.objs.size + 1) scope.names (cloFrom X.env.cells scope.names [])) s.heap.objs.size X.env = cenv
  have kp : ∀ b o, s.heap.get? b = some o → (pushCells (s.heap.push { cls := .type "dict", data := .dict #[] }) scope.names).get? b = some o := fun b o e => pushCells_keeps _ _ _ _ (Heap.get?_push_of_some _ e)
  have hL : cenv.locals = s.heap.objs.size := by rw [← hcenv]; rfl
  have hcl : cenv.cells = cellsFrom (s.heap.objs.size + 1) scope.names (cloFrom X.env.cells scope.names []) := by rw [← hcenv]; rfl
  have hsc : cenv.scope = relS scope X.env.scope := by rw [← hcenv]; rfl
  rw [← Heap.size_push s.heap { cls := .type "dict", data := .dict #[] }] at hcl
  have cm : ∀ {y c}, (y, c) ∈ cloFrom X.env.cells scope.names [] → X.env.cells.lookup y = some c ∧ c < s.heap.objs.size := fun {y c} hm => by
    rcases cloFrom_mem hm with hm | ⟨h1, rfl⟩
    · cases hm
    · obtain ⟨c, hc⟩ := hfree _ h1 rfl
      rw [hc]
      obtain ⟨w, z⟩ := I.cell _ _ hc
      exact ⟨rfl, z.lt⟩
  have mem : ∀ {y c}, cenv.cells.lookup y = some c → (X.env.cells.lookup y = some c ∧ c < s.heap.objs.size) ∨ (s.heap.objs.size + 1 ≤ c ∧ CellAt (pushCells (s.heap.push { cls := .type "dict", data := .dict #[] }) scope.names) c none) := fun {y c} e => by
    rw [hcl] at e
    rcases cells_mem (PySem.mem_of_lookup e) with hm | ⟨_, h2, h3⟩
    · exact .inl (cm hm)
    · rw [Heap.size_push] at h2; exact .inr ⟨h2, h3⟩
  have look : ∀ {y}, scope.names.lookup y = some .free → ∃ c, cenv.cells.lookup y = some c ∧ X.env.cells.lookup y = some c := fun {y} hl => by
    have hy : (y, NameKind.free) ∈ scope.names := PySem.mem_of_lookup hl
    obtain ⟨c', e'⟩ := mem_lookup (cells_acc (names := scope.names) (n := (s.heap.push { cls := .type "dict", data := .dict #[] }).objs.size) (cloFrom_has (cells := X.env.cells) (acc := []) hy))
    rw [← hcl] at e'
    refine ⟨c', e', ?_⟩
    rw [hcl] at e'
    rcases cells_mem (PySem.mem_of_lookup e') with hm | ⟨h1, _, _⟩
    · exact (cm hm).1
    · have := ok.uniq _ h1
      rw [hl] at this; cases this
  have okB : (X.blk s H scope cenv fp).Ok := by
    refine ⟨I.ok.mod, by show cenv.scope.kind = _; rw [hsc]; exact ok.kind, by show cenv.globals = _; rw [← hcenv]; exact I.ok.glob, by show cenv.builtins = _; rw [← hcenv]; exact I.ok.blt, by show s.heap.objs.size ≤ cenv.locals; rw [hL]; exact Nat.le_refl _,
      fun y z c e1 e2 => ?_, fun y hy => ?_, fun y c z e => ?_, I.ok.hd, I.ok.frames, .inl rfl, fun b hb => ⟨?_, fun y c e z => ?_⟩, I.bs, Nat.le_trans I.ok.bsz I.sz, fun b o e hb => ?_, fun b hb z => ?_, I.stack, I.stkFree⟩
    · have e1 : cenv.cells.lookup y = some c := e1
      have e2 : cenv.cells.lookup z = some c := e2
      rw [hcl] at e1 e2
      refine cells_inj (fun p hp => ?_) (fun y z c a b => I.ok.inj y z c (cm a).1 (cm b).1) (PySem.mem_of_lookup e1) (PySem.mem_of_lookup e2)
      rw [Heap.size_push]
      exact Nat.lt_succ_of_lt (cm (y := p.1) (c := p.2) hp).2
    · show ∃ c, cenv.cells.lookup y = some c
      have key : ∀ k, cenv.kindOf y = some k → (k = .cell ∨ k = .free) → ∃ c, cenv.cells.lookup y = some c := fun k hk hk' => by
        unfold Env.kindOf at hk
        rw [hsc] at hk
        obtain ⟨k', e, r⟩ := lookup_relS hk
        have : k' = .cell ∨ k' = .free := by
          rcases r with rfl | ⟨rfl, _⟩
          · exact hk'
          · exact .inr rfl
        rcases this with rfl | rfl
        · obtain ⟨c, hm⟩ := cells_has (n := (s.heap.push { cls := .type "dict", data := .dict #[] }).objs.size) (acc := cloFrom X.env.cells scope.names []) (PySem.mem_of_lookup e)
          obtain ⟨c', e'⟩ := mem_lookup hm
          exact ⟨c', by rw [hcl]; exact e'⟩
        · obtain ⟨c, h1, _⟩ := look e
          exact ⟨c, h1⟩
      rcases hy with hy | hy
      · exact key _ hy (.inl rfl)
      · exact key _ hy (.inr rfl)
    · have z : (scope.names.lookup y == some NameKind.cell) = true := z
      have z : scope.names.lookup y = some .cell := by simpa using z
      have e : cenv.cells.lookup y = some c := e
      rw [hcl] at e
      rcases cells_mem (PySem.mem_of_lookup e) with hm | ⟨_, h2, _⟩
      · rcases cloFrom_mem hm with hm | ⟨h1, _⟩
        · cases hm
        · have q := ok.uniq _ h1
          rw [z] at q; cases q
      · rw [Heap.size_push] at h2
        exact Nat.le_of_succ_le h2
    · show b ≠ cenv.locals
      rw [hL]; exact Nat.ne_of_lt (hfp b hb).2
    · have e : cenv.cells.lookup y = some c := e
      rcases mem e with ⟨h1, _⟩ | ⟨h1, _⟩
      · exact (hfp b hb).1.2.2.2.2.1 y c h1 z
      · have h2 : s.heap.objs.size + 1 ≤ b := by rw [← z]; exact h1
        exact absurd (Nat.lt_of_lt_of_le (hfp b hb).2 (Nat.le_of_succ_le h2)) (Nat.lt_irrefl _)
    · rcases (hfp b hb).1.2.2.2.1 with z | z
      · exact I.ok.noex b o e z
      · exact absurd (Nat.lt_of_lt_of_le (Heap.lt_size e) (Nat.le_trans I.ok.bsz z)) (Nat.lt_irrefl _)
    · rcases List.mem_cons.mp (I.stkSub b z) with z | z
      · exact (hfp b hb).1.2.1 z
      · exact (hfp b hb).1.2.2.1 z
  refine ⟨okB, rfl, I.bare, Un.kept kp, ⟨fun _ => none, ?_, fun i y av e1 e2 e3 => ?_⟩, fun y c e => ?_, ?_, fun y c e => ?_, fun p hp => ?_, I.hok.kept kp, by rw [wipe_length]; exact I.len⟩
  · show Heap.Ns _ cenv.locals _
    rw [hL]
    exact Heap.Ns.keeps (Heap.Ns.new ..) fun b o e => pushCells_keeps _ _ _ _ e
  · obtain ⟨e2, hne⟩ := wipe_some e2
    have hfr : scope.names.lookup y = some .free ∧ (cenv.kindOf y = some .cell ∨ cenv.kindOf y = some .free) := by
      have key : ∀ k, cenv.scope.names.lookup y = some k → k = .local ∨ k = .cell ∨ k = .free → scope.names.lookup y = some .free ∧ (cenv.kindOf y = some .cell ∨ cenv.kindOf y = some .free) := fun k hk hk' => by
        have hk0 := hk
        rw [hsc] at hk
        obtain ⟨k', e, r⟩ := lookup_relS hk
        have no : ¬ (k' = .local ∨ k' = .cell) := fun hh => by
          rcases ok.own _ (PySem.mem_of_lookup e) hh with e' | e'
          · obtain ⟨p, hp, hpy⟩ := List.mem_map.mp e'
            have e3 := ok.ix p hp
            have : p.1 = y := hpy
            rw [this] at e3
            exact hne (List.mem_map.mpr ⟨p, hp, nodup_ix hN e3 e1⟩)
          · exact e' (List.mem_of_getElem? e1)
        rcases r with rfl | ⟨rfl, rfl⟩
        · rcases hk' with rfl | rfl | rfl
          · exact absurd (.inl rfl) no
          · exact absurd (.inr rfl) no
          · exact ⟨e, .inr hk0⟩
        · exact ⟨e, .inl hk0⟩
      have e3 : Vis cenv.scope y := e3
      rcases e3 with e3 | e3 | e3
      · exact key _ e3 (.inl rfl)
      · exact key _ e3 (.inr (.inl rfl))
      · exact key _ e3 (.inr (.inr rfl))
    obtain ⟨m, hn, hl⟩ := I.loc
    have hvis : Vis X.env.scope y := (ok.free _ (PySem.mem_of_lookup hfr.1) rfl).elim (fun k => .inr (.inl k)) (fun k => .inr (.inr k))
    obtain ⟨w, r, q⟩ := hl i y av e1 e2 hvis
    refine ⟨w, r, .inr ⟨hfr.2, ?_⟩⟩
    obtain ⟨c, h1, h2⟩ := look hfr.1
    rcases q with ⟨k, _⟩ | ⟨_, c', e', z⟩
    · have k : X.env.scope.names.lookup y = some .local := k
      rcases ok.free _ (PySem.mem_of_lookup hfr.1) rfl with k' | k' <;> rw [show X.env.scope.names.lookup y = _ from k'] at k <;> cases k
    · rw [h2] at e'; cases e'
      exact ⟨c, h1, z.keeps kp⟩
  · have e : cenv.cells.lookup y = some c := e
    rcases mem e with ⟨h1, _⟩ | ⟨_, z⟩
    · obtain ⟨w, z⟩ := I.cell y c h1
      exact ⟨w, z.keeps kp⟩
    · exact ⟨_, z⟩
  · show H cenv.locals = none
    rw [hL]; exact I.hok.fresh (Nat.le_refl _)
  · have e : cenv.cells.lookup y = some c := e
    rcases mem e with ⟨h1, _⟩ | ⟨h1, _⟩
    · exact I.freeC y c h1
    · exact I.hok.fresh (Nat.le_of_succ_le h1)
  · exact absurd (show p ∈ ([] : List (Addr × Obj)) ++ [] from hp) (by simp)

theorem app_ok {E : Value → Shared → Prop} {D : Addr} {xs : List V} {y : V} {v : Value} {Q : Value → Shared → Prop} (I : Inv X pins σ H s) (hD : H D = some (.lst xs)) (hz : xs.length < sizeLine) (r : RelV y v)
    (h : ∀ s', Inv X pins σ (upd H D (.lst (xs ++ [y]))) s' → Q .none s') : wpAny (model X.prog X.w) X.A (call (.builtin "list.append") [.ref D, v]) Q E s := by
  obtain ⟨hz', its, n, ri, e⟩ := I.hok D _ hD
  have hl := ri.length
  refine append_at (hsz := by rw [List.size_toArray]; omega) e fun h' sb ho' => ?_
  refine h { s with heap := h' } (I.write (t' := s.toks) (by rw [hD]; trivial) (.inl rfl) (fun b u hb q => (sb.2 b hb).trans q) ⟨_, ho'⟩ ⟨by rw [List.length_append]; exact hz, its ++ [v], n + 1, ri.append (.cons r .nil), ?_⟩)
  rw [ho']
  simp

noncomputable def PTs (X : Cx) (ifs : List Expr) (t : TT) : Prop :=
  ∀ (pins : List (Addr × Obj)) (s : Shared) (σ : St) (H : Hp) (Q : Bool → Hp → Prop), Inv X pins σ H s → t σ H Q →
    wpAny (model X.prog X.w) X.A (forIn ifs true fun c r => if r = true then do let ok ← isTrue c X.env (eval c X.env); pure (ForInStep.yield ok) else pure (ForInStep.yield r)) (TP X pins σ Q) X.xe s
noncomputable def tYes : TT := fun _ H Q => Q true H
theorem pts_nil : PTs X [] tYes := fun _ _ _ H _ I h => wpAny_tests_nil ⟨H, I, h⟩
end

theorem thnF {α : Type} {t : Sem α} {Q Q' : α → Shared → Prop} {M : Model} {A : Around} {E : Value → Shared → Prop} {s : Shared} (h : wpAny M A t Q (fun _ _ => False) s) (hQ : ∀ a s, Q a s → Q' a s) : wpAny M A t Q' E s := wpAny_mono h hQ fun _ _ z => False.elim z

theorem compLoop_any {prog : Program} {w : World} {A : Around} {R : Result → Shared → Prop} {s : Shared} {elt target iter : Expr} {ifs : List Expr} {scope : Scope} {pos : Pos} {it acc : Value} {env : Env} (I : Nat → Shared → Prop)
    (turn : ∀ n s, I n s → wpAny (model prog w) A (pyNext it) (fun r s₁ => match r with
      | none => R (.ok .next) s₁
      | some v => wpAny (model prog w) A (letOwnedTupleGo target it v) (fun _ s₁' => wpAny (model prog w) A (assign target env v) (fun _ s₂ =>
          wpAny (model prog w) A (forIn ifs true fun c r => if r = true then do let ok ← isTrue c env (eval c env); pure (ForInStep.yield ok) else pure (ForInStep.yield r)) (fun ok s₃ =>
            if ok = true then wpAny (model prog w) A (eval elt env) (fun x s₄ =>
              wpAny (model prog w) A (call (.builtin "list.append") [acc, x]) (fun _ s₅ => ∃ m, m < n ∧ I m s₅) (notedBy (model prog w) A env fun e s' => R (.error e) s') s₄) (notedBy (model prog w) A env fun e s' => R (.error e) s') s₃
            else ∃ m, m < n ∧ I m s₃) (notedBy (model prog w) A env fun e s' => R (.error e) s') s₂) (notedBy (model prog w) A env fun e s' => R (.error e) s') s₁') (notedBy (model prog w) A env fun e s' => R (.error e) s') s₁) (notedBy (model prog w) A env fun e s' => R (.error e) s') s)
    (n : Nat) (h : I n s) :
    codeAny (model prog w) A (.compLoop (.ListComp elt [⟨target, iter, ifs, 0⟩] scope pos) 0 it acc env) R s := by
  refine codeAny_loop rfl I (fun n s hI => ?_) n h
  show wpAny _ A ((compTurn (.ListComp elt [⟨target, iter, ifs, 0⟩] scope pos) 0 it acc env).onRaise (fun x => do noteFrame x env; theTreesLotGoes x)) _ _ s
  refine wpAny_noted ?_
  rw [compTurn_list]
  refine wpAny_bind (wpAny_standAt (wpAny_bind (wpAny_mono (turn n s hI) (fun r s₁ h₁ => ?_) fun _ _ h' => h')))
  cases r with
  | none => exact wpAny_pure h₁
  | some v =>
    refine wpAny_bind (wpAny_mono h₁ (fun _ s₁' h₁' => ?_) fun _ _ h' => h')
    refine wpAny_bind (wpAny_mono h₁' (fun _ s₂ h₂ => wpAny_bind (wpAny_mono h₂ (fun ok s₃ h₃ => ?_) fun _ _ h' => h')) fun _ _ h' => h')
    cases ok with
    | false => exact wpAny_pure ⟨rfl, h₃⟩
    | true =>
      exact wpAny_bind (wpAny_bind (wpAny_mono h₃ (fun x s₄ h₄ => wpAny_bind (wpAny_mono h₄ (fun _ s₅ h₅ => wpAny_pure (wpAny_pure ⟨rfl, h₅⟩)) fun _ _ h' => h')) fun _ _ h' => h'))

section
variable {X : Cx}
noncomputable def tLc (wi : TI) (g : TG) (tt : TT) (te : TE) (vs : List Nat) : TE := fun σ H Q => wi σ H fun J H1 => ∀ D, H1 D = none → ∃ W : Nat → Nat → Hp → Prop, (∃ m, W 0 m (upd H1 D (.lst []))) ∧ ∀ i m H, W i m H →
  (J.stop i H ∧ Q (.ref D) H) ∨ (J.go i H ∧ ∃ Nx : Hp → Prop, (∀ H', Nx H' → ∃ m', m' < m ∧ W (i + 1) m' H') ∧ ∀ x H', J.yld i H x H' → g x (wipe σ vs) H' fun σ2 H2 => wipe σ2 vs = wipe σ vs ∧ tt σ2 H2 fun b H3 =>
    if b = true then te σ2 H3 fun y H4 => ∃ acc, H4 D = some (.lst acc) ∧ acc.length < sizeLine ∧ Nx (upd H4 D (.lst (acc ++ [y]))) else Nx H3)
theorem lc_core {pins : List (Addr × Obj)} {s : Shared} {σ : St} {H : Hp} {Q : VK} {elt tg iter : Expr} {ifs : List Expr} {scope : Scope} {own : List (Str × Nat)} {pos pos' : Pos} {wi : TI} {g : TG} {tt : TT} {te : TE} {use : Option (Value → Sem Unit)} {Qf : Value → Shared → Prop}
    (hc : X.calm = true) (hN : X.N.Nodup) (I : Inv X pins σ H s) (hi : PI X tg iter wi) (ok : BlkOk X.N X.env.scope scope own)
    (hg : ∀ (s : Shared) (H : Hp) (C : Addr) (cl : List (Str × Addr)) (fp : List Addr), PG (X.blk s H scope (compEnvC scope cl C X.env) fp) tg g) (ht : ∀ (s : Shared) (H : Hp) (C : Addr) (cl : List (Str × Addr)) (fp : List Addr), PTs (X.blk s H scope (compEnvC scope cl C X.env) fp) ifs tt)
    (he : ∀ (s : Shared) (H : Hp) (C : Addr) (cl : List (Str × Addr)) (fp : List Addr), PE (X.blk s H scope (compEnvC scope cl C X.env) fp) elt te) (hs : ∀ x, foldedSetIterable iter X.env x = pure x)
    (h : tLc wi g tt te (own.map (·.2)) σ H Q)
    (hRR : ∀ D C s' m H', Inv X pins σ H' s' → Q (.ref D) H' → s'.heap.Ns C m → FpOk X pins H' C → compPost (model X.prog X.w) X.A X.xe use Qf (.ref D) C (.ok .next) s') :
    wpAny (model X.prog X.w) X.A (comprehension (.ListComp elt [⟨tg, iter, ifs, 0⟩] scope pos) scope X.env pos' (newList []) false (eval iter X.env) use) Qf X.xe s := by
  have hfree : ∀ y ∈ scope.names, y.2 = .free → ∃ c, X.env.cells.lookup y.1 = some c := fun y hy e => by
    rcases ok.free y hy e with k | k
    · exact I.ok.has _ (.inl k)
    · exact I.ok.has _ (.inr k)
  refine wpAny_comprehension_free (use := use) rfl hs (closure_ok hfree) ok.kind (fun y hy e => by rw [ok.uniq y hy, e])
    (thn (hi pins s σ H _ I h) fun xv s1 hx => thn hx fun itv s2 h2 => ?_)
  obtain ⟨it, fp, tn, J, H2, e, I2, T, st2, f2, q⟩ := h2
  subst e
  refine wpAny_newObj_type (newEnv_comp ?_) (by show 0 ≤ sizeLine; decide)
  generalize hD : s2.heap.objs.size = D
  have hDn : H2 D = none := I2.hok.fresh (Nat.le_of_eq hD)
  obtain ⟨W, ⟨m0, w0⟩, turn⟩ := q D hDn
  -- the new list
  generalize hs3 : ({ s2 with heap := s2.heap.push { cls := .type "list", data := .seq ([] : List Value).toArray } } : Shared) = s3
  have I3 : Inv X pins σ (upd H2 D (.lst [])) s3 := by
    rw [← hs3]
    refine I2.laid (t' := s2.toks) (fun b o e => Heap.get?_push_of_some _ e) (Nat.le_of_eq hD) ⟨Nat.zero_le _, [], 0, .nil, ?_⟩
    rw [← hD]
    exact Heap.get?_push_size _ rfl
  have h3 : s3.heap = s2.heap.push { cls := .type "list", data := .seq ([] : List Value).toArray } := by rw [← hs3]
  have sz : ∀ b ∈ fp, b < s2.heap.objs.size := fun b hb => by
    obtain ⟨o, e, _⟩ := T.obj _ _ st2 b hb
    exact Heap.lt_size e
  have f3 : ∀ b ∈ fp, FpOk X pins (upd H2 D (.lst [])) b ∧ b < s3.heap.objs.size := fun b hb => by
    have hlt := sz b hb
    refine ⟨⟨?_, (f2 b hb).2⟩, by rw [h3, Heap.size_push]; exact Nat.lt_succ_of_lt hlt⟩
    rw [upd_ne (by rw [← hD]; exact Nat.ne_of_lt hlt)]
    exact (f2 b hb).1
  have st3 : tn 0 s3.heap := T.keep _ _ _ st2 fun b _ o e => by rw [h3]; exact Heap.get?_push_of_some _ e
  have I4 := block_start I3 ok hN f3
  have pg := hg s3 (upd H2 D (.lst [])) s3.heap.objs.size (cellsFrom (s3.heap.objs.size + 1) scope.names (cloFrom X.env.cells scope.names [])) fp
  have pt := ht s3 (upd H2 D (.lst [])) s3.heap.objs.size (cellsFrom (s3.heap.objs.size + 1) scope.names (cloFrom X.env.cells scope.names [])) fp
  have pe := he s3 (upd H2 D (.lst [])) s3.heap.objs.size (cellsFrom (s3.heap.objs.size + 1) scope.names (cloFrom X.env.cells scope.names [])) fp
  show codeAny _ _ (.compStart (.ListComp elt [⟨tg, iter, ifs, 0⟩] scope pos) 0 (.ref it) (.ref D) (compEnvC scope (cellsFrom (s3.heap.objs.size + 1) scope.names (cloFrom X.env.cells scope.names [])) s3.heap.objs.size X.env)) (compPost (model X.prog X.w) X.A X.xe use Qf (.ref D) s3.heap.objs.size) { s3 with heap := pushCells (s3.heap.push { cls := .type "dict", data := .dict #[] }) scope.names }
  have nfp : ∀ b ∈ fp, (upd H2 D (.lst [])) b = none := fun b hb => (f3 b hb).1.1
  generalize hce : compEnvC scope (cellsFrom (s3.heap.objs.size + 1) scope.names (cloFrom X.env.cells scope.names [])) s3.heap.objs.size X.env = ce at I4 pg pt pe ⊢
  have cL : ce.locals = s3.heap.objs.size := by subst hce; rfl
  generalize hH3 : upd H2 D (.lst []) = H3 at I3 I4 pg pt pe w0 nfp f3
  generalize hs4 : ({ s3 with heap := pushCells (s3.heap.push { cls := .type "dict", data := .dict #[] }) scope.names } : Shared) = s4 at I4 ⊢
  have st4 : tn 0 s4.heap := T.keep _ _ _ st3 fun b _ o e => by rw [← hs4]; exact pushCells_keeps _ _ _ _ (Heap.get?_push_of_some _ e)
  have stat : ∀ {σ' : St} {H' : Hp} {s' : Shared}, Inv (X.blk s3 H3 scope ce fp) [] σ' H' s' → (∀ b ∈ fp, H' b = none) → ∀ b ∈ fp, FpOk (X.blk s3 H3 scope ce fp) [] H' b := fun {σ' H' s'} I' hn b hb =>
    ⟨hn b hb, (I'.ok.exf b hb).1, I'.ok.exfs b hb, .inl hb, fun x c e => (I'.ok.exf b hb).2 x c e, fun p hp => absurd (show p ∈ ([] : List (Addr × Obj)) ++ [] from hp) (by simp)⟩
  have loop : codeAny (model X.prog X.w) X.A (.compLoop (.ListComp elt [⟨tg, iter, ifs, 0⟩] scope pos) 0 (.ref it) (.ref D) ce) (compPost (model X.prog X.w) X.A X.xe use Qf (.ref D) s3.heap.objs.size) s4 := by
    refine compLoop_any (fun n s' => ∃ i H', Inv (X.blk s3 H3 scope ce fp) [] (wipe σ (own.map (·.2))) H' s' ∧ tn i s'.heap ∧ (∀ b ∈ fp, H' b = none) ∧ W i n H') ?_ m0 ⟨0, H3, I4, st4, nfp, w0⟩
    rintro n s5 ⟨i, H5, I5, st5, n5, w5⟩
    rcases turn i n H5 w5 with ⟨stop, qq⟩ | ⟨go, Nx, hNx, step⟩
    · have td := T.done (X.blk s3 H3 scope ce fp) rfl rfl rfl hc i [] s5 _ H5 (fun _ _ => False) I5 (stat I5 n5) st5 stop
      refine thnF td fun r s6 ⟨hr, I6⟩ => ?_
      subst hr
      -- back in the def's context
      have I7 : Inv X pins σ H5 s6 := I3.call' (ch := fp) I6.os I6.base I6.hok I6.bare fun b hb => ⟨(f3 b hb).1.2.2.2.1, (f3 b hb).1.2.1, (f3 b hb).1.2.2.2.2.1, (f3 b hb).1.2.2.2.2.2⟩
      have nC : H5 s3.heap.objs.size = none := by
        have z : H5 ce.locals = none := I6.free
        rw [cL] at z
        exact z
      obtain ⟨m, hn, _⟩ := I6.loc
      have hn : s6.heap.Ns ce.locals m := hn
      rw [cL] at hn
      exact hRR D s3.heap.objs.size s6 m H5 I7 qq hn (I3.fpOk (Nat.le_refl _) nC)
    · have ti := T.item (X.blk s3 H3 scope ce fp) rfl rfl rfl hc i [] s5 _ H5 (fun _ _ => False) I5 (stat I5 n5) st5 go
      refine thnF ti fun r s6 ⟨u, hr, h6⟩ => ?_
      subst hr
      refine thnF h6 fun _ s7 ⟨x, H7, I7, r7, y7, st7, n7⟩ => ?_
      have I7' := I7.pinned (stat I7 n7) (T.obj _ _ st7)
      refine thnF (pg _ s7 _ H7 x u _ I7' r7 (step x H7 y7)) fun _ s8 ⟨σ8, H8, I8, hw8, q8⟩ => ?_
      refine thnF (pt _ s8 σ8 H8 _ I8 q8) fun b s9 ⟨H9, I9, q9⟩ => ?_
      -- the turn's end
      have fin : ∀ {s' : Shared} {H' : Hp}, Inv (X.blk s3 H3 scope ce fp) ([] ++ pinsAt fp s7.heap) σ8 H' s' → Nx H' → ∃ m, m < n ∧ ∃ i H', Inv (X.blk s3 H3 scope ce fp) [] (wipe σ (own.map (·.2))) H' s' ∧ tn i s'.heap ∧ (∀ b ∈ fp, H' b = none) ∧ W i m H' := fun {s' H'} I' nx => by
        obtain ⟨m', hm, w'⟩ := hNx H' nx
        have pin' : ∀ b ∈ fp, ∀ o, s7.heap.get? b = some o → s'.heap.get? b = some o ∧ H' b = none := fun b hb o e =>
          let z := I'.pin (b, o) (List.mem_append_right _ (List.mem_append_right _ (mem_pinsAt hb e)))
          ⟨z.1, z.2.1⟩
        have hl : (wipe σ (own.map (·.2))).length = σ8.length := by rw [← hw8, wipe_length]
        refine ⟨m', hm, i + 1, H', (I'.unpinned (pins := [])).weak hl (fun j v e => ?_), T.keep _ _ _ st7 fun b hb o e => (pin' b hb o e).1, fun b hb => ?_, w'⟩
        · rw [← hw8] at e
          exact (wipe_some e).1
        · obtain ⟨o, e, _⟩ := T.obj _ _ st7 b hb
          exact (pin' b hb o e).2
      cases b with
      | false =>
        simp only [Bool.false_eq_true, if_false] at q9 ⊢
        exact fin I9 q9
      | true =>
        simp only [if_true] at q9 ⊢
        refine thnF (pe _ s9 σ8 H9 _ I9 q9) fun z s10 ⟨yv, H10, I10, r10, acc, hD10, hz10, nx⟩ => ?_
        exact app_ok (X := X.blk s3 H3 scope ce fp) I10 hD10 hz10 r10 fun s11 I11 => fin I11 nx
  exact codeAny_compStart_list loop (T.self X.A 0 _ _ _ st4 loop)
theorem pe_lc {elt tg iter : Expr} {ifs : List Expr} {scope : Scope} {own : List (Str × Nat)} {pos : Pos} {wi : TI} {g : TG} {tt : TT} {te : TE} (hc : X.calm = true) (hN : X.N.Nodup) (hi : PI X tg iter wi) (ok : BlkOk X.N X.env.scope scope own)
    (hg : ∀ (s : Shared) (H : Hp) (C : Addr) (cl : List (Str × Addr)) (fp : List Addr), PG (X.blk s H scope (compEnvC scope cl C X.env) fp) tg g) (ht : ∀ (s : Shared) (H : Hp) (C : Addr) (cl : List (Str × Addr)) (fp : List Addr), PTs (X.blk s H scope (compEnvC scope cl C X.env) fp) ifs tt)
    (he : ∀ (s : Shared) (H : Hp) (C : Addr) (cl : List (Str × Addr)) (fp : List Addr), PE (X.blk s H scope (compEnvC scope cl C X.env) fp) elt te) (hs : ∀ x, foldedSetIterable iter X.env x = pure x := by intro _; rfl) :
    PE X (.ListComp elt [⟨tg, iter, ifs, 0⟩] scope pos) (tLc wi g tt te (own.map (·.2))) := by
  intro pins s σ H Q I h
  rw [eval_ListComp]
  refine lc_core hc hN I hi ok hg ht he hs h fun D C s' m H' I' q hn f => ⟨m, hn, fun h'' sb => ?_⟩
  obtain ⟨f0, f1, f2, f3, f4, f5⟩ := f
  exact ⟨.ref D, H', I'.turned (t' := s'.toks) (fun b o hb e => (sb.2 b hb).trans e) f0 f1 f3 f4 f5, rfl, q⟩
end

theorem lc_tup {K : PySem.W.Frag} {a : Addr} {xs : List V} {g : TG} {tt : TT} {te : TE} {vs : List Nat} {σ : St} {H1 : Hp} {D : Addr} {Qd : Hp → Prop} (Pv : Nat → Hp → Prop) (h0 : Pv 0 (upd H1 D (.lst []))) (hl : ∀ i H, i ≤ xs.length → Pv i H → SqT K H a xs)
    (hs : ∀ i x H, xs[i]? = some x → Pv i H → g x (wipe σ vs) H fun σ2 H2 => wipe σ2 vs = wipe σ vs ∧ tt σ2 H2 fun b H3 =>
      if b = true then te σ2 H3 fun y H4 => ∃ acc, H4 D = some (.lst acc) ∧ acc.length < sizeLine ∧ Pv (i + 1) (upd H4 D (.lst (acc ++ [y]))) else Pv (i + 1) H3) (hd : ∀ H, Pv xs.length H → Qd H) :
    ∃ W : Nat → Nat → Hp → Prop, (∃ m, W 0 m (upd H1 D (.lst []))) ∧ ∀ i m H, W i m H →
      ((Itt K a).stop i H ∧ Qd H) ∨ ((Itt K a).go i H ∧ ∃ Nx : Hp → Prop, (∀ H', Nx H' → ∃ m', m' < m ∧ W (i + 1) m' H') ∧ ∀ x H', (Itt K a).yld i H x H' → g x (wipe σ vs) H' fun σ2 H2 => wipe σ2 vs = wipe σ vs ∧ tt σ2 H2 fun b H3 =>
        if b = true then te σ2 H3 fun y H4 => ∃ acc, H4 D = some (.lst acc) ∧ acc.length < sizeLine ∧ Nx (upd H4 D (.lst (acc ++ [y]))) else Nx H3) := by
  refine ⟨fun i m H => m = xs.length - i ∧ i ≤ xs.length ∧ Pv i H, ⟨xs.length, by simp, Nat.zero_le _, h0⟩, ?_⟩
  rintro i m H ⟨rfl, hi, p⟩
  have q := hl i H hi p
  by_cases hlt : i < xs.length
  · refine .inr ⟨⟨xs, xs[i], q, by simp [hlt]⟩, Pv (i + 1), fun H' p' => ⟨xs.length - (i + 1), by omega, rfl, hlt, p'⟩, fun x H' y => ?_⟩
    obtain ⟨e, y⟩ := y
    subst e
    exact hs i x _ (y xs q) p
  · have e : i = xs.length := by omega
    subst e
    exact .inl ⟨⟨xs, q, Nat.le_refl _⟩, hd H p⟩
noncomputable def blkC (N : List Str) (sc scope : Scope) (own : List (Str × Nat)) : Bool :=
  (match scope.kind with | .function => true | _ => false) && (scope.names.all fun y => decide (scope.names.lookup y.1 = some y.2)) && (own.all fun p => decide (N[p.2]? = some p.1)) &&
    (scope.names.all fun y => match y.2 with
      | .free => (match sc.names.lookup y.1 with | some .cell => true | some .free => true | _ => false)
      | .local => decide (y.1 ∈ own.map (·.1)) || decide (y.1 ∉ N)
      | .cell => decide (y.1 ∈ own.map (·.1)) || decide (y.1 ∉ N)
      | _ => true)
theorem blkOk_by {N : List Str} {sc scope : Scope} {own : List (Str × Nat)} (h : blkC N sc scope own = true) : BlkOk N sc scope own := by
  unfold blkC at h
  simp only [Bool.and_eq_true, List.all_eq_true, decide_eq_true_eq] at h
  obtain ⟨⟨⟨h1, h2⟩, h3⟩, h4⟩ := h
  refine ⟨?_, h2, h3, fun y hy e => ?_, fun y hy e => ?_⟩
  · split at h1
    · assumption
    · cases h1
  · have q := h4 y hy
    simp only [e] at q
    split at q <;> first | exact .inl (by assumption) | exact .inr (by assumption) | cases q
  · have q := h4 y hy
    rcases e with e | e <;> (simp only [e, Bool.or_eq_true, decide_eq_true_eq] at q; exact q)
end L2

namespace L2
open PySem PySem.Spec PyProof.Rows

section
variable {prog : Program} {w : World} {A : Around} {R : Result → Shared → Prop} {s : Shared} {elt t0 i0 t1 i1 : Expr} {ifs0 ifs1 : List Expr} {scope : Scope} {pos : Pos} {it acc : Value} {env : Env}
end

section
variable {X : Cx}
end
end L2

namespace L2
open PySem PySem.Spec PyProof.Rows

section
variable {κ : Type} [DecidableEq κ]
end


section
variable {P : Program} {w : World} {H : Hp} {h : Heap} {a : Addr}
end

section
variable {X : Cx} {pins : List (Addr × Obj)} {σ : St} {H : Hp} {s : Shared} {a : Addr} {y v : V} {u r : Value} {o : Option V} {A : Around} {E : Value → Shared → Prop}

end

section
variable {X : Cx} {pins : List (Addr × Obj)} {σ : St} {H : Hp} {s : Shared} {a : Addr} {kvs : List (Key × V)} {k : Key} {u : Value} {A : Around} {E : Value → Shared → Prop}
end


section
variable {X : Cx} {o i e value : Expr} {pos pos' tpos : Pos} {td ty tv : TE}
end


section
variable {X : Cx} {pos : Pos}
end

structure M1 (X : Cx) (o : Expr) (m : Str) (apos : Pos) (e : Expr) (cpos : Pos) : Prop where
  base : attributeBase o m X.env (eval o X.env) = eval o X.env
  few : ((backTo cpos (starEach [e] X.env)).all (fun x => !x.1) && (backToKw cpos (keywordEach [] X.env)).all (fun x => x.1.isSome)
    && decide (([e] : List Expr).length + ([] : List Keyword).length + (if ([] : List Keyword).isEmpty then 0 else 1) < 30)) = true
  line : (apos.endLine == cpos.line) = true
  trees : backTo cpos (starEach [e] X.env) = [(false, eval e X.env)]
structure M2 (X : Cx) (o : Expr) (m : Str) (apos : Pos) (e f : Expr) (cpos : Pos) : Prop where
  base : attributeBase o m X.env (eval o X.env) = eval o X.env
  few : ((backTo cpos (starEach [e, f] X.env)).all (fun x => !x.1) && (backToKw cpos (keywordEach [] X.env)).all (fun x => x.1.isSome)
    && decide (([e, f] : List Expr).length + ([] : List Keyword).length + (if ([] : List Keyword).isEmpty then 0 else 1) < 30)) = true
  line : (apos.endLine == cpos.line) = true
  trees : backTo cpos (starEach [e, f] X.env) = [(false, eval e X.env), (false, eval f X.env)]

section
variable {X : Cx} {pins : List (Addr × Obj)} {σ : St} {H : Hp} {s : Shared} {a : Addr} {y d : V} {u r : Value} {o : Option V} {A : Around} {E : Value → Shared → Prop}
end

section
variable {X : Cx} {o e f : Expr} {apos cpos : Pos} {td ty tx : TE}
end

section
variable {X : Cx} {pins : List (Addr × Obj)} {σ : St} {H : Hp} {s : Shared} {a : Addr} {kvs : List (Key × V)} {A : Around} {E : Value → Shared → Prop}
end


section
variable {X : Cx} {pins : List (Addr × Obj)} {σ : St} {H : Hp} {s : Shared} {a : Addr} {y : V} {u : Value} {A : Around} {E : Value → Shared → Prop}
end
end L2

namespace L2
open PySem PySem.Spec PyProof.Rows

section
variable {prog : Program} {w : World} {A : Around} {E : Value → Shared → Prop}
end

section
variable {X : Cx}
end
end L2

namespace L2
open PySem PySem.Spec PyProof.Rows

section
variable {X : Cx} {pins : List (Addr × Obj)} {σ : St} {H : Hp} {s : Shared} {h' : Heap}
end
noncomputable def tLock (t : TS) : TS := fun D σ H => ∃ d u, H d = some u ∧ Mut (some u) ∧ ∀ od, t ⟨fun σ' H' => H' d = some (.frz od u) ∧ D.nx σ' (upd H' d u), fun v H' => H' d = some (.frz od u) ∧ D.rt v (upd H' d u), fun σ' H' => H' d = some (.frz od u) ∧ D.bk σ' (upd H' d u), fun σ' H' => H' d = some (.frz od u) ∧ D.ct σ' (upd H' d u)⟩ σ (upd H d (.frz od u))
section
variable {X : Cx}
end

section
variable {X : Cx} {tg : Expr}
end
section
variable {X : Cx} {tg : Expr}
end

section
variable {prog : Program} {w : World} {A : Around} {E : Value → Shared → Prop} {s : Shared}
end

section
variable {X : Cx} {pins : List (Addr × Obj)} {σ : St} {H : Hp} {s : Shared} {d : Addr} {o : Obj}
end

section
variable {P : Program} {w : World} {K : PySem.W.Frag} {tg : Expr} {d : Addr} {o : Obj} {es : Array DictEntry} {ep : Nat}
end

section
variable {X : Cx} {tg e : Expr} {td : TE} {apos cpos : Pos}
end

end L2

section 
namespace Bits
open PySem PyProof.Rows

end Bits
end 

section 
namespace TL
open PySem PySem.Builtin PySem.Builtin.Str PySem.StrLaws

noncomputable abbrev tl (x : Str) : List Nat := x.cps.toList
theorem len_tl (x : Str) : x.length = (tl x).length := by simp [tl, Str.length]
theorem tl_append (x y : Str) : tl (x ++ y) = tl x ++ tl y := by
  show (x ++ y).cps.toList = _
  rw [Str.cps_append, Array.toList_append]
noncomputable def pre (S l : List Nat) : Bool := l.take S.length == S
noncomputable def spl (S : List Nat) : Nat → List Nat → List Nat → List (List Nat)
  | _, acc, [] => [acc]
  | 0, acc, c :: r => if pre S (c :: r) = true then acc :: spl S (S.length - 1) [] r else spl S 0 (acc ++ [c]) r
  | k + 1, acc, _ :: r => spl S k acc r
noncomputable def par (S : List Nat) : List Nat → List Nat → Option (List Nat × List Nat)
  | _, [] => none
  | acc, c :: r => if pre S (c :: r) = true then some (acc, (c :: r).drop S.length) else par S (acc ++ [c]) r

noncomputable def joinL (S : List Nat) : List (List Nat) → List Nat
  | [] => []
  | [p] => p
  | p :: q :: r => p ++ (S ++ joinL S (q :: r))
theorem tl_join (y : Str) : ∀ parts : List Str, tl (Str.join y parts) = joinL (tl y) (parts.map tl)
  | [] => rfl
  | [_] => rfl
  | x :: z :: r => by
    show tl (x ++ y ++ Str.join y (z :: r)) = tl x ++ (tl y ++ joinL (tl y) ((z :: r).map tl))
    rw [tl_append, tl_append, tl_join y (z :: r), List.append_assoc]
theorem join_eq (y : Str) (parts : List Str) : Txt.join y parts = Str.join y parts := glued_eq_join y parts
end TL
end 

namespace L2
open PySem PySem.Spec PyProof.Rows

theorem strs_of_vals : ∀ {ys : List Str} {us : List Value}, Vals (ys.map V.str) us → StrsAre us ys
  | [], _, .nil => .nil
  | y :: ys, _, .cons r t => by
    obtain ⟨k, rfl⟩ := r
    exact .cons y k (strs_of_vals t)

section
variable {X : Cx} {pins : List (Addr × Obj)} {σ : St} {H : Hp} {s : Shared} {Q : VK}
end

section
variable {X : Cx}

theorem mt_join : MtR X "str.join" (fun x xs H Q => ∃ a p, ∃ ys : List Str, x = .str a ∧ xs = [.ref p] ∧ (SqL X.K H p (ys.map V.str) ∨ SqT X.K H p (ys.map V.str)) ∧
    (ys.map (·.length)).sum + ys.length * a.length ≤ 16777216 ∧ Q (.str (Txt.join a ys)) H) := by
  intro pins s σ H x xs v us Q I rx rs h
  obtain ⟨a, p, ys, rfl, rfl, hp, hz, h⟩ := h
  obtain ⟨t, rfl⟩ := rx
  cases rs with
  | cons r1 rs =>
    cases rs
    cases r1
    rcases hp with hp | hp
    · obtain ⟨its, r, ⟨o, n, ho, hc, _, hd⟩, _⟩ := I.list hp
      exact PyProof.Rows.join_list (items := its.toArray) ⟨o, ho, hc, n, hd⟩ (by rw [List.toList_toArray]; exact strs_of_vals r) hz fun t' k => ⟨.str _, H, I.tok k, ⟨t', rfl⟩, h⟩
    · obtain ⟨its, r, ht, _⟩ := I.tuple hp
      exact PyProof.Rows.join_tuple (items := its.toArray) ht (by rw [List.toList_toArray]; exact strs_of_vals r) hz fun t' k => ⟨.str _, H, I.tok k, ⟨t', rfl⟩, h⟩

theorem mt0 {id : String} {C : Str → Prop} {g : Str → V} (rule : ∀ (a : Str) (t : Tok) (s : Shared) (Q : Value → Shared → Prop), C a → (∀ (u : Value) (k : Nat), RelV (g a) u → Q u { s with toks := k }) →
    wpAny (model X.prog X.w) X.A (call (.builtin id) [.str a t]) Q X.xe s) : MtR X id (fun x xs H Q => ∃ a, x = .str a ∧ xs = [] ∧ C a ∧ Q (g a) H) := by
  intro pins s σ H x xs v us Q I rx rs h
  obtain ⟨a, rfl, rfl, hc, h⟩ := h
  obtain ⟨t, rfl⟩ := rx
  cases rs
  exact rule a t s _ hc fun u k r => ⟨g a, H, I.tok k, r, h⟩
theorem mt_isdigit : MtR X "str.isdigit" (fun x xs H Q => ∃ a, x = .str a ∧ xs = [] ∧ True ∧ Q (.bl (Txt.isdigit a)) H) :=
  mt0 (C := fun _ => True) (g := fun a => .bl (Txt.isdigit a)) fun _ _ s _ _ h => PySem.SC.isdigit (h _ s.toks rfl)
theorem call_int_str : CallR X (.type "int") (fun xs H Q => ∃ a n, xs = [.str a] ∧ PySem.intText? a = some n ∧ a.length ≤ 640 ∧ Q (.int n) H) := by
  intro pins s σ H xs us Q I rs h
  obtain ⟨a, n, rfl, hn, hl, h⟩ := h
  cases rs with
  | cons r1 rs =>
    cases rs
    obtain ⟨t, rfl⟩ := r1
    exact PySem.W.KIN.call_text hn hl ⟨.int n, H, I.tok _, ⟨_, rfl⟩, h⟩
end

section
variable {X : Cx} {o e : Expr} {to te : TE}
noncomputable def tM0 (r : V → List V → Hp → VK → Prop) (to : TE) : TE := fun σ H Q => to σ H fun x H1 => (∃ a, x = .str a) ∧ r x [] H1 Q
noncomputable def tM1 (r : V → List V → Hp → VK → Prop) (to te : TE) : TE := fun σ H Q => to σ H fun x H1 => (∃ a, x = .str a) ∧ te σ H1 fun y H2 => r x [y] H2 Q
theorem pe_m0 {id : String} {name : Str} {apos pos : Pos} {r : V → List V → Hp → VK → Prop} (slot : Slot "str" name id) (ty : typeOf (.builtin id) = pure (.type "method_descriptor")) (rule : MtR X id r) (ho : PE X o to)
    (hbase : attributeBase o name X.env (eval o X.env) = eval o X.env := by rfl) (hline : (apos.endLine == pos.line) = true := by rfl) : PE X (.Call (.Attribute o name apos) [] [] pos) (tM0 r to) := by
  intro pins s σ H Q I h
  refine PySem.Call_method0 hbase hline (thn (ho pins s σ H _ I h) fun v s1 ⟨x, H1, I1, r1, q1⟩ => ?_)
  obtain ⟨⟨a, rfl⟩, q1⟩ := q1
  obtain ⟨t, rfl⟩ := _root_.id r1
  exact ⟨"str", _, F.plainAttrs_str, slot, ty, typeIs_str _ _ _, (fun _ e => nomatch e), Calls.callWith_builtin rfl (PySem.evalArgs_none (rule pins s1 σ H1 _ [] _ [] Q I1 r1 .nil q1))⟩
theorem pe_m1 {id : String} {name : Str} {apos pos : Pos} {r : V → List V → Hp → VK → Prop} (slot : Slot "str" name id) (ty : typeOf (.builtin id) = pure (.type "method_descriptor")) (rule : MtR X id r) (ho : PE X o to) (he : PE X e te)
    (hs : starEach [e] X.env = [(false, eval e X.env)] := by rfl) (hbase : attributeBase o name X.env (eval o X.env) = eval o X.env := by rfl) (hline : (apos.endLine == pos.line) = true := by rfl) :
    PE X (.Call (.Attribute o name apos) [e] [] pos) (tM1 r to te) := by
  intro pins s σ H Q I h
  refine PySem.Call_method1 hbase hs hline (thn (ho pins s σ H _ I h) fun v s1 ⟨x, H1, I1, r1, q1⟩ => ?_)
  obtain ⟨⟨a, rfl⟩, q1⟩ := q1
  obtain ⟨t, rfl⟩ := _root_.id r1
  refine ⟨"str", _, F.plainAttrs_str, slot, ty, typeIs_str _ _ _, (fun _ e => nomatch e), Calls.callWith_builtin rfl (Calls.evalArgs_plain (Calls.spliced_cons ?_))⟩
  exact thn (he pins s1 σ H1 _ I1 q1) fun u s2 ⟨y, H2, I2, r2, q2⟩ => Calls.spliced_nil (rule pins s2 σ H2 _ [y] _ [u] Q I2 r1 (.cons r2 .nil) q2)

theorem pe_join {apos pos : Pos} (ho : PE X o to) (he : PE X e te) (hs : starEach [e] X.env = [(false, eval e X.env)] := by rfl) (hbase : attributeBase o "join" X.env (eval o X.env) = eval o X.env := by rfl) (hline : (apos.endLine == pos.line) = true := by rfl) :
    PE X (.Call (.Attribute o "join" apos) [e] [] pos) (tM1 (fun x xs H Q => ∃ a p, ∃ ys : List Str, x = .str a ∧ xs = [.ref p] ∧ (SqL X.K H p (ys.map V.str) ∨ SqT X.K H p (ys.map V.str)) ∧
      (ys.map (·.length)).sum + ys.length * a.length ≤ 16777216 ∧ Q (.str (Txt.join a ys)) H) to te) :=
  pe_m1 F.slot_str_join F.type_str_join mt_join ho he hs hbase hline
end
end L2

namespace L2
open PySem PySem.Spec PyProof.Rows

section
variable {X : Cx}
theorem op_in_sign : OpR X (compareOp .In) (fun x y H Q => ∃ (c : Nat) (z : Str), x = .str ⟨#[c]⟩ ∧ y = .str z ∧ Q (.bl (decide (c ∈ z.cps.toList))) H) := by
  intro pins s σ H x y v u Q I rx ry h
  obtain ⟨c, z, rfl, rfl, q⟩ := h
  obtain ⟨t, rfl⟩ := rx
  obtain ⟨t', rfl⟩ := ry
  exact PyProof.Rows.in_str (fin_bl I q (PySem.StrLaws.found_one z c).symm)
end

end L2

namespace Att
open PySem PySem.W PySem.Calls PyProof.Rows

section
variable {prog : Program} {w : World} {A : Around} {E : Value → Shared → Prop} {s : Shared} {K : Frag}

noncomputable def ledger (h : Heap) (L d : Addr) : List (Addr × Obj) := (List.range h.objs.size).filterMap fun a => if a = L ∨ a = d then none else (h.get? a).map fun o => (a, o)
end
end Att

namespace L2
open PySem PySem.Spec PyProof.Rows

end L2

namespace L2
open PySem PySem.Spec PyProof.Rows

end L2



namespace L2
open PySem PySem.Spec PyProof.Rows

noncomputable def inClass (s : Stmt) (j : Nat) : Stmt := match s with
  | .ClassDef _ _ _ body _ _ _ _ _ _ _ => body.getD j (.Pass ⟨0, 0, 0, 0⟩)
  | _ => .Pass ⟨0, 0, 0, 0⟩
noncomputable def defArgs (s : Stmt) : Arguments := match s with
  | .FunctionDef _ a _ _ _ _ _ _ _ _ => a
  | _ => { posonlyargs := [], args := [], vararg := none, kwonlyargs := [], kw_defaults := [], kwarg := none, defaults := [] }
noncomputable def defBody (s : Stmt) : List Stmt := match s with
  | .FunctionDef _ _ b _ _ _ _ _ _ _ => b
  | _ => []
noncomputable def defScope (s : Stmt) : Scope := match s with
  | .FunctionDef _ _ _ _ _ _ sc _ _ _ => sc
  | _ => { kind := .function, names := [], isGenerator := false, isCoroutine := false }

noncomputable abbrev E0 : XK := fun _ _ _ => False
structure Fun (K : PySem.W.Frag) (x qual : Str) (st : Stmt) (f : Addr) (fd : FuncData) : Prop where
  ex : ∃ (oc : Value) (od : Option Addr) (kV doc pm : Value) (an : Option Addr) (cdv ct : Value) (osl : Array (Option Value)),
    fd = PySem.W.fnOf x qual (defArgs st) (defBody st) (defScope st) .none kV doc pm an cdv ct ∧ K.lookup f = some ⟨oc, od, .func fd, osl⟩ ∧ PySem.W.codeIn K cdv qual = true
  kp : PySem.W.keepIn K (.ref f) = true
section
variable {P : Program} {w : World} {K : PySem.W.Frag} {mg : Str → Option Value} {base : Heap}
theorem Fun.binds {x qual : Str} {st : Stmt} {f : Addr} {fd : FuncData} {ps : List Str} (F : Fun K x qual st f fd)
    (h : ∀ (kV doc pm : Value) (an : Option Addr) (cdv ct : Value) (us : List Value), us.length = ps.length → bindArgs (PySem.W.fnOf x qual (defArgs st) (defBody st) (defScope st) .none kV doc pm an cdv ct) ⟨us, []⟩ = pure (ps.zip us)) : Binds K fd ps [] := by
  obtain ⟨oc, od, kV, doc, pm, an, cdv, ct, osl, rfl, lk, hcd⟩ := F.ex
  exact .all (h kV doc pm an cdv ct)
theorem fun_mk {x qual : Str} {st : Stmt} {f : Addr} {oc : Value} {od an : Option Addr} {osl : Array (Option Value)} {kV doc pm cdv ct : Value} (l : K.lookup f = some ⟨oc, od, .func (PySem.W.fnOf x qual (defArgs st) (defBody st) (defScope st) .none kV doc pm an cdv ct), osl⟩)
    (c : PySem.W.codeIn K cdv qual = true) (k : PySem.W.keepIn K (.ref f) = true) : Fun K x qual st f (PySem.W.fnOf x qual (defArgs st) (defBody st) (defScope st) .none kV doc pm an cdv ct) := ⟨⟨oc, od, kV, doc, pm, an, cdv, ct, osl, rfl, l, c⟩, k⟩
end
section
variable {X : Cx}
theorem pv (i : Nat) {x : Str} {pos : Pos} (hN : X.N[i]? = some x := by rfl) (hv : Vis X.env.scope x := by first | exact Or.inl rfl | exact Or.inr (Or.inl rfl) | exact Or.inr (Or.inr rfl)) (hd : (x == ("__debug__" : Str)) = false := by decide)
    (hcd : (x == ("__classdict__" : Str)) = false := by decide) : PE X (.Name x pos) (tVar i) := pe_var hN hv hd hcd
end

noncomputable def Same (H H' : Hp) : Prop := ∀ b o, H b = some o → H' b = some o
theorem Same.refl (H : Hp) : Same H H := fun _ _ h => h
theorem Same.trans {H H1 H2 : Hp} (a : Same H H1) (b : Same H1 H2) : Same H H2 := fun c o h => b c o (a c o h)
theorem Same.free {H H' : Hp} (e : Same H H') {l : Addr} (h : H' l = Option.none) : H l = Option.none := by
  cases q : H l with
  | none => rfl
  | some o =>
    rw [e l o q] at h
    cases h
section
variable {κ : Type} [DecidableEq κ]
end
theorem Same.made {H H1 : Hp} {x dx C : Addr} (nx : H x = Option.none) (nd : H dx = Option.none) (k : ∀ b o, (upd (upd H dx (.own x)) x (.ins C dx [])) b = some o → b ≠ x → H1 b = some o) : Same H H1 := fun b o e =>
  k b o (by rw [upd_ne (ne_of_none e nx), upd_ne (ne_of_none e nd)]; exact e) (ne_of_none e nx)
end L2

end
section
set_option Elab.async false
set_option linter.all false
set_option maxRecDepth 100000
set_option maxHeartbeats 2000000
namespace L2
open PySem PySem.Spec PyProof.Rows
open PySem.W (WData Codec OpenSpec Well WellAll ReadsW ReadsAllW)
mutual
inductive Dw (K : PySem.W.Frag) (H : Hp) : V → WData → Prop
  | non : Dw K H .non .none
  | bl (b : Bool) : Dw K H (.bl b) (.bool b)
  | int (i : Int) : Dw K H (.int i) (.int i)
  | str (x : Str) : Dw K H (.str x) (.str x)
  | byt (b : Array UInt8) : Dw K H (.byt b) (.bytes b.toList)
  | lst {a : Addr} {xs : List V} {ds : List WData} : SqL K H a xs → DwAll K H xs ds → Dw K H (.ref a) (.list ds)
  | tup {a : Addr} {xs : List V} {ds : List WData} : SqT K H a xs → DwAll K H xs ds → Dw K H (.ref a) (.tuple ds)
inductive DwAll (K : PySem.W.Frag) (H : Hp) : List V → List WData → Prop
  | nil : DwAll K H [] []
  | cons {v : V} {vs : List V} {d : WData} {ds : List WData} : Dw K H v d → DwAll K H vs ds → DwAll K H (v :: vs) (d :: ds)
end
theorem dw_ints {K : PySem.W.Frag} {H : Hp} : ∀ ns : List Int, DwAll K H (ns.map V.int) (ns.map WData.int)
  | [] => .nil
  | n :: r => .cons (.int n) (dw_ints r)
theorem ints_dw {K : PySem.W.Frag} {H : Hp} : ∀ (ns : List Int) (xs : List V), DwAll K H xs (ns.map WData.int) → xs = ns.map V.int
  | [], xs, h => by
    cases h
    rfl
  | n :: r, xs, h => by
    cases h with
    | cons h1 h2 =>
      cases h1
      rw [ints_dw r _ h2] <;> rfl
section
variable {P : Program} {w : World} {K : PySem.W.Frag} {H : Hp} {h : Heap} {R : PySem.W.WRecords} {cl : Str → Option Addr}
theorem sqL_at {a : Addr} {xs : List V} (hok : HOk P w H h) (KX : K.In h) (q : SqL K H a xs) : ∃ (its : List Value) (o : Obj) (n : Nat), Vals xs its ∧ h.get? a = some o ∧ o.cls = .type "list" ∧ o.data = .seq its.toArray n := by
  rcases q with q | ⟨o, its, n, e, hc, _, hd, _, hv⟩
  · obtain ⟨_, its, n, hv, e⟩ := (show ObjOk P w H h a (.lst xs) from q.ok hok)
    exact ⟨its, _, n, hv, e, rfl, rfl⟩
  · exact ⟨its.toList, o, n, hv, KX _ _ e, hc, by simp [hd]⟩
theorem sqT_at {a : Addr} {xs : List V} (hok : HOk P w H h) (KX : K.In h) (q : SqT K H a xs) : ∃ (its : List Value) (o : Obj) (n : Nat), Vals xs its ∧ h.get? a = some o ∧ o.cls = .type "tuple" ∧ o.data = .seq its.toArray n := by
  rcases q with q | ⟨o, its, n, e, hc, hd, _, hv⟩
  · obtain ⟨_, its, hv, o, e, hc, n, hd⟩ := (show ObjOk P w H h a (.tup xs) from q.ok hok)
    exact ⟨its, o, n, hv, e, hc, hd⟩
  · exact ⟨its.toList, o, n, hv, KX _ _ e, hc, by simp [hd]⟩
mutual
theorem Dw.reads (hok : HOk P w H h) (KX : K.In h) : ∀ (d : WData) (v : V) (u : Value), Dw K H v d → RelV v u → ∃ as, ReadsW R cl h u d as
  | .none, _, _, x, r => by
    cases x
    cases r
    exact ⟨_, ReadsW.none⟩
  | .bool b, _, _, x, r => by
    cases x
    cases r
    exact ⟨_, ReadsW.bool b⟩
  | .int i, _, _, x, r => by
    cases x
    obtain ⟨t, rfl⟩ := r
    exact ⟨_, ReadsW.int i t⟩
  | .str s, _, _, x, r => by
    cases x
    obtain ⟨t, rfl⟩ := r
    exact ⟨_, ReadsW.str s t⟩
  | .bytes b, _, _, x, r => by
    cases x
    obtain ⟨t, rfl⟩ := r
    exact ⟨_, ReadsW.bytes _ t⟩
  | .list ds, _, _, x, r => by
    cases x with
    | lst hs ha =>
      cases r
      obtain ⟨its, o, n, rv, ho, hc, hd⟩ := sqL_at hok KX hs
      obtain ⟨as, hr⟩ := Dw.readsAll hok KX ds _ its ha rv
      exact ⟨_, ReadsW.list ho hc hd hr⟩
  | .tuple ds, _, _, x, r => by
    cases x with
    | tup hs ha =>
      cases r
      obtain ⟨its, o, n, rv, ho, hc, hd⟩ := sqT_at hok KX hs
      obtain ⟨as, hr⟩ := Dw.readsAll hok KX ds _ its ha rv
      exact ⟨_, ReadsW.tuple ho hc hd hr⟩
  | .float _, _, _, x, _ => by cases x
  | .dict _, _, _, x, _ => by cases x
  | .bytearray _, _, _, x, _ => by cases x
  | .set _, _, _, x, _ => by cases x
  | .frozenset _, _, _, x, _ => by cases x
  | .obj _ _, _, _, x, _ => by cases x
theorem Dw.readsAll (hok : HOk P w H h) (KX : K.In h) : ∀ (ds : List WData) (vs : List V) (us : List Value), DwAll K H vs ds → Vals vs us → ∃ as, ReadsAllW R cl h us ds as
  | [], _, _, x, r => by
    cases x
    cases r
    exact ⟨_, ReadsAllW.nil⟩
  | d :: ds, _, _, x, r => by
    cases x with
    | cons h1 h2 =>
      cases r with
      | cons r1 r2 =>
        obtain ⟨as, q1⟩ := Dw.reads hok KX d _ _ h1 r1
        obtain ⟨bs, q2⟩ := Dw.readsAll hok KX ds _ _ h2 r2
        exact ⟨_, ReadsAllW.cons q1 q2⟩
end
end
mutual
noncomputable def plW : WData → Bool
  | .none => true
  | .bool _ => true
  | .int _ => true
  | .str _ => true
  | .bytes _ => true
  | .list xs => plWs xs
  | .tuple xs => plWs xs
  | _ => false
noncomputable def plWs : List WData → Bool
  | [] => true
  | x :: r => plW x && plWs r
end
theorem plWs_map {α : Type} {f : α → WData} (h : ∀ a, plW (f a) = true) : ∀ l : List α, plWs (l.map f) = true
  | [] => rfl
  | x :: r => by
    show (plW (f x) && plWs (r.map f)) = true
    rw [h x, plWs_map h r] <;> rfl
theorem pl_enc : ∀ (c : Codec) (a : c.denote), plW (c.enc a) = true
  | .unit, _ => rfl
  | .bool, _ => rfl
  | .int _ _, _ => rfl
  | .nat _ _, _ => rfl
  | .u8, _ => rfl
  | .bytes _ _, _ => rfl
  | .text _ _ _ _, _ => rfl
  | .list _ _ c, a => plWs_map (fun x => pl_enc c x) a
  | .pair c d, a => by
    show (plW (c.enc a.1) && (plW (d.enc a.2) && true)) = true
    rw [pl_enc c a.1, pl_enc d a.2] <;> rfl
  | .triple c d e, a => by
    show (plW (c.enc a.1) && (plW (d.enc a.2.1) && (plW (e.enc a.2.2) && true))) = true
    rw [pl_enc c a.1, pl_enc d a.2.1, pl_enc e a.2.2] <;> rfl
  | .option c, none => rfl
  | .option c, some x => pl_enc c x
theorem pl_encAll : ∀ (cs : List Codec) (a : Codec.denoteAll cs), plWs (Codec.encAll cs a) = true
  | [], _ => rfl
  | c :: cs, a => by
    show (plW (c.enc a.1) && plWs (Codec.encAll cs a.2)) = true
    rw [pl_enc c a.1, pl_encAll cs a.2] <;> rfl
theorem weight_mem : ∀ {xs : List WData} {d : WData}, d ∈ xs → d.weight ≤ WData.weightAll xs
  | [], d, h => absurd h (by simp)
  | x :: r, d, h => by
    show d.weight ≤ x.weight + 1 + WData.weightAll r
    rcases List.mem_cons.mp h with e | m
    · rw [e]
      omega
    · have z := weight_mem m
      omega
noncomputable def toV : Value → V
  | .none => .non
  | .bool b => .bl b
  | .int i _ => .int i
  | .str x _ => .str x
  | .bytes b _ => .byt b
  | .ref a => .ref a
  | _ => .non
noncomputable def OkU (A : List Addr) : Value → Prop
  | .none => True
  | .bool _ => True
  | .int _ _ => True
  | .str _ _ => True
  | .bytes _ _ => True
  | .ref a => a ∈ A
  | _ => False
theorem OkU.mono {A B : List Addr} (h : ∀ a ∈ A, a ∈ B) : ∀ {u : Value}, OkU A u → OkU B u := fun {u} x => by
  cases u with
  | ref a => exact h a x
  | none => trivial
  | bool b => trivial
  | int i t => trivial
  | str s t => trivial
  | bytes b t => trivial
  | _ => exact False.elim x
theorem relV_toV {A : List Addr} {u : Value} (x : OkU A u) : RelV (toV u) u := by
  cases u with
  | ref a => rfl
  | none => rfl
  | bool b => rfl
  | int i t => exact ⟨t, rfl⟩
  | str s t => exact ⟨t, rfl⟩
  | bytes b t => exact ⟨t, rfl⟩
  | _ => exact False.elim x
theorem vals_toV {A : List Addr} : ∀ {vs : List Value}, (∀ u ∈ vs, OkU A u) → Vals (vs.map toV) vs
  | [], _ => .nil
  | u :: r, h => .cons (relV_toV (h u (List.mem_cons_self ..))) (vals_toV fun x hx => h x (List.mem_cons_of_mem _ hx))
noncomputable def ArgOb (h : Heap) (A : List Addr) (a : Addr) : Prop := ∃ vs : List Value, vs.length ≤ sizeLine ∧ (∀ u ∈ vs, OkU A u) ∧
  (h.get? a = some { cls := .type "list", data := .seq vs.toArray } ∨ h.get? a = some { cls := .type "tuple", data := .seq vs.toArray })
theorem ArgOb.mono {h : Heap} {A B : List Addr} {a : Addr} (k : ∀ a ∈ A, a ∈ B) (x : ArgOb h A a) : ArgOb h B a := by
  obtain ⟨vs, h1, h2, h3⟩ := x
  exact ⟨vs, h1, fun u hu => (h2 u hu).mono k, h3⟩
theorem wellAll_len {P : Params} {h : Heap} : ∀ {vs : List Value} {ds : List WData}, WellAll P h vs ds → vs.length = ds.length
  | _, _, .nil => rfl
  | _, _, .cons _ b => by
    show _ + 1 = _ + 1
    rw [wellAll_len b]
theorem well_list {P : Params} {h : Heap} {v : Value} {ds : List WData} (x : Well P h v (.list ds)) : ∃ (a : Addr) (vs : List Value), v = .ref a ∧ h.get? a = some { cls := .type "list", data := .seq vs.toArray } ∧ WellAll P h vs ds := by
  cases x with
  | list ho hall => exact ⟨_, _, rfl, ho, hall⟩
theorem well_tuple {P : Params} {h : Heap} {v : Value} {ds : List WData} (x : Well P h v (.tuple ds)) : ∃ (a : Addr) (vs : List Value), v = .ref a ∧ h.get? a = some { cls := .type "tuple", data := .seq vs.toArray } ∧ WellAll P h vs ds := by
  cases x with
  | tuple ho hall => exact ⟨_, _, rfl, ho, hall⟩
theorem well_cons {P : Params} {h : Heap} {us : List Value} {d : WData} {ds : List WData} (x : WellAll P h us (d :: ds)) : ∃ (v : Value) (vs : List Value), us = v :: vs ∧ Well P h v d ∧ WellAll P h vs ds := by
  cases x with
  | cons a b => exact ⟨_, _, rfl, a, b⟩
theorem line_of {n : Nat} (h : n ≤ 1048576) : n ≤ sizeLine := Nat.le_trans h (by decide)
section
variable {P : Params} {h : Heap}
mutual
theorem area_one : ∀ (d : WData) (v : Value), Well P h v d → plW d = true → d.weight ≤ 1048576 → ∃ A : List Addr, OkU A v ∧ ∀ a ∈ A, ArgOb h A a
  | .none, _, x, _, _ => by
    cases x
    exact ⟨[], trivial, fun a m => absurd m (by simp)⟩
  | .bool b, _, x, _, _ => by
    cases x
    exact ⟨[], trivial, fun a m => absurd m (by simp)⟩
  | .int i, _, x, _, _ => by
    cases x
    exact ⟨[], trivial, fun a m => absurd m (by simp)⟩
  | .str s, _, x, _, _ => by
    cases x
    exact ⟨[], trivial, fun a m => absurd m (by simp)⟩
  | .bytes b, _, x, _, _ => by
    cases x
    exact ⟨[], trivial, fun a m => absurd m (by simp)⟩
  | .list ds, _, x, p, z => by
    obtain ⟨a, vs, rfl, ho, hall⟩ := well_list x
    have z2 : WData.weightAll ds ≤ 1048576 := z
    obtain ⟨A, h1, h2⟩ := area_all ds _ hall p fun d hd => Nat.le_trans (weight_mem hd) z2
    have k : ∀ b ∈ A, b ∈ a :: A := fun b hb => List.mem_cons_of_mem _ hb
    refine ⟨a :: A, List.mem_cons_self .., fun b hb => ?_⟩
    rcases List.mem_cons.mp hb with e | m
    · rw [e]
      exact ⟨vs, line_of (by rw [wellAll_len hall]; exact Nat.le_trans (PySem.W.length_le_weightAllW ds) z2), fun u hu => (h1 u hu).mono k, .inl ho⟩
    · exact (h2 b m).mono k
  | .tuple ds, _, x, p, z => by
    obtain ⟨a, vs, rfl, ho, hall⟩ := well_tuple x
    have z2 : WData.weightAll ds ≤ 1048576 := z
    obtain ⟨A, h1, h2⟩ := area_all ds _ hall p fun d hd => Nat.le_trans (weight_mem hd) z2
    have k : ∀ b ∈ A, b ∈ a :: A := fun b hb => List.mem_cons_of_mem _ hb
    refine ⟨a :: A, List.mem_cons_self .., fun b hb => ?_⟩
    rcases List.mem_cons.mp hb with e | m
    · rw [e]
      exact ⟨vs, line_of (by rw [wellAll_len hall]; exact Nat.le_trans (PySem.W.length_le_weightAllW ds) z2), fun u hu => (h1 u hu).mono k, .inr ho⟩
    · exact (h2 b m).mono k
  | .float _, _, _, p, _ => Bool.noConfusion (show false = true from p)
  | .dict _, _, _, p, _ => Bool.noConfusion (show false = true from p)
  | .bytearray _, _, _, p, _ => Bool.noConfusion (show false = true from p)
  | .set _, _, _, p, _ => Bool.noConfusion (show false = true from p)
  | .frozenset _, _, _, p, _ => Bool.noConfusion (show false = true from p)
  | .obj _ _, _, _, p, _ => Bool.noConfusion (show false = true from p)
theorem area_all : ∀ (ds : List WData) (vs : List Value), WellAll P h vs ds → plWs ds = true → (∀ d ∈ ds, d.weight ≤ 1048576) → ∃ A : List Addr, (∀ u ∈ vs, OkU A u) ∧ ∀ a ∈ A, ArgOb h A a
  | [], _, x, _, _ => by
    cases x
    exact ⟨[], fun u m => absurd m (by simp), fun a m => absurd m (by simp)⟩
  | d :: ds, _, x, p, z => by
    obtain ⟨v, vs, rfl, x1, x2⟩ := well_cons x
    have q : plW d = true ∧ plWs ds = true := Bool.and_eq_true_iff.mp p
    obtain ⟨A, a1, a2⟩ := area_one d v x1 q.1 (z d (List.mem_cons_self ..))
    obtain ⟨B, b1, b2⟩ := area_all ds vs x2 q.2 fun e he => z e (List.mem_cons_of_mem _ he)
    have kA : ∀ b ∈ A, b ∈ A ++ B := fun b hb => List.mem_append.mpr (.inl hb)
    have kB : ∀ b ∈ B, b ∈ A ++ B := fun b hb => List.mem_append.mpr (.inr hb)
    refine ⟨A ++ B, fun u hu => ?_, fun b hb => ?_⟩
    · rcases List.mem_cons.mp hu with e | m
      · rw [e]
        exact a1.mono kA
      · exact (b1 u m).mono kB
    · rcases List.mem_append.mp hb with m | m
      · exact (a2 b m).mono kA
      · exact (b2 b m).mono kB
end
end
noncomputable def hoOf (o : Obj) : Option HO := match o.data with
  | .seq vs _ => if (o.cls == Value.type "list") = true then some (.frz o (.lst (vs.toList.map toV))) else some (.frz o (.tup (vs.toList.map toV)))
  | _ => none
noncomputable def argH (K : PySem.W.Frag) (h : Heap) (A : List Addr) : Hp := fun b => if b ∈ A then (if (K.lookup b).isNone = true then (h.get? b).bind hoOf else none) else none
noncomputable def OnlyF (H : Hp) : Prop := ∀ b, H b = none ∨ ∃ o u, H b = some (.frz o u)
theorem hoOf_lst (vs : List Value) : hoOf { cls := .type "list", data := .seq vs.toArray } = some (.frz { cls := .type "list", data := .seq vs.toArray } (.lst (vs.map toV))) := by
  show (if (Value.type "list" == Value.type "list") = true then some (HO.frz { cls := .type "list", data := .seq vs.toArray } (.lst (vs.toArray.toList.map toV))) else some (HO.frz { cls := .type "list", data := .seq vs.toArray } (.tup (vs.toArray.toList.map toV)))) = _
  rw [if_pos (beq_self_eq_true _)]
theorem hoOf_tup (vs : List Value) : hoOf { cls := .type "tuple", data := .seq vs.toArray } = some (.frz { cls := .type "tuple", data := .seq vs.toArray } (.tup (vs.map toV))) := by
  show (if (Value.type "tuple" == Value.type "list") = true then some (HO.frz { cls := .type "tuple", data := .seq vs.toArray } (.lst (vs.toArray.toList.map toV))) else some (HO.frz { cls := .type "tuple", data := .seq vs.toArray } (.tup (vs.toArray.toList.map toV)))) = _
  rw [if_neg (by decide)]
section
variable {P : Program} {w : World} {K : PySem.W.Frag} {h : Heap} {A : List Addr}
theorem argH_at {b : Addr} {o : Obj} (hb : b ∈ A) (hk : K.lookup b = none) (e : h.get? b = some o) : argH K h A b = hoOf o := by
  unfold argH
  rw [if_pos hb, hk, if_pos (show (none : Option Obj).isNone = true from rfl), e] <;> rfl
theorem of_argH {b : Addr} {u : HO} (q : argH K h A b = some u) : b ∈ A ∧ K.lookup b = none := by
  unfold argH at q
  by_cases hb : b ∈ A
  · rw [if_pos hb] at q
    cases hk : K.lookup b with
    | none => exact ⟨hb, rfl⟩
    | some o =>
      rw [hk, if_neg (by simp)] at q
      cases q
  · rw [if_neg hb] at q
    cases q
theorem argH_is (ar : ∀ a ∈ A, ArgOb h A a) {b : Addr} {u : HO} (q : argH K h A b = some u) : K.lookup b = none ∧ ∃ vs : List Value, vs.length ≤ sizeLine ∧ (∀ u ∈ vs, OkU A u) ∧
    ((h.get? b = some { cls := .type "list", data := .seq vs.toArray } ∧ u = .frz { cls := .type "list", data := .seq vs.toArray } (.lst (vs.map toV))) ∨
     (h.get? b = some { cls := .type "tuple", data := .seq vs.toArray } ∧ u = .frz { cls := .type "tuple", data := .seq vs.toArray } (.tup (vs.map toV)))) := by
  obtain ⟨hb, hk⟩ := of_argH q
  obtain ⟨vs, h1, h2, h3⟩ := ar b hb
  refine ⟨hk, vs, h1, h2, ?_⟩
  rcases h3 with e | e
  · rw [argH_at hb hk e, hoOf_lst] at q
    exact .inl ⟨e, (Option.some.inj q).symm⟩
  · rw [argH_at hb hk e, hoOf_tup] at q
    exact .inr ⟨e, (Option.some.inj q).symm⟩
theorem argH_only (ar : ∀ a ∈ A, ArgOb h A a) : OnlyF (argH K h A) := fun b => by
  cases q : argH K h A b with
  | none => exact .inl rfl
  | some u =>
    obtain ⟨_, vs, _, _, ⟨_, e⟩ | ⟨_, e⟩⟩ := argH_is ar q
    · exact .inr ⟨_, _, by rw [e]⟩
    · exact .inr ⟨_, _, by rw [e]⟩
theorem argH_ok (ar : ∀ a ∈ A, ArgOb h A a) : HOk P w (argH K h A) h := fun b u q => by
  obtain ⟨_, vs, h1, h2, ⟨e, rfl⟩ | ⟨e, rfl⟩⟩ := argH_is ar q
  · exact ⟨e, by rw [List.length_map]; exact h1, vs, _, vals_toV h2, e⟩
  · exact ⟨e, by rw [List.length_map]; exact h1, vs, vals_toV h2, _, e, rfl, _, rfl⟩
theorem seq_inj {c c' : Value} {vs us : List Value} (e : (some { cls := c, data := .seq vs.toArray } : Option Obj) = some { cls := c', data := .seq us.toArray }) : c = c' ∧ vs = us := by
  have e1 := Option.some.inj e
  have e2 : c = c' := congrArg Obj.cls e1
  have e3 : Data.seq vs.toArray = Data.seq us.toArray := congrArg Obj.data e1
  injection e3 with e4
  refine ⟨e2, ?_⟩
  have e5 := congrArg Array.toList e4
  simpa using e5
theorem argL (KX : K.In h) (ar : ∀ a ∈ A, ArgOb h A a) {a : Addr} {vs : List Value} (ha : a ∈ A) (e : h.get? a = some { cls := .type "list", data := .seq vs.toArray }) : (∀ u ∈ vs, OkU A u) ∧ SqL K (argH K h A) a (vs.map toV) := by
  obtain ⟨us, h1, h2, h3⟩ := ar a ha
  have hu : us = vs := by
    rcases h3 with q | q
    · rw [e] at q
      exact (seq_inj q).2.symm
    · rw [e] at q
      exact absurd (Value.type.inj (seq_inj q).1) (by decide)
  subst hu
  refine ⟨h2, ?_⟩
  cases hk : K.lookup a with
  | none => exact .inl (.inr ⟨_, by rw [argH_at ha hk e, hoOf_lst]⟩)
  | some o =>
    have e2 := KX a o hk
    rw [e] at e2
    obtain rfl := Option.some.inj e2
    exact .inr ⟨_, us.toArray, _, hk, rfl, rfl, rfl, by rw [List.size_toArray]; exact h1, by simpa using vals_toV h2⟩
theorem argT (KX : K.In h) (ar : ∀ a ∈ A, ArgOb h A a) {a : Addr} {vs : List Value} (ha : a ∈ A) (e : h.get? a = some { cls := .type "tuple", data := .seq vs.toArray }) : (∀ u ∈ vs, OkU A u) ∧ SqT K (argH K h A) a (vs.map toV) := by
  obtain ⟨us, h1, h2, h3⟩ := ar a ha
  have hu : us = vs := by
    rcases h3 with q | q
    · rw [e] at q
      exact absurd (Value.type.inj (seq_inj q).1) (by decide)
    · rw [e] at q
      exact (seq_inj q).2.symm
  subst hu
  refine ⟨h2, ?_⟩
  cases hk : K.lookup a with
  | none => exact .inl (.inr ⟨_, by rw [argH_at ha hk e, hoOf_tup]⟩)
  | some o =>
    have e2 := KX a o hk
    rw [e] at e2
    obtain rfl := Option.some.inj e2
    exact .inr ⟨_, us.toArray, _, hk, rfl, rfl, by rw [List.size_toArray]; exact h1, by simpa using vals_toV h2⟩
mutual
theorem dw_one {Pm : Params} (KX : K.In h) (ar : ∀ a ∈ A, ArgOb h A a) : ∀ (d : WData) (v : Value), Well Pm h v d → plW d = true → OkU A v → Dw K (argH K h A) (toV v) d
  | .none, _, x, _, _ => by
    cases x
    exact .non
  | .bool b, _, x, _, _ => by
    cases x
    exact .bl b
  | .int i, _, x, _, _ => by
    cases x
    exact .int i
  | .str s, _, x, _, _ => by
    cases x
    exact .str s
  | .bytes b, _, x, _, _ => by
    cases x
    have z := Dw.byt (K := K) (H := argH K h A) b.toArray
    exact z
  | .list ds, _, x, p, hu => by
    obtain ⟨a, vs, rfl, ho, hall⟩ := well_list x
    obtain ⟨h2, hs⟩ := argL KX ar hu ho
    exact .lst hs (dw_all KX ar ds _ hall p h2)
  | .tuple ds, _, x, p, hu => by
    obtain ⟨a, vs, rfl, ho, hall⟩ := well_tuple x
    obtain ⟨h2, hs⟩ := argT KX ar hu ho
    exact .tup hs (dw_all KX ar ds _ hall p h2)
  | .float _, _, _, p, _ => Bool.noConfusion (show false = true from p)
  | .dict _, _, _, p, _ => Bool.noConfusion (show false = true from p)
  | .bytearray _, _, _, p, _ => Bool.noConfusion (show false = true from p)
  | .set _, _, _, p, _ => Bool.noConfusion (show false = true from p)
  | .frozenset _, _, _, p, _ => Bool.noConfusion (show false = true from p)
  | .obj _ _, _, _, p, _ => Bool.noConfusion (show false = true from p)
theorem dw_all {Pm : Params} (KX : K.In h) (ar : ∀ a ∈ A, ArgOb h A a) : ∀ (ds : List WData) (vs : List Value), WellAll Pm h vs ds → plWs ds = true → (∀ u ∈ vs, OkU A u) → DwAll K (argH K h A) (vs.map toV) ds
  | [], _, x, _, _ => by
    cases x
    exact .nil
  | d :: ds, _, x, p, hu => by
    obtain ⟨v, vs, rfl, x1, x2⟩ := well_cons x
    have q : plW d = true ∧ plWs ds = true := Bool.and_eq_true_iff.mp p
    exact .cons (dw_one KX ar d v x1 q.1 (hu _ (List.mem_cons_self ..))) (dw_all KX ar ds vs x2 q.2 fun u m => hu u (List.mem_cons_of_mem _ m))
end
end
theorem spec_call {P : Program} {w : World} {K : PySem.W.Frag} {mg mb : Str → Option Value} {CX : CXT} {k : Nat} {fa : Addr} {fd : FuncData} {ps : List Str} {sp : Sp} {s₁ : Shared} {vals : List Value} {ds : List WData} {R : PySem.W.WRecords} {cl : Str → Option Addr} {d0 : WData}
    (KX : K.In s₁.heap) (hns : s₁.heap.Ns mainGlobals mg) (hb : s₁.heap.Ns builtinsNs mb) (hbb : ∀ x : Str, x ≠ "__name__" → mb x = bootBuiltins x) (hlim : s₁.heap.NoLimit) (hg : s₁.gens = #[])
    (hwl : WellAll w.params s₁.heap vals ds) (hpl : plWs ds = true) (hwt : ∀ d ∈ ds, d.weight ≤ 1048576) (hr : Room k callerA)
    (F : ∀ base : Heap, K.In base → base.Ns mainGlobals mg → FnOk P w K mg base CX k fa fd ps sp) (hbind : ∀ (s : Shared) (us : List Value), us.length = ps.length → BindsTo s fd ⟨us, []⟩ (ps.zip us)) (hlen : ds.length = ps.length)
    (hsp : ∀ (H : Hp) (xs : List V), OnlyF H → DwAll K H xs ds → sp xs H (fun v H' => Dw K H' v d0) fun _ _ _ => False)
    (hCX : ∀ H e s', CX [] H s₁ (fun _ _ _ => False) e s' → False) :
    codeAny (model P w) callerA (.call (.ref fa) ⟨vals, []⟩) (fun r s' => ∃ u as, r = .ok (.ret u) ∧ ReadsW R cl s'.heap u d0 as ∧ OldK s₁.heap s'.heap ∧ s'.os = s₁.os ∧ AllBare s'.gens) s₁ := by
  obtain ⟨A, ho, ar⟩ := area_all ds vals hwl hpl hwt
  have hO : OnlyF (argH K s₁.heap A) := argH_only ar
  have hok : HOk P w (argH K s₁.heap A) s₁.heap := argH_ok ar
  have hS := dw_all KX ar ds vals hwl hpl ho
  have hV := vals_toV ho
  have hK : ∀ b u, argH K s₁.heap A b = some u → K.lookup b = none := fun b u q => (argH_is ar q).1
  have noA : ∀ {b : Addr} {o : Obj} {es : Array DictEntry} {ep : Nat}, s₁.heap.get? b = some o → o.data = .dict es ep → argH K s₁.heap A b = none := fun {b o es ep} e d => by
    cases q : argH K s₁.heap A b with
    | none => rfl
    | some u =>
      obtain ⟨_, vs, _, _, ⟨e2, _⟩ | ⟨e2, _⟩⟩ := argH_is ar q
      · rw [e2] at e
        cases e
        have d' : Data.seq vs.toArray _ = Data.dict es ep := d
        cases d'
      · rw [e2] at e
        cases e
        have d' : Data.seq vs.toArray _ = Data.dict es ep := d
        cases d'
  generalize argH K s₁.heap A = H at hO hok hS hK noA
  have base_of : ∀ {b : Addr} {o : Obj}, s₁.heap.get? b = some o → H b = none → (hidT s₁.heap H).get? b = some o := fun e n => hidT_get e n
  have nsK : ∀ {b : Addr} {m : Str → Option Value}, s₁.heap.Ns b m → (hidT s₁.heap H).Ns b m := fun {b m} ⟨o, es, ep, e, d, r⟩ => ⟨o, es, ep, base_of e (noA e d), d, r⟩
  have nK : ∀ b o, K.lookup b = some o → H b = none := fun b o e => by
    cases q : H b with
    | none => rfl
    | some u =>
      rw [hK b u q] at e
      cases e
  have hKb : K.In (hidT s₁.heap H) := fun b o e => base_of (KX b o e) (nK b o e)
  have hM : Mod K mg (hidT s₁.heap H) := ⟨hKb, nsK hns, ⟨mb, nsK hb, hbb⟩, let ⟨mc, h1, h2⟩ := hlim; ⟨mc, nsK h1, h2⟩⟩
  have e0 : Env0 P w K mg (hidT s₁.heap H) callerA [] s₁ H := ⟨rfl, hM, fun b o e => of_hidT e, Nat.le_of_eq (hidT_size _ _), trivial, fun b hb => absurd (show b ∈ ([] : List Addr) from hb) (by simp), hok, .of_eq hg⟩
  have hl : vals.length = ps.length := by rw [wellAll_len hwl]; exact hlen
  refine codeAny_mono ((F _ hKb (nsK hns)).run callerA [] s₁ H ⟨vals, []⟩ vals (vals.map toV) _ _ hr e0 (hbind s₁ vals hl) hV (hsp H _ hO hS)) fun r s' x => ?_
  cases r with
  | error e => exact (hCX H e s' x).elim
  | ok fl =>
    cases fl with
    | next => exact False.elim x
    | brk => exact False.elim x
    | cont => exact False.elim x
    | ret u =>
      obtain ⟨v, H', os, bare, un, hok', r', q⟩ := x
      have kept : ∀ b o, s₁.heap.get? b = some o → s'.heap.get? b = some o := fun b o e => by
        cases q2 : H b with
        | none => exact un.keep b o e q2 (by intro z; exact absurd (show b ∈ ([] : List Addr) from z) (by simp)) (by simp)
        | some u2 =>
          rcases hO b with z | ⟨ob, u3, z⟩
          · rw [q2] at z
            cases z
          · have z2 := un.frzs b ob _ z
            obtain ⟨e1, _⟩ := hok b _ z
            obtain ⟨e2, _⟩ := hok' b _ z2
            rw [e] at e1
            cases e1
            exact e2
      have KX' : K.In s'.heap := fun b o e => kept b o (KX b o e)
      obtain ⟨as, hrd⟩ := Dw.reads (R := R) (cl := cl) hok' KX' d0 v u q r'
      exact ⟨u, as, rfl, hrd, OldK.of_keep kept, os, bare⟩
theorem layable_weight {ds : List WData} (h : WData.layableAll ds = true) : ∀ d ∈ ds, d.weight ≤ 1048576 := fun d hd =>
  (PySem.W.layableW_iff.mp (List.all_eq_true.mp h d hd)).2.2
theorem encAll_len : ∀ (cs : List Codec) (a : Codec.denoteAll cs), (Codec.encAll cs a).length = cs.length
  | [], _ => rfl
  | c :: cs, a => by
    show (Codec.encAll cs a.2).length + 1 = cs.length + 1
    rw [encAll_len cs a.2]
theorem walk_spec {r : OpenSpec} {k : Nat} {q : Program} {loose : List Str} {XP : (Str → Option Value) → Heap → Prop} {YP : World → Heap → Prop} {d : DefRec} {K : Params → PySem.W.Frag} {CX : World → CXT} {ps : List Str} {sp : World → Sp}
    (hwell : r.wellSaid = true) (hdf : d.params.defaults = []) (hlen : r.args.length = ps.length) (hr : Room k callerA)
    (hY : ∀ (w : World) (h : Heap), YP w h → (K w.params).In h)
    (F : ∀ (w : World) (mg : Str → Option Value) (fa : Addr) (h : Heap), YP w h → (K w.params).In h → h.Ns mainGlobals mg → mg d.name = some (.ref fa) →
      ∃ fd : FuncData, (∀ (s : Shared) (us : List Value), us.length = ps.length → BindsTo s fd ⟨us, []⟩ (ps.zip us)) ∧
        ∀ base : Heap, (K w.params).In base → base.Ns mainGlobals mg → FnOk r.prog w (K w.params) mg base (CX w) k fa fd ps (sp w))
    (hsp : ∀ (w : World) (H : Hp) (xs : List V) (a : Codec.denoteAll r.args), OnlyF H → Codec.withinAll r.args a = true → Codec.app r.args r.asked a = true → DwAll (K w.params) H xs (Codec.encAll r.args a) →
      sp w xs H (fun v H' => Dw (K w.params) H' v (r.ret.enc (Codec.app r.args r.f a))) fun _ _ _ => False)
    (hCX : ∀ (w : World) (H : Hp) (s : Shared) (e : Value) (s' : Shared), CX w [] H s (fun _ _ _ => False) e s' → False) :
    PySem.W.WalkOS q loose XP YP r d [] (fun f vs => PySem.call f vs) := by
  intro w s_0 s₁ mg mb G Y fa o pm cd doc dV kV ho hd hcd hD hmg hg args vals as hpre hlay hrd hwl hlo
  obtain ⟨a, e1, e2⟩ := PySem.W.os_pre_some hpre
  obtain ⟨e3, hwi⟩ := Codec.encAll_of_decAll r.args args a e1
  subst e3
  have KX := hY w _ Y
  obtain ⟨fd, hb, hF⟩ := F w mg fa _ Y KX G.T.g hmg
  refine PySem.W.enter_call (codeAny_mono (spec_call (R := []) (cl := classAt s_0.heap) (d0 := r.ret.enc (Codec.app r.args r.f a)) KX G.T.g G.T.b G.T.builtins G.T.nolimit hg hwl (pl_encAll _ _) (layable_weight hlay) hr hF hb (by rw [encAll_len]; exact hlen)
    (fun H xs hO hS => hsp w H xs a hO hwi e2 hS) fun H e s' => hCX w H s₁ e s') fun r' s' hq => ?_)
  obtain ⟨u, as', rfl, h1, h2, h3, h4⟩ := hq
  exact ⟨.inl ⟨u, _, as', rfl, fun _ => rfl, h1, (OpenSpec.post_iff hwell hwi _ _).mpr rfl, fun z => Bool.noConfusion (show false = true from z)⟩, h2, h3, h4⟩
end L2
-- rests on (row put in by the clerk, for the bench that shows a file only what it spells): KE.SpHead KE.OsShapes

namespace L2
open PySem PySem.Spec PyProof.Rows
open PySem.W (WData Codec OpenSpec Well WellAll ReadsW ReadsAllW)
theorem walk_specX {r : OpenSpec} {k : Nat} {q : Program} {loose : List Str} {XP : (Str → Option Value) → Heap → Prop} {YP : World → Heap → Prop} {d : DefRec} {K : Params → PySem.W.Frag} {CX : World → CXT} {ps : List Str} {sp : PySem.W.Frag → Sp}
    (hwell : r.wellSaid = true) (hdf : d.params.defaults = []) (hlen : r.args.length = ps.length) (hr : Room k callerA)
    (hY : ∀ (w : World) (h : Heap), YP w h → (K w.params).In h)
    (F : ∀ (w : World) (mg : Str → Option Value) (fa : Addr) (h : Heap), YP w h → (K w.params).In h → h.Ns mainGlobals mg → mg d.name = some (.ref fa) →
      ∃ fd : FuncData, (∀ (s : Shared) (us : List Value), us.length = ps.length → BindsTo s fd ⟨us, []⟩ (ps.zip us)) ∧
        ∀ base : Heap, (K w.params).In base → base.Ns mainGlobals mg → FnOk r.prog w (K w.params) mg base (CX w) k fa fd ps (sp (K w.params)))
    (hsp : ∀ (K : PySem.W.Frag) (H : Hp) (xs : List V) (a : Codec.denoteAll r.args), OnlyF H → Codec.withinAll r.args a = true → Codec.app r.args r.asked a = true → DwAll K H xs (Codec.encAll r.args a) →
      sp K xs H (fun v H' => Dw K H' v (r.ret.enc (Codec.app r.args r.f a))) fun _ _ _ => False)
    (hCX : ∀ (w : World) (H : Hp) (s : Shared) (e : Value) (s' : Shared), CX w [] H s (fun _ _ _ => False) e s' → False) :
    PySem.W.WalkOS q loose XP YP r d [] (fun f vs => PySem.call f vs) :=
  walk_spec (K := K) (CX := CX) (sp := fun w => sp (K w.params)) hwell hdf hlen hr hY F (fun w H xs a h1 h2 h3 h4 => hsp (K w.params) H xs a h1 h2 h3 h4) fun w H s e s' => hCX w H s e s'
end L2

end
section
set_option Elab.async false
set_option linter.all false
set_option maxRecDepth 100000
namespace Xc
open PySem

noncomputable def HeadOk (h : Heap) (x : Addr) (head : Value) : Prop :=
  head = .none ∨ ∃ T oT ts, head = .ref T ∧ T ≠ x ∧ h.get? T = some oT ∧ oT.data = .fields ts ∧ ts[3]? = some Value.none

section
variable {M : Model} {A : Around} {E : Value → Shared → Prop} {s : Shared}

theorem xnew {base : Heap} {env : Env} {outer : List Env} {L x : Addr} {oe : Obj} {vs : Array Value} {head : Value} {hn : Bool} {Q : Unit → Shared → Prop}
    (hfr : A.frames = some (env :: outer)) (hl : s.heap.FunFrames base (env :: outer)) (hf : env.frame = some L)
    (he : s.heap.get? x = some oe) (hd : oe.data = .fields vs) (hz : 1 < vs.size)
    (hQ : ∀ (h' : Heap) (T' : Addr) (oT : Obj) (ts : Array Value), s.heap.get? T' = none → T' ≠ x → s.heap.objs.size ≤ T' → h'.get? x = some (oe.mapFields (·.setIfInBounds 1 (.ref T'))) →
      h'.get? T' = some oT → oT.data = .fields ts → ts[3]? = some (rawInt L) →
      (∀ b o, b ≠ x → b ∉ (env :: outer).filterMap (·.frame) → s.heap.get? b = some o → h'.get? b = some o) →
      (∀ b o, b ∈ (env :: outer).filterMap (·.frame) → s.heap.get? b = some o → ∃ sl, h'.get? b = some { o with slots := sl }) → Q () { s with heap := h' }) :
    wpAny M A (do let a ← frameOf env; let pl ← entryPlaceOf L hn; let b ← EntryCells.newEntry head a .none (rawInt L) .none pl; setField (.ref x) 1 b) Q E s := by
  have nx : x ∉ (env :: outer).filterMap (·.frame) := fun hm => by
    obtain ⟨_, o, ho, nf⟩ := hl.mem hm
    exact nf vs (by rw [he] at ho; cases ho; exact hd)
  refine wpAny_bind (wpAny_frameOf_fun hfr hl hf fun h1 k1 => wpAny_bind (wpAny_entryPlaceOf fun pl hpl => ?_))
  have e1 : h1.get? x = some oe := (k1.2.1 x nx).trans he
  unfold EntryCells.newEntry newFields
  refine wpAny_bind (wpAny_newObj_type ?_ (hpl.sizeOk5 _ _ _ _ _))
  generalize hob : ({ cls := .type "traceback", dict := none, data := .fields ([head, .ref L, .none, rawInt L, .none] ++ (if pl.isEmpty then List.replicate 6 Value.none else pl)).toArray } : Obj) = ob
  have e2 : (h1.push ob).get? x = some oe := Heap.get?_push_of_some _ e1
  refine wpAny_setField e2 hd hz ?_
  have nT : h1.objs.size ≠ x := Nat.ne_of_gt (Heap.lt_size e1)
  have sz : h1.objs.size = s.heap.objs.size := k1.1
  have dd := Obj.data_mapFields hd (·.setIfInBounds 1 (Value.ref h1.objs.size))
  have hobf : ob.isFreed = false := by rw [← hob]; rfl
  have eT : ((h1.push ob).update x (Obj.mapFields (·.setIfInBounds 1 (Value.ref h1.objs.size)))).get? h1.objs.size = some ob :=
    (Heap.get?_update_other _ _ (Ne.symm nT)).trans (Heap.get?_push_size h1 hobf)
  refine hQ _ h1.objs.size ob ([head, .ref L, .none, rawInt L, .none] ++ (if pl.isEmpty then List.replicate 6 Value.none else pl)).toArray ?_ nT (Nat.le_of_eq sz.symm) ?_ eT (by rw [← hob]) (by simp) ?_ ?_
  · exact Heap.get?_none_of_le (Nat.le_of_eq sz.symm)
  · exact Heap.get?_update_self _ e2 (Obj.isFreed_of_fields dd)
  · intro b o hb hnf ho
    rw [Heap.get?_update_other _ _ (Ne.symm hb)]
    exact Heap.get?_push_of_some _ ((k1.2.1 b hnf).trans ho)
  · intro b o hbf ho
    obtain ⟨sl, hs⟩ := k1.2.2 b o ho
    have hb : b ≠ x := fun q => nx (q ▸ hbf)
    exact ⟨sl, by rw [Heap.get?_update_other _ _ (Ne.symm hb)]; exact Heap.get?_push_of_some _ hs⟩

theorem xnote {base : Heap} {env : Env} {outer : List Env} {L x : Addr} {oe : Obj} {vs : Array Value} {head : Value} {Q : Unit → Shared → Prop}
    (hfr : A.frames = some (env :: outer)) (hl : s.heap.FunFrames base (env :: outer)) (hf : env.frame = some L)
    (he : s.heap.get? x = some oe) (hd : oe.data = .fields vs) (h1 : vs[1]? = some head) (hh : HeadOk s.heap x head)
    (hQ : ∀ (h' : Heap) (T' : Addr) (oT : Obj) (ts : Array Value), s.heap.get? T' = none → T' ≠ x → s.heap.objs.size ≤ T' → h'.get? x = some (oe.mapFields (·.setIfInBounds 1 (.ref T'))) →
      h'.get? T' = some oT → oT.data = .fields ts → ts[3]? = some (rawInt L) →
      (∀ b o, b ≠ x → b ∉ (env :: outer).filterMap (·.frame) → s.heap.get? b = some o → h'.get? b = some o) →
      (∀ b o, b ∈ (env :: outer).filterMap (·.frame) → s.heap.get? b = some o → ∃ sl, h'.get? b = some { o with slots := sl }) →
      (∀ b o, s.heap.get? b = some o → ∃ o', h'.get? b = some o') → Q () { s with heap := h' }) :
    wpAny M A (noteFrame (.ref x) env) Q E s := by
  have hz : 1 < vs.size := (Array.getElem?_eq_some_iff.mp h1).1
  unfold noteFrame
  simp only [hf]
  refine wpAny_bind (wpAny_field he hd h1 ?_)
  rcases hh with rfl | ⟨T, oT, ts, rfl, hTx, hT, hTd, hT3⟩
  · rw [if_neg (by decide)]
    refine xnew hfr hl hf he hd hz fun h' T' oT ts a1 a2 a3 a4 a5 a6 a7 a8 a9 => hQ h' T' oT ts a1 a2 a3 a4 a5 a6 a7 a8 a9 fun b o e => ?_
    by_cases hb : b = x
    · subst hb; exact ⟨_, a4⟩
    · by_cases hm : b ∈ (env :: outer).filterMap (·.frame)
      · obtain ⟨sl, q⟩ := a9 b o hm e; exact ⟨_, q⟩
      · exact ⟨o, a8 b o hb hm e⟩
  · rw [if_pos (show (Value.ref T != Value.none) = true from by simp)]
    refine wpAny_bind (wpAny_field hT hTd hT3 ?_)
    rw [if_neg (show ¬ ((Value.none == rawInt L) = true) from by simp [rawInt])]
    refine wpAny_bind (wpAny_setField hT hTd (Array.getElem?_eq_some_iff.mp hT3).1 ?_)
    rw [Heap.update_setField_same s.heap T oT ts 3 Value.none hT hTd hT3]
    refine xnew hfr hl hf he hd hz fun h' T' oT' ts' a1 a2 a3 a4 a5 a6 a7 a8 a9 => hQ h' T' oT' ts' a1 a2 a3 a4 a5 a6 a7 a8 a9 fun b o e => ?_
    by_cases hb : b = x
    · subst hb; exact ⟨_, a4⟩
    · by_cases hm : b ∈ (env :: outer).filterMap (·.frame)
      · obtain ⟨sl, q⟩ := a9 b o hm e; exact ⟨_, q⟩
      · exact ⟨o, a8 b o hb hm e⟩
theorem xland {x T : Addr} {oe oT : Obj} {vs ts : Array Value} {fl : Value} {Q : Unit → Shared → Prop} (he : s.heap.get? x = some oe) (hd : oe.data = .fields vs) (h1 : vs[1]? = some (.ref T)) (hT : s.heap.get? T = some oT) (hTd : oT.data = .fields ts) (h3 : ts[3]? = some fl)
    (hQ : ∀ (h' : Heap) (oT' : Obj) (ts' : Array Value), h'.get? T = some oT' → oT'.data = .fields ts' → ts'[3]? = some .none → (∀ b, b ≠ T → h'.get? b = s.heap.get? b) → Q () { s with heap := h' }) :
    wpAny M A (setFlight (.ref x) none) Q E s := by
  have hz : 3 < ts.size := (Array.getElem?_eq_some_iff.mp h3).1
  unfold setFlight
  refine wpAny_bind (wpAny_field he hd h1 ?_)
  rw [if_pos (show (Value.ref T != Value.none) = true from by simp)]
  refine wpAny_setField hT hTd hz (hQ _ _ _ (Heap.get?_update_self _ hT (Obj.isFreed_of_fields (Obj.data_mapFields hTd _))) (Obj.data_mapFields hTd _) (by simp [hz]) fun b hb => Heap.get?_update_other _ _ (Ne.symm hb))
end
end Xc
namespace Xc
open PySem
open Builtin Builtin.ObjectAttr
noncomputable abbrev bmV : List Value := [.type "ValueError", .type "Exception", .type "BaseException", .type "object"]
noncomputable abbrev xobj (C : Addr) (dict : Option Addr) (t : Addr) : Obj := { cls := .ref C, dict := dict, data := .fields #[.ref t, .none, .none, .none, .bool false, .none] }
section
variable {prog : Program} {w : World} {A : Around} {E : Value → Shared → Prop} {h : Heap} {g : Array GenState} {d : Drawn} {t : Nat} {os : OsState}
variable {nm q : Str} {C N x : Addr} {bs : List Value} {sn : List Str} {sub : List Value} {ab : Bool} {col : Option Bool} {dd : Option Addr} {k0 k1 k2 k3 k5 : Option Value}
  {mN : Str → Option Value} {name : Str} {v : Value}

theorem xstore_entry {tk : Tok} {a0 : Addr} {Q : Fin → Shared → Prop} (hC : h.get? C = some (excClassObj nm q C N bs bmV true sn sub ab col dd k0 k1 k2 k3 k5 "ValueError.__new__")) (hn : h.Ns N mN) (hna : mN name = none)
    (hB : typeLookup (.type "ValueError") name = pure none) (hx : h.get? x = some (xobj C none a0))
    (hq : ∀ h' tk' dx, h.objs.size ≤ dx → dx ≠ x → h'.get? x = some (xobj C (some dx) a0) → h'.Ns1 dx (fun y => if y = name then some v else none) →
      (∀ b o, b ≠ x → h.get? b = some o → h'.get? b = some o) → Q (.done (.ret .none)) ⟨h', g, d, tk', os⟩) :
    wpAny (model prog w) A (Builtin.«object.__setattr__» ⟨[.ref x, .str name tk, v], []⟩) Q E ⟨h, g, d, t, os⟩ := by
  have SF := F.store_ValueError
  have pass := SF.passes (.ref x)
  have hxs : x ≠ h.objs.size := Nat.ne_of_lt (Heap.lt_size hx)
  have hx1 : (h.push { cls := .type "dict", data := .dict #[] }).get? x = some (xobj C none a0) := Heap.get?_push_of_some _ hx
  generalize hg1 : ((h.push { cls := .type "dict", data := .dict #[] }).update x fun o => { cls := o.cls, dict := some h.objs.size, data := o.data, slots := o.slots }) = h1 at *
  have e1 : h1.get? h.objs.size = some { cls := .type "dict", data := .dict #[] } := by rw [← hg1]; exact (Heap.get?_update_ne _ _ _ _ hxs.symm).trans (Heap.get?_push_at rfl rfl)
  have e2 : h1.get? x = some (xobj C (some h.objs.size) a0) := by rw [← hg1]; exact Heap.get?_update_self _ hx1 rfl
  have e3 : ∀ b o, b ≠ x → h.get? b = some o → h1.get? b = some o := fun b o hb ho => by rw [← hg1]; exact (Heap.get?_update_ne _ _ _ _ hb).trans (Heap.get?_push_of_some _ ho)
  have e4 : h1.Ns1 h.objs.size (fun _ => none) := Heap.Ns1.of_empty ⟨_, #[], _, e1, rfl, fun e he => absurd he (by simp), fun _ => rfl⟩
  unfold Builtin.«object.__setattr__»
  repeat (first | with_reducible refine wpAny_nsSet1 (s := ⟨h1, g, d, t, os⟩) e4 ?_ | rw [hg1] | rw [refuse_eq] | (rw [refuseLoop_ref, pass]) | with_reducible refine wpAny_loadPart_at hx ?_ | with_reducible refine wpAny_mroOf_exc hC ?_ | (with_reducible refine wpAny_typeLookup_exc hC hn SF.mro hB ?_; rw [hna]) | wp_step)
  intro h' hn' hs
  obtain ⟨oD, esD, epD, hoD, hdD, hcD⟩ := hn'.count (Within.cons name v Within.nil)
  refine wpAny_bind (wpAny_lookBehind hoD (by rw [hdD]; exact pastItsLine_dict (Nat.le_trans hcD (by rw [List.length_cons, List.length_nil, sizeLine_eq]; omega))) (wpAny_pure ?_))
  exact hq h' _ h.objs.size (Nat.le_refl _) hxs.symm ((hs.2 x hxs).trans e2) hn' fun b o hb ho => (hs.2 b (Nat.ne_of_lt (Heap.lt_size ho))).trans (e3 b o hb ho)

theorem xstore_call {sa owner : String} {tk : Tok} {a0 : Addr} {R : Result → Shared → Prop} (SF : StoreFacts "ValueError" bmV sa owner) (hC : h.get? C = some (excClassObj nm q C N bs bmV true sn sub ab col dd k0 k1 k2 k3 k5 "ValueError.__new__")) (hn : h.Ns N mN) (hna : mN name = none)
    (hB : typeLookup (.type "ValueError") name = pure none) (hx : h.get? x = some (xobj C none a0))
    (hq : ∀ h' tk' dx, h.objs.size ≤ dx → dx ≠ x → h'.get? x = some (xobj C (some dx) a0) → h'.Ns1 dx (fun y => if y = name then some v else none) →
      (∀ b o, b ≠ x → h.get? b = some o → h'.get? b = some o) → R (.ok (.ret .none)) ⟨h', g, d, tk', os⟩) :
    codeAny (model prog w) A (.call (.builtin sa) ⟨[.ref x, .str name tk, v], []⟩) R ⟨h, g, d, t, os⟩ := by
  have ho : ∃ o, h.get? x = some o ∧ o.cls = .ref C := ⟨_, hx, rfl⟩
  obtain ⟨o, ho, hc⟩ := ho
  exact codeAny_call_builtin SF.slot.plain SF.entry (wpAny_check_sa SF hC ho hc (xstore_entry hC hn hna hB hx hq))
theorem xstore_by {sa owner : String} {a0 : Addr} {Q : Unit → Shared → Prop} (SF : StoreFacts "ValueError" bmV sa owner) (hC : h.get? C = some (excClassObj nm q C N bs bmV true sn sub ab col dd k0 k1 k2 k3 k5 "ValueError.__new__")) (hn : h.Ns N mN) (hns : mN "__setattr__" = none) (hna : mN name = none)
    (hB : typeLookup (.type "ValueError") name = pure none) (hx : h.get? x = some (xobj C none a0))
    (hq : ∀ h' tk' dx, h.objs.size ≤ dx → dx ≠ x → h'.get? x = some (xobj C (some dx) a0) → h'.Ns1 dx (fun y => if y = name then some v else none) →
      (∀ b o, b ≠ x → h.get? b = some o → h'.get? b = some o) → Q () ⟨h', g, d, tk', os⟩) :
    wpAny (model prog w) A (setAttr (.ref x) name v) Q E ⟨h, g, d, t, os⟩ := by
  have bnd := SF.slot.bind (.ref x)
  have hx0 : ∃ o, h.get? x = some o ∧ o.cls = .ref C := ⟨_, hx, rfl⟩
  obtain ⟨o, ho, hc⟩ := hx0
  unfold setAttr callSpecial? specialOf
  repeat (first | (with_reducible refine wpAny_loadPart_at ho ?_; rw [hc]) | (with_reducible refine wpAny_typeLookup_exc hC hn SF.mro SF.slot.lookup ?_; rw [hns]) | (with_reducible refine wpAny_of_eq bnd ?_) | wp_step)
  refine xstore_call SF hC hn hna hB hx fun h' tk' dx a1 a2 a3 a4 a5 => ?_
  exact wpAny_pure (wpAny_pure (hq h' tk' dx a1 a2 a3 a4 a5))
theorem xstore {a0 : Addr} {Q : Unit → Shared → Prop} (hC : h.get? C = some (excClassObj nm q C N bs bmV true sn sub ab col dd k0 k1 k2 k3 k5 "ValueError.__new__")) (hn : h.Ns N mN) (hns : mN "__setattr__" = none) (hna : mN name = none)
    (hB : typeLookup (.type "ValueError") name = pure none) (hx : h.get? x = some (xobj C none a0))
    (hq : ∀ h' tk' dx, h.objs.size ≤ dx → dx ≠ x → h'.get? x = some (xobj C (some dx) a0) → h'.Ns1 dx (fun y => if y = name then some v else none) →
      (∀ b o, b ≠ x → h.get? b = some o → h'.get? b = some o) → Q () ⟨h', g, d, tk', os⟩) :
    wpAny (model prog w) A (setAttr (.ref x) name v) Q E ⟨h, g, d, t, os⟩ := xstore_by F.store_ValueError hC hn hns hna hB hx hq

theorem xraise {env : Env} {s : Shared} {y : Sem Value} {Q : Flow → Shared → Prop} (hh : A.handled = none)
    (hy : wpAny (model prog w) A y (fun v s1 => ∃ x nm q C N bs sn sub ab col dd k0 k1 k2 k3 k5 dx t, v = .ref x ∧ s1.heap.get? C = some (excClassObj nm q C N bs bmV true sn sub ab col dd k0 k1 k2 k3 k5 "ValueError.__new__") ∧
      s1.heap.get? x = some (xobj C dx t) ∧ E (.ref x) s1) E s) : wpAny (model prog w) A (raiseStmt env (some y) none) Q E s := by
  unfold raiseStmt
  refine wpAny_bind (wpAny_mono hy (fun v s1 h1 => ?_) fun _ _ z => z)
  obtain ⟨x, nm, q, C, N, bs, sn, sub, ab, col, dd, k0, k1, k2, k3, k5, dx, t, rfl, hC, hx, hE⟩ := h1
  obtain ⟨hp, g, d, tk, os⟩ := s1
  have hcB : (Value.ref C :: bmV).contains (.type "BaseException") = true := by rw [List.contains_cons, F.excBase_ValueError.hasBase, Bool.or_true]
  repeat (first | with_reducible refine wpAny_loadPart_at hx ?_ | with_reducible refine wpAny_loadPart_at hC ?_ | (with_reducible refine wpAny_isSubtype_exc hC ?_; rw [hcB]) | wp_step)
  exact wpAny_raiseNew_none hh hE

theorem xinit {dx : Option Addr} {a0 : Addr} {rest : List Value} {Q : Value → Shared → Prop} (hC : h.get? C = some (excClassObj nm q C N bs bmV true sn sub ab col dd k0 k1 k2 k3 k5 "ValueError.__new__"))
    (hx : h.get? x = some (xobj C dx a0)) (hz : rest.length ≤ sizeLine)
    (hq : ∀ h' a1, h'.get? x = some (xobj C dx a1) → (∀ b o, b ≠ x → h.get? b = some o → h'.get? b = some o) → Q .none ⟨h', g, d, t, os⟩) :
    wpAny (model prog w) A (call (.builtin "ValueError.__init__") (.ref x :: rest)) Q E ⟨h, g, d, t, os⟩ := by
  have F := F.excBase_ValueError
  refine wpAny_call (codeAny_call_builtin F.init.plain F.initEntry (wpAny_check_init_sub F hC hx rfl ?_))
  unfold Builtin.«BaseException.__init__»
  wp_walk
  refine hq _ h.objs.size ?_ fun b o hb ho => ?_
  · exact (Heap.get?_update_self _ (Heap.get?_push_of_some _ hx) rfl).trans rfl
  · exact (Heap.get?_update_ne _ _ _ _ hb).trans (Heap.get?_push_of_some _ ho)

theorem xload_entry {dx : Addr} {tk : Tok} {oe : Obj} {vs : Array Value} {mA : Str → Option Value} {Q : Fin → Shared → Prop} (hC : h.get? C = some (excClassObj nm q C N bs bmV true sn sub ab col dd k0 k1 k2 k3 k5 "ValueError.__new__")) (hn : h.Ns N mN)
    (hna : mN name = none) (hB : typeLookup (.type "ValueError") name = pure none) (hx : h.get? x = some oe) (hc : oe.cls = .ref C) (hd : oe.dict = some dx) (hv' : oe.data = .fields vs) (hA : h.Ns1 dx mA) (hv : mA name = some v)
    (hq : Q (.done (.ret v)) ⟨h, g, d, t, os⟩) : wpAny (model prog w) A (Builtin.«object.__getattribute__» ⟨[.ref x, .str name tk], []⟩) Q E ⟨h, g, d, t, os⟩ := by
  have SF := F.store_ValueError
  unfold Builtin.«object.__getattribute__»
  repeat (first | (with_reducible refine wpAny_loadPart_at hx ?_; rw [hc]) | (with_reducible refine wpAny_typeLookup_exc hC hn SF.mro hB ?_; rw [hna]) | wp_step)
  rw [hv']
  unfold instanceDict
  repeat (first | (with_reducible refine wpAny_loadPart_at hx ?_; rw [hc]) | with_reducible refine wpAny_loadPart_at hC ?_ | wp_step)
  rw [hd]
  repeat (first | (with_reducible refine wpAny_nsGet hA.ns ?_; rw [hv]) | wp_step)
  exact hq
theorem xcheck_ga {M : Model} {nameV : Value} {oe : Obj} {Q : Unit → Shared → Prop} (hC : h.get? C = some (excClassObj nm q C N bs bmV true sn sub ab col dd k0 k1 k2 k3 k5 "ValueError.__new__")) (hx : h.get? x = some oe) (hc : oe.cls = .ref C)
    (hq : Q () ⟨h, g, d, t, os⟩) : wpAny M A (checkBuiltinCall "BaseException.__getattribute__" ⟨[.ref x, nameV], []⟩) Q E ⟨h, g, d, t, os⟩ := by
  have e1 : builtinKind "BaseException.__getattribute__" = some .slot := by decide +kernel
  have e2 : splitId "BaseException.__getattribute__" = some ("BaseException", "__getattribute__") := by decide +kernel
  have e3 : (Value.ref C :: bmV).contains (.type "BaseException") = true := by rw [List.contains_cons, F.excBase_ValueError.hasBase, Bool.or_true]
  have e4 := F.args_bexc_ga (.ref x) nameV
  simp only [checkBuiltinCall, e1, e2]
  refine wpAny_bind ?_
  unfold isInstance
  repeat (first | (with_reducible refine wpAny_loadPart_at hx ?_; rw [hc]) | (with_reducible refine wpAny_isSubtype_exc hC ?_; rw [e3]) | wp_step)
  exact hq
theorem xload_call {dx : Addr} {tk : Tok} {oe : Obj} {vs : Array Value} {mA : Str → Option Value} {R : Result → Shared → Prop} (FB : ExcAttrBase "ValueError" bmV) (hC : h.get? C = some (excClassObj nm q C N bs bmV true sn sub ab col dd k0 k1 k2 k3 k5 "ValueError.__new__")) (hn : h.Ns N mN)
    (hna : mN name = none) (hB : typeLookup (.type "ValueError") name = pure none) (hx : h.get? x = some oe) (hc : oe.cls = .ref C) (hd : oe.dict = some dx) (hv' : oe.data = .fields vs) (hA : h.Ns1 dx mA) (hv : mA name = some v)
    (hq : R (.ok (.ret v)) ⟨h, g, d, t, os⟩) : codeAny (model prog w) A (.call (.builtin "BaseException.__getattribute__") ⟨[.ref x, .str name tk], []⟩) R ⟨h, g, d, t, os⟩ :=
  codeAny_call_builtin FB.ga.plain F.entry_bexc_ga (xcheck_ga hC hx hc (xload_entry hC hn hna hB hx hc hd hv' hA hv hq))
theorem xload {dx : Addr} {oe : Obj} {vs : Array Value} {mA : Str → Option Value} {expr : Bool} {Q : Value → Shared → Prop} (hC : h.get? C = some (excClassObj nm q C N bs bmV true sn sub ab col dd k0 k1 k2 k3 k5 "ValueError.__new__")) (hn : h.Ns N mN)
    (hng : mN "__getattribute__" = none) (hnh : mN "__getattr__" = none) (hna : mN name = none) (hB : typeLookup (.type "ValueError") name = pure none) (hx : h.get? x = some oe) (hc : oe.cls = .ref C) (hd : oe.dict = some dx) (hv' : oe.data = .fields vs) (hA : h.Ns1 dx mA) (hv : mA name = some v)
    (hh : handedOut v = pure v) (hq : Q v ⟨h, g, d, t + 1, os⟩) : wpAny (model prog w) A (getAttr (.ref x) name expr) Q E ⟨h, g, d, t, os⟩ := by
  have FB := F.attrBase_ValueError
  have f3 := FB.ga.bind (.ref x)
  have hx0 : (expr && onTheHeap (Value.builtin "BaseException.__getattribute__")) = false := by cases expr <;> rfl
  have hx2 : (Value.builtin "BaseException.__getattribute__" == Value.builtin "object.__getattribute__") = false := by decide +kernel
  have hx1 : (onTheHeap (Value.ref C) && Value.builtin "BaseException.__getattribute__" == Value.builtin "object.__getattribute__") = false := by rw [hx2]; rfl
  unfold getAttr
  repeat (any_goals (first | assumption | (with_reducible refine wpAny_loadPart_at hx ?_; rw [hc]) | (with_reducible refine wpAny_typeLookup_exc hC hn FB.mro FB.ga.lookup ?_; rw [hng]) | (with_reducible refine wpAny_typeLookup_exc hC hn FB.mro FB.noGetattr ?_; rw [hnh]) | wp_step))
  refine xload_call FB hC hn hna hB hx hc hd hv' hA hv ?_
  show wpAny _ _ (handedOut v) _ _ _
  rw [hh]
  exact wpAny_pure hq
end
end Xc

end
section
set_option Elab.async false
set_option linter.all false
set_option maxRecDepth 100000
set_option maxHeartbeats 2000000
namespace L2
open PySem PySem.Spec PyProof.Rows
section
variable {P : Program} {w : World} {H : Hp} {h h' : Heap} {a : Addr} {o : HO} {fs ex : List Addr}
theorem ObjOk.there (x : ObjOk P w H h a o) : ∃ u, h.get? a = some u := by
  cases o with
  | lst xs => obtain ⟨_, _, _, _, e⟩ := x; exact ⟨_, e⟩
  | tup xs => obtain ⟨_, _, _, ob, e, _⟩ := x; exact ⟨_, e⟩
  | dK kvs => obtain ⟨_, _, _, _, o, _, _, e, _⟩ := x; exact ⟨_, e⟩
  | dT kvs => obtain ⟨_, _, _, _, o, _, _, e, _⟩ := x; exact ⟨_, e⟩
  | set S n => obtain ⟨o, _, _, _, e, _⟩ := x; exact ⟨_, e⟩
  | ins C dx fs => obtain ⟨_, _, _, e, _⟩ := x; exact ⟨_, e⟩
  | own y => obtain ⟨_, e⟩ := x; exact ⟨_, e⟩
  | xd fs => obtain ⟨_, ⟨_, _, _, e, _⟩, _⟩ := x; exact ⟨_, e⟩
  | rng lo hi => obtain ⟨_, _, _, e⟩ := x; exact ⟨_, e⟩
  | frz ob u => obtain ⟨e, _⟩ := x; exact ⟨_, e⟩
  | tbl ps => exact ⟨_, (show h.get? a = some _ from x)⟩
  | met f y => exact ⟨_, (show h.get? a = some _ from x)⟩
  | ext φ => obtain ⟨_, e, _⟩ := x; exact e
theorem HOk.freeN (x : HOk P w H h) (e : h.get? a = none) : H a = none := by
  cases q : H a with
  | none => rfl
  | some u =>
    obtain ⟨v, hv⟩ := (x a u q).there
    rw [e] at hv; cases hv
theorem Un.laidN (k : ∀ b u, h.get? b = some u → h'.get? b = some u) (hp : h.get? a = none) (hn : H a = none) : Un fs ex H (upd H a o) h h' where
  keep := fun b u q _ _ _ => k b u q
  slot := fun b u q _ _ _ => ⟨u.slots, k b u q⟩
  free := fun b u q n _ => by rw [upd_ne (fun z => by subst z; rw [hp] at q; cases q)]; exact n
  there := fun b u q _ => ⟨u, k b u q⟩
  tups := fun b xs q => by rw [upd_ne (ne_of_none q hn)]; exact q
  frzs := fun b u xs q => by rw [upd_ne (ne_of_none q hn)]; exact q
  tbls := fun b ps q => ⟨#[], by rw [upd_ne (ne_of_none q hn), q]; simp⟩
theorem HOk.laidN (x : HOk P w H h) (k : ∀ b u, h.get? b = some u → h'.get? b = some u) (hn : H a = none) (new : ObjOk P w (upd H a o) h' a o) : HOk P w (upd H a o) h' := fun b u e => by
  by_cases hb : b = a
  · subst hb; rw [upd_same] at e; cases e; exact new
  · rw [upd_ne hb] at e
    exact (x b u e).stay (fun c v _ q => k c v q) (fun c q => by rw [upd_ne (ne_of_none q hn)]; exact q) fun c xs q => by rw [upd_ne (ne_of_none q hn)]; exact q
theorem upd_id {H : Hp} {a : Addr} {o : HO} (e : H a = some o) : upd H a o = H := by
  funext b; unfold upd; split
  · rename_i q; subst q; exact e.symm
  · rfl
end
theorem Inv.laidN {X : Cx} {pins : List (Addr × Obj)} {σ : St} {H : Hp} {s : Shared} {h' : Heap} {a : Addr} {o : HO} {t' : Nat} (I : Inv X pins σ H s) (k : ∀ b u, s.heap.get? b = some u → h'.get? b = some u) (hp : s.heap.get? a = none)
    (new : ObjOk X.prog X.w (upd H a o) h' a o) : Inv X pins σ (upd H a o) { s with heap := h', toks := t' } := I.un (Un.laidN k hp (I.hok.freeN hp)) (I.hok.laidN k (I.hok.freeN hp) new)

noncomputable def xnP (x C : Addr) (d : Option Addr) : Heap → Prop := fun h => ∃ a0, h.get? x = some (Xc.xobj C d a0)
noncomputable def xoP (x C d : Addr) (q : Bool) : Heap → Prop := fun h => ∃ oe vs, h.get? x = some oe ∧ oe.cls = .ref C ∧ oe.dict = some d ∧ oe.data = .fields vs ∧ 4 < vs.size ∧ (q = true → vs[2]? = some .none)
noncomputable abbrev xn (x C : Addr) (d : Option Addr) : HO := .ext (xnP x C d)
noncomputable abbrev xo (x C d : Addr) (q : Bool) : HO := .ext (xoP x C d q)
noncomputable def Qt (H : Hp) (d : Addr) (q : Bool) : Prop := ∀ fs, H d = some (.xd fs) → fs.lookup ("number" : Str) = none → q = true
section
variable {P : Program} {w : World} {H : Hp} {h : Heap} {x C a0 d : Addr} {dd : Option Addr}
theorem xn_ok (e : h.get? x = some (Xc.xobj C dd a0)) : ObjOk P w H h x (xn x C dd) := ⟨⟨a0, e⟩, ⟨_, e⟩, fun _ _ ⟨a, q⟩ k => ⟨a, k _ q⟩⟩
theorem xo_ok {oe : Obj} {vs : Array Value} {q : Bool} (e : h.get? x = some oe) (e1 : oe.cls = .ref C) (e2 : oe.dict = some d) (e3 : oe.data = .fields vs) (e4 : 4 < vs.size) (e5 : q = true → vs[2]? = some .none) : ObjOk P w H h x (xo x C d q) :=
  ⟨⟨oe, vs, e, e1, e2, e3, e4, e5⟩, ⟨_, e⟩, fun _ _ ⟨oe, vs, q, r⟩ k => ⟨oe, vs, k _ q, r⟩⟩
theorem xn_get (hok : HOk P w H h) (e : H x = some (xn x C dd)) : ∃ a0, h.get? x = some (Xc.xobj C dd a0) := (show ObjOk P w H h x (xn x C dd) from hok x _ e).1
theorem xo_get {q : Bool} (hok : HOk P w H h) (e : H x = some (xo x C d q)) : ∃ oe vs, h.get? x = some oe ∧ oe.cls = .ref C ∧ oe.dict = some d ∧ oe.data = .fields vs ∧ 4 < vs.size ∧ (q = true → vs[2]? = some .none) := (show ObjOk P w H h x (xo x C d q) from hok x _ e).1
end
noncomputable def HdOk (h : Heap) (x : Addr) : Prop := ∃ oe vs hd, h.get? x = some oe ∧ oe.data = .fields vs ∧ vs[1]? = some hd ∧ Xc.HeadOk h x hd
theorem Obj.dict_map {o : Obj} {vs : Array Value} (hd : o.data = .fields vs) (f : Array Value → Array Value) : (o.mapFields f).dict = o.dict := by
  obtain ⟨c, d, dt, sl⟩ := o
  obtain rfl : dt = .fields vs := hd
  rfl

section
variable {X : Cx} {pins : List (Addr × Obj)} {σ : St} {H : Hp} {s : Shared} {x C d : Addr} {q : Bool} {E : Value → Shared → Prop} {A : Around} {M : Model}
theorem xfly {Q : Unit → Shared → Prop} (I : Inv X pins σ H s) (hfr : A.frames = some X.stack) (hst : X.stack = X.env :: X.outer) (hf : X.env.frame = some X.env.locals) (hx : H x = some (xo x C d q)) (hh : HdOk s.heap x)
    (hQ : ∀ h', Inv X pins σ H { s with heap := h' } → HdOk h' x → Q () { s with heap := h' }) :
    wpAny M A (noteFrame (.ref x) X.env) (fun _ s1 => wpAny M A (setFlight (.ref x) none) Q E s1) E s := by
  obtain ⟨oe, vs, hd, he, hdat, h1, hhd⟩ := hh
  obtain ⟨oe', vs', he', hc, hdi, hdat', hsz, hcx⟩ := xo_get I.hok hx
  rw [he] at he'; cases he'
  obtain rfl : vs = vs' := by rw [hdat] at hdat'; cases hdat'; rfl
  have hz : 1 < vs.size := (Array.getElem?_eq_some_iff.mp h1).1
  have stk := I.stack
  rw [hst] at stk
  refine Xc.xnote (base := X.base) (hfr.trans (congrArg some hst)) stk hf he hdat h1 hhd fun h' T' oT ts nT ne sz hx' hT hTd hT3 keep slot there => ?_
  have hd2 := Obj.data_mapFields hdat (·.setIfInBounds 1 (Value.ref T'))
  refine Xc.xland hx' hd2 (by simp [hz]) hT hTd hT3 fun h'' oT' ts' hT' hTd' h3' keep' => ?_
  have nold : ∀ b o, s.heap.get? b = some o → b ≠ T' := fun b o e z => by rw [z, nT] at e; cases e
  have hxx := (keep' x (Ne.symm ne)).trans hx'
  have kp : ∀ b o, b ≠ x → b ∉ frs (X.env :: X.outer) → s.heap.get? b = some o → h''.get? b = some o := fun b o n1 n2 e => (keep' b (nold b o e)).trans (keep b o n1 n2 e)
  have sl : ∀ b o, b ∈ frs (X.env :: X.outer) → s.heap.get? b = some o → ∃ sl, h''.get? b = some { o with slots := sl } := fun b o hb e => by
    obtain ⟨q, hq⟩ := slot b o hb e
    exact ⟨q, (keep' b (nold b o e)).trans hq⟩
  have nfr : ∀ b o, H b = some o → b ∉ frs (X.env :: X.outer) := fun b o e z => by
    have := I.stkFree b (by rw [hst]; exact z)
    rw [e] at this; cases this
  have hok' : HOk X.prog X.w H h'' := fun b u e => by
    by_cases hb : b = x
    · subst hb
      rw [hx] at e; cases e
      exact xo_ok hxx ((Obj.cls_mapFields _ _).trans hc) ((Obj.dict_map hdat _).trans hdi) hd2 (by simpa using hsz) (fun y => by rw [Array.getElem?_setIfInBounds_ne (by decide)]; exact hcx y)
    · refine (I.hok b u e).stay (fun c v hcc q => kp c v ?_ ?_ q) (fun _ q => q) fun _ _ q => q
      · rcases hcc with z | z
        · rw [z]; exact hb
        · intro y; subst y; rw [hx] at z; cases z
      · rcases hcc with z | z
        · rw [z]; exact nfr b u e
        · exact nfr c _ z
  have un : Un (frs X.stack) [] H H s.heap h'' := by
    rw [hst]
    refine ⟨fun b o q n hb _ => kp b o (fun z => by subst z; rw [hx] at n; cases n) hb q, fun b o q n hb _ => sl b o hb q, fun _ _ _ n _ => n, fun b o q _ => ?_, fun _ _ q => q, fun _ _ _ q => q, fun _ ps q => ⟨#[], by rw [q]; simp⟩⟩
    obtain ⟨o', ho'⟩ := there b o q
    exact ⟨o', (keep' b (nold b o q)).trans ho'⟩
  exact hQ h'' (I.call (g' := s.gens) (t' := s.toks) (d' := s.drawn) (ch := []) un hok' I.bare (fun b z => absurd z (by simp))) ⟨_, _, _, hxx, hd2, by simp [hz], .inr ⟨T', oT', ts', rfl, ne, hT', hTd', h3'⟩⟩
end

noncomputable def CXx (P : Program) (w : World) : CXT := fun outer H s E e s' => ∃ x C d q H', e = Value.ref x ∧ s.heap.get? x = none ∧ s'.os = s.os ∧ AllBare s'.gens ∧ Un (frs outer) [] H H' s.heap s'.heap ∧ HOk P w H' s'.heap ∧
  H' x = some (xo x C d q) ∧ Qt H' d q ∧ HdOk s'.heap x ∧ E (.ref C) (some d) H'
noncomputable def Flies (X : Cx) (E : XK) : Prop := ∀ (pins : List (Addr × Obj)) (σ : St) (H : Hp) (s : Shared) (x C d : Addr) (q : Bool), Inv X pins σ H s → H x = some (xo x C d q) → Qt H d q → X.s_0.heap.get? x = none → HdOk s.heap x → E (.ref C) (some d) H → X.xe (.ref x) s
theorem new_old {X : Cx} {pins : List (Addr × Obj)} {σ : St} {H : Hp} {s : Shared} {x : Addr} (I : Inv X pins σ H s) (hex : X.ex = []) (e : s.heap.get? x = none) : X.s_0.heap.get? x = none := by
  cases q : X.s_0.heap.get? x with
  | none => rfl
  | some o =>
    obtain ⟨o', z⟩ := I.base.there x o q (by rw [hex]; simp)
    rw [e] at z; cases z
theorem passX {X : Cx} {E : XK} (hex : X.ex = []) (h : Flies X E) : Passes (CXx X.prog X.w) X E := by
  rintro pins σ H s e s' I ⟨x, C, d, q, H', rfl, nx, os, bare, un, hok, hx, hq, hh, hE⟩
  exact h pins σ H' s' x C d q (I.call' os un hok bare (ch := []) (fun b z => absurd z (by simp))) hx hq (new_old I hex nx) hh hE
theorem passN {P : Program} {w : World} {X : Cx} : Passes (CXx P w) X E0 := by
  rintro pins σ H s e s' I ⟨x, C, d, q, H', rfl, nx, os, bare, un, hok, hx, hq, hh, hE⟩
  exact hE.elim
theorem flies {P : Program} {w : World} {K : PySem.W.Frag} {mg : Str → Option Value} {base : Heap} {N : List Str} {qual : Str} {scope : Scope} {f : Addr} {cd : Value} {A : Around} {outer : List Env} {s : Shared} {H : Hp} {E : XK} :
    Flies (cxOf (CXx P w) P w K mg base N qual scope f cd A outer s H E) E := by
  intro pins σ H' s' x C d q I hx hq nx hh hE
  show wpAny _ _ (leaving _ _) _ _ _
  unfold leaving
  refine wpAny_bind (xfly I I.ok.frames rfl rfl hx hh fun h'' I' hh' => ?_)
  exact ⟨x, C, d, q, H', rfl, nx, I'.os, I'.bare, I'.base, I'.hok, hx, hq, hh', hE⟩
theorem Fun.okX {P : Program} {w : World} {K : PySem.W.Frag} {mg : Str → Option Value} {base : Heap} {x qual : Str} {st : Stmt} {f : Addr} {fd : FuncData} {N ps : List Str} {k : Nat} {sp : Sp} (F : Fun K x qual st f fd) (S : FnScope N ps (defScope st)) (len : ∀ vs H Q E, sp vs H Q E → vs.length = ps.length)
    (hbody : ∀ (cdv : Value) (A : Around) (outer : List Env) (s : Shared) (H : Hp) (vs : List V) (Q : VK) (E : XK), Room k (A.deeper (envOfC qual (defScope st) s.heap.objs.size f cdv)) → sp vs H Q E →
      ∃ t, PSs (cxOf (CXx P w) P w K mg base N qual (defScope st) f cdv A outer s H E) (defBody st) t ∧ t { nx := fun _ H' => Q .non H', rt := Q } (start N vs) H) : FnOk P w K mg base (CXx P w) (k + 1) f fd ps sp := by
  obtain ⟨oc, od, kV, doc, pm, an, cdv, ct, osl, rfl, lk, hcd⟩ := F.ex
  exact fn_of lk hcd S len fun A outer s H vs Q E hr hsp => hbody cdv A outer s H vs Q E hr hsp

structure XCls (K : PySem.W.Frag) (C N fI : Addr) : Prop where
  obj : ∃ nm q bs sn sub ab col dd k0 k1 k2 k3 k5, K.lookup C = some (excClassObj nm q C N bs Xc.bmV true sn sub ab col dd k0 k1 k2 k3 k5 "ValueError.__new__")
  ns : PySem.W.nsOkIn K N = true
  init : PySem.W.nsIn K N "__init__" = some (some (.ref fI))
  nsa : PySem.W.nsIn K N "__setattr__" = some none
  nga : PySem.W.nsIn K N "__getattribute__" = some none
  nge : PySem.W.nsIn K N "__getattr__" = some none
  fn : PySem.W.isFn K (.ref fI) = true
  kp : PySem.W.keepIn K (.ref C) = true
theorem ns_some_of {K : PySem.W.Frag} {h : Heap} {N : Addr} {mg : Str → Option Value} {n : Str} {v : Value} (X : K.In h) (G : h.Ns N mg) (e : PySem.W.nsIn K N n = some (some v)) : mg n = some v := by
  obtain ⟨o, es, ep, ho, hd, _, hf⟩ := G
  unfold PySem.W.nsIn at e
  split at e
  · rename_i c d es' n' sl q
    have := X _ _ q
    rw [ho] at this
    cases this
    cases hd
    split at e
    · rename_i en he
      cases e
      rw [← hf]
      unfold nsFind findBy
      rw [← Array.find?_toList, he]
      rfl
    · split at e <;> cases e
  · cases e
theorem XCls.at {K : PySem.W.Frag} {C N fI : Addr} (c : XCls K C N fI) {h : Heap} (X : K.In h) : h.Ns N (h.nsMap N) := .of_isNs (PySem.W.isNs_of_in X c.ns)
theorem XCls.no {K : PySem.W.Frag} {C N fI : Addr} (c : XCls K C N fI) {h : Heap} (X : K.In h) {n : Str} (e : PySem.W.nsIn K N n = some none) : h.nsMap N n = none := PySem.W.nsMap_none_of_in X c.ns e

noncomputable def tRaise (C : Addr) (sp : Sp) (E : XK) (t : TA) : TS := fun _ σ H => t σ H fun vs H1 => vs.length ≤ 1000 ∧ ∀ x, H1 x = none → sp (.ref x :: vs) (upd H1 x (xn x C none)) (fun v H2 => v = .non ∧ ∃ d, H2 x = some (xn x C (some d)) ∧ E (.ref C) (some d) (upd H2 x (xo x C d true))) E0
section
variable {X : Cx} {C N fI : Addr} {k : Nat} {fd : FuncData} {ps : List Str} {sp : Sp} {E : XK} {e : Expr} {es : List Expr} {t : TA} {x : Str} {p cpos pos : Pos}
theorem ps_raise (c : XCls X.K C N fI) (F : FnOk X.prog X.w X.K X.mg X.base (CXx X.prog X.w) k fI fd ps sp) (hr : Room (k + 1) X.A) (hg : Gl X x) (hm : X.mg x = some (.ref C)) (hb : Binds X.K fd ps []) (hcalm : X.calm = true) (hex : X.ex = []) (hfl : Flies X E)
    (ha : PA X (e :: es) t) (hdb : (x == ("__debug__" : Str)) = false := by decide) (he : starEach (e :: es) X.env = (false, eval e X.env) :: starEach es X.env := by rfl) (hpl : (backTo cpos (starEach es X.env)).any (·.1) = false := by rfl) :
    PS X (.Raise (some (.Call (.Name x p) (e :: es) [] cpos)) none pos) (tRaise C sp E t) := by
  intro pins s σ H D I h
  rw [arm_exec_Raise]
  refine wpAny_bind (wpAny_standAt ?_)
  show wpAny _ _ (raiseStmt X.env (some (do let v ← eval (.Call (.Name x p) (e :: es) [] cpos) X.env; standAt pos; pure v)) none) _ _ s
  refine Xc.xraise (I.ok.hd hcalm) (wpAny_bind ?_)
  refine wpAny_Call_Name_kw (ld_glob I hg hm ?_ hdb)
  refine PySem.W.callWith_K (h₀ := X.base) I.ok.mod.kin c.kp (thn (ha cpos pins s σ H _ I h) fun us s1 ⟨vs, H1, I1, r, hz, q⟩ => ⟨I1.kIn, ?_⟩) he hpl
  obtain ⟨h1, g1, d1, t1, os1⟩ := s1
  obtain ⟨nm, qn, bs, sn, sub, ab, col, dd, k0, k1, k2, k3, k5, hC⟩ := c.obj
  have KX : X.K.In h1 := I1.kIn
  have hn := c.at KX
  have hi := ns_some_of KX hn c.init
  obtain ⟨oI, hoI, hcI⟩ : ∃ oI, X.K.lookup fI = some oI ∧ oI.cls = .type "function" := by
    have z := beq_iff_eq.mp (show (PySem.W.typeIn X.K (.ref fI) == some (.type "function")) = true from c.fn)
    obtain ⟨o, ho, hc⟩ := Option.map_eq_some_iff.mp (show (X.K.lookup fI).map (·.cls) = some (.type "function") from z)
    exact ⟨o, ho, hc⟩
  refine wpAny_call_exc_init (F := PySem.F.excBase_ValueError) (KX _ _ hC) hn hi (KX _ _ hoI) hcI (fun h' y hmade => ?_) (by rw [List.nil_append, ← r.length, sizeLine_eq]; omega)
  obtain ⟨tt, hy, _, _⟩ := hmade.there
  have I2 : Inv X pins σ (upd H1 y (xn y C none)) ⟨h', g1, d1, t1, os1⟩ := I1.laidN (t' := t1) hmade.keeps hmade.new (xn_ok (a0 := tt) hy)
  have hq := q y (I1.hok.freeN hmade.new)
  have r2 : Vals (V.ref y :: vs) (Value.ref y :: us) := .cons rfl r
  have hl : (Value.ref y :: us ++ []).length = ps.length := by
    rw [List.append_nil, ← r2.length]; exact F.len _ _ _ _ hq
  have hbd := hb ⟨h', g1, d1, t1, os1⟩ (Value.ref y :: us) I2.kIn hl
  rw [List.append_nil] at hbd
  refine wpAny_call (codeAny_mono (F.run _ X.stack _ _ ⟨Value.ref y :: us, []⟩ (Value.ref y :: us) _ _ E0 (hr.make C us []) (I2.env0.make C us []) hbd r2 hq) fun rr s' hq' => ?_)
  cases rr with
  | error e =>
    obtain ⟨_, _, _, _, _, _, _, _, _, _, _, _, _, _, z⟩ := hq'
    exact z.elim
  | ok fl =>
    cases fl with
    | next => exact False.elim hq'
    | brk => exact False.elim hq'
    | cont => exact False.elim hq'
    | ret u =>
      obtain ⟨v, H', I3, rv, ev, d, hx2, hE⟩ := I2.after hq'
      subst ev
      refine ⟨rv, wpAny_bind (wpAny_standAt (wpAny_pure ?_))⟩
      obtain ⟨a0, hy3⟩ := xn_get I3.hok hx2
      refine ⟨y, nm, qn, C, N, bs, sn, sub, ab, col, dd, k0, k1, k2, k3, k5, some d, a0, rfl, I3.kIn _ _ hC, hy3, ?_⟩
      have I4 : Inv X pins σ (upd H' y (xo y C d true)) s' := I3.write (h' := s'.heap) (t' := s'.toks) (by rw [hx2]; exact True.intro) (.inl rfl) (fun b u _ q => q) ⟨_, hy3⟩ (xo_ok hy3 rfl rfl rfl (by show 4 < 6; decide) (fun _ => rfl))
      exact hfl pins σ _ s' y C d true I4 upd_same (fun _ _ _ => rfl) (new_old I1 hex hmade.new) ⟨_, _, _, hy3, rfl, rfl, .inl rfl⟩ hE
end

noncomputable def tXInit (K : PySem.W.Frag) (t : TA) : TE := fun σ H Q => t σ H fun vs H1 => ∃ x C N fI d rest, vs = .ref x :: rest ∧ rest.length ≤ 1000 ∧ H1 x = some (xn x C d) ∧ XCls K C N fI ∧ Q .non H1
noncomputable def sXFld (K : PySem.W.Frag) (ta tv : TE) (f : Str) : TS := fun D σ H => tv σ H fun y H1 => ta σ H1 fun o H2 => ∃ x C N fI, o = .ref x ∧ H2 x = some (xn x C none) ∧ XCls K C N fI ∧ PySem.W.nsIn K N f = some none ∧
  ∀ d, H2 d = none → D.nx σ (upd (upd H2 x (xn x C (some d))) d (.xd [(f, y)]))
noncomputable def tXGet (K : PySem.W.Frag) (ta : TE) (f : Str) : TE := fun σ H Q => ta σ H fun o H1 => ∃ x C N fI d q fs v, o = .ref x ∧ H1 x = some (xo x C d q) ∧ XCls K C N fI ∧ PySem.W.nsIn K N f = some none ∧ H1 d = some (.xd fs) ∧ fs.lookup f = some v ∧ Q v H1
section
variable {X : Cx} {o e value : Expr} {f : Str} {pos pos' : Pos} {ta tv : TE}
theorem pe_xget (he : PE X e ta) (hB : typeLookup (.type "ValueError") f = pure none) (hb : attributeBase e f X.env (eval e X.env) = eval e X.env) : PE X (.Attribute e f pos) (tXGet X.K ta f) := by
  intro pins s σ H Q I h
  refine attr_of hb (thn (he pins s σ H _ I h) fun u s1 ⟨o, H1, I1, rx, x, C, N, fI, d, qq, fs, v, eo, ex, c, nf, ed, l, q⟩ => ?_)
  subst eo
  obtain rfl : u = Value.ref x := rx
  obtain ⟨oe, vs, e1, e2, e3, e4, _, _⟩ := xo_get I1.hok ex
  obtain ⟨mA, hA, rA⟩ := (show ObjOk X.prog X.w H1 s1.heap d (.xd fs) from I1.hok d _ ed)
  obtain ⟨w', hw, rw'⟩ := RelO.some_of (v := v) (o := mA f) (by rw [← l]; exact rA f)
  obtain ⟨nm, qn, bs, sn, sub, ab, col, dd, k0, k1, k2, k3, k5, hC⟩ := c.obj
  obtain ⟨h1, g1, d1, t1, os1⟩ := s1
  have KX : X.K.In h1 := I1.kIn
  exact Xc.xload (KX _ _ hC) (c.at KX) (c.no KX c.nga) (c.no KX c.nge) (c.no KX nf) hB e1 e2 e3 e4 hA hw (PySem.W.handedOut_of (handed_of rw')) ⟨v, H1, I1.tok _, rw', q⟩
theorem ps_xfld (ha : PE X o ta) (hv : PE X value tv) (hB : typeLookup (.type "ValueError") f = pure none) (hs : swapsWith value (some (.Attribute o f pos')) pos.line X.env = pure false) : PS X (.Assign [.Attribute o f pos'] value pos) (sXFld X.K ta tv f) := by
  intro pins s σ H D I h
  refine plainObj_wpAny_Assign_Attribute (thn (hv pins s σ H _ I h) fun u s1 ⟨y, H1, I1, ry, q⟩ => thn (ha pins s1 σ H1 _ I1 q) fun ov s2 ⟨o, H2, I2, rx, x, C, N, fI, eo, ex, c, nf, q2⟩ => ?_) hs
  subst eo
  obtain rfl : ov = Value.ref x := rx
  obtain ⟨a0, hx⟩ := xn_get I2.hok ex
  obtain ⟨nm, qn, bs, sn, sub, ab, col, dd, k0, k1, k2, k3, k5, hC⟩ := c.obj
  obtain ⟨h1, g1, d1, t1, os1⟩ := s2
  have KX : X.K.In h1 := I2.kIn
  refine Xc.xstore (KX _ _ hC) (c.at KX) (c.no KX c.nsa) (c.no KX nf) hB hx fun h' tk' dx sz ne hx' hns keep => ?_
  have nd : H2 dx = none := I2.hok.fresh sz
  have old : ∀ b o, h1.get? b = some o → b ≠ dx := fun b o e z => absurd (Heap.lt_size e) (by rw [z]; exact Nat.not_lt.mpr sz)
  have xd : x ≠ dx := Ne.symm ne
  have hx2 : ∀ b, H2 b = none → b ≠ x := fun b n z => by rw [z, ex] at n; cases n
  have un : Un X.fs [] H2 (upd (upd H2 x (xn x C (some dx))) dx (.xd [(f, y)])) h1 h' := by
    refine ⟨fun b o e n _ _ => keep b o (hx2 b n) e, fun b o e n _ _ => ⟨o.slots, keep b o (hx2 b n) e⟩, fun b o e n _ => by rw [upd_ne (old b o e), upd_ne (hx2 b n)]; exact n, fun b o e _ => ?_, fun b xs e => ?_, fun b o u e => ?_, fun b ps e => ⟨#[], ?_⟩⟩
    · by_cases z : b = x
      · subst z; exact ⟨_, hx'⟩
      · exact ⟨o, keep b o z e⟩
    · rw [upd_ne (ne_of_none e nd), upd_ne (fun z => by rw [z, ex] at e; cases e)]; exact e
    · rw [upd_ne (ne_of_none e nd), upd_ne (fun z => by rw [z, ex] at e; cases e)]; exact e
    · rw [upd_ne (ne_of_none e nd), upd_ne (fun z => by rw [z, ex] at e; cases e), e]; simp
  have hok : HOk X.prog X.w (upd (upd H2 x (xn x C (some dx))) dx (.xd [(f, y)])) h' := fun b u e => by
    by_cases z : b = dx
    · subst z
      rw [upd_same] at e; cases e
      refine ⟨_, hns, fun g => ?_⟩
      by_cases q : g = f
      · subst q
        show RelO (List.lookup g [(g, y)]) (if g = g then some u else none)
        rw [if_pos rfl]
        simp only [List.lookup, beq_self_eq_true]
        exact ry
      · rw [if_neg q]
        have hb : (g == f) = false := beq_eq_false_iff_ne.mpr q
        simp only [List.lookup, hb]
        exact True.intro
    · rw [upd_ne z] at e
      by_cases z2 : b = x
      · subst z2
        rw [upd_same] at e; cases e
        exact xn_ok hx'
      · rw [upd_ne z2] at e
        refine (I2.hok b u e).stay (fun b' v hb q => keep b' v ?_ q) (fun b' q => ?_) fun b' xs q => ?_
        · rcases hb with y1 | y1
          · rw [y1]; exact z2
          · intro y2; rw [y2, ex] at y1; cases y1
        · rw [upd_ne (ne_of_none q nd), upd_ne (fun y2 => by rw [y2, ex] at q; cases q)]; exact q
        · rw [upd_ne (ne_of_none q nd), upd_ne (fun y2 => by rw [y2, ex] at q; cases q)]; exact q
  exact ⟨σ, _, I2.un (t' := tk') un hok, q2 dx nd⟩
end
end L2

namespace L2
open PySem PySem.Spec PyProof.Rows
theorem boot_VE : bootBuiltins "ValueError" = some (.type "ValueError") := by first | rfl | decide +kernel
theorem find_VEI (K : PySem.W.Frag) : PySem.W.findCls K (.type "ValueError") (.type "type") "__init__" = some (.val (.builtin "ValueError.__init__")) := by first | rfl | kernel_rfl
theorem type_VE : typeOf (.type "ValueError") = pure (.type "type") := by first | rfl | kernel_rfl
section
variable {X : Cx} {e : Expr} {es : List Expr} {p apos pos : Pos} {t : TA}
theorem pe_xinit {pl : Sem Bool} (hg : Gl X "ValueError") (hm : X.mg "ValueError" = none) (ha : PA X (e :: es) t) (he : starEach (e :: es) X.env = (false, eval e X.env) :: starEach es X.env := by rfl) (hpl : (backTo pos (starEach es X.env)).any (·.1) = false := by rfl)
    (ht : eval (.Call (.Attribute (.Name "ValueError" p) "__init__" apos) (e :: es) [] pos) X.env = (do
      let ov ← eval (.Name "ValueError" p) X.env
      standAt apos.atName
      let (f, first) ← holding [ov] (getMethod ov "__init__" pl)
      callWith pos f first (backTo pos (starEach (e :: es) X.env)) (backToKw pos (keywordEach [] X.env))) := by rfl) :
    PE X (.Call (.Attribute (.Name "ValueError" p) "__init__" apos) (e :: es) [] pos) (tXInit X.K t) := by
  intro pins s σ H Q I h
  refine PySem.W.methodCall_KW (pl := pl) (ld_blt I hg hm boot_VE ?_) ht
  obtain ⟨m, F⟩ := I.fr
  refine PySem.W.method_type F I.mod.kin type_VE (by decide +kernel) (find_VEI X.K) rfl ?_
  refine PyProof.Rows.callWith_builtin1 (thn (ha pos pins _ σ H _ (I.tok _) h) fun us s1 ⟨vs, H1, I1, r, x, C, N, fI, d, rest, ev, hz, hx, c, q⟩ => ?_) he hpl
  subst ev
  cases r with
  | @cons _ u _ us' r1 r2 =>
    obtain rfl : u = Value.ref x := r1
    obtain ⟨a0, hx0⟩ := xn_get I1.hok hx
    obtain ⟨nm, qn, bs, sn, sub, ab, col, dd, k0, k1, k2, k3, k5, hC⟩ := c.obj
    obtain ⟨h1, g1, d1, t1, os1⟩ := s1
    have KX : X.K.In h1 := I1.kIn
    refine Xc.xinit (KX _ _ hC) hx0 (by rw [← r2.length, sizeLine_eq]; omega) fun h' a1 hx' keep => ?_
    have I2 : Inv X pins σ (upd H1 x (xn x C d)) ⟨h', g1, d1, t1, os1⟩ := I1.write (h' := h') (t' := t1) (by rw [hx]; exact True.intro) (.inl rfl) keep ⟨_, hx'⟩ (xn_ok hx')
    rw [upd_id hx] at I2
    exact ⟨.non, H1, I2, rfl, q⟩
end

noncomputable abbrev Cx.hand (X : Cx) (x : Addr) : Cx := { X with A := X.A.mark (some (.ref x)), calm := false, xe := fun _ _ => False }
noncomputable abbrev Cx.tr (X : Cx) (pins : List (Addr × Obj)) (E : Value → Shared → Prop) : Cx := { X with pn := X.pn ++ pins, xe := E }
section
variable {X : Cx} {pins pins' : List (Addr × Obj)} {σ : St} {H : Hp} {s : Shared} {x : Addr} {E : Value → Shared → Prop}
theorem Inv.hand (I : Inv X pins σ H s) (x : Addr) : Inv (X.hand x) pins σ H s :=
  ⟨⟨I.ok.mod, I.ok.kind, I.ok.glob, I.ok.blt, I.ok.above, I.ok.inj, I.ok.has, I.ok.cab, fun z => Bool.noConfusion z, I.ok.frames, I.ok.stk, I.ok.exf, I.ok.bs, I.ok.bsz, I.ok.noex, I.ok.exfs, I.ok.funs, I.ok.frf⟩, I.os, I.bare, I.base, I.loc, I.cell, I.free, I.freeC, I.pin, I.hok, I.len⟩
theorem Inv.unhand (ok : X.Ok) (I : Inv (X.hand x) pins σ H s) : Inv X pins σ H s := ⟨ok, I.os, I.bare, I.base, I.loc, I.cell, I.free, I.freeC, I.pin, I.hok, I.len⟩
theorem Inv.tr (I : Inv X pins σ H s) (E : Value → Shared → Prop) : Inv (X.tr pins E) [] σ H s :=
  ⟨⟨I.ok.mod, I.ok.kind, I.ok.glob, I.ok.blt, I.ok.above, I.ok.inj, I.ok.has, I.ok.cab, I.ok.hd, I.ok.frames, I.ok.stk, I.ok.exf, I.ok.bs, I.ok.bsz, I.ok.noex, I.ok.exfs, I.ok.funs, I.ok.frf⟩, I.os, I.bare, I.base, I.loc, I.cell, I.free, I.freeC,
    fun p hp => I.pin p (by rw [List.append_nil] at hp; exact hp), I.hok, I.len⟩
theorem Inv.untr (I : Inv (X.tr pins E) pins' σ H s) : Inv X pins σ H s :=
  ⟨⟨I.ok.mod, I.ok.kind, I.ok.glob, I.ok.blt, I.ok.above, I.ok.inj, I.ok.has, I.ok.cab, I.ok.hd, I.ok.frames, I.ok.stk, I.ok.exf, I.ok.bs, I.ok.bsz, I.ok.noex, I.ok.exfs, I.ok.funs, I.ok.frf⟩, I.os, I.bare, I.base, I.loc, I.cell, I.free, I.freeC,
    fun p hp => I.pin p (List.mem_append_left _ hp), I.hok, I.len⟩
theorem SP.untr {D : Ends} {f : Flow} {s' : Shared} (h : SP (X.tr pins E) pins' D f s') : SP X pins D f s' := by
  cases f with
  | next => obtain ⟨σ', H', I, q⟩ := h; exact ⟨σ', H', I.untr, q⟩
  | brk => obtain ⟨σ', H', I, q⟩ := h; exact ⟨σ', H', I.untr, q⟩
  | cont => obtain ⟨σ', H', I, q⟩ := h; exact ⟨σ', H', I.untr, q⟩
  | ret u => obtain ⟨v, σ', H', I, r, q⟩ := h; exact ⟨v, σ', H', I.untr, r, q⟩
theorem none_at {n i : Nat} {v : V} (h : (List.replicate n (none : Option V))[i]? = some (some v)) : False := by
  rw [List.getElem?_replicate] at h
  split at h <;> cases h
theorem Inv.blank (I : Inv X pins σ H s) : Inv X pins (List.replicate X.N.length none) H s :=
  I.weak (by rw [List.length_replicate, I.len]) fun i v h => (none_at h).elim
theorem Inv.lost {h' : Heap} {m' : Str → Option Value} {t' : Nat} (I : Inv X pins σ H s) (hn' : h'.Ns X.env.locals m') (hs : Heap.SameBut X.env.locals s.heap h') : Inv X pins (List.replicate X.N.length none) H { s with heap := h', toks := t' } := by
  obtain ⟨m, hn, _⟩ := id I.loc
  have cne := I.cne
  refine ⟨I.ok, I.os, I.bare, ⟨fun b o e n hb hx => ?_, fun b o e n hb hx => ?_, I.base.free, fun b o e hx => ?_, I.base.tups, I.base.frzs, I.base.tbls⟩, ⟨_, hn', fun j y v' e1 e2 e3 => (none_at e2).elim⟩, fun y c e => ?_, I.free, I.freeC, fun p hp => ?_, fun b ob e => ?_, by rw [List.length_replicate]⟩
  · exact (hs.2 b (Nat.ne_of_lt (Nat.lt_of_lt_of_le (Heap.lt_size e) I.ok.above))).trans (I.base.keep b o e n hb hx)
  · obtain ⟨sl, e1⟩ := I.base.slot b o e n hb hx
    exact ⟨sl, (hs.2 b (Nat.ne_of_lt (Nat.lt_of_lt_of_le (Heap.lt_size e) I.ok.above))).trans e1⟩
  · obtain ⟨o', e1⟩ := I.base.there b o e hx
    exact ⟨o', (hs.2 b (Nat.ne_of_lt (Nat.lt_of_lt_of_le (Heap.lt_size e) I.ok.above))).trans e1⟩
  · obtain ⟨w', z⟩ := I.cell y c e
    exact ⟨w', z.sameBut hs (cne y c e)⟩
  · obtain ⟨e, n, ne, nf, d⟩ := I.pin p hp
    exact ⟨(hs.2 p.1 ne).trans e, n, ne, nf, d⟩
  · refine (I.hok b ob e).stay (fun c w' hc q => (hs.2 c ?_).trans q) (fun _ q => q) fun _ _ q => q
    rintro rfl
    rcases hc with hc | hc
    · rw [← hc, I.free] at e; cases e
    · rw [I.free] at hc; cases hc
end
noncomputable def ETry (C : Addr) (i n : Nat) (ts : TS) (D : Ends) : XK := fun cls d H' => cls = .ref C ∧ ∃ dx, d = some dx ∧ ∀ x q, H' x = some (xo x C dx q) → Qt H' dx q → ts { nx := fun _ _ => False, rt := D.rt } ((List.replicate n none).set i (some (.ref x))) H'
noncomputable def XT (X : Cx) (pins : List (Addr × Obj)) (D : Ends) (hs : List ExceptHandler) : Value → Shared → Prop := fun e s1 => wpAny (model X.prog X.w) X.A (noteFrame e X.env) (fun _ s2 => wpAny (model X.prog X.w) X.A (setFlight e none)
  (fun _ s3 => wpAny (model X.prog X.w) X.A (handleBy e X.env hs) (SP X pins D) X.xe s3) X.xe s2) X.xe s1
section
variable {X : Cx} {C N fI : Addr} {cn n : Str} {i : Nat} {b0 : Stmt} {suite body : List Stmt} {ts : TS} {tb : Ends → TS} {p hpos pos : Pos}
theorem xrest {M : Model} {A : Around} {E : Value → Shared → Prop} {s : Shared} {x : Addr} {Q : Unit → Shared → Prop} (hh : HdOk s.heap x) (h : Q () s) : wpAny M A (setFlight (.ref x) none) Q E s := by
  obtain ⟨oe, vs, hd, he, hdat, h1, hhd⟩ := hh
  unfold setFlight
  refine wpAny_bind (wpAny_field he hdat h1 ?_)
  rcases hhd with rfl | ⟨T, oT, ts, rfl, hTx, hT, hTd, hT3⟩
  · rw [if_neg (by decide)]
    exact wpAny_pure h
  · rw [if_pos (show (Value.ref T != Value.none) = true from by simp)]
    refine wpAny_setField hT hTd (Array.getElem?_eq_some_iff.mp hT3).1 ?_
    show Q () { s with heap := s.heap.update T (Obj.mapFields (·.setIfInBounds 3 Value.none)) }
    rw [Heap.update_setField_same s.heap T oT ts 3 Value.none hT hTd hT3]
    exact h
theorem flies_try {pins : List (Addr × Obj)} {D : Ends} (c : XCls X.K C N fI) (hst : X.stack = X.env :: X.outer) (hf : X.env.frame = some X.env.locals) (hg : Gl X cn) (hm : X.mg cn = some (.ref C)) (nd : X.N.Nodup) (hi : X.N[i]? = some n) (hl : X.env.scope.names.lookup n = some .local)
    (hS : ∀ x, PSs (X.hand x) (b0 :: suite) ts) (hdb : (cn == ("__debug__" : Str)) = false) :
    Flies (X.tr pins (XT X pins D [.ExceptHandler (some (.Name cn p)) (some n) (b0 :: suite) hpos])) (ETry C i X.N.length ts D) := by
  rintro pins' σ' H s x C' d q I hx hq nx hh ⟨eC, dx, ed, hE⟩
  cases eC
  cases ed
  have I0 : Inv X pins (List.replicate X.N.length none) H s := (Inv.untr I).blank
  show wpAny _ _ (noteFrame _ _) _ _ s
  refine xfly I0 I0.ok.frames hst hf hx hh fun h' I1 hh1 => ?_
  refine wpAny_handleBy_cons (codeAny_handlers_test ?_) (by intro q; cases q)
  refine ld_glob (X := X.hand x) (I1.hand x) hg hm ?_ hdb
  obtain ⟨oe, vs, e1, e2, e3, e4, _, _⟩ := xo_get I1.hok hx
  obtain ⟨nm, qn, bs, sn, sub, ab, col, dd, k0, k1, k2, k3, k5, hC⟩ := c.obj
  obtain ⟨h0, g0, d0, t0, os0⟩ := s
  refine wpAny_excMatches_sub_self (I1.kIn _ _ hC) e1 e2 PySem.F.excBase_ValueError.hasBase ?_
  show codeAny _ _ (.handlers _ [.ExceptHandler none (some n) (b0 :: suite) hpos] _) _ _
  refine codeAny_handlers_suite_as (xrest hh1 ?_)
  refine store_ok (X := X.hand x) (v := .ref x) (I1.hand x) nd hi (Or.inl hl) rfl (fun s2 I2 => ?_) (.inr hl)
  refine wpAny_mono (hS x pins s2 _ H _ I2 (hE x q hx hq)) (fun f s3 hf3 => ?_) (fun _ _ z => z.elim)
  cases f with
  | next => obtain ⟨_, _, _, z⟩ := hf3; exact z.elim
  | brk => obtain ⟨_, _, _, z⟩ := hf3; exact False.elim z
  | cont => obtain ⟨_, _, _, z⟩ := hf3; exact False.elim z
  | ret u =>
    obtain ⟨v, σ3, H3, I3, rv, q⟩ := hf3
    have I4 : Inv X pins σ3 H3 s3 := I3.unhand I0.ok
    obtain ⟨m, hn, _⟩ := id I4.loc
    show wpAny _ _ (do bindName X.env n .none; unbindBehindTheSuite X.env n hpos) _ _ s3
    refine wpAny_nameGoes hl hn (by rw [I4.ok.kind]; rfl) fun h5 m5 hn5 hs5 => ?_
    exact ⟨v, _, H3, I4.lost hn5 hs5, rv, q⟩
noncomputable def tTry (tb : Ends → TS) : TS := fun D σ H => tb D D σ H
theorem ps_try (c : XCls X.K C N fI) (hst : X.stack = X.env :: X.outer) (hf : X.env.frame = some X.env.locals) (hg : Gl X cn) (hm : X.mg cn = some (.ref C)) (nd : X.N.Nodup) (hi : X.N[i]? = some n) (hl : X.env.scope.names.lookup n = some .local)
    (hS : ∀ x, PSs (X.hand x) (b0 :: suite) ts)
    (hB : ∀ pins D, Flies (X.tr pins (XT X pins D [.ExceptHandler (some (.Name cn p)) (some n) (b0 :: suite) hpos])) (ETry C i X.N.length ts D) → PSs (X.tr pins (XT X pins D [.ExceptHandler (some (.Name cn p)) (some n) (b0 :: suite) hpos])) body (tb D))
    (hdb : (cn == ("__debug__" : Str)) = false := by decide) : PS X (.Try body [.ExceptHandler (some (.Name cn p)) (some n) (b0 :: suite) hpos] [] [] pos) (tTry tb) := by
  intro pins s σ H D I h
  refine wpAny_Try_except (wpAny_mono (hB pins D (flies_try c hst hf hg hm nd hi hl hS hdb) [] s σ H D (I.tr _) h) (fun f s1 q => ?_) fun e s1 q => q)
  have q' : SP X pins D f s1 := q.untr
  cases f with
  | next => exact wpAny_execs_nil q'
  | brk => exact q'
  | cont => exact q'
  | ret u => exact q'
end
end L2

end
section
set_option Elab.async false
set_option linter.all false
set_option maxRecDepth 100000
namespace Xc
open PySem
open Builtin Builtin.ObjectAttr
section
variable {prog : Program} {w : World} {A : Around} {E : Value → Shared → Prop} {h : Heap} {g : Array GenState} {d : Drawn} {t : Nat} {os : OsState}
variable {nm q : Str} {C N x : Addr} {bs : List Value} {sn : List Str} {sub : List Value} {ab : Bool} {col : Option Bool} {dd : Option Addr} {k0 k1 k2 k3 k5 : Option Value}
  {mN : Str → Option Value} {name n1 : Str} {v v1 : Value}
theorem xstore2_entry {tk : Tok} {a0 dx : Addr} {Q : Fin → Shared → Prop} (hC : h.get? C = some (excClassObj nm q C N bs bmV true sn sub ab col dd k0 k1 k2 k3 k5 "ValueError.__new__")) (hn : h.Ns N mN) (hna : mN name = none)
    (hB : typeLookup (.type "ValueError") name = pure none) (hx : h.get? x = some (xobj C (some dx) a0)) (hd : h.Ns1 dx (fun y => if y = n1 then some v1 else none))
    (hq : ∀ h' tk', h'.Ns1 dx (fun y => if y = name then some v else if y = n1 then some v1 else none) → Heap.SameBut dx h h' → Q (.done (.ret .none)) ⟨h', g, d, tk', os⟩) :
    wpAny (model prog w) A (Builtin.«object.__setattr__» ⟨[.ref x, .str name tk, v], []⟩) Q E ⟨h, g, d, t, os⟩ := by
  have SF := F.store_ValueError
  have pass := SF.passes (.ref x)
  unfold Builtin.«object.__setattr__»
  repeat (first | with_reducible refine wpAny_nsSet1 (s := ⟨h, g, d, t, os⟩) hd ?_ | rw [refuse_eq] | (rw [refuseLoop_ref, pass]) | with_reducible refine wpAny_loadPart_at hx ?_ | with_reducible refine wpAny_mroOf_exc hC ?_ | (with_reducible refine wpAny_typeLookup_exc hC hn SF.mro hB ?_; rw [hna]) | wp_step)
  intro h' hn' hs
  obtain ⟨oD, esD, epD, hoD, hdD, hcD⟩ := hn'.count (Within.cons name v (Within.cons n1 v1 Within.nil))
  refine wpAny_bind (wpAny_lookBehind hoD (by rw [hdD]; exact pastItsLine_dict (Nat.le_trans hcD (by rw [List.length_cons, List.length_cons, List.length_nil, sizeLine_eq]; omega))) (wpAny_pure ?_))
  exact hq h' _ hn' hs
theorem xstore2_call {sa owner : String} {tk : Tok} {a0 dx : Addr} {R : Result → Shared → Prop} (SF : StoreFacts "ValueError" bmV sa owner) (hC : h.get? C = some (excClassObj nm q C N bs bmV true sn sub ab col dd k0 k1 k2 k3 k5 "ValueError.__new__")) (hn : h.Ns N mN) (hna : mN name = none)
    (hB : typeLookup (.type "ValueError") name = pure none) (hx : h.get? x = some (xobj C (some dx) a0)) (hd : h.Ns1 dx (fun y => if y = n1 then some v1 else none))
    (hq : ∀ h' tk', h'.Ns1 dx (fun y => if y = name then some v else if y = n1 then some v1 else none) → Heap.SameBut dx h h' → R (.ok (.ret .none)) ⟨h', g, d, tk', os⟩) :
    codeAny (model prog w) A (.call (.builtin sa) ⟨[.ref x, .str name tk, v], []⟩) R ⟨h, g, d, t, os⟩ := by
  have ho : ∃ o, h.get? x = some o ∧ o.cls = .ref C := ⟨_, hx, rfl⟩
  obtain ⟨o, ho, hc⟩ := ho
  exact codeAny_call_builtin SF.slot.plain SF.entry (wpAny_check_sa SF hC ho hc (xstore2_entry hC hn hna hB hx hd hq))
theorem xstore2_by {sa owner : String} {a0 dx : Addr} {Q : Unit → Shared → Prop} (SF : StoreFacts "ValueError" bmV sa owner) (hC : h.get? C = some (excClassObj nm q C N bs bmV true sn sub ab col dd k0 k1 k2 k3 k5 "ValueError.__new__")) (hn : h.Ns N mN) (hns : mN "__setattr__" = none) (hna : mN name = none)
    (hB : typeLookup (.type "ValueError") name = pure none) (hx : h.get? x = some (xobj C (some dx) a0)) (hd : h.Ns1 dx (fun y => if y = n1 then some v1 else none))
    (hq : ∀ h' tk', h'.Ns1 dx (fun y => if y = name then some v else if y = n1 then some v1 else none) → Heap.SameBut dx h h' → Q () ⟨h', g, d, tk', os⟩) :
    wpAny (model prog w) A (setAttr (.ref x) name v) Q E ⟨h, g, d, t, os⟩ := by
  have bnd := SF.slot.bind (.ref x)
  have hx0 : ∃ o, h.get? x = some o ∧ o.cls = .ref C := ⟨_, hx, rfl⟩
  obtain ⟨o, ho, hc⟩ := hx0
  unfold setAttr callSpecial? specialOf
  repeat (first | (with_reducible refine wpAny_loadPart_at ho ?_; rw [hc]) | (with_reducible refine wpAny_typeLookup_exc hC hn SF.mro SF.slot.lookup ?_; rw [hns]) | (with_reducible refine wpAny_of_eq bnd ?_) | wp_step)
  refine xstore2_call SF hC hn hna hB hx hd fun h' tk' a1 a2 => ?_
  exact wpAny_pure (wpAny_pure (hq h' tk' a1 a2))
theorem xstore2 {a0 dx : Addr} {Q : Unit → Shared → Prop} (hC : h.get? C = some (excClassObj nm q C N bs bmV true sn sub ab col dd k0 k1 k2 k3 k5 "ValueError.__new__")) (hn : h.Ns N mN) (hns : mN "__setattr__" = none) (hna : mN name = none)
    (hB : typeLookup (.type "ValueError") name = pure none) (hx : h.get? x = some (xobj C (some dx) a0)) (hd : h.Ns1 dx (fun y => if y = n1 then some v1 else none))
    (hq : ∀ h' tk', h'.Ns1 dx (fun y => if y = name then some v else if y = n1 then some v1 else none) → Heap.SameBut dx h h' → Q () ⟨h', g, d, tk', os⟩) :
    wpAny (model prog w) A (setAttr (.ref x) name v) Q E ⟨h, g, d, t, os⟩ := xstore2_by F.store_ValueError hC hn hns hna hB hx hd hq

end
end Xc

end
section
set_option Elab.async false
set_option linter.all false
set_option maxRecDepth 100000
set_option maxHeartbeats 2000000
namespace L2
open PySem PySem.Spec PyProof.Rows
noncomputable def sXFld2 (K : PySem.W.Frag) (ta tv : TE) (f f1 : Str) : TS := fun D σ H => tv σ H fun y H1 => ta σ H1 fun o H2 => ∃ x C N fI d y1, o = .ref x ∧ H2 x = some (xn x C (some d)) ∧ H2 d = some (.xd [(f1, y1)]) ∧ XCls K C N fI ∧ PySem.W.nsIn K N f = some none ∧
  D.nx σ (upd H2 d (.xd [(f, y), (f1, y1)]))
section
variable {X : Cx} {o value : Expr} {f f1 : Str} {pos pos' : Pos} {ta tv : TE}
theorem ps_xfld2 (ha : PE X o ta) (hv : PE X value tv) (hB : typeLookup (.type "ValueError") f = pure none) (hne : ¬ f = f1) (hs : swapsWith value (some (.Attribute o f pos')) pos.line X.env = pure false) : PS X (.Assign [.Attribute o f pos'] value pos) (sXFld2 X.K ta tv f f1) := by
  intro pins s σ H D I h
  refine plainObj_wpAny_Assign_Attribute (thn (hv pins s σ H _ I h) fun u s1 h1 => ?_) hs
  obtain ⟨y, H1, I1, ry, q⟩ := h1
  refine thn (ha pins s1 σ H1 _ I1 q) fun ov s2 h2 => ?_
  obtain ⟨o, H2, I2, rx, x, C, N, fI, d, y1, eo, ex, ed, c, nf, q2⟩ := h2
  subst eo
  obtain rfl : ov = Value.ref x := rx
  obtain ⟨a0, hx⟩ := xn_get I2.hok ex
  obtain ⟨mA, hA, rA⟩ := (show ObjOk X.prog X.w H2 s2.heap d (.xd [(f1, y1)]) from I2.hok d _ ed)
  obtain ⟨u1, hu1, ru1⟩ := RelO.some_of (v := y1) (o := mA f1) (by have := rA f1; simp only [List.lookup, beq_self_eq_true] at this; exact this)
  have em : mA = fun y => if y = f1 then some u1 else none := by
    funext z
    by_cases q : z = f1
    · subst q; rw [if_pos rfl]; exact hu1
    · rw [if_neg q]
      have hb : (z == f1) = false := beq_eq_false_iff_ne.mpr q
      have := rA z
      simp only [List.lookup, hb] at this
      exact RelO.none_of this
  rw [em] at hA
  obtain ⟨nm, qn, bs, sn, sub, ab, col, dd, k0, k1, k2, k3, k5, hC⟩ := c.obj
  obtain ⟨h1, g1, d1, t1, os1⟩ := s2
  have KX : X.K.In h1 := I2.kIn
  refine Xc.xstore2 (KX _ _ hC) (c.at KX) (c.no KX c.nsa) (c.no KX nf) hB hx hA fun h' tk' hns hs => ?_
  have nd : ∀ b, H2 b = none → b ≠ d := fun b n z => by rw [z, ed] at n; cases n
  have un : Un X.fs [] H2 (upd H2 d (.xd [(f, y), (f1, y1)])) h1 h' := by
    refine ⟨fun b o e n _ _ => (hs.2 b (nd b n)).trans e, fun b o e n _ _ => ⟨o.slots, (hs.2 b (nd b n)).trans e⟩, fun b o e n _ => by rw [upd_ne (nd b n)]; exact n, fun b o e _ => ?_, fun b xs e => ?_, fun b o u e => ?_, fun b ps e => ⟨#[], ?_⟩⟩
    · by_cases z : b = d
      · subst z
        obtain ⟨od, _, _, e1, _⟩ := hns
        exact ⟨od, e1⟩
      · exact ⟨o, (hs.2 b z).trans e⟩
    · rw [upd_ne (fun z => by rw [z, ed] at e; cases e)]; exact e
    · rw [upd_ne (fun z => by rw [z, ed] at e; cases e)]; exact e
    · rw [upd_ne (fun z => by rw [z, ed] at e; cases e), e]; simp
  have hok : HOk X.prog X.w (upd H2 d (.xd [(f, y), (f1, y1)])) h' := fun b u' e => by
    by_cases z : b = d
    · subst z
      rw [upd_same] at e; cases e
      refine ⟨_, hns, fun g => ?_⟩
      by_cases q : g = f
      · subst q
        rw [if_pos rfl]
        simp only [List.lookup, beq_self_eq_true]
        exact ry
      · rw [if_neg q]
        have hb : (g == f) = false := beq_eq_false_iff_ne.mpr q
        by_cases q2 : g = f1
        · subst q2
          rw [if_pos rfl]
          simp only [List.lookup, hb, beq_self_eq_true]
          exact ru1
        · rw [if_neg q2]
          have hb2 : (g == f1) = false := beq_eq_false_iff_ne.mpr q2
          simp only [List.lookup, hb, hb2]
          exact True.intro
    · rw [upd_ne z] at e
      refine (I2.hok b u' e).stay (fun b' v hb q => (hs.2 b' ?_).trans q) (fun b' q => ?_) fun b' xs q => ?_
      · rcases hb with y1 | y1
        · rw [y1]; exact z
        · intro y2; rw [y2, ed] at y1; cases y1
      · rw [upd_ne (fun y2 => by rw [y2, ed] at q; cases q)]; exact q
      · rw [upd_ne (fun y2 => by rw [y2, ed] at q; cases q)]; exact q
  exact ⟨σ, _, I2.un (t' := tk') un hok, q2⟩
end

structure FnH (P : Program) (w : World) (K : PySem.W.Frag) (mg : Str → Option Value) (base : Heap) (f : Addr) (fd : FuncData) (ps : List Str) (sp : Sp) : Prop where
  len : ∀ vs H Q E, sp vs H Q E → vs.length = ps.length
  run : ∀ (A : Around) (outer : List Env) (s : Shared) (H : Hp) (args : Args) (us : List Value) (vs : List V) (Q : VK), A.depth < recursionLimit → Env0 P w K mg base A outer s H → BindsTo s fd args (ps.zip us) → Vals vs us → sp vs H Q E0 →
    codeAny (model P w) A (.call (.ref f) args) (CR (CXx P w) outer P w H s Q E0) s
end L2

namespace L2
open PySem PySem.Spec PyProof.Rows
section
variable {X : Cx} {pins : List (Addr × Obj)} {σ : St} {H : Hp} {s : Shared} {z : Addr} {E : Value → Shared → Prop}
end
section
variable {X : Cx} {C N fI z : Addr} {fd : FuncData} {ps : List Str} {sp : Sp} {E : XK} {e : Expr} {es : List Expr} {t : TA} {x : Str} {p cpos pos npos : Pos}
end
section
variable {X : Cx} {pins : List (Addr × Obj)} {σ : St} {H : Hp} {s : Shared} {x C d : Addr} {q : Bool} {E : Value → Shared → Prop} {A : Around} {M : Model}
end
section
variable {X : Cx} {C N fI : Addr} {cn n : Str} {i : Nat} {b0 : Stmt} {suite body : List Stmt} {ts : Addr → TS} {tb : Ends → TS} {p hpos pos : Pos} {E : XK}
end
end L2

end
section
set_option Elab.async false
set_option linter.all false
set_option maxRecDepth 100000
set_option maxHeartbeats 2000000
namespace Ti7
open PySem
section
open PySem.SeqAt
open PySem.AutoSeq1 (wpAny_loadPart')
open PySem.MeetsSeq PySem.MeetsSeq2 PySem.MeetsSeq3
theorem forRange {M : Model} {A : Around} {E : Value → Shared → Prop} {β : Type} (b : Nat) (f : Nat → β → Sem (ForInStep β)) (I : Nat → β → Shared → Prop) (Q : β → Shared → Prop)
    (turn : ∀ i c s, i < b → I i c s → wpAny M A (f i c) (fun r s' => match r with | .yield c' => I (i + 1) c' s' | .done c' => Q c' s') E s)
    (fin : ∀ c s, I b c s → Q c s) {c : β} {s : Shared} (h : I 0 c s) : wpAny M A (forIn [0:b] c f) Q E s := by
  rw [Std.Legacy.Range.forIn_eq_forIn_range']
  have hsz : ([0:b] : Std.Legacy.Range).size = b := by simp [Std.Legacy.Range.size]
  show wpAny M A (forIn (List.range' 0 ([0:b] : Std.Legacy.Range).size 1) c f) Q E s
  rw [hsz]
  refine wpAny_forIn_list f (fun l c st => ∃ i, i ≤ b ∧ l = List.range' i (b - i) 1 ∧ I i c st) Q ?_ ?_ _ c ⟨0, Nat.zero_le _, rfl, h⟩
  · rintro x rest c st ⟨i, hib, hl, hI⟩
    have hlt : i < b := by
      rcases Nat.lt_or_ge i b with h' | h'
      · exact h'
      · rw [show b - i = 0 by omega] at hl; simp at hl
    obtain ⟨n, hn⟩ : ∃ n, b - i = n + 1 := ⟨b - i - 1, by omega⟩
    rw [hn, List.range'_succ] at hl
    obtain ⟨rfl, rfl⟩ := List.cons.inj hl
    refine wpAny_mono (turn x c st hlt hI) (fun r st' h' => ?_) fun _ _ h' => h'
    cases r with
    | done c' => exact h'
    | yield c' => exact ⟨x + 1, by omega, by congr 1; omega, h'⟩
  · rintro c st ⟨i, hib, hl, hI⟩
    have : i = b := by
      rcases Nat.lt_or_ge i b with h' | h'
      · obtain ⟨n, hn⟩ : ∃ n, b - i = n + 1 := ⟨b - i - 1, by omega⟩
        rw [hn, List.range'_succ] at hl; simp at hl
      · omega
    subst this; exact fin _ _ hI
theorem tuple_indexAt (l : Addr) (items : Array Value) (n : Nat) (dd : Option Addr) (sl : Array (Option Value)) (x : Value) (e : Value → Bool) (j : Nat) (hj : j < items.size)
    (hit : e items[j] = true) (hno : ∀ m (hm : m < items.size), m < j → e items[m] = false) :
    Meets (Builtin.«tuple.index» ⟨[.ref l, x], []⟩)
      (fun A R s => s.heap.get? l = some { cls := .type "tuple", dict := dd, data := .seq items n, slots := sl } ∧ (∀ y, y ∈ items → EqAt A.in1 s y x (e y)) ∧ R (.ok (.ret (.int j s.toks))) { s with toks := s.toks + 1 }) := by
  intro prog w A R s h
  obtain ⟨hp, g, d, tk, os⟩ := s; obtain ⟨hl, he, h⟩ := h
  wp_walk using wpAny_loadPart' hl
  refine forRange (min items.size items.size) _ (fun i c s => c = (none, ()) ∧ i ≤ j ∧ s = ⟨hp, g, d, tk, os⟩) _ ?_ ?_ ⟨rfl, Nat.zero_le _, rfl⟩
  · rintro i c s hi ⟨rfl, hij, rfl⟩
    have hi' : i < items.size := by omega
    have e0 : items[i]? = some items[i] := by simp [hi']
    simp only [e0]
    refine wpAny_bind (he _ (Array.getElem_mem hi') prog w _ _ ?_)
    rcases Nat.lt_or_ge i j with h1 | h1
    · rw [hno i hi' h1]
      wp_walk
      exact ⟨rfl, h1, rfl⟩
    · have : i = j := by omega
      subst this
      rw [hit]
      wp_walk
      exact h
  · rintro c s ⟨rfl, h1, rfl⟩
    omega
end
end Ti7
namespace L2
open PySem
variable {X : Cx}
noncomputable def rIndexT (K : PySem.W.Frag) : V → List V → Hp → VK → Prop := fun x xs H Q => ∃ (a : Addr) (ys : List V) (y : V) (j : Nat) (z : V), x = V.ref a ∧ xs = [y] ∧ SqT K H a ys ∧ flatV y = true ∧ ys.all flatV = true ∧ ys[j]? = some z ∧ eqV z y = true ∧
  (∀ (m : Nat) (z' : V), m < j → ys[m]? = some z' → eqV z' y = false) ∧ Q (.int (j : Nat)) H
theorem mt_indexT : MtR X "tuple.index" (rIndexT X.K) := by
  intro pins s σ H x xs v us Q I rx rxs h
  obtain ⟨a, ys, y, j, z, rfl, rfl, hs, fy, fys, hz, hzj, hno, q⟩ := h
  cases rx
  cases rxs with
  | cons ry rt =>
    rename_i uy ut
    cases rt
    obtain ⟨its, rv, ⟨⟨cls, dd, data, sl⟩, ho, hc, n, hd⟩, hlen⟩ := I.tuple hs
    simp only at hc hd
    subst hc hd
    obtain ⟨u, hu, ru⟩ := rv.get hz
    obtain ⟨hjl, hje⟩ := List.getElem?_eq_some_iff.mp hu
    have hvl := rv.length
    have hj : j < its.toArray.size := by simpa using hjl
    refine call_meets PySem.F.slot_tuple_index ⟨_, ho, rfl⟩ PySem.F.entry_tuple_index (PySem.F.args_tuple_index_2 _ _)
      (Ti7.tuple_indexAt a its.toArray n dd sl uy (eqU y) j hj ?_ ?_) ⟨ho, fun u' hu' => mem_eqAt ry fy rv fys u' (by simpa using hu'), ?_⟩
    · have e1 : its.toArray[j] = u := by simpa using hje
      rw [e1, eqU_of ru (flat_at fys hz)]
      exact hzj
    · intro m hm hmj
      have hml : m < its.length := by simpa using hm
      have hmy : m < ys.length := by omega
      have hy' : ys[m]? = some ys[m] := List.getElem?_eq_getElem hmy
      obtain ⟨u2, hu2, ru2⟩ := rv.get hy'
      obtain ⟨_, hme⟩ := List.getElem?_eq_some_iff.mp hu2
      have e1 : its.toArray[m] = u2 := by simpa using hme
      rw [e1, eqU_of ru2 (flat_at fys hy')]
      exact hno m _ hmj hy'
    · exact ⟨.int (j : Nat), H, I.tok _, ⟨_, rfl⟩, q⟩
theorem PE.or {e : Expr} {t t' : TE} (h : PE X e t) (h' : PE X e t') : PE X e (fun σ H Q => t σ H Q ∨ t' σ H Q) := by
  intro pins s σ H Q I q
  rcases q with q | q
  · exact h pins s σ H Q I q
  · exact h' pins s σ H Q I q
end L2

end
section
set_option linter.all false
namespace Ma
open Sh
noncomputable def byt (ns : List Int) : Bytes := ns.map fun n => UInt8.ofNat n.toNat
noncomputable def Byts (ns : List Int) : Prop := ∀ x ∈ ns, 0 ≤ x ∧ x ≤ 255
theorem byt_len (ns : List Int) : (byt ns).length = ns.length := List.length_map _
noncomputable def partedAt (p : Nat) (b : Bytes) : Except Nat (Field × Nat × Bytes) := match numAt 0 7 ANY p b with
  | .error e => .error e
  | .ok d => match numAt 0 5 ANY d.2.1 d.2.2 with
    | .error e => .error e
    | .ok l => match numAt 0 8 ANY l.2.1 l.2.2 with
      | .error e => .error e
      | .ok a => match numAt 0 8 a.1 a.2.1 a.2.2 with
        | .error e => .error e
        | .ok c => .ok (.parted d.1 l.1 a.1 c.1, c.2)
noncomputable def variedAt (p : Nat) (b : Bytes) : Except Nat (Field × Nat × Bytes) := match numAt 0 6 ANY p b with
  | .error e => .error e
  | .ok v => match numAt 2 24 ANY v.2.1 v.2.2 with
    | .error e => .error e
    | .ok n => match numAt 0 (if 5 ≤ v.1 then 0 else 5) ANY n.2.1 n.2.2 with
      | .error e => .error e
      | .ok l => match numAt 0 8 ANY l.2.1 l.2.2 with
        | .error e => .error e
        | .ok a => match numAt 0 8 a.1 a.2.1 a.2.2 with
          | .error e => .error e
          | .ok c => .ok (.varied v.1 n.1 l.1 a.1 c.1, c.2)
noncomputable def FieldOk : Field → Prop
  | .plain t => t ≤ 8
  | .parted d l a b => d ≤ 7 ∧ l ≤ 5 ∧ a ≤ 8 ∧ b ≤ 8 ∧ b ≠ a
  | .varied v n l a b => v ≤ 6 ∧ 2 ≤ n ∧ n ≤ 24 ∧ l ≤ 5 ∧ (5 ≤ v → l = 0) ∧ a ≤ 8 ∧ b ≤ 8 ∧ b ≠ a
noncomputable def FillOk (below : Field) : Fill → Prop
  | .solid f => FieldOk f
  | .counter => below.two.isSome = true
noncomputable def ordAt (below : Field) (p : Nat) (b : Bytes) : Except Nat (Layer × Nat × Bytes) := match numAt 0 12 ANY p b with
  | .error e => .error e
  | .ok o => match numAt 0 5 ANY o.2.1 o.2.2 with
    | .error e => .error e
    | .ok l => match fillAt below l.2.1 l.2.2 with
      | .error e => .error e
      | .ok f => .ok (.ord o.1 l.1 f.1, f.2)
noncomputable def groupAt (below : Field) (p : Nat) (b : Bytes) : Except Nat (Layer × Nat × Bytes) := match numAt 0 15 ANY p b with
  | .error e => .error e
  | .ok c => match numAt 1 10 ANY c.2.1 c.2.2 with
    | .error e => .error e
    | .ok n => match numAt 0 6 ANY n.2.1 n.2.2 with
      | .error e => .error e
      | .ok m => match numAt 1 4 ANY m.2.1 m.2.2 with
        | .error e => .error e
        | .ok s => match fillAt below s.2.1 s.2.2 with
          | .error e => .error e
          | .ok f => .ok (.group c.1 n.1 m.1 s.1 f.1, f.2)
theorem text_of {ns : List Int} (h : Byts ns) : ArmsNeutral.text? ns = some (byt ns) := by
  unfold ArmsNeutral.text?
  have q : NeutralIO.bytes ns = true := by
    unfold NeutralIO.bytes
    rw [List.all_eq_true]
    intro x hx
    have := h x hx
    simp [this.1, this.2]
  rw [if_pos q]
  rfl
end Ma

end
section
set_option linter.all false
namespace Ma
open Sh
end Ma

end
section
set_option linter.all false
namespace Ma
open Sh
noncomputable def bnd {α β : Type} (x : Except Nat (α × Nat × Bytes)) (f : α → Nat → Bytes → Except Nat β) : Except Nat β := match x with
  | .error e => .error e
  | .ok t => f t.1 t.2.1 t.2.2
end Ma

end
section
set_option linter.all false
namespace Ma
open Sh
end Ma

end
section
set_option Elab.async false
set_option linter.all false
set_option maxRecDepth 100000
namespace Ma
open Sh
theorem read_eq {ns : List Int} (h : Byts ns) : PyWqbabn.read ns = match ShBlazon.read (byt ns) with | .error e => [-(e.1 : Int), (e.2 : Int)] | .ok x => (x.bytes.length : Int) :: x.bytes.map fun (b : UInt8) => (b.toNat : Int) := by
  have e : ArmsNeutral.callOf [[7], ns] = some (.read (byt ns)) := by
    show (ArmsNeutral.text? ns).map ShOffice.Call.read = _
    rw [text_of h]; rfl
  unfold PyWqbabn.read ArmsNeutral.f
  rw [e]
  have a : ShOffice.answer (.read (byt ns)) = (match ShBlazon.read (byt ns) with | .error e => ShOffice.tells (-(e.1 : Int)) [e.2] | .ok x => ShOffice.gives x.bytes) := rfl
  simp only [a]
  cases ShBlazon.read (byt ns) <;> rfl
noncomputable abbrev nB (b : Bytes) : List Nat := b.map fun c => c.toNat
noncomputable abbrev BTok := ShBlazon.Token
noncomputable abbrev BSt := ShBlazon.St
noncomputable def bq (b : Bytes) (e : Nat) : Nat := e + ((b.drop e).takeWhile ShBlazon.isBlank).length
noncomputable def bt (b : Bytes) (e : Nat) : BTok := (ShBlazon.oneToken (bq b e) (b.drop (bq b e))).1
noncomputable def bn (b : Bytes) (e : Nat) : Nat := bq b e + (ShBlazon.oneToken (bq b e) (b.drop (bq b e))).2
noncomputable def ts (b : Bytes) (e : Nat) : BSt := ShBlazon.tokensFrom (b.length + 1) e (b.drop e)
theorem tw_len {α : Type} (f : α → Bool) : ∀ l : List α, (l.takeWhile f).length ≤ l.length
  | [] => Nat.le_refl _
  | a :: l => by
    rw [List.takeWhile_cons]
    split
    · have := tw_len f l; simp only [List.length_cons]; omega
    · exact Nat.zero_le _
theorem tw_pos {α : Type} {f : α → Bool} {a : α} {l : List α} (h : f a = true) : 1 ≤ ((a :: l).takeWhile f).length := by
  rw [List.takeWhile_cons, if_pos h]; simp only [List.length_cons]; omega
inductive Kd (p : Nat) (c : Bytes) : BTok × Nat → Prop
  | fin : c = [] → Kd p c (⟨p, 3, [], 0⟩, 0)
  | word (x : UInt8) (r : Bytes) : c = x :: r → ShBlazon.isLetter x = true → Kd p c (⟨p, 0, c.takeWhile ShBlazon.isLetter, 0⟩, (c.takeWhile ShBlazon.isLetter).length)
  | num (x : UInt8) (r : Bytes) : c = x :: r → ShBlazon.isLetter x = false → ShBlazon.isDigit x = true → x ≠ 48 → ShBlazon.valueOf (c.takeWhile ShBlazon.isDigit) < 1000 → Kd p c (⟨p, 1, [], ShBlazon.valueOf (c.takeWhile ShBlazon.isDigit)⟩, (c.takeWhile ShBlazon.isDigit).length)
  | noNum (x : UInt8) (r : Bytes) : c = x :: r → ShBlazon.isLetter x = false → ShBlazon.isDigit x = true → ¬ (x ≠ 48 ∧ ShBlazon.valueOf (c.takeWhile ShBlazon.isDigit) < 1000) → Kd p c (⟨p, 5, [], 0⟩, 0)
  | comma (r : Bytes) : c = 44 :: r → Kd p c (⟨p, 2, [], 0⟩, 1)
  | bad (x : UInt8) (r : Bytes) : c = x :: r → ShBlazon.isLetter x = false → ShBlazon.isDigit x = false → x ≠ 44 → Kd p c (⟨p, 4, [], 0⟩, 0)
theorem kd (p : Nat) (c : Bytes) : Kd p c (ShBlazon.oneToken p c) := by
  cases c with
  | nil => exact .fin rfl
  | cons x r =>
    unfold ShBlazon.oneToken
    dsimp only
    by_cases h1 : ShBlazon.isLetter x = true
    · rw [if_pos h1]; exact .word x r rfl h1
    · rw [if_neg h1]
      have h1 : ShBlazon.isLetter x = false := by simpa using h1
      by_cases h2 : ShBlazon.isDigit x = true
      · rw [if_pos h2]
        by_cases h3 : x ≠ 48 ∧ ShBlazon.valueOf ((x :: r).takeWhile ShBlazon.isDigit) < 1000
        · rw [if_pos h3]; exact .num x r rfl h1 h2 h3.1 h3.2
        · rw [if_neg h3]; exact .noNum x r rfl h1 h2 h3
      · rw [if_neg h2]
        have h2 : ShBlazon.isDigit x = false := by simpa using h2
        by_cases h3 : x = 44
        · rw [if_pos h3]; subst h3; exact .comma r rfl
        · rw [if_neg h3]; exact .bad x r rfl h1 h2 h3
theorem one_pos {p : Nat} {c : Bytes} (h : (ShBlazon.oneToken p c).1.kind < 3) : 1 ≤ (ShBlazon.oneToken p c).2 ∧ (ShBlazon.oneToken p c).2 ≤ c.length := by
  have k := kd p c
  revert h
  generalize ShBlazon.oneToken p c = t at k ⊢
  cases k with
  | fin e => intro h; exact absurd h (show ¬ (3 : Nat) < 3 by decide)
  | word x r e h1 => intro _; refine ⟨?_, tw_len _ _⟩; rw [e]; exact tw_pos h1
  | num x r e _ h1 _ _ => intro _; refine ⟨?_, tw_len _ _⟩; rw [e]; exact tw_pos h1
  | noNum x r e _ _ _ => intro h; exact absurd h (show ¬ (5 : Nat) < 3 by decide)
  | comma r e => intro _; refine ⟨Nat.le_refl _, ?_⟩; rw [e]; simp only [List.length_cons]; omega
  | bad x r e _ _ _ => intro h; exact absurd h (show ¬ (4 : Nat) < 3 by decide)
theorem fuel : ∀ (f g p : Nat) (c : Bytes), c.length < f → c.length < g → ShBlazon.tokensFrom f p c = ShBlazon.tokensFrom g p c
  | 0, _, _, _, h, _ => absurd h (Nat.not_lt_zero _)
  | _ + 1, 0, _, _, _, h => absurd h (Nat.not_lt_zero _)
  | f + 1, g + 1, p, c, h1, h2 => by
    unfold ShBlazon.tokensFrom
    dsimp only
    congr 1
    split
    · rfl
    · rename_i hk
      obtain ⟨a, b⟩ := one_pos (Nat.lt_of_not_le hk)
      rw [List.length_drop] at b
      exact fuel f g _ _ (by rw [List.length_drop]; omega) (by rw [List.length_drop]; omega)
theorem ts_eq (b : Bytes) (e : Nat) : ts b e = bt b e :: (if 3 ≤ (bt b e).kind then [] else ts b (bn b e)) := by
  have ed : (b.drop e).drop ((b.drop e).takeWhile ShBlazon.isBlank).length = b.drop (bq b e) := by rw [List.drop_drop]; rfl
  show (let k := ((b.drop e).takeWhile ShBlazon.isBlank).length
    let x := ShBlazon.oneToken (e + k) ((b.drop e).drop k)
    x.1 :: (if 3 ≤ x.1.kind then [] else ShBlazon.tokensFrom b.length (e + k + x.2) ((b.drop e).drop (k + x.2)))) = _
  dsimp only
  rw [ed]
  show bt b e :: (if 3 ≤ (bt b e).kind then [] else ShBlazon.tokensFrom b.length (bn b e) _) = _
  congr 1
  by_cases hk : 3 ≤ (bt b e).kind
  · rw [if_pos hk, if_pos hk]
  · rw [if_neg hk, if_neg hk]
    obtain ⟨a, c⟩ := one_pos (Nat.lt_of_not_le hk)
    have e2 : (b.drop e).drop (((b.drop e).takeWhile ShBlazon.isBlank).length + (ShBlazon.oneToken (bq b e) (b.drop (bq b e))).2) = b.drop (bn b e) := by
      rw [List.drop_drop]; unfold bn bq; rw [Nat.add_assoc]
    refine (congrArg (ShBlazon.tokensFrom b.length (bn b e)) e2).trans ?_
    rw [List.length_drop] at c
    exact fuel _ _ _ _ (by rw [List.length_drop]; unfold bn; omega) (by rw [List.length_drop]; omega)
theorem kind_ts (b : Bytes) (e : Nat) : ShBlazon.kindOf (ts b e) = (bt b e).kind := by rw [ts_eq]; rfl
theorem place_ts (b : Bytes) (e : Nat) : ShBlazon.place (ts b e) = (bt b e).at_ := by rw [ts_eq]; rfl
theorem word_ts (b : Bytes) (e : Nat) : ShBlazon.wordOf (ts b e) = (bt b e).bytes := by rw [ts_eq]; rfl
theorem num_ts (b : Bytes) (e : Nat) : ShBlazon.numOf (ts b e) = (bt b e).num := by rw [ts_eq]; rfl
theorem drop_ts {b : Bytes} {e : Nat} (h : (bt b e).kind < 3) : (ts b e).drop 1 = ts b (bn b e) := by
  rw [ts_eq, if_neg (by omega)]; rfl
theorem at_bt (b : Bytes) (e : Nat) : (bt b e).at_ = bq b e := by
  have k := kd (bq b e) (b.drop (bq b e))
  unfold bt
  generalize ShBlazon.oneToken (bq b e) (b.drop (bq b e)) = t at k ⊢
  cases k <;> rfl
noncomputable def ptx (c : Bytes) : List Nat := match c with
  | [] => []
  | x :: _ => if ShBlazon.isLetter x = true then nB (c.takeWhile ShBlazon.isLetter) else if ShBlazon.isDigit x = true then nB (c.takeWhile ShBlazon.isDigit) else [44]
noncomputable def txt (b : Bytes) (e : Nat) : List Nat := ptx (b.drop (bq b e))
noncomputable def Good (b : Bytes) (e : Nat) : Prop := (bt b e).kind ≤ 3
noncomputable def isL (c : Nat) : Bool := decide (97 ≤ c) && decide (c ≤ 122)
noncomputable def isD (c : Nat) : Bool := decide (48 ≤ c) && decide (c ≤ 57)
theorem isL_of (x : UInt8) : isL x.toNat = ShBlazon.isLetter x := by
  unfold isL ShBlazon.isLetter
  congr 1
theorem isD_of (x : UInt8) : isD x.toNat = ShBlazon.isDigit x := by
  unfold isD ShBlazon.isDigit
  congr 1
theorem tw_all {α : Type} (f : α → Bool) : ∀ (l : List α), ∀ x ∈ l.takeWhile f, f x = true
  | [], x, h => by cases h
  | a :: l, x, h => by
    rw [List.takeWhile_cons] at h
    split at h
    · rename_i ha
      rcases List.mem_cons.mp h with z | z
      · rw [z]; exact ha
      · exact tw_all f l x z
    · cases h
theorem txt_kind {b : Bytes} {e : Nat} (g : Good b e) :
    ((bt b e).kind = 0 ∧ txt b e = nB (bt b e).bytes ∧ (bt b e).bytes ≠ [] ∧ (∀ c ∈ txt b e, isL c = true) ∧ bn b e = bq b e + (txt b e).length) ∨
    ((bt b e).kind = 1 ∧ (∃ D : Bytes, txt b e = nB D ∧ D ≠ [] ∧ (bt b e).num = ShBlazon.valueOf D ∧ D.length ≤ b.length) ∧ (∀ c ∈ txt b e, isD c = true) ∧ bn b e = bq b e + (txt b e).length) ∨
    ((bt b e).kind = 2 ∧ txt b e = [44] ∧ bn b e = bq b e + 1) ∨ ((bt b e).kind = 3 ∧ txt b e = [] ∧ bn b e = bq b e) := by
  unfold Good at g
  have hl : (b.drop (bq b e)).length ≤ b.length := by rw [List.length_drop]; omega
  revert g
  unfold bt bn txt
  generalize b.drop (bq b e) = c at *
  have k := kd (bq b e) c
  generalize ShBlazon.oneToken (bq b e) c = t at k ⊢
  cases k with
  | fin h => intro _; subst h; exact .inr (.inr (.inr ⟨rfl, rfl, rfl⟩))
  | word x r h h1 =>
    intro _
    have et : ptx c = nB (c.takeWhile ShBlazon.isLetter) := by rw [h]; unfold ptx; dsimp only; rw [if_pos h1]
    refine .inl ⟨rfl, et, ?_, ?_, ?_⟩
    · intro z
      have : 1 ≤ (c.takeWhile ShBlazon.isLetter).length := by rw [h]; exact tw_pos h1
      simp only at z
      rw [z] at this; exact absurd this (by decide)
    · intro y hy
      rw [et] at hy
      obtain ⟨x, hx, rfl⟩ := List.mem_map.mp hy
      rw [isL_of]; exact tw_all _ _ x hx
    · rw [et, List.length_map]
  | num x r h h0 h1 h2 h3 =>
    intro _
    have et : ptx c = nB (c.takeWhile ShBlazon.isDigit) := by rw [h]; unfold ptx; dsimp only; rw [if_neg (by rw [h0]; exact Bool.false_ne_true), if_pos h1]
    refine .inr (.inl ⟨rfl, ⟨_, et, ?_, rfl, Nat.le_trans (tw_len _ _) hl⟩, ?_, ?_⟩)
    · intro z
      have : 1 ≤ (c.takeWhile ShBlazon.isDigit).length := by rw [h]; exact tw_pos h1
      rw [z] at this; exact absurd this (by decide)
    · intro y hy
      rw [et] at hy
      obtain ⟨x, hx, rfl⟩ := List.mem_map.mp hy
      rw [isD_of]; exact tw_all _ _ x hx
    · rw [et, List.length_map]
  | noNum x r h h0 h1 h2 => intro g; exact absurd g (show ¬ (5 : Nat) ≤ 3 by decide)
  | comma r h => intro _; subst h; exact .inr (.inr (.inl ⟨rfl, rfl, rfl⟩))
  | bad x r h h0 h1 h2 => intro g; exact absurd g (show ¬ (4 : Nat) ≤ 3 by decide)

noncomputable def Bad (s : BSt) : Prop := ShBlazon.kindOf s = 4 ∨ ShBlazon.kindOf s = 5
instance (s : BSt) : Decidable (Bad s) := by unfold Bad; infer_instance
theorem good_of {b : Bytes} {e : Nat} (h : ¬ Bad (ts b e)) : Good b e := by
  unfold Bad at h
  rw [kind_ts] at h
  unfold Good
  revert h
  have k := kd (bq b e) (b.drop (bq b e))
  unfold bt
  generalize ShBlazon.oneToken (bq b e) (b.drop (bq b e)) = t at k ⊢
  cases k <;> intro h <;> first | exact Nat.zero_le _ | (show (1 : Nat) ≤ 3; decide) | (show (2 : Nat) ≤ 3; decide) | (show (3 : Nat) ≤ 3; decide) | exact absurd (.inl rfl) h | exact absurd (.inr rfl) h
theorem not_bad {b : Bytes} {e : Nat} (h : Good b e) : ¬ Bad (ts b e) := by
  unfold Bad; unfold Good at h; rw [kind_ts]; omega
theorem bad_look {s : BSt} (h : Bad s) (l : List Bytes) : ShBlazon.look l s = none := by
  unfold ShBlazon.look; rw [if_neg (by unfold Bad at h; omega)]
theorem bad_word {s : BSt} (h : Bad s) (w : String) : ShBlazon.isWord s w = false := by
  unfold ShBlazon.isWord
  have : (ShBlazon.kindOf s == 0) = false := by rw [beq_eq_false_iff_ne]; unfold Bad at h; omega
  rw [this]; rfl
theorem bad_eat {s : BSt} (h : Bad s) (l : List Bytes) : ShBlazon.eat l s = .error (ShBlazon.wanted s) := by
  unfold ShBlazon.eat; rw [bad_look h]
theorem bad_eatWord {s : BSt} (h : Bad s) (w : String) : ShBlazon.eatWord w s = .error (ShBlazon.wanted s) := by
  unfold ShBlazon.eatWord; rw [bad_word h, if_neg Bool.false_ne_true]
theorem bad_line {s : BSt} (h : Bad s) : ShBlazon.lineAt s = (0, s) := by unfold ShBlazon.lineAt; rw [bad_look h]
theorem bad_size {s : BSt} (h : Bad s) : ShBlazon.sizeAt s = (3, s) := by unfold ShBlazon.sizeAt; rw [bad_look h]
theorem bad_two {s : BSt} (h : Bad s) : ShBlazon.twoAt s = .error (ShBlazon.wanted s) := by unfold ShBlazon.twoAt; rw [bad_eat h]
theorem bad_pieces {s : BSt} (h : Bad s) : ShBlazon.piecesAt s = .error (ShBlazon.wanted s) := by unfold ShBlazon.piecesAt; rw [bad_eatWord h]
theorem bad_parted {s : BSt} (h : Bad s) (d : Nat) : ShBlazon.partedAt d s = .error (ShBlazon.wanted s) := by unfold ShBlazon.partedAt; rw [bad_line h, bad_two h]
theorem bad_varied {s : BSt} (h : Bad s) (d : Nat) : ShBlazon.variedAt d s = .error (ShBlazon.wanted s) := by unfold ShBlazon.variedAt; rw [bad_pieces h]
theorem bad_field {s : BSt} (h : Bad s) : ShBlazon.fieldAt s = .error (ShBlazon.wanted s) := by
  unfold ShBlazon.fieldAt; rw [bad_look h, bad_word h, bad_word h, bad_word h, bad_eat h]; rfl
theorem bad_fill {s : BSt} (h : Bad s) (f : Field) : ShBlazon.fillAt f s = .error (ShBlazon.wanted s) := by
  unfold ShBlazon.fillAt; rw [bad_word h, bad_field h]; rfl
theorem bad_manner {s : BSt} (h : Bad s) : ShBlazon.mannerAt s = .ok (0, s) := by
  unfold ShBlazon.mannerAt; rw [bad_word h]; rfl
theorem bad_group {s : BSt} (h : Bad s) (f : Field) (n : Nat) (l : List Bytes) : ShBlazon.groupAt f n l s = .error (ShBlazon.wanted s) := by
  unfold ShBlazon.groupAt; rw [bad_size h, bad_eat h]
theorem bad_sin {s : BSt} (h : Bad s) (a k : Nat) : ShBlazon.sinister a k s = (k, s) := by
  unfold ShBlazon.sinister; rw [bad_word h]; rw [if_neg (fun z => Bool.false_ne_true z.2)]
theorem bad_layers {s : BSt} (h : Bad s) (f : Field) (j : Nat) : ShBlazon.layersAt f j s = .error (ShBlazon.wanted s) := by
  have h2 : ¬ ShBlazon.kindOf s = 2 := by unfold Bad at h; omega
  have h3 : ¬ ShBlazon.kindOf s = 3 := by unfold Bad at h; omega
  cases j <;> (unfold ShBlazon.layersAt; rw [if_neg h2, if_neg h3])
noncomputable def cor (o : Option (List Nat)) (x : Bytes) : Bool := match o with
  | none => x.isEmpty
  | some [] => false
  | some (c :: w) => isL c && (if (c :: w).all isL = true then nB x == (c :: w) else x.isEmpty)
noncomputable def corL : List (Option (List Nat)) → List Bytes → Bool
  | [], [] => true
  | o :: os, x :: xs => cor o x && corL os xs
  | _, _ => false
theorem nB_inj {a b : Bytes} (h : nB a = nB b) : a = b := by
  induction a generalizing b with
  | nil => cases b with
    | nil => rfl
    | cons y b => cases h
  | cons x a ih =>
    cases b with
    | nil => cases h
    | cons y b =>
      have h1 := List.cons.inj h
      rw [ih h1.2, UInt8.toNat_inj.mp h1.1]
theorem cor_word {o : Option (List Nat)} {x W : Bytes} (h : cor o x = true) (hW : W ≠ []) (hL : ∀ c ∈ nB W, isL c = true) : (o == some (nB W)) = (x == W) := by
  have e0 : x.isEmpty = true → (x == W) = false := fun z => by
    rw [List.isEmpty_iff] at z
    rw [z, beq_eq_false_iff_ne]; exact fun y => hW y.symm
  cases o with
  | none => rw [e0 h]; rfl
  | some w =>
    cases w with
    | nil => cases h
    | cons c w =>
      unfold cor at h
      rw [Bool.and_eq_true] at h
      by_cases ha : (c :: w).all isL = true
      · rw [if_pos ha] at h
        have e1 := eq_of_beq h.2
        rw [← e1]
        by_cases hx : x = W
        · rw [hx]; simp
        · rw [beq_eq_false_iff_ne.mpr hx, beq_eq_false_iff_ne]
          intro z
          exact hx (nB_inj (Option.some.inj z))
      · rw [if_neg ha] at h
        rw [e0 h.2, beq_eq_false_iff_ne]
        intro z
        refine ha (List.all_eq_true.mpr fun c hc => ?_)
        rw [Option.some.inj z] at hc
        exact hL c hc
theorem cor_else {o : Option (List Nat)} {x : Bytes} {t : List Nat} (h : cor o x = true) (ht : ∀ c r, t = c :: r → isL c = false) : (o == some t) = false := by
  cases o with
  | none => rfl
  | some w =>
    cases w with
    | nil => cases h
    | cons c w =>
      unfold cor at h
      rw [Bool.and_eq_true] at h
      rw [beq_eq_false_iff_ne]
      intro z
      have := ht c w (Option.some.inj z).symm
      rw [h.1] at this; cases this
theorem corL_word {W : Bytes} (hW : W ≠ []) (hL : ∀ c ∈ nB W, isL c = true) : ∀ {os : List (Option (List Nat))} {l : List Bytes}, corL os l = true → os.findIdx? (fun o => o == some (nB W)) = l.findIdx? (fun w => w == W)
  | [], [], _ => rfl
  | o :: os, x :: xs, h => by
    have h : (cor o x && corL os xs) = true := h
    rw [Bool.and_eq_true] at h
    rw [List.findIdx?_cons, List.findIdx?_cons, cor_word h.1 hW hL, corL_word hW hL h.2]
  | [], _ :: _, h => by cases h
  | _ :: _, [], h => by cases h
theorem corL_else {t : List Nat} (ht : ∀ c r, t = c :: r → isL c = false) : ∀ {os : List (Option (List Nat))} {l : List Bytes}, corL os l = true → os.findIdx? (fun o => o == some t) = none
  | [], [], _ => rfl
  | o :: os, x :: xs, h => by
    have h : (cor o x && corL os xs) = true := h
    rw [Bool.and_eq_true] at h
    rw [List.findIdx?_cons, cor_else h.1 ht, corL_else ht h.2]
    rfl
  | [], _ :: _, h => by cases h
  | _ :: _, [], h => by cases h
theorem no_word {b : Bytes} {e : Nat} (g : Good b e) (h : ¬ (bt b e).kind = 0) : ∀ c r, txt b e = c :: r → isL c = false := by
  intro c r z
  rcases txt_kind g with ⟨k, _⟩ | ⟨_, _, hd, _⟩ | ⟨_, k, _⟩ | ⟨_, k, _⟩
  · exact absurd k h
  · have := hd c (by rw [z]; exact List.mem_cons_self ..)
    unfold isD at this; unfold isL
    rw [Bool.and_eq_true, decide_eq_true_eq, decide_eq_true_eq] at this
    rw [decide_eq_false (by omega)]; rfl
  · rw [k] at z; injection z with z1 _; rw [← z1]; rfl
  · rw [k] at z; cases z
theorem look_txt {b : Bytes} {e : Nat} (g : Good b e) {os : List (Option (List Nat))} {l : List Bytes} (h : corL os l = true) : ShBlazon.look l (ts b e) = os.findIdx? (fun o => o == some (txt b e)) := by
  unfold ShBlazon.look
  rw [kind_ts, word_ts]
  by_cases hk : (bt b e).kind = 0
  · rw [if_pos hk]
    rcases txt_kind g with ⟨_, k1, k2, k3, _⟩ | ⟨k, _⟩ | ⟨k, _⟩ | ⟨k, _⟩
    · rw [k1] at k3 ⊢
      exact (corL_word k2 k3 h).symm
    · omega
    · omega
    · omega
  · rw [if_neg hk, corL_else (no_word g hk) h]
theorem word_txt {b : Bytes} {e : Nat} (g : Good b e) {w : String} {c : Nat} {r : List Nat} (h : nB (ShBlazon.ascii w) = c :: r) (hc : isL c = true) : ShBlazon.isWord (ts b e) w = decide (txt b e = c :: r) := by
  unfold ShBlazon.isWord
  rw [kind_ts, word_ts]
  by_cases hk : (bt b e).kind = 0
  · rw [hk]
    rcases txt_kind g with ⟨_, k1, k2, k3, _⟩ | ⟨k, _⟩ | ⟨k, _⟩ | ⟨k, _⟩
    · rw [k1, ← h]
      by_cases hx : (bt b e).bytes = ShBlazon.ascii w
      · rw [hx]; simp
      · rw [beq_eq_false_iff_ne.mpr hx, decide_eq_false (fun z => hx (nB_inj z))]; rfl
    · omega
    · omega
    · omega
  · rw [beq_eq_false_iff_ne.mpr hk, decide_eq_false]
    · rfl
    · intro z
      have := no_word g hk c r z
      rw [hc] at this; cases this
theorem end_txt {b : Bytes} {e : Nat} (g : Good b e) : ((bt b e).kind = 3) ↔ txt b e = [] := by
  rcases txt_kind g with ⟨k, k1, k2, _⟩ | ⟨k, ⟨D, k1, k2, _⟩, _⟩ | ⟨k, k1, _⟩ | ⟨k, k1, _⟩
  · refine ⟨fun z => by omega, fun z => ?_⟩
    rw [k1] at z; exact absurd (List.map_eq_nil_iff.mp z) k2
  · refine ⟨fun z => by omega, fun z => ?_⟩
    rw [k1] at z; exact absurd (List.map_eq_nil_iff.mp z) k2
  · refine ⟨fun z => by omega, fun z => ?_⟩
    rw [k1] at z; cases z
  · exact ⟨fun _ => k1, fun _ => k⟩
theorem comma_txt {b : Bytes} {e : Nat} (g : Good b e) : ((bt b e).kind = 2) ↔ txt b e = [44] := by
  have no : ∀ (f : Nat → Bool), f 44 = false → (∀ c ∈ txt b e, f c = true) → ¬ txt b e = [44] := fun f h1 h2 z => by
    have := h2 44 (by rw [z]; exact List.mem_cons_self ..)
    rw [h1] at this; cases this
  rcases txt_kind g with ⟨k, k1, k2, k3, _⟩ | ⟨k, _, k3, _⟩ | ⟨k, k1, _⟩ | ⟨k, k1, _⟩
  · exact ⟨fun z => by omega, fun z => absurd z (no isL rfl k3)⟩
  · exact ⟨fun z => by omega, fun z => absurd z (no isD rfl k3)⟩
  · exact ⟨fun _ => k1, fun _ => k⟩
  · refine ⟨fun z => by omega, fun z => ?_⟩
    rw [k1] at z; cases z
theorem num_txt {b : Bytes} {e : Nat} (g : Good b e) : ((bt b e).kind = 1) ↔ (txt b e ≠ [] ∧ ∀ c ∈ txt b e, isD c = true) := by
  rcases txt_kind g with ⟨k, k1, k2, k3, _⟩ | ⟨k, ⟨D, k1, k2, _⟩, k3, _⟩ | ⟨k, k1, _⟩ | ⟨k, k1, _⟩
  · refine ⟨fun z => by omega, fun z => ?_⟩
    cases q : txt b e with
    | nil => exact absurd q z.1
    | cons c r =>
      have a1 := k3 c (by rw [q]; exact List.mem_cons_self ..)
      have a2 := z.2 c (by rw [q]; exact List.mem_cons_self ..)
      unfold isL at a1; unfold isD at a2
      rw [Bool.and_eq_true, decide_eq_true_eq, decide_eq_true_eq] at a1 a2
      omega
  · exact ⟨fun _ => ⟨fun z => k2 (List.map_eq_nil_iff.mp (k1.symm.trans z)), k3⟩, fun _ => k⟩
  · refine ⟨fun z => by omega, fun z => ?_⟩
    have := z.2 44 (by rw [k1]; exact List.mem_cons_self ..)
    cases this
  · exact ⟨fun z => by omega, fun z => absurd k1 z.1⟩
theorem bq_step {b : Bytes} {e : Nat} {x : UInt8} (h : b[e]? = some x) : bq b e = if ShBlazon.isBlank x = true then bq b (e + 1) else e := by
  obtain ⟨hl, hx⟩ := List.getElem?_eq_some_iff.mp h
  unfold bq
  rw [List.drop_eq_getElem_cons hl, List.takeWhile_cons, hx]
  by_cases hb : ShBlazon.isBlank x = true
  · rw [if_pos hb, if_pos hb, List.length_cons]; omega
  · rw [if_neg hb, if_neg hb]; rfl
theorem bq_end {b : Bytes} {e : Nat} (h : b.length ≤ e) : bq b e = e := by
  unfold bq; rw [List.drop_of_length_le h]; rfl
theorem bq_le {b : Bytes} {e : Nat} (h : e ≤ b.length) : bq b e ≤ b.length := by
  have := tw_len ShBlazon.isBlank (b.drop e)
  rw [List.length_drop] at this
  unfold bq; omega
theorem bn_le {b : Bytes} {e : Nat} (g : Good b e) (h : e ≤ b.length) : bn b e ≤ b.length := by
  have h1 := bq_le h
  by_cases hk : (bt b e).kind < 3
  · obtain ⟨_, a⟩ := one_pos hk
    rw [List.length_drop] at a
    unfold bn; omega
  · rcases txt_kind g with ⟨k, _⟩ | ⟨k, _⟩ | ⟨k, _⟩ | ⟨k, _, k2⟩
    · omega
    · omega
    · omega
    · rw [k2]; exact h1
theorem tw_step {b : Bytes} {e : Nat} {x : UInt8} (f : UInt8 → Bool) (h : b[e]? = some x) : (b.drop e).takeWhile f = if f x = true then x :: (b.drop (e + 1)).takeWhile f else [] := by
  obtain ⟨hl, hx⟩ := List.getElem?_eq_some_iff.mp h
  rw [List.drop_eq_getElem_cons hl, List.takeWhile_cons, hx]
theorem tw_end {b : Bytes} {e : Nat} (f : UInt8 → Bool) (h : b.length ≤ e) : (b.drop e).takeWhile f = [] := by
  rw [List.drop_of_length_le h]; rfl
theorem fold_bd : ∀ (D : Bytes) (n : Nat), (∀ c ∈ D, ShBlazon.isDigit c = true) → n * 10 ^ D.length ≤ D.foldl (fun (n : Nat) (c : UInt8) => 10 * n + (c.toNat - 48)) n ∧ D.foldl (fun (n : Nat) (c : UInt8) => 10 * n + (c.toNat - 48)) n < (n + 1) * 10 ^ D.length
  | [], n, _ => by simp
  | c :: D, n, h => by
    have hc := h c (List.mem_cons_self ..)
    rw [← isD_of] at hc
    unfold isD at hc
    rw [Bool.and_eq_true, decide_eq_true_eq, decide_eq_true_eq] at hc
    obtain ⟨i1, i2⟩ := fold_bd D (10 * n + (c.toNat - 48)) fun x hx => h x (List.mem_cons_of_mem _ hx)
    rw [List.foldl_cons, List.length_cons, Nat.pow_succ]
    have a1 : n * (10 ^ D.length * 10) ≤ (10 * n + (c.toNat - 48)) * 10 ^ D.length := by
      rw [show n * (10 ^ D.length * 10) = (10 * n) * 10 ^ D.length by rw [Nat.mul_comm (10 ^ D.length) 10, ← Nat.mul_assoc, Nat.mul_comm n 10]]
      exact Nat.mul_le_mul_right _ (by omega)
    have a2 : (10 * n + (c.toNat - 48) + 1) * 10 ^ D.length ≤ (n + 1) * (10 ^ D.length * 10) := by
      rw [show (n + 1) * (10 ^ D.length * 10) = (10 * (n + 1)) * 10 ^ D.length by rw [Nat.mul_comm (10 ^ D.length) 10, ← Nat.mul_assoc, Nat.mul_comm (n + 1) 10]]
      exact Nat.mul_le_mul_right _ (by omega)
    omega
theorem num_ok3 {x : UInt8} {r : Bytes} (h : ∀ c ∈ x :: r, ShBlazon.isDigit c = true) (hx : x ≠ 48) : ShBlazon.valueOf (x :: r) < 1000 ↔ (x :: r).length ≤ 3 := by
  have hc := h x (List.mem_cons_self ..)
  rw [← isD_of] at hc
  unfold isD at hc
  rw [Bool.and_eq_true, decide_eq_true_eq, decide_eq_true_eq] at hc
  have hx' : x.toNat ≠ 48 := fun z => hx (UInt8.toNat_inj.mp z)
  obtain ⟨i1, i2⟩ := fold_bd r (10 * 0 + (x.toNat - 48)) fun c hc => h c (List.mem_cons_of_mem _ hc)
  unfold ShBlazon.valueOf
  rw [List.foldl_cons, List.length_cons]
  generalize r.foldl (fun (n : Nat) (c : UInt8) => 10 * n + (c.toNat - 48)) (10 * 0 + (x.toNat - 48)) = v at i1 i2
  constructor
  · intro hv
    rcases Nat.lt_or_ge r.length 3 with h3 | h3
    · omega
    · have p3 : (10 : Nat) ^ 3 ≤ 10 ^ r.length := Nat.pow_le_pow_right (by decide) h3
      have : 1 * 10 ^ r.length ≤ (10 * 0 + (x.toNat - 48)) * 10 ^ r.length := Nat.mul_le_mul_right _ (by omega)
      omega
  · intro hl
    have p3 : (10 : Nat) ^ r.length ≤ 10 ^ 2 := Nat.pow_le_pow_right (by decide) (by omega)
    have : (10 * 0 + (x.toNat - 48) + 1) * 10 ^ r.length ≤ 10 * 10 ^ 2 := Nat.mul_le_mul (by omega) p3
    omega
end Ma

end
section
set_option Elab.async false
set_option linter.all false
set_option maxRecDepth 100000
namespace Ma
open Sh
theorem look_lt' {l : List Bytes} {s : BSt} {k : Nat} (h : ShBlazon.look l s = some k) : k < l.length := by
  unfold ShBlazon.look at h
  split at h
  · rw [List.findIdx?_eq_some_iff_getElem] at h
    exact h.1
  · cases h
theorem eat_lt {l : List Bytes} {s : BSt} {x : Nat × BSt} (h : ShBlazon.eat l s = .ok x) : x.1 < l.length := by
  unfold ShBlazon.eat at h
  cases q : ShBlazon.look l s with
  | none => rw [q] at h; cases h
  | some k => rw [q] at h; cases h; exact look_lt' q
theorem line_le (s : BSt) : (ShBlazon.lineAt s).1 ≤ 5 := by
  unfold ShBlazon.lineAt
  cases q : ShBlazon.look ShBlazon.LINEWORDS s with
  | none => exact Nat.zero_le _
  | some k => have : k < 6 := look_lt' q; show k ≤ 5; omega
theorem size_le (s : BSt) : (ShBlazon.sizeAt s).1 ≤ 4 := by
  unfold ShBlazon.sizeAt
  cases q : ShBlazon.look ShBlazon.SIZES s with
  | none => show 3 ≤ 4; decide
  | some k => have : k < 5 := look_lt' q; show k ≤ 4; omega
theorem sin_le {b k n : Nat} (s : BSt) (h : k < n) (hb : b + 1 < n) : (ShBlazon.sinister b k s).1 < n := by
  unfold ShBlazon.sinister
  split
  · rename_i q; show k + 1 < n; omega
  · exact h
theorem two_ok {s : BSt} {x : (Tinct × Tinct) × BSt} (h : ShBlazon.twoAt s = .ok x) : x.1.1 ≤ 8 ∧ x.1.2 ≤ 8 ∧ x.1.1 ≠ x.1.2 := by
  unfold ShBlazon.twoAt at h
  cases q1 : ShBlazon.eat ShBlazon.TINCTWORDS s with
  | error e => rw [q1] at h; cases h
  | ok a =>
    rw [q1] at h
    dsimp only at h
    cases q2 : ShBlazon.eatWord "and" a.2 with
    | error e => rw [q2] at h; cases h
    | ok t =>
      rw [q2] at h
      dsimp only at h
      cases q3 : ShBlazon.eat ShBlazon.TINCTWORDS t with
      | error e => rw [q3] at h; cases h
      | ok b =>
        rw [q3] at h
        dsimp only at h
        split at h
        · cases h
        · rename_i hne
          cases h
          have h1 : a.1 < 9 := eat_lt q1
          have h3 : b.1 < 9 := eat_lt q3
          exact ⟨Nat.le_of_lt_succ h1, Nat.le_of_lt_succ h3, hne⟩
theorem pieces_ok {s : BSt} {x : Nat × BSt} (h : ShBlazon.piecesAt s = .ok x) : 2 ≤ x.1 ∧ x.1 ≤ 24 := by
  unfold ShBlazon.piecesAt at h
  cases q1 : ShBlazon.eatWord "of" s with
  | error e => rw [q1] at h; cases h
  | ok t =>
    rw [q1] at h
    dsimp only at h
    split at h
    · split at h
      · cases h
      · cases h; dsimp only; omega
    · cases h
theorem parted_okB {d : Nat} {s : BSt} {x : Field × BSt} (hd : d ≤ 7) (h : ShBlazon.partedAt d s = .ok x) : FieldOk x.1 := by
  unfold ShBlazon.partedAt at h
  cases q : ShBlazon.twoAt (ShBlazon.lineAt s).2 with
  | error e => rw [q] at h; cases h
  | ok t =>
    rw [q] at h
    cases h
    obtain ⟨h1, h2, h3⟩ := two_ok q
    exact ⟨hd, line_le s, h1, h2, fun y => h3 y.symm⟩
theorem varied_okB {v : Nat} {s : BSt} {x : Field × BSt} (hv : v ≤ 6) (h : ShBlazon.variedAt v s = .ok x) : FieldOk x.1 := by
  unfold ShBlazon.variedAt at h
  cases q : ShBlazon.piecesAt s with
  | error e => rw [q] at h; cases h
  | ok n =>
    rw [q] at h
    dsimp only at h
    obtain ⟨n1, n2⟩ := pieces_ok q
    cases q2 : ShBlazon.twoAt (if 5 ≤ v then (0, n.2) else ShBlazon.lineAt n.2).2 with
    | error e => rw [q2] at h; cases h
    | ok t =>
      rw [q2] at h
      cases h
      obtain ⟨h1, h2, h3⟩ := two_ok q2
      refine ⟨hv, n1, n2, ?_, ?_, h1, h2, fun y => h3 y.symm⟩
      · split
        · exact Nat.zero_le _
        · exact line_le _
      · intro h5
        rw [if_pos h5]
theorem field_okB {s : BSt} {x : Field × BSt} (h : ShBlazon.fieldAt s = .ok x) : FieldOk x.1 := by
  unfold ShBlazon.fieldAt at h
  cases q1 : ShBlazon.look ShBlazon.TINCTWORDS s with
  | some t =>
    rw [q1] at h
    cases h
    have : t < 9 := look_lt' q1
    exact Nat.le_of_lt_succ this
  | none =>
    rw [q1] at h
    dsimp only at h
    split at h
    · cases q2 : ShBlazon.eat ShBlazon.WAYWORDS (s.drop 1) with
      | error e => rw [q2] at h; cases h
      | ok w =>
        rw [q2] at h
        have h1 : w.1 < 6 := eat_lt q2
        have := sin_le (b := 2) (n := 6) w.2 h1 (by decide)
        exact parted_okB (by omega) h
    · split at h
      · exact parted_okB (by decide) h
      · split at h
        · exact parted_okB (by decide) h
        · cases q2 : ShBlazon.eat ShBlazon.VARYWORDS s with
          | error e => rw [q2] at h; cases h
          | ok w =>
            rw [q2] at h
            have h1 : w.1 < 7 := eat_lt q2
            have := sin_le (b := 2) (n := 7) w.2 h1 (by decide)
            exact varied_okB (by omega) h
theorem fill_okB {below : Field} {s : BSt} {x : Fill × BSt} (h : ShBlazon.fillAt below s = .ok x) : FillOk below x.1 := by
  unfold ShBlazon.fillAt at h
  split at h
  · split at h
    · rename_i q; cases h; exact q
    · cases h
  · cases q : ShBlazon.fieldAt s with
    | error e => rw [q] at h; cases h
    | ok f => rw [q] at h; cases h; exact field_okB (x := f) q
noncomputable def LayerB (below : Field) : Layer → Prop
  | .ord o l f => o ≤ 12 ∧ l ≤ 5 ∧ FillOk below f
  | .group c n m s f => c ≤ 15 ∧ n ≤ 10 ∧ m ≤ 6 ∧ s ≤ 4 ∧ FillOk below f
theorem manner_okB {s : BSt} {x : Nat × BSt} (h : ShBlazon.mannerAt s = .ok x) : x.1 ≤ 6 := by
  unfold ShBlazon.mannerAt at h
  split at h
  · cases q : ShBlazon.eat ShBlazon.MANNERWORDS (s.drop 1) with
    | error e => rw [q] at h; cases h
    | ok m =>
      rw [q] at h
      cases h
      have h1 : m.1 < 7 := eat_lt q
      have := sin_le (b := 3) (n := 7) m.2 h1 (by decide)
      omega
  · cases h; exact Nat.zero_le _
theorem group_okB {below : Field} {n : Nat} {l : List Bytes} {s : BSt} {x : Layer × BSt} (hn : n ≤ 10) (hl : l.length ≤ 16) (h : ShBlazon.groupAt below n l s = .ok x) : LayerB below x.1 := by
  unfold ShBlazon.groupAt at h
  cases q1 : ShBlazon.eat l (ShBlazon.sizeAt s).2 with
  | error e => rw [q1] at h; cases h
  | ok c =>
    rw [q1] at h
    dsimp only at h
    cases q2 : ShBlazon.mannerAt c.2 with
    | error e => rw [q2] at h; cases h
    | ok m =>
      rw [q2] at h
      dsimp only at h
      cases q3 : ShBlazon.fillAt below m.2 with
      | error e => rw [q3] at h; cases h
      | ok f =>
        rw [q3] at h
        cases h
        have h1 := eat_lt q1
        exact ⟨by omega, hn, manner_okB q2, size_le s, fill_okB q3⟩
theorem ord_okB {below : Field} {o : Nat} {s : BSt} {x : Layer × BSt} (ho : o < 13) (h : ShBlazon.ordAt below o s = .ok x) : LayerB below x.1 := by
  unfold ShBlazon.ordAt at h
  dsimp only at h
  cases q : ShBlazon.fillAt below (ShBlazon.lineAt (ShBlazon.sinister 4 o s).2).2 with
  | error e => rw [q] at h; cases h
  | ok f =>
    rw [q] at h
    cases h
    have := sin_le (b := 4) (n := 13) s ho (by decide)
    exact ⟨by omega, line_le _, fill_okB q⟩
theorem layer_okB {below : Field} {s : BSt} {x : Layer × BSt} (h : ShBlazon.layerAt below s = .ok x) : LayerB below x.1 := by
  unfold ShBlazon.layerAt at h
  split at h
  · dsimp only at h
    split at h
    · cases h
    · split at h
      · cases h
      · cases q : ShBlazon.look ShBlazon.ORDWORDS (s.drop 1) with
        | some o => rw [q] at h; exact ord_okB (look_lt' q) h
        | none => rw [q] at h; exact group_okB (by decide) (by decide) h
  · cases q : ShBlazon.eat ShBlazon.COUNTS s with
    | error e => rw [q] at h; cases h
    | ok n =>
      rw [q] at h
      have h1 : n.1 < 9 := eat_lt q
      exact group_okB (by omega) (by decide) h
theorem layers_okB {below : Field} : ∀ {j : Nat} {s : BSt} {ls : List Layer}, ShBlazon.layersAt below j s = .ok ls → ls.length ≤ j ∧ ∀ l ∈ ls, LayerB below l
  | 0, s, ls, h => by
    unfold ShBlazon.layersAt at h
    split at h
    · cases h
    · split at h
      · cases h; exact ⟨Nat.le_refl _, fun l hl => nomatch hl⟩
      · cases h
  | j + 1, s, ls, h => by
    unfold ShBlazon.layersAt at h
    split at h
    · cases q : ShBlazon.layerAt below (s.drop 1) with
      | error e => rw [q] at h; cases h
      | ok x =>
        rw [q] at h
        dsimp only at h
        cases q2 : ShBlazon.layersAt below j x.2 with
        | error e => rw [q2] at h; cases h
        | ok l =>
          rw [q2] at h
          cases h
          obtain ⟨i1, i2⟩ := layers_okB q2
          refine ⟨by rw [List.length_cons]; omega, fun y hy => ?_⟩
          rcases List.mem_cons.mp hy with z | z
          · rw [z]; exact layer_okB q
          · exact i2 y z
    · split at h
      · cases h; exact ⟨Nat.zero_le _, fun l hl => nomatch hl⟩
      · cases h
theorem read_okB {b : Bytes} {x : Arms} (h : ShBlazon.read b = .ok x) : FieldOk x.field ∧ x.layers.length ≤ 8 ∧ ∀ l ∈ x.layers, LayerB x.field l := by
  unfold ShBlazon.read at h
  cases q : ShBlazon.fieldAt (ShBlazon.tokensOf b) with
  | error e => rw [q] at h; cases h
  | ok f =>
    rw [q] at h
    dsimp only at h
    cases q2 : ShBlazon.layersAt f.1 MOST f.2 with
    | error e => rw [q2] at h; cases h
    | ok l =>
      rw [q2] at h
      cases h
      obtain ⟨i1, i2⟩ := layers_okB q2
      exact ⟨field_okB q, i1, i2⟩
theorem tokens_ts (b : Bytes) : ShBlazon.tokensOf b = ts b 0 := rfl
end Ma

end
set_option Elab.async false
set_option linter.all false
set_option maxRecDepth 100000
set_option maxHeartbeats 2000000
set_option genSizeOfSpec false
set_option autoImplicit false

namespace Re7
open PySem PySem.Spec PyProof.Rows L2 Sh Ma TL
open PySem.W (Codec)
noncomputable def top (i : Nat) : Stmt := PySem.Challenge.pw_shieldwords_s07_read.main.body.getD i (.Pass ⟨0, 0, 0, 0⟩)
noncomputable abbrev sFI : Stmt := inClass (top 9) 0
noncomputable abbrev sOI : Stmt := inClass (top 10) 0
noncomputable abbrev sGI : Stmt := inClass (top 11) 0
noncomputable abbrev sAI : Stmt := inClass (top 12) 0
noncomputable abbrev sXI : Stmt := inClass (top 47) 0
noncomputable abbrev sKI : Stmt := inClass (top 48) 0
noncomputable abbrev s_T_init : Stmt := inClass (top 55) 0
noncomputable abbrev s_T_peek : Stmt := inClass (top 55) 1
noncomputable abbrev s_T_sees : Stmt := inClass (top 55) 2
noncomputable abbrev s_T_sees_one_of : Stmt := inClass (top 55) 3
noncomputable abbrev s_T_accept : Stmt := inClass (top 55) 4
noncomputable abbrev s_T_refuse : Stmt := inClass (top 55) 5
noncomputable abbrev s_T_accept_text : Stmt := inClass (top 55) 6
noncomputable abbrev s_T_accept_number : Stmt := inClass (top 55) 7
noncomputable abbrev sAB : Stmt := top 36
noncomputable abbrev sCW : Stmt := top 37
noncomputable abbrev sWL : Stmt := top 80
noncomputable abbrev s_field_bytes : Stmt := top 18
noncomputable abbrev s_fill_bytes : Stmt := top 19
noncomputable abbrev s_layer_bytes : Stmt := top 20
noncomputable abbrev s_arms_bytes : Stmt := top 21
noncomputable abbrev s_sign_among : Stmt := top 49
noncomputable abbrev s_skip_blanks : Stmt := top 50
noncomputable abbrev s_signs_at : Stmt := top 51
noncomputable abbrev s_token_at : Stmt := top 52
noncomputable abbrev s_is_number : Stmt := top 53
noncomputable abbrev s_check_number : Stmt := top 54
noncomputable abbrev s_take_name : Stmt := top 62
noncomputable abbrev s_take_name_if_there : Stmt := top 63
noncomputable abbrev s_take_line : Stmt := top 64
noncomputable abbrev s_take_two_tinctures : Stmt := top 65
noncomputable abbrev s_take_pieces : Stmt := top 66
noncomputable abbrev s_take_plain : Stmt := top 67
noncomputable abbrev s_take_parted_way : Stmt := top 68
noncomputable abbrev s_take_parted : Stmt := top 69
noncomputable abbrev s_take_varied : Stmt := top 70
noncomputable abbrev s_take_field : Stmt := top 71
noncomputable abbrev s_take_fill : Stmt := top 72
noncomputable abbrev s_take_ordinary : Stmt := top 73
noncomputable abbrev s_take_manner : Stmt := top 74
noncomputable abbrev s_take_group : Stmt := top 75
noncomputable abbrev s_take_one : Stmt := top 76
noncomputable abbrev s_take_layer : Stmt := top 77
noncomputable abbrev s_read_blazon : Stmt := top 78
noncomputable abbrev s_read : Stmt := top 81
theorem iteP {c A B : Prop} [Decidable c] (h : c) (a : A) : if c then A else B := by
  rw [if_pos h]
  exact a
theorem iteN {c A B : Prop} [Decidable c] (h : ¬ c) (b : B) : if c then A else B := by
  rw [if_neg h]
  exact b
theorem putF_putF (f : Str) (u v : V) : ∀ fs : List (Str × V), putF f v (putF f u fs) = putF f v fs
  | [] => by
    show (if f = f then [(f, v)] else _) = [(f, v)]
    rw [if_pos rfl]
  | (k, x) :: r => by
    have ih := putF_putF f u v r
    by_cases hk : k = f
    · have e1 : putF f u ((k, x) :: r) = (k, u) :: r := by
        show (if k = f then (k, u) :: r else _) = _
        rw [if_pos hk]
      have e2 : putF f v ((k, u) :: r) = (k, v) :: r := by
        show (if k = f then (k, v) :: r else _) = _
        rw [if_pos hk]
      have e3 : putF f v ((k, x) :: r) = (k, v) :: r := by
        show (if k = f then (k, v) :: r else _) = _
        rw [if_pos hk]
      rw [e1, e2, e3]
    · have e1 : putF f u ((k, x) :: r) = (k, x) :: putF f u r := by
        show (if k = f then _ else (k, x) :: putF f u r) = _
        rw [if_neg hk]
      have e2 : putF f v ((k, x) :: putF f u r) = (k, x) :: putF f v (putF f u r) := by
        show (if k = f then _ else (k, x) :: putF f v (putF f u r)) = _
        rw [if_neg hk]
      have e3 : putF f v ((k, x) :: r) = (k, x) :: putF f v r := by
        show (if k = f then _ else (k, x) :: putF f v r) = _
        rw [if_neg hk]
      rw [e1, e2, e3, ih]
noncomputable def Oth (r : Addr) (H H' : Hp) : Prop := ∀ b o, b ≠ r → H b = some o → H' b = some o
theorem Oth.refl (r : Addr) (H : Hp) : Oth r H H := fun _ _ _ e => e
theorem Oth.trans {r : Addr} {H H1 H2 : Hp} (a : Oth r H H1) (b : Oth r H1 H2) : Oth r H H2 := fun c o n e => b c o n (a c o n e)
theorem Oth.upd (r : Addr) (H : Hp) (o : HO) : Oth r H (upd H r o) := fun b u n e => by rw [upd_ne n]; exact e
noncomputable def SqF (K : PySem.W.Frag) (H : Hp) (a : Addr) (xs : List V) : Prop := (∃ o, H a = some (.frz o (.lst xs))) ∨ SqL K (fun _ => none) a xs
theorem SqF.l {K : PySem.W.Frag} {H : Hp} {a : Addr} {xs : List V} (h : SqF K H a xs) : SqL K H a xs := by
  rcases h with h | (h | ⟨o, h⟩) | h
  · exact .inl (.inr h)
  · cases h
  · cases h
  · exact .inr h
theorem SqF.keep {K : PySem.W.Frag} {H H' : Hp} {a : Addr} {xs : List V} (h : SqF K H a xs) (k : ∀ o u, H a = some (.frz o u) → H' a = some (.frz o u)) : SqF K H' a xs := by
  rcases h with ⟨o, h⟩ | h
  · exact .inl ⟨o, k _ _ h⟩
  · exact .inr h
theorem SqF.of {K : PySem.W.Frag} {H : Hp} {a : Addr} {xs : List V} (h : SqL K H a xs) (n : ∀ ys, ¬ H a = some (.lst ys)) : SqF K H a xs := by
  rcases h with (h | h) | h
  · exact (n _ h).elim
  · exact .inl h
  · exact .inr (.inr h)
theorem free_of {r z : Addr} {H H1 : Hp} {u : HO} (o : Oth r H H1) (hr : H1 r = some u) (nz : H1 z = none) : H z = none := by
  cases q : H z with
  | none => rfl
  | some v =>
    have y := o z v (fun e => by rw [e, hr] at nz; cases nz) q
    rw [nz] at y; cases y
noncomputable abbrev vn (n : Nat) : V := .int (n : Int)
structure RC (K : PySem.W.Frag) (mg : Str → Option Value) (nm : Str) (C f : Addr) (as : List Str) : Prop where
  cl : Cls K C
  at_ : mg nm = some (.ref C)
  mkc : L2.Mk K C f
  no : ∀ a ∈ as, NoAttr K C a
noncomputable def ffv (k w n l a b : V) : List (Str × V) := putF "second" b (putF "first" a (putF "line" l (putF "pieces" n (putF "way" w (putF "kind" k [])))))
noncomputable def ff (k w n l a b : Nat) : List (Str × V) := ffv (vn k) (vn w) (vn n) (vn l) (vn a) (vn b)
noncomputable def fOf : Field → List (Str × V)
  | .plain t => ff 0 0 0 0 t t
  | .parted d l a b => ff 1 d 0 l a b
  | .varied v n l a b => ff 2 v n l a b
noncomputable def ofv (o l f : V) : List (Str × V) := putF "fill" f (putF "line" l (putF "ordinary" o []))
noncomputable def gfv (c n m s f : V) : List (Str × V) := putF "fill" f (putF "size" s (putF "manner" m (putF "how_many" n (putF "charge" c []))))
noncomputable def afv (f l : V) : List (Str × V) := putF "layers" l (putF "field" f [])
noncomputable def FieldAt (CF : Addr) (H : Hp) (z : Addr) (f : Field) : Prop := ∃ dz, H z = some (.ins CF dz (fOf f))
noncomputable def FillAt (CF : Addr) (H : Hp) (v : V) : Fill → Prop
  | .counter => v = .non
  | .solid f => ∃ y, v = .ref y ∧ FieldAt CF H y f
noncomputable def LayerAt (CF CO CG : Addr) (H : Hp) (z : Addr) : Layer → Prop
  | .ord o l f => ∃ dz v, H z = some (.ins CO dz (ofv (vn o) (vn l) v)) ∧ FillAt CF H v f
  | .group c n m s f => ∃ dz v, H z = some (.ins CG dz (gfv (vn c) (vn n) (vn m) (vn s) v)) ∧ FillAt CF H v f
noncomputable def LayersAt (CF CO CG : Addr) (H : Hp) (zs : List Addr) (ls : List Layer) : Prop := Paired (fun z l => LayerAt CF CO CG H z l) zs ls
noncomputable def ArmsAt (CF CO CG CA : Addr) (H : Hp) (z : Addr) (x : Arms) : Prop := ∃ dz zf zl zs, H z = some (.ins CA dz (afv (.ref zf) (.ref zl))) ∧ FieldAt CF H zf x.field ∧ H zl = some (.lst (zs.map V.ref)) ∧ LayersAt CF CO CG H zs x.layers
theorem paired_snoc {α β : Type} {G : α → β → Prop} {a : α} {b : β} (g : G a b) : ∀ {l : List α} {m : List β}, Paired G l m → Paired G (l ++ [a]) (m ++ [b])
  | _, _, .nil => .cons g .nil
  | _, _, .cons r t => .cons r (paired_snoc g t)
theorem paired_len {α β : Type} {G : α → β → Prop} : ∀ {l : List α} {m : List β}, Paired G l m → l.length = m.length
  | _, _, .nil => rfl
  | _, _, .cons _ t => congrArg (· + 1) (paired_len t)
theorem f_kind (f : Field) : (fOf f).lookup ("kind" : Str) = some (.int (match f with | .plain _ => 0 | .parted .. => 1 | .varied .. => 2)) := by
  cases f <;> kernel_rfl
noncomputable def spFI (C : Addr) : Sp := fun vs H Q _ => ∃ (z dz : Addr) (k w n l a b : V), vs = [.ref z, k, w, n, l, a, b] ∧ H z = some (.ins C dz []) ∧ ∀ H', H' z = some (.ins C dz (ffv k w n l a b)) → Oth z H H' → Q .non H'
noncomputable def spOI (C : Addr) : Sp := fun vs H Q _ => ∃ (z dz : Addr) (o l f : V), vs = [.ref z, o, l, f] ∧ H z = some (.ins C dz []) ∧ ∀ H', H' z = some (.ins C dz (ofv o l f)) → Oth z H H' → Q .non H'
noncomputable def spGI (C : Addr) : Sp := fun vs H Q _ => ∃ (z dz : Addr) (c n m s f : V), vs = [.ref z, c, n, m, s, f] ∧ H z = some (.ins C dz []) ∧ ∀ H', H' z = some (.ins C dz (gfv c n m s f)) → Oth z H H' → Q .non H'
noncomputable def spAI (C : Addr) : Sp := fun vs H Q _ => ∃ (z dz : Addr) (f l : V), vs = [.ref z, f, l] ∧ H z = some (.ins C dz []) ∧ ∀ H', H' z = some (.ins C dz (afv f l)) → Oth z H H' → Q .non H'
section
variable {P : Program} {w : World} {K : PySem.W.Frag} {mg : Str → Option Value} {base : Heap} {CF CO CG CA fF fO fG fA : Addr}
theorem scFI : FnScope ["self", "kind", "way", "pieces", "line", "first", "second"] ["self", "kind", "way", "pieces", "line", "first", "second"] (defScope sFI) := ⟨rfl, rfl, rfl, by decide +kernel, rfl, by decide +kernel, by decide +kernel⟩
theorem ok_fi {fd : FuncData} (F : Fun K "__init__" "Field.__init__" sFI fF fd) (T : RC K mg "Field" CF fF ["kind", "way", "pieces", "line", "first", "second"]) : FnOk P w K mg base (CXx P w) 1 fF fd ["self", "kind", "way", "pieces", "line", "first", "second"] (spFI CF) := by
  refine F.okX scFI (fun vs H Q E h => ?_) (fun cdv A outer s H vs Q E hr h => ?_)
  · obtain ⟨z, dz, k, w, n, l, a, b, rfl, _⟩ := h
    rfl
  · obtain ⟨z, dz, k, w, n, l, a, b, rfl, hz, q⟩ := h
    refine ⟨_, pss_cons (ps_fld (pv 0) (pv 1) rfl) (pss_cons (ps_fld (pv 0) (pv 2) rfl) (pss_cons (ps_fld (pv 0) (pv 3) rfl) (pss_cons (ps_fld (pv 0) (pv 4) rfl) (pss_cons (ps_fld (pv 0) (pv 5) rfl) (pss_one (ps_fld (pv 0) (pv 6) rfl)))))), ?_⟩
    refine ⟨_, rfl, _, rfl, z, CF, dz, [], rfl, hz, T.cl, T.no _ (by decide +kernel), (by show 0 < 1000; decide), ?_⟩
    refine ⟨_, rfl, _, rfl, z, CF, dz, _, rfl, upd_same, T.cl, T.no _ (by decide +kernel), (by show 1 < 1000; decide), ?_⟩
    refine ⟨_, rfl, _, rfl, z, CF, dz, _, rfl, upd_same, T.cl, T.no _ (by decide +kernel), (by show 2 < 1000; decide), ?_⟩
    refine ⟨_, rfl, _, rfl, z, CF, dz, _, rfl, upd_same, T.cl, T.no _ (by decide +kernel), (by show 3 < 1000; decide), ?_⟩
    refine ⟨_, rfl, _, rfl, z, CF, dz, _, rfl, upd_same, T.cl, T.no _ (by decide +kernel), (by show 4 < 1000; decide), ?_⟩
    refine ⟨_, rfl, _, rfl, z, CF, dz, _, rfl, upd_same, T.cl, T.no _ (by decide +kernel), (by show 5 < 1000; decide), ?_⟩
    exact q _ upd_same fun b o n e => by simp only [upd_ne n]; exact e
theorem scOI : FnScope ["self", "ordinary", "line", "fill"] ["self", "ordinary", "line", "fill"] (defScope sOI) := ⟨rfl, rfl, rfl, by decide +kernel, rfl, by decide +kernel, by decide +kernel⟩
theorem ok_oi {fd : FuncData} (F : Fun K "__init__" "OrdinaryLayer.__init__" sOI fO fd) (T : RC K mg "OrdinaryLayer" CO fO ["ordinary", "line", "fill"]) : FnOk P w K mg base (CXx P w) 1 fO fd ["self", "ordinary", "line", "fill"] (spOI CO) := by
  refine F.okX scOI (fun vs H Q E h => ?_) (fun cdv A outer s H vs Q E hr h => ?_)
  · obtain ⟨z, dz, o, l, f, rfl, _⟩ := h
    rfl
  · obtain ⟨z, dz, o, l, f, rfl, hz, q⟩ := h
    refine ⟨_, pss_cons (ps_fld (pv 0) (pv 1) rfl) (pss_cons (ps_fld (pv 0) (pv 2) rfl) (pss_one (ps_fld (pv 0) (pv 3) rfl))), ?_⟩
    refine ⟨_, rfl, _, rfl, z, CO, dz, [], rfl, hz, T.cl, T.no _ (by decide +kernel), (by show 0 < 1000; decide), ?_⟩
    refine ⟨_, rfl, _, rfl, z, CO, dz, _, rfl, upd_same, T.cl, T.no _ (by decide +kernel), (by show 1 < 1000; decide), ?_⟩
    refine ⟨_, rfl, _, rfl, z, CO, dz, _, rfl, upd_same, T.cl, T.no _ (by decide +kernel), (by show 2 < 1000; decide), ?_⟩
    exact q _ upd_same fun b o n e => by simp only [upd_ne n]; exact e
theorem scGI : FnScope ["self", "charge", "how_many", "manner", "size", "fill"] ["self", "charge", "how_many", "manner", "size", "fill"] (defScope sGI) := ⟨rfl, rfl, rfl, by decide +kernel, rfl, by decide +kernel, by decide +kernel⟩
theorem ok_gi {fd : FuncData} (F : Fun K "__init__" "GroupLayer.__init__" sGI fG fd) (T : RC K mg "GroupLayer" CG fG ["charge", "how_many", "manner", "size", "fill"]) : FnOk P w K mg base (CXx P w) 1 fG fd ["self", "charge", "how_many", "manner", "size", "fill"] (spGI CG) := by
  refine F.okX scGI (fun vs H Q E h => ?_) (fun cdv A outer s H vs Q E hr h => ?_)
  · obtain ⟨z, dz, c, n, m, s, f, rfl, _⟩ := h
    rfl
  · obtain ⟨z, dz, c, n, m, s', f, rfl, hz, q⟩ := h
    refine ⟨_, pss_cons (ps_fld (pv 0) (pv 1) rfl) (pss_cons (ps_fld (pv 0) (pv 2) rfl) (pss_cons (ps_fld (pv 0) (pv 3) rfl) (pss_cons (ps_fld (pv 0) (pv 4) rfl) (pss_one (ps_fld (pv 0) (pv 5) rfl))))), ?_⟩
    refine ⟨_, rfl, _, rfl, z, CG, dz, [], rfl, hz, T.cl, T.no _ (by decide +kernel), (by show 0 < 1000; decide), ?_⟩
    refine ⟨_, rfl, _, rfl, z, CG, dz, _, rfl, upd_same, T.cl, T.no _ (by decide +kernel), (by show 1 < 1000; decide), ?_⟩
    refine ⟨_, rfl, _, rfl, z, CG, dz, _, rfl, upd_same, T.cl, T.no _ (by decide +kernel), (by show 2 < 1000; decide), ?_⟩
    refine ⟨_, rfl, _, rfl, z, CG, dz, _, rfl, upd_same, T.cl, T.no _ (by decide +kernel), (by show 3 < 1000; decide), ?_⟩
    refine ⟨_, rfl, _, rfl, z, CG, dz, _, rfl, upd_same, T.cl, T.no _ (by decide +kernel), (by show 4 < 1000; decide), ?_⟩
    exact q _ upd_same fun b o n e => by simp only [upd_ne n]; exact e
theorem scAI : FnScope ["self", "field", "layers"] ["self", "field", "layers"] (defScope sAI) := ⟨rfl, rfl, rfl, by decide +kernel, rfl, by decide +kernel, by decide +kernel⟩
theorem ok_ai {fd : FuncData} (F : Fun K "__init__" "Arms.__init__" sAI fA fd) (T : RC K mg "Arms" CA fA ["field", "layers"]) : FnOk P w K mg base (CXx P w) 1 fA fd ["self", "field", "layers"] (spAI CA) := by
  refine F.okX scAI (fun vs H Q E h => ?_) (fun cdv A outer s H vs Q E hr h => ?_)
  · obtain ⟨z, dz, f, l, rfl, _⟩ := h
    rfl
  · obtain ⟨z, dz, f, l, rfl, hz, q⟩ := h
    refine ⟨_, pss_cons (ps_fld (pv 0) (pv 1) rfl) (pss_one (ps_fld (pv 0) (pv 2) rfl)), ?_⟩
    refine ⟨_, rfl, _, rfl, z, CA, dz, [], rfl, hz, T.cl, T.no _ (by decide +kernel), (by show 0 < 1000; decide), ?_⟩
    refine ⟨_, rfl, _, rfl, z, CA, dz, _, rfl, upd_same, T.cl, T.no _ (by decide +kernel), (by show 1 < 1000; decide), ?_⟩
    exact q _ upd_same fun b o n e => by simp only [upd_ne n]; exact e
end
noncomputable def Fl (C : Addr) (E : XK) (f : Nat × Nat) : Prop := ∀ d H', H' d = some (.xd [("place", vn f.2), ("kind", vn f.1)]) → E (.ref C) (some d) H'
noncomputable def spXI (C : Addr) : Sp := fun vs H Q _ => ∃ (x : Addr) (k n : Nat), vs = [.ref x, vn k, vn n] ∧ H x = some (xn x C none) ∧ ∀ d H', H' x = some (xn x C (some d)) → H' d = some (.xd [("place", vn n), ("kind", vn k)]) → Q .non H'
noncomputable def kf (s p e : V) : List (Str × V) := putF "end" e (putF "place" p (putF "text" s []))
noncomputable def spKI (C : Addr) : Sp := fun vs H Q _ => ∃ (z dz : Addr) (s p e : V), vs = [.ref z, s, p, e] ∧ H z = some (.ins C dz []) ∧ ∀ H', H' z = some (.ins C dz (kf s p e)) → Oth z H H' → Q .non H'
noncomputable def one (n : Nat) : Str := ⟨#[n]⟩
theorem kf_text (s p e : V) : (kf s p e).lookup ("text" : Str) = some s := by
  unfold kf
  rw [lookup_putF, if_neg (by decide +kernel), lookup_putF, if_neg (by decide +kernel), lookup_putF, if_pos rfl]
theorem kf_place (s p e : V) : (kf s p e).lookup ("place" : Str) = some p := by
  unfold kf
  rw [lookup_putF, if_neg (by decide +kernel), lookup_putF, if_pos rfl]
theorem kf_end (s p e : V) : (kf s p e).lookup ("end" : Str) = some e := by
  unfold kf
  rw [lookup_putF, if_pos rfl]
structure TX (K : PySem.W.Frag) (mg : Str → Option Value) (CE NE fE CK fK : Addr) : Prop where
  xc : XCls K CE NE fE
  nx : PySem.W.nsIn K NE "place" = some none
  nz : PySem.W.nsIn K NE "kind" = some none
  mgE : mg "BlazonFault" = some (.ref CE)
  ve : mg "ValueError" = none
  len : mg "len" = none
  ord : mg "ord" = none
  int : mg "int" = none
  K : RC K mg "Token" CK fK ["text", "place", "end"]
section
variable {P : Program} {w : World} {K : PySem.W.Frag} {mg : Str → Option Value} {base : Heap} {CE NE fE CK fK : Addr}
theorem ty_place : typeLookup (.type "ValueError") "place" = pure none := by rw [typeLookup_type, builtinLookup_eq_fast]; first | rfl | kernel_rfl
theorem ty_kind : typeLookup (.type "ValueError") "kind" = pure none := by rw [typeLookup_type, builtinLookup_eq_fast]; first | rfl | kernel_rfl
theorem scXI : FnScope ["self", "kind", "place"] ["self", "kind", "place"] (defScope sXI) := ⟨rfl, rfl, rfl, by decide +kernel, rfl, by decide +kernel, by decide +kernel⟩
theorem ok_xi {fd : FuncData} (F : Fun K "__init__" "BlazonFault.__init__" sXI fE fd) (T : TX K mg CE NE fE CK fK) : FnOk P w K mg base (CXx P w) 1 fE fd ["self", "kind", "place"] (spXI CE) := by
  refine F.okX scXI (fun vs H Q E h => ?_) (fun cdv A outer s H vs Q E hr h => ?_)
  · obtain ⟨x, k, n, rfl, _⟩ := h
    rfl
  · obtain ⟨x, z, n, rfl, hx, k⟩ := h
    refine ⟨_, pss_cons (ps_expr (pe_xinit rfl T.ve (pa_cons (pv 0) (pa_cons (pv 1) (pa_cons (pv 2) pa_nil))))) (pss_cons (ps_xfld (pv 0) (pv 1) ty_kind rfl) (pss_one (ps_xfld2 (f1 := "kind") (pv 0) (pv 2) ty_place (by decide +kernel) rfl))), ?_⟩
    refine ⟨_, rfl, _, rfl, _, rfl, x, CE, NE, fE, none, _, rfl, (by show 2 ≤ 1000; decide), hx, T.xc, _, rfl, _, rfl, x, CE, NE, fE, rfl, hx, T.xc, T.nz, fun d hd => ?_⟩
    have nxd : x ≠ d := ne_of_none hx hd
    refine ⟨_, rfl, _, rfl, x, CE, NE, fE, d, _, rfl, by rw [upd_ne nxd, upd_same], upd_same, T.xc, T.nx, ?_⟩
    exact k d _ (by rw [upd_ne nxd, upd_ne nxd, upd_same]) upd_same
theorem raise_fl {E : XK} {k n : Nat} (h : Fl CE E (k, n)) (H1 : Hp) : ∀ x, H1 x = none → spXI CE [.ref x, vn k, vn n] (upd H1 x (xn x CE none)) (fun v H2 => v = .non ∧ ∃ d, H2 x = some (xn x CE (some d)) ∧ E (.ref CE) (some d) (upd H2 x (xo x CE d true))) E0 :=
  fun x _ => ⟨x, k, n, rfl, upd_same, fun d H' h1 h2 => ⟨rfl, d, h1, h d _ (by rw [upd_ne (ne_of h2 h1 (by intro z; cases z))]; exact h2)⟩⟩
theorem scKI : FnScope ["self", "text", "place", "end"] ["self", "text", "place", "end"] (defScope sKI) := ⟨rfl, rfl, rfl, by decide +kernel, rfl, by decide +kernel, by decide +kernel⟩
theorem ok_ki {fd : FuncData} (F : Fun K "__init__" "Token.__init__" sKI fK fd) (T : RC K mg "Token" CK fK ["text", "place", "end"]) : FnOk P w K mg base (CXx P w) 1 fK fd ["self", "text", "place", "end"] (spKI CK) := by
  refine F.okX scKI (fun vs H Q E h => ?_) (fun cdv A outer s H vs Q E hr h => ?_)
  · obtain ⟨z, dz, o, l, f, rfl, _⟩ := h
    rfl
  · obtain ⟨z, dz, o, l, f, rfl, hz, q⟩ := h
    refine ⟨_, pss_cons (ps_fld (pv 0) (pv 1) rfl) (pss_cons (ps_fld (pv 0) (pv 2) rfl) (pss_one (ps_fld (pv 0) (pv 3) rfl))), ?_⟩
    refine ⟨_, rfl, _, rfl, z, CK, dz, [], rfl, hz, T.cl, T.no _ (by decide +kernel), (by show 0 < 1000; decide), ?_⟩
    refine ⟨_, rfl, _, rfl, z, CK, dz, _, rfl, upd_same, T.cl, T.no _ (by decide +kernel), (by show 1 < 1000; decide), ?_⟩
    refine ⟨_, rfl, _, rfl, z, CK, dz, _, rfl, upd_same, T.cl, T.no _ (by decide +kernel), (by show 2 < 1000; decide), ?_⟩
    exact q _ upd_same fun b o n e => by simp only [upd_ne n]; exact e
noncomputable def Sg (s : Str) (lo cnt : Nat) : Prop := tl s = List.range' lo cnt ∧ 0 < cnt ∧ cnt ≤ 100
noncomputable def sgn (lo cnt n : Nat) : Str := if lo ≤ n ∧ n < lo + cnt then one n else ""
theorem sgn_ne (lo cnt n : Nat) : decide (V.str (sgn lo cnt n) = V.str "") = decide (¬ (lo ≤ n ∧ n < lo + cnt)) := by
  unfold sgn
  by_cases h : lo ≤ n ∧ n < lo + cnt
  · rw [if_pos h, decide_eq_false, decide_eq_false (by exact fun z => z h)]
    intro z
    injection z with z
    have : ([n] : List Nat).length = ([] : List Nat).length := congrArg (fun s : Str => (tl s).length) z
    exact absurd this (by show ¬ 1 = 0; decide)
  · rw [if_neg h, decide_eq_true rfl, decide_eq_true h]
noncomputable def spSA : Sp := fun vs H Q _ => ∃ (n lo cnt : Nat) (s : Str), vs = [vn n, .str s] ∧ Sg s lo cnt ∧ Q (.str (sgn lo cnt n)) H
theorem sg_at {s : Str} {lo cnt i : Nat} (h : Sg s lo cnt) (hi : i < cnt) : atI s.cps.toList (i : Int) = some (lo + i) := by
  have e : s.cps.toList = List.range' lo cnt := h.1
  rw [e]
  refine atI_nat ?_
  rw [List.getElem?_range' hi]; simp
theorem sc_sign_among : FnScope ["byte", "signs", "number"] ["byte", "signs"] (defScope s_sign_among) := ⟨rfl, rfl, rfl, by decide +kernel, rfl, by decide +kernel, by decide +kernel⟩
theorem ok_sign_among {f : Addr} {fd : FuncData} (F : Fun K "sign_among" "sign_among" s_sign_among f fd) (T : TX K mg CE NE fE CK fK) : FnOk P w K mg base (CXx P w) 1 f fd ["byte", "signs"] spSA := by
  refine F.okX sc_sign_among (fun vs H Q E h => ?_) (fun cdv A outer s H vs Q E hr h => ?_)
  · obtain ⟨n, lo, cnt, s, rfl, _⟩ := h
    rfl
  · obtain ⟨n, lo, cnt, g, rfl, hg, k⟩ := h
    have hl : g.length = cnt := by rw [len_tl, hg.1, List.length_range']
    have hz : g.length ≤ sizeLine := by rw [hl, sizeLine_eq]; have := hg.2.2; omega
    refine ⟨_, pss_cons (ps_set (i := 2) sc_sign_among.nd rfl (Or.inl rfl) (pe_op op_sub (pv 0) (pe_callB call_ord rfl T.ord (by decide +kernel) (pa_cons (pe_ix ix_str (pv 1) pe_int (fun _ _ => rfl)) pa_nil))))
      (pss_cons (ps_if (pt_chain op_le op_lt pe_int (pv 2) (pe_callB call_len_str (by rfl) T.len PySem.boot_len (pa_cons (pv 1) pa_nil))) (pss_one (ps_ret (pe_ix ix_str (pv 1) (pv 2) (fun _ _ => rfl)))) pss_nil)
      (pss_one (ps_ret pe_str))), ?_⟩
    refine ⟨_, rfl, _, rfl, g, _, lo, rfl, rfl, hz, sg_at (i := 0) hg hg.2.1, _, rfl, rfl, _, _, rfl, rfl, _, rfl, _, _, rfl, rfl, _, rfl, ?_⟩
    show if decide ((0 : Int) ≤ (n : Int) - (lo : Int)) = true then _ else _
    by_cases h1 : lo ≤ n
    · refine iteP (decide_eq_true (by omega)) ?_
      refine ⟨_, rfl, g, rfl, hz, _, _, rfl, rfl, _, rfl, ?_⟩
      by_cases h2 : n < lo + cnt
      · refine iteP (by show decide ((n : Int) - (lo : Int) < (g.length : Int)) = true; rw [hl]; exact decide_eq_true (by omega)) ?_
        refine ⟨_, rfl, _, rfl, g, ((n - lo : Nat) : Int), n, rfl, ?_, hz, ?_, ?_⟩
        · show V.int ((n : Int) - (lo : Int)) = _
          rw [show (n : Int) - (lo : Int) = ((n - lo : Nat) : Int) by omega]
        · rw [sg_at hg (by omega)]; congr 1; omega
        · unfold sgn at k; rw [if_pos ⟨h1, h2⟩] at k; exact k
      · refine iteN (by show ¬ decide ((n : Int) - (lo : Int) < (g.length : Int)) = true; rw [hl, decide_eq_false (by omega)]; exact Bool.false_ne_true) ?_
        unfold sgn at k; rw [if_neg (fun z => h2 z.2)] at k; exact k
    · refine iteN (by rw [decide_eq_false (by omega)]; exact Bool.false_ne_true) ?_
      refine ⟨_, rfl, iteN Bool.false_ne_true ?_⟩
      unfold sgn at k; rw [if_neg (fun z => h1 z.1)] at k; exact k
noncomputable def spSB (K : PySem.W.Frag) : Sp := fun vs H Q _ => ∃ (a : Addr) (ns : List Int) (e : Nat), vs = [.ref a, vn e] ∧ Byts ns ∧ SqF K H a (ns.map V.int) ∧ e ≤ ns.length ∧ Q (vn (bq (byt ns) e)) H
theorem byt_at {ns : List Int} {p : Nat} {z : Int} (h : ns[p]? = some z) : (byt ns)[p]? = some (UInt8.ofNat z.toNat) := by
  unfold byt; rw [List.getElem?_map, h]; rfl
theorem u8 {z : Int} (h : 0 ≤ z ∧ z ≤ 255) : (UInt8.ofNat z.toNat).toNat = z.toNat := by
  rw [UInt8.toNat_ofNat']; exact Nat.mod_eq_of_lt (by omega)
theorem blank_z {z : Int} (h : 0 ≤ z ∧ z ≤ 255) : ShBlazon.isBlank (UInt8.ofNat z.toNat) = (inV (V.int z) [V.int 32, V.int 10]) := by
  have e : ∀ c : UInt8, ShBlazon.isBlank c = (decide (c.toNat = 10) || decide (c.toNat = 32)) := by
    intro c
    unfold ShBlazon.isBlank
    have q : ∀ d : UInt8, (c == d) = decide (c.toNat = d.toNat) := by
      intro d
      by_cases hh : c = d
      · rw [hh]; simp
      · rw [beq_eq_false_iff_ne.mpr hh, decide_eq_false (fun y => hh (UInt8.toNat_inj.mp y))]
    rw [q 10, q 32]; rfl
  rw [e, u8 h]
  show _ = ((decide ((32 : Int) = z)) || ((decide ((10 : Int) = z)) || false))
  rw [Bool.or_false, Bool.or_comm]
  congr 1
  · exact decide_eq_decide.mpr ⟨fun y => by omega, fun y => by omega⟩
  · exact decide_eq_decide.mpr ⟨fun y => by omega, fun y => by omega⟩
theorem sc_skip_blanks : FnScope ["data", "place"] ["data", "place"] (defScope s_skip_blanks) := ⟨rfl, rfl, rfl, by decide +kernel, rfl, by decide +kernel, by decide +kernel⟩
theorem ok_skip_blanks {f aB : Addr} {fd : FuncData} (F : Fun K "skip_blanks" "skip_blanks" s_skip_blanks f fd) (T : TX K mg CE NE fE CK fK) (gB : mg "BLANKS" = some (.ref aB)) (hB : ∀ H, SqT K H aB [V.int 32, V.int 10]) : FnOk P w K mg base (CXx P w) 1 f fd ["data", "place"] (spSB K) := by
  refine F.okX sc_skip_blanks (fun vs H Q E h => ?_) (fun cdv A outer s H vs Q E hr h => ?_)
  · obtain ⟨a, ns, e, rfl, _⟩ := h
    rfl
  · obtain ⟨a, ns, e, rfl, hb, hS, he, k⟩ := h
    refine ⟨_, pss_cons (ps_while PassesOwn.leaving (PW.pt (pw_and (pt_cmpR op_lt (pv 1) (pe_callB call_len_seq (by rfl) T.len PySem.boot_len (pa_cons (pv 0) pa_nil)) (nomark _)) (pw_and1 (pt_cmpR op_in_seq (pe_ix ix_list (pv 0) (pv 1) (fun _ _ => rfl)) (pe_glob (v := .ref aB) rfl gB rfl) (by with_unfolding_all rfl)))))
        (pss_one (ps_set (i := 1) sc_skip_blanks.nd rfl (Or.inl rfl) (pe_op op_add (pv 1) pe_int))))
      (pss_one (ps_ret (pv 1))), ?_⟩
    refine ⟨fun m σ H' => ∃ p : Nat, σ = [some (V.ref a), some (vn p)] ∧ H' = H ∧ p ≤ ns.length ∧ m = ns.length - p ∧ bq (byt ns) p = bq (byt ns) e, ⟨_, e, rfl, rfl, he, rfl, rfl⟩, ?_⟩
    rintro m σ H' ⟨p, rfl, rfl, hp, hm, hq⟩
    refine ⟨_, rfl, _, rfl, a, _, rfl, .inl hS.l, _, _, rfl, rfl, _, rfl, ?_⟩
    dsimp only
    rw [List.length_map]
    have fin : bq (byt ns) p = p → Q (vn p) H' := fun z => by rw [hq] at z; rw [z] at k; exact k
    by_cases hpl : p < ns.length
    · refine iteP (decide_eq_true (by omega)) ?_
      obtain ⟨z, hz⟩ : ∃ z, ns[p]? = some z := ⟨_, List.getElem?_eq_getElem hpl⟩
      have hzb := hb z (List.mem_of_getElem? hz)
      have st := bq_step (byt_at hz)
      rw [blank_z hzb] at st
      refine ⟨_, rfl, _, rfl, a, _, _, _, rfl, rfl, hS.l, atI_nat (v := V.int z) (by rw [List.getElem?_map, hz]; rfl), aB, _, rfl, .inr (hB _), rfl, rfl, _, rfl, ?_⟩
      show if inV (V.int z) [V.int 32, V.int 10] = true then _ else _
      by_cases hin : inV (V.int z) [V.int 32, V.int 10] = true
      · rw [if_pos hin] at st
        refine iteP hin ⟨fun σ H2 => σ = [some (V.ref a), some (vn (p + 1))] ∧ H2 = H', fun σ H2 ⟨e1, e2⟩ => ⟨ns.length - (p + 1), by omega, p + 1, e1, e2, by omega, rfl, by rw [← st]; exact hq⟩, ?_⟩
        exact ⟨_, rfl, _, _, rfl, rfl, rfl, rfl⟩
      · rw [if_neg hin] at st
        exact iteN hin ⟨_, rfl, fin st⟩
    · refine iteN (by rw [decide_eq_false (by omega)]; exact Bool.false_ne_true) ?_
      exact iteN Bool.false_ne_true ⟨_, rfl, fin (bq_end (by rw [byt_len]; omega))⟩
noncomputable def inS (lo cnt : Nat) (c : UInt8) : Bool := decide (lo ≤ c.toNat) && decide (c.toNat < lo + cnt)
theorem letter_s (c : UInt8) : inS 97 26 c = ShBlazon.isLetter c := by
  rw [← isL_of]; unfold inS isL
  congr 1
  exact decide_eq_decide.mpr ⟨fun y => by omega, fun y => by omega⟩
theorem digit_s (c : UInt8) : inS 48 10 c = ShBlazon.isDigit c := by
  rw [← isD_of]; unfold inS isD
  congr 1
  exact decide_eq_decide.mpr ⟨fun y => by omega, fun y => by omega⟩
noncomputable def spSg (K : PySem.W.Frag) : Sp := fun vs H Q _ => ∃ (a : Addr) (ns : List Int) (e lo cnt : Nat) (s : Str), vs = [.ref a, vn e, .str s] ∧ Byts ns ∧ ns.length ≤ 4096 ∧ SqF K H a (ns.map V.int) ∧ e ≤ ns.length ∧ Sg s lo cnt ∧
  ∀ (t : Str) (H' : Hp), tl t = nB (((byt ns).drop e).takeWhile (inS lo cnt)) → Same H H' → Q (.str t) H'
theorem join_ones (l : List Nat) : tl (Txt.join "" (l.map one)) = l := by
  rw [join_eq, tl_join]
  have : ∀ l : List Nat, joinL (tl "") ((l.map one).map tl) = l := by
    intro l
    induction l with
    | nil => rfl
    | cons a l ih =>
      cases l with
      | nil => rfl
      | cons b l => 
        show [a] ++ (tl "" ++ joinL (tl "") (((b :: l).map one).map tl)) = a :: b :: l
        rw [ih]; rfl
  exact this l
theorem same_new {H : Hp} {l : Addr} {o : HO} (h : H l = none) : Same H (upd H l o) := fun b u e => by rw [upd_ne (ne_of_none e h)]; exact e
theorem same_over {H H1 : Hp} {l : Addr} {o : HO} (s : Same H H1) (h : H l = none) : Same H (upd H1 l o) := fun b u e => by rw [upd_ne (ne_of_none e h)]; exact s _ _ e
theorem sc_signs_at : FnScope ["data", "place", "signs", "found"] ["data", "place", "signs"] (defScope s_signs_at) := ⟨rfl, rfl, rfl, by decide +kernel, rfl, by decide +kernel, by decide +kernel⟩
theorem ok_signs_at {f fS : Addr} {fdS fd : FuncData} (F : Fun K "signs_at" "signs_at" s_signs_at f fd) (T : TX K mg CE NE fE CK fK) (GS : FnOk P w K mg base (CXx P w) 1 fS fdS ["byte", "signs"] spSA) (bS : Binds K fdS ["byte", "signs"] []) (kS : PySem.W.keepIn K (.ref fS) = true) (gS : mg "sign_among" = some (.ref fS)) :
    FnOk P w K mg base (CXx P w) 2 f fd ["data", "place", "signs"] (spSg K) := by
  refine F.okX sc_signs_at (fun vs H Q E h => ?_) (fun cdv A outer s H vs Q E hr h => ?_)
  · obtain ⟨a, ns, e, lo, cnt, s, rfl, _⟩ := h
    rfl
  · obtain ⟨a, ns, e, lo, cnt, g, rfl, hb, hn, hS, he, hg, k⟩ := h
    refine ⟨_, pss_cons (ps_set (i := 3) sc_signs_at.nd rfl (Or.inl rfl) (pe_lst pa_nil))
      (pss_cons (ps_while PassesOwn.leaving (PW.pt (pw_and (pt_cmpR op_lt (pv 1) (pe_callB call_len_seq (by rfl) T.len PySem.boot_len (pa_cons (pv 0) pa_nil)) (nomark _)) (pw_and1 (pt_cmpR op_ne (pe_call GS hr rfl gS kS bS .nil passN (pa_cons (pe_ix ix_list (pv 0) (pv 1) (fun _ _ => rfl)) (pa_cons (pv 2) pa_nil))) pe_str (nomark _)))))
        (pss_cons (ps_expr (pe_bm PySem.F.plainAttrs_list PySem.F.slot_list_append PySem.F.type_list_append mt_append (pv 3) (pa_cons (pe_call GS hr rfl gS kS bS .nil passN (pa_cons (pe_ix ix_list (pv 0) (pv 1) (fun _ _ => rfl)) (pa_cons (pv 2) pa_nil))) pa_nil)))
        (pss_one (ps_set (i := 1) sc_signs_at.nd rfl (Or.inl rfl) (pe_op op_add (pv 1) pe_int)))))
      (pss_one (ps_ret (pe_join pe_str (pv 3))))), ?_⟩
    refine ⟨Nat.zero_le _, fun l hl => ?_⟩
    refine ⟨fun m σ H' => ∃ (p : Nat) (fs : List Nat), σ = [some (V.ref a), some (vn p), some (V.str g), some (V.ref l)] ∧ Same H H' ∧ H' l = some (.lst ((fs.map one).map V.str)) ∧ p ≤ ns.length ∧ m = ns.length - p ∧ fs.length ≤ p ∧ fs ++ nB (((byt ns).drop p).takeWhile (inS lo cnt)) = nB (((byt ns).drop e).takeWhile (inS lo cnt)),
      ⟨_, e, [], rfl, same_new hl, upd_same, he, rfl, Nat.zero_le _, rfl⟩, ?_⟩
    rintro m σ H' ⟨p, fs, rfl, sm, hl', hp, hm, hf, hq⟩
    have hS' : SqF K H' a (ns.map V.int) := hS.keep fun o u e => sm _ _ e
    refine ⟨_, rfl, _, rfl, a, _, rfl, .inl hS'.l, _, _, rfl, rfl, _, rfl, ?_⟩
    dsimp only
    rw [List.length_map]
    have fin : ((byt ns).drop p).takeWhile (inS lo cnt) = [] → tRet (tM1 (fun x xs H Q => ∃ a p, ∃ ys : List Str, x = .str a ∧ xs = [.ref p] ∧ (SqL K H p (ys.map V.str) ∨ SqT K H p (ys.map V.str)) ∧
      (ys.map (·.length)).sum + ys.length * a.length ≤ 16777216 ∧ Q (.str (Txt.join a ys)) H) (tC (.str "")) (tVar 3)) { nx := fun x H' => Q V.non H', rt := Q } [some (V.ref a), some (vn p), some (V.str g), some (V.ref l)] H' := fun z => by
      rw [z] at hq
      have hq : fs = nB (((byt ns).drop e).takeWhile (inS lo cnt)) := by rw [← hq]; exact (List.append_nil _).symm
      refine ⟨⟨_, rfl⟩, _, rfl, _, l, fs.map one, rfl, rfl, .inl (SqL.of hl'), ?_, ?_⟩
      · have e1 : ((fs.map one).map (fun s : Str => s.length)).sum = fs.length := by
          clear hq
          have : ∀ l : List Nat, ((l.map one).map (fun s : Str => s.length)).sum = l.length := fun l => by
            induction l with
            | nil => rfl
            | cons b l ih => rw [List.map_cons, List.map_cons, List.sum_cons, ih, List.length_cons]; show 1 + l.length = _; omega
          exact this fs
        rw [e1, List.length_map]
        show fs.length + fs.length * 0 ≤ 16777216
        omega
      · exact k _ _ (by rw [join_ones]; exact hq) sm
    by_cases hpl : p < ns.length
    · refine iteP (decide_eq_true (by omega)) ?_
      obtain ⟨z, hz⟩ : ∃ z, ns[p]? = some z := ⟨_, List.getElem?_eq_getElem hpl⟩
      have hzb := hb z (List.mem_of_getElem? hz)
      have ez : z = (z.toNat : Int) := (Int.toNat_of_nonneg hzb.1).symm
      have ez2 : (ns.map V.int)[p]? = some (vn z.toNat) := by rw [List.getElem?_map, hz]; show some (V.int z) = some (V.int (z.toNat : Int)); rw [← ez]
      have st := tw_step (inS lo cnt) (byt_at hz)
      have ei : inS lo cnt (UInt8.ofNat z.toNat) = decide (lo ≤ z.toNat ∧ z.toNat < lo + cnt) := by
        unfold inS; rw [u8 hzb, Bool.decide_and]
      refine ⟨_, rfl, _, rfl, a, _, _, _, rfl, rfl, hS'.l, atI_nat ez2, _, rfl, z.toNat, lo, cnt, g, rfl, hg, ?_⟩
      refine ⟨rfl, _, rfl, ?_⟩
      rw [sgn_ne]
      by_cases hin : lo ≤ z.toNat ∧ z.toNat < lo + cnt
      · rw [ei, decide_eq_true hin, if_pos rfl] at st
        refine iteP (by rw [decide_eq_false (fun y => y hin)]; rfl) ?_
        refine ⟨fun σ H2 => σ = [some (V.ref a), some (vn (p + 1)), some (V.str g), some (V.ref l)] ∧ H2 = upd H' l (.lst (((fs ++ [z.toNat]).map one).map V.str)), fun σ H2 ⟨e1, e2⟩ => ⟨ns.length - (p + 1), by omega, p + 1, fs ++ [z.toNat], e1, by rw [e2]; exact same_over sm hl, by rw [e2]; exact upd_same, by omega, rfl, by rw [List.length_append]; show _ + 1 ≤ _; omega, ?_⟩, ?_⟩
        · rw [← hq, st, List.append_assoc]
          show _ = fs ++ ((UInt8.ofNat z.toNat).toNat :: _)
          rw [u8 hzb]; rfl
        · refine ⟨_, rfl, .inl ⟨rfl, _, SqL.of hl'⟩, _, rfl, _, rfl, a, _, _, _, rfl, rfl, hS'.l, atI_nat ez2, _, rfl, z.toNat, lo, cnt, g, rfl, hg, ?_⟩
          refine ⟨l, _, _, rfl, rfl, hl', ?_, _, rfl, _, _, rfl, rfl, rfl, ?_⟩
          · rw [List.length_map, List.length_map, sizeLine_eq]; omega
          · have eg : sgn lo cnt z.toNat = one z.toNat := by unfold sgn; rw [if_pos hin]
            show upd H' l (.lst ((fs.map one).map V.str ++ [V.str (sgn lo cnt z.toNat)])) = _
            rw [eg, List.map_append, List.map_append]; rfl
      · rw [ei, decide_eq_false hin, if_neg Bool.false_ne_true] at st
        exact iteN (by rw [decide_eq_true hin]; exact Bool.false_ne_true) (fin st)
    · refine iteN (by rw [decide_eq_false (by omega)]; exact Bool.false_ne_true) ?_
      exact iteN Bool.false_ne_true (fin (tw_end _ (by rw [byt_len]; omega)))
end
structure TG7 (mg : Str → Option Value) : Prop where
  L : ∃ t s, mg "LETTERS" = some (.str s t) ∧ Sg s 97 26
  D : ∃ t s, mg "DIGITS" = some (.str s t) ∧ Sg s 48 10
  C : ∃ t, mg "COMMA" = some (.str "," t)
  i : ∀ nm z, (nm, z) ∈ ([("MOST_DIGITS", 3), ("BYTE_THAT_CANT_BE", 1), ("NO_NUMBER", 2), ("ELSE_WANTED", 3)] : List (Str × Int)) → ∃ t, mg nm = some (.int z t)
noncomputable def tokOk : Bytes → Bool
  | [] => true
  | x :: _ => ShBlazon.isLetter x || (ShBlazon.isDigit x || x == 44)
noncomputable def TokAt (CK : Addr) (H : Hp) (z : Addr) (l : List Nat) (p e : Nat) : Prop := ∃ dz s, H z = some (.ins CK dz (kf (.str s) (vn p) (vn e))) ∧ tl s = l
noncomputable def spTA (K : PySem.W.Frag) (CE CK : Addr) : Sp := fun vs H Q E => ∃ (a : Addr) (ns : List Int) (p : Nat), vs = [.ref a, vn p] ∧ Byts ns ∧ ns.length ≤ 4096 ∧ SqF K H a (ns.map V.int) ∧ p ≤ ns.length ∧
  (tokOk ((byt ns).drop p) = true → ∀ z H', Same H H' → H z = none → TokAt CK H' z (ptx ((byt ns).drop p)) p (p + (ptx ((byt ns).drop p)).length) → Q (.ref z) H') ∧ (tokOk ((byt ns).drop p) = false → Fl CE E (1, p))
section
variable {P : Program} {w : World} {K : PySem.W.Frag} {mg : Str → Option Value} {base : Heap} {CE NE fE CK fK : Addr}
theorem sc_token_at : FnScope ["data", "place", "signs", "text"] ["data", "place"] (defScope s_token_at) := ⟨rfl, rfl, rfl, by decide +kernel, rfl, by decide +kernel, by decide +kernel⟩
theorem ok_token_at {f fS : Addr} {fdE fdK fdS fd : FuncData} (F : Fun K "token_at" "token_at" s_token_at f fd) (T : TX K mg CE NE fE CK fK) (U : TG7 mg)
    (GE : FnOk P w K mg base (CXx P w) 1 fE fdE ["self", "kind", "place"] (spXI CE)) (bE : Binds K fdE ["self", "kind", "place"] [])
    (GK : FnOk P w K mg base (CXx P w) 1 fK fdK ["self", "text", "place", "end"] (spKI CK)) (bK : Binds K fdK ["self", "text", "place", "end"] [])
    (GS : FnOk P w K mg base (CXx P w) 2 fS fdS ["data", "place", "signs"] (spSg K)) (bS : Binds K fdS ["data", "place", "signs"] []) (kS : PySem.W.keepIn K (.ref fS) = true) (gS : mg "signs_at" = some (.ref fS)) :
    FnOk P w K mg base (CXx P w) 3 f fd ["data", "place"] (spTA K CE CK) := by
  refine F.okX sc_token_at (fun vs H Q E h => ?_) (fun cdv A outer s H vs Q E hr h => ?_)
  · obtain ⟨a, ns, p, rfl, _⟩ := h
    rfl
  · obtain ⟨a, ns, p, rfl, hb, hn, hS, hp, k1, k2⟩ := h
    obtain ⟨tL, sL, hL, gL⟩ := U.L
    obtain ⟨tD, sD, hD, gD⟩ := U.D
    obtain ⟨tC, hC⟩ := U.C
    obtain ⟨t1, h1⟩ := U.i "BYTE_THAT_CANT_BE" 1 (by decide +kernel)
    refine ⟨_, pss_cons (ps_if (pt_cmpR op_eq (pv 1) (pe_callB call_len_seq (by rfl) T.len PySem.boot_len (pa_cons (pv 0) pa_nil)) (nomark _)) (pss_one (ps_ret (pe_make T.K.mkc GK hr rfl T.K.at_ bK .nil passN (pa_cons pe_str (pa_cons (pv 1) (pa_cons (pv 1) pa_nil)))))) pss_nil)
      (pss_cons (ps_for PassesOwn.leaving rfl (pi_tup (pe_tup (pa_cons (pe_glob (v := .str sL) rfl hL ⟨tL, rfl⟩) (pa_cons (pe_glob (v := .str sD) rfl hD ⟨tD, rfl⟩) pa_nil)))) (pg_name (i := 2) sc_token_at.nd rfl (Or.inl rfl))
        (pss_cons (ps_set (i := 3) sc_token_at.nd rfl (Or.inl rfl) (pe_call GS hr rfl gS kS bS .nil passN (pa_cons (pv 0) (pa_cons (pv 1) (pa_cons (pv 2) pa_nil)))))
        (pss_one (ps_if (pt_cmpR op_ne (pv 3) pe_str (nomark _)) (pss_one (ps_ret (pe_make T.K.mkc GK hr rfl T.K.at_ bK .nil passN (pa_cons (pv 3) (pa_cons (pv 1) (pa_cons (pe_op op_add (pv 1) (pe_callB call_len_str (by rfl) T.len PySem.boot_len (pa_cons (pv 3) pa_nil))) pa_nil)))))) pss_nil))))
      (pss_cons (ps_if (pt_cmpR op_eq (pe_ix ix_list (pv 0) (pv 1) (fun _ _ => rfl)) (pe_callB call_ord rfl T.ord (by decide +kernel) (pa_cons (pe_glob (v := .str ",") rfl hC ⟨tC, rfl⟩) pa_nil)) (nomark _)) (pss_one (ps_ret (pe_make T.K.mkc GK hr rfl T.K.at_ bK .nil passN (pa_cons (pe_glob (v := .str ",") rfl hC ⟨tC, rfl⟩) (pa_cons (pv 1) (pa_cons (pe_op op_add (pv 1) pe_int) pa_nil)))))) pss_nil)
      (pss_one (ps_raise T.xc GE hr rfl T.mgE bE rfl rfl flies (pa_cons (pe_glob (v := .int 1) rfl h1 ⟨t1, rfl⟩) (pa_cons (pv 1) pa_nil)))))), ?_⟩
    have mk : ∀ (H1 : Hp) (v1 v2 : V) (st : Str), Same H H1 → tokOk ((byt ns).drop p) = true → tl st = ptx ((byt ns).drop p) → v1 = vn p → v2 = vn (p + (ptx ((byt ns).drop p)).length) → ∀ z dz, H1 z = none → H1 dz = none → dz ≠ z →
        spKI CK ([.ref z, .str st, v1, v2] ++ []) (upd (upd H1 dz (.own z)) z (.ins CK dz [])) (fun v H2 => v = .non ∧ Q (.ref z) H2) E0 := by
      intro H1 v1 v2 st sm ho ht e1 e2 z dz nz nd ne
      subst e1; subst e2
      refine ⟨z, dz, _, _, _, rfl, upd_same, fun H2 hz o2 => ⟨rfl, ?_⟩⟩
      have s2 : Same H1 H2 := Same.made nz nd fun b o e hb => o2 b o hb e
      exact k1 ho z H2 (sm.trans s2) (sm.free nz) ⟨dz, st, hz, ht⟩
    refine ⟨_, rfl, _, rfl, a, _, rfl, .inl hS.l, rfl, _, rfl, ?_⟩
    rw [List.length_map]
    by_cases hpl : p = ns.length
    · refine iteP (decide_eq_true (by rw [hpl])) ?_
      have e0 : (byt ns).drop p = [] := List.drop_of_length_le (by rw [byt_len]; omega)
      refine ⟨_, rfl, _, rfl, ?_⟩
      exact mk H _ _ "" (Same.refl _) (by rw [e0]; rfl) (by rw [e0]; rfl) rfl (by rw [e0]; rfl)
    · refine iteN (by exact fun z => hpl (by have := of_decide_eq_true z; injection this with e; omega)) ?_
      have hlt : p < ns.length := by omega
      obtain ⟨x, hx⟩ : ∃ x, ns[p]? = some x := ⟨_, List.getElem?_eq_getElem hlt⟩
      have hxb := hb x (List.mem_of_getElem? hx)
      have ex2 : (ns.map V.int)[p]? = some (vn x.toNat) := by rw [List.getElem?_map, hx]; show some (V.int x) = some (V.int (x.toNat : Int)); rw [Int.toNat_of_nonneg hxb.1]
      have ed : (byt ns).drop p = UInt8.ofNat x.toNat :: (byt ns).drop (p + 1) := by
        obtain ⟨hl, he⟩ := List.getElem?_eq_some_iff.mp (byt_at hx)
        rw [List.drop_eq_getElem_cons hl, he]
      refine ⟨by show 2 ≤ sizeLine; rw [sizeLine_eq]; omega, fun q hq => ?_⟩
      have hsm := same_new hq (o := .tup [V.str sL, V.str sD])
      refine ⟨q, rfl, ⟨_, SqT.of upd_same⟩, for_tup (K := K) (a := q) (xs := [V.str sL, V.str sD]) (fun i σ H' => ∃ sv tv : Option V, σ = [some (.ref a), some (vn p), sv, tv] ∧ Same (upd H q (.tup [V.str sL, V.str sD])) H' ∧ (1 ≤ i → ShBlazon.isLetter (UInt8.ofNat x.toNat) = false) ∧ (2 ≤ i → ShBlazon.isDigit (UInt8.ofNat x.toNat) = false)) ⟨none, none, rfl, Same.refl _, (fun z => by omega), (fun z => by omega)⟩ (fun i σ H' _ z => ?_) ?_ ?_⟩
      · obtain ⟨_, _, _, e, _⟩ := z
        exact SqT.of (e _ _ upd_same)
      · rintro i X σ H1 hX ⟨sv, tv, rfl, s1, i1, i2⟩
        have sm1 := hsm.trans s1
        have hS1 : SqF K H1 a (ns.map V.int) := hS.keep fun o u e => sm1 _ _ e
        have step : ∃ (lo cnt : Nat) (g : Str), Sg g lo cnt ∧ X = .str g ∧ (inS lo cnt (UInt8.ofNat x.toNat) = true → tokOk ((byt ns).drop p) = true ∧ nB (((byt ns).drop p).takeWhile (inS lo cnt)) = ptx ((byt ns).drop p)) ∧
            (inS lo cnt (UInt8.ofNat x.toNat) = false → (1 ≤ i + 1 → ShBlazon.isLetter (UInt8.ofNat x.toNat) = false) ∧ (2 ≤ i + 1 → ShBlazon.isDigit (UInt8.ofNat x.toNat) = false)) := by
          match i, hX with
          | 0, hX =>
            refine ⟨97, 26, sL, gL, (Option.some.inj hX).symm, fun y => ?_, fun y => ⟨fun _ => by rw [← letter_s]; exact y, fun z => by omega⟩⟩
            rw [letter_s] at y
            rw [show inS 97 26 = ShBlazon.isLetter from funext letter_s, ed]
            unfold tokOk ptx
            dsimp only
            rw [y, if_pos rfl]
            exact ⟨rfl, rfl⟩
          | 1, hX =>
            have hl := i1 (Nat.le_refl _)
            refine ⟨48, 10, sD, gD, (Option.some.inj hX).symm, fun y => ?_, fun y => ⟨fun _ => hl, fun z => by rw [← digit_s]; exact y⟩⟩
            rw [digit_s] at y
            rw [show inS 48 10 = ShBlazon.isDigit from funext digit_s, ed]
            unfold tokOk ptx
            dsimp only
            rw [y, hl, if_neg Bool.false_ne_true, if_pos rfl]
            exact ⟨rfl, rfl⟩
          | n + 2, hX => cases hX
        obtain ⟨lo, cnt, g, hg, eX, y1, y2⟩ := step
        subst eX
        refine ⟨_, rfl, _, rfl, _, rfl, a, ns, p, lo, cnt, g, rfl, hb, hn, hS1, hp, hg, fun t H2 ht s2 => ?_⟩
        have tle : t.length ≤ 4096 := by
          rw [len_tl, ht, List.length_map]
          refine Nat.le_trans (tw_len _ _) ?_
          rw [List.length_drop, byt_len]; omega
        refine ⟨_, rfl, rfl, _, rfl, ?_⟩
        cases q : inS lo cnt (UInt8.ofNat x.toNat) with
        | true =>
          obtain ⟨z1, z2⟩ := y1 q
          have tne : ¬ V.str t = V.str "" := by
            intro z
            injection z with z
            rw [z, ed, List.takeWhile_cons, q] at ht
            cases ht
          refine iteP (by rw [decide_eq_false tne]; rfl) ?_
          refine ⟨_, rfl, _, rfl, _, rfl, _, rfl, t, rfl, by rw [sizeLine_eq]; omega, _, _, rfl, rfl, ?_⟩
          refine mk H2 _ _ t (sm1.trans s2) z1 (ht.trans z2) rfl ?_
          show V.int ((p : Int) + (t.length : Int)) = _
          rw [len_tl, ht, z2]; rfl
        | false =>
          have te : t = "" := by
            rw [ed, List.takeWhile_cons, q] at ht
            cases t with | mk c => 
              have : c.toList = [] := ht
              have : c = #[] := by simpa using this
              rw [this]; rfl
          refine iteN (by rw [te, decide_eq_true rfl]; exact Bool.false_ne_true) ?_
          exact ⟨_, _, rfl, s1.trans s2, y2 q⟩
      · rintro σ H' ⟨sv, tv, rfl, s1, i1, i2⟩
        have sm1 := hsm.trans s1
        have hS1 : SqF K H' a (ns.map V.int) := hS.keep fun o u e => sm1 _ _ e
        have hl := i1 (by show 1 ≤ 2; decide)
        have hd := i2 (by show 2 ≤ 2; decide)
        refine ⟨_, rfl, _, rfl, a, _, _, _, rfl, rfl, hS1.l, atI_nat ex2, _, rfl, rfl, rfl, _, rfl, ?_⟩
        by_cases h44 : x.toNat = 44
        · refine iteP (by rw [h44]; rfl) ?_
          have hu : UInt8.ofNat x.toNat = 44 := by rw [h44]; rfl
          refine ⟨_, rfl, _, rfl, _, _, rfl, rfl, ?_⟩
          refine mk H' _ _ "," sm1 ?_ ?_ rfl ?_
          · rw [ed, hu]; rfl
          · rw [ed, hu]; rfl
          · rw [ed, hu]; rfl
        · refine iteN ?_ ?_
          · intro z
            have z := of_decide_eq_true z
            injection z with z
            exact h44 (by have : ((x.toNat : Nat) : Int) = 44 := z; omega)
          · refine ⟨_, rfl, (by show 2 ≤ 1000; decide), raise_fl (k2 ?_) H'⟩
            rw [ed]
            show (ShBlazon.isLetter (UInt8.ofNat x.toNat) || (ShBlazon.isDigit (UInt8.ofNat x.toNat) || UInt8.ofNat x.toNat == 44)) = false
            rw [hl, hd, Bool.false_or, Bool.false_or, beq_eq_false_iff_ne]
            intro z
            have := congrArg UInt8.toNat z
            rw [u8 hxb] at this
            exact h44 this
end
noncomputable def isNum (l : List Nat) : Bool := decide (0 < l.length) && l.all isD
theorem dig128 : ∀ c, c < 128 → Unicode.isDigit c = isD c := by decide +kernel
theorem isdigit_eq {s : Str} (h : ∀ c ∈ tl s, c < 128) : Txt.isdigit s = isNum (tl s) := by
  have e : s.cps.all Unicode.isDigit = (tl s).all isD := by
    rw [← Array.all_toList]
    have : ∀ l : List Nat, (∀ c ∈ l, c < 128) → l.all Unicode.isDigit = l.all isD := by
      intro l
      induction l with
      | nil => intro _; rfl
      | cons a l ih => intro q; rw [List.all_cons, List.all_cons, dig128 a (q a (List.mem_cons_self ..)), ih fun c hc => q c (List.mem_cons_of_mem _ hc)]
    exact this _ h
  unfold Txt.isdigit isNum
  rw [e, len_tl]
noncomputable def spIN (CK : Addr) : Sp := fun vs H Q _ => ∃ (z : Addr) (l : List Nat) (p e : Nat), vs = [.ref z] ∧ TokAt CK H z l p e ∧ (∀ c ∈ l, c < 128) ∧ Q (.bl (isNum l)) H
noncomputable def spCN (CE CK : Addr) : Sp := fun vs H Q E => ∃ (z : Addr) (c : Nat) (r : List Nat) (p e : Nat), vs = [.ref z] ∧ TokAt CK H z (c :: r) p e ∧ r.length ≤ 4096 ∧ ((c = 48 ∨ 2 < r.length) → Fl CE E (2, p)) ∧ (¬ (c = 48 ∨ 2 < r.length) → Q .non H)
section
variable {P : Program} {w : World} {K : PySem.W.Frag} {mg : Str → Option Value} {base : Heap} {CE NE fE CK fK : Addr}
theorem sc_is_number : FnScope ["token"] ["token"] (defScope s_is_number) := ⟨rfl, rfl, rfl, by decide +kernel, rfl, by decide +kernel, by decide +kernel⟩
theorem ok_is_number {f : Addr} {fd : FuncData} (F : Fun K "is_number" "is_number" s_is_number f fd) (T : TX K mg CE NE fE CK fK) : FnOk P w K mg base (CXx P w) 1 f fd ["token"] (spIN CK) := by
  refine F.okX sc_is_number (fun vs H Q E h => ?_) (fun cdv A outer s H vs Q E hr h => ?_)
  · obtain ⟨z, l, p, e, rfl, _⟩ := h
    rfl
  · obtain ⟨z, l, p, e, rfl, ⟨dz, st, hz, hl⟩, h128, k⟩ := h
    refine ⟨_, pss_one (ps_ret (pe_m0 PySem.F.slot_str_isdigit PySem.F.type_str_isdigit mt_isdigit (pe_fld (pv 0) rfl))), ?_⟩
    refine ⟨_, rfl, z, CK, dz, _, _, rfl, hz, T.K.cl, T.K.no _ (by decide +kernel), kf_text _ _ _, ⟨_, rfl⟩, st, rfl, rfl, trivial, ?_⟩
    rw [isdigit_eq (by rw [hl]; exact h128), hl]
    exact k
theorem sc_check_number : FnScope ["token"] ["token"] (defScope s_check_number) := ⟨rfl, rfl, rfl, by decide +kernel, rfl, by decide +kernel, by decide +kernel⟩
theorem ok_check_number {f : Addr} {fdE fd : FuncData} (F : Fun K "check_number" "check_number" s_check_number f fd) (T : TX K mg CE NE fE CK fK) (U : TG7 mg)
    (GE : FnOk P w K mg base (CXx P w) 1 fE fdE ["self", "kind", "place"] (spXI CE)) (bE : Binds K fdE ["self", "kind", "place"] []) : FnOk P w K mg base (CXx P w) 3 f fd ["token"] (spCN CE CK) := by
  refine F.okX sc_check_number (fun vs H Q E h => ?_) (fun cdv A outer s H vs Q E hr h => ?_)
  · obtain ⟨z, c, r, p, e, rfl, _⟩ := h
    rfl
  · obtain ⟨z, c, r, p, e, rfl, ⟨dz, st, hz, hl⟩, hle, k1, k2⟩ := h
    obtain ⟨t3, h3⟩ := U.i "MOST_DIGITS" 3 (by decide +kernel)
    obtain ⟨t2, h2⟩ := U.i "NO_NUMBER" 2 (by decide +kernel)
    have hsl : st.length = r.length + 1 := by rw [len_tl, hl]; rfl
    have hz' : st.length ≤ sizeLine := by rw [hsl, sizeLine_eq]; omega
    refine ⟨_, pss_one (ps_if (PW.pt (pw_or (pt_cmpR op_eq (pe_ix ix_str (pe_fld (pv 0) rfl) pe_int (fun _ _ => rfl)) pe_str (nomark _)) (pw_or1 (pt_cmpR op_gt (pe_callB call_len_str (by rfl) T.len PySem.boot_len (pa_cons (pe_fld (pv 0) rfl) pa_nil)) (pe_glob (v := .int 3) rfl h3 ⟨t3, rfl⟩) (nomark _)))))
      (pss_one (ps_raise T.xc GE hr rfl T.mgE bE rfl rfl flies (pa_cons (pe_glob (v := .int 2) rfl h2 ⟨t2, rfl⟩) (pa_cons (pe_fld (pv 0) rfl) pa_nil)))) pss_nil), ?_⟩
    have bad : ∀ D σ, (c = 48 ∨ 2 < r.length) → (σ : L2.St)[0]? = some (some (V.ref z)) → tRaise CE (spXI CE) E (tCons (tC (.int 2)) (tCons (tFld K (tVar 0) "place") tNil)) D σ H := fun D σ q h0 =>
      ⟨_, h0, z, CK, dz, _, _, rfl, hz, T.K.cl, T.K.no _ (by decide +kernel), kf_place _ _ _, (by show 2 ≤ 1000; decide), raise_fl (k1 q) H⟩
    refine ⟨_, rfl, z, CK, dz, _, _, rfl, hz, T.K.cl, T.K.no _ (by decide +kernel), kf_text _ _ _, st, _, c, rfl, rfl, hz', ?_, rfl, _, rfl, ?_⟩
    · show atI (tl st) ((0 : Nat) : Int) = some c
      rw [hl]; exact atI_nat rfl
    · by_cases h48 : c = 48
      · refine iteP (by rw [h48]; rfl) (iteP rfl ?_)
        exact bad _ _ (.inl h48) rfl
      · refine iteN (by intro y; have y := of_decide_eq_true y; injection y with y; have : ([c] : List Nat) = [48] := congrArg tl y; injection this with this; exact h48 this) ?_
        refine ⟨_, rfl, z, CK, dz, _, _, rfl, hz, T.K.cl, T.K.no _ (by decide +kernel), kf_text _ _ _, st, rfl, hz', _, _, rfl, rfl, _, rfl, ?_⟩
        by_cases h3 : 2 < r.length
        · refine iteP (decide_eq_true (by rw [hsl]; omega)) ?_
          exact bad _ _ (.inr h3) rfl
        · refine iteN (by rw [decide_eq_false (by rw [hsl]; omega)]; exact Bool.false_ne_true) ?_
          exact k2 (fun y => by rcases y with y | y; exact h48 y; exact h3 y)
end
noncomputable def tf7 (a : Addr) (v : V) (e : Nat) : List (Str × V) := putF "end" (vn e) (putF "ahead" v (putF "data" (.ref a) []))
theorem tf_data (a : Addr) (v : V) (e : Nat) : (tf7 a v e).lookup ("data" : Str) = some (.ref a) := by
  unfold tf7
  rw [lookup_putF, if_neg (by decide +kernel), lookup_putF, if_neg (by decide +kernel), lookup_putF, if_pos rfl]
theorem tf_ahead (a : Addr) (v : V) (e : Nat) : (tf7 a v e).lookup ("ahead" : Str) = some v := by
  unfold tf7
  rw [lookup_putF, if_neg (by decide +kernel), lookup_putF, if_pos rfl]
theorem tf_end (a : Addr) (v : V) (e : Nat) : (tf7 a v e).lookup ("end" : Str) = some (vn e) := by
  unfold tf7
  rw [lookup_putF, if_pos rfl]
theorem tf_no (a : Addr) (v : V) (e : Nat) {m : Str} (h1 : ¬ m = "end") (h2 : ¬ m = "ahead") (h3 : ¬ m = "data") : (tf7 a v e).lookup m = none := by
  unfold tf7
  rw [lookup_putF, if_neg h1, lookup_putF, if_neg h2, lookup_putF, if_neg h3]
  all_goals rfl
theorem tf_put_ahead (a : Addr) (v u : V) (e : Nat) : putF "ahead" u (tf7 a v e) = tf7 a u e := by
  unfold tf7
  kernel_rfl
theorem tf_put_end (a : Addr) (v : V) (e n : Nat) : putF "end" (vn n) (tf7 a v e) = tf7 a v n := by
  unfold tf7
  rw [putF_putF]
theorem tf_len (a : Addr) (v : V) (e : Nat) : (tf7 a v e).length < 1000 := by
  have h1 := length_putF "end" (vn e) (putF "ahead" v (putF "data" (.ref a) []))
  have h2 := length_putF "ahead" v (putF "data" (.ref a) [])
  have h3 := length_putF "data" (.ref a) []
  unfold tf7
  simp only [List.length_nil] at h3
  omega
structure TkAt (K : PySem.W.Frag) (CK CR : Addr) (H : Hp) (r a : Addr) (ns : List Int) (e : Nat) : Prop where
  byts : Byts ns
  sz : ns.length ≤ 4096
  obj : ∃ dr v, H r = some (.ins CR dr (tf7 a v e)) ∧ (v = .non ∨ ∃ z, v = .ref z ∧ TokAt CK H z (txt (byt ns) e) (bq (byt ns) e) (bn (byt ns) e) ∧ Good (byt ns) e)
  seq : SqF K H a (ns.map V.int)
  le : e ≤ ns.length
  ne : CK ≠ CR
inductive PkC (b : Bytes) (e : Nat) : Prop
  | no : tokOk (b.drop (bq b e)) = false → ShBlazon.wanted (ts b e) = (1, bq b e) → Bad (ts b e) → PkC b e
  | noNum (x : Nat) (r : List Nat) : tokOk (b.drop (bq b e)) = true → txt b e = x :: r → isNum (x :: r) = true → (x = 48 ∨ 2 < r.length) → ShBlazon.wanted (ts b e) = (2, bq b e) → Bad (ts b e) → PkC b e
  | num (x : Nat) (r : List Nat) : tokOk (b.drop (bq b e)) = true → txt b e = x :: r → isNum (x :: r) = true → ¬ (x = 48 ∨ 2 < r.length) → Good b e → PkC b e
  | yes : tokOk (b.drop (bq b e)) = true → isNum (txt b e) = false → Good b e → PkC b e
theorem isNum_of {l : List Nat} (h1 : l ≠ []) (h2 : ∀ c ∈ l, isD c = true) : isNum l = true := by
  unfold isNum
  rw [List.all_eq_true.mpr h2, decide_eq_true (List.length_pos_iff.mpr h1)]; rfl
theorem isNum_no {l : List Nat} (h : ∀ c r, l = c :: r → isD c = false) : isNum l = false := by
  unfold isNum
  cases l with
  | nil => rfl
  | cons c r => rw [List.all_cons, h c r rfl]; simp
theorem pkc (b : Bytes) (e : Nat) : PkC b e := by
  have wt : ∀ t n, ShBlazon.oneToken (bq b e) (b.drop (bq b e)) = (t, n) → ShBlazon.kindOf (ts b e) = t.kind ∧ ShBlazon.place (ts b e) = bq b e := fun t n h => by
    rw [kind_ts, place_ts, at_bt]; unfold bt; rw [h]; exact ⟨rfl, rfl⟩
  have gd : ∀ t n, ShBlazon.oneToken (bq b e) (b.drop (bq b e)) = (t, n) → t.kind ≤ 3 → Good b e := fun t n h hk => by
    unfold Ma.Good bt; rw [h]; exact hk
  have k := kd (bq b e) (b.drop (bq b e))
  generalize ht : ShBlazon.oneToken (bq b e) (b.drop (bq b e)) = t at k
  cases k with
  | fin h => exact .yes (by rw [h]; rfl) (by unfold txt; rw [h]; rfl) (gd _ _ ht (by show 3 ≤ 3; decide))
  | word x r h h1 =>
    refine .yes (by rw [h]; show (ShBlazon.isLetter x || (ShBlazon.isDigit x || x == 44)) = true; rw [h1]; rfl) (isNum_no fun c r' z => ?_) (gd _ _ ht (Nat.zero_le _))
    have hc : isL c = true := by
      have g : Good b e := gd _ _ ht (Nat.zero_le _)
      have hk : (bt b e).kind = 0 := by unfold bt; rw [ht]
      rcases txt_kind g with ⟨_, _, _, k3, _⟩ | ⟨k, _⟩ | ⟨k, _⟩ | ⟨k, _⟩
      · exact k3 c (by rw [z]; exact List.mem_cons_self ..)
      · omega
      · omega
      · omega
    unfold isL at hc; unfold isD
    rw [Bool.and_eq_true, decide_eq_true_eq, decide_eq_true_eq] at hc
    rw [decide_eq_false (show ¬ c ≤ 57 by omega), Bool.and_false]
  | num x r h h0 h1 h2 h3 =>
    have et : txt b e = nB ((b.drop (bq b e)).takeWhile ShBlazon.isDigit) := by unfold txt; rw [h]; unfold ptx; dsimp only; rw [if_neg (by rw [h0]; exact Bool.false_ne_true), if_pos h1]
    have et2 : txt b e = x.toNat :: nB (r.takeWhile ShBlazon.isDigit) := by rw [et, h, List.takeWhile_cons, if_pos h1]; rfl
    have hall : ∀ c ∈ x :: r.takeWhile ShBlazon.isDigit, ShBlazon.isDigit c = true := fun c hc => by
      rcases List.mem_cons.mp hc with z | z
      · rw [z]; exact h1
      · exact tw_all _ _ c z
    rw [h, List.takeWhile_cons, if_pos h1, num_ok3 hall h2, List.length_cons] at h3
    refine .num _ _ (by rw [h]; show (ShBlazon.isLetter x || (ShBlazon.isDigit x || x == 44)) = true; rw [h1]; simp) et2 (isNum_of (by simp) fun c hc => ?_) (fun z => ?_) (gd _ _ ht (by show 1 ≤ 3; decide))
    · have : c ∈ nB (x :: r.takeWhile ShBlazon.isDigit) := hc
      obtain ⟨y, hy, rfl⟩ := List.mem_map.mp this
      rw [isD_of]; exact hall y hy
    · rcases z with z | z
      · exact h2 (UInt8.toNat_inj.mp z)
      · rw [List.length_map] at z; omega
  | noNum x r h h0 h1 h2 =>
    have et : txt b e = nB ((b.drop (bq b e)).takeWhile ShBlazon.isDigit) := by unfold txt; rw [h]; unfold ptx; dsimp only; rw [if_neg (by rw [h0]; exact Bool.false_ne_true), if_pos h1]
    have et2 : txt b e = x.toNat :: nB (r.takeWhile ShBlazon.isDigit) := by rw [et, h, List.takeWhile_cons, if_pos h1]; rfl
    have hall : ∀ c ∈ x :: r.takeWhile ShBlazon.isDigit, ShBlazon.isDigit c = true := fun c hc => by
      rcases List.mem_cons.mp hc with z | z
      · rw [z]; exact h1
      · exact tw_all _ _ c z
    obtain ⟨w1, w2⟩ := wt _ _ ht
    refine .noNum _ _ (by rw [h]; show (ShBlazon.isLetter x || (ShBlazon.isDigit x || x == 44)) = true; rw [h1]; simp) et2 (isNum_of (by simp) fun c hc => ?_) ?_ ?_ (.inr w1)
    · have : c ∈ nB (x :: r.takeWhile ShBlazon.isDigit) := hc
      obtain ⟨y, hy, rfl⟩ := List.mem_map.mp this
      rw [isD_of]; exact hall y hy
    · by_cases h48 : x = 48
      · left; rw [h48]; rfl
      · right
        rw [h, List.takeWhile_cons, if_pos h1, num_ok3 hall h48, List.length_cons] at h2
        rw [List.length_map]
        rcases Nat.lt_or_ge 2 (r.takeWhile ShBlazon.isDigit).length with q | q
        · exact q
        · exact absurd ⟨h48, by omega⟩ h2
    · unfold ShBlazon.wanted
      rw [w1, w2]; rfl
  | comma r h => exact .yes (by rw [h]; rfl) (by unfold txt; rw [h]; rfl) (gd _ _ ht (by show 2 ≤ 3; decide))
  | bad x r h h0 h1 h2 =>
    obtain ⟨w1, w2⟩ := wt _ _ ht
    refine .no ?_ ?_ (.inl w1)
    · rw [h]; show (ShBlazon.isLetter x || (ShBlazon.isDigit x || x == 44)) = false
      rw [h0, h1, beq_eq_false_iff_ne.mpr h2]; rfl
    · unfold ShBlazon.wanted
      rw [w1, w2]; rfl
theorem txt_cases (b : Bytes) (e : Nat) : txt b e = [] ∨ txt b e = [44] ∨ ∃ f : UInt8 → Bool, (∀ y, f y = true → y.toNat < 128) ∧ txt b e = nB ((b.drop (bq b e)).takeWhile f) := by
  unfold txt
  generalize b.drop (bq b e) = c
  cases c with
  | nil => exact .inl rfl
  | cons x r =>
    by_cases h1 : ShBlazon.isLetter x = true
    · refine .inr (.inr ⟨ShBlazon.isLetter, fun y hy => by rw [← isL_of] at hy; unfold isL at hy; rw [Bool.and_eq_true, decide_eq_true_eq, decide_eq_true_eq] at hy; omega, ?_⟩)
      unfold ptx; dsimp only; rw [if_pos h1]
    · by_cases h2 : ShBlazon.isDigit x = true
      · refine .inr (.inr ⟨ShBlazon.isDigit, fun y hy => by rw [← isD_of] at hy; unfold isD at hy; rw [Bool.and_eq_true, decide_eq_true_eq, decide_eq_true_eq] at hy; omega, ?_⟩)
        unfold ptx; dsimp only; rw [if_neg h1, if_pos h2]
      · refine .inr (.inl ?_)
        unfold ptx; dsimp only; rw [if_neg h1, if_neg h2]
theorem txt_128 (b : Bytes) (e : Nat) : ∀ c ∈ txt b e, c < 128 := by
  intro c hc
  rcases txt_cases b e with z | z | ⟨f, hf, z⟩
  · rw [z] at hc; cases hc
  · rw [z] at hc
    rcases List.mem_cons.mp hc with y | y
    · omega
    · cases y
  · rw [z] at hc
    obtain ⟨y, hy, rfl⟩ := List.mem_map.mp hc
    exact hf y (tw_all _ _ y hy)
theorem txt_le (b : Bytes) (e : Nat) : (txt b e).length ≤ b.length + 1 := by
  rcases txt_cases b e with z | z | ⟨f, hf, z⟩
  · rw [z]; exact Nat.zero_le _
  · rw [z]; show 1 ≤ _; omega
  · rw [z, List.length_map]
    refine Nat.le_trans (tw_len _ _) ?_
    rw [List.length_drop]; omega
theorem bn_txt {b : Bytes} {e : Nat} (g : Good b e) : bn b e = bq b e + (txt b e).length := by
  rcases txt_kind g with ⟨_, _, _, _, k⟩ | ⟨_, _, _, k⟩ | ⟨_, k1, k⟩ | ⟨_, k1, k⟩
  · exact k
  · exact k
  · rw [k, k1]; rfl
  · rw [k, k1]; rfl
theorem TkAt.oth {K : PySem.W.Frag} {CK CR : Addr} {H H' : Hp} {r a : Addr} {ns : List Int} {e e' : Nat} (R : TkAt K CK CR H r a ns e) (o : Oth r H H') (he : e' ≤ ns.length)
    (h : ∃ dr v, H' r = some (.ins CR dr (tf7 a v e')) ∧ (v = .non ∨ ∃ z, v = .ref z ∧ TokAt CK H' z (txt (byt ns) e') (bq (byt ns) e') (bn (byt ns) e') ∧ Good (byt ns) e')) : TkAt K CK CR H' r a ns e' := by
  obtain ⟨dr, v, h1, _⟩ := R.obj
  exact ⟨R.byts, R.sz, h, R.seq.keep fun ob u q => o _ _ (ne_of q h1 (by intro z; cases z)) q, he, R.ne⟩
theorem TokAt.oth {CK CR : Addr} {H H' : Hp} {r z dr : Addr} {fs : List (Str × V)} {l : List Nat} {p e : Nat} (t : TokAt CK H z l p e) (hr : H r = some (.ins CR dr fs)) (ne : CK ≠ CR) (o : Oth r H H') : TokAt CK H' z l p e := by
  obtain ⟨dz, s, hz, hl⟩ := t
  exact ⟨dz, s, o _ _ (ne_of hz hr (by intro y; injection y with y; exact ne y)) hz, hl⟩
theorem TokAt.sm {CK : Addr} {H H' : Hp} {z : Addr} {l : List Nat} {p e : Nat} (t : TokAt CK H z l p e) (s : Same H H') : TokAt CK H' z l p e := by
  obtain ⟨dz, st, hz, hl⟩ := t
  exact ⟨dz, st, s _ _ hz, hl⟩
theorem TkAt.same {K : PySem.W.Frag} {CK CR : Addr} {H H' : Hp} {r a : Addr} {ns : List Int} {e : Nat} (R : TkAt K CK CR H r a ns e) (s : Same H H') : TkAt K CK CR H' r a ns e := by
  obtain ⟨dr, v, h1, h2⟩ := R.obj
  refine ⟨R.byts, R.sz, ⟨dr, v, s _ _ h1, ?_⟩, R.seq.keep fun ob u q => s _ _ q, R.le, R.ne⟩
  rcases h2 with h2 | ⟨z, e1, t, g⟩
  · exact .inl h2
  · exact .inr ⟨z, e1, t.sm s, g⟩
structure TM7 (K : PySem.W.Frag) (mg : Str → Option Value) (CR fR fPk fSe fSO fAc fRe fAT fAN : Addr) : Prop where
  R : RC K mg "TokenReader" CR fR ["data", "ahead", "end"]
  mPk : Meth K CR "peek" fPk
  mSe : Meth K CR "sees" fSe
  mSO : Meth K CR "sees_one_of" fSO
  mAc : Meth K CR "accept" fAc
  mRe : Meth K CR "refuse" fRe
  mAT : Meth K CR "accept_text" fAT
  mAN : Meth K CR "accept_number" fAN
noncomputable def spTI (C : Addr) : Sp := fun vs H Q _ => ∃ (r dr a : Addr), vs = [.ref r, .ref a] ∧ H r = some (.ins C dr []) ∧ ∀ H', H' r = some (.ins C dr (tf7 a .non 0)) → Oth r H H' → Q .non H'
noncomputable def spPk (K : PySem.W.Frag) (CE CK CR : Addr) : Sp := fun vs H Q E => ∃ (r a : Addr) (ns : List Int) (e : Nat), vs = [.ref r] ∧ TkAt K CK CR H r a ns e ∧ (Bad (ts (byt ns) e) → Fl CE E (ShBlazon.wanted (ts (byt ns) e))) ∧
  (Good (byt ns) e → ∀ z H', TkAt K CK CR H' r a ns e → TokAt CK H' z (txt (byt ns) e) (bq (byt ns) e) (bn (byt ns) e) → Oth r H H' → Q (.ref z) H')
section
variable {P : Program} {w : World} {K : PySem.W.Frag} {mg : Str → Option Value} {base : Heap} {CE NE fE CK fK CR fR fPk fSe fSO fAc fRe fAT fAN : Addr}
theorem scTI : FnScope ["self", "data"] ["self", "data"] (defScope s_T_init) := ⟨rfl, rfl, rfl, by decide +kernel, rfl, by decide +kernel, by decide +kernel⟩
theorem ok_T_init {fd : FuncData} (F : Fun K "__init__" "TokenReader.__init__" s_T_init fR fd) (M : TM7 K mg CR fR fPk fSe fSO fAc fRe fAT fAN) : FnOk P w K mg base (CXx P w) 1 fR fd ["self", "data"] (spTI CR) := by
  refine F.okX scTI (fun vs H Q E h => ?_) (fun cdv A outer s H vs Q E hr h => ?_)
  · obtain ⟨r, dr, a, rfl, _⟩ := h
    rfl
  · obtain ⟨r, dr, a, rfl, hr0, k⟩ := h
    refine ⟨_, pss_cons (ps_fld (pv 0) (pv 1) rfl) (pss_cons (ps_fld (pv 0) pe_non rfl) (pss_one (ps_fld (pv 0) pe_int rfl))), ?_⟩
    refine ⟨_, rfl, _, rfl, r, CR, dr, [], rfl, hr0, M.R.cl, M.R.no _ (by decide +kernel), (by show 0 < 1000; decide), _, rfl, r, CR, dr, _, rfl, upd_same, M.R.cl, M.R.no _ (by decide +kernel), (by show 1 < 1000; decide), _, rfl, r, CR, dr, _, rfl, upd_same, M.R.cl, M.R.no _ (by decide +kernel), (by show 2 < 1000; decide), ?_⟩
    exact k _ upd_same fun b o n e => by simp only [upd_ne n]; exact e
end
noncomputable def spSe (K : PySem.W.Frag) (CE CK CR : Addr) : Sp := fun vs H Q E => ∃ (r a : Addr) (ns : List Int) (e : Nat) (s : Str), vs = [.ref r, .str s] ∧ TkAt K CK CR H r a ns e ∧ (Bad (ts (byt ns) e) → Fl CE E (ShBlazon.wanted (ts (byt ns) e))) ∧
  (Ma.Good (byt ns) e → ∀ H', TkAt K CK CR H' r a ns e → Oth r H H' → Q (.bl (decide (txt (byt ns) e = tl s))) H')
noncomputable def vo : Option Str → V
  | none => .non
  | some s => .str s
noncomputable def hasT (os : List (Option Str)) (l : List Nat) : Bool := os.any fun o => match o with
  | none => false
  | some s => decide (tl s = l)
noncomputable def Nm (K : PySem.W.Frag) (H : Hp) (v : V) (os : List (Option Str)) : Prop := ∃ p, v = .ref p ∧ (SqL K H p (os.map vo) ∨ (SqT K H p (os.map vo) ∧ ∃ o, K.lookup p = some o ∧ o.cls = .type "tuple" ∧ o.dict = none))
noncomputable def spSO (K : PySem.W.Frag) (CE CK CR : Addr) : Sp := fun vs H Q E => ∃ (r a : Addr) (ns : List Int) (e : Nat) (v : V) (os : List (Option Str)), vs = [.ref r, v] ∧ TkAt K CK CR H r a ns e ∧ (∀ H', Oth r H H' → Nm K H' v os) ∧ (Bad (ts (byt ns) e) → Fl CE E (ShBlazon.wanted (ts (byt ns) e))) ∧
  (Ma.Good (byt ns) e → ∀ H', TkAt K CK CR H' r a ns e → Oth r H H' → Q (.bl (hasT os (txt (byt ns) e))) H')
noncomputable def spAc (K : PySem.W.Frag) (CK CR : Addr) : Sp := fun vs H Q _ => ∃ (r a : Addr) (ns : List Int) (e : Nat), vs = [.ref r] ∧ TkAt K CK CR H r a ns e ∧ Ma.Good (byt ns) e ∧
  ∀ z H', TkAt K CK CR H' r a ns (bn (byt ns) e) → TokAt CK H' z (txt (byt ns) e) (bq (byt ns) e) (bn (byt ns) e) → Oth r H H' → Q (.ref z) H'
noncomputable def spRe (K : PySem.W.Frag) (CE CK CR : Addr) : Sp := fun vs H _ E => ∃ (r a : Addr) (ns : List Int) (e : Nat), vs = [.ref r] ∧ TkAt K CK CR H r a ns e ∧ Fl CE E (ShBlazon.wanted (ts (byt ns) e))
section
variable {P : Program} {w : World} {K : PySem.W.Frag} {mg : Str → Option Value} {base : Heap} {CE NE fE CK fK CR fR fPk fSe fSO fAc fRe fAT fAN : Addr}
theorem sc_peek : FnScope ["self", "token"] ["self"] (defScope s_T_peek) := ⟨rfl, rfl, rfl, by decide +kernel, rfl, by decide +kernel, by decide +kernel⟩
theorem ok_peek {fTA fSB fIN fCN : Addr} {fdA fdB fdN fdC fd : FuncData} (F : Fun K "peek" "TokenReader.peek" s_T_peek fPk fd) (T : TX K mg CE NE fE CK fK) (M : TM7 K mg CR fR fPk fSe fSO fAc fRe fAT fAN)
    (GA : FnOk P w K mg base (CXx P w) 3 fTA fdA ["data", "place"] (spTA K CE CK)) (bA : Binds K fdA ["data", "place"] []) (kA : PySem.W.keepIn K (.ref fTA) = true) (gA : mg "token_at" = some (.ref fTA))
    (GB : FnOk P w K mg base (CXx P w) 1 fSB fdB ["data", "place"] (spSB K)) (bB : Binds K fdB ["data", "place"] []) (kB : PySem.W.keepIn K (.ref fSB) = true) (gB : mg "skip_blanks" = some (.ref fSB))
    (GN : FnOk P w K mg base (CXx P w) 1 fIN fdN ["token"] (spIN CK)) (bN : Binds K fdN ["token"] []) (kN : PySem.W.keepIn K (.ref fIN) = true) (gN : mg "is_number" = some (.ref fIN))
    (GC : FnOk P w K mg base (CXx P w) 3 fCN fdC ["token"] (spCN CE CK)) (bC : Binds K fdC ["token"] []) (kC : PySem.W.keepIn K (.ref fCN) = true) (gC : mg "check_number" = some (.ref fCN)) :
    FnOk P w K mg base (CXx P w) 4 fPk fd ["self"] (spPk K CE CK CR) := by
  refine F.okX sc_peek (fun vs H Q E h => ?_) (fun cdv A outer s H vs Q E hr h => ?_)
  · obtain ⟨r, a, ns, e, rfl, _⟩ := h
    rfl
  · obtain ⟨r, a, ns, e, rfl, R, k1, k2⟩ := h
    obtain ⟨dr, v, hR, hv⟩ := R.obj
    have hr1 : Room 1 _ := hr.mono (by decide)
    refine ⟨_, pss_cons (ps_if (pt_cmpR op_isN (pe_fld (pv 0) rfl) pe_non (nomark _))
        (pss_cons (ps_set (i := 1) sc_peek.nd rfl (Or.inl rfl) (pe_call GA hr rfl gA kA bA .nil (passX rfl flies) (pa_cons (pe_fld (pv 0) rfl) (pa_cons (pe_call GB hr1 rfl gB kB bB .nil passN (pa_cons (pe_fld (pv 0) rfl) (pa_cons (pe_fld (pv 0) rfl) pa_nil))) pa_nil))))
        (pss_cons (ps_if (pt_val (pe_call GN hr1 rfl gN kN bN .nil passN (pa_cons (pv 1) pa_nil))) (pss_one (ps_expr (pe_call GC hr rfl gC kC bC .nil (passX rfl flies) (pa_cons (pv 1) pa_nil)))) pss_nil)
        (pss_one (ps_fld (pv 0) (pv 1) rfl)))) pss_nil)
      (pss_one (ps_ret (pe_fld (pv 0) rfl))), ?_⟩
    refine ⟨_, rfl, r, CR, dr, _, _, rfl, hR, M.R.cl, M.R.no _ (by decide +kernel), tf_ahead _ _ _, rfl, _, rfl, ?_⟩
    rcases hv with rfl | ⟨z, rfl, tz, g⟩
    · refine iteP (decide_eq_true rfl) ?_
      refine ⟨_, rfl, r, CR, dr, _, _, rfl, hR, M.R.cl, M.R.no _ (by decide +kernel), tf_data _ _ _, _, rfl, r, CR, dr, _, _, rfl, hR, M.R.cl, M.R.no _ (by decide +kernel), tf_data _ _ _, _, rfl, r, CR, dr, _, _, rfl, hR, M.R.cl, M.R.no _ (by decide +kernel), tf_end _ _ _, ?_⟩
      refine ⟨a, ns, e, rfl, R.byts, R.seq, R.le, a, ns, bq (byt ns) e, rfl, R.byts, R.sz, R.seq, ?_, fun ho z H1 s1 hz1 t1 => ?_, fun hno => ?_⟩
      · have := bq_le (b := byt ns) (e := e) (by rw [byt_len]; exact R.le)
        rw [byt_len] at this; exact this
      · have t1 : TokAt CK H1 z (txt (byt ns) e) (bq (byt ns) e) (bq (byt ns) e + (txt (byt ns) e).length) := t1
        have hR1 := s1 _ _ hR
        refine ⟨_, rfl, z, _, _, _, rfl, t1, txt_128 _ _, _, rfl, ?_⟩
        have fin : Ma.Good (byt ns) e → tSeq (sFld K (tVar 0) (tVar 1) "ahead") (tRet (tFld K (tVar 0) "ahead")) { nx := fun x H' => Q V.non H', rt := Q } [some (V.ref r), some (V.ref z)] H1 := fun g => by
          rw [← bn_txt g] at t1
          refine ⟨_, rfl, _, rfl, r, CR, dr, _, rfl, hR1, M.R.cl, M.R.no _ (by decide +kernel), tf_len _ _ _, ?_⟩
          have hz2 : z ≠ r := fun y => by rw [y, hR] at hz1; cases hz1
          have o2 : Oth r H (upd H1 r (.ins CR dr (putF "ahead" (V.ref z) (tf7 a .non e)))) := fun b o nb q => by rw [upd_ne nb]; exact s1 _ _ q
          have t2 : TokAt CK (upd H1 r (.ins CR dr (putF "ahead" (V.ref z) (tf7 a .non e)))) z (txt (byt ns) e) (bq (byt ns) e) (bn (byt ns) e) := by
            obtain ⟨dz, st, h1, h2⟩ := t1
            exact ⟨dz, st, by rw [upd_ne hz2]; exact h1, h2⟩
          refine ⟨_, rfl, r, CR, dr, _, _, rfl, upd_same, M.R.cl, M.R.no _ (by decide +kernel), by rw [tf_put_ahead]; exact tf_ahead _ _ _, ?_⟩
          exact k2 g z _ (R.oth o2 R.le ⟨dr, V.ref z, by rw [upd_same, tf_put_ahead], .inr ⟨z, rfl, t2, g⟩⟩) t2 o2
        cases pkc (byt ns) e with
        | no h1 => rw [h1] at ho; cases ho
        | noNum x r' h1 h2 h3 h4 h5 h6 =>
          rw [h2] at t1 ⊢
          refine iteP h3 ?_
          have hb := k1 h6
          rw [h5] at hb
          have hle := txt_le (byt ns) e
          rw [h2, byt_len, List.length_cons] at hle
          refine ⟨_, rfl, z, x, r', _, _, rfl, t1, (by have := R.sz; omega), fun _ => hb, fun y => absurd h4 y⟩
        | num x r' h1 h2 h3 h4 h5 =>
          have f := fin h5
          rw [h2] at t1 ⊢
          refine iteP h3 ?_
          have hle := txt_le (byt ns) e
          rw [h2, byt_len, List.length_cons] at hle
          refine ⟨_, rfl, z, x, r', _, _, rfl, t1, (by have := R.sz; omega), fun y => absurd y h4, fun _ => ?_⟩
          exact f
        | yes h1 h2 h3 =>
          rw [h2]
          exact iteN Bool.false_ne_true (fin h3)
      · cases pkc (byt ns) e with
        | no h1 h2 h3 => have := k1 h3; rw [h2] at this; exact this
        | noNum x r h1 => rw [h1] at hno; cases hno
        | num x r h1 => rw [h1] at hno; cases hno
        | yes h1 => rw [h1] at hno; cases hno
    · refine iteN (by intro y; have := of_decide_eq_true y; cases this) ?_
      refine ⟨_, rfl, r, CR, dr, _, _, rfl, hR, M.R.cl, M.R.no _ (by decide +kernel), tf_ahead _ _ _, ?_⟩
      exact k2 g z H R tz (Oth.refl _ _)
theorem str_ext {a b : Str} : a = b ↔ tl a = tl b := by
  constructor
  · intro h; rw [h]
  · intro h
    cases a with | mk c => cases b with | mk d => 
      have : c = d := Array.toList_inj.mp h
      rw [this]
theorem dstr (a b : Str) : decide (V.str a = V.str b) = decide (tl a = tl b) :=
  decide_eq_decide.mpr ⟨fun h => by injection h with h; rw [h], fun h => by rw [str_ext.mpr h]⟩
theorem inV_has (st : Str) (os : List (Option Str)) : inV (V.str st) (os.map vo) = hasT os (tl st) := by
  unfold inV hasT
  rw [List.any_map]
  congr 1
  funext o
  cases o with
  | none => rfl
  | some s =>
    show eqV (V.str s) (V.str st) = decide (tl s = tl st)
    rw [← dstr]
    show (s == st) = _
    rw [← dec_str]
theorem vo_flat (os : List (Option Str)) : (os.map vo).all flatV = true := by
  rw [List.all_map, List.all_eq_true]
  intro o _
  cases o <;> rfl
theorem wanted_good {b : Bytes} {e : Nat} (g : Ma.Good b e) : ShBlazon.wanted (ts b e) = (3, bq b e) := by
  unfold ShBlazon.wanted
  unfold Ma.Good at g
  rw [kind_ts, place_ts, at_bt, if_neg (by omega), if_neg (by omega)]
theorem sc_sees : FnScope ["self", "text"] ["self", "text"] (defScope s_T_sees) := ⟨rfl, rfl, rfl, by decide +kernel, rfl, by decide +kernel, by decide +kernel⟩
theorem ok_sees {fdP fd : FuncData} (F : Fun K "sees" "TokenReader.sees" s_T_sees fSe fd) (T : TX K mg CE NE fE CK fK) (M : TM7 K mg CR fR fPk fSe fSO fAc fRe fAT fAN)
    (GP : FnOk P w K mg base (CXx P w) 4 fPk fdP ["self"] (spPk K CE CK CR)) (bP : Binds K fdP ["self"] []) : FnOk P w K mg base (CXx P w) 5 fSe fd ["self", "text"] (spSe K CE CK CR) := by
  refine F.okX sc_sees (fun vs H Q E h => ?_) (fun cdv A outer s H vs Q E hr h => ?_)
  · obtain ⟨r, a, ns, e, st, rfl, _⟩ := h
    rfl
  · obtain ⟨r, a, ns, e, st, rfl, R, k1, k2⟩ := h
    obtain ⟨dr, v, hR, hv⟩ := R.obj
    refine ⟨_, pss_one (ps_ret (pe_cmpR op_eq (pe_fld (pe_meth0 (pv 0) M.R.cl M.mPk GP hr bP .nil (passX rfl flies)) rfl) (pv 1) (nomark _))), ?_⟩
    refine ⟨_, rfl, r, dr, _, rfl, hR, tf_no _ _ _ (by decide +kernel) (by decide +kernel) (by decide +kernel), r, a, ns, e, rfl, R, k1, fun g z H1 R1 t1 o1 => ?_⟩
    obtain ⟨dz, s2, hz, hl⟩ := t1
    refine ⟨z, CK, dz, _, _, rfl, hz, T.K.cl, T.K.no _ (by decide +kernel), kf_text _ _ _, _, rfl, rfl, ?_⟩
    rw [dstr, hl]
    exact k2 g H1 R1 o1
theorem sc_sees_one_of : FnScope ["self", "texts"] ["self", "texts"] (defScope s_T_sees_one_of) := ⟨rfl, rfl, rfl, by decide +kernel, rfl, by decide +kernel, by decide +kernel⟩
theorem ok_sees_one_of {fdP fd : FuncData} (F : Fun K "sees_one_of" "TokenReader.sees_one_of" s_T_sees_one_of fSO fd) (T : TX K mg CE NE fE CK fK) (M : TM7 K mg CR fR fPk fSe fSO fAc fRe fAT fAN)
    (GP : FnOk P w K mg base (CXx P w) 4 fPk fdP ["self"] (spPk K CE CK CR)) (bP : Binds K fdP ["self"] []) : FnOk P w K mg base (CXx P w) 5 fSO fd ["self", "texts"] (spSO K CE CK CR) := by
  refine F.okX sc_sees_one_of (fun vs H Q E h => ?_) (fun cdv A outer s H vs Q E hr h => ?_)
  · obtain ⟨r, a, ns, e, v, os, rfl, _⟩ := h
    rfl
  · obtain ⟨r, a, ns, e, v, os, rfl, R, hN, k1, k2⟩ := h
    obtain ⟨dr, v', hR, hv⟩ := R.obj
    refine ⟨_, pss_one (ps_ret (pe_cmpR op_in_seq (pe_fld (pe_meth0 (pv 0) M.R.cl M.mPk GP hr bP .nil (passX rfl flies)) rfl) (pv 1) (by with_unfolding_all rfl))), ?_⟩
    refine ⟨_, rfl, r, dr, _, rfl, hR, tf_no _ _ _ (by decide +kernel) (by decide +kernel) (by decide +kernel), r, a, ns, e, rfl, R, k1, fun g z H1 R1 t1 o1 => ?_⟩
    obtain ⟨dz, s2, hz, hl⟩ := t1
    obtain ⟨p, rfl, hp⟩ := hN H1 o1
    refine ⟨z, CK, dz, _, _, rfl, hz, T.K.cl, T.K.no _ (by decide +kernel), kf_text _ _ _, _, rfl, p, _, rfl, hp.imp id And.left, rfl, vo_flat os, ?_⟩
    show Q (.bl (inV (V.str s2) (os.map vo))) H1
    rw [inV_has, hl]
    exact k2 g H1 R1 o1
theorem sc_accept : FnScope ["self", "token"] ["self"] (defScope s_T_accept) := ⟨rfl, rfl, rfl, by decide +kernel, rfl, by decide +kernel, by decide +kernel⟩
theorem ok_accept {fdP fd : FuncData} (F : Fun K "accept" "TokenReader.accept" s_T_accept fAc fd) (T : TX K mg CE NE fE CK fK) (M : TM7 K mg CR fR fPk fSe fSO fAc fRe fAT fAN)
    (GP : FnOk P w K mg base (CXx P w) 4 fPk fdP ["self"] (spPk K CE CK CR)) (bP : Binds K fdP ["self"] []) : FnOk P w K mg base (CXx P w) 5 fAc fd ["self"] (spAc K CK CR) := by
  refine F.okX sc_accept (fun vs H Q E h => ?_) (fun cdv A outer s H vs Q E hr h => ?_)
  · obtain ⟨r, a, ns, e, rfl, _⟩ := h
    rfl
  · obtain ⟨r, a, ns, e, rfl, R, g, k⟩ := h
    obtain ⟨dr, v, hR, hv⟩ := R.obj
    refine ⟨_, pss_cons (ps_set (i := 1) sc_accept.nd rfl (Or.inl rfl) (pe_meth0 (pv 0) M.R.cl M.mPk GP hr bP .nil (passX rfl flies)))
      (pss_cons (ps_fld (pv 0) (pe_fld (pv 1) rfl) rfl) (pss_cons (ps_fld (pv 0) pe_non rfl) (pss_one (ps_ret (pv 1))))), ?_⟩
    refine ⟨_, rfl, r, dr, _, rfl, hR, tf_no _ _ _ (by decide +kernel) (by decide +kernel) (by decide +kernel), r, a, ns, e, rfl, R, fun y => absurd y (not_bad g), fun _ z H1 R1 t1 o1 => ?_⟩
    obtain ⟨dr1, v1, hR1, _⟩ := R1.obj
    obtain ⟨dz, s2, hz, hl⟩ := id t1
    have hzr : z ≠ r := ne_of hz hR1 (by intro y; injection y with y; exact R.ne y)
    refine ⟨_, rfl, z, CK, dz, _, _, rfl, hz, T.K.cl, T.K.no _ (by decide +kernel), kf_end _ _ _, _, rfl, r, CR, dr1, _, rfl, hR1, M.R.cl, M.R.no _ (by decide +kernel), tf_len _ _ _, _, rfl, r, CR, dr1, _, rfl, upd_same, M.R.cl, M.R.no _ (by decide +kernel), (by rw [tf_put_end]; exact tf_len _ _ _), ?_⟩
    rw [upd_upd]
    refine ⟨_, rfl, ?_⟩
    have o2 : Oth r H1 (upd H1 r (.ins CR dr1 (putF "ahead" .non (putF "end" (vn (bn (byt ns) e)) (tf7 a v1 e))))) := Oth.upd _ _ _
    refine k z _ (R1.oth o2 ?_ ⟨dr1, .non, by rw [upd_same, tf_put_end, tf_put_ahead], .inl rfl⟩) ⟨dz, s2, by rw [upd_ne hzr]; exact hz, hl⟩ (o1.trans o2)
    have := bn_le g (by rw [byt_len]; exact R.le)
    rw [byt_len] at this; exact this
theorem sc_refuse : FnScope ["self"] ["self"] (defScope s_T_refuse) := ⟨rfl, rfl, rfl, by decide +kernel, rfl, by decide +kernel, by decide +kernel⟩
theorem ok_refuse {fdE fdP fd : FuncData} (F : Fun K "refuse" "TokenReader.refuse" s_T_refuse fRe fd) (T : TX K mg CE NE fE CK fK) (U : TG7 mg) (M : TM7 K mg CR fR fPk fSe fSO fAc fRe fAT fAN)
    (GE : FnOk P w K mg base (CXx P w) 1 fE fdE ["self", "kind", "place"] (spXI CE)) (bE : Binds K fdE ["self", "kind", "place"] [])
    (GP : FnOk P w K mg base (CXx P w) 4 fPk fdP ["self"] (spPk K CE CK CR)) (bP : Binds K fdP ["self"] []) : FnOk P w K mg base (CXx P w) 5 fRe fd ["self"] (spRe K CE CK CR) := by
  refine F.okX sc_refuse (fun vs H Q E h => ?_) (fun cdv A outer s H vs Q E hr h => ?_)
  · obtain ⟨r, a, ns, e, rfl, _⟩ := h
    rfl
  · obtain ⟨r, a, ns, e, rfl, R, k⟩ := h
    obtain ⟨dr, v, hR, hv⟩ := R.obj
    obtain ⟨t3, h3⟩ := U.i "ELSE_WANTED" 3 (by decide +kernel)
    have hr2 : Room 2 _ := hr.mono (by decide)
    refine ⟨_, pss_one (ps_raise T.xc GE hr2 rfl T.mgE bE rfl rfl flies (pa_cons (pe_glob (v := .int 3) rfl h3 ⟨t3, rfl⟩) (pa_cons (pe_fld (pe_meth0 (pv 0) M.R.cl M.mPk GP hr bP .nil (passX rfl flies)) rfl) pa_nil))), ?_⟩
    refine ⟨_, rfl, r, dr, _, rfl, hR, tf_no _ _ _ (by decide +kernel) (by decide +kernel) (by decide +kernel), r, a, ns, e, rfl, R, fun _ => k, fun g z H1 R1 t1 o1 => ?_⟩
    obtain ⟨dz, s2, hz, hl⟩ := t1
    rw [wanted_good g] at k
    exact ⟨z, CK, dz, _, _, rfl, hz, T.K.cl, T.K.no _ (by decide +kernel), kf_place _ _ _, (by show 2 ≤ 1000; decide), raise_fl k H1⟩
end
noncomputable def spAT (K : PySem.W.Frag) (CE CK CR : Addr) : Sp := fun vs H Q E => ∃ (r a : Addr) (ns : List Int) (e : Nat) (s : Str), vs = [.ref r, .str s] ∧ TkAt K CK CR H r a ns e ∧ ((Bad (ts (byt ns) e) ∨ ¬ txt (byt ns) e = tl s) → Fl CE E (ShBlazon.wanted (ts (byt ns) e))) ∧
  (Ma.Good (byt ns) e → txt (byt ns) e = tl s → ∀ z H', TkAt K CK CR H' r a ns (bn (byt ns) e) → TokAt CK H' z (txt (byt ns) e) (bq (byt ns) e) (bn (byt ns) e) → Oth r H H' → Q (.ref z) H')
noncomputable def spAN (K : PySem.W.Frag) (CE CK CR : Addr) : Sp := fun vs H Q E => ∃ (r a : Addr) (ns : List Int) (e : Nat), vs = [.ref r] ∧ TkAt K CK CR H r a ns e ∧ ((Bad (ts (byt ns) e) ∨ ¬ (bt (byt ns) e).kind = 1) → Fl CE E (ShBlazon.wanted (ts (byt ns) e))) ∧
  ((bt (byt ns) e).kind = 1 → ∀ z H', TkAt K CK CR H' r a ns (bn (byt ns) e) → TokAt CK H' z (txt (byt ns) e) (bq (byt ns) e) (bn (byt ns) e) → Oth r H H' → Q (.ref z) H')
theorem isNum_kind {b : Bytes} {e : Nat} (g : Ma.Good b e) : isNum (txt b e) = decide ((bt b e).kind = 1) := by
  by_cases h : (bt b e).kind = 1
  · obtain ⟨h1, h2⟩ := (num_txt g).mp h
    rw [isNum_of h1 h2, decide_eq_true h]
  · rw [decide_eq_false h]
    unfold isNum
    cases q : (decide (0 < (txt b e).length) && (txt b e).all isD) with
    | false => rfl
    | true =>
      rw [Bool.and_eq_true, decide_eq_true_eq, List.all_eq_true] at q
      exact absurd ((num_txt g).mpr ⟨List.length_pos_iff.mp q.1, q.2⟩) h
section
variable {P : Program} {w : World} {K : PySem.W.Frag} {mg : Str → Option Value} {base : Heap} {CE NE fE CK fK CR fR fPk fSe fSO fAc fRe fAT fAN : Addr}
theorem sc_accept_text : FnScope ["self", "text"] ["self", "text"] (defScope s_T_accept_text) := ⟨rfl, rfl, rfl, by decide +kernel, rfl, by decide +kernel, by decide +kernel⟩
theorem ok_accept_text {fdS fdR fdA fd : FuncData} (F : Fun K "accept_text" "TokenReader.accept_text" s_T_accept_text fAT fd) (M : TM7 K mg CR fR fPk fSe fSO fAc fRe fAT fAN)
    (GS : FnOk P w K mg base (CXx P w) 5 fSe fdS ["self", "text"] (spSe K CE CK CR)) (bS : Binds K fdS ["self", "text"] [])
    (GR : FnOk P w K mg base (CXx P w) 5 fRe fdR ["self"] (spRe K CE CK CR)) (bR : Binds K fdR ["self"] [])
    (GA : FnOk P w K mg base (CXx P w) 5 fAc fdA ["self"] (spAc K CK CR)) (bA : Binds K fdA ["self"] []) : FnOk P w K mg base (CXx P w) 6 fAT fd ["self", "text"] (spAT K CE CK CR) := by
  refine F.okX sc_accept_text (fun vs H Q E h => ?_) (fun cdv A outer s H vs Q E hr h => ?_)
  · obtain ⟨r, a, ns, e, st, rfl, _⟩ := h
    rfl
  · obtain ⟨r, a, ns, e, st, rfl, R, k1, k2⟩ := h
    obtain ⟨dr, v, hR, hv⟩ := R.obj
    refine ⟨_, pss_cons (ps_if (pt_not (pt_val (pe_meth (pv 0) M.R.cl M.mSe GS hr bS .nil (passX rfl flies) (pa_cons (pv 1) pa_nil)))) (pss_one (ps_expr (pe_meth0 (pv 0) M.R.cl M.mRe GR hr bR .nil (passX rfl flies)))) pss_nil)
      (pss_one (ps_ret (pe_meth0 (pv 0) M.R.cl M.mAc GA hr bA .nil (passX rfl flies)))), ?_⟩
    refine ⟨_, rfl, r, dr, _, rfl, hR, tf_no _ _ _ (by decide +kernel) (by decide +kernel) (by decide +kernel), _, rfl, r, a, ns, e, st, rfl, R, fun y => k1 (.inl y), fun g H1 R1 o1 => ?_⟩
    obtain ⟨dr1, v1, hR1, _⟩ := R1.obj
    refine ⟨_, rfl, ?_⟩
    by_cases q : txt (byt ns) e = tl st
    · refine iteN (by rw [decide_eq_true q]; exact Bool.false_ne_true) ?_
      refine ⟨_, rfl, r, dr1, _, rfl, hR1, tf_no _ _ _ (by decide +kernel) (by decide +kernel) (by decide +kernel), r, a, ns, e, rfl, R1, g, fun z H2 R2 t2 o2 => ?_⟩
      exact k2 g q z H2 R2 t2 (o1.trans o2)
    · refine iteP (by rw [decide_eq_false q]; rfl) ?_
      exact ⟨_, rfl, r, dr1, _, rfl, hR1, tf_no _ _ _ (by decide +kernel) (by decide +kernel) (by decide +kernel), r, a, ns, e, rfl, R1, k1 (.inr q)⟩
theorem sc_accept_number : FnScope ["self"] ["self"] (defScope s_T_accept_number) := ⟨rfl, rfl, rfl, by decide +kernel, rfl, by decide +kernel, by decide +kernel⟩
theorem ok_accept_number {fIN : Addr} {fdP fdN fdR fdA fd : FuncData} (F : Fun K "accept_number" "TokenReader.accept_number" s_T_accept_number fAN fd) (M : TM7 K mg CR fR fPk fSe fSO fAc fRe fAT fAN)
    (GP : FnOk P w K mg base (CXx P w) 4 fPk fdP ["self"] (spPk K CE CK CR)) (bP : Binds K fdP ["self"] [])
    (GN : FnOk P w K mg base (CXx P w) 1 fIN fdN ["token"] (spIN CK)) (bN : Binds K fdN ["token"] []) (kN : PySem.W.keepIn K (.ref fIN) = true) (gN : mg "is_number" = some (.ref fIN))
    (GR : FnOk P w K mg base (CXx P w) 5 fRe fdR ["self"] (spRe K CE CK CR)) (bR : Binds K fdR ["self"] [])
    (GA : FnOk P w K mg base (CXx P w) 5 fAc fdA ["self"] (spAc K CK CR)) (bA : Binds K fdA ["self"] []) : FnOk P w K mg base (CXx P w) 6 fAN fd ["self"] (spAN K CE CK CR) := by
  refine F.okX sc_accept_number (fun vs H Q E h => ?_) (fun cdv A outer s H vs Q E hr h => ?_)
  · obtain ⟨r, a, ns, e, rfl, _⟩ := h
    rfl
  · obtain ⟨r, a, ns, e, rfl, R, k1, k2⟩ := h
    obtain ⟨dr, v, hR, hv⟩ := R.obj
    have hr4 : Room 4 _ := hr.mono (by decide)
    have hr1 : Room 1 _ := hr.mono (by decide)
    refine ⟨_, pss_cons (ps_if (pt_not (pt_val (pe_call GN hr1 rfl gN kN bN .nil passN (pa_cons (pe_meth0 (pv 0) M.R.cl M.mPk GP hr4 bP .nil (passX rfl flies)) pa_nil)))) (pss_one (ps_expr (pe_meth0 (pv 0) M.R.cl M.mRe GR hr bR .nil (passX rfl flies)))) pss_nil)
      (pss_one (ps_ret (pe_meth0 (pv 0) M.R.cl M.mAc GA hr bA .nil (passX rfl flies)))), ?_⟩
    refine ⟨_, rfl, r, dr, _, rfl, hR, tf_no _ _ _ (by decide +kernel) (by decide +kernel) (by decide +kernel), r, a, ns, e, rfl, R, fun y => k1 (.inl y), fun g z H1 R1 t1 o1 => ?_⟩
    obtain ⟨dr1, v1, hR1, _⟩ := R1.obj
    refine ⟨z, _, _, _, rfl, t1, txt_128 _ _, _, rfl, ?_⟩
    rw [isNum_kind g]
    by_cases q : (bt (byt ns) e).kind = 1
    · refine iteN (by rw [decide_eq_true q]; exact Bool.false_ne_true) ?_
      refine ⟨_, rfl, r, dr1, _, rfl, hR1, tf_no _ _ _ (by decide +kernel) (by decide +kernel) (by decide +kernel), r, a, ns, e, rfl, R1, g, fun z H2 R2 t2 o2 => ?_⟩
      exact k2 q z H2 R2 t2 (o1.trans o2)
    · refine iteP (by rw [decide_eq_false q]; rfl) ?_
      exact ⟨_, rfl, r, dr1, _, rfl, hR1, tf_no _ _ _ (by decide +kernel) (by decide +kernel) (by decide +kernel), r, a, ns, e, rfl, R1, k1 (.inr q)⟩
end
noncomputable def sinL : List Nat := 32 :: tl "sinister"
noncomputable def idxT (os : List (Option Str)) (t : List Nat) : Option Nat := os.findIdx? fun o => (o.map tl) == some t
noncomputable def tbOk (os : List (Option Str)) (l : List Bytes) (sin : Nat) : Bool := corL (os.map fun o => o.map tl) l && (os.zipIdx.all fun x => match x.1 with
  | none => true
  | some s => decide (s.length ≤ 100) && (if (tl s).all isL = true then (hasT os (tl s ++ sinL) == decide (x.2 = sin)) && (decide (x.2 ≠ sin) || (idxT os (tl s ++ sinL) == some (sin + 1))) else true))
noncomputable def nameAt (l : List Bytes) (sin : Nat) (s : BSt) : Except (Nat × Nat) (Nat × BSt) := match ShBlazon.look l s with
  | none => .error (ShBlazon.wanted s)
  | some k => .ok (ShBlazon.sinister sin k (s.drop 1))
theorem has_idx (os : List (Option Str)) (t : List Nat) : hasT os t = (idxT os t).isSome := by
  unfold hasT idxT
  rw [List.findIdx?_isSome]
  congr 1
  funext o
  cases o with
  | none => rfl
  | some s =>
    show decide (tl s = t) = (some (tl s) == some t)
    by_cases h : tl s = t
    · rw [h]; simp
    · rw [decide_eq_false h, eq_comm, beq_eq_false_iff_ne]; intro z; exact h (Option.some.inj z)
theorem idx_map (os : List (Option Str)) (t : List Nat) : (os.map fun o => o.map tl).findIdx? (fun o => o == some t) = idxT os t := by
  unfold idxT
  rw [List.findIdx?_map]; rfl
theorem idx_at {os : List (Option Str)} {s : Str} {k : Nat} (h : idxT os (tl s) = some k) : ∃ z, (os.map vo)[k]? = some z ∧ eqV z (.str s) = true ∧ ∀ (m : Nat) (z' : V), m < k → (os.map vo)[m]? = some z' → eqV z' (.str s) = false := by
  unfold idxT at h
  rw [List.findIdx?_eq_some_iff_getElem] at h
  obtain ⟨hk, h1, h2⟩ := h
  have q : ∀ o : Option Str, eqV (vo o) (.str s) = (o.map tl == some (tl s)) := by
    intro o
    cases o with
    | none => rfl
    | some u =>
      show (u == s) = (some (tl u) == some (tl s))
      by_cases hu : u = s
      · rw [hu]; simp
      · rw [beq_eq_false_iff_ne.mpr hu, eq_comm, beq_eq_false_iff_ne]; intro z; exact hu (str_ext.mpr (Option.some.inj z))
  refine ⟨vo os[k], by rw [List.getElem?_map, List.getElem?_eq_getElem hk]; rfl, by rw [q]; exact h1, fun m z' hm hz => ?_⟩
  have hm' : m < os.length := by omega
  rw [List.getElem?_map, List.getElem?_eq_getElem hm'] at hz
  have hz : vo os[m] = z' := Option.some.inj hz
  rw [← hz, q]
  have := h2 m hm
  simpa using this
theorem tb_at {os : List (Option Str)} {l : List Bytes} {sin k : Nat} {t : List Nat} (h : tbOk os l sin = true) (hk : idxT os t = some k) (hL : ∀ c ∈ t, isL c = true) :
    t.length ≤ 100 ∧ hasT os (t ++ sinL) = decide (k = sin) ∧ (k = sin → idxT os (t ++ sinL) = some (sin + 1)) := by
  unfold tbOk at h
  rw [Bool.and_eq_true, List.all_eq_true] at h
  unfold idxT at hk
  rw [List.findIdx?_eq_some_iff_getElem] at hk
  obtain ⟨hl, h1, _⟩ := hk
  have hm : (os[k], k) ∈ os.zipIdx := by
    rw [List.mem_zipIdx_iff_getElem?]
    exact List.getElem?_eq_getElem hl
  have hx := h.2 _ hm
  cases q : os[k] with
  | none => rw [q] at h1; cases h1
  | some s =>
    rw [q] at h1 hx
    have e : tl s = t := Option.some.inj (eq_of_beq h1)
    dsimp only at hx
    rw [e, Bool.and_eq_true, if_pos (List.all_eq_true.mpr hL), Bool.and_eq_true, decide_eq_true_eq, len_tl, e] at hx
    refine ⟨hx.1, eq_of_beq hx.2.1, fun z => ?_⟩
    have := hx.2.2
    rw [decide_eq_false (fun y => y z), Bool.false_or] at this
    exact eq_of_beq this
theorem idx_ret {K : PySem.W.Frag} {i j : Nat} {σ : L2.St} {H3 : Hp} {v : V} {s3 : Str} {os : List (Option Str)} {QQ : VK} (h1 : σ[1]? = some (some v)) (hi : σ[i]? = some (some (.str s3))) (hN : Nm K H3 v os) (hj : idxT os (tl s3) = some j) (q : QQ (vn j) H3) :
    tBM K "list" (rIndex K) (tVar 1) (tCons (tVar i) tNil) σ H3 QQ ∨ tBM K "tuple" (rIndexT K) (tVar 1) (tCons (tVar i) tNil) σ H3 QQ := by
  obtain ⟨p, rfl, hp⟩ := hN
  obtain ⟨z, a1, a2, a3⟩ := idx_at hj
  rcases hp with hp | ⟨hp, o, ho⟩
  · exact .inl ⟨_, h1, .inl ⟨rfl, _, hp⟩, _, hi, p, _, _, j, z, rfl, rfl, hp, rfl, vo_flat os, a1, a2, a3, q⟩
  · exact .inr ⟨_, h1, .inr (.inl ⟨rfl, o, ho⟩), _, hi, p, _, _, j, z, rfl, rfl, hp, rfl, vo_flat os, a1, a2, a3, q⟩
theorem sin_txt {b : Bytes} {e : Nat} (g : Ma.Good b e) : ShBlazon.isWord (ts b e) "sinister" = decide (txt b e = tl "sinister") := word_txt (c := 115) (r := [105, 110, 105, 115, 116, 101, 114]) g (by decide +kernel) (by decide +kernel)
noncomputable def spTN (K : PySem.W.Frag) (CE CK CR : Addr) : Sp := fun vs H Q E => ∃ (r a : Addr) (ns : List Int) (e : Nat) (v : V) (os : List (Option Str)) (l : List Bytes) (sin : Nat), vs = [.ref r, v] ∧ TkAt K CK CR H r a ns e ∧ (∀ H', Oth r H H' → Nm K H' v os) ∧ tbOk os l sin = true ∧
  match nameAt l sin (ts (byt ns) e) with
  | .error f => Fl CE E f
  | .ok x => (ShBlazon.look l (ts (byt ns) e) = some sin → Bad x.2 → Fl CE E (ShBlazon.wanted x.2)) ∧ ∀ e' H', x.2 = ts (byt ns) e' → TkAt K CK CR H' r a ns e' → Oth r H H' → Q (vn x.1) H'
section
variable {P : Program} {w : World} {K : PySem.W.Frag} {mg : Str → Option Value} {base : Heap} {CE NE fE CK fK CR fR fPk fSe fSO fAc fRe fAT fAN : Addr}
theorem sc_take_name : FnScope ["reader", "names", "word", "longer"] ["reader", "names"] (defScope s_take_name) := ⟨rfl, rfl, rfl, by decide +kernel, rfl, by decide +kernel, by decide +kernel⟩
theorem ok_take_name {f : Addr} {fdO fdR fdA fdS fd : FuncData} (F : Fun K "take_name" "take_name" s_take_name f fd) (T : TX K mg CE NE fE CK fK) (M : TM7 K mg CR fR fPk fSe fSO fAc fRe fAT fAN) (hs : ∃ t, mg "SINISTER" = some (.str "sinister" t))
    (GO : FnOk P w K mg base (CXx P w) 5 fSO fdO ["self", "texts"] (spSO K CE CK CR)) (bO : Binds K fdO ["self", "texts"] [])
    (GR : FnOk P w K mg base (CXx P w) 5 fRe fdR ["self"] (spRe K CE CK CR)) (bR : Binds K fdR ["self"] [])
    (GA : FnOk P w K mg base (CXx P w) 5 fAc fdA ["self"] (spAc K CK CR)) (bA : Binds K fdA ["self"] [])
    (GS : FnOk P w K mg base (CXx P w) 5 fSe fdS ["self", "text"] (spSe K CE CK CR)) (bS : Binds K fdS ["self", "text"] []) : FnOk P w K mg base (CXx P w) 6 f fd ["reader", "names"] (spTN K CE CK CR) := by
  refine F.okX sc_take_name (fun vs H Q E h => ?_) (fun cdv A outer s H vs Q E hr h => ?_)
  · obtain ⟨r, a, ns, e, v, os, l, sin, rfl, _⟩ := h
    rfl
  · obtain ⟨r, a, ns, e, v, os, l, sin, rfl, R, hN, hT, k⟩ := h
    obtain ⟨tS, hS⟩ := hs
    obtain ⟨dr, v', hR, hv⟩ := R.obj
    refine ⟨_, pss_cons (ps_if (pt_not (pt_val (pe_meth (pv 0) M.R.cl M.mSO GO hr bO .nil (passX rfl flies) (pa_cons (pv 1) pa_nil)))) (pss_one (ps_expr (pe_meth0 (pv 0) M.R.cl M.mRe GR hr bR .nil (passX rfl flies)))) pss_nil)
      (pss_cons (ps_set (i := 2) sc_take_name.nd rfl (Or.inl rfl) (pe_fld (pe_meth0 (pv 0) M.R.cl M.mAc GA hr bA .nil (passX rfl flies)) rfl))
      (pss_cons (ps_set (i := 3) sc_take_name.nd rfl (Or.inl rfl) (pe_op op_add_str (pe_op op_add_str (pv 2) pe_str) (pe_glob (v := .str "sinister") rfl hS ⟨tS, rfl⟩)))
      (pss_cons (ps_if (PW.pt (pw_and (pt_cmpR op_in_seq (pv 3) (pv 1) (by with_unfolding_all rfl)) (pw_and1 (pt_val (pe_meth (pv 0) M.R.cl M.mSe GS hr bS .nil (passX rfl flies) (pa_cons (pe_glob (v := .str "sinister") rfl hS ⟨tS, rfl⟩) pa_nil))))))
        (pss_cons (ps_expr (pe_meth0 (pv 0) M.R.cl M.mAc GA hr bA .nil (passX rfl flies))) (pss_one (ps_ret (PE.or (pe_bm PySem.F.plainAttrs_list PySem.F.slot_list_index PySem.F.type_list_index mt_index (pv 1) (pa_cons (pv 3) pa_nil)) (pe_bm PySem.F.plainAttrs_tuple PySem.F.slot_tuple_index PySem.F.type_tuple_index mt_indexT (pv 1) (pa_cons (pv 3) pa_nil)))))) pss_nil)
      (pss_one (ps_ret (PE.or (pe_bm PySem.F.plainAttrs_list PySem.F.slot_list_index PySem.F.type_list_index mt_index (pv 1) (pa_cons (pv 2) pa_nil)) (pe_bm PySem.F.plainAttrs_tuple PySem.F.slot_tuple_index PySem.F.type_tuple_index mt_indexT (pv 1) (pa_cons (pv 2) pa_nil)))))))), ?_⟩
    refine ⟨_, rfl, r, dr, _, rfl, hR, tf_no _ _ _ (by decide +kernel) (by decide +kernel) (by decide +kernel), _, rfl, r, a, ns, e, v, os, rfl, R, hN, fun y => ?_, fun g H1 R1 o1 => ?_⟩
    · unfold nameAt at k
      rw [bad_look y] at k
      exact k
    · obtain ⟨dr1, v1, hR1, _⟩ := R1.obj
      refine ⟨_, rfl, ?_⟩
      have hc : corL (os.map fun o => o.map tl) l = true := by
        have := hT
        unfold tbOk at this
        rw [Bool.and_eq_true] at this
        exact this.1
      have hlk := look_txt g hc
      rw [idx_map] at hlk
      rw [has_idx]
      unfold nameAt at k
      rw [hlk] at k
      cases q : idxT os (txt (byt ns) e) with
      | none =>
        rw [q] at k
        refine iteP rfl ?_
        exact ⟨_, rfl, r, dr1, _, rfl, hR1, tf_no _ _ _ (by decide +kernel) (by decide +kernel) (by decide +kernel), r, a, ns, e, rfl, R1, k⟩
      | some j =>
        rw [q] at k hlk
        dsimp only at k
        refine iteN Bool.false_ne_true ?_
        have hk0 : (bt (byt ns) e).kind = 0 := by
          unfold ShBlazon.look at hlk
          rw [kind_ts] at hlk
          by_cases y : (bt (byt ns) e).kind = 0
          · exact y
          · rw [if_neg y] at hlk; cases hlk
        have hLt : ∀ c ∈ txt (byt ns) e, isL c = true := by
          rcases txt_kind g with ⟨_, _, _, k3, _⟩ | ⟨y, _⟩ | ⟨y, _⟩ | ⟨y, _⟩
          · exact k3
          · omega
          · omega
          · omega
        obtain ⟨b1, b2, b3⟩ := tb_at hT q hLt
        rw [drop_ts (by rw [hk0]; decide)] at k
        refine ⟨_, rfl, r, dr1, _, rfl, hR1, tf_no _ _ _ (by decide +kernel) (by decide +kernel) (by decide +kernel), r, a, ns, e, rfl, R1, g, fun z H2 R2 t2 o2 => ?_⟩
        obtain ⟨dz, st, hz, hl⟩ := t2
        obtain ⟨dr2, v2, hR2, _⟩ := R2.obj
        have o12 := o1.trans o2
        have hlen : st.length ≤ 100 := by rw [len_tl, hl]; exact b1
        refine ⟨z, CK, dz, _, _, rfl, hz, T.K.cl, T.K.no _ (by decide +kernel), kf_text _ _ _, _, rfl, st, _, rfl, rfl, ?_, st ++ " ", _, rfl, rfl, ?_, ?_⟩
        · show st.length + 1 ≤ sizeLine
          rw [sizeLine_eq]; omega
        · show (st ++ (" " : Str)).length + 8 ≤ sizeLine
          rw [len_tl, tl_append, List.length_append, ← len_tl]
          show st.length + 1 + 8 ≤ sizeLine
          rw [sizeLine_eq]; omega
        · have tlong : tl (st ++ (" " : Str) ++ ("sinister" : Str)) = txt (byt ns) e ++ sinL := by
            rw [tl_append, tl_append, hl, List.append_assoc]; rfl
          have hNm := hN H2 o12
          obtain ⟨p, ev, hp⟩ := id hNm
          refine ⟨_, rfl, _, rfl, p, _, ev, hp.imp id And.left, rfl, vo_flat os, _, rfl, ?_⟩
          have ein : inV (V.str (st ++ (" " : Str) ++ ("sinister" : Str))) (os.map vo) = decide (j = sin) := by rw [inV_has, tlong, b2]
          show if inV (V.str (st ++ (" " : Str) ++ ("sinister" : Str))) (os.map vo) = true then _ else _
          rw [ein]
          by_cases hj : j = sin
          · refine iteP (decide_eq_true hj) ?_
            subst hj
            have ksn : ∀ y, ShBlazon.isWord (ts (byt ns) (bn (byt ns) e)) "sinister" = y → ShBlazon.sinister j j (ts (byt ns) (bn (byt ns) e)) = if y = true then (j + 1, (ts (byt ns) (bn (byt ns) e)).drop 1) else (j, ts (byt ns) (bn (byt ns) e)) := fun y hy => by
              unfold ShBlazon.sinister
              rw [hy]
              cases y with
              | true => rw [if_pos ⟨rfl, rfl⟩, if_pos rfl]
              | false => rw [if_neg (fun q => Bool.false_ne_true q.2), if_neg Bool.false_ne_true]
            refine ⟨_, rfl, r, dr2, _, rfl, hR2, tf_no _ _ _ (by decide +kernel) (by decide +kernel) (by decide +kernel), r, a, ns, bn (byt ns) e, "sinister", rfl, R2, fun y => ?_, fun g2 H3 R3 o3 => ?_⟩
            · have e1 := bad_sin y j j
              have k1 := k.1 rfl
              rw [e1] at k1
              exact k1 y
            · obtain ⟨dr3, v3, hR3, _⟩ := R3.obj
              have o13 := o12.trans o3
              have hw := sin_txt g2
              refine ⟨_, rfl, ?_⟩
              by_cases hsn : txt (byt ns) (bn (byt ns) e) = tl "sinister"
              · refine iteP (decide_eq_true hsn) ?_
                rw [decide_eq_true hsn] at hw
                have e1 := ksn true hw
                rw [if_pos rfl] at e1
                have hk3 : (bt (byt ns) (bn (byt ns) e)).kind = 0 := by
                  unfold ShBlazon.isWord at hw
                  rw [Bool.and_eq_true, kind_ts] at hw
                  exact eq_of_beq hw.1
                rw [drop_ts (by rw [hk3]; decide)] at e1
                rw [e1] at k
                refine ⟨_, rfl, r, dr3, _, rfl, hR3, tf_no _ _ _ (by decide +kernel) (by decide +kernel) (by decide +kernel), r, a, ns, bn (byt ns) e, rfl, R3, g2, fun z4 H4 R4 t4 o4 => ?_⟩
                exact idx_ret rfl rfl (hN H4 (o13.trans o4)) (by rw [tlong]; exact b3 rfl) (k.2 _ H4 rfl R4 (o13.trans o4))
              · refine iteN (by rw [decide_eq_false hsn]; exact Bool.false_ne_true) ?_
                rw [decide_eq_false hsn] at hw
                have e1 := ksn false hw
                rw [if_neg Bool.false_ne_true] at e1
                rw [e1] at k
                exact idx_ret rfl rfl (hN H3 o13) (by rw [hl]; exact q) (k.2 _ H3 rfl R3 o13)
          · refine iteN (by rw [decide_eq_false hj]; exact Bool.false_ne_true) ?_
            refine iteN Bool.false_ne_true ?_
            have e1 : ShBlazon.sinister sin j (ts (byt ns) (bn (byt ns) e)) = (j, ts (byt ns) (bn (byt ns) e)) := by
              unfold ShBlazon.sinister
              rw [if_neg (fun y => hj y.1)]
            rw [e1] at k
            exact idx_ret rfl rfl hNm (by rw [hl]; exact q) (k.2 _ H2 rfl R2 o12)
end
structure PG (P : Program) (w : World) (K : PySem.W.Frag) (mg : Str → Option Value) (base : Heap) (x : Str) (k : Nat) (f : Addr) (ps : List Str) (sp : Sp) : Prop where
  ok : ∃ fd, FnOk P w K mg base (CXx P w) k f fd ps sp ∧ Binds K fd ps []
  kp : PySem.W.keepIn K (.ref f) = true
  gl : mg x = some (.ref f)
theorem pe_pg {X : Cx} {x : Str} {k : Nat} {f : Addr} {ps : List Str} {sp : Sp} {E : XK} {e : Expr} {es : List Expr} {t : TA} {p pos : Pos} (F : PG X.prog X.w X.K X.mg X.base x k f ps sp) (hr : Room k X.A) (hg : Gl X x) (hx : Passes (CXx X.prog X.w) X E) (ha : PA X (e :: es) t) (hdb : (x == ("__debug__" : Str)) = false := by decide)
    (he : starEach (e :: es) X.env = (false, eval e X.env) :: starEach es X.env := by rfl) (hpl : (backTo pos (starEach es X.env)).any (·.1) = false := by rfl) : PE X (.Call (.Name x p) (e :: es) [] pos) (tCall sp [] E t) := by
  obtain ⟨fd, G, b⟩ := F.ok
  exact pe_call G hr hg F.gl F.kp b .nil hx ha hdb he hpl
noncomputable def oT : List (Option Str) := [some "or", some "argent", some "gules", some "azure", some "sable", some "vert", some "purpure", some "ermine", some "vair"]
noncomputable def oL : List (Option Str) := [none, some "wavy", some "embattled", some "indented", some "engrailed", some "invected"]
noncomputable def oP : List (Option Str) := [some "pale", some "fess", some "bend", some "bend sinister", some "chevron", some "saltire"]
noncomputable def oW : List (Option Str) := [some "quarterly", some "gyronny"]
noncomputable def oV : List (Option Str) := [some "barry", some "paly", some "bendy", some "bendy sinister", some "chevronny", some "chequy", some "lozengy"]
noncomputable def oO : List (Option Str) := [some "chief", some "base", some "pale", some "fess", some "bend", some "bend sinister", some "chevron", some "cross", some "saltire", some "pile", some "bordure", some "canton", some "quarter"]
noncomputable def oC : List (Option Str) := [some "roundel", some "annulet", some "lozenge", some "mascle", some "fusil", some "billet", some "mullet", some "crescent", some "increscent", some "crosslet", some "saltorel", some "escutcheon", some "tower", some "sword", some "wheel", some "arrow"]
noncomputable def oN : List (Option Str) := [none, none, some "two", some "three", some "four", some "five", some "six", some "seven", some "eight", some "nine", some "ten"]
noncomputable def oZ : List (Option Str) := [none, some "small", some "lesser", none, some "great"]
noncomputable def oM : List (Option Str) := [none, some "fess", some "pale", some "bend", some "bend sinister", some "chief", some "base"]
noncomputable def wW : List Bytes := [ShBlazon.ascii "quarterly", ShBlazon.ascii "gyronny"]
noncomputable def wN : List Bytes := [] :: [] :: ShBlazon.COUNTS
theorem kT : tbOk oT ShBlazon.TINCTWORDS 99 = true := by decide +kernel
theorem kL : tbOk oL ShBlazon.LINEWORDS 99 = true := by decide +kernel
theorem kP : tbOk oP ShBlazon.WAYWORDS 2 = true := by decide +kernel
theorem kW : tbOk oW wW 99 = true := by decide +kernel
theorem kV : tbOk oV ShBlazon.VARYWORDS 2 = true := by decide +kernel
theorem kO : tbOk oO ShBlazon.ORDWORDS 4 = true := by decide +kernel
theorem kC : tbOk oC ShBlazon.CHARGEWORDS 99 = true := by decide +kernel
theorem kCs : tbOk (oC.map fun o => o.map (· ++ ("s" : Str))) ShBlazon.SEVERAL 99 = true := by decide +kernel
theorem kN : tbOk oN wN 99 = true := by decide +kernel
theorem kZ : tbOk oZ ShBlazon.SIZES 99 = true := by decide +kernel
theorem kM : tbOk oM ShBlazon.MANNERWORDS 3 = true := by decide +kernel
noncomputable def Tb (K : PySem.W.Frag) (mg : Str → Option Value) (nm : Str) (os : List (Option Str)) (a : Addr) : Prop := mg nm = some (.ref a) ∧ (∀ H, SqT K H a (os.map vo)) ∧ ∃ o, K.lookup a = some o ∧ o.cls = .type "tuple" ∧ o.dict = none
theorem Tb.nm {K : PySem.W.Frag} {mg : Str → Option Value} {nm : Str} {os : List (Option Str)} {a : Addr} (t : Tb K mg nm os a) (H : Hp) : Nm K H (.ref a) os := ⟨a, rfl, .inr ⟨t.2.1 H, t.2.2⟩⟩
theorem look_lt {l : List Bytes} {s : BSt} {k : Nat} (h : ShBlazon.look l s = some k) : k < l.length := by
  unfold ShBlazon.look at h
  split at h
  · rw [List.findIdx?_eq_some_iff_getElem] at h
    exact h.1
  · cases h
noncomputable def Rk {α : Type} (CE : Addr) (E : XK) (x : Except (Nat × Nat) (α × BSt)) (k : α → BSt → Prop) : Prop := match x with
  | .error f => Fl CE E f
  | .ok t => k t.1 t.2
noncomputable def optAt (l : List Bytes) (o : Nat) (s : BSt) : Nat × BSt := match ShBlazon.look l s with
  | some k => (k, s.drop 1)
  | none => (o, s)
noncomputable def Go (K : PySem.W.Frag) (CK CR : Addr) (H : Hp) (r a : Addr) (ns : List Int) (s : BSt) (q : Hp → Prop) : Prop := ∀ e' H', s = ts (byt ns) e' → TkAt K CK CR H' r a ns e' → Oth r H H' → q H'
noncomputable def spL (K : PySem.W.Frag) (CE CK CR : Addr) (g : BSt → Except (Nat × Nat) (Nat × BSt)) : Sp := fun vs H Q E => ∃ (r a : Addr) (ns : List Int) (e : Nat), vs = [.ref r] ∧ TkAt K CK CR H r a ns e ∧
  Rk CE E (g (ts (byt ns) e)) fun x s => (Bad s → Fl CE E (ShBlazon.wanted s)) ∧ Go K CK CR H r a ns s fun H' => Q (vn x) H'
noncomputable def spIf (K : PySem.W.Frag) (CE CK CR : Addr) : Sp := fun vs H Q E => ∃ (r a : Addr) (ns : List Int) (e : Nat) (v : V) (os : List (Option Str)) (l : List Bytes) (o : Nat), vs = [.ref r, v, vn o] ∧ TkAt K CK CR H r a ns e ∧ (∀ H', Oth r H H' → Nm K H' v os) ∧ tbOk os l 99 = true ∧ l.length ≤ 99 ∧
  (Bad (ts (byt ns) e) → Fl CE E (ShBlazon.wanted (ts (byt ns) e))) ∧ Go K CK CR H r a ns (optAt l o (ts (byt ns) e)).2 fun H' => Q (vn (optAt l o (ts (byt ns) e)).1) H'
section
variable {P : Program} {w : World} {K : PySem.W.Frag} {mg : Str → Option Value} {base : Heap} {CE NE fE CK fK CR fR fPk fSe fSO fAc fRe fAT fAN : Addr}
theorem sc_take_name_if_there : FnScope ["reader", "names", "otherwise"] ["reader", "names", "otherwise"] (defScope s_take_name_if_there) := ⟨rfl, rfl, rfl, by decide +kernel, rfl, by decide +kernel, by decide +kernel⟩
theorem ok_take_name_if_there {f fN : Addr} {fdO fd : FuncData} (F : Fun K "take_name_if_there" "take_name_if_there" s_take_name_if_there f fd) (M : TM7 K mg CR fR fPk fSe fSO fAc fRe fAT fAN)
    (GO : FnOk P w K mg base (CXx P w) 5 fSO fdO ["self", "texts"] (spSO K CE CK CR)) (bO : Binds K fdO ["self", "texts"] []) (pN : PG P w K mg base "take_name" 6 fN ["reader", "names"] (spTN K CE CK CR)) : FnOk P w K mg base (CXx P w) 7 f fd ["reader", "names", "otherwise"] (spIf K CE CK CR) := by
  refine F.okX sc_take_name_if_there (fun vs H Q E h => ?_) (fun cdv A outer s H vs Q E hr h => ?_)
  · obtain ⟨r, a, ns, e, v, os, l, o, rfl, _⟩ := h
    rfl
  · obtain ⟨r, a, ns, e, v, os, l, o, rfl, R, hN, hT, hl, k1, k2⟩ := h
    obtain ⟨dr, v', hR, hv⟩ := R.obj
    have hr5 : Room 5 _ := hr.mono (by decide)
    refine ⟨_, pss_cons (ps_if (pt_val (pe_meth (pv 0) M.R.cl M.mSO GO hr5 bO .nil (passX rfl flies) (pa_cons (pv 1) pa_nil))) (pss_one (ps_ret (pe_pg pN hr rfl (passX rfl flies) (pa_cons (pv 0) (pa_cons (pv 1) pa_nil))))) pss_nil) (pss_one (ps_ret (pv 2))), ?_⟩
    refine ⟨_, rfl, r, dr, _, rfl, hR, tf_no _ _ _ (by decide +kernel) (by decide +kernel) (by decide +kernel), _, rfl, r, a, ns, e, v, os, rfl, R, hN, k1, fun g H1 R1 o1 => ?_⟩
    have hc : corL (os.map fun o => o.map tl) l = true := by
      have := hT
      unfold tbOk at this
      rw [Bool.and_eq_true] at this
      exact this.1
    have hlk := look_txt g hc
    rw [idx_map] at hlk
    refine ⟨_, rfl, ?_⟩
    rw [has_idx, ← hlk]
    unfold optAt at k2
    cases q : ShBlazon.look l (ts (byt ns) e) with
    | none =>
      rw [q] at k2
      exact iteN Bool.false_ne_true ⟨_, rfl, k2 _ H1 rfl R1 o1⟩
    | some j =>
      rw [q] at k2
      have hj := look_lt q
      refine iteP rfl ⟨_, rfl, _, rfl, r, a, ns, e, v, os, l, 99, rfl, R1, fun H' o' => hN H' (o1.trans o'), hT, ?_⟩
      unfold nameAt
      rw [q]
      have e1 : ShBlazon.sinister 99 j ((ts (byt ns) e).drop 1) = (j, (ts (byt ns) e).drop 1) := by
        unfold ShBlazon.sinister
        rw [if_neg (fun y => by omega)]
      dsimp only
      rw [e1]
      exact ⟨fun y => by injection y with y; omega, fun e' H' h1 h2 h3 => k2 e' H' h1 h2 (o1.trans h3)⟩
theorem sc_take_line : FnScope ["reader"] ["reader"] (defScope s_take_line) := ⟨rfl, rfl, rfl, by decide +kernel, rfl, by decide +kernel, by decide +kernel⟩
theorem ok_take_line {f fI aL : Addr} {fd : FuncData} (F : Fun K "take_line" "take_line" s_take_line f fd) (tL : Tb K mg "LINES" oL aL) (pI : PG P w K mg base "take_name_if_there" 7 fI ["reader", "names", "otherwise"] (spIf K CE CK CR)) : FnOk P w K mg base (CXx P w) 8 f fd ["reader"] (spL K CE CK CR fun s => .ok (ShBlazon.lineAt s)) := by
  refine F.okX sc_take_line (fun vs H Q E h => ?_) (fun cdv A outer s H vs Q E hr h => ?_)
  · obtain ⟨r, a, ns, e, rfl, _⟩ := h
    rfl
  · obtain ⟨r, a, ns, e, rfl, R, k⟩ := h
    refine ⟨_, pss_one (ps_ret (pe_pg pI hr rfl (passX rfl flies) (pa_cons (pv 0) (pa_cons (pe_glob (v := .ref aL) rfl tL.1 rfl) (pa_cons pe_int pa_nil))))), ?_⟩
    have k : (Bad (ShBlazon.lineAt (ts (byt ns) e)).2 → _) ∧ _ := k
    refine ⟨_, rfl, r, a, ns, e, _, oL, ShBlazon.LINEWORDS, 0, rfl, R, fun H' _ => tL.nm H', kL, by decide, fun y => ?_, k.2⟩
    have := k.1
    rw [bad_line y] at this
    exact this y
end
theorem name_eat {l : List Bytes} (hl : l.length ≤ 99) (s : BSt) : nameAt l 99 s = ShBlazon.eat l s := by
  unfold nameAt ShBlazon.eat
  cases q : ShBlazon.look l s with
  | none => rfl
  | some k =>
    have := look_lt q
    dsimp only
    unfold ShBlazon.sinister
    rw [if_neg (fun y => by omega)]
theorem ew_good {b : Bytes} {e : Nat} {w : String} {c : Nat} {r : List Nat} (g : Ma.Good b e) (h : nB (ShBlazon.ascii w) = c :: r) (hc : isL c = true) : ShBlazon.eatWord w (ts b e) = if txt b e = c :: r then .ok (ts b (bn b e)) else .error (ShBlazon.wanted (ts b e)) := by
  have hw := word_txt g h hc
  unfold ShBlazon.eatWord
  rw [hw]
  by_cases q : txt b e = c :: r
  · rw [decide_eq_true q] at hw
    have hk : (bt b e).kind = 0 := by
      unfold ShBlazon.isWord at hw
      rw [Bool.and_eq_true, kind_ts] at hw
      exact eq_of_beq hw.1
    rw [decide_eq_true q, if_pos rfl, if_pos q, drop_ts (by rw [hk]; decide)]
  · rw [decide_eq_false q, if_neg Bool.false_ne_true, if_neg q]
theorem at_word {K : PySem.W.Frag} {CE CK CR : Addr} {E : XK} {H : Hp} {r a : Addr} {ns : List Int} {e : Nat} {w : String} {st : Str} {c : Nat} {t : List Nat} {q : Addr → Hp → Prop} (h : nB (ShBlazon.ascii w) = c :: t) (hc : isL c = true) (hs : tl st = c :: t)
    (err : ShBlazon.eatWord w (ts (byt ns) e) = .error (ShBlazon.wanted (ts (byt ns) e)) → Fl CE E (ShBlazon.wanted (ts (byt ns) e)))
    (ok : ShBlazon.eatWord w (ts (byt ns) e) = .ok (ts (byt ns) (bn (byt ns) e)) → ∀ z H', TkAt K CK CR H' r a ns (bn (byt ns) e) → TokAt CK H' z (txt (byt ns) e) (bq (byt ns) e) (bn (byt ns) e) → Oth r H H' → q z H') :
    ((Bad (ts (byt ns) e) ∨ ¬ txt (byt ns) e = tl st) → Fl CE E (ShBlazon.wanted (ts (byt ns) e))) ∧
    (Ma.Good (byt ns) e → txt (byt ns) e = tl st → ∀ z H', TkAt K CK CR H' r a ns (bn (byt ns) e) → TokAt CK H' z (txt (byt ns) e) (bq (byt ns) e) (bn (byt ns) e) → Oth r H H' → q z H') := by
  constructor
  · intro y
    by_cases hb : Bad (ts (byt ns) e)
    · exact err (bad_eatWord hb w)
    · have g := good_of hb
      rcases y with y | y
      · exact absurd y hb
      · rw [hs] at y
        exact err (by rw [ew_good g h hc, if_neg y])
  · intro g y
    rw [hs] at y
    exact ok (by rw [ew_good g h hc, if_pos y])
noncomputable def spTwo (K : PySem.W.Frag) (CE CK CR : Addr) : Sp := fun vs H Q E => ∃ (r a : Addr) (ns : List Int) (e : Nat), vs = [.ref r] ∧ TkAt K CK CR H r a ns e ∧
  Rk CE E (ShBlazon.twoAt (ts (byt ns) e)) fun x s => ∀ p, H p = none → Go K CK CR H r a ns s fun H' => H' p = some (.tup [vn x.1, vn x.2]) → Q (.ref p) H'
section
variable {P : Program} {w : World} {K : PySem.W.Frag} {mg : Str → Option Value} {base : Heap} {CE NE fE CK fK CR fR fPk fSe fSO fAc fRe fAT fAN : Addr}
theorem sc_take_two : FnScope ["reader", "first", "place", "second"] ["reader"] (defScope s_take_two_tinctures) := ⟨rfl, rfl, rfl, by decide +kernel, rfl, by decide +kernel, by decide +kernel⟩
theorem ok_take_two {f fN aT : Addr} {fdE fdA fdP fd : FuncData} (F : Fun K "take_two_tinctures" "take_two_tinctures" s_take_two_tinctures f fd) (T : TX K mg CE NE fE CK fK) (M : TM7 K mg CR fR fPk fSe fSO fAc fRe fAT fAN) (tT : Tb K mg "TINCTURES" oT aT) (h5 : ∃ t, mg "SAME_TINCTURE" = some (.int 5 t))
    (GE : FnOk P w K mg base (CXx P w) 1 fE fdE ["self", "kind", "place"] (spXI CE)) (bE : Binds K fdE ["self", "kind", "place"] [])
    (GA : FnOk P w K mg base (CXx P w) 6 fAT fdA ["self", "text"] (spAT K CE CK CR)) (bA : Binds K fdA ["self", "text"] [])
    (GP : FnOk P w K mg base (CXx P w) 4 fPk fdP ["self"] (spPk K CE CK CR)) (bP : Binds K fdP ["self"] [])
    (pN : PG P w K mg base "take_name" 6 fN ["reader", "names"] (spTN K CE CK CR)) : FnOk P w K mg base (CXx P w) 7 f fd ["reader"] (spTwo K CE CK CR) := by
  refine F.okX sc_take_two (fun vs H Q E h => ?_) (fun cdv A outer s H vs Q E hr h => ?_)
  · obtain ⟨r, a, ns, e, rfl, _⟩ := h
    rfl
  · obtain ⟨r, a, ns, e, rfl, R, k⟩ := h
    obtain ⟨dr, v', hR, hv⟩ := R.obj
    obtain ⟨t5, h5⟩ := h5
    have hr4 : Room 4 _ := hr.mono (by decide)
    have hr2 : Room 2 _ := hr.mono (by decide)
    refine ⟨_, pss_cons (ps_set (i := 1) sc_take_two.nd rfl (Or.inl rfl) (pe_pg pN hr rfl (passX rfl flies) (pa_cons (pv 0) (pa_cons (pe_glob (v := .ref aT) rfl tT.1 rfl) pa_nil))))
      (pss_cons (ps_expr (pe_meth (pv 0) M.R.cl M.mAT GA hr bA .nil (passX rfl flies) (pa_cons pe_str pa_nil)))
      (pss_cons (ps_set (i := 2) sc_take_two.nd rfl (Or.inl rfl) (pe_fld (pe_meth0 (pv 0) M.R.cl M.mPk GP hr4 bP .nil (passX rfl flies)) rfl))
      (pss_cons (ps_set (i := 3) sc_take_two.nd rfl (Or.inl rfl) (pe_pg pN hr rfl (passX rfl flies) (pa_cons (pv 0) (pa_cons (pe_glob (v := .ref aT) rfl tT.1 rfl) pa_nil))))
      (pss_cons (ps_if (pt_cmpR op_eq (pv 3) (pv 1) (nomark _)) (pss_one (ps_raise T.xc GE hr2 rfl T.mgE bE rfl rfl flies (pa_cons (pe_glob (v := .int 5) rfl h5 ⟨t5, rfl⟩) (pa_cons (pv 2) pa_nil)))) pss_nil)
      (pss_one (ps_ret (pe_tup (pa_cons (pv 1) (pa_cons (pv 3) pa_nil))))))))), ?_⟩
    unfold ShBlazon.twoAt at k
    refine ⟨_, rfl, r, a, ns, e, _, oT, ShBlazon.TINCTWORDS, 99, rfl, R, fun H' _ => tT.nm H', kT, ?_⟩
    rw [name_eat (l := ShBlazon.TINCTWORDS) (by decide)]
    cases q1 : ShBlazon.eat ShBlazon.TINCTWORDS (ts (byt ns) e) with
    | error f => rw [q1] at k; exact k
    | ok x1 =>
      rw [q1] at k
      dsimp only at k
      refine ⟨fun y => absurd (look_lt y) (by decide), fun e1 H1 hs1 R1 o1 => ?_⟩
      rw [hs1] at k
      obtain ⟨dr1, v1, hR1, _⟩ := R1.obj
      refine ⟨_, rfl, r, dr1, _, rfl, hR1, tf_no _ _ _ (by decide +kernel) (by decide +kernel) (by decide +kernel), r, a, ns, e1, "and", rfl, R1, at_word (w := "and") (c := 97) (t := [110, 100]) (by decide +kernel) (by decide +kernel) (by decide +kernel) (fun y => by rw [y] at k; exact k) (fun y z H2 R2 _ o2 => ?_)⟩
      rw [y] at k
      dsimp only at k
      obtain ⟨dr2, v2, hR2, _⟩ := R2.obj
      refine ⟨_, rfl, r, dr2, _, rfl, hR2, tf_no _ _ _ (by decide +kernel) (by decide +kernel) (by decide +kernel), r, a, ns, _, rfl, R2, fun y => by rw [bad_eat y] at k; exact k, fun g3 z3 H3 R3 t3 o3 => ?_⟩
      obtain ⟨dz, s3, hz, hl⟩ := t3
      refine ⟨z3, CK, dz, _, _, rfl, hz, T.K.cl, T.K.no _ (by decide +kernel), kf_place _ _ _, ?_⟩
      refine ⟨_, rfl, r, a, ns, _, _, oT, ShBlazon.TINCTWORDS, 99, rfl, R3, fun H' _ => tT.nm H', kT, ?_⟩
      rw [name_eat (l := ShBlazon.TINCTWORDS) (by decide)]
      cases q3 : ShBlazon.eat ShBlazon.TINCTWORDS (ts (byt ns) (bn (byt ns) e1)) with
      | error f => rw [q3] at k; exact k
      | ok x3 =>
        rw [q3] at k
        dsimp only at k
        refine ⟨fun y => absurd (look_lt y) (by decide), fun e4 H4 hs4 R4 o4 => ?_⟩
        have o14 := ((o1.trans o2).trans o3).trans o4
        refine ⟨_, rfl, _, rfl, rfl, _, rfl, ?_⟩
        by_cases h13 : x1.1 = x3.1
        · rw [if_pos h13, place_ts, at_bt] at k
          refine iteP (decide_eq_true (by rw [h13])) ?_
          exact ⟨_, rfl, (by show 2 ≤ 1000; decide), raise_fl k H4⟩
        · rw [if_neg h13] at k
          refine iteN (by intro y; have y := of_decide_eq_true y; injection y with y; exact h13 (Int.ofNat.inj y).symm) ?_
          refine ⟨_, rfl, _, rfl, (by show 2 ≤ sizeLine; rw [sizeLine_eq]; omega), fun p hp => ?_⟩
          obtain ⟨dr4, v4, hR4, _⟩ := R4.obj
          exact k p (free_of o14 hR4 hp) e4 _ hs4 (R4.same (same_new hp)) (fun b o nb q => same_new hp _ _ (o14 b o nb q)) upd_same
end
theorem fold_val : ∀ (D : Bytes) (n : Nat), D.foldl (fun (n : Nat) (c : UInt8) => 10 * n + (c.toNat - 48)) n = (nB D).foldl (fun acc c => acc * 10 + (c - 48)) n
  | [], n => rfl
  | c :: D, n => by
    rw [List.foldl_cons, fold_val D]
    show _ = (nB D).foldl _ (n * 10 + (c.toNat - 48))
    rw [Nat.mul_comm 10 n]
theorem val_dig (D : Bytes) : ShBlazon.valueOf D = PySem.NumText.digitsVal (nB D) := fold_val D 0
theorem int_txt {b : Bytes} {e : Nat} {st : Str} (hk : (bt b e).kind = 1) (hs : tl st = txt b e) (hb : b.length ≤ 4096) : st.length ≤ 3 ∧ PySem.intText? st = some ((bt b e).num : Int) := by
  have g : Ma.Good b e := by unfold Ma.Good; rw [hk]; decide
  rcases txt_kind g with ⟨y, _⟩ | ⟨_, ⟨D, d1, d2, d3, _⟩, d4, _⟩ | ⟨y, _⟩ | ⟨y, _⟩
  · omega
  · have h3 : st.length ≤ 3 := by
      cases pkc b e with
      | no _ _ y => exact absurd y (not_bad g)
      | noNum _ _ _ _ _ _ _ y => exact absurd y (not_bad g)
      | num x r h1 h2 h3 h4 h5 =>
        rw [len_tl, hs, h2, List.length_cons]
        rcases Nat.lt_or_ge 2 r.length with y | y
        · exact absurd (.inr y) h4
        · omega
      | yes h1 h2 h3 =>
        rw [isNum_kind g, decide_eq_true hk] at h2; cases h2
    refine ⟨h3, ?_⟩
    have ht : st.cps.toList = nB D := hs.trans d1
    rw [PySem.intText_digits (x := st) ?_ ?_ (by omega), d3, val_dig, ht]
    · intro c hc
      have := d4 c (by rw [← hs]; exact hc)
      unfold isD at this
      rw [Bool.and_eq_true, decide_eq_true_eq, decide_eq_true_eq] at this
      exact this
    · rw [ht]; intro z; exact d2 (List.map_eq_nil_iff.mp z)
  · omega
  · omega
noncomputable def spI (K : PySem.W.Frag) (CE CK CR : Addr) (g : BSt → Except (Nat × Nat) (Nat × BSt)) : Sp := fun vs H Q E => ∃ (r a : Addr) (ns : List Int) (e : Nat), vs = [.ref r] ∧ TkAt K CK CR H r a ns e ∧
  Rk CE E (g (ts (byt ns) e)) fun x s => Go K CK CR H r a ns s fun H' => Q (vn x) H'
section
variable {P : Program} {w : World} {K : PySem.W.Frag} {mg : Str → Option Value} {base : Heap} {CE NE fE CK fK CR fR fPk fSe fSO fAc fRe fAT fAN : Addr}
theorem sc_take_pieces : FnScope ["reader", "token", "pieces"] ["reader"] (defScope s_take_pieces) := ⟨rfl, rfl, rfl, by decide +kernel, rfl, by decide +kernel, by decide +kernel⟩
theorem ok_take_pieces {f : Addr} {fdE fdA fdN fd : FuncData} (F : Fun K "take_pieces" "take_pieces" s_take_pieces f fd) (T : TX K mg CE NE fE CK fK) (M : TM7 K mg CR fR fPk fSe fSO fAc fRe fAT fAN)
    (h4 : ∃ t, mg "PIECES_OUT_OF_BOUNDS" = some (.int 4 t)) (h2 : ∃ t, mg "LEAST_PIECES" = some (.int 2 t)) (h24 : ∃ t, mg "MOST_PIECES" = some (.int 24 t))
    (GE : FnOk P w K mg base (CXx P w) 1 fE fdE ["self", "kind", "place"] (spXI CE)) (bE : Binds K fdE ["self", "kind", "place"] [])
    (GA : FnOk P w K mg base (CXx P w) 6 fAT fdA ["self", "text"] (spAT K CE CK CR)) (bA : Binds K fdA ["self", "text"] [])
    (GN : FnOk P w K mg base (CXx P w) 6 fAN fdN ["self"] (spAN K CE CK CR)) (bN : Binds K fdN ["self"] []) : FnOk P w K mg base (CXx P w) 7 f fd ["reader"] (spI K CE CK CR ShBlazon.piecesAt) := by
  refine F.okX sc_take_pieces (fun vs H Q E h => ?_) (fun cdv A outer s H vs Q E hr h => ?_)
  · obtain ⟨r, a, ns, e, rfl, _⟩ := h
    rfl
  · obtain ⟨r, a, ns, e, rfl, R, k⟩ := h
    obtain ⟨dr, v', hR, hv⟩ := R.obj
    obtain ⟨t4, h4⟩ := h4
    obtain ⟨t2, h2⟩ := h2
    obtain ⟨t24, h24⟩ := h24
    have hr2 : Room 2 _ := hr.mono (by decide)
    refine ⟨_, pss_cons (ps_expr (pe_meth (pv 0) M.R.cl M.mAT GA hr bA .nil (passX rfl flies) (pa_cons pe_str pa_nil)))
      (pss_cons (ps_set (i := 1) sc_take_pieces.nd rfl (Or.inl rfl) (pe_meth0 (pv 0) M.R.cl M.mAN GN hr bN .nil (passX rfl flies)))
      (pss_cons (ps_set (i := 2) sc_take_pieces.nd rfl (Or.inl rfl) (pe_callTy call_int_str rfl T.int (by decide +kernel) (pa_cons (pe_fld (pv 1) rfl) pa_nil)))
      (pss_cons (ps_if (PW.pt (pw_or (pt_cmpR op_lt (pv 2) (pe_glob (v := .int 2) rfl h2 ⟨t2, rfl⟩) (nomark _)) (pw_or1 (pt_cmpR op_gt (pv 2) (pe_glob (v := .int 24) rfl h24 ⟨t24, rfl⟩) (nomark _)))))
        (pss_one (ps_raise T.xc GE hr2 rfl T.mgE bE rfl rfl flies (pa_cons (pe_glob (v := .int 4) rfl h4 ⟨t4, rfl⟩) (pa_cons (pe_fld (pv 1) rfl) pa_nil)))) pss_nil)
      (pss_one (ps_ret (pv 2)))))), ?_⟩
    unfold ShBlazon.piecesAt at k
    refine ⟨_, rfl, r, dr, _, rfl, hR, tf_no _ _ _ (by decide +kernel) (by decide +kernel) (by decide +kernel), r, a, ns, e, "of", rfl, R, at_word (w := "of") (c := 111) (t := [102]) (by decide +kernel) (by decide +kernel) (by decide +kernel) (fun y => by rw [y] at k; exact k) (fun y z H1 R1 _ o1 => ?_)⟩
    rw [y] at k
    dsimp only at k
    rw [kind_ts, num_ts, place_ts, at_bt] at k
    obtain ⟨dr1, v1, hR1, _⟩ := R1.obj
    refine ⟨_, rfl, r, dr1, _, rfl, hR1, tf_no _ _ _ (by decide +kernel) (by decide +kernel) (by decide +kernel), r, a, ns, _, rfl, R1, fun y => ?_, fun hk z2 H2 R2 t2' o2 => ?_⟩
    · have y1 : ¬ (bt (byt ns) (bn (byt ns) e)).kind = 1 := by
        rcases y with y | y
        · unfold Bad at y; rw [kind_ts] at y; omega
        · exact y
      rw [if_neg y1] at k
      exact k
    · rw [if_pos hk] at k
      obtain ⟨dz, st, hz, hl⟩ := t2'
      obtain ⟨i1, i2⟩ := int_txt hk hl (by rw [byt_len]; exact R.sz)
      refine ⟨_, rfl, z2, CK, dz, _, _, rfl, hz, T.K.cl, T.K.no _ (by decide +kernel), kf_text _ _ _, st, _, rfl, i2, (by omega), ?_⟩
      have bad : ∀ D σ, Fl CE E (4, bq (byt ns) (bn (byt ns) e)) → (σ : L2.St)[1]? = some (some (V.ref z2)) → tRaise CE (spXI CE) E (tCons (tC (.int 4)) (tCons (tFld K (tVar 1) "place") tNil)) D σ H2 := fun D σ q h0 =>
        ⟨_, h0, z2, CK, dz, _, _, rfl, hz, T.K.cl, T.K.no _ (by decide +kernel), kf_place _ _ _, (by show 2 ≤ 1000; decide), raise_fl q H2⟩
      refine ⟨_, rfl, _, _, rfl, rfl, _, rfl, ?_⟩
      by_cases hlo : (bt (byt ns) (bn (byt ns) e)).num < 2
      · rw [if_pos (.inl hlo)] at k
        exact iteP (decide_eq_true (by omega)) (iteP rfl (bad _ _ k rfl))
      · refine iteN (by rw [decide_eq_false (by omega)]; exact Bool.false_ne_true) ?_
        refine ⟨_, rfl, _, _, rfl, rfl, _, rfl, ?_⟩
        by_cases hhi : 24 < (bt (byt ns) (bn (byt ns) e)).num
        · rw [if_pos (.inr hhi)] at k
          exact iteP (decide_eq_true (by omega)) (bad _ _ k rfl)
        · rw [if_neg (by omega)] at k
          refine iteN (by rw [decide_eq_false (by omega)]; exact Bool.false_ne_true) ?_
          refine ⟨_, rfl, ?_⟩
          exact k _ H2 (drop_ts (by rw [hk]; decide)) R2 (o1.trans o2)
end
structure TF7 (K : PySem.W.Frag) (mg : Str → Option Value) (CR CF fF : Addr) : Prop where
  F : RC K mg "Field" CF fF ["kind", "way", "pieces", "line", "first", "second"]
  ne : CF ≠ CR
  i : ∀ nm z, (nm, z) ∈ ([("PLAIN", 0), ("PARTED", 1), ("VARIED", 2), ("CHEQUY", 5), ("LOZENGY", 6)] : List (Str × Int)) → ∃ t, mg nm = some (.int z t)
noncomputable def spFd (K : PySem.W.Frag) (CE CK CR CF : Addr) (g : BSt → Except (Nat × Nat) (Field × BSt)) : Sp := fun vs H Q E => ∃ (r a : Addr) (ns : List Int) (e : Nat), vs = [.ref r] ∧ TkAt K CK CR H r a ns e ∧
  Rk CE E (g (ts (byt ns) e)) fun f s => ∀ z, H z = none → Go K CK CR H r a ns s fun H' => FieldAt CF H' z f → Q (.ref z) H'
noncomputable def plainG (s : BSt) : Except (Nat × Nat) (Field × BSt) := match ShBlazon.eat ShBlazon.TINCTWORDS s with
  | .error e => .error e
  | .ok x => .ok (.plain x.1, x.2)
noncomputable def wayG (s : BSt) : Except (Nat × Nat) (Nat × BSt) := if ShBlazon.isWord s "per" = true then nameAt ShBlazon.WAYWORDS 2 (s.drop 1) else match ShBlazon.eat wW s with
  | .error e => .error e
  | .ok x => .ok (6 + x.1, x.2)
noncomputable def partedG (s : BSt) : Except (Nat × Nat) (Field × BSt) := match wayG s with
  | .error e => .error e
  | .ok x => ShBlazon.partedAt x.1 x.2
noncomputable def variedG (s : BSt) : Except (Nat × Nat) (Field × BSt) := match nameAt ShBlazon.VARYWORDS 2 s with
  | .error e => .error e
  | .ok x => ShBlazon.variedAt x.1 x.2
section
variable {P : Program} {w : World} {K : PySem.W.Frag} {mg : Str → Option Value} {base : Heap} {CE NE fE CK fK CR fR fPk fSe fSO fAc fRe fAT fAN CF fF : Addr}
theorem sc_take_plain : FnScope ["reader", "tincture"] ["reader"] (defScope s_take_plain) := ⟨rfl, rfl, rfl, by decide +kernel, rfl, by decide +kernel, by decide +kernel⟩
theorem ok_take_plain {f fN aT : Addr} {fdF fd : FuncData} (F : Fun K "take_plain" "take_plain" s_take_plain f fd) (U : TF7 K mg CR CF fF) (tT : Tb K mg "TINCTURES" oT aT)
    (GF : FnOk P w K mg base (CXx P w) 1 fF fdF ["self", "kind", "way", "pieces", "line", "first", "second"] (spFI CF)) (bF : Binds K fdF ["self", "kind", "way", "pieces", "line", "first", "second"] [])
    (pN : PG P w K mg base "take_name" 6 fN ["reader", "names"] (spTN K CE CK CR)) : FnOk P w K mg base (CXx P w) 7 f fd ["reader"] (spFd K CE CK CR CF plainG) := by
  refine F.okX sc_take_plain (fun vs H Q E h => ?_) (fun cdv A outer s H vs Q E hr h => ?_)
  · obtain ⟨r, a, ns, e, rfl, _⟩ := h
    rfl
  · obtain ⟨r, a, ns, e, rfl, R, k⟩ := h
    obtain ⟨t0, h0⟩ := U.i "PLAIN" 0 (by decide +kernel)
    have hr2 : Room 2 _ := hr.mono (by decide)
    refine ⟨_, pss_cons (ps_set (i := 1) sc_take_plain.nd rfl (Or.inl rfl) (pe_pg pN hr rfl (passX rfl flies) (pa_cons (pv 0) (pa_cons (pe_glob (v := .ref aT) rfl tT.1 rfl) pa_nil))))
      (pss_one (ps_ret (pe_make U.F.mkc GF hr2 rfl U.F.at_ bF .nil passN (pa_cons (pe_glob (v := .int 0) rfl h0 ⟨t0, rfl⟩) (pa_cons pe_int (pa_cons pe_int (pa_cons pe_int (pa_cons (pv 1) (pa_cons (pv 1) pa_nil))))))))), ?_⟩
    unfold plainG at k
    refine ⟨_, rfl, r, a, ns, e, _, oT, ShBlazon.TINCTWORDS, 99, rfl, R, fun H' _ => tT.nm H', kT, ?_⟩
    rw [name_eat (l := ShBlazon.TINCTWORDS) (by decide)]
    cases q : ShBlazon.eat ShBlazon.TINCTWORDS (ts (byt ns) e) with
    | error f => rw [q] at k; exact k
    | ok x =>
      rw [q] at k
      refine ⟨fun y => absurd (look_lt y) (by decide), fun e1 H1 hs1 R1 o1 => ?_⟩
      obtain ⟨dr1, v1, hR1, _⟩ := R1.obj
      refine ⟨_, rfl, _, rfl, fun z dz nz nd ne => ⟨z, dz, _, _, _, _, _, _, rfl, upd_same, fun H2 hz o2 => ⟨rfl, ?_⟩⟩⟩
      have s2 : Same H1 H2 := Same.made nz nd fun b o e hb => o2 b o hb e
      exact k z (free_of o1 hR1 nz) e1 H2 hs1 (R1.same s2) (fun b o n e => s2 _ _ (o1 b o n e)) ⟨dz, hz⟩
theorem sc_take_parted_way : FnScope ["reader"] ["reader"] (defScope s_take_parted_way) := ⟨rfl, rfl, rfl, by decide +kernel, rfl, by decide +kernel, by decide +kernel⟩
theorem ok_take_parted_way {f fN aP aW : Addr} {fdS fdA fd : FuncData} (F : Fun K "take_parted_way" "take_parted_way" s_take_parted_way f fd) (T : TX K mg CE NE fE CK fK) (M : TM7 K mg CR fR fPk fSe fSO fAc fRe fAT fAN) (tP : Tb K mg "PER_WAYS" oP aP) (tW : Tb K mg "OTHER_WAYS" oW aW)
    (GS : FnOk P w K mg base (CXx P w) 5 fSe fdS ["self", "text"] (spSe K CE CK CR)) (bS : Binds K fdS ["self", "text"] [])
    (GA : FnOk P w K mg base (CXx P w) 5 fAc fdA ["self"] (spAc K CK CR)) (bA : Binds K fdA ["self"] [])
    (pN : PG P w K mg base "take_name" 6 fN ["reader", "names"] (spTN K CE CK CR)) : FnOk P w K mg base (CXx P w) 7 f fd ["reader"] (spL K CE CK CR wayG) := by
  refine F.okX sc_take_parted_way (fun vs H Q E h => ?_) (fun cdv A outer s H vs Q E hr h => ?_)
  · obtain ⟨r, a, ns, e, rfl, _⟩ := h
    rfl
  · obtain ⟨r, a, ns, e, rfl, R, k⟩ := h
    obtain ⟨dr, v', hR, hv⟩ := R.obj
    have hr5 : Room 5 _ := hr.mono (by decide)
    refine ⟨_, pss_cons (ps_if (pt_val (pe_meth (pv 0) M.R.cl M.mSe GS hr5 bS .nil (passX rfl flies) (pa_cons pe_str pa_nil)))
        (pss_cons (ps_expr (pe_meth0 (pv 0) M.R.cl M.mAc GA hr5 bA .nil (passX rfl flies))) (pss_one (ps_ret (pe_pg pN hr rfl (passX rfl flies) (pa_cons (pv 0) (pa_cons (pe_glob (v := .ref aP) rfl tP.1 rfl) pa_nil)))))) pss_nil)
      (pss_one (ps_ret (pe_op op_add (pe_callB call_len_seq (by rfl) T.len PySem.boot_len (pa_cons (pe_glob (v := .ref aP) rfl tP.1 rfl) pa_nil)) (pe_pg pN hr rfl (passX rfl flies) (pa_cons (pv 0) (pa_cons (pe_glob (v := .ref aW) rfl tW.1 rfl) pa_nil)))))), ?_⟩
    unfold wayG at k
    refine ⟨_, rfl, r, dr, _, rfl, hR, tf_no _ _ _ (by decide +kernel) (by decide +kernel) (by decide +kernel), r, a, ns, e, "per", rfl, R, fun y => ?_, fun g H1 R1 o1 => ?_⟩
    · rw [bad_word y, if_neg Bool.false_ne_true, bad_eat y] at k
      exact k
    · obtain ⟨dr1, v1, hR1, _⟩ := R1.obj
      have hw := word_txt (w := "per") (c := 112) (r := [101, 114]) g (by decide +kernel) (by decide +kernel)
      have et : tl "per" = [112, 101, 114] := by decide +kernel
      rw [hw] at k
      refine ⟨_, rfl, ?_⟩
      rw [et]
      by_cases q : txt (byt ns) e = [112, 101, 114]
      · rw [decide_eq_true q, if_pos rfl] at k
        rw [decide_eq_true q] at hw
        have hk : (bt (byt ns) e).kind = 0 := by
          unfold ShBlazon.isWord at hw
          rw [Bool.and_eq_true, kind_ts] at hw
          exact eq_of_beq hw.1
        rw [drop_ts (by rw [hk]; decide)] at k
        refine iteP (decide_eq_true q) ?_
        refine ⟨_, rfl, r, dr1, _, rfl, hR1, tf_no _ _ _ (by decide +kernel) (by decide +kernel) (by decide +kernel), r, a, ns, e, rfl, R1, g, fun z H2 R2 t2 o2 => ?_⟩
        refine ⟨_, rfl, r, a, ns, _, _, oP, ShBlazon.WAYWORDS, 2, rfl, R2, fun H' _ => tP.nm H', kP, ?_⟩
        cases q2 : nameAt ShBlazon.WAYWORDS 2 (ts (byt ns) (bn (byt ns) e)) with
        | error f => rw [q2] at k; exact k
        | ok x =>
          rw [q2] at k
          exact ⟨fun _ => k.1, fun e' H' h1 h2 h3 => k.2 e' H' h1 h2 ((o1.trans o2).trans h3)⟩
      · rw [decide_eq_false q, if_neg Bool.false_ne_true] at k
        refine iteN (by rw [decide_eq_false q]; exact Bool.false_ne_true) ?_
        refine ⟨aP, _, rfl, .inr (tP.2.1 _), _, rfl, r, a, ns, e, _, oW, wW, 99, rfl, R1, fun H' _ => tW.nm H', kW, ?_⟩
        rw [name_eat (l := wW) (by decide)]
        cases q2 : ShBlazon.eat wW (ts (byt ns) e) with
        | error f => rw [q2] at k; exact k
        | ok x =>
          rw [q2] at k
          refine ⟨fun y => absurd (look_lt y) (by decide), fun e' H' h1 h2 h3 => ⟨_, _, rfl, rfl, ?_⟩⟩
          exact k.2 e' H' h1 h2 (o1.trans h3)
end
section
variable {P : Program} {w : World} {K : PySem.W.Frag} {mg : Str → Option Value} {base : Heap} {CE NE fE CK fK CR fR fPk fSe fSO fAc fRe fAT fAN CF fF : Addr}
theorem sc_take_parted : FnScope ["reader", "way", "line", "pair"] ["reader"] (defScope s_take_parted) := ⟨rfl, rfl, rfl, by decide +kernel, rfl, by decide +kernel, by decide +kernel⟩
theorem ok_take_parted {f fW fL fT : Addr} {fdF fd : FuncData} (F : Fun K "take_parted" "take_parted" s_take_parted f fd) (U : TF7 K mg CR CF fF)
    (GF : FnOk P w K mg base (CXx P w) 1 fF fdF ["self", "kind", "way", "pieces", "line", "first", "second"] (spFI CF)) (bF : Binds K fdF ["self", "kind", "way", "pieces", "line", "first", "second"] [])
    (pW : PG P w K mg base "take_parted_way" 7 fW ["reader"] (spL K CE CK CR wayG)) (pL : PG P w K mg base "take_line" 8 fL ["reader"] (spL K CE CK CR fun s => .ok (ShBlazon.lineAt s))) (pT : PG P w K mg base "take_two_tinctures" 7 fT ["reader"] (spTwo K CE CK CR)) :
    FnOk P w K mg base (CXx P w) 9 f fd ["reader"] (spFd K CE CK CR CF partedG) := by
  refine F.okX sc_take_parted (fun vs H Q E h => ?_) (fun cdv A outer s H vs Q E hr h => ?_)
  · obtain ⟨r, a, ns, e, rfl, _⟩ := h
    rfl
  · obtain ⟨r, a, ns, e, rfl, R, k⟩ := h
    obtain ⟨t1, h1⟩ := U.i "PARTED" 1 (by decide +kernel)
    have hr7 : Room 7 _ := hr.mono (by decide)
    have hr2 : Room 2 _ := hr.mono (by decide)
    refine ⟨_, pss_cons (ps_set (i := 1) sc_take_parted.nd rfl (Or.inl rfl) (pe_pg pW hr7 rfl (passX rfl flies) (pa_cons (pv 0) pa_nil)))
      (pss_cons (ps_set (i := 2) sc_take_parted.nd rfl (Or.inl rfl) (pe_pg pL hr rfl (passX rfl flies) (pa_cons (pv 0) pa_nil)))
      (pss_cons (ps_set (i := 3) sc_take_parted.nd rfl (Or.inl rfl) (pe_pg pT hr7 rfl (passX rfl flies) (pa_cons (pv 0) pa_nil)))
      (pss_one (ps_ret (pe_make U.F.mkc GF hr2 rfl U.F.at_ bF .nil passN (pa_cons (pe_glob (v := .int 1) rfl h1 ⟨t1, rfl⟩) (pa_cons (pv 1) (pa_cons pe_int (pa_cons (pv 2) (pa_cons (pe_ix ix_tup (pv 3) pe_int (fun _ _ => rfl)) (pa_cons (pe_ix ix_tup (pv 3) pe_int (fun _ _ => rfl)) pa_nil))))))))))), ?_⟩
    unfold partedG at k
    refine ⟨_, rfl, r, a, ns, e, rfl, R, ?_⟩
    cases q1 : wayG (ts (byt ns) e) with
    | error f => rw [q1] at k; exact k
    | ok x1 =>
      rw [q1] at k
      dsimp only at k
      refine ⟨fun y => by rw [bad_parted y] at k; exact k, fun e1 H1 hs1 R1 o1 => ?_⟩
      have hs1 : x1.2 = ts (byt ns) e1 := hs1
      rw [hs1] at k
      unfold ShBlazon.partedAt at k
      refine ⟨_, rfl, r, a, ns, e1, rfl, R1, ?_⟩
      refine ⟨fun y => by rw [bad_two y] at k; exact k, fun e2 H2 hs2 R2 o2 => ?_⟩
      have hs2 : (ShBlazon.lineAt (ts (byt ns) e1)).2 = ts (byt ns) e2 := hs2
      rw [hs2] at k
      refine ⟨_, rfl, r, a, ns, e2, rfl, R2, ?_⟩
      cases q3 : ShBlazon.twoAt (ts (byt ns) e2) with
      | error f => rw [q3] at k; exact k
      | ok x3 =>
        rw [q3] at k
        dsimp only at k
        intro p hp e3 H3 hs3 R3 o3 hT
        obtain ⟨dr3, v3, hR3, _⟩ := R3.obj
        have o13 := (o1.trans o2).trans o3
        refine ⟨_, rfl, _, rfl, _, rfl, p, _, _, _, rfl, rfl, SqT.of hT, atI_nat (j := 0) rfl, _, rfl, p, _, _, _, rfl, rfl, SqT.of hT, atI_nat (j := 1) rfl, fun z dz nz nd ne => ⟨z, dz, _, _, _, _, _, _, rfl, upd_same, fun H4 hz o4 => ⟨rfl, ?_⟩⟩⟩
        have s4 : Same H3 H4 := Same.made nz nd fun b o e hb => o4 b o hb e
        exact k z (free_of o13 hR3 nz) e3 H4 hs3 (R3.same s4) (fun b o n e => s4 _ _ (o13 b o n e)) ⟨dz, hz⟩
theorem vary_le {s : BSt} {x : Nat × BSt} (h : nameAt ShBlazon.VARYWORDS 2 s = .ok x) : x.1 ≤ 6 := by
  unfold nameAt at h
  cases q : ShBlazon.look ShBlazon.VARYWORDS s with
  | none => rw [q] at h; cases h
  | some j =>
    rw [q] at h
    have hj : j < 7 := look_lt q
    have h : ShBlazon.sinister 2 j (s.drop 1) = x := Except.ok.inj h
    rw [← h]
    unfold ShBlazon.sinister
    split
    · rename_i hh; show j + 1 ≤ 6; omega
    · show j ≤ 6; omega
theorem sc_take_varied : FnScope ["reader", "way", "pieces", "line", "pair"] ["reader"] (defScope s_take_varied) := ⟨rfl, rfl, rfl, by decide +kernel, rfl, by decide +kernel, by decide +kernel⟩
theorem ok_take_varied {f fN fP fL fT aV : Addr} {fdF fd : FuncData} (F : Fun K "take_varied" "take_varied" s_take_varied f fd) (U : TF7 K mg CR CF fF) (tV : Tb K mg "VARIED_WAYS" oV aV)
    (GF : FnOk P w K mg base (CXx P w) 1 fF fdF ["self", "kind", "way", "pieces", "line", "first", "second"] (spFI CF)) (bF : Binds K fdF ["self", "kind", "way", "pieces", "line", "first", "second"] [])
    (pN : PG P w K mg base "take_name" 6 fN ["reader", "names"] (spTN K CE CK CR)) (pP : PG P w K mg base "take_pieces" 7 fP ["reader"] (spI K CE CK CR ShBlazon.piecesAt))
    (pL : PG P w K mg base "take_line" 8 fL ["reader"] (spL K CE CK CR fun s => .ok (ShBlazon.lineAt s))) (pT : PG P w K mg base "take_two_tinctures" 7 fT ["reader"] (spTwo K CE CK CR)) :
    FnOk P w K mg base (CXx P w) 9 f fd ["reader"] (spFd K CE CK CR CF variedG) := by
  refine F.okX sc_take_varied (fun vs H Q E h => ?_) (fun cdv A outer s H vs Q E hr h => ?_)
  · obtain ⟨r, a, ns, e, rfl, _⟩ := h
    rfl
  · obtain ⟨r, a, ns, e, rfl, R, k⟩ := h
    obtain ⟨t2, h2⟩ := U.i "VARIED" 2 (by decide +kernel)
    obtain ⟨t5, h5⟩ := U.i "CHEQUY" 5 (by decide +kernel)
    obtain ⟨t6, h6⟩ := U.i "LOZENGY" 6 (by decide +kernel)
    have hr6 : Room 6 _ := hr.mono (by decide)
    have hr7 : Room 7 _ := hr.mono (by decide)
    have hr2 : Room 2 _ := hr.mono (by decide)
    refine ⟨_, pss_cons (ps_set (i := 1) sc_take_varied.nd rfl (Or.inl rfl) (pe_pg pN hr6 rfl (passX rfl flies) (pa_cons (pv 0) (pa_cons (pe_glob (v := .ref aV) rfl tV.1 rfl) pa_nil))))
      (pss_cons (ps_set (i := 2) sc_take_varied.nd rfl (Or.inl rfl) (pe_pg pP hr7 rfl (passX rfl flies) (pa_cons (pv 0) pa_nil)))
      (pss_cons (ps_set (i := 3) sc_take_varied.nd rfl (Or.inl rfl) pe_int)
      (pss_cons (ps_if (PW.pt (pw_and (pt_cmpR op_ne (pv 1) (pe_glob (v := .int 5) rfl h5 ⟨t5, rfl⟩) (nomark _)) (pw_and1 (pt_cmpR op_ne (pv 1) (pe_glob (v := .int 6) rfl h6 ⟨t6, rfl⟩) (nomark _)))))
        (pss_one (ps_set (i := 3) sc_take_varied.nd rfl (Or.inl rfl) (pe_pg pL hr rfl (passX rfl flies) (pa_cons (pv 0) pa_nil)))) pss_nil)
      (pss_cons (ps_set (i := 4) sc_take_varied.nd rfl (Or.inl rfl) (pe_pg pT hr7 rfl (passX rfl flies) (pa_cons (pv 0) pa_nil)))
      (pss_one (ps_ret (pe_make U.F.mkc GF hr2 rfl U.F.at_ bF .nil passN (pa_cons (pe_glob (v := .int 2) rfl h2 ⟨t2, rfl⟩) (pa_cons (pv 1) (pa_cons (pv 2) (pa_cons (pv 3) (pa_cons (pe_ix ix_tup (pv 4) pe_int (fun _ _ => rfl)) (pa_cons (pe_ix ix_tup (pv 4) pe_int (fun _ _ => rfl)) pa_nil))))))))))))), ?_⟩
    unfold variedG at k
    refine ⟨_, rfl, r, a, ns, e, _, oV, ShBlazon.VARYWORDS, 2, rfl, R, fun H' _ => tV.nm H', kV, ?_⟩
    cases q1 : nameAt ShBlazon.VARYWORDS 2 (ts (byt ns) e) with
    | error f => rw [q1] at k; exact k
    | ok x1 =>
      have hv := vary_le q1
      rw [q1] at k
      dsimp only at k
      refine ⟨fun _ y => by rw [bad_varied y] at k; exact k, fun e1 H1 hs1 R1 o1 => ?_⟩
      rw [hs1] at k
      unfold ShBlazon.variedAt at k
      refine ⟨_, rfl, r, a, ns, e1, rfl, R1, ?_⟩
      cases q2 : ShBlazon.piecesAt (ts (byt ns) e1) with
      | error f => rw [q2] at k; exact k
      | ok x2 =>
        rw [q2] at k
        dsimp only at k
        intro e2 H2 hs2 R2 o2
        have hs2 : x2.2 = ts (byt ns) e2 := hs2
        rw [hs2] at k
        have fin : ∀ (ln e3 : Nat) (H3 : Hp), TkAt K CK CR H3 r a ns e3 → Oth r H H3 → Rk CE E (match ShBlazon.twoAt (ts (byt ns) e3) with | .error e => .error e | .ok x => .ok (Field.varied x1.1 x2.1 ln x.1.1 x.1.2, x.2)) (fun f s => ∀ z, H z = none → Go K CK CR H r a ns s fun H' => FieldAt CF H' z f → Q (.ref z) H') →
            tSeq (tAsg (tCall (spTwo K CE CK CR) [] E (tCons (tVar 0) tNil)) (gName 4)) (tRet (tMake CF (spFI CF) [] E0 (tCons (tC (V.int 2)) (tCons (tVar 1) (tCons (tVar 2) (tCons (tVar 3) (tCons (tOp (rIxT K) (tVar 4) (tC (V.int 0))) (tCons (tOp (rIxT K) (tVar 4) (tC (V.int 1))) tNil)))))))) { nx := fun x H' => Q V.non H', rt := Q } [some (V.ref r), some (vn x1.1), some (vn x2.1), some (vn ln), none] H3 := by
          intro ln e3 H3 R3 o3 k
          refine ⟨_, rfl, r, a, ns, e3, rfl, R3, ?_⟩
          cases q3 : ShBlazon.twoAt (ts (byt ns) e3) with
          | error f => rw [q3] at k; exact k
          | ok x3 =>
            rw [q3] at k
            dsimp only at k
            intro p hp e4 H4 hs4 R4 o4 hT
            obtain ⟨dr4, v4, hR4, _⟩ := R4.obj
            have o14 := o3.trans o4
            refine ⟨_, rfl, _, rfl, _, rfl, _, rfl, p, _, _, _, rfl, rfl, SqT.of hT, atI_nat (j := 0) rfl, _, rfl, p, _, _, _, rfl, rfl, SqT.of hT, atI_nat (j := 1) rfl, fun z dz nz nd ne => ⟨z, dz, _, _, _, _, _, _, rfl, upd_same, fun H5 hz o5 => ⟨rfl, ?_⟩⟩⟩
            have s5 : Same H4 H5 := Same.made nz nd fun b o e hb => o5 b o hb e
            exact k z (free_of o14 hR4 nz) e4 H5 hs4 (R4.same s5) (fun b o n e => s5 _ _ (o14 b o n e)) ⟨dz, hz⟩
        have o12 := o1.trans o2
        refine ⟨_, rfl, rfl, _, rfl, ?_⟩
        by_cases h5 : x1.1 = 5
        · rw [if_pos (by omega)] at k
          refine iteN (by rw [h5]; exact Bool.false_ne_true) ?_
          refine iteN Bool.false_ne_true ?_
          exact fin 0 e2 H2 R2 o12 k
        · refine iteP (by rw [decide_eq_false (fun y => by injection y with y; exact h5 (Int.ofNat.inj y))]; rfl) ?_
          refine ⟨_, rfl, rfl, _, rfl, ?_⟩
          by_cases h6 : x1.1 = 6
          · rw [if_pos (by omega)] at k
            refine iteN (by rw [h6]; exact Bool.false_ne_true) ?_
            exact fin 0 e2 H2 R2 o12 k
          · rw [if_neg (by omega)] at k
            refine iteP (by rw [decide_eq_false (fun y => by injection y with y; exact h6 (Int.ofNat.inj y))]; rfl) ?_
            refine ⟨_, rfl, r, a, ns, e2, rfl, R2, fun y => by rw [bad_two y] at k; exact k, fun e3 H3 hs3 R3 o3 => ?_⟩
            have hs3 : (ShBlazon.lineAt (ts (byt ns) e2)).2 = ts (byt ns) e3 := hs3
            rw [hs3] at k
            exact fin _ e3 H3 R3 (o12.trans o3) k
end
theorem is_word {s : BSt} {w : String} (h : ShBlazon.isWord s w = true) : ShBlazon.kindOf s = 0 ∧ ShBlazon.wordOf s = ShBlazon.ascii w := by
  unfold ShBlazon.isWord at h
  rw [Bool.and_eq_true] at h
  exact ⟨eq_of_beq h.1, eq_of_beq h.2⟩
theorem look_word {s : BSt} {w : String} (h : ShBlazon.isWord s w = true) (l : List Bytes) : ShBlazon.look l s = l.findIdx? fun x => x == ShBlazon.ascii w := by
  obtain ⟨h1, h2⟩ := is_word h
  unfold ShBlazon.look
  rw [if_pos h1, h2]
theorem look_wW (s : BSt) : ShBlazon.look wW s = if ShBlazon.isWord s "quarterly" = true then some 0 else if ShBlazon.isWord s "gyronny" = true then some 1 else none := by
  by_cases h1 : ShBlazon.isWord s "quarterly" = true
  · rw [if_pos h1, look_word h1]; decide +kernel
  · rw [if_neg h1]
    by_cases h2 : ShBlazon.isWord s "gyronny" = true
    · rw [if_pos h2, look_word h2]; decide +kernel
    · rw [if_neg h2]
      unfold ShBlazon.look
      by_cases hk : ShBlazon.kindOf s = 0
      · rw [if_pos hk]
        unfold ShBlazon.isWord at h1 h2
        rw [hk] at h1 h2
        have e1 : (ShBlazon.ascii "quarterly" == ShBlazon.wordOf s) = false := by
          rw [beq_eq_false_iff_ne]; intro z; apply h1; rw [z]; simp
        have e2 : (ShBlazon.ascii "gyronny" == ShBlazon.wordOf s) = false := by
          rw [beq_eq_false_iff_ne]; intro z; apply h2; rw [z]; simp
        unfold wW
        rw [List.findIdx?_cons, e1, List.findIdx?_cons, e2]; rfl
      · rw [if_neg hk]
theorem field_eq (s : BSt) : ShBlazon.fieldAt s = if (ShBlazon.look ShBlazon.TINCTWORDS s).isSome = true then plainG s else if (ShBlazon.look ShBlazon.VARYWORDS s).isSome = true then variedG s else if (ShBlazon.isWord s "per" || (ShBlazon.look wW s).isSome) = true then partedG s else .error (ShBlazon.wanted s) := by
  unfold ShBlazon.fieldAt
  cases q1 : ShBlazon.look ShBlazon.TINCTWORDS s with
  | some t =>
    rw [show (some t).isSome = true from rfl, if_pos rfl]
    unfold plainG ShBlazon.eat
    rw [q1]
  | none =>
    rw [show (none : Option Nat).isSome = false from rfl, if_neg Bool.false_ne_true]
    dsimp only
    have nv : ∀ w, ShBlazon.isWord s w = true → (ShBlazon.VARYWORDS.findIdx? fun x => x == ShBlazon.ascii w) = none → ShBlazon.look ShBlazon.VARYWORDS s = none := fun w h1 h2 => by rw [look_word h1]; exact h2
    cases q2 : ShBlazon.look ShBlazon.VARYWORDS s with
    | some v =>
      rw [show (some v).isSome = true from rfl, if_pos rfl]
      have n1 : ¬ ShBlazon.isWord s "per" = true := fun y => by rw [nv _ y (by decide +kernel)] at q2; cases q2
      have n2 : ¬ ShBlazon.isWord s "quarterly" = true := fun y => by rw [nv _ y (by decide +kernel)] at q2; cases q2
      have n3 : ¬ ShBlazon.isWord s "gyronny" = true := fun y => by rw [nv _ y (by decide +kernel)] at q2; cases q2
      rw [if_neg n1, if_neg n2, if_neg n3]
      unfold variedG nameAt ShBlazon.eat
      rw [q2]
    | none =>
      rw [show (none : Option Nat).isSome = false from rfl, if_neg Bool.false_ne_true]
      by_cases h1 : ShBlazon.isWord s "per" = true
      · rw [if_pos h1, h1, Bool.true_or, if_pos rfl]
        unfold partedG wayG
        rw [if_pos h1]
        unfold nameAt ShBlazon.eat
        cases ShBlazon.look ShBlazon.WAYWORDS (s.drop 1) <;> rfl
      · rw [if_neg h1]
        have h1' : ShBlazon.isWord s "per" = false := by simpa using h1
        rw [h1', Bool.false_or]
        have lw := look_wW s
        by_cases h2 : ShBlazon.isWord s "quarterly" = true
        · rw [if_pos h2] at lw ⊢
          rw [lw, show (some _ : Option Nat).isSome = true from rfl, if_pos rfl]
          unfold partedG wayG ShBlazon.eat
          rw [if_neg h1, lw]
          rfl
        · rw [if_neg h2] at lw ⊢
          by_cases h3 : ShBlazon.isWord s "gyronny" = true
          · rw [if_pos h3] at lw ⊢
            rw [lw, show (some _ : Option Nat).isSome = true from rfl, if_pos rfl]
            unfold partedG wayG ShBlazon.eat
            rw [if_neg h1, lw]
            rfl
          · rw [if_neg h3] at lw ⊢
            rw [lw, show (none : Option Nat).isSome = false from rfl, if_neg Bool.false_ne_true]
            unfold ShBlazon.eat
            rw [q2]
section
variable {P : Program} {w : World} {K : PySem.W.Frag} {mg : Str → Option Value} {base : Heap} {CE NE fE CK fK CR fR fPk fSe fSO fAc fRe fAT fAN CF fF : Addr}
theorem has_look {b : Bytes} {e : Nat} {os : List (Option Str)} {l : List Bytes} {sin : Nat} (g : Ma.Good b e) (hT : tbOk os l sin = true) : hasT os (txt b e) = (ShBlazon.look l (ts b e)).isSome := by
  unfold tbOk at hT
  rw [Bool.and_eq_true] at hT
  rw [has_idx, look_txt g hT.1, idx_map]
theorem sc_take_field : FnScope ["reader"] ["reader"] (defScope s_take_field) := ⟨rfl, rfl, rfl, by decide +kernel, rfl, by decide +kernel, by decide +kernel⟩
theorem ok_take_field {f fP fV fQ aT aV aW : Addr} {fdO fdS fdR fd : FuncData} (F : Fun K "take_field" "take_field" s_take_field f fd) (M : TM7 K mg CR fR fPk fSe fSO fAc fRe fAT fAN) (tT : Tb K mg "TINCTURES" oT aT) (tV : Tb K mg "VARIED_WAYS" oV aV) (tW : Tb K mg "OTHER_WAYS" oW aW)
    (GO : FnOk P w K mg base (CXx P w) 5 fSO fdO ["self", "texts"] (spSO K CE CK CR)) (bO : Binds K fdO ["self", "texts"] [])
    (GS : FnOk P w K mg base (CXx P w) 5 fSe fdS ["self", "text"] (spSe K CE CK CR)) (bS : Binds K fdS ["self", "text"] [])
    (GR : FnOk P w K mg base (CXx P w) 5 fRe fdR ["self"] (spRe K CE CK CR)) (bR : Binds K fdR ["self"] [])
    (pP : PG P w K mg base "take_plain" 7 fP ["reader"] (spFd K CE CK CR CF plainG)) (pV : PG P w K mg base "take_varied" 9 fV ["reader"] (spFd K CE CK CR CF variedG)) (pQ : PG P w K mg base "take_parted" 9 fQ ["reader"] (spFd K CE CK CR CF partedG)) :
    FnOk P w K mg base (CXx P w) 10 f fd ["reader"] (spFd K CE CK CR CF ShBlazon.fieldAt) := by
  refine F.okX sc_take_field (fun vs H Q E h => ?_) (fun cdv A outer s H vs Q E hr h => ?_)
  · obtain ⟨r, a, ns, e, rfl, _⟩ := h
    rfl
  · obtain ⟨r, a, ns, e, rfl, R, k⟩ := h
    obtain ⟨dr, v', hR, hv⟩ := R.obj
    have hr5 : Room 5 _ := hr.mono (by decide)
    have hr7 : Room 7 _ := hr.mono (by decide)
    refine ⟨_, pss_cons (ps_if (pt_val (pe_meth (pv 0) M.R.cl M.mSO GO hr5 bO .nil (passX rfl flies) (pa_cons (pe_glob (v := .ref aT) rfl tT.1 rfl) pa_nil))) (pss_one (ps_ret (pe_pg pP hr7 rfl (passX rfl flies) (pa_cons (pv 0) pa_nil)))) pss_nil)
      (pss_cons (ps_if (pt_val (pe_meth (pv 0) M.R.cl M.mSO GO hr5 bO .nil (passX rfl flies) (pa_cons (pe_glob (v := .ref aV) rfl tV.1 rfl) pa_nil))) (pss_one (ps_ret (pe_pg pV hr rfl (passX rfl flies) (pa_cons (pv 0) pa_nil)))) pss_nil)
      (pss_cons (ps_if (PW.pt (pw_or (pt_val (pe_meth (pv 0) M.R.cl M.mSe GS hr5 bS .nil (passX rfl flies) (pa_cons pe_str pa_nil))) (pw_or1 (pt_val (pe_meth (pv 0) M.R.cl M.mSO GO hr5 bO .nil (passX rfl flies) (pa_cons (pe_glob (v := .ref aW) rfl tW.1 rfl) pa_nil)))))) (pss_one (ps_ret (pe_pg pQ hr rfl (passX rfl flies) (pa_cons (pv 0) pa_nil)))) pss_nil)
      (pss_one (ps_ret (pe_meth0 (pv 0) M.R.cl M.mRe GR hr5 bR .nil (passX rfl flies)))))), ?_⟩
    have bad : Bad (ts (byt ns) e) → Fl CE E (ShBlazon.wanted (ts (byt ns) e)) := fun y => by rw [bad_field y] at k; exact k
    refine ⟨_, rfl, r, dr, _, rfl, hR, tf_no _ _ _ (by decide +kernel) (by decide +kernel) (by decide +kernel), r, a, ns, e, _, oT, rfl, R, fun H' _ => tT.nm H', bad, fun g H1 R1 o1 => ?_⟩
    obtain ⟨dr1, v1, hR1, _⟩ := R1.obj
    rw [field_eq, ← has_look g kT, ← has_look g kV, ← has_look g kW, word_txt (w := "per") (c := 112) (r := [101, 114]) g (by decide +kernel) (by decide +kernel)] at k
    have go : ∀ {H' : Hp} {gg : BSt → Except (Nat × Nat) (Field × BSt)} (pp : Rk CE E (gg (ts (byt ns) e)) fun f s => ∀ z, H z = none → Go K CK CR H r a ns s fun H' => FieldAt CF H' z f → Q (.ref z) H') (o' : Oth r H H') (R' : TkAt K CK CR H' r a ns e),
        spFd K CE CK CR CF gg [V.ref r] H' Q E := fun {H' gg} pp o' R' => by
      refine ⟨r, a, ns, e, rfl, R', ?_⟩
      cases q : gg (ts (byt ns) e) with
      | error f => rw [q] at pp; exact pp
      | ok x =>
        rw [q] at pp
        obtain ⟨dr', v', hR', _⟩ := R'.obj
        exact fun z hz e' H'' h1 h2 h3 h4 => pp z (free_of o' hR' hz) e' H'' h1 h2 (o'.trans h3) h4
    refine ⟨_, rfl, ?_⟩
    cases q1 : hasT oT (txt (byt ns) e) with
    | true =>
      rw [q1, if_pos rfl] at k
      exact iteP rfl ⟨_, rfl, go k o1 R1⟩
    | false =>
      rw [q1, if_neg Bool.false_ne_true] at k
      refine iteN Bool.false_ne_true ?_
      refine ⟨_, rfl, r, dr1, _, rfl, hR1, tf_no _ _ _ (by decide +kernel) (by decide +kernel) (by decide +kernel), r, a, ns, e, _, oV, rfl, R1, fun H' _ => tV.nm H', bad, fun _ H2 R2 o2 => ?_⟩
      obtain ⟨dr2, v2, hR2, _⟩ := R2.obj
      refine ⟨_, rfl, ?_⟩
      cases q2 : hasT oV (txt (byt ns) e) with
      | true =>
        rw [q2, if_pos rfl] at k
        exact iteP rfl ⟨_, rfl, go k (o1.trans o2) R2⟩
      | false =>
        rw [q2, if_neg Bool.false_ne_true] at k
        refine iteN Bool.false_ne_true ?_
        refine ⟨_, rfl, r, dr2, _, rfl, hR2, tf_no _ _ _ (by decide +kernel) (by decide +kernel) (by decide +kernel), r, a, ns, e, "per", rfl, R2, bad, fun _ H3 R3 o3 => ?_⟩
        obtain ⟨dr3, v3, hR3, _⟩ := R3.obj
        have et : tl "per" = [112, 101, 114] := by decide +kernel
        have o13 := (o1.trans o2).trans o3
        refine ⟨_, rfl, ?_⟩
        rw [et]
        by_cases q3 : txt (byt ns) e = [112, 101, 114]
        · rw [decide_eq_true q3, Bool.true_or, if_pos rfl] at k
          exact iteP (decide_eq_true q3) (iteP rfl ⟨_, rfl, go k o13 R3⟩)
        · rw [decide_eq_false q3, Bool.false_or] at k
          refine iteN (by rw [decide_eq_false q3]; exact Bool.false_ne_true) ?_
          refine ⟨_, rfl, r, dr3, _, rfl, hR3, tf_no _ _ _ (by decide +kernel) (by decide +kernel) (by decide +kernel), r, a, ns, e, _, oW, rfl, R3, fun H' _ => tW.nm H', bad, fun _ H4 R4 o4 => ?_⟩
          obtain ⟨dr4, v4, hR4, _⟩ := R4.obj
          refine ⟨_, rfl, ?_⟩
          cases q4 : hasT oW (txt (byt ns) e) with
          | true =>
            rw [q4, if_pos rfl] at k
            exact iteP rfl ⟨_, rfl, go k (o13.trans o4) R4⟩
          | false =>
            rw [q4, if_neg Bool.false_ne_true] at k
            refine iteN Bool.false_ne_true ?_
            exact ⟨_, rfl, r, dr4, _, rfl, hR4, tf_no _ _ _ (by decide +kernel) (by decide +kernel) (by decide +kernel), r, a, ns, e, rfl, R4, k⟩
end
theorem FieldAt.oth {CF CR : Addr} {H H' : Hp} {r z dr : Addr} {fs : List (Str × V)} {f : Field} (t : FieldAt CF H z f) (hr : H r = some (.ins CR dr fs)) (ne : CF ≠ CR) (o : Oth r H H') : FieldAt CF H' z f := by
  obtain ⟨dz, hz⟩ := t
  exact ⟨dz, o _ _ (ne_of hz hr (by intro y; injection y with y; exact ne y)) hz⟩
theorem FieldAt.sm {CF z : Addr} {H H' : Hp} {f : Field} (x : FieldAt CF H z f) (s : Same H H') : FieldAt CF H' z f := let ⟨d, e⟩ := x; ⟨d, s _ _ e⟩
theorem FillAt.sm {CF : Addr} {v : V} {H H' : Hp} {f : Fill} (x : FillAt CF H v f) (s : Same H H') : FillAt CF H' v f := by
  cases f with
  | counter => exact x
  | solid f => obtain ⟨y, e, q⟩ := x; exact ⟨y, e, q.sm s⟩
noncomputable def spFl (K : PySem.W.Frag) (CE CK CR CF : Addr) : Sp := fun vs H Q E => ∃ (r a zf : Addr) (ns : List Int) (e : Nat) (below : Field), vs = [.ref r, .ref zf] ∧ TkAt K CK CR H r a ns e ∧ FieldAt CF H zf below ∧
  Rk CE E (ShBlazon.fillAt below (ts (byt ns) e)) fun f s => Go K CK CR H r a ns s fun H' => ∀ v, FillAt CF H' v f → Q v H'
noncomputable def ordG (below : Field) (s : BSt) : Except (Nat × Nat) (Layer × BSt) := match nameAt ShBlazon.ORDWORDS 4 s with
  | .error e => .error e
  | .ok x => match ShBlazon.fillAt below (ShBlazon.lineAt x.2).2 with
    | .error e => .error e
    | .ok f => .ok (.ord x.1 (ShBlazon.lineAt x.2).1 f.1, f.2)
noncomputable def spLy (K : PySem.W.Frag) (CE CK CR CF CO CG : Addr) (g : Field → BSt → Except (Nat × Nat) (Layer × BSt)) : Sp := fun vs H Q E => ∃ (r a zf : Addr) (ns : List Int) (e : Nat) (below : Field), vs = [.ref r, .ref zf] ∧ TkAt K CK CR H r a ns e ∧ FieldAt CF H zf below ∧
  Rk CE E (g below (ts (byt ns) e)) fun l s => ∀ z, H z = none → Go K CK CR H r a ns s fun H' => LayerAt CF CO CG H' z l → Q (.ref z) H'
section
variable {P : Program} {w : World} {K : PySem.W.Frag} {mg : Str → Option Value} {base : Heap} {CE NE fE CK fK CR fR fPk fSe fSO fAc fRe fAT fAN CF fF CO fO CG fG : Addr}
theorem sc_take_fill : FnScope ["reader", "arms_field", "token"] ["reader", "arms_field"] (defScope s_take_fill) := ⟨rfl, rfl, rfl, by decide +kernel, rfl, by decide +kernel, by decide +kernel⟩
theorem ok_take_fill {f fD : Addr} {fdE fdS fdA fd : FuncData} (F : Fun K "take_fill" "take_fill" s_take_fill f fd) (T : TX K mg CE NE fE CK fK) (M : TM7 K mg CR fR fPk fSe fSO fAc fRe fAT fAN) (U : TF7 K mg CR CF fF) (hc : ∃ t, mg "COUNTERCHANGED" = some (.str "counterchanged" t)) (h6 : ∃ t, mg "COUNTERCHANGED_OVER_PLAIN" = some (.int 6 t))
    (GE : FnOk P w K mg base (CXx P w) 1 fE fdE ["self", "kind", "place"] (spXI CE)) (bE : Binds K fdE ["self", "kind", "place"] [])
    (GS : FnOk P w K mg base (CXx P w) 5 fSe fdS ["self", "text"] (spSe K CE CK CR)) (bS : Binds K fdS ["self", "text"] [])
    (GA : FnOk P w K mg base (CXx P w) 5 fAc fdA ["self"] (spAc K CK CR)) (bA : Binds K fdA ["self"] [])
    (pD : PG P w K mg base "take_field" 10 fD ["reader"] (spFd K CE CK CR CF ShBlazon.fieldAt)) : FnOk P w K mg base (CXx P w) 11 f fd ["reader", "arms_field"] (spFl K CE CK CR CF) := by
  refine F.okX sc_take_fill (fun vs H Q E h => ?_) (fun cdv A outer s H vs Q E hr h => ?_)
  · obtain ⟨r, a, zf, ns, e, below, rfl, _⟩ := h
    rfl
  · obtain ⟨r, a, zf, ns, e, below, rfl, R, hF, k⟩ := h
    obtain ⟨dr, v', hR, hv⟩ := R.obj
    obtain ⟨tc, hc⟩ := hc
    obtain ⟨t6, h6⟩ := h6
    obtain ⟨t0, h0⟩ := U.i "PLAIN" 0 (by decide +kernel)
    have hr5 : Room 5 _ := hr.mono (by decide)
    have hr2 : Room 2 _ := hr.mono (by decide)
    refine ⟨_, pss_cons (ps_if (pt_not (pt_val (pe_meth (pv 0) M.R.cl M.mSe GS hr5 bS .nil (passX rfl flies) (pa_cons (pe_glob (v := .str "counterchanged") rfl hc ⟨tc, rfl⟩) pa_nil)))) (pss_one (ps_ret (pe_pg pD hr rfl (passX rfl flies) (pa_cons (pv 0) pa_nil)))) pss_nil)
      (pss_cons (ps_set (i := 2) sc_take_fill.nd rfl (Or.inl rfl) (pe_meth0 (pv 0) M.R.cl M.mAc GA hr5 bA .nil (passX rfl flies)))
      (pss_cons (ps_if (pt_cmpR op_eq (pe_fld (pv 1) rfl) (pe_glob (v := .int 0) rfl h0 ⟨t0, rfl⟩) (nomark _)) (pss_one (ps_raise T.xc GE hr2 rfl T.mgE bE rfl rfl flies (pa_cons (pe_glob (v := .int 6) rfl h6 ⟨t6, rfl⟩) (pa_cons (pe_fld (pv 2) rfl) pa_nil)))) pss_nil)
      (pss_one (ps_ret pe_non)))), ?_⟩
    refine ⟨_, rfl, r, dr, _, rfl, hR, tf_no _ _ _ (by decide +kernel) (by decide +kernel) (by decide +kernel), r, a, ns, e, "counterchanged", rfl, R, fun y => by rw [bad_fill y] at k; exact k, fun g H1 R1 o1 => ?_⟩
    obtain ⟨dr1, v1, hR1, _⟩ := R1.obj
    unfold ShBlazon.fillAt at k
    have hw := word_txt (w := "counterchanged") (c := 99) (r := (tl "counterchanged").tail) g (by decide +kernel) (by decide +kernel)
    have et : tl "counterchanged" = 99 :: (tl "counterchanged").tail := by decide +kernel
    rw [hw] at k
    refine ⟨_, rfl, ?_⟩
    by_cases q : txt (byt ns) e = tl "counterchanged"
    · have q' := q.trans et
      rw [decide_eq_true q', if_pos rfl] at k
      rw [decide_eq_true q'] at hw
      have hk : (bt (byt ns) e).kind = 0 := by rw [← kind_ts]; exact (is_word hw).1
      rw [drop_ts (by rw [hk]; decide), place_ts, at_bt] at k
      refine iteN (by rw [decide_eq_true q]; exact Bool.false_ne_true) ?_
      refine ⟨_, rfl, r, dr1, _, rfl, hR1, tf_no _ _ _ (by decide +kernel) (by decide +kernel) (by decide +kernel), r, a, ns, e, rfl, R1, g, fun z H2 R2 t2 o2 => ?_⟩
      have o12 := o1.trans o2
      obtain ⟨df, hf⟩ := hF.oth hR U.ne o12
      obtain ⟨dz, st, hz, hl⟩ := t2
      refine ⟨_, rfl, zf, CF, df, _, _, rfl, hf, U.F.cl, U.F.no _ (by decide +kernel), f_kind below, rfl, _, rfl, ?_⟩
      have two : below.two.isSome = true → Q .non H2 := fun y => by
        rw [if_pos y] at k
        exact k _ H2 rfl R2 o12 .non rfl
      cases below with
      | plain t =>
        refine iteP (decide_eq_true rfl) ?_
        exact ⟨_, rfl, z, CK, dz, _, _, rfl, hz, T.K.cl, T.K.no _ (by decide +kernel), kf_place _ _ _, (by show 2 ≤ 1000; decide), raise_fl k H2⟩
      | parted d l a b =>
        refine iteN (by intro y; have := of_decide_eq_true y; cases this) ?_
        exact two rfl
      | varied v n l a b =>
        refine iteN (by intro y; have := of_decide_eq_true y; cases this) ?_
        exact two rfl
    · have q' : ¬ txt (byt ns) e = 99 :: (tl "counterchanged").tail := fun y => q (y.trans et.symm)
      rw [decide_eq_false q', if_neg Bool.false_ne_true] at k
      refine iteP (by rw [decide_eq_false q]; rfl) ?_
      refine ⟨_, rfl, r, a, ns, e, rfl, R1, ?_⟩
      cases q2 : ShBlazon.fieldAt (ts (byt ns) e) with
      | error f => rw [q2] at k; exact k
      | ok x =>
        rw [q2] at k
        exact fun z hz e' H' h1 h2 h3 h4 => k e' H' h1 h2 (o1.trans h3) _ ⟨z, rfl, h4⟩
theorem manner_eq (s : BSt) : ShBlazon.mannerAt s = if ShBlazon.isWord s "in" = true then nameAt ShBlazon.MANNERWORDS 3 (s.drop 1) else .ok (0, s) := by
  unfold ShBlazon.mannerAt nameAt ShBlazon.eat
  by_cases h : ShBlazon.isWord s "in" = true
  · rw [if_pos h, if_pos h]
    cases ShBlazon.look ShBlazon.MANNERWORDS (s.drop 1) <;> rfl
  · rw [if_neg h, if_neg h]
theorem sc_take_manner : FnScope ["reader"] ["reader"] (defScope s_take_manner) := ⟨rfl, rfl, rfl, by decide +kernel, rfl, by decide +kernel, by decide +kernel⟩
theorem ok_take_manner {f fN aM : Addr} {fdS fdA fd : FuncData} (F : Fun K "take_manner" "take_manner" s_take_manner f fd) (M : TM7 K mg CR fR fPk fSe fSO fAc fRe fAT fAN) (tM : Tb K mg "MANNERS" oM aM)
    (GS : FnOk P w K mg base (CXx P w) 5 fSe fdS ["self", "text"] (spSe K CE CK CR)) (bS : Binds K fdS ["self", "text"] [])
    (GA : FnOk P w K mg base (CXx P w) 5 fAc fdA ["self"] (spAc K CK CR)) (bA : Binds K fdA ["self"] [])
    (pN : PG P w K mg base "take_name" 6 fN ["reader", "names"] (spTN K CE CK CR)) : FnOk P w K mg base (CXx P w) 7 f fd ["reader"] (spL K CE CK CR ShBlazon.mannerAt) := by
  refine F.okX sc_take_manner (fun vs H Q E h => ?_) (fun cdv A outer s H vs Q E hr h => ?_)
  · obtain ⟨r, a, ns, e, rfl, _⟩ := h
    rfl
  · obtain ⟨r, a, ns, e, rfl, R, k⟩ := h
    obtain ⟨dr, v', hR, hv⟩ := R.obj
    have hr5 : Room 5 _ := hr.mono (by decide)
    refine ⟨_, pss_cons (ps_if (pt_not (pt_val (pe_meth (pv 0) M.R.cl M.mSe GS hr5 bS .nil (passX rfl flies) (pa_cons pe_str pa_nil)))) (pss_one (ps_ret pe_int)) pss_nil)
      (pss_cons (ps_expr (pe_meth0 (pv 0) M.R.cl M.mAc GA hr5 bA .nil (passX rfl flies))) (pss_one (ps_ret (pe_pg pN hr rfl (passX rfl flies) (pa_cons (pv 0) (pa_cons (pe_glob (v := .ref aM) rfl tM.1 rfl) pa_nil)))))), ?_⟩
    refine ⟨_, rfl, r, dr, _, rfl, hR, tf_no _ _ _ (by decide +kernel) (by decide +kernel) (by decide +kernel), r, a, ns, e, "in", rfl, R, fun y => ?_, fun g H1 R1 o1 => ?_⟩
    · rw [bad_manner y] at k
      exact k.1 y
    · obtain ⟨dr1, v1, hR1, _⟩ := R1.obj
      rw [manner_eq] at k
      have hw := word_txt (w := "in") (c := 105) (r := [110]) g (by decide +kernel) (by decide +kernel)
      have et : tl "in" = [105, 110] := by decide +kernel
      rw [hw] at k
      refine ⟨_, rfl, ?_⟩
      rw [et]
      by_cases q : txt (byt ns) e = [105, 110]
      · rw [decide_eq_true q, if_pos rfl] at k
        rw [decide_eq_true q] at hw
        have hk : (bt (byt ns) e).kind = 0 := by rw [← kind_ts]; exact (is_word hw).1
        rw [drop_ts (by rw [hk]; decide)] at k
        refine iteN (by rw [decide_eq_true q]; exact Bool.false_ne_true) ?_
        refine ⟨_, rfl, r, dr1, _, rfl, hR1, tf_no _ _ _ (by decide +kernel) (by decide +kernel) (by decide +kernel), r, a, ns, e, rfl, R1, g, fun z H2 R2 t2 o2 => ?_⟩
        refine ⟨_, rfl, r, a, ns, _, _, oM, ShBlazon.MANNERWORDS, 3, rfl, R2, fun H' _ => tM.nm H', kM, ?_⟩
        cases q2 : nameAt ShBlazon.MANNERWORDS 3 (ts (byt ns) (bn (byt ns) e)) with
        | error f => rw [q2] at k; exact k
        | ok x =>
          rw [q2] at k
          exact ⟨fun _ => k.1, fun e' H' h1 h2 h3 => k.2 e' H' h1 h2 ((o1.trans o2).trans h3)⟩
      · rw [decide_eq_false q, if_neg Bool.false_ne_true] at k
        refine iteP (by rw [decide_eq_false q]; rfl) ?_
        exact k.2 e H1 rfl R1 o1
end
noncomputable def chW (n : Nat) : List (Option Str) := if n = 1 then oC else oC.map fun o => o.map (· ++ ("s" : Str))
noncomputable def chL (n : Nat) : List Bytes := if n = 1 then ShBlazon.CHARGEWORDS else ShBlazon.SEVERAL
theorem kCh (n : Nat) : tbOk (chW n) (chL n) 99 = true ∧ (chL n).length ≤ 99 := by
  unfold chW chL
  by_cases h : n = 1
  · rw [if_pos h, if_pos h]; exact ⟨kC, by decide⟩
  · rw [if_neg h, if_neg h]; exact ⟨kCs, by decide⟩
noncomputable def spCW : Sp := fun vs H Q _ => ∃ n : Nat, vs = [vn n] ∧ ∀ H' l, Same H H' → H l = none → H' l = some (.lst ((chW n).map vo)) → Q (.ref l) H'
noncomputable def spGr (K : PySem.W.Frag) (CE CK CR CF CO CG : Addr) : Sp := fun vs H Q E => ∃ (r a zf : Addr) (ns : List Int) (e n : Nat) (below : Field), vs = [.ref r, vn n, .ref zf] ∧ TkAt K CK CR H r a ns e ∧ FieldAt CF H zf below ∧
  Rk CE E (ShBlazon.groupAt below n (chL n) (ts (byt ns) e)) fun l s => ∀ z, H z = none → Go K CK CR H r a ns s fun H' => LayerAt CF CO CG H' z l → Q (.ref z) H'
section
variable {P : Program} {w : World} {K : PySem.W.Frag} {mg : Str → Option Value} {base : Heap} {CE NE fE CK fK CR fR fPk fSe fSO fAc fRe fAT fAN CF fF CO fO CG fG : Addr}
theorem sc_take_ordinary : FnScope ["reader", "arms_field", "ordinary", "line", "fill"] ["reader", "arms_field"] (defScope s_take_ordinary) := ⟨rfl, rfl, rfl, by decide +kernel, rfl, by decide +kernel, by decide +kernel⟩
theorem ok_take_ordinary {f fN fL fI aO : Addr} {fdO fd : FuncData} (F : Fun K "take_ordinary" "take_ordinary" s_take_ordinary f fd) (U : TF7 K mg CR CF fF) (RO : RC K mg "OrdinaryLayer" CO fO ["ordinary", "line", "fill"]) (tO : Tb K mg "ORDINARIES" oO aO)
    (GO : FnOk P w K mg base (CXx P w) 1 fO fdO ["self", "ordinary", "line", "fill"] (spOI CO)) (bO : Binds K fdO ["self", "ordinary", "line", "fill"] [])
    (pN : PG P w K mg base "take_name" 6 fN ["reader", "names"] (spTN K CE CK CR)) (pL : PG P w K mg base "take_line" 8 fL ["reader"] (spL K CE CK CR fun s => .ok (ShBlazon.lineAt s))) (pI : PG P w K mg base "take_fill" 11 fI ["reader", "arms_field"] (spFl K CE CK CR CF)) :
    FnOk P w K mg base (CXx P w) 12 f fd ["reader", "arms_field"] (spLy K CE CK CR CF CO CG ordG) := by
  refine F.okX sc_take_ordinary (fun vs H Q E h => ?_) (fun cdv A outer s H vs Q E hr h => ?_)
  · obtain ⟨r, a, zf, ns, e, below, rfl, _⟩ := h
    rfl
  · obtain ⟨r, a, zf, ns, e, below, rfl, R, hF, k⟩ := h
    obtain ⟨dr, v', hR, hv⟩ := R.obj
    have hr6 : Room 6 _ := hr.mono (by decide)
    have hr8 : Room 8 _ := hr.mono (by decide)
    have hr2 : Room 2 _ := hr.mono (by decide)
    refine ⟨_, pss_cons (ps_set (i := 2) sc_take_ordinary.nd rfl (Or.inl rfl) (pe_pg pN hr6 rfl (passX rfl flies) (pa_cons (pv 0) (pa_cons (pe_glob (v := .ref aO) rfl tO.1 rfl) pa_nil))))
      (pss_cons (ps_set (i := 3) sc_take_ordinary.nd rfl (Or.inl rfl) (pe_pg pL hr8 rfl (passX rfl flies) (pa_cons (pv 0) pa_nil)))
      (pss_cons (ps_set (i := 4) sc_take_ordinary.nd rfl (Or.inl rfl) (pe_pg pI hr rfl (passX rfl flies) (pa_cons (pv 0) (pa_cons (pv 1) pa_nil))))
      (pss_one (ps_ret (pe_make RO.mkc GO hr2 rfl RO.at_ bO .nil passN (pa_cons (pv 2) (pa_cons (pv 3) (pa_cons (pv 4) pa_nil)))))))), ?_⟩
    unfold ordG at k
    refine ⟨_, rfl, r, a, ns, e, _, oO, ShBlazon.ORDWORDS, 4, rfl, R, fun H' _ => tO.nm H', kO, ?_⟩
    cases q1 : nameAt ShBlazon.ORDWORDS 4 (ts (byt ns) e) with
    | error f => rw [q1] at k; exact k
    | ok x1 =>
      rw [q1] at k
      dsimp only at k
      refine ⟨fun _ y => by rw [bad_line y, bad_fill y] at k; exact k, fun e1 H1 hs1 R1 o1 => ?_⟩
      rw [hs1] at k
      refine ⟨_, rfl, r, a, ns, e1, rfl, R1, fun y => by rw [bad_fill y] at k; exact k, fun e2 H2 hs2 R2 o2 => ?_⟩
      have hs2 : (ShBlazon.lineAt (ts (byt ns) e1)).2 = ts (byt ns) e2 := hs2
      rw [hs2] at k
      have o12 := o1.trans o2
      refine ⟨_, rfl, _, rfl, r, a, zf, ns, e2, below, rfl, R2, hF.oth hR U.ne o12, ?_⟩
      cases q3 : ShBlazon.fillAt below (ts (byt ns) e2) with
      | error f => rw [q3] at k; exact k
      | ok x3 =>
        rw [q3] at k
        intro e3 H3 hs3 R3 o3 v hv3
        obtain ⟨dr3, v3, hR3, _⟩ := R3.obj
        have o13 := o12.trans o3
        refine ⟨_, rfl, _, rfl, _, rfl, fun z dz nz nd ne => ⟨z, dz, _, _, _, rfl, upd_same, fun H4 hz o4 => ⟨rfl, ?_⟩⟩⟩
        have s4 : Same H3 H4 := Same.made nz nd fun b o e hb => o4 b o hb e
        exact k z (free_of o13 hR3 nz) e3 H4 hs3 (R3.same s4) (fun b o n e => s4 _ _ (o13 b o n e)) ⟨dz, v, hz, hv3.sm s4⟩
theorem sc_take_group : FnScope ["reader", "how_many", "arms_field", "size", "charge", "manner", "fill"] ["reader", "how_many", "arms_field"] (defScope s_take_group) := ⟨rfl, rfl, rfl, by decide +kernel, rfl, by decide +kernel, by decide +kernel⟩
theorem ok_take_group {f fN fJ fC fM fI aZ : Addr} {fdG fd : FuncData} (F : Fun K "take_group" "take_group" s_take_group f fd) (U : TF7 K mg CR CF fF) (RG : RC K mg "GroupLayer" CG fG ["charge", "how_many", "manner", "size", "fill"]) (tZ : Tb K mg "SIZES" oZ aZ) (h3 : ∃ t, mg "PLAIN_SIZE" = some (.int 3 t))
    (GG : FnOk P w K mg base (CXx P w) 1 fG fdG ["self", "charge", "how_many", "manner", "size", "fill"] (spGI CG)) (bG : Binds K fdG ["self", "charge", "how_many", "manner", "size", "fill"] [])
    (pJ : PG P w K mg base "take_name_if_there" 7 fJ ["reader", "names", "otherwise"] (spIf K CE CK CR)) (pN : PG P w K mg base "take_name" 6 fN ["reader", "names"] (spTN K CE CK CR)) (pC : PG P w K mg base "charge_words" 1 fC ["how_many"] spCW)
    (pM : PG P w K mg base "take_manner" 7 fM ["reader"] (spL K CE CK CR ShBlazon.mannerAt)) (pI : PG P w K mg base "take_fill" 11 fI ["reader", "arms_field"] (spFl K CE CK CR CF)) :
    FnOk P w K mg base (CXx P w) 12 f fd ["reader", "how_many", "arms_field"] (spGr K CE CK CR CF CO CG) := by
  refine F.okX sc_take_group (fun vs H Q E h => ?_) (fun cdv A outer s H vs Q E hr h => ?_)
  · obtain ⟨r, a, zf, ns, e, n, below, rfl, _⟩ := h
    rfl
  · obtain ⟨r, a, zf, ns, e, n, below, rfl, R, hF, k⟩ := h
    obtain ⟨dr, v', hR, hv⟩ := R.obj
    obtain ⟨t3, h3⟩ := h3
    have hr6 : Room 6 _ := hr.mono (by decide)
    have hr7 : Room 7 _ := hr.mono (by decide)
    have hr2 : Room 2 _ := hr.mono (by decide)
    have hr1 : Room 1 _ := hr.mono (by decide)
    refine ⟨_, pss_cons (ps_set (i := 3) sc_take_group.nd rfl (Or.inl rfl) (pe_pg pJ hr7 rfl (passX rfl flies) (pa_cons (pv 0) (pa_cons (pe_glob (v := .ref aZ) rfl tZ.1 rfl) (pa_cons (pe_glob (v := .int 3) rfl h3 ⟨t3, rfl⟩) pa_nil)))))
      (pss_cons (ps_set (i := 4) sc_take_group.nd rfl (Or.inl rfl) (pe_pg pN hr6 rfl (passX rfl flies) (pa_cons (pv 0) (pa_cons (pe_pg pC hr1 rfl passN (pa_cons (pv 1) pa_nil)) pa_nil))))
      (pss_cons (ps_set (i := 5) sc_take_group.nd rfl (Or.inl rfl) (pe_pg pM hr7 rfl (passX rfl flies) (pa_cons (pv 0) pa_nil)))
      (pss_cons (ps_set (i := 6) sc_take_group.nd rfl (Or.inl rfl) (pe_pg pI hr rfl (passX rfl flies) (pa_cons (pv 0) (pa_cons (pv 2) pa_nil))))
      (pss_one (ps_ret (pe_make RG.mkc GG hr2 rfl RG.at_ bG .nil passN (pa_cons (pv 4) (pa_cons (pv 1) (pa_cons (pv 5) (pa_cons (pv 3) (pa_cons (pv 6) pa_nil))))))))))), ?_⟩
    refine ⟨_, rfl, r, a, ns, e, _, oZ, ShBlazon.SIZES, 3, rfl, R, fun H' _ => tZ.nm H', kZ, by decide, fun y => by rw [bad_group y] at k; exact k, fun e1 H1 hs1 R1 o1 => ?_⟩
    have hs1 : (ShBlazon.sizeAt (ts (byt ns) e)).2 = ts (byt ns) e1 := hs1
    unfold ShBlazon.groupAt at k
    rw [hs1] at k
    obtain ⟨dr1, v1, hR1, _⟩ := R1.obj
    obtain ⟨kc1, kc2⟩ := kCh n
    refine ⟨_, rfl, _, rfl, n, rfl, fun H2 lp s2 hlp q2 => ?_⟩
    have R2 := R1.same s2
    have o2 : Oth r H H2 := fun b o nb q => s2 _ _ (o1 b o nb q)
    have lpr : lp ≠ r := fun y => by rw [y, hR1] at hlp; cases hlp
    refine ⟨r, a, ns, e1, _, chW n, chL n, 99, rfl, R2, fun H' o' => ⟨lp, rfl, .inl (SqL.of (o' _ _ lpr q2))⟩, kc1, ?_⟩
    rw [name_eat kc2]
    cases q3 : ShBlazon.eat (chL n) (ts (byt ns) e1) with
    | error f => rw [q3] at k; exact k
    | ok x3 =>
      rw [q3] at k
      dsimp only at k
      refine ⟨fun y => absurd (look_lt y) (by omega), fun e3 H3 hs3 R3 o3 => ?_⟩
      rw [hs3] at k
      have o13 := o2.trans o3
      refine ⟨_, rfl, r, a, ns, e3, rfl, R3, ?_⟩
      cases q4 : ShBlazon.mannerAt (ts (byt ns) e3) with
      | error f => rw [q4] at k; exact k
      | ok x4 =>
        rw [q4] at k
        dsimp only at k
        refine ⟨fun y => by rw [bad_fill y] at k; exact k, fun e4 H4 hs4 R4 o4 => ?_⟩
        have hs4 : x4.2 = ts (byt ns) e4 := hs4
        rw [hs4] at k
        have o14 := o13.trans o4
        refine ⟨_, rfl, _, rfl, r, a, zf, ns, e4, below, rfl, R4, hF.oth hR U.ne o14, ?_⟩
        cases q5 : ShBlazon.fillAt below (ts (byt ns) e4) with
        | error f => rw [q5] at k; exact k
        | ok x5 =>
          rw [q5] at k
          intro e5 H5 hs5 R5 o5 v hv5
          obtain ⟨dr5, v5, hR5, _⟩ := R5.obj
          have o15 := o14.trans o5
          refine ⟨_, rfl, _, rfl, _, rfl, _, rfl, _, rfl, fun z dz nz nd ne => ⟨z, dz, _, _, _, _, _, rfl, upd_same, fun H6 hz o6 => ⟨rfl, ?_⟩⟩⟩
          have s6 : Same H5 H6 := Same.made nz nd fun b o e hb => o6 b o hb e
          exact k z (free_of o15 hR5 nz) e5 H6 hs5 (R5.same s6) (fun b o n e => s6 _ _ (o15 b o n e)) ⟨dz, v, hz, hv5.sm s6⟩
end
noncomputable def artS (w : Str) : Str := match tl w with
  | c :: _ => if c ∈ tl "aeiou" then "an" else "a"
  | [] => "a"
noncomputable def spAB : Sp := fun vs H Q _ => ∃ w : Str, vs = [.str w] ∧ w.length ≤ 1000 ∧ tl w ≠ [] ∧ Q (.str (artS w)) H
noncomputable def oneG (below : Field) (s : BSt) : Except (Nat × Nat) (Layer × BSt) :=
  if ShBlazon.single (ShBlazon.isWord s "an") (s.drop 1) = false then .error (ShBlazon.wanted (s.drop 1))
  else if ShBlazon.vowel (ShBlazon.wordOf (s.drop 1)) ≠ ShBlazon.isWord s "an" then .error (7, ShBlazon.place s)
  else match ShBlazon.look ShBlazon.ORDWORDS (s.drop 1) with
    | some o => ShBlazon.ordAt below o ((s.drop 1).drop 1)
    | none => ShBlazon.groupAt below 1 ShBlazon.CHARGEWORDS (s.drop 1)
theorem ord_eq (below : Field) (s : BSt) : ordG below s = match ShBlazon.look ShBlazon.ORDWORDS s with
    | some o => ShBlazon.ordAt below o (s.drop 1)
    | none => .error (ShBlazon.wanted s) := by
  unfold ordG nameAt
  cases ShBlazon.look ShBlazon.ORDWORDS s <;> rfl
theorem ord_word : ∀ k, k < 13 → ¬ (ShBlazon.ORDWORDS.getD k []) = [] → ShBlazon.vowel (ShBlazon.ORDWORDS.getD k []) = false ∧ (ShBlazon.SIZES.findIdx? fun x => x == ShBlazon.ORDWORDS.getD k []) = none ∧ (ShBlazon.CHARGEWORDS.findIdx? fun x => x == ShBlazon.ORDWORDS.getD k []) = none := by decide +kernel
theorem ord_look {b : Bytes} {e k : Nat} (g : Ma.Good b e) (h : ShBlazon.look ShBlazon.ORDWORDS (ts b e) = some k) : ShBlazon.vowel (ShBlazon.wordOf (ts b e)) = false ∧ ShBlazon.look ShBlazon.SIZES (ts b e) = none ∧ ShBlazon.look ShBlazon.CHARGEWORDS (ts b e) = none := by
  have hk : k < 13 := look_lt h
  unfold ShBlazon.look at h ⊢
  by_cases h0 : ShBlazon.kindOf (ts b e) = 0
  · rw [if_pos h0] at h ⊢
    rw [if_pos h0]
    rw [List.findIdx?_eq_some_iff_getElem] at h
    obtain ⟨hl, h1, _⟩ := h
    have e1 : ShBlazon.ORDWORDS.getD k [] = ShBlazon.wordOf (ts b e) := by
      rw [List.getD_eq_getElem?_getD, List.getElem?_eq_getElem hl]
      exact eq_of_beq h1
    have ne : ¬ ShBlazon.ORDWORDS.getD k [] = [] := by
      rw [e1, word_ts]
      rcases txt_kind g with ⟨_, _, k2, _⟩ | ⟨y, _⟩ | ⟨y, _⟩ | ⟨y, _⟩
      · exact k2
      · rw [kind_ts] at h0; omega
      · rw [kind_ts] at h0; omega
      · rw [kind_ts] at h0; omega
    have := ord_word k hk ne
    rw [e1] at this
    exact this
  · rw [if_neg h0] at h; cases h
theorem vowel_art {b : Bytes} {e : Nat} {st : Str} (g : Ma.Good b e) (h0 : (bt b e).kind = 0) (hs : tl st = txt b e) : artS st = if ShBlazon.vowel (ShBlazon.wordOf (ts b e)) = true then ("an" : Str) else ("a" : Str) := by
  rcases txt_kind g with ⟨_, k1, k2, _⟩ | ⟨y, _⟩ | ⟨y, _⟩ | ⟨y, _⟩
  · rw [word_ts]
    unfold artS
    rw [hs, k1]
    cases q : (bt b e).bytes with
    | nil => exact absurd q k2
    | cons c r =>
      show (if c.toNat ∈ tl "aeiou" then _ else _) = if (ShBlazon.ascii "aeiou").contains c = true then _ else _
      have ec : (ShBlazon.ascii "aeiou").contains c = decide (c.toNat ∈ tl "aeiou") := by
        have e1 : tl "aeiou" = nB (ShBlazon.ascii "aeiou") := by decide +kernel
        rw [e1, List.contains_eq_mem]
        refine decide_eq_decide.mpr ⟨fun y => List.mem_map.mpr ⟨c, y, rfl⟩, fun y => ?_⟩
        obtain ⟨d, hd, he⟩ := List.mem_map.mp y
        rw [← UInt8.toNat_inj.mp he]; exact hd
      rw [ec]
      by_cases hm : c.toNat ∈ tl "aeiou"
      · rw [if_pos hm, if_pos (decide_eq_true hm)]
      · rw [if_neg hm, if_neg (by rw [decide_eq_false hm]; exact Bool.false_ne_true)]
  · omega
  · omega
  · omega
theorem article {b : Bytes} {e : Nat} (g : Ma.Good b e) (h : (ShBlazon.isWord (ts b e) "a" || ShBlazon.isWord (ts b e) "an") = true) :
    (bt b e).kind = 0 ∧ ((txt b e = [97] ∧ ShBlazon.isWord (ts b e) "an" = false) ∨ (txt b e = [97, 110] ∧ ShBlazon.isWord (ts b e) "an" = true)) := by
  have ha := word_txt (w := "a") (c := 97) (r := []) g (by decide +kernel) (by decide +kernel)
  have hn := word_txt (w := "an") (c := 97) (r := [110]) g (by decide +kernel) (by decide +kernel)
  rw [Bool.or_eq_true] at h
  have hk : (bt b e).kind = 0 := by
    rw [← kind_ts]
    rcases h with h | h
    · exact (is_word h).1
    · exact (is_word h).1
  refine ⟨hk, ?_⟩
  rcases h with h | h
  · rw [ha] at h
    have h := of_decide_eq_true h
    exact .inl ⟨h, by rw [hn, h]; decide⟩
  · rw [hn] at h
    have h' := of_decide_eq_true h
    exact .inr ⟨h', by rw [hn]; exact h⟩
noncomputable def spOne (K : PySem.W.Frag) (CE CK CR CF CO CG : Addr) : Sp := fun vs H Q E => ∃ (r a zf : Addr) (ns : List Int) (e : Nat) (below : Field), vs = [.ref r, .ref zf] ∧ TkAt K CK CR H r a ns e ∧ FieldAt CF H zf below ∧ Ma.Good (byt ns) e ∧ (ShBlazon.isWord (ts (byt ns) e) "a" || ShBlazon.isWord (ts (byt ns) e) "an") = true ∧
  Rk CE E (oneG below (ts (byt ns) e)) fun l s => ∀ z, H z = none → Go K CK CR H r a ns s fun H' => LayerAt CF CO CG H' z l → Q (.ref z) H'
section
variable {P : Program} {w : World} {K : PySem.W.Frag} {mg : Str → Option Value} {base : Heap} {CE NE fE CK fK CR fR fPk fSe fSO fAc fRe fAT fAN CF fF CO fO CG fG : Addr}
theorem sc_take_one : FnScope ["reader", "arms_field", "article"] ["reader", "arms_field"] (defScope s_take_one) := ⟨rfl, rfl, rfl, by decide +kernel, rfl, by decide +kernel, by decide +kernel⟩
theorem ok_take_one {f fY fGr fB aO aZ aC : Addr} {fdE fdA fdO fdR fdP fd : FuncData} (F : Fun K "take_one" "take_one" s_take_one f fd) (T : TX K mg CE NE fE CK fK) (M : TM7 K mg CR fR fPk fSe fSO fAc fRe fAT fAN) (U : TF7 K mg CR CF fF) (tO : Tb K mg "ORDINARIES" oO aO) (tZ : Tb K mg "SIZES" oZ aZ) (tC : Tb K mg "CHARGES" oC aC) (h7 : ∃ t, mg "WRONG_ARTICLE" = some (.int 7 t))
    (GE : FnOk P w K mg base (CXx P w) 1 fE fdE ["self", "kind", "place"] (spXI CE)) (bE : Binds K fdE ["self", "kind", "place"] [])
    (GA : FnOk P w K mg base (CXx P w) 5 fAc fdA ["self"] (spAc K CK CR)) (bA : Binds K fdA ["self"] [])
    (GO : FnOk P w K mg base (CXx P w) 5 fSO fdO ["self", "texts"] (spSO K CE CK CR)) (bO : Binds K fdO ["self", "texts"] [])
    (GR : FnOk P w K mg base (CXx P w) 5 fRe fdR ["self"] (spRe K CE CK CR)) (bR : Binds K fdR ["self"] [])
    (GP : FnOk P w K mg base (CXx P w) 4 fPk fdP ["self"] (spPk K CE CK CR)) (bP : Binds K fdP ["self"] [])
    (pY : PG P w K mg base "take_ordinary" 12 fY ["reader", "arms_field"] (spLy K CE CK CR CF CO CG ordG)) (pB : PG P w K mg base "article_before" 1 fB ["word"] spAB) (pG : PG P w K mg base "take_group" 12 fGr ["reader", "how_many", "arms_field"] (spGr K CE CK CR CF CO CG)) :
    FnOk P w K mg base (CXx P w) 13 f fd ["reader", "arms_field"] (spOne K CE CK CR CF CO CG) := by
  refine F.okX sc_take_one (fun vs H Q E h => ?_) (fun cdv A outer s H vs Q E hr h => ?_)
  · obtain ⟨r, a, zf, ns, e, below, rfl, _⟩ := h
    rfl
  · obtain ⟨r, a, zf, ns, e, below, rfl, R, hF, g, hart, k⟩ := h
    obtain ⟨dr, v', hR, hv⟩ := R.obj
    obtain ⟨t7, h7⟩ := h7
    have hr5 : Room 5 _ := hr.mono (by decide)
    have hr4 : Room 4 _ := hr.mono (by decide)
    have hr2 : Room 2 _ := hr.mono (by decide)
    have hr1 : Room 1 _ := hr.mono (by decide)
    refine ⟨_, pss_cons (ps_set (i := 2) sc_take_one.nd rfl (Or.inl rfl) (pe_meth0 (pv 0) M.R.cl M.mAc GA hr5 bA .nil (passX rfl flies)))
      (pss_cons (ps_if (PW.pt (pw_and (pt_cmpR op_eq (pe_fld (pv 2) rfl) pe_str (nomark _)) (pw_and1 (pt_val (pe_meth (pv 0) M.R.cl M.mSO GO hr5 bO .nil (passX rfl flies) (pa_cons (pe_glob (v := .ref aO) rfl tO.1 rfl) pa_nil))))))
        (pss_one (ps_ret (pe_pg pY hr rfl (passX rfl flies) (pa_cons (pv 0) (pa_cons (pv 1) pa_nil))))) pss_nil)
      (pss_cons (ps_if (PW.pt (pw_and (pt_not (pt_val (pe_meth (pv 0) M.R.cl M.mSO GO hr5 bO .nil (passX rfl flies) (pa_cons (pe_glob (v := .ref aZ) rfl tZ.1 rfl) pa_nil)))) (pw_and1 (pt_not (pt_val (pe_meth (pv 0) M.R.cl M.mSO GO hr5 bO .nil (passX rfl flies) (pa_cons (pe_glob (v := .ref aC) rfl tC.1 rfl) pa_nil)))))))
        (pss_one (ps_expr (pe_meth0 (pv 0) M.R.cl M.mRe GR hr5 bR .nil (passX rfl flies)))) pss_nil)
      (pss_cons (ps_if (pt_cmpR op_ne (pe_fld (pv 2) rfl) (pe_pg pB hr1 rfl passN (pa_cons (pe_fld (pe_meth0 (pv 0) M.R.cl M.mPk GP hr4 bP .nil (passX rfl flies)) rfl) pa_nil)) (nomark _))
        (pss_one (ps_raise T.xc GE hr2 rfl T.mgE bE rfl rfl flies (pa_cons (pe_glob (v := .int 7) rfl h7 ⟨t7, rfl⟩) (pa_cons (pe_fld (pv 2) rfl) pa_nil)))) pss_nil)
      (pss_one (ps_ret (pe_pg pG hr rfl (passX rfl flies) (pa_cons (pv 0) (pa_cons pe_int (pa_cons (pv 1) pa_nil))))))))), ?_⟩
    obtain ⟨hk, hcase⟩ := article g hart
    refine ⟨_, rfl, r, dr, _, rfl, hR, tf_no _ _ _ (by decide +kernel) (by decide +kernel) (by decide +kernel), r, a, ns, e, rfl, R, g, fun z H1 R1 t1 o1 => ?_⟩
    unfold oneG at k
    rw [drop_ts (by rw [hk]; decide), place_ts, at_bt] at k
    obtain ⟨dr1, v1, hR1, _⟩ := R1.obj
    have bad : Bad (ts (byt ns) (bn (byt ns) e)) → Fl CE E (ShBlazon.wanted (ts (byt ns) (bn (byt ns) e))) := fun y => by
      have : ShBlazon.single (ShBlazon.isWord (ts (byt ns) e) "an") (ts (byt ns) (bn (byt ns) e)) = false := by
        unfold ShBlazon.single
        rw [bad_look y, bad_look y, bad_look y]
        simp
      rw [if_pos this] at k
      exact k
    obtain ⟨dz, st, hz, hl⟩ := id t1
    have ea : tl "a" = [97] := by decide +kernel
    have ean : tl "an" = [97, 110] := by decide +kernel
    have rest : ∀ H2, TkAt K CK CR H2 r a ns (bn (byt ns) e) → Oth r H1 H2 → (ShBlazon.isWord (ts (byt ns) e) "an" = false → ShBlazon.look ShBlazon.ORDWORDS (ts (byt ns) (bn (byt ns) e)) = none) →
        tSeq (tIfS (tAnd (tNot (tB (tMeth CR "sees_one_of" (spSO K CE CK CR) [] E (tVar 0) (tCons (L2.tC (V.ref aZ)) tNil)))) (tNot (tB (tMeth CR "sees_one_of" (spSO K CE CK CR) [] E (tVar 0) (tCons (L2.tC (V.ref aC)) tNil))))) (tDrop (tMeth CR "refuse" (spRe K CE CK CR) [] E (tVar 0) tNil)) tNext)
          (tSeq (tIfS (tTest (tOp rNe (tFld K (tVar 2) "text") (tCall spAB [] E0 (tCons (tFld K (tMeth CR "peek" (spPk K CE CK CR) [] E (tVar 0) tNil) "text") tNil)))) (tRaise CE (spXI CE) E (tCons (L2.tC (V.int 7)) (tCons (tFld K (tVar 2) "place") tNil))) tNext)
            (tRet (tCall (spGr K CE CK CR CF CO CG) [] E (tCons (tVar 0) (tCons (L2.tC (V.int 1)) (tCons (tVar 1) tNil)))))) { nx := fun x H' => Q V.non H', rt := Q } [some (V.ref r), some (V.ref zf), some (V.ref z)] H2 := by
      intro H2 R2 o2 hno
      have o12 := o1.trans o2
      obtain ⟨dr2, v2, hR2, _⟩ := R2.obj
      have ekind : ∀ {l : List Bytes} {j : Nat}, ShBlazon.look l (ts (byt ns) (bn (byt ns) e)) = some j → (bt (byt ns) (bn (byt ns) e)).kind = 0 := fun {l j} y => by
        unfold ShBlazon.look at y
        rw [kind_ts] at y
        by_cases h0 : (bt (byt ns) (bn (byt ns) e)).kind = 0
        · exact h0
        · rw [if_neg h0] at y; cases y
      have chk : ∀ H3, TkAt K CK CR H3 r a ns (bn (byt ns) e) → Oth r H2 H3 → Ma.Good (byt ns) (bn (byt ns) e) → (txt (byt ns) (bn (byt ns) e)).length ≤ 100 → (bt (byt ns) (bn (byt ns) e)).kind = 0 → ((ShBlazon.look ShBlazon.SIZES (ts (byt ns) (bn (byt ns) e))).isSome || (ShBlazon.look ShBlazon.CHARGEWORDS (ts (byt ns) (bn (byt ns) e))).isSome) = true →
          tSeq (tIfS (tTest (tOp rNe (tFld K (tVar 2) "text") (tCall spAB [] E0 (tCons (tFld K (tMeth CR "peek" (spPk K CE CK CR) [] E (tVar 0) tNil) "text") tNil)))) (tRaise CE (spXI CE) E (tCons (L2.tC (V.int 7)) (tCons (tFld K (tVar 2) "place") tNil))) tNext)
            (tRet (tCall (spGr K CE CK CR CF CO CG) [] E (tCons (tVar 0) (tCons (L2.tC (V.int 1)) (tCons (tVar 1) tNil))))) { nx := fun x H' => Q V.non H', rt := Q } [some (V.ref r), some (V.ref zf), some (V.ref z)] H3 := by
        intro H3 R3 o3 g3 hlen hk3 hsc
        have o13 := o12.trans o3
        obtain ⟨dr3, v3, hR3, _⟩ := R3.obj
        have tz3 := (t1.oth hR1 R.ne o2).oth hR2 R.ne o3
        obtain ⟨dz3, st3, hz3, hl3⟩ := id tz3
        have hord : ShBlazon.look ShBlazon.ORDWORDS (ts (byt ns) (bn (byt ns) e)) = none := by
          cases q : ShBlazon.look ShBlazon.ORDWORDS (ts (byt ns) (bn (byt ns) e)) with
          | none => rfl
          | some o =>
            obtain ⟨_, q2, q3⟩ := ord_look g3 q
            rw [q2, q3] at hsc; cases hsc
        have hs : ¬ ShBlazon.single (ShBlazon.isWord (ts (byt ns) e) "an") (ts (byt ns) (bn (byt ns) e)) = false := by
          unfold ShBlazon.single
          rw [hsc]; simp
        rw [if_neg hs, hord] at k
        dsimp only at k
        refine ⟨_, rfl, z, CK, dz3, _, _, rfl, hz3, T.K.cl, T.K.no _ (by decide +kernel), kf_text _ _ _, _, rfl, r, dr3, _, rfl, hR3, tf_no _ _ _ (by decide +kernel) (by decide +kernel) (by decide +kernel), r, a, ns, _, rfl, R3, bad, fun g4 z4 H4 R4 t4 o4 => ?_⟩
        have o14 := o13.trans o4
        obtain ⟨dr4, v4, hR4, _⟩ := R4.obj
        obtain ⟨dz4, st4, hz4, hl4⟩ := t4
        have tz4 : TokAt CK H4 z (txt (byt ns) e) (bq (byt ns) e) (bn (byt ns) e) := tz3.oth hR3 R.ne o4
        obtain ⟨dz5, st5, hz5, hl5⟩ := tz4
        refine ⟨z4, CK, dz4, _, _, rfl, hz4, T.K.cl, T.K.no _ (by decide +kernel), kf_text _ _ _, st4, rfl, (by rw [len_tl, hl4]; omega), ?_, rfl, _, rfl, ?_⟩
        · rw [hl4]
          intro y
          rw [← end_txt g3] at y; omega
        · rw [vowel_art g3 hk3 hl4]
          have go : ShBlazon.vowel (ShBlazon.wordOf (ts (byt ns) (bn (byt ns) e))) = ShBlazon.isWord (ts (byt ns) e) "an" → tCall (spGr K CE CK CR CF CO CG) [] E (tCons (tVar 0) (tCons (L2.tC (V.int 1)) (tCons (tVar 1) tNil))) [some (V.ref r), some (V.ref zf), some (V.ref z)] H4 Q := fun y => by
            rw [if_neg (fun q => q y)] at k
            refine ⟨_, rfl, _, rfl, r, a, zf, ns, _, 1, below, rfl, R4, hF.oth hR U.ne o14, ?_⟩
            show Rk CE E (ShBlazon.groupAt below 1 ShBlazon.CHARGEWORDS _) _
            cases q4 : ShBlazon.groupAt below 1 ShBlazon.CHARGEWORDS (ts (byt ns) (bn (byt ns) e)) with
            | error f => rw [q4] at k; exact k
            | ok x =>
              rw [q4] at k
              exact fun z hz e' H' h1 h2 h3 h4 => k z (free_of o14 hR4 hz) e' H' h1 h2 (o14.trans h3) h4
          have no : ¬ ShBlazon.vowel (ShBlazon.wordOf (ts (byt ns) (bn (byt ns) e))) = ShBlazon.isWord (ts (byt ns) e) "an" → ∀ D, tRaise CE (spXI CE) E (tCons (L2.tC (V.int 7)) (tCons (tFld K (tVar 2) "place") tNil)) D [some (V.ref r), some (V.ref zf), some (V.ref z)] H4 := fun y D => by
            rw [if_pos y] at k
            exact ⟨_, rfl, z, CK, dz5, _, _, rfl, hz5, T.K.cl, T.K.no _ (by decide +kernel), kf_place _ _ _, (by show 2 ≤ 1000; decide), raise_fl k H4⟩
          rw [dstr, hl3]
          cases qv : ShBlazon.vowel (ShBlazon.wordOf (ts (byt ns) (bn (byt ns) e))) with
          | true =>
            rw [qv] at go no
            rw [if_pos rfl, ean]
            rcases hcase with ⟨h1, h2⟩ | ⟨h1, h2⟩
            · rw [h2] at no
              exact iteP (by rw [h1]; decide) (no (by decide) _)
            · rw [h2] at go
              exact iteN (by rw [h1]; decide) (go rfl)
          | false =>
            rw [qv] at go no
            rw [if_neg Bool.false_ne_true, ea]
            rcases hcase with ⟨h1, h2⟩ | ⟨h1, h2⟩
            · rw [h2] at go
              exact iteN (by rw [h1]; decide) (go rfl)
            · rw [h2] at no
              exact iteP (by rw [h1]; decide) (no (by decide) _)
      have len_of : ∀ {os : List (Option Str)} {l : List Bytes} {sin j : Nat}, tbOk os l sin = true → Ma.Good (byt ns) (bn (byt ns) e) → ShBlazon.look l (ts (byt ns) (bn (byt ns) e)) = some j → (txt (byt ns) (bn (byt ns) e)).length ≤ 100 := fun {os l sin j} hT g3 y => by
        have h0 := ekind y
        have hc := hT
        unfold tbOk at hc
        rw [Bool.and_eq_true] at hc
        rw [look_txt g3 hc.1, idx_map] at y
        refine (tb_at hT y ?_).1
        rcases txt_kind g3 with ⟨_, _, _, k3, _⟩ | ⟨y, _⟩ | ⟨y, _⟩ | ⟨y, _⟩
        · exact k3
        · omega
        · omega
        · omega
      refine ⟨_, rfl, r, dr2, _, rfl, hR2, tf_no _ _ _ (by decide +kernel) (by decide +kernel) (by decide +kernel), r, a, ns, _, _, oZ, rfl, R2, fun H' _ => tZ.nm H', bad, fun g3 H3 R3 o3 => ?_⟩
      obtain ⟨dr3, v3, hR3, _⟩ := R3.obj
      refine ⟨_, rfl, ?_⟩
      rw [has_look g3 kZ]
      cases qz : ShBlazon.look ShBlazon.SIZES (ts (byt ns) (bn (byt ns) e)) with
      | some j =>
        refine iteN Bool.false_ne_true ?_
        refine iteN Bool.false_ne_true ?_
        exact chk H3 R3 o3 g3 (len_of kZ g3 qz) (ekind qz) (by rw [qz]; rfl)
      | none =>
        refine iteP rfl ?_
        refine ⟨_, rfl, r, dr3, _, rfl, hR3, tf_no _ _ _ (by decide +kernel) (by decide +kernel) (by decide +kernel), r, a, ns, _, _, oC, rfl, R3, fun H' _ => tC.nm H', bad, fun _ H4 R4 o4 => ?_⟩
        obtain ⟨dr4, v4, hR4, _⟩ := R4.obj
        refine ⟨_, rfl, ?_⟩
        rw [has_look g3 kC]
        cases qc : ShBlazon.look ShBlazon.CHARGEWORDS (ts (byt ns) (bn (byt ns) e)) with
        | some j =>
          refine iteN Bool.false_ne_true ?_
          exact chk H4 R4 (o3.trans o4) g3 (len_of kC g3 qc) (ekind qc) (by rw [qz, qc]; rfl)
        | none =>
          refine iteP rfl ?_
          have hs : ShBlazon.single (ShBlazon.isWord (ts (byt ns) e) "an") (ts (byt ns) (bn (byt ns) e)) = false := by
            unfold ShBlazon.single
            rw [qz, qc]
            cases qa : ShBlazon.isWord (ts (byt ns) e) "an" with
            | true => rfl
            | false => rw [hno qa]; rfl
          rw [if_pos hs] at k
          exact ⟨_, rfl, r, dr4, _, rfl, hR4, tf_no _ _ _ (by decide +kernel) (by decide +kernel) (by decide +kernel), r, a, ns, _, rfl, R4, k⟩
    refine ⟨_, rfl, z, CK, dz, _, _, rfl, hz, T.K.cl, T.K.no _ (by decide +kernel), kf_text _ _ _, rfl, _, rfl, ?_⟩
    rw [dstr, hl, ea]
    rcases hcase with ⟨h1, h2⟩ | ⟨h1, h2⟩
    · refine iteP (decide_eq_true h1) ?_
      refine ⟨_, rfl, r, dr1, _, rfl, hR1, tf_no _ _ _ (by decide +kernel) (by decide +kernel) (by decide +kernel), r, a, ns, _, _, oO, rfl, R1, fun H' _ => tO.nm H', bad, fun g1 H2 R2 o2 => ?_⟩
      refine ⟨_, rfl, ?_⟩
      rw [has_look g1 kO]
      cases q : ShBlazon.look ShBlazon.ORDWORDS (ts (byt ns) (bn (byt ns) e)) with
      | none =>
        refine iteN Bool.false_ne_true ?_
        exact rest H2 R2 o2 fun _ => q
      | some o =>
        refine iteP rfl ?_
        obtain ⟨q1, q2, q3⟩ := ord_look g1 q
        have hs : ¬ ShBlazon.single (ShBlazon.isWord (ts (byt ns) e) "an") (ts (byt ns) (bn (byt ns) e)) = false := by
          unfold ShBlazon.single
          rw [h2, q, q2, q3]; simp
        rw [if_neg hs, q1, h2, if_neg (by simp), q] at k
        have o12 := o1.trans o2
        obtain ⟨dr2, v2, hR2, _⟩ := R2.obj
        refine ⟨_, rfl, _, rfl, r, a, zf, ns, _, below, rfl, R2, hF.oth hR U.ne o12, ?_⟩
        rw [ord_eq, q]
        dsimp only at k ⊢
        cases q4 : ShBlazon.ordAt below o ((ts (byt ns) (bn (byt ns) e)).drop 1) with
        | error f => rw [q4] at k; exact k
        | ok x =>
          rw [q4] at k
          exact fun z hz e' H' h1 h2 h3 h4 => k z (free_of o12 hR2 hz) e' H' h1 h2 (o12.trans h3) h4
    · refine iteN (by rw [h1]; decide) ?_
      refine iteN Bool.false_ne_true ?_
      exact rest H1 R1 (Oth.refl _ _) fun y => by rw [h2] at y; cases y
end
theorem look_wN {b : Bytes} {e : Nat} (g : Ma.Good b e) : ShBlazon.look wN (ts b e) = (ShBlazon.look ShBlazon.COUNTS (ts b e)).map (· + 2) := by
  unfold ShBlazon.look
  by_cases h0 : ShBlazon.kindOf (ts b e) = 0
  · rw [if_pos h0, if_pos h0]
    have ne : ¬ ShBlazon.wordOf (ts b e) = [] := by
      rw [word_ts]
      rw [kind_ts] at h0
      rcases txt_kind g with ⟨_, _, k2, _⟩ | ⟨y, _⟩ | ⟨y, _⟩ | ⟨y, _⟩
      · exact k2
      · omega
      · omega
      · omega
    have e1 : (([] : Bytes) == ShBlazon.wordOf (ts b e)) = false := by rw [beq_eq_false_iff_ne]; exact fun y => ne y.symm
    unfold wN
    rw [List.findIdx?_cons, e1, List.findIdx?_cons, e1]
    cases ShBlazon.COUNTS.findIdx? fun w => w == ShBlazon.wordOf (ts b e) <;> rfl
  · rw [if_neg h0, if_neg h0]; rfl
theorem layer_eq (below : Field) (s : BSt) : ShBlazon.layerAt below s = if (ShBlazon.isWord s "a" || ShBlazon.isWord s "an") = true then oneG below s else match ShBlazon.eat ShBlazon.COUNTS s with
    | .error e => .error e
    | .ok n => ShBlazon.groupAt below (n.1 + 2) ShBlazon.SEVERAL n.2 := rfl
theorem bad_layer {s : BSt} (h : Bad s) (f : Field) : ShBlazon.layerAt f s = .error (ShBlazon.wanted s) := by
  rw [layer_eq, bad_word h, bad_word h, bad_eat h]; rfl
section
variable {P : Program} {w : World} {K : PySem.W.Frag} {mg : Str → Option Value} {base : Heap} {CE NE fE CK fK CR fR fPk fSe fSO fAc fRe fAT fAN CF fF CO fO CG fG : Addr}
theorem sc_take_layer : FnScope ["reader", "arms_field", "how_many"] ["reader", "arms_field"] (defScope s_take_layer) := ⟨rfl, rfl, rfl, by decide +kernel, rfl, by decide +kernel, by decide +kernel⟩
theorem ok_take_layer {f fOn fN fGr aN : Addr} {fdS fd : FuncData} (F : Fun K "take_layer" "take_layer" s_take_layer f fd) (M : TM7 K mg CR fR fPk fSe fSO fAc fRe fAT fAN) (U : TF7 K mg CR CF fF) (tN : Tb K mg "COUNTS" oN aN)
    (GS : FnOk P w K mg base (CXx P w) 5 fSe fdS ["self", "text"] (spSe K CE CK CR)) (bS : Binds K fdS ["self", "text"] [])
    (pO : PG P w K mg base "take_one" 13 fOn ["reader", "arms_field"] (spOne K CE CK CR CF CO CG)) (pN : PG P w K mg base "take_name" 6 fN ["reader", "names"] (spTN K CE CK CR)) (pG : PG P w K mg base "take_group" 12 fGr ["reader", "how_many", "arms_field"] (spGr K CE CK CR CF CO CG)) :
    FnOk P w K mg base (CXx P w) 14 f fd ["reader", "arms_field"] (spLy K CE CK CR CF CO CG ShBlazon.layerAt) := by
  refine F.okX sc_take_layer (fun vs H Q E h => ?_) (fun cdv A outer s H vs Q E hr h => ?_)
  · obtain ⟨r, a, zf, ns, e, below, rfl, _⟩ := h
    rfl
  · obtain ⟨r, a, zf, ns, e, below, rfl, R, hF, k⟩ := h
    obtain ⟨dr, v', hR, hv⟩ := R.obj
    have hr5 : Room 5 _ := hr.mono (by decide)
    have hr6 : Room 6 _ := hr.mono (by decide)
    have hr12 : Room 12 _ := hr.mono (by decide)
    refine ⟨_, pss_cons (ps_if (PW.pt (pw_or (pt_val (pe_meth (pv 0) M.R.cl M.mSe GS hr5 bS .nil (passX rfl flies) (pa_cons pe_str pa_nil))) (pw_or1 (pt_val (pe_meth (pv 0) M.R.cl M.mSe GS hr5 bS .nil (passX rfl flies) (pa_cons pe_str pa_nil))))))
        (pss_one (ps_ret (pe_pg pO hr rfl (passX rfl flies) (pa_cons (pv 0) (pa_cons (pv 1) pa_nil))))) pss_nil)
      (pss_cons (ps_set (i := 2) sc_take_layer.nd rfl (Or.inl rfl) (pe_pg pN hr6 rfl (passX rfl flies) (pa_cons (pv 0) (pa_cons (pe_glob (v := .ref aN) rfl tN.1 rfl) pa_nil))))
      (pss_one (ps_ret (pe_pg pG hr12 rfl (passX rfl flies) (pa_cons (pv 0) (pa_cons (pv 2) (pa_cons (pv 1) pa_nil))))))), ?_⟩
    have bad : Bad (ts (byt ns) e) → Fl CE E (ShBlazon.wanted (ts (byt ns) e)) := fun y => by rw [bad_layer y] at k; exact k
    have ea : tl "a" = [97] := by decide +kernel
    have ean : tl "an" = [97, 110] := by decide +kernel
    rw [layer_eq] at k
    have one : ∀ H', TkAt K CK CR H' r a ns e → Oth r H H' → Ma.Good (byt ns) e → (ShBlazon.isWord (ts (byt ns) e) "a" || ShBlazon.isWord (ts (byt ns) e) "an") = true → spOne K CE CK CR CF CO CG [V.ref r, V.ref zf] H' Q E := fun H' R' o' g' y => by
      rw [if_pos y] at k
      obtain ⟨dr', v', hR', _⟩ := R'.obj
      refine ⟨r, a, zf, ns, e, below, rfl, R', hF.oth hR U.ne o', g', y, ?_⟩
      cases q4 : oneG below (ts (byt ns) e) with
      | error f => rw [q4] at k; exact k
      | ok x =>
        rw [q4] at k
        exact fun z hz e' H'' h1 h2 h3 h4 => k z (free_of o' hR' hz) e' H'' h1 h2 (o'.trans h3) h4
    refine ⟨_, rfl, r, dr, _, rfl, hR, tf_no _ _ _ (by decide +kernel) (by decide +kernel) (by decide +kernel), r, a, ns, e, "a", rfl, R, bad, fun g H1 R1 o1 => ?_⟩
    have ha := word_txt (w := "a") (c := 97) (r := []) g (by decide +kernel) (by decide +kernel)
    have hn := word_txt (w := "an") (c := 97) (r := [110]) g (by decide +kernel) (by decide +kernel)
    obtain ⟨dr1, v1, hR1, _⟩ := R1.obj
    refine ⟨_, rfl, ?_⟩
    rw [ea]
    by_cases q1 : txt (byt ns) e = [97]
    · refine iteP (decide_eq_true q1) (iteP rfl ?_)
      exact ⟨_, rfl, _, rfl, one H1 R1 o1 g (by rw [ha, decide_eq_true q1]; rfl)⟩
    · refine iteN (by rw [decide_eq_false q1]; exact Bool.false_ne_true) ?_
      refine ⟨_, rfl, r, dr1, _, rfl, hR1, tf_no _ _ _ (by decide +kernel) (by decide +kernel) (by decide +kernel), r, a, ns, e, "an", rfl, R1, bad, fun _ H2 R2 o2 => ?_⟩
      obtain ⟨dr2, v2, hR2, _⟩ := R2.obj
      have o12 := o1.trans o2
      refine ⟨_, rfl, ?_⟩
      rw [ean]
      by_cases q2 : txt (byt ns) e = [97, 110]
      · refine iteP (decide_eq_true q2) ?_
        exact ⟨_, rfl, _, rfl, one H2 R2 o12 g (by rw [hn, decide_eq_true q2, Bool.or_true])⟩
      · refine iteN (by rw [decide_eq_false q2]; exact Bool.false_ne_true) ?_
        rw [ha, hn, decide_eq_false q1, decide_eq_false q2, if_neg (by decide)] at k
        refine ⟨_, rfl, r, a, ns, e, _, oN, wN, 99, rfl, R2, fun H' _ => tN.nm H', kN, ?_⟩
        rw [name_eat (l := wN) (by decide)]
        unfold ShBlazon.eat at k ⊢
        rw [look_wN g]
        cases q3 : ShBlazon.look ShBlazon.COUNTS (ts (byt ns) e) with
        | none => rw [q3] at k; exact k
        | some n =>
          rw [q3] at k
          dsimp only at k
          have hn9 : n < 9 := look_lt q3
          refine ⟨fun y => by
            have y : some (n + 2) = some 99 := y
            injection y with y; omega, fun e3 H3 hs3 R3 o3 => ?_⟩
          have hs3 : (ts (byt ns) e).drop 1 = ts (byt ns) e3 := hs3
          rw [hs3] at k
          have o13 := o12.trans o3
          obtain ⟨dr3, v3, hR3, _⟩ := R3.obj
          refine ⟨_, rfl, _, rfl, _, rfl, r, a, zf, ns, e3, n + 2, below, rfl, R3, hF.oth hR U.ne o13, ?_⟩
          have ec : chL (n + 2) = ShBlazon.SEVERAL := by unfold chL; rw [if_neg (by omega)]
          rw [ec]
          cases q4 : ShBlazon.groupAt below (n + 2) ShBlazon.SEVERAL (ts (byt ns) e3) with
          | error f => rw [q4] at k; exact k
          | ok x =>
            rw [q4] at k
            exact fun z hz e' H' h1 h2 h3 h4 => k z (free_of o13 hR3 hz) e' H' h1 h2 (o13.trans h3) h4
end
noncomputable def spRB (K : PySem.W.Frag) (CE CF CO CG CA : Addr) : Sp := fun vs H Q E => ∃ (a : Addr) (ns : List Int), vs = [.ref a] ∧ Byts ns ∧ ns.length ≤ 4096 ∧ SqF K H a (ns.map V.int) ∧
  match ShBlazon.read (byt ns) with
  | .error f => Fl CE E f
  | .ok x => ∀ H' z, Same H H' → H z = none → ArmsAt CF CO CG CA H' z x → Q (.ref z) H'
noncomputable def Kp (CR : Addr) (H H' : Hp) : Prop := ∀ b C d fs, C ≠ CR → H b = some (.ins C d fs) → H' b = some (.ins C d fs)
theorem Kp.of_oth {CR r dr : Addr} {fs : List (Str × V)} {H H' : Hp} (h : H r = some (.ins CR dr fs)) (o : Oth r H H') : Kp CR H H' := fun b C d gs hc e => o b _ (ne_of e h (by intro z; injection z with z; exact hc z)) e
theorem Kp.of_same {CR : Addr} {H H' : Hp} (s : Same H H') : Kp CR H H' := fun b C d gs _ e => s _ _ e
theorem Kp.lst {CR l : Addr} {xs ys : List V} {H : Hp} (h : H l = some (.lst xs)) : Kp CR H (upd H l (.lst ys)) := fun b C d gs _ e => by rw [upd_ne (ne_of e h (by intro z; cases z))]; exact e
theorem FieldAt.kp {CF CR z : Addr} {H H' : Hp} {f : Field} (x : FieldAt CF H z f) (n : CF ≠ CR) (k : Kp CR H H') : FieldAt CF H' z f := let ⟨d, e⟩ := x; ⟨d, k _ _ _ _ n e⟩
theorem FillAt.kp {CF CR : Addr} {v : V} {H H' : Hp} {f : Fill} (x : FillAt CF H v f) (n : CF ≠ CR) (k : Kp CR H H') : FillAt CF H' v f := by
  cases f with
  | counter => exact x
  | solid f => obtain ⟨y, e, q⟩ := x; exact ⟨y, e, q.kp n k⟩
theorem LayerAt.kp {CF CO CG CR z : Addr} {H H' : Hp} {l : Layer} (x : LayerAt CF CO CG H z l) (n : CF ≠ CR) (n2 : CO ≠ CR) (n3 : CG ≠ CR) (k : Kp CR H H') : LayerAt CF CO CG H' z l := by
  cases l with
  | ord o l f => obtain ⟨d, v, e, q⟩ := x; exact ⟨d, v, k _ _ _ _ n2 e, q.kp n k⟩
  | group c n' m s f => obtain ⟨d, v, e, q⟩ := x; exact ⟨d, v, k _ _ _ _ n3 e, q.kp n k⟩
theorem LayersAt.kp {CF CO CG CR : Addr} {H H' : Hp} {zs : List Addr} {ls : List Layer} (x : LayersAt CF CO CG H zs ls) (n : CF ≠ CR) (n2 : CO ≠ CR) (n3 : CG ≠ CR) (k : Kp CR H H') : LayersAt CF CO CG H' zs ls :=
  Paired.mapP x fun _ _ q => q.kp n n2 n3 k
theorem TkAt.lst {K : PySem.W.Frag} {CK CR : Addr} {H : Hp} {r a l : Addr} {ns : List Int} {e : Nat} {xs ys : List V} (R : TkAt K CK CR H r a ns e) (h : H l = some (.lst xs)) : TkAt K CK CR (upd H l (.lst ys)) r a ns e := by
  obtain ⟨dr, v, h1, h2⟩ := R.obj
  have kp : ∀ b C d gs, H b = some (.ins C d gs) → upd H l (.lst ys) b = some (.ins C d gs) := fun b C d gs e => by rw [upd_ne (ne_of e h (by intro z; cases z))]; exact e
  refine ⟨R.byts, R.sz, ⟨dr, v, kp _ _ _ _ h1, ?_⟩, R.seq.keep fun ob u q => by rw [upd_ne (ne_of q h (by intro z; cases z))]; exact q, R.le, R.ne⟩
  rcases h2 with h2 | ⟨z, e1, ⟨dz, st, hz, hl⟩, g⟩
  · exact .inl h2
  · exact .inr ⟨z, e1, ⟨dz, st, kp _ _ _ _ hz, hl⟩, g⟩
theorem lay_end (f : Field) (j : Nat) {s : BSt} (h : ShBlazon.kindOf s = 3) : ShBlazon.layersAt f j s = .ok [] := by
  cases j <;> (unfold ShBlazon.layersAt; rw [if_neg (by omega), if_pos h])
theorem lay_else (f : Field) (j : Nat) {s : BSt} (h2 : ¬ ShBlazon.kindOf s = 2) (h3 : ¬ ShBlazon.kindOf s = 3) : ShBlazon.layersAt f j s = .error (ShBlazon.wanted s) := by
  cases j <;> (unfold ShBlazon.layersAt; rw [if_neg h2, if_neg h3])
theorem lay_full (f : Field) {s : BSt} (h : ShBlazon.kindOf s = 2) : ShBlazon.layersAt f 0 s = .error (8, ShBlazon.place s) := by
  unfold ShBlazon.layersAt; rw [if_pos h]
theorem lay_more (f : Field) (j : Nat) {s : BSt} (h : ShBlazon.kindOf s = 2) : ShBlazon.layersAt f (j + 1) s = match ShBlazon.layerAt f (s.drop 1) with
      | .error e => .error e
      | .ok x => match ShBlazon.layersAt f j x.2 with
        | .error e => .error e
        | .ok l => .ok (x.1 :: l) := by
  rw [ShBlazon.layersAt, if_pos h]
  rfl
section
variable {P : Program} {w : World} {K : PySem.W.Frag} {mg : Str → Option Value} {base : Heap} {CE NE fE CK fK CR fR fPk fSe fSO fAc fRe fAT fAN CF fF CO fO CG fG CA fA : Addr}
theorem sc_read_blazon : FnScope ["data", "reader", "field", "layers", "comma"] ["data"] (defScope s_read_blazon) := ⟨rfl, rfl, rfl, by decide +kernel, rfl, by decide +kernel, by decide +kernel⟩
theorem ok_read_blazon {f fD fY : Addr} {fdE fdI fdS fdA fdX fd : FuncData} (F : Fun K "read_blazon" "read_blazon" s_read_blazon f fd) (T : TX K mg CE NE fE CK fK) (V7 : TG7 mg) (M : TM7 K mg CR fR fPk fSe fSO fAc fRe fAT fAN) (U : TF7 K mg CR CF fF) (RA : RC K mg "Arms" CA fA ["field", "layers"]) (nK : CK ≠ CR) (nO : CO ≠ CR) (nG : CG ≠ CR)
    (h8 : ∃ t, mg "MOST_LAYERS" = some (.int 8 t)) (h8' : ∃ t, mg "NINTH_LAYER" = some (.int 8 t))
    (GE : FnOk P w K mg base (CXx P w) 1 fE fdE ["self", "kind", "place"] (spXI CE)) (bE : Binds K fdE ["self", "kind", "place"] [])
    (GI : FnOk P w K mg base (CXx P w) 1 fR fdI ["self", "data"] (spTI CR)) (bI : Binds K fdI ["self", "data"] [])
    (GS : FnOk P w K mg base (CXx P w) 5 fSe fdS ["self", "text"] (spSe K CE CK CR)) (bS : Binds K fdS ["self", "text"] [])
    (GA : FnOk P w K mg base (CXx P w) 6 fAT fdA ["self", "text"] (spAT K CE CK CR)) (bA : Binds K fdA ["self", "text"] [])
    (GX : FnOk P w K mg base (CXx P w) 1 fA fdX ["self", "field", "layers"] (spAI CA)) (bX : Binds K fdX ["self", "field", "layers"] [])
    (pD : PG P w K mg base "take_field" 10 fD ["reader"] (spFd K CE CK CR CF ShBlazon.fieldAt)) (pY : PG P w K mg base "take_layer" 14 fY ["reader", "arms_field"] (spLy K CE CK CR CF CO CG ShBlazon.layerAt)) :
    FnOk P w K mg base (CXx P w) 15 f fd ["data"] (spRB K CE CF CO CG CA) := by
  refine F.okX sc_read_blazon (fun vs H Q E h => ?_) (fun cdv A outer s H vs Q E hr h => ?_)
  · obtain ⟨a, ns, rfl, _⟩ := h
    rfl
  · obtain ⟨a, ns, rfl, hb, hn, hS, k⟩ := h
    obtain ⟨t8, h8⟩ := h8
    obtain ⟨t9, h9⟩ := h8'
    obtain ⟨tC, hC⟩ := V7.C
    have hr10 : Room 10 _ := hr.mono (by decide)
    have hr6 : Room 6 _ := hr.mono (by decide)
    have hr5 : Room 5 _ := hr.mono (by decide)
    have hr2 : Room 2 _ := hr.mono (by decide)
    refine ⟨_, pss_cons (ps_set (i := 1) sc_read_blazon.nd rfl (Or.inl rfl) (pe_make M.R.mkc GI hr2 rfl M.R.at_ bI .nil passN (pa_cons (pv 0) pa_nil)))
      (pss_cons (ps_set (i := 2) sc_read_blazon.nd rfl (Or.inl rfl) (pe_pg pD hr10 rfl (passX rfl flies) (pa_cons (pv 1) pa_nil)))
      (pss_cons (ps_set (i := 3) sc_read_blazon.nd rfl (Or.inl rfl) (pe_lst pa_nil))
      (pss_cons (ps_while PassesOwn.leaving (pt_not (pt_val (pe_meth (pv 1) M.R.cl M.mSe GS hr5 bS .nil (passX rfl flies) (pa_cons pe_str pa_nil))))
        (pss_cons (ps_set (i := 4) sc_read_blazon.nd rfl (Or.inl rfl) (pe_meth (pv 1) M.R.cl M.mAT GA hr6 bA .nil (passX rfl flies) (pa_cons (pe_glob (v := .str ",") rfl hC ⟨tC, rfl⟩) pa_nil)))
        (pss_cons (ps_if (pt_cmpR op_eq (pe_callB call_len_seq (by rfl) T.len PySem.boot_len (pa_cons (pv 3) pa_nil)) (pe_glob (v := .int 8) rfl h8 ⟨t8, rfl⟩) (nomark _)) (pss_one (ps_raise T.xc GE hr2 rfl T.mgE bE rfl rfl flies (pa_cons (pe_glob (v := .int 8) rfl h9 ⟨t9, rfl⟩) (pa_cons (pe_fld (pv 4) rfl) pa_nil)))) pss_nil)
        (pss_one (ps_expr (pe_bm PySem.F.plainAttrs_list PySem.F.slot_list_append PySem.F.type_list_append mt_append (pv 3) (pa_cons (pe_pg pY hr rfl (passX rfl flies) (pa_cons (pv 1) (pa_cons (pv 2) pa_nil))) pa_nil)))))))
      (pss_one (ps_ret (pe_make RA.mkc GX hr2 rfl RA.at_ bX .nil passN (pa_cons (pv 2) (pa_cons (pv 3) pa_nil)))))))), ?_⟩
    refine ⟨_, rfl, fun r dx nr nd ne => ⟨r, dx, a, rfl, upd_same, fun H1 hr1 o1 => ⟨rfl, ?_⟩⟩⟩
    have s1 : Same H H1 := Same.made nr nd fun b o e hb => o1 b o hb e
    have R1 : TkAt K CK CR H1 r a ns 0 := ⟨hb, hn, ⟨dx, .non, hr1, .inl rfl⟩, hS.keep fun o u q => s1 _ _ q, Nat.zero_le _, nK⟩
    let G : Except (Nat × Nat) Arms → Prop := fun x => match x with
      | .error f => Fl CE E f
      | .ok x => ∀ H' z, Same H H' → H z = none → ArmsAt CF CO CG CA H' z x → Q (.ref z) H'
    have g0 : G (ShBlazon.read (byt ns)) := by
      cases e : ShBlazon.read (byt ns) with
      | error e' => rw [e] at k; exact k
      | ok x => rw [e] at k; exact k
    unfold ShBlazon.read at g0
    rw [tokens_ts] at g0
    refine ⟨_, rfl, r, a, ns, 0, rfl, R1, ?_⟩
    cases q1 : ShBlazon.fieldAt (ts (byt ns) 0) with
    | error f => rw [q1] at g0; exact g0
    | ok x1 =>
      rw [q1] at g0
      dsimp only at g0
      intro zf nzf e1 H2 hs2 R2 o2 hF2
      obtain ⟨dr2, v2, hR2, _⟩ := R2.obj
      have hs2 : x1.2 = ts (byt ns) e1 := hs2
      rw [hs2] at g0
      let GL : Except (Nat × Nat) (List Layer) → List Layer → Prop := fun x acc => match x with
        | .error e => Fl CE E e
        | .ok l => G (.ok ⟨x1.1, acc ++ l⟩)
      have g3 : GL (ShBlazon.layersAt x1.1 8 (ts (byt ns) e1)) [] := by
        have g0 : G (match ShBlazon.layersAt x1.1 8 (ts (byt ns) e1) with | .error e => .error e | .ok l => .ok ⟨x1.1, l⟩) := g0
        cases e3 : ShBlazon.layersAt x1.1 8 (ts (byt ns) e1) with
        | error e => rw [e3] at g0; exact g0
        | ok l => rw [e3] at g0; exact g0
      refine ⟨Nat.zero_le _, fun l hl => ?_⟩
      have s3 : Same H2 (upd H2 l (.lst [])) := fun b o e => by rw [upd_ne (ne_of_none e hl)]; exact e
      have hlH : H l = none := by
        cases q : H l with
        | none => rfl
        | some o =>
          have z := o2 l o (ne_of_none q nr) (s1 _ _ q)
          rw [hl] at z; cases z
      refine ⟨fun m σ H' => ∃ (yv : Option V) (zs : List Addr) (acc : List Layer) (e : Nat), σ = [some (.ref a), some (.ref r), some (.ref zf), some (.ref l), yv] ∧ H' l = some (.lst (zs.map V.ref)) ∧ zs.length ≤ 8 ∧ m = 8 - zs.length ∧ TkAt K CK CR H' r a ns e ∧ Same H H' ∧
          FieldAt CF H' zf x1.1 ∧ LayersAt CF CO CG H' zs acc ∧ GL (ShBlazon.layersAt x1.1 (8 - zs.length) (ts (byt ns) e)) acc,
        ⟨_, none, [], [], e1, rfl, upd_same, Nat.zero_le _, rfl, R2.same s3, fun b o e => s3 _ _ (o2 b o (ne_of_none e nr) (s1 _ _ e)), hF2.sm s3, .nil, g3⟩, ?_⟩
      rintro m σ H5 ⟨yv, zs, acc, e, rfl, hl5, hz8, rfl, R5, s5, hF5, hL5, g⟩
      obtain ⟨dr5, v5, hR5, _⟩ := R5.obj
      have bad : Bad (ts (byt ns) e) → Fl CE E (ShBlazon.wanted (ts (byt ns) e)) := fun y => by rw [bad_layers y] at g; exact g
      refine ⟨_, rfl, r, dr5, _, rfl, hR5, tf_no _ _ _ (by decide +kernel) (by decide +kernel) (by decide +kernel), r, a, ns, e, "", rfl, R5, bad, fun gd H6 R6 o6 => ?_⟩
      obtain ⟨dr6, v6, hR6, _⟩ := R6.obj
      have kp6 : Kp CR H5 H6 := Kp.of_oth hR5 o6
      have hl6 : H6 l = some (.lst (zs.map V.ref)) := o6 l _ (ne_of hl5 hR5 (by intro z; cases z)) hl5
      have s6 : Same H H6 := fun b o e => o6 b o (ne_of_none e nr) (s5 _ _ e)
      refine ⟨_, rfl, ?_⟩
      have et : tl "" = [] := by decide +kernel
      rw [et]
      have hF6 := hF5.kp U.ne kp6
      have hL6 := hL5.kp U.ne nO nG kp6
      by_cases q3 : txt (byt ns) e = []
      · refine iteN (by rw [decide_eq_true q3]; decide) ?_
        rw [lay_end _ _ (by rw [kind_ts]; exact (end_txt gd).mpr q3)] at g
        have g6 : ∀ H' z, Same H H' → H z = none → ArmsAt CF CO CG CA H' z ⟨x1.1, acc ++ []⟩ → Q (.ref z) H' := g
        rw [List.append_nil] at g6
        refine ⟨_, rfl, _, rfl, fun z dz nz nd' ne' => ⟨z, dz, _, _, rfl, upd_same, fun H7 hz o7 => ⟨rfl, ?_⟩⟩⟩
        have s7 : Same H6 H7 := Same.made nz nd' fun b o e hb => o7 b o hb e
        exact g6 H7 z (fun b o e => s7 _ _ (s6 _ _ e)) (s6.free nz) ⟨dz, zf, l, zs, hz, hF6.sm s7, s7 _ _ hl6, hL6.kp U.ne nO nG (Kp.of_same s7)⟩
      · refine iteP (by rw [decide_eq_false q3]; rfl) ?_
        have n3 : ¬ ShBlazon.kindOf (ts (byt ns) e) = 3 := by rw [kind_ts]; exact fun y => q3 ((end_txt gd).mp y)
        have ec : tl "," = [44] := by decide +kernel
        refine ⟨fun σ' H' => ∃ (yv : Option V) (zs' : List Addr) (acc' : List Layer) (e' : Nat), zs'.length = zs.length + 1 ∧ zs.length < 8 ∧ σ' = [some (.ref a), some (.ref r), some (.ref zf), some (.ref l), yv] ∧ H' l = some (.lst (zs'.map V.ref)) ∧ TkAt K CK CR H' r a ns e' ∧ Same H H' ∧
            FieldAt CF H' zf x1.1 ∧ LayersAt CF CO CG H' zs' acc' ∧ GL (ShBlazon.layersAt x1.1 (8 - zs'.length) (ts (byt ns) e')) acc', ?_, ?_⟩
        · rintro σ' H' ⟨yv', zs', acc', e', hz1, hz2, h1, h2, h3, h4, h5, h6, h7⟩
          exact ⟨8 - zs'.length, by omega, yv', zs', acc', e', h1, h2, by omega, rfl, h3, h4, h5, h6, h7⟩
        refine ⟨_, rfl, r, dr6, _, rfl, hR6, tf_no _ _ _ (by decide +kernel) (by decide +kernel) (by decide +kernel), r, a, ns, e, ",", rfl, R6, fun y => ?_, fun _ yc z7 H7 R7 t7 o7 => ?_⟩
        · by_cases hb : Bad (ts (byt ns) e)
          · exact bad hb
          · rcases y with y | y
            · exact absurd y hb
            · rw [ec] at y
              rw [lay_else _ _ (by rw [kind_ts]; exact fun z => y ((comma_txt gd).mp z)) n3] at g
              exact g
        · rw [ec] at yc
          have hk : (bt (byt ns) e).kind = 2 := (comma_txt gd).mpr yc
          have hk2 : ShBlazon.kindOf (ts (byt ns) e) = 2 := by rw [kind_ts]; exact hk
          obtain ⟨dr7, v7, hR7, _⟩ := R7.obj
          have kp7 : Kp CR H6 H7 := Kp.of_oth hR6 o7
          have hl7 : H7 l = some (.lst (zs.map V.ref)) := o7 l _ (ne_of hl6 hR6 (by intro z; cases z)) hl6
          have s7 : Same H H7 := fun b o e => o7 b o (ne_of_none e nr) (s6 _ _ e)
          have hF7 := hF6.kp U.ne kp7
          have hL7 := hL6.kp U.ne nO nG kp7
          obtain ⟨dz7, st7, hz7, _⟩ := t7
          refine ⟨_, rfl, l, _, rfl, .inl (SqL.of hl7), ?_⟩
          rw [List.length_map]
          refine ⟨rfl, _, rfl, ?_⟩
          by_cases q8 : zs.length = 8
          · refine iteP (decide_eq_true (by rw [q8]; rfl)) ?_
            rw [q8, lay_full _ hk2, place_ts, at_bt] at g
            exact ⟨_, rfl, z7, CK, dz7, _, _, rfl, hz7, T.K.cl, T.K.no _ (by decide +kernel), kf_place _ _ _, (by show 2 ≤ 1000; decide), raise_fl g H7⟩
          · refine iteN (by intro y; have := of_decide_eq_true y; injection this with e; omega) ?_
            obtain ⟨j, hj⟩ : ∃ j, 8 - zs.length = j + 1 := ⟨7 - zs.length, by omega⟩
            rw [hj, lay_more _ _ hk2, drop_ts (by rw [hk]; decide)] at g
            refine ⟨_, rfl, .inl ⟨rfl, _, SqL.of hl7⟩, _, rfl, _, rfl, r, a, zf, ns, _, x1.1, rfl, R7, hF7, ?_⟩
            cases q4 : ShBlazon.layerAt x1.1 (ts (byt ns) (bn (byt ns) e)) with
            | error e => rw [q4] at g; exact g
            | ok x =>
              rw [q4] at g
              have g : GL (match ShBlazon.layersAt x1.1 j x.2 with | .error e => .error e | .ok l => .ok (x.1 :: l)) acc := g
              intro zl nzl e8 H8 hs8 R8 o8 hL8
              have hs8 : x.2 = ts (byt ns) e8 := hs8
              rw [hs8] at g
              have kp8 : Kp CR H7 H8 := Kp.of_oth hR7 o8
              have hl8 : H8 l = some (.lst (zs.map V.ref)) := o8 l _ (ne_of hl7 hR7 (by intro z; cases z)) hl7
              refine ⟨l, _, _, rfl, rfl, hl8, by rw [List.length_map, sizeLine_eq]; omega, ?_⟩
              refine ⟨_, zs ++ [zl], acc ++ [x.1], e8, by rw [List.length_append]; rfl, by omega, rfl, by rw [upd_same, List.map_append]; rfl, R8.lst hl8, ?_, (hF7.kp U.ne kp8).kp U.ne (Kp.lst hl8), paired_snoc (hL8.kp U.ne nO nG (Kp.lst hl8)) ((hL7.kp U.ne nO nG kp8).kp U.ne nO nG (Kp.lst hl8)), ?_⟩
              · intro b o e
                rw [upd_ne (fun z => by subst z; rw [hlH] at e; cases e)]
                exact o8 b o (ne_of_none e nr) (s7 _ _ e)
              · have hj2 : 8 - (zs ++ [zl]).length = j := by rw [List.length_append]; show 8 - (zs.length + 1) = j; omega
                rw [hj2]
                cases e7 : ShBlazon.layersAt x1.1 j (ts (byt ns) e8) with
                | error e => rw [e7] at g; exact g
                | ok ll =>
                  rw [e7] at g
                  show G (.ok ⟨x1.1, (acc ++ [x.1]) ++ ll⟩)
                  rw [List.append_assoc]
                  exact g
end
theorem take_succ {α : Type} {l : List α} {i : Nat} {x : α} (h : l[i]? = some x) : l.take (i + 1) = l.take i ++ [x] := by rw [List.take_succ, h]; rfl
theorem f_look (f : Field) : (fOf f).lookup ("first" : Str) = some (vn (match f with | .plain t => t | .parted _ _ a _ => a | .varied _ _ _ a _ => a)) ∧ (fOf f).lookup ("second" : Str) = some (vn (match f with | .plain t => t | .parted _ _ _ b => b | .varied _ _ _ _ b => b)) ∧
    (fOf f).lookup ("way" : Str) = some (vn (match f with | .plain _ => 0 | .parted d _ _ _ => d | .varied v _ _ _ _ => v)) ∧ (fOf f).lookup ("line" : Str) = some (vn (match f with | .plain _ => 0 | .parted _ l _ _ => l | .varied _ _ l _ _ => l)) ∧
    (fOf f).lookup ("pieces" : Str) = some (vn (match f with | .plain _ => 0 | .parted .. => 0 | .varied _ n _ _ _ => n)) := by
  cases f <;> exact ⟨by kernel_rfl, by kernel_rfl, by kernel_rfl, by kernel_rfl, by kernel_rfl⟩
theorem o_look (o l : Nat) (v : V) : (ofv (vn o) (vn l) v).lookup ("ordinary" : Str) = some (vn o) ∧ (ofv (vn o) (vn l) v).lookup ("line" : Str) = some (vn l) ∧ (ofv (vn o) (vn l) v).lookup ("fill" : Str) = some v := ⟨by kernel_rfl, by kernel_rfl, by kernel_rfl⟩
theorem g_look (c n m s : Nat) (v : V) : (gfv (vn c) (vn n) (vn m) (vn s) v).lookup ("charge" : Str) = some (vn c) ∧ (gfv (vn c) (vn n) (vn m) (vn s) v).lookup ("how_many" : Str) = some (vn n) ∧ (gfv (vn c) (vn n) (vn m) (vn s) v).lookup ("manner" : Str) = some (vn m) ∧
    (gfv (vn c) (vn n) (vn m) (vn s) v).lookup ("size" : Str) = some (vn s) ∧ (gfv (vn c) (vn n) (vn m) (vn s) v).lookup ("fill" : Str) = some v := ⟨by kernel_rfl, by kernel_rfl, by kernel_rfl, by kernel_rfl, by kernel_rfl⟩
theorem a_look (f l : V) : (afv f l).lookup ("field" : Str) = some f ∧ (afv f l).lookup ("layers" : Str) = some l := ⟨by kernel_rfl, by kernel_rfl⟩
theorem paired_get {α β : Type} {G : α → β → Prop} : ∀ {l : List α} {m : List β} {i : Nat} {a : α}, Paired G l m → l[i]? = some a → ∃ b, m[i]? = some b ∧ G a b
  | _, _, _, _, .nil, e => by simp at e
  | _, _, 0, _, .cons r _, e => by
    have e' := Option.some.inj e
    subst e'
    exact ⟨_, rfl, r⟩
  | _, _, i + 1, a, .cons _ t, e => by
    obtain ⟨b, h1, h2⟩ := paired_get (i := i) (a := a) t (by simpa using e)
    exact ⟨b, by simpa using h1, h2⟩
theorem call_isinst {X : Cx} : CallR X (.builtin "isinstance") (fun xs H Q => ∃ x C t b, xs = [x, .ref C] ∧ TyOf X.K H x t ∧ PySem.W.kitOne X.K t (.ref C) = some b ∧ Q (.bl b) H) := by
  intro pins s σ H xs us Q I r h
  obtain ⟨x, C, t, b, rfl, ty, e, q⟩ := h
  obtain ⟨u, w', rfl, r1, r2⟩ := vals2 r
  obtain rfl : w' = Value.ref C := r2
  exact isinst_ok I r1 ty e fun tk => ⟨.bl b, H, I.tok tk, rfl, q⟩
theorem LayerAt.sm {CF CO CG z : Addr} {H H' : Hp} {l : Layer} (x : LayerAt CF CO CG H z l) (s : Same H H') : LayerAt CF CO CG H' z l := by
  cases l with
  | ord o l f => obtain ⟨d, v, e, q⟩ := x; exact ⟨d, v, s _ _ e, q.sm s⟩
  | group c n' m s' f => obtain ⟨d, v, e, q⟩ := x; exact ⟨d, v, s _ _ e, q.sm s⟩
noncomputable def NewL (H : Hp) (Q : VK) (vs : List V) : Prop := ∀ H' l, Same H H' → H l = none → H' l = some (.lst vs) → Q (.ref l) H'
structure TIs (K : PySem.W.Frag) (mg : Str → Option Value) (CO CG : Addr) : Prop where
  z : mg "isinstance" = none
  isO : ∀ (H : Hp) (z dz : Addr) (fs : List (Str × V)), H z = some (.ins CO dz fs) → TyOf K H (.ref z) (.ref CO)
  isG : ∀ (H : Hp) (z dz : Addr) (fs : List (Str × V)), H z = some (.ins CG dz fs) → TyOf K H (.ref z) (.ref CG)
  kO : PySem.W.kitOne K (.ref CO) (.ref CO) = some true
  kG : PySem.W.kitOne K (.ref CG) (.ref CO) = some false
noncomputable def fbN : Field → List Nat
  | .plain t => [0, t]
  | .parted d l a b => [1, d, l, a, b]
  | .varied v n l a b => [2, v, n, l, a, b]
noncomputable def flN : Fill → List Nat
  | .solid f => 0 :: fbN f
  | .counter => [1]
noncomputable def lyN : Layer → List Nat
  | .ord o l f => [0, o, l] ++ flN f
  | .group c n m s f => [1, c, n, m, s] ++ flN f
theorem fbN_le {f : Field} (h : FieldOk f) : ∀ x ∈ fbN f, x < 256 := by
  have lt : ∀ {a b : Nat}, a ≤ b → b < 256 → a < 256 := fun h1 h2 => Nat.lt_of_le_of_lt h1 h2
  cases f with
  | plain t =>
    intro x hx
    simp only [fbN, List.mem_cons, List.not_mem_nil, or_false] at hx
    rcases hx with rfl | rfl
    · decide
    · exact lt h (by decide)
  | parted d l a b =>
    obtain ⟨h1, h2, h3, h4, _⟩ := h
    intro x hx
    simp only [fbN, List.mem_cons, List.not_mem_nil, or_false] at hx
    rcases hx with rfl | rfl | rfl | rfl | rfl
    · decide
    · exact lt h1 (by decide)
    · exact lt h2 (by decide)
    · exact lt h3 (by decide)
    · exact lt h4 (by decide)
  | varied v n l a b =>
    obtain ⟨h1, h2, h2', h3, _, h4, h5, _⟩ := h
    intro x hx
    simp only [fbN, List.mem_cons, List.not_mem_nil, or_false] at hx
    rcases hx with rfl | rfl | rfl | rfl | rfl | rfl
    · decide
    · exact lt h1 (by decide)
    · exact lt h2' (by decide)
    · exact lt h3 (by decide)
    · exact lt h4 (by decide)
    · exact lt h5 (by decide)
theorem flN_le {b : Field} {f : Fill} (h : FillOk b f) : ∀ x ∈ flN f, x < 256 := by
  cases f with
  | counter => intro x hx; simp only [flN, List.mem_cons, List.not_mem_nil, or_false] at hx; omega
  | solid f =>
    intro x hx
    rcases List.mem_cons.mp hx with z | z
    · omega
    · exact fbN_le h x z
theorem lyN_le {b : Field} {x : Layer} (h : LayerB b x) : ∀ y ∈ lyN x, y < 256 := by
  cases x with
  | ord o l f =>
    obtain ⟨h1, h2, h3⟩ := h
    intro y hy
    rcases List.mem_append.mp hy with z | z
    · simp only [List.mem_cons, List.not_mem_nil, or_false] at z; omega
    · exact flN_le h3 y z
  | group c n m s f =>
    obtain ⟨h1, h2, h3, h4, h5⟩ := h
    intro y hy
    rcases List.mem_append.mp hy with z | z
    · simp only [List.mem_cons, List.not_mem_nil, or_false] at z; omega
    · exact flN_le h5 y z
theorem fbN_eq (f : Field) : f.bytes = (fbN f).map UInt8.ofNat := by cases f <;> rfl
theorem flN_eq (f : Fill) : f.bytes = (flN f).map UInt8.ofNat := by
  cases f with
  | counter => rfl
  | solid f => show 0 :: f.bytes = _; rw [fbN_eq]; rfl
theorem lyN_eq (x : Layer) : x.bytes = (lyN x).map UInt8.ofNat := by
  cases x with
  | ord o l f => show [0, small o, small l] ++ f.bytes = _; rw [flN_eq]; rfl
  | group c n m s f => show [1, small c, small n, small m, small s] ++ f.bytes = _; rw [flN_eq]; rfl
theorem fbN_len (f : Field) : (fbN f).length ≤ 6 := by
  cases f with
  | plain t => show 2 ≤ 6; decide
  | parted d l a b => show 5 ≤ 6; decide
  | varied v n l a b => show 6 ≤ 6; decide
theorem flN_len (f : Fill) : (flN f).length ≤ 7 := by
  cases f with
  | counter => decide
  | solid f => have := fbN_len f; show (fbN f).length + 1 ≤ 7; omega
theorem lyN_len (x : Layer) : (lyN x).length ≤ 12 := by
  cases x with
  | ord o l f => have := flN_len f; show ([0, o, l] ++ flN f).length ≤ 12; rw [List.length_append]; show 3 + _ ≤ 12; omega
  | group c n m s f => have := flN_len f; show ([1, c, n, m, s] ++ flN f).length ≤ 12; rw [List.length_append]; show 5 + _ ≤ 12; omega
structure TBy (mg : Str → Option Value) : Prop where
  i : ∀ nm z, (nm, z) ∈ ([("PLAIN", 0), ("PARTED", 1), ("VARIED", 2), ("ORDINARY_LAYER", 0), ("GROUP_LAYER", 1), ("FIELD_FILL", 0), ("COUNTERCHANGED_FILL", 1)] : List (Str × Int)) → ∃ t, mg nm = some (.int z t)
noncomputable def spFBy (CF : Addr) : Sp := fun vs H Q _ => ∃ (z : Addr) (f : Field), vs = [.ref z] ∧ FieldAt CF H z f ∧ NewL H Q ((fbN f).map vn)
noncomputable def spLBy (CF : Addr) : Sp := fun vs H Q _ => ∃ (v : V) (f : Fill), vs = [v] ∧ FillAt CF H v f ∧ NewL H Q ((flN f).map vn)
noncomputable def spYBy (CF CO CG : Addr) : Sp := fun vs H Q _ => ∃ (z : Addr) (x : Layer), vs = [.ref z] ∧ LayerAt CF CO CG H z x ∧ NewL H Q ((lyN x).map vn)
section
variable {P : Program} {w : World} {K : PySem.W.Frag} {mg : Str → Option Value} {base : Heap} {CF CO CG fF fO fG : Addr}
theorem sc_field_bytes : FnScope ["field"] ["field"] (defScope s_field_bytes) := ⟨rfl, rfl, rfl, by decide +kernel, rfl, by decide +kernel, by decide +kernel⟩
theorem ok_field_bytes {f : Addr} {fd : FuncData} (F : Fun K "field_bytes" "field_bytes" s_field_bytes f fd) (RF : RC K mg "Field" CF fF ["kind", "way", "pieces", "line", "first", "second"]) (B : TBy mg) : FnOk P w K mg base (CXx P w) 1 f fd ["field"] (spFBy CF) := by
  refine F.okX sc_field_bytes (fun vs H Q E h => ?_) (fun cdv A outer s H vs Q E hr h => ?_)
  · obtain ⟨z, f, rfl, _⟩ := h
    rfl
  · obtain ⟨z, g, rfl, ⟨dz, hz⟩, k⟩ := h
    obtain ⟨t0, h0⟩ := B.i "PLAIN" 0 (by decide +kernel)
    obtain ⟨t1, h1⟩ := B.i "PARTED" 1 (by decide +kernel)
    obtain ⟨t2, h2⟩ := B.i "VARIED" 2 (by decide +kernel)
    obtain ⟨e1, e2, e3, e4, e5⟩ := f_look g
    refine ⟨_, pss_cons (ps_if (pt_cmpR op_eq (pe_fld (pv 0) rfl) (pe_glob (v := .int 0) rfl h0 ⟨t0, rfl⟩) (nomark _)) (pss_one (ps_ret (pe_lst (pa_cons (pe_glob (v := .int 0) rfl h0 ⟨t0, rfl⟩) (pa_cons (pe_fld (pv 0) rfl) pa_nil))))) pss_nil)
      (pss_cons (ps_if (pt_cmpR op_eq (pe_fld (pv 0) rfl) (pe_glob (v := .int 1) rfl h1 ⟨t1, rfl⟩) (nomark _)) (pss_one (ps_ret (pe_lst (pa_cons (pe_glob (v := .int 1) rfl h1 ⟨t1, rfl⟩) (pa_cons (pe_fld (pv 0) rfl) (pa_cons (pe_fld (pv 0) rfl) (pa_cons (pe_fld (pv 0) rfl) (pa_cons (pe_fld (pv 0) rfl) pa_nil)))))))) pss_nil)
      (pss_one (ps_ret (pe_lst (pa_cons (pe_glob (v := .int 2) rfl h2 ⟨t2, rfl⟩) (pa_cons (pe_fld (pv 0) rfl) (pa_cons (pe_fld (pv 0) rfl) (pa_cons (pe_fld (pv 0) rfl) (pa_cons (pe_fld (pv 0) rfl) (pa_cons (pe_fld (pv 0) rfl) pa_nil)))))))))), ?_⟩
    refine ⟨_, rfl, z, CF, dz, _, _, rfl, hz, RF.cl, RF.no _ (by decide +kernel), f_kind g, rfl, _, rfl, ?_⟩
    cases g with
    | plain t =>
      refine iteP (decide_eq_true rfl) ?_
      refine ⟨_, rfl, z, CF, dz, _, _, rfl, hz, RF.cl, RF.no _ (by decide +kernel), e1, (by show 2 ≤ sizeLine; rw [sizeLine_eq]; omega), fun l hl => ?_⟩
      exact k _ l (same_new hl) hl upd_same
    | parted d l a b =>
      refine iteN (by intro y; have := of_decide_eq_true y; cases this) ?_
      refine ⟨_, rfl, z, CF, dz, _, _, rfl, hz, RF.cl, RF.no _ (by decide +kernel), f_kind _, rfl, _, rfl, iteP (decide_eq_true rfl) ?_⟩
      refine ⟨_, rfl, z, CF, dz, _, _, rfl, hz, RF.cl, RF.no _ (by decide +kernel), e3, _, rfl, z, CF, dz, _, _, rfl, hz, RF.cl, RF.no _ (by decide +kernel), e4, _, rfl, z, CF, dz, _, _, rfl, hz, RF.cl, RF.no _ (by decide +kernel), e1, _, rfl, z, CF, dz, _, _, rfl, hz, RF.cl, RF.no _ (by decide +kernel), e2, (by show 5 ≤ sizeLine; rw [sizeLine_eq]; omega), fun l hl => ?_⟩
      exact k _ l (same_new hl) hl upd_same
    | varied v n l a b =>
      refine iteN (by intro y; have := of_decide_eq_true y; cases this) ?_
      refine ⟨_, rfl, z, CF, dz, _, _, rfl, hz, RF.cl, RF.no _ (by decide +kernel), f_kind _, rfl, _, rfl, iteN (by intro y; have := of_decide_eq_true y; cases this) ?_⟩
      refine ⟨_, rfl, z, CF, dz, _, _, rfl, hz, RF.cl, RF.no _ (by decide +kernel), e3, _, rfl, z, CF, dz, _, _, rfl, hz, RF.cl, RF.no _ (by decide +kernel), e5, _, rfl, z, CF, dz, _, _, rfl, hz, RF.cl, RF.no _ (by decide +kernel), e4, _, rfl, z, CF, dz, _, _, rfl, hz, RF.cl, RF.no _ (by decide +kernel), e1, _, rfl, z, CF, dz, _, _, rfl, hz, RF.cl, RF.no _ (by decide +kernel), e2, (by show 6 ≤ sizeLine; rw [sizeLine_eq]; omega), fun l hl => ?_⟩
      exact k _ l (same_new hl) hl upd_same
theorem sc_fill_bytes : FnScope ["fill"] ["fill"] (defScope s_fill_bytes) := ⟨rfl, rfl, rfl, by decide +kernel, rfl, by decide +kernel, by decide +kernel⟩
theorem ok_fill_bytes {f f_fb : Addr} {fd : FuncData} (F : Fun K "fill_bytes" "fill_bytes" s_fill_bytes f fd) (B : TBy mg) (p_fb : PG P w K mg base "field_bytes" 1 f_fb ["field"] (spFBy CF)) : FnOk P w K mg base (CXx P w) 2 f fd ["fill"] (spLBy CF) := by
  refine F.okX sc_fill_bytes (fun vs H Q E h => ?_) (fun cdv A outer s H vs Q E hr h => ?_)
  · obtain ⟨v, f, rfl, _⟩ := h
    rfl
  · obtain ⟨v, g, rfl, hF, k⟩ := h
    obtain ⟨t0, h0⟩ := B.i "FIELD_FILL" 0 (by decide +kernel)
    obtain ⟨t1, h1⟩ := B.i "COUNTERCHANGED_FILL" 1 (by decide +kernel)
    refine ⟨_, pss_cons (ps_if (pt_cmpR op_isN (pv 0) pe_non (nomark _)) (pss_one (ps_ret (pe_lst (pa_cons (pe_glob (v := .int 1) rfl h1 ⟨t1, rfl⟩) pa_nil)))) pss_nil)
      (pss_one (ps_ret (pe_op op_cat (pe_lst (pa_cons (pe_glob (v := .int 0) rfl h0 ⟨t0, rfl⟩) pa_nil)) (pe_pg p_fb hr rfl passN (pa_cons (pv 0) pa_nil))))), ?_⟩
    refine ⟨_, rfl, rfl, _, rfl, ?_⟩
    cases g with
    | counter =>
      have hv : v = .non := hF
      subst hv
      refine iteP (decide_eq_true rfl) ?_
      refine ⟨(by show 1 ≤ sizeLine; rw [sizeLine_eq]; omega), fun l hl => ?_⟩
      exact k _ l (same_new hl) hl upd_same
    | solid g =>
      obtain ⟨y, rfl, hy⟩ := hF
      refine iteN (by intro z; have := of_decide_eq_true z; cases this) ?_
      refine ⟨(by show 1 ≤ sizeLine; rw [sizeLine_eq]; omega), fun l hl => ?_⟩
      refine ⟨_, rfl, y, g, rfl, hy.sm (same_new hl), fun H2 l2 s2 hl2 q2 => ?_⟩
      refine ⟨l, l2, _, _, rfl, rfl, s2 _ _ upd_same, q2, ?_, fun p hp => ?_⟩
      · have := fbN_len g
        rw [List.length_map, sizeLine_eq]; show 1 + _ ≤ _; omega
      · have s3 := (same_new hl (o := .lst [V.int 0])).trans s2
        exact k _ p (s3.trans (same_new hp)) (s3.free hp) upd_same
theorem sc_layer_bytes : FnScope ["layer", "group"] ["layer"] (defScope s_layer_bytes) := ⟨rfl, rfl, rfl, by decide +kernel, rfl, by decide +kernel, by decide +kernel⟩
theorem ok_layer_bytes {f f_lb : Addr} {fd : FuncData} (F : Fun K "layer_bytes" "layer_bytes" s_layer_bytes f fd) (RO : RC K mg "OrdinaryLayer" CO fO ["ordinary", "line", "fill"]) (RG : RC K mg "GroupLayer" CG fG ["charge", "how_many", "manner", "size", "fill"]) (I : TIs K mg CO CG) (B : TBy mg)
    (p_lb : PG P w K mg base "fill_bytes" 2 f_lb ["fill"] (spLBy CF)) : FnOk P w K mg base (CXx P w) 3 f fd ["layer"] (spYBy CF CO CG) := by
  refine F.okX sc_layer_bytes (fun vs H Q E h => ?_) (fun cdv A outer s H vs Q E hr h => ?_)
  · obtain ⟨z, x, rfl, _⟩ := h
    rfl
  · obtain ⟨z, x, rfl, hL, k⟩ := h
    obtain ⟨t0, h0⟩ := B.i "ORDINARY_LAYER" 0 (by decide +kernel)
    obtain ⟨t1, h1⟩ := B.i "GROUP_LAYER" 1 (by decide +kernel)
    refine ⟨_, pss_cons (ps_if (pt_val (pe_callB call_isinst (by rfl) I.z (by decide +kernel) (pa_cons (pv 0) (pa_cons (pe_glob (v := .ref CO) rfl RO.at_ rfl) pa_nil))))
        (pss_one (ps_ret (pe_op op_cat (pe_lst (pa_cons (pe_glob (v := .int 0) rfl h0 ⟨t0, rfl⟩) (pa_cons (pe_fld (pv 0) rfl) (pa_cons (pe_fld (pv 0) rfl) pa_nil)))) (pe_pg p_lb hr rfl passN (pa_cons (pe_fld (pv 0) rfl) pa_nil))))) pss_nil)
      (pss_cons (ps_set (i := 1) sc_layer_bytes.nd rfl (Or.inl rfl) (pe_lst (pa_cons (pe_glob (v := .int 1) rfl h1 ⟨t1, rfl⟩) (pa_cons (pe_fld (pv 0) rfl) (pa_cons (pe_fld (pv 0) rfl) (pa_cons (pe_fld (pv 0) rfl) (pa_cons (pe_fld (pv 0) rfl) pa_nil)))))))
      (pss_one (ps_ret (pe_op op_cat (pv 1) (pe_pg p_lb hr rfl passN (pa_cons (pe_fld (pv 0) rfl) pa_nil)))))), ?_⟩
    cases x with
    | ord o ln fl =>
      obtain ⟨dz, v, hz, hv⟩ := hL
      obtain ⟨e1, e2, e3⟩ := o_look o ln v
      refine ⟨_, rfl, _, CO, _, true, rfl, I.isO _ z dz _ hz, I.kO, true, rfl, iteP rfl ?_⟩
      refine ⟨_, rfl, z, CO, dz, _, _, rfl, hz, RO.cl, RO.no _ (by decide +kernel), e1, _, rfl, z, CO, dz, _, _, rfl, hz, RO.cl, RO.no _ (by decide +kernel), e2, (by show 3 ≤ sizeLine; rw [sizeLine_eq]; omega), fun l hl => ?_⟩
      have s1 := same_new hl (o := .lst [V.int 0, vn o, vn ln])
      refine ⟨_, rfl, z, CO, dz, _, _, rfl, s1 _ _ hz, RO.cl, RO.no _ (by decide +kernel), e3, v, fl, rfl, hv.sm s1, fun H2 l2 s2 hl2 q2 => ?_⟩
      refine ⟨l, l2, _, _, rfl, rfl, s2 _ _ upd_same, q2, ?_, fun p hp => ?_⟩
      · have := flN_len fl
        rw [List.length_map, sizeLine_eq]; show 3 + _ ≤ _; omega
      · have s3 := s1.trans s2
        exact k _ p (s3.trans (same_new hp)) (s3.free hp) (by rw [upd_same]; show _ = some (HO.lst (([0, o, ln] ++ flN fl).map vn)); rw [List.map_append]; rfl)
    | group c n m sz fl =>
      obtain ⟨dz, v, hz, hv⟩ := hL
      obtain ⟨e1, e2, e3, e4, e5⟩ := g_look c n m sz v
      refine ⟨_, rfl, _, CO, _, false, rfl, I.isG _ z dz _ hz, I.kG, false, rfl, iteN Bool.false_ne_true ?_⟩
      refine ⟨_, rfl, z, CG, dz, _, _, rfl, hz, RG.cl, RG.no _ (by decide +kernel), e1, _, rfl, z, CG, dz, _, _, rfl, hz, RG.cl, RG.no _ (by decide +kernel), e2, _, rfl, z, CG, dz, _, _, rfl, hz, RG.cl, RG.no _ (by decide +kernel), e3, _, rfl, z, CG, dz, _, _, rfl, hz, RG.cl, RG.no _ (by decide +kernel), e4, (by show 5 ≤ sizeLine; rw [sizeLine_eq]; omega), fun l hl => ?_⟩
      have s1 := same_new hl (o := .lst [V.int 1, vn c, vn n, vn m, vn sz])
      refine ⟨_, rfl, _, rfl, z, CG, dz, _, _, rfl, s1 _ _ hz, RG.cl, RG.no _ (by decide +kernel), e5, v, fl, rfl, hv.sm s1, fun H2 l2 s2 hl2 q2 => ?_⟩
      refine ⟨l, l2, _, _, rfl, rfl, s2 _ _ upd_same, q2, ?_, fun p hp => ?_⟩
      · have := flN_len fl
        rw [List.length_map, sizeLine_eq]; show 5 + _ ≤ _; omega
      · have s3 := s1.trans s2
        exact k _ p (s3.trans (same_new hp)) (s3.free hp) (by rw [upd_same]; show _ = some (HO.lst (([1, c, n, m, sz] ++ flN fl).map vn)); rw [List.map_append]; rfl)
end
noncomputable def amN (x : Arms) : List Nat := fbN x.field ++ [x.layers.length] ++ x.layers.flatMap lyN
theorem amN_eq (x : Arms) : x.bytes = (amN x).map UInt8.ofNat := by
  have e : x.layers.flatMap Layer.bytes = (x.layers.flatMap lyN).map UInt8.ofNat := by
    rw [List.map_flatMap]
    exact congrArg (fun f => x.layers.flatMap f) (funext lyN_eq)
  unfold amN Arms.bytes
  rw [List.map_append, List.map_append, e, fbN_eq, List.append_assoc]
  rfl
theorem amN_le {x : Arms} (h : FieldOk x.field ∧ x.layers.length ≤ 8 ∧ ∀ l ∈ x.layers, LayerB x.field l) : ∀ y ∈ amN x, y < 256 := by
  intro y hy
  rcases List.mem_append.mp hy with hy | hy
  · rcases List.mem_append.mp hy with hy | hy
    · exact fbN_le h.1 y hy
    · have := List.mem_singleton.mp hy; have := h.2.1; omega
  · obtain ⟨l, hl, hy⟩ := List.mem_flatMap.mp hy
    exact lyN_le (h.2.2 l hl) y hy
theorem flat_len : ∀ ls : List Layer, (ls.flatMap lyN).length ≤ 12 * ls.length
  | [] => Nat.zero_le _
  | l :: r => by
    rw [List.flatMap_cons, List.length_append, List.length_cons]
    have := flat_len r; have := lyN_len l; omega
theorem amN_ints {x : Arms} (h : FieldOk x.field ∧ x.layers.length ≤ 8 ∧ ∀ l ∈ x.layers, LayerB x.field l) : (x.bytes.map fun (b : UInt8) => (b.toNat : Int)) = (amN x).map fun (n : Nat) => (n : Int) := by
  rw [amN_eq, List.map_map]
  refine List.map_congr_left fun n hn => ?_
  have := amN_le h n hn
  show (((UInt8.ofNat n).toNat : Nat) : Int) = (n : Int)
  rw [UInt8.toNat_ofNat_of_lt' this]
noncomputable def spAm (CF CO CG CA : Addr) : Sp := fun vs H Q _ => ∃ (z : Addr) (x : Arms), vs = [.ref z] ∧ ArmsAt CF CO CG CA H z x ∧ x.layers.length ≤ 8 ∧ NewL H Q ((amN x).map vn)
noncomputable def spWL : Sp := fun vs H Q _ => ∃ (l : Addr) (xs : List V), vs = [.ref l] ∧ H l = some (.lst xs) ∧ xs.length ≤ 100000 ∧ ∀ H' l', Same H H' → H' l' = some (.lst (.int (xs.length : Nat) :: xs)) → Q (.ref l') H'
section
variable {P : Program} {w : World} {K : PySem.W.Frag} {mg : Str → Option Value} {base : Heap} {CE NE fE CK fK CF CO CG CA fA : Addr}
theorem sc_arms_bytes : FnScope ["arms", "data", "layer"] ["arms"] (defScope s_arms_bytes) := ⟨rfl, rfl, rfl, by decide +kernel, rfl, by decide +kernel, by decide +kernel⟩
theorem ok_arms_bytes {f f_fb f_yb : Addr} {fd : FuncData} (F : Fun K "arms_bytes" "arms_bytes" s_arms_bytes f fd) (T : TX K mg CE NE fE CK fK) (RA : RC K mg "Arms" CA fA ["field", "layers"])
    (p_fb : PG P w K mg base "field_bytes" 1 f_fb ["field"] (spFBy CF)) (p_yb : PG P w K mg base "layer_bytes" 3 f_yb ["layer"] (spYBy CF CO CG)) : FnOk P w K mg base (CXx P w) 4 f fd ["arms"] (spAm CF CO CG CA) := by
  refine F.okX sc_arms_bytes (fun vs H Q E h => ?_) (fun cdv A outer s H vs Q E hr h => ?_)
  · obtain ⟨z, x, rfl, _⟩ := h
    rfl
  · obtain ⟨z, x, rfl, ⟨dz, zf, zl, zs, hz, hF, hl, hLs⟩, h8, k⟩ := h
    obtain ⟨e1, e2⟩ := a_look (.ref zf) (.ref zl)
    have hr1 : Room 1 _ := hr.mono (by decide)
    refine ⟨_, pss_cons (ps_set (i := 1) sc_arms_bytes.nd rfl (Or.inl rfl) (pe_op op_cat (pe_pg p_fb hr1 rfl passN (pa_cons (pe_fld (pv 0) rfl) pa_nil)) (pe_lst (pa_cons (pe_callB call_len_seq (by rfl) T.len PySem.boot_len (pa_cons (pe_fld (pv 0) rfl) pa_nil)) pa_nil))))
      (pss_cons (ps_for PassesOwn.leaving rfl (pi_list (pe_fld (pv 0) rfl)) (pg_name (i := 2) sc_arms_bytes.nd rfl (Or.inl rfl))
        (pss_one (ps_expr (pe_bm PySem.F.plainAttrs_list PySem.F.slot_list_extend PySem.F.type_list_extend mt_extend (pv 1) (pa_cons (pe_pg p_yb hr rfl passN (pa_cons (pv 2) pa_nil)) pa_nil)))))
      (pss_one (ps_ret (pv 1)))), ?_⟩
    have llen := paired_len hLs
    refine ⟨_, rfl, z, CA, dz, _, _, rfl, hz, RA.cl, RA.no _ (by decide +kernel), e1, zf, x.field, rfl, hF, fun H1 l1 s1 hl1 q1 => ?_⟩
    refine ⟨_, rfl, z, CA, dz, _, _, rfl, s1 _ _ hz, RA.cl, RA.no _ (by decide +kernel), e2, zl, _, rfl, .inl (SqL.of (s1 _ _ hl)), (by show 1 ≤ sizeLine; rw [sizeLine_eq]; omega), fun l2 hl2 => ?_⟩
    have flen := fbN_len x.field
    have s2 : ∀ o, Same H (upd H1 l2 o) := fun o => s1.trans (same_new hl2)
    refine ⟨l1, l2, _, _, rfl, rfl, same_new hl2 _ _ q1, upd_same, (by rw [List.length_map, sizeLine_eq]; show _ + 1 ≤ _; omega), fun p hp => ?_⟩
    have s3 := fun o' => (s2 _).trans (same_new (o := o') hp)
    have hpH : H p = none := (s2 _).free hp
    refine ⟨_, rfl, z, CA, dz, _, _, rfl, s3 _ _ _ hz, RA.cl, RA.no _ (by decide +kernel), e2, zl, rfl, ⟨_, SqL.of (s3 _ _ _ hl)⟩, for_list (K := K) (a := zl) (xs := zs.map V.ref) (fun i σ H' => ∃ yv : Option V, σ = [some (.ref z), some (.ref p), yv] ∧ Same H H' ∧
      H' p = some (.lst ((fbN x.field ++ [x.layers.length] ++ (x.layers.take i).flatMap lyN).map vn))) ⟨none, rfl, s3 _, ?_⟩ (fun i σ H' _ ⟨_, _, s3, _⟩ => SqL.of (s3 _ _ hl)) ?_ ?_⟩
    · rw [upd_same]
      simp only [List.take_zero, List.flatMap_nil, List.append_nil, List.map_append, List.length_map, llen]
      rfl
    · rintro i y σ H' hi ⟨yv, rfl, s3, hp3⟩
      obtain ⟨u, hu, rfl⟩ : ∃ u, zs[i]? = some u ∧ y = V.ref u := by
        rw [List.getElem?_map] at hi
        cases e : zs[i]? with
        | none => rw [e] at hi; cases hi
        | some u => rw [e] at hi; exact ⟨u, rfl, (Option.some.inj hi).symm⟩
      obtain ⟨b, hb, hY⟩ := paired_get hLs hu
      refine ⟨_, rfl, .inl ⟨rfl, _, SqL.of hp3⟩, _, rfl, u, b, rfl, hY.sm s3, fun H4 l4 s4 hl4 q4 => ?_⟩
      have hilt := (List.getElem?_eq_some_iff.mp hb).1
      refine ⟨p, l4, _, _, rfl, rfl, s4 _ _ hp3, q4, ?_, ⟨_, rfl, same_over (s3.trans s4) hpH, ?_⟩⟩
      · rw [List.length_map, List.length_map, List.length_append, List.length_append, sizeLine_eq]
        have := flat_len (x.layers.take i)
        have := lyN_len b
        rw [List.length_take] at *
        have e1 : [x.layers.length].length = 1 := rfl
        omega
      · rw [upd_same, take_succ hb, List.flatMap_append, ← List.map_append]
        simp only [List.append_assoc, List.flatMap_cons, List.flatMap_nil, List.append_nil]
    · rintro σ H' ⟨yv, rfl, s3, hp3⟩
      rw [List.length_map, llen, List.take_length] at hp3
      exact ⟨_, rfl, k H' p s3 hpH hp3⟩
theorem scWL : FnScope ["data"] ["data"] (defScope sWL) := ⟨rfl, rfl, rfl, by decide +kernel, rfl, by decide +kernel, by decide +kernel⟩
theorem ok_wl {fWL : Addr} {fd : FuncData} (F : Fun K "with_length" "with_length" sWL fWL fd) (T : TX K mg CE NE fE CK fK) : FnOk P w K mg base (CXx P w) 1 fWL fd ["data"] spWL := by
  refine F.okX scWL (fun vs H Q E h => ?_) (fun cdv A outer s H vs Q E hr h => ?_)
  · obtain ⟨l, xs, rfl, _⟩ := h
    rfl
  · obtain ⟨l, xs, rfl, hl, hn, k⟩ := h
    refine ⟨_, pss_one (ps_ret (pe_op op_cat (pe_lst (pa_cons (pe_callB call_len_seq (by rfl) T.len PySem.boot_len (pa_cons (pv 0) pa_nil)) pa_nil)) (pv 0))), ?_⟩
    refine ⟨_, rfl, l, _, rfl, .inl (SqL.of hl), (by show 1 ≤ sizeLine; rw [sizeLine_eq]; omega), fun l1 hl1 => ?_⟩
    refine ⟨_, rfl, l1, l, _, _, rfl, rfl, upd_same, same_new hl1 _ _ hl, ?_, fun p hp => ?_⟩
    · rw [List.length_cons, List.length_nil, sizeLine_eq]; omega
    · exact k _ p ((same_new hl1).trans (same_new hp)) upd_same
theorem scAB : FnScope ["word"] ["word"] (defScope sAB) := ⟨rfl, rfl, rfl, by decide +kernel, rfl, by decide +kernel, by decide +kernel⟩
theorem ok_ab {fAB : Addr} {fd : FuncData} (F : Fun K "article_before" "article_before" sAB fAB fd) : FnOk P w K mg base (CXx P w) 1 fAB fd ["word"] spAB := by
  refine F.okX scAB (fun vs H Q E h => ?_) (fun cdv A outer s H vs Q E hr h => ?_)
  · obtain ⟨w', rfl, _⟩ := h
    rfl
  · obtain ⟨w', rfl, hl, hne, k⟩ := h
    refine ⟨_, pss_cons (ps_if (pt_cmpR op_in_sign (pe_ix ix_str (pv 0) pe_int (fun _ _ => rfl)) pe_str (by with_unfolding_all rfl)) (pss_one (ps_ret pe_str)) pss_nil) (pss_one (ps_ret pe_str)), ?_⟩
    obtain ⟨c, r, hc⟩ : ∃ c r, tl w' = c :: r := by
      cases q : tl w' with
      | nil => exact (hne q).elim
      | cons c r => exact ⟨c, r, rfl⟩
    refine ⟨_, rfl, w', 0, c, rfl, rfl, by rw [sizeLine_eq]; omega, (by show atI (tl w') ((0 : Nat) : Int) = some c; exact atI_nat (by rw [hc]; rfl)), c, _, rfl, rfl, _, rfl, ?_⟩
    unfold artS at k
    rw [hc] at k
    by_cases q : c ∈ tl ("aeiou" : Str)
    · refine iteP (decide_eq_true q) ?_
      have k : Q (.str (if c ∈ tl ("aeiou" : Str) then "an" else "a")) H := k
      rw [if_pos q] at k
      exact k
    · refine iteN (by rw [decide_eq_false q]; exact Bool.false_ne_true) ?_
      have k : Q (.str (if c ∈ tl ("aeiou" : Str) then "an" else "a")) H := k
      rw [if_neg q] at k
      exact k
theorem scCW : FnScope ["how_many", "word"] ["how_many"] (defScope sCW) := ⟨rfl, rfl, rfl, by decide +kernel, rfl, by decide +kernel, by decide +kernel⟩
theorem oC_len : ∀ c, c < 16 → ((oC.getD c none).any fun u => decide (u.length ≤ 20)) = true := by decide +kernel
theorem n_s : (Str.ofString "s").length = 1 := by decide +kernel
theorem ok_cw {fCW aC : Addr} {fd : FuncData} (F : Fun K "charge_words" "charge_words" sCW fCW fd) (tC : Tb K mg "CHARGES" oC aC) (zL : mg "list" = none) : FnOk P w K mg base (CXx P w) 1 fCW fd ["how_many"] spCW := by
  refine F.okX scCW (fun vs H Q E h => ?_) (fun cdv A outer s H vs Q E hr h => ?_)
  · obtain ⟨n, rfl, _⟩ := h
    rfl
  · obtain ⟨n, rfl, k⟩ := h
    refine ⟨_, pss_cons (ps_if (pt_cmpR op_eq (pv 0) pe_int (nomark _)) (pss_one (ps_ret (pe_callTy call_list_of rfl zL (by decide +kernel) (pa_cons (pe_glob (v := .ref aC) rfl tC.1 rfl) pa_nil)))) pss_nil)
      (pss_one (ps_ret (pe_lc (own := [("word", 1)]) rfl scCW.nd (pi_tup (pe_glob (v := .ref aC) rfl tC.1 rfl)) (blkOk_by (by kernel_rfl)) (fun _ _ _ _ _ => pg_name (i := 1) scCW.nd rfl (Or.inl rfl)) (fun _ _ _ _ _ => pts_nil) (fun _ _ _ _ _ => pe_op op_add_str (pv 1) pe_str)))), ?_⟩
    refine ⟨_, rfl, rfl, _, rfl, ?_⟩
    unfold chW at k
    by_cases q : n = 1
    · subst q
      refine iteP (decide_eq_true rfl) ?_
      rw [if_pos rfl] at k
      refine ⟨aC, _, rfl, .inr (tC.2.1 _), fun l hl => ?_⟩
      exact k _ l (same_new hl) hl upd_same
    · refine iteN (by intro z; have := of_decide_eq_true z; injection this with e; omega) ?_
      rw [if_neg q] at k
      refine ⟨aC, rfl, ⟨_, tC.2.1 _⟩, fun D hD => lc_tup (K := K) (a := aC) (xs := oC.map vo) (fun i H' => H' D = some (.lst (((oC.take i).map fun o => o.map (· ++ ("s" : Str))).map vo)) ∧ Same H H') ⟨upd_same, same_new hD⟩ (fun i H' _ _ => tC.2.1 _) ?_ ?_⟩
      · rintro i x H' hi ⟨hD', sm⟩
        obtain ⟨u, hu, rfl⟩ : ∃ u, oC[i]? = some u ∧ x = vo u := by
          rw [List.getElem?_map] at hi
          cases e : oC[i]? with
          | none => rw [e] at hi; cases hi
          | some u => rw [e] at hi; exact ⟨u, rfl, (Option.some.inj hi).symm⟩
        have ul := oC_len i (List.getElem?_eq_some_iff.mp hu).1
        rw [List.getD_eq_getElem?_getD, hu] at ul
        cases u with
        | none => cases ul
        | some u =>
          have ul : u.length ≤ 20 := of_decide_eq_true ul
          refine ⟨rfl, ?_⟩
          unfold tYes
          refine iteP rfl ⟨_, rfl, u, "s", rfl, rfl, (by rw [n_s, sizeLine_eq]; omega), _, hD', ?_, ?_, same_over sm hD⟩
          · simp only [List.length_map, List.length_take]
            have : oC.length = 16 := rfl
            rw [sizeLine_eq]; omega
          · rw [upd_same, take_succ hu, List.map_append, List.map_append]; rfl
      · rintro H' ⟨hD', sm⟩
        rw [List.length_map, List.take_length] at hD'
        exact k H' D sm hD hD'
end
noncomputable def tryH (s : List Stmt) : List Stmt := match s with
  | .Try _ [.ExceptHandler _ _ b _] _ _ _ :: _ => b
  | _ => []
noncomputable def tHF (K : PySem.W.Frag) (i : Nat) : TS := tRet (tLst (tCons (tUn (rU fun i => .int (-i)) (tXGet K (tVar i) "kind")) (tCons (tXGet K (tVar i) "place") tNil)))
noncomputable def spRd (K : PySem.W.Frag) : Sp := fun vs H Q _ => ∃ (a : Addr) (ns : List Int), vs = [.ref a] ∧ Byts ns ∧ ns.length ≤ 4096 ∧ SqF K H a (ns.map V.int) ∧ ∀ (H' : Hp) (p : Addr), H' p = some (.lst ((PyWqbabn.read ns).map V.int)) → Q (.ref p) H'
section
variable {P : Program} {w : World} {K : PySem.W.Frag} {mg : Str → Option Value} {base : Heap} {CE NE fE CK fK CF CO CG CA fA : Addr}
theorem look2 (u v : V) : List.lookup ("kind" : Str) [(("place" : Str), u), (("kind" : Str), v)] = some v := by kernel_rfl
theorem look0 (u v : V) : List.lookup ("place" : Str) [(("place" : Str), u), (("kind" : Str), v)] = some u := by kernel_rfl
theorem sc_read : FnScope ["t", "arms", "fault"] ["t"] (defScope s_read) := ⟨rfl, rfl, rfl, by decide +kernel, rfl, by decide +kernel, by decide +kernel⟩
theorem ok_read {f fD fB fW : Addr} {fd : FuncData} (F : Fun K "read" "read" s_read f fd) (T : TX K mg CE NE fE CK fK)
    (pD : PG P w K mg base "read_blazon" 15 fD ["data"] (spRB K CE CF CO CG CA)) (pB : PG P w K mg base "arms_bytes" 4 fB ["arms"] (spAm CF CO CG CA)) (pW : PG P w K mg base "with_length" 1 fW ["data"] spWL) : FnOk P w K mg base (CXx P w) 16 f fd ["t"] (spRd K) := by
  refine F.okX sc_read (fun vs H Q E h => ?_) (fun cdv A outer s H vs Q E hr h => ?_)
  · obtain ⟨a, ns, rfl, _⟩ := h
    rfl
  · obtain ⟨a, ns, rfl, hb, hn, hS, k⟩ := h
    have hr4 : Room 4 _ := hr.mono (by decide)
    have hr1 : Room 1 _ := hr.mono (by decide)
    have hS1 : ∀ x, PSs ((cxOf (CXx P w) P w K mg base ["t", "arms", "fault"] "read" (defScope s_read) f cdv A outer s H E).hand x) (tryH (defBody s_read)) (tHF K 2) := fun x =>
      pss_one (ps_ret (pe_lst (pa_cons (pe_un un_neg (pe_xget (pv 2) ty_kind rfl)) (pa_cons (pe_xget (pv 2) ty_place rfl) pa_nil))))
    refine ⟨_, pss_cons (ps_try (i := 2) (n := "fault") T.xc rfl rfl rfl T.mgE sc_read.nd rfl rfl hS1
        (fun pins D fl => pss_one (ps_set (i := 1) sc_read.nd rfl (Or.inl rfl) (pe_pg pD hr rfl (passX rfl fl) (pa_cons (pv 0) pa_nil)))))
      (pss_one (ps_ret (pe_pg pW hr1 rfl passN (pa_cons (pe_pg pB hr4 rfl passN (pa_cons (pv 1) pa_nil)) pa_nil)))), ?_⟩
    rw [read_eq hb] at k
    refine ⟨_, rfl, a, ns, rfl, hb, hn, hS, ?_⟩
    cases e : ShBlazon.read (byt ns) with
    | error p =>
      rw [e] at k
      intro d H' hd
      refine ⟨rfl, d, rfl, fun x q hx _ => ?_⟩
      refine ⟨_, rfl, x, CE, NE, fE, d, _, _, _, rfl, hx, T.xc, T.nz, hd, look2 _ _, _, rfl, ?_⟩
      refine ⟨_, rfl, x, CE, NE, fE, d, _, _, _, rfl, hx, T.xc, T.nx, hd, look0 _ _, (by show 2 ≤ sizeLine; rw [sizeLine_eq]; omega), fun l hl => ?_⟩
      exact k _ l upd_same
    | ok x =>
      rw [e] at k
      have ok := read_okB e
      intro H1 z s1 hz hA
      refine ⟨_, rfl, z, x, rfl, hA, ok.2.1, fun H2 l s2 hl q2 => ?_⟩
      have alen : (amN x).length ≤ 103 := by
        have := flat_len x.layers
        have := fbN_len x.field
        have := ok.2.1
        unfold amN
        rw [List.length_append, List.length_append]
        have e1 : [x.layers.length].length = 1 := rfl
        omega
      refine ⟨l, _, rfl, q2, by rw [List.length_map]; omega, fun H3 l3 s3 q3 => ?_⟩
      refine k H3 l3 ?_
      have el : x.bytes.length = (amN x).length := by rw [amN_eq, List.length_map]
      rw [q3, List.length_map]
      dsimp only
      rw [amN_ints ok, el, List.map_cons, List.map_map]
      rfl
end
theorem sqt_gen {K : PySem.W.Frag} {a : Addr} {od : Option Addr} {us : List Value} {n : Nat} {sl : Array (Option Value)} {vs : List V} (l : K.lookup a = some ⟨.type "tuple", od, .seq us.toArray n, sl⟩) (r : Vals vs us) (hz : us.length ≤ 100) : ∀ H, SqT K H a vs := fun H =>
  .inr ⟨_, us.toArray, _, l, rfl, rfl, (by rw [List.size_toArray, sizeLine_eq]; omega), by simpa using r⟩
theorem sgL : Sg "abcdefghijklmnopqrstuvwxyz" 97 26 := ⟨by decide +kernel, by decide, by decide⟩
theorem sgD : Sg "0123456789" 48 10 := ⟨by decide +kernel, by decide, by decide⟩
theorem ar1 {us : List Value} (h : us.length = 1) : ∃ a0, us = [a0] := match us, h with | [a0], _ => ⟨a0, rfl⟩
theorem ar2 {us : List Value} (h : us.length = 2) : ∃ a0 a1, us = [a0, a1] := match us, h with | [a0, a1], _ => ⟨a0, a1, rfl⟩
theorem ar3 {us : List Value} (h : us.length = 3) : ∃ a0 a1 a2, us = [a0, a1, a2] := match us, h with | [a0, a1, a2], _ => ⟨a0, a1, a2, rfl⟩
theorem ar4 {us : List Value} (h : us.length = 4) : ∃ a0 a1 a2 a3, us = [a0, a1, a2, a3] := match us, h with | [a0, a1, a2, a3], _ => ⟨a0, a1, a2, a3, rfl⟩
theorem ar6 {us : List Value} (h : us.length = 6) : ∃ a0 a1 a2 a3 a4 a5, us = [a0, a1, a2, a3, a4, a5] := match us, h with | [a0, a1, a2, a3, a4, a5], _ => ⟨a0, a1, a2, a3, a4, a5, rfl⟩
theorem ar7 {us : List Value} (h : us.length = 7) : ∃ a0 a1 a2 a3 a4 a5 a6, us = [a0, a1, a2, a3, a4, a5, a6] := match us, h with | [a0, a1, a2, a3, a4, a5, a6], _ => ⟨a0, a1, a2, a3, a4, a5, a6, rfl⟩
theorem all_mk {P : Program} {w : World} {K : PySem.W.Frag} {h : Heap} {mg : Str → Option Value} {fa CA CE CF CG CK CO CR NE aBL aC aL aM aN aO aP aT aV aW aZ fA fAN fAT fAc fE fF fG fK fO fPk fR fRe fSO fSe f_arms_bytes f_article_before f_charge_words f_check_number f_field_bytes f_fill_bytes f_is_number f_layer_bytes f_read f_read_blazon f_sign_among f_signs_at f_skip_blanks f_take_field f_take_fill f_take_group f_take_layer f_take_line f_take_manner f_take_name f_take_name_if_there f_take_one f_take_ordinary f_take_parted f_take_parted_way f_take_pieces f_take_plain f_take_two_tinctures f_take_varied f_token_at f_with_length : Addr} (X : K.In h) (G : h.Ns mainGlobals mg) (hfa : mg "read" = some (.ref fa))
    {CEnm CEqn : Str} {CEbs CEsub : List Value} {CEsn : List Str} {CEab : Bool} {CEcol : Option Bool} {CEdd : Option Addr} {CEk0 CEk1 CEk2 CEk3 CEk5 : Option Value} {NEoc : Value} {NEod : Option Addr} {NEes : Array DictEntry} {NEen : Nat} {NEsl : Array (Option Value)} {fEod fEan : Option Addr} {fEsl : Array (Option Value)} {fEoc fEkV fEdc fEpm fEcd fEct : Value} {fKod fKan : Option Addr} {fKsl : Array (Option Value)} {fKoc fKkV fKdc fKpm fKcd fKct : Value} {fRod fRan : Option Addr} {fRsl : Array (Option Value)} {fRoc fRkV fRdc fRpm fRcd fRct : Value} {fPkod fPkan : Option Addr} {fPksl : Array (Option Value)} {fPkoc fPkkV fPkdc fPkpm fPkcd fPkct : Value} {fSeod fSean : Option Addr} {fSesl : Array (Option Value)} {fSeoc fSekV fSedc fSepm fSecd fSect : Value} {fSOod fSOan : Option Addr} {fSOsl : Array (Option Value)} {fSOoc fSOkV fSOdc fSOpm fSOcd fSOct : Value} {fAcod fAcan : Option Addr} {fAcsl : Array (Option Value)} {fAcoc fAckV fAcdc fAcpm fAccd fAcct : Value} {fReod fRean : Option Addr} {fResl : Array (Option Value)} {fReoc fRekV fRedc fRepm fRecd fRect : Value} {fATod fATan : Option Addr} {fATsl : Array (Option Value)} {fAToc fATkV fATdc fATpm fATcd fATct : Value} {fANod fANan : Option Addr} {fANsl : Array (Option Value)} {fANoc fANkV fANdc fANpm fANcd fANct : Value} {fFod fFan : Option Addr} {fFsl : Array (Option Value)} {fFoc fFkV fFdc fFpm fFcd fFct : Value} {fOod fOan : Option Addr} {fOsl : Array (Option Value)} {fOoc fOkV fOdc fOpm fOcd fOct : Value} {fGod fGan : Option Addr} {fGsl : Array (Option Value)} {fGoc fGkV fGdc fGpm fGcd fGct : Value} {fAod fAan : Option Addr} {fAsl : Array (Option Value)} {fAoc fAkV fAdc fApm fAcd fAct : Value} {f_sign_amongod f_sign_amongan : Option Addr} {f_sign_amongsl : Array (Option Value)} {f_sign_amongoc f_sign_amongkV f_sign_amongdc f_sign_amongpm f_sign_amongcd f_sign_amongct : Value} {f_skip_blanksod f_skip_blanksan : Option Addr} {f_skip_blankssl : Array (Option Value)} {f_skip_blanksoc f_skip_blankskV f_skip_blanksdc f_skip_blankspm f_skip_blankscd f_skip_blanksct : Value} {f_signs_atod f_signs_atan : Option Addr} {f_signs_atsl : Array (Option Value)} {f_signs_atoc f_signs_atkV f_signs_atdc f_signs_atpm f_signs_atcd f_signs_atct : Value} {f_token_atod f_token_atan : Option Addr} {f_token_atsl : Array (Option Value)} {f_token_atoc f_token_atkV f_token_atdc f_token_atpm f_token_atcd f_token_atct : Value} {f_is_numberod f_is_numberan : Option Addr} {f_is_numbersl : Array (Option Value)} {f_is_numberoc f_is_numberkV f_is_numberdc f_is_numberpm f_is_numbercd f_is_numberct : Value} {f_check_numberod f_check_numberan : Option Addr} {f_check_numbersl : Array (Option Value)} {f_check_numberoc f_check_numberkV f_check_numberdc f_check_numberpm f_check_numbercd f_check_numberct : Value} {f_article_beforeod f_article_beforean : Option Addr} {f_article_beforesl : Array (Option Value)} {f_article_beforeoc f_article_beforekV f_article_beforedc f_article_beforepm f_article_beforecd f_article_beforect : Value} {f_charge_wordsod f_charge_wordsan : Option Addr} {f_charge_wordssl : Array (Option Value)} {f_charge_wordsoc f_charge_wordskV f_charge_wordsdc f_charge_wordspm f_charge_wordscd f_charge_wordsct : Value} {f_take_nameod f_take_namean : Option Addr} {f_take_namesl : Array (Option Value)} {f_take_nameoc f_take_namekV f_take_namedc f_take_namepm f_take_namecd f_take_namect : Value} {f_take_name_if_thereod f_take_name_if_therean : Option Addr} {f_take_name_if_theresl : Array (Option Value)} {f_take_name_if_thereoc f_take_name_if_therekV f_take_name_if_theredc f_take_name_if_therepm f_take_name_if_therecd f_take_name_if_therect : Value} {f_take_lineod f_take_linean : Option Addr} {f_take_linesl : Array (Option Value)} {f_take_lineoc f_take_linekV f_take_linedc f_take_linepm f_take_linecd f_take_linect : Value} {f_take_two_tincturesod f_take_two_tincturesan : Option Addr} {f_take_two_tincturessl : Array (Option Value)} {f_take_two_tincturesoc f_take_two_tinctureskV f_take_two_tincturesdc f_take_two_tincturespm f_take_two_tincturescd f_take_two_tincturesct : Value} {f_take_piecesod f_take_piecesan : Option Addr} {f_take_piecessl : Array (Option Value)} {f_take_piecesoc f_take_pieceskV f_take_piecesdc f_take_piecespm f_take_piecescd f_take_piecesct : Value} {f_take_plainod f_take_plainan : Option Addr} {f_take_plainsl : Array (Option Value)} {f_take_plainoc f_take_plainkV f_take_plaindc f_take_plainpm f_take_plaincd f_take_plainct : Value} {f_take_parted_wayod f_take_parted_wayan : Option Addr} {f_take_parted_waysl : Array (Option Value)} {f_take_parted_wayoc f_take_parted_waykV f_take_parted_waydc f_take_parted_waypm f_take_parted_waycd f_take_parted_wayct : Value} {f_take_partedod f_take_partedan : Option Addr} {f_take_partedsl : Array (Option Value)} {f_take_partedoc f_take_partedkV f_take_parteddc f_take_partedpm f_take_partedcd f_take_partedct : Value} {f_take_variedod f_take_variedan : Option Addr} {f_take_variedsl : Array (Option Value)} {f_take_variedoc f_take_variedkV f_take_varieddc f_take_variedpm f_take_variedcd f_take_variedct : Value} {f_take_fieldod f_take_fieldan : Option Addr} {f_take_fieldsl : Array (Option Value)} {f_take_fieldoc f_take_fieldkV f_take_fielddc f_take_fieldpm f_take_fieldcd f_take_fieldct : Value} {f_take_fillod f_take_fillan : Option Addr} {f_take_fillsl : Array (Option Value)} {f_take_filloc f_take_fillkV f_take_filldc f_take_fillpm f_take_fillcd f_take_fillct : Value} {f_take_mannerod f_take_manneran : Option Addr} {f_take_mannersl : Array (Option Value)} {f_take_manneroc f_take_mannerkV f_take_mannerdc f_take_mannerpm f_take_mannercd f_take_mannerct : Value} {f_take_ordinaryod f_take_ordinaryan : Option Addr} {f_take_ordinarysl : Array (Option Value)} {f_take_ordinaryoc f_take_ordinarykV f_take_ordinarydc f_take_ordinarypm f_take_ordinarycd f_take_ordinaryct : Value} {f_take_groupod f_take_groupan : Option Addr} {f_take_groupsl : Array (Option Value)} {f_take_groupoc f_take_groupkV f_take_groupdc f_take_grouppm f_take_groupcd f_take_groupct : Value} {f_take_oneod f_take_onean : Option Addr} {f_take_onesl : Array (Option Value)} {f_take_oneoc f_take_onekV f_take_onedc f_take_onepm f_take_onecd f_take_onect : Value} {f_take_layerod f_take_layeran : Option Addr} {f_take_layersl : Array (Option Value)} {f_take_layeroc f_take_layerkV f_take_layerdc f_take_layerpm f_take_layercd f_take_layerct : Value} {f_read_blazonod f_read_blazonan : Option Addr} {f_read_blazonsl : Array (Option Value)} {f_read_blazonoc f_read_blazonkV f_read_blazondc f_read_blazonpm f_read_blazoncd f_read_blazonct : Value} {f_field_bytesod f_field_bytesan : Option Addr} {f_field_bytessl : Array (Option Value)} {f_field_bytesoc f_field_byteskV f_field_bytesdc f_field_bytespm f_field_bytescd f_field_bytesct : Value} {f_fill_bytesod f_fill_bytesan : Option Addr} {f_fill_bytessl : Array (Option Value)} {f_fill_bytesoc f_fill_byteskV f_fill_bytesdc f_fill_bytespm f_fill_bytescd f_fill_bytesct : Value} {f_layer_bytesod f_layer_bytesan : Option Addr} {f_layer_bytessl : Array (Option Value)} {f_layer_bytesoc f_layer_byteskV f_layer_bytesdc f_layer_bytespm f_layer_bytescd f_layer_bytesct : Value} {f_arms_bytesod f_arms_bytesan : Option Addr} {f_arms_bytessl : Array (Option Value)} {f_arms_bytesoc f_arms_byteskV f_arms_bytesdc f_arms_bytespm f_arms_bytescd f_arms_bytesct : Value} {f_with_lengthod f_with_lengthan : Option Addr} {f_with_lengthsl : Array (Option Value)} {f_with_lengthoc f_with_lengthkV f_with_lengthdc f_with_lengthpm f_with_lengthcd f_with_lengthct : Value} {f_readod f_readan : Option Addr} {f_readsl : Array (Option Value)} {f_readoc f_readkV f_readdc f_readpm f_readcd f_readct : Value} {c_PLAINt : Tok} {c_PARTEDt : Tok} {c_VARIEDt : Tok} {c_CHEQUYt : Tok} {c_LOZENGYt : Tok} {c_ORDINARY_LAYERt : Tok} {c_GROUP_LAYERt : Tok} {c_FIELD_FILLt : Tok} {c_COUNTERCHANGED_FILLt : Tok} {c_MOST_DIGITSt : Tok} {c_BYTE_THAT_CANT_BEt : Tok} {c_NO_NUMBERt : Tok} {c_ELSE_WANTEDt : Tok} {c_SAME_TINCTUREt : Tok} {c_PIECES_OUT_OF_BOUNDSt : Tok} {c_LEAST_PIECESt : Tok} {c_MOST_PIECESt : Tok} {c_COUNTERCHANGED_OVER_PLAINt : Tok} {c_PLAIN_SIZEt : Tok} {c_WRONG_ARTICLEt : Tok} {c_MOST_LAYERSt : Tok} {c_NINTH_LAYERt : Tok} {aT0 aT1 aT2 aT3 aT4 aT5 aT6 aT7 aT8 : Tok} {aTn : Nat} {aTsl : Array (Option Value)} {aL1 aL2 aL3 aL4 aL5 : Tok} {aLn : Nat} {aLsl : Array (Option Value)} {aP0 aP1 aP2 aP3 aP4 aP5 : Tok} {aPn : Nat} {aPsl : Array (Option Value)} {aW0 aW1 : Tok} {aWn : Nat} {aWsl : Array (Option Value)} {aV0 aV1 aV2 aV3 aV4 aV5 aV6 : Tok} {aVn : Nat} {aVsl : Array (Option Value)} {aO0 aO1 aO2 aO3 aO4 aO5 aO6 aO7 aO8 aO9 aO10 aO11 aO12 : Tok} {aOn : Nat} {aOsl : Array (Option Value)} {aC0 aC1 aC2 aC3 aC4 aC5 aC6 aC7 aC8 aC9 aC10 aC11 aC12 aC13 aC14 aC15 : Tok} {aCn : Nat} {aCsl : Array (Option Value)} {aN2 aN3 aN4 aN5 aN6 aN7 aN8 aN9 aN10 : Tok} {aNn : Nat} {aNsl : Array (Option Value)} {aZ1 aZ2 aZ4 : Tok} {aZn : Nat} {aZsl : Array (Option Value)} {aM1 aM2 aM3 aM4 aM5 aM6 : Tok} {aMn : Nat} {aMsl : Array (Option Value)} {aBLod : Option Addr} {aBL0 aBL1 : Tok} {aBLn : Nat} {aBLsl : Array (Option Value)}
    (aCE : PySem.W.nsIn K mainGlobals "BlazonFault" = some (some (.ref CE)))
    (lCE : K.lookup CE = some (excClassObj CEnm CEqn CE NE CEbs Xc.bmV true CEsn CEsub CEab CEcol CEdd CEk0 CEk1 CEk2 CEk3 CEk5 "ValueError.__new__"))
    (lNE : K.lookup NE = some ⟨NEoc, NEod, .dict NEes NEen, NEsl⟩)
    (oNE : (NEes.toList.all fun e => match e.key with | .str _ _ => true | _ => false) = true)
    (iNE : PySem.W.nsIn K NE "__init__" = some (some (.ref fE)))
    (n0NE : PySem.W.nsIn K NE "__setattr__" = some none)
    (n1NE : PySem.W.nsIn K NE "__getattribute__" = some none)
    (n2NE : PySem.W.nsIn K NE "__getattr__" = some none)
    (n3NE : PySem.W.nsIn K NE "place" = some none)
    (n4NE : PySem.W.nsIn K NE "kind" = some none)
    (pCE : PySem.W.keepIn K (.ref CE) = true)
    (aCK : PySem.W.nsIn K mainGlobals "Token" = some (some (.ref CK)))
    (pgCK : PySem.W.plainGet K CK Str.empty = true)
    (hdCK : PySem.W.hasDictIn K CK = true)
    (poCK : PySem.W.plainOver K CK = true)
    (saCK : PySem.W.findIn K (.ref CK) "__setattr__" = some (some (.builtin "object.__setattr__")))
    (mkCK : PySem.W.makesIn K CK = true)
    (kcCK : PySem.W.keepIn K (.ref CK) = true)
    (noCK_text : PySem.W.findIn K (.ref CK) "text" = some none)
    (noCK_place : PySem.W.findIn K (.ref CK) "place" = some none)
    (noCK_end : PySem.W.findIn K (.ref CK) "end" = some none)
    (aCR : PySem.W.nsIn K mainGlobals "TokenReader" = some (some (.ref CR)))
    (pgCR : PySem.W.plainGet K CR Str.empty = true)
    (hdCR : PySem.W.hasDictIn K CR = true)
    (poCR : PySem.W.plainOver K CR = true)
    (saCR : PySem.W.findIn K (.ref CR) "__setattr__" = some (some (.builtin "object.__setattr__")))
    (mkCR : PySem.W.makesIn K CR = true)
    (kcCR : PySem.W.keepIn K (.ref CR) = true)
    (noCR_data : PySem.W.findIn K (.ref CR) "data" = some none)
    (noCR_ahead : PySem.W.findIn K (.ref CR) "ahead" = some none)
    (noCR_end : PySem.W.findIn K (.ref CR) "end" = some none)
    (aCF : PySem.W.nsIn K mainGlobals "Field" = some (some (.ref CF)))
    (pgCF : PySem.W.plainGet K CF Str.empty = true)
    (hdCF : PySem.W.hasDictIn K CF = true)
    (poCF : PySem.W.plainOver K CF = true)
    (saCF : PySem.W.findIn K (.ref CF) "__setattr__" = some (some (.builtin "object.__setattr__")))
    (mkCF : PySem.W.makesIn K CF = true)
    (kcCF : PySem.W.keepIn K (.ref CF) = true)
    (noCF_kind : PySem.W.findIn K (.ref CF) "kind" = some none)
    (noCF_way : PySem.W.findIn K (.ref CF) "way" = some none)
    (noCF_pieces : PySem.W.findIn K (.ref CF) "pieces" = some none)
    (noCF_line : PySem.W.findIn K (.ref CF) "line" = some none)
    (noCF_first : PySem.W.findIn K (.ref CF) "first" = some none)
    (noCF_second : PySem.W.findIn K (.ref CF) "second" = some none)
    (aCO : PySem.W.nsIn K mainGlobals "OrdinaryLayer" = some (some (.ref CO)))
    (pgCO : PySem.W.plainGet K CO Str.empty = true)
    (hdCO : PySem.W.hasDictIn K CO = true)
    (poCO : PySem.W.plainOver K CO = true)
    (saCO : PySem.W.findIn K (.ref CO) "__setattr__" = some (some (.builtin "object.__setattr__")))
    (mkCO : PySem.W.makesIn K CO = true)
    (kcCO : PySem.W.keepIn K (.ref CO) = true)
    (noCO_ordinary : PySem.W.findIn K (.ref CO) "ordinary" = some none)
    (noCO_line : PySem.W.findIn K (.ref CO) "line" = some none)
    (noCO_fill : PySem.W.findIn K (.ref CO) "fill" = some none)
    (aCG : PySem.W.nsIn K mainGlobals "GroupLayer" = some (some (.ref CG)))
    (pgCG : PySem.W.plainGet K CG Str.empty = true)
    (hdCG : PySem.W.hasDictIn K CG = true)
    (poCG : PySem.W.plainOver K CG = true)
    (saCG : PySem.W.findIn K (.ref CG) "__setattr__" = some (some (.builtin "object.__setattr__")))
    (mkCG : PySem.W.makesIn K CG = true)
    (kcCG : PySem.W.keepIn K (.ref CG) = true)
    (noCG_charge : PySem.W.findIn K (.ref CG) "charge" = some none)
    (noCG_how_many : PySem.W.findIn K (.ref CG) "how_many" = some none)
    (noCG_manner : PySem.W.findIn K (.ref CG) "manner" = some none)
    (noCG_size : PySem.W.findIn K (.ref CG) "size" = some none)
    (noCG_fill : PySem.W.findIn K (.ref CG) "fill" = some none)
    (aCA : PySem.W.nsIn K mainGlobals "Arms" = some (some (.ref CA)))
    (pgCA : PySem.W.plainGet K CA Str.empty = true)
    (hdCA : PySem.W.hasDictIn K CA = true)
    (poCA : PySem.W.plainOver K CA = true)
    (saCA : PySem.W.findIn K (.ref CA) "__setattr__" = some (some (.builtin "object.__setattr__")))
    (mkCA : PySem.W.makesIn K CA = true)
    (kcCA : PySem.W.keepIn K (.ref CA) = true)
    (noCA_field : PySem.W.findIn K (.ref CA) "field" = some none)
    (noCA_layers : PySem.W.findIn K (.ref CA) "layers" = some none)
    (ifE : PySem.W.isFn K (.ref fE) = true)
    (lfE : K.lookup fE = some ⟨fEoc, fEod, .func (PySem.W.fnOf "__init__" "BlazonFault.__init__" (defArgs sXI) (defBody sXI) (defScope sXI) .none fEkV fEdc fEpm fEan fEcd fEct), fEsl⟩)
    (cfE : PySem.W.codeIn K fEcd "BlazonFault.__init__" = true)
    (kfE : PySem.W.keepIn K (.ref fE) = true)
    (afK : PySem.W.findIn K (.ref CK) "__init__" = some (some (.ref fK)))
    (ifK : PySem.W.isFn K (.ref fK) = true)
    (lfK : K.lookup fK = some ⟨fKoc, fKod, .func (PySem.W.fnOf "__init__" "Token.__init__" (defArgs sKI) (defBody sKI) (defScope sKI) .none fKkV fKdc fKpm fKan fKcd fKct), fKsl⟩)
    (cfK : PySem.W.codeIn K fKcd "Token.__init__" = true)
    (kfK : PySem.W.keepIn K (.ref fK) = true)
    (afR : PySem.W.findIn K (.ref CR) "__init__" = some (some (.ref fR)))
    (ifR : PySem.W.isFn K (.ref fR) = true)
    (lfR : K.lookup fR = some ⟨fRoc, fRod, .func (PySem.W.fnOf "__init__" "TokenReader.__init__" (defArgs s_T_init) (defBody s_T_init) (defScope s_T_init) .none fRkV fRdc fRpm fRan fRcd fRct), fRsl⟩)
    (cfR : PySem.W.codeIn K fRcd "TokenReader.__init__" = true)
    (kfR : PySem.W.keepIn K (.ref fR) = true)
    (afPk : PySem.W.findIn K (.ref CR) "peek" = some (some (.ref fPk)))
    (ifPk : PySem.W.isFn K (.ref fPk) = true)
    (lfPk : K.lookup fPk = some ⟨fPkoc, fPkod, .func (PySem.W.fnOf "peek" "TokenReader.peek" (defArgs s_T_peek) (defBody s_T_peek) (defScope s_T_peek) .none fPkkV fPkdc fPkpm fPkan fPkcd fPkct), fPksl⟩)
    (cfPk : PySem.W.codeIn K fPkcd "TokenReader.peek" = true)
    (kfPk : PySem.W.keepIn K (.ref fPk) = true)
    (afSe : PySem.W.findIn K (.ref CR) "sees" = some (some (.ref fSe)))
    (ifSe : PySem.W.isFn K (.ref fSe) = true)
    (lfSe : K.lookup fSe = some ⟨fSeoc, fSeod, .func (PySem.W.fnOf "sees" "TokenReader.sees" (defArgs s_T_sees) (defBody s_T_sees) (defScope s_T_sees) .none fSekV fSedc fSepm fSean fSecd fSect), fSesl⟩)
    (cfSe : PySem.W.codeIn K fSecd "TokenReader.sees" = true)
    (kfSe : PySem.W.keepIn K (.ref fSe) = true)
    (afSO : PySem.W.findIn K (.ref CR) "sees_one_of" = some (some (.ref fSO)))
    (ifSO : PySem.W.isFn K (.ref fSO) = true)
    (lfSO : K.lookup fSO = some ⟨fSOoc, fSOod, .func (PySem.W.fnOf "sees_one_of" "TokenReader.sees_one_of" (defArgs s_T_sees_one_of) (defBody s_T_sees_one_of) (defScope s_T_sees_one_of) .none fSOkV fSOdc fSOpm fSOan fSOcd fSOct), fSOsl⟩)
    (cfSO : PySem.W.codeIn K fSOcd "TokenReader.sees_one_of" = true)
    (kfSO : PySem.W.keepIn K (.ref fSO) = true)
    (afAc : PySem.W.findIn K (.ref CR) "accept" = some (some (.ref fAc)))
    (ifAc : PySem.W.isFn K (.ref fAc) = true)
    (lfAc : K.lookup fAc = some ⟨fAcoc, fAcod, .func (PySem.W.fnOf "accept" "TokenReader.accept" (defArgs s_T_accept) (defBody s_T_accept) (defScope s_T_accept) .none fAckV fAcdc fAcpm fAcan fAccd fAcct), fAcsl⟩)
    (cfAc : PySem.W.codeIn K fAccd "TokenReader.accept" = true)
    (kfAc : PySem.W.keepIn K (.ref fAc) = true)
    (afRe : PySem.W.findIn K (.ref CR) "refuse" = some (some (.ref fRe)))
    (ifRe : PySem.W.isFn K (.ref fRe) = true)
    (lfRe : K.lookup fRe = some ⟨fReoc, fReod, .func (PySem.W.fnOf "refuse" "TokenReader.refuse" (defArgs s_T_refuse) (defBody s_T_refuse) (defScope s_T_refuse) .none fRekV fRedc fRepm fRean fRecd fRect), fResl⟩)
    (cfRe : PySem.W.codeIn K fRecd "TokenReader.refuse" = true)
    (kfRe : PySem.W.keepIn K (.ref fRe) = true)
    (afAT : PySem.W.findIn K (.ref CR) "accept_text" = some (some (.ref fAT)))
    (ifAT : PySem.W.isFn K (.ref fAT) = true)
    (lfAT : K.lookup fAT = some ⟨fAToc, fATod, .func (PySem.W.fnOf "accept_text" "TokenReader.accept_text" (defArgs s_T_accept_text) (defBody s_T_accept_text) (defScope s_T_accept_text) .none fATkV fATdc fATpm fATan fATcd fATct), fATsl⟩)
    (cfAT : PySem.W.codeIn K fATcd "TokenReader.accept_text" = true)
    (kfAT : PySem.W.keepIn K (.ref fAT) = true)
    (afAN : PySem.W.findIn K (.ref CR) "accept_number" = some (some (.ref fAN)))
    (ifAN : PySem.W.isFn K (.ref fAN) = true)
    (lfAN : K.lookup fAN = some ⟨fANoc, fANod, .func (PySem.W.fnOf "accept_number" "TokenReader.accept_number" (defArgs s_T_accept_number) (defBody s_T_accept_number) (defScope s_T_accept_number) .none fANkV fANdc fANpm fANan fANcd fANct), fANsl⟩)
    (cfAN : PySem.W.codeIn K fANcd "TokenReader.accept_number" = true)
    (kfAN : PySem.W.keepIn K (.ref fAN) = true)
    (afF : PySem.W.findIn K (.ref CF) "__init__" = some (some (.ref fF)))
    (ifF : PySem.W.isFn K (.ref fF) = true)
    (lfF : K.lookup fF = some ⟨fFoc, fFod, .func (PySem.W.fnOf "__init__" "Field.__init__" (defArgs sFI) (defBody sFI) (defScope sFI) .none fFkV fFdc fFpm fFan fFcd fFct), fFsl⟩)
    (cfF : PySem.W.codeIn K fFcd "Field.__init__" = true)
    (kfF : PySem.W.keepIn K (.ref fF) = true)
    (afO : PySem.W.findIn K (.ref CO) "__init__" = some (some (.ref fO)))
    (ifO : PySem.W.isFn K (.ref fO) = true)
    (lfO : K.lookup fO = some ⟨fOoc, fOod, .func (PySem.W.fnOf "__init__" "OrdinaryLayer.__init__" (defArgs sOI) (defBody sOI) (defScope sOI) .none fOkV fOdc fOpm fOan fOcd fOct), fOsl⟩)
    (cfO : PySem.W.codeIn K fOcd "OrdinaryLayer.__init__" = true)
    (kfO : PySem.W.keepIn K (.ref fO) = true)
    (afG : PySem.W.findIn K (.ref CG) "__init__" = some (some (.ref fG)))
    (ifG : PySem.W.isFn K (.ref fG) = true)
    (lfG : K.lookup fG = some ⟨fGoc, fGod, .func (PySem.W.fnOf "__init__" "GroupLayer.__init__" (defArgs sGI) (defBody sGI) (defScope sGI) .none fGkV fGdc fGpm fGan fGcd fGct), fGsl⟩)
    (cfG : PySem.W.codeIn K fGcd "GroupLayer.__init__" = true)
    (kfG : PySem.W.keepIn K (.ref fG) = true)
    (afA : PySem.W.findIn K (.ref CA) "__init__" = some (some (.ref fA)))
    (ifA : PySem.W.isFn K (.ref fA) = true)
    (lfA : K.lookup fA = some ⟨fAoc, fAod, .func (PySem.W.fnOf "__init__" "Arms.__init__" (defArgs sAI) (defBody sAI) (defScope sAI) .none fAkV fAdc fApm fAan fAcd fAct), fAsl⟩)
    (cfA : PySem.W.codeIn K fAcd "Arms.__init__" = true)
    (kfA : PySem.W.keepIn K (.ref fA) = true)
    (af_sign_among : PySem.W.nsIn K mainGlobals "sign_among" = some (some (.ref f_sign_among)))
    (lf_sign_among : K.lookup f_sign_among = some ⟨f_sign_amongoc, f_sign_amongod, .func (PySem.W.fnOf "sign_among" "sign_among" (defArgs s_sign_among) (defBody s_sign_among) (defScope s_sign_among) .none f_sign_amongkV f_sign_amongdc f_sign_amongpm f_sign_amongan f_sign_amongcd f_sign_amongct), f_sign_amongsl⟩)
    (cf_sign_among : PySem.W.codeIn K f_sign_amongcd "sign_among" = true)
    (kf_sign_among : PySem.W.keepIn K (.ref f_sign_among) = true)
    (af_skip_blanks : PySem.W.nsIn K mainGlobals "skip_blanks" = some (some (.ref f_skip_blanks)))
    (lf_skip_blanks : K.lookup f_skip_blanks = some ⟨f_skip_blanksoc, f_skip_blanksod, .func (PySem.W.fnOf "skip_blanks" "skip_blanks" (defArgs s_skip_blanks) (defBody s_skip_blanks) (defScope s_skip_blanks) .none f_skip_blankskV f_skip_blanksdc f_skip_blankspm f_skip_blanksan f_skip_blankscd f_skip_blanksct), f_skip_blankssl⟩)
    (cf_skip_blanks : PySem.W.codeIn K f_skip_blankscd "skip_blanks" = true)
    (kf_skip_blanks : PySem.W.keepIn K (.ref f_skip_blanks) = true)
    (af_signs_at : PySem.W.nsIn K mainGlobals "signs_at" = some (some (.ref f_signs_at)))
    (lf_signs_at : K.lookup f_signs_at = some ⟨f_signs_atoc, f_signs_atod, .func (PySem.W.fnOf "signs_at" "signs_at" (defArgs s_signs_at) (defBody s_signs_at) (defScope s_signs_at) .none f_signs_atkV f_signs_atdc f_signs_atpm f_signs_atan f_signs_atcd f_signs_atct), f_signs_atsl⟩)
    (cf_signs_at : PySem.W.codeIn K f_signs_atcd "signs_at" = true)
    (kf_signs_at : PySem.W.keepIn K (.ref f_signs_at) = true)
    (af_token_at : PySem.W.nsIn K mainGlobals "token_at" = some (some (.ref f_token_at)))
    (lf_token_at : K.lookup f_token_at = some ⟨f_token_atoc, f_token_atod, .func (PySem.W.fnOf "token_at" "token_at" (defArgs s_token_at) (defBody s_token_at) (defScope s_token_at) .none f_token_atkV f_token_atdc f_token_atpm f_token_atan f_token_atcd f_token_atct), f_token_atsl⟩)
    (cf_token_at : PySem.W.codeIn K f_token_atcd "token_at" = true)
    (kf_token_at : PySem.W.keepIn K (.ref f_token_at) = true)
    (af_is_number : PySem.W.nsIn K mainGlobals "is_number" = some (some (.ref f_is_number)))
    (lf_is_number : K.lookup f_is_number = some ⟨f_is_numberoc, f_is_numberod, .func (PySem.W.fnOf "is_number" "is_number" (defArgs s_is_number) (defBody s_is_number) (defScope s_is_number) .none f_is_numberkV f_is_numberdc f_is_numberpm f_is_numberan f_is_numbercd f_is_numberct), f_is_numbersl⟩)
    (cf_is_number : PySem.W.codeIn K f_is_numbercd "is_number" = true)
    (kf_is_number : PySem.W.keepIn K (.ref f_is_number) = true)
    (af_check_number : PySem.W.nsIn K mainGlobals "check_number" = some (some (.ref f_check_number)))
    (lf_check_number : K.lookup f_check_number = some ⟨f_check_numberoc, f_check_numberod, .func (PySem.W.fnOf "check_number" "check_number" (defArgs s_check_number) (defBody s_check_number) (defScope s_check_number) .none f_check_numberkV f_check_numberdc f_check_numberpm f_check_numberan f_check_numbercd f_check_numberct), f_check_numbersl⟩)
    (cf_check_number : PySem.W.codeIn K f_check_numbercd "check_number" = true)
    (kf_check_number : PySem.W.keepIn K (.ref f_check_number) = true)
    (af_article_before : PySem.W.nsIn K mainGlobals "article_before" = some (some (.ref f_article_before)))
    (lf_article_before : K.lookup f_article_before = some ⟨f_article_beforeoc, f_article_beforeod, .func (PySem.W.fnOf "article_before" "article_before" (defArgs sAB) (defBody sAB) (defScope sAB) .none f_article_beforekV f_article_beforedc f_article_beforepm f_article_beforean f_article_beforecd f_article_beforect), f_article_beforesl⟩)
    (cf_article_before : PySem.W.codeIn K f_article_beforecd "article_before" = true)
    (kf_article_before : PySem.W.keepIn K (.ref f_article_before) = true)
    (af_charge_words : PySem.W.nsIn K mainGlobals "charge_words" = some (some (.ref f_charge_words)))
    (lf_charge_words : K.lookup f_charge_words = some ⟨f_charge_wordsoc, f_charge_wordsod, .func (PySem.W.fnOf "charge_words" "charge_words" (defArgs sCW) (defBody sCW) (defScope sCW) .none f_charge_wordskV f_charge_wordsdc f_charge_wordspm f_charge_wordsan f_charge_wordscd f_charge_wordsct), f_charge_wordssl⟩)
    (cf_charge_words : PySem.W.codeIn K f_charge_wordscd "charge_words" = true)
    (kf_charge_words : PySem.W.keepIn K (.ref f_charge_words) = true)
    (af_take_name : PySem.W.nsIn K mainGlobals "take_name" = some (some (.ref f_take_name)))
    (lf_take_name : K.lookup f_take_name = some ⟨f_take_nameoc, f_take_nameod, .func (PySem.W.fnOf "take_name" "take_name" (defArgs s_take_name) (defBody s_take_name) (defScope s_take_name) .none f_take_namekV f_take_namedc f_take_namepm f_take_namean f_take_namecd f_take_namect), f_take_namesl⟩)
    (cf_take_name : PySem.W.codeIn K f_take_namecd "take_name" = true)
    (kf_take_name : PySem.W.keepIn K (.ref f_take_name) = true)
    (af_take_name_if_there : PySem.W.nsIn K mainGlobals "take_name_if_there" = some (some (.ref f_take_name_if_there)))
    (lf_take_name_if_there : K.lookup f_take_name_if_there = some ⟨f_take_name_if_thereoc, f_take_name_if_thereod, .func (PySem.W.fnOf "take_name_if_there" "take_name_if_there" (defArgs s_take_name_if_there) (defBody s_take_name_if_there) (defScope s_take_name_if_there) .none f_take_name_if_therekV f_take_name_if_theredc f_take_name_if_therepm f_take_name_if_therean f_take_name_if_therecd f_take_name_if_therect), f_take_name_if_theresl⟩)
    (cf_take_name_if_there : PySem.W.codeIn K f_take_name_if_therecd "take_name_if_there" = true)
    (kf_take_name_if_there : PySem.W.keepIn K (.ref f_take_name_if_there) = true)
    (af_take_line : PySem.W.nsIn K mainGlobals "take_line" = some (some (.ref f_take_line)))
    (lf_take_line : K.lookup f_take_line = some ⟨f_take_lineoc, f_take_lineod, .func (PySem.W.fnOf "take_line" "take_line" (defArgs s_take_line) (defBody s_take_line) (defScope s_take_line) .none f_take_linekV f_take_linedc f_take_linepm f_take_linean f_take_linecd f_take_linect), f_take_linesl⟩)
    (cf_take_line : PySem.W.codeIn K f_take_linecd "take_line" = true)
    (kf_take_line : PySem.W.keepIn K (.ref f_take_line) = true)
    (af_take_two_tinctures : PySem.W.nsIn K mainGlobals "take_two_tinctures" = some (some (.ref f_take_two_tinctures)))
    (lf_take_two_tinctures : K.lookup f_take_two_tinctures = some ⟨f_take_two_tincturesoc, f_take_two_tincturesod, .func (PySem.W.fnOf "take_two_tinctures" "take_two_tinctures" (defArgs s_take_two_tinctures) (defBody s_take_two_tinctures) (defScope s_take_two_tinctures) .none f_take_two_tinctureskV f_take_two_tincturesdc f_take_two_tincturespm f_take_two_tincturesan f_take_two_tincturescd f_take_two_tincturesct), f_take_two_tincturessl⟩)
    (cf_take_two_tinctures : PySem.W.codeIn K f_take_two_tincturescd "take_two_tinctures" = true)
    (kf_take_two_tinctures : PySem.W.keepIn K (.ref f_take_two_tinctures) = true)
    (af_take_pieces : PySem.W.nsIn K mainGlobals "take_pieces" = some (some (.ref f_take_pieces)))
    (lf_take_pieces : K.lookup f_take_pieces = some ⟨f_take_piecesoc, f_take_piecesod, .func (PySem.W.fnOf "take_pieces" "take_pieces" (defArgs s_take_pieces) (defBody s_take_pieces) (defScope s_take_pieces) .none f_take_pieceskV f_take_piecesdc f_take_piecespm f_take_piecesan f_take_piecescd f_take_piecesct), f_take_piecessl⟩)
    (cf_take_pieces : PySem.W.codeIn K f_take_piecescd "take_pieces" = true)
    (kf_take_pieces : PySem.W.keepIn K (.ref f_take_pieces) = true)
    (af_take_plain : PySem.W.nsIn K mainGlobals "take_plain" = some (some (.ref f_take_plain)))
    (lf_take_plain : K.lookup f_take_plain = some ⟨f_take_plainoc, f_take_plainod, .func (PySem.W.fnOf "take_plain" "take_plain" (defArgs s_take_plain) (defBody s_take_plain) (defScope s_take_plain) .none f_take_plainkV f_take_plaindc f_take_plainpm f_take_plainan f_take_plaincd f_take_plainct), f_take_plainsl⟩)
    (cf_take_plain : PySem.W.codeIn K f_take_plaincd "take_plain" = true)
    (kf_take_plain : PySem.W.keepIn K (.ref f_take_plain) = true)
    (af_take_parted_way : PySem.W.nsIn K mainGlobals "take_parted_way" = some (some (.ref f_take_parted_way)))
    (lf_take_parted_way : K.lookup f_take_parted_way = some ⟨f_take_parted_wayoc, f_take_parted_wayod, .func (PySem.W.fnOf "take_parted_way" "take_parted_way" (defArgs s_take_parted_way) (defBody s_take_parted_way) (defScope s_take_parted_way) .none f_take_parted_waykV f_take_parted_waydc f_take_parted_waypm f_take_parted_wayan f_take_parted_waycd f_take_parted_wayct), f_take_parted_waysl⟩)
    (cf_take_parted_way : PySem.W.codeIn K f_take_parted_waycd "take_parted_way" = true)
    (kf_take_parted_way : PySem.W.keepIn K (.ref f_take_parted_way) = true)
    (af_take_parted : PySem.W.nsIn K mainGlobals "take_parted" = some (some (.ref f_take_parted)))
    (lf_take_parted : K.lookup f_take_parted = some ⟨f_take_partedoc, f_take_partedod, .func (PySem.W.fnOf "take_parted" "take_parted" (defArgs s_take_parted) (defBody s_take_parted) (defScope s_take_parted) .none f_take_partedkV f_take_parteddc f_take_partedpm f_take_partedan f_take_partedcd f_take_partedct), f_take_partedsl⟩)
    (cf_take_parted : PySem.W.codeIn K f_take_partedcd "take_parted" = true)
    (kf_take_parted : PySem.W.keepIn K (.ref f_take_parted) = true)
    (af_take_varied : PySem.W.nsIn K mainGlobals "take_varied" = some (some (.ref f_take_varied)))
    (lf_take_varied : K.lookup f_take_varied = some ⟨f_take_variedoc, f_take_variedod, .func (PySem.W.fnOf "take_varied" "take_varied" (defArgs s_take_varied) (defBody s_take_varied) (defScope s_take_varied) .none f_take_variedkV f_take_varieddc f_take_variedpm f_take_variedan f_take_variedcd f_take_variedct), f_take_variedsl⟩)
    (cf_take_varied : PySem.W.codeIn K f_take_variedcd "take_varied" = true)
    (kf_take_varied : PySem.W.keepIn K (.ref f_take_varied) = true)
    (af_take_field : PySem.W.nsIn K mainGlobals "take_field" = some (some (.ref f_take_field)))
    (lf_take_field : K.lookup f_take_field = some ⟨f_take_fieldoc, f_take_fieldod, .func (PySem.W.fnOf "take_field" "take_field" (defArgs s_take_field) (defBody s_take_field) (defScope s_take_field) .none f_take_fieldkV f_take_fielddc f_take_fieldpm f_take_fieldan f_take_fieldcd f_take_fieldct), f_take_fieldsl⟩)
    (cf_take_field : PySem.W.codeIn K f_take_fieldcd "take_field" = true)
    (kf_take_field : PySem.W.keepIn K (.ref f_take_field) = true)
    (af_take_fill : PySem.W.nsIn K mainGlobals "take_fill" = some (some (.ref f_take_fill)))
    (lf_take_fill : K.lookup f_take_fill = some ⟨f_take_filloc, f_take_fillod, .func (PySem.W.fnOf "take_fill" "take_fill" (defArgs s_take_fill) (defBody s_take_fill) (defScope s_take_fill) .none f_take_fillkV f_take_filldc f_take_fillpm f_take_fillan f_take_fillcd f_take_fillct), f_take_fillsl⟩)
    (cf_take_fill : PySem.W.codeIn K f_take_fillcd "take_fill" = true)
    (kf_take_fill : PySem.W.keepIn K (.ref f_take_fill) = true)
    (af_take_manner : PySem.W.nsIn K mainGlobals "take_manner" = some (some (.ref f_take_manner)))
    (lf_take_manner : K.lookup f_take_manner = some ⟨f_take_manneroc, f_take_mannerod, .func (PySem.W.fnOf "take_manner" "take_manner" (defArgs s_take_manner) (defBody s_take_manner) (defScope s_take_manner) .none f_take_mannerkV f_take_mannerdc f_take_mannerpm f_take_manneran f_take_mannercd f_take_mannerct), f_take_mannersl⟩)
    (cf_take_manner : PySem.W.codeIn K f_take_mannercd "take_manner" = true)
    (kf_take_manner : PySem.W.keepIn K (.ref f_take_manner) = true)
    (af_take_ordinary : PySem.W.nsIn K mainGlobals "take_ordinary" = some (some (.ref f_take_ordinary)))
    (lf_take_ordinary : K.lookup f_take_ordinary = some ⟨f_take_ordinaryoc, f_take_ordinaryod, .func (PySem.W.fnOf "take_ordinary" "take_ordinary" (defArgs s_take_ordinary) (defBody s_take_ordinary) (defScope s_take_ordinary) .none f_take_ordinarykV f_take_ordinarydc f_take_ordinarypm f_take_ordinaryan f_take_ordinarycd f_take_ordinaryct), f_take_ordinarysl⟩)
    (cf_take_ordinary : PySem.W.codeIn K f_take_ordinarycd "take_ordinary" = true)
    (kf_take_ordinary : PySem.W.keepIn K (.ref f_take_ordinary) = true)
    (af_take_group : PySem.W.nsIn K mainGlobals "take_group" = some (some (.ref f_take_group)))
    (lf_take_group : K.lookup f_take_group = some ⟨f_take_groupoc, f_take_groupod, .func (PySem.W.fnOf "take_group" "take_group" (defArgs s_take_group) (defBody s_take_group) (defScope s_take_group) .none f_take_groupkV f_take_groupdc f_take_grouppm f_take_groupan f_take_groupcd f_take_groupct), f_take_groupsl⟩)
    (cf_take_group : PySem.W.codeIn K f_take_groupcd "take_group" = true)
    (kf_take_group : PySem.W.keepIn K (.ref f_take_group) = true)
    (af_take_one : PySem.W.nsIn K mainGlobals "take_one" = some (some (.ref f_take_one)))
    (lf_take_one : K.lookup f_take_one = some ⟨f_take_oneoc, f_take_oneod, .func (PySem.W.fnOf "take_one" "take_one" (defArgs s_take_one) (defBody s_take_one) (defScope s_take_one) .none f_take_onekV f_take_onedc f_take_onepm f_take_onean f_take_onecd f_take_onect), f_take_onesl⟩)
    (cf_take_one : PySem.W.codeIn K f_take_onecd "take_one" = true)
    (kf_take_one : PySem.W.keepIn K (.ref f_take_one) = true)
    (af_take_layer : PySem.W.nsIn K mainGlobals "take_layer" = some (some (.ref f_take_layer)))
    (lf_take_layer : K.lookup f_take_layer = some ⟨f_take_layeroc, f_take_layerod, .func (PySem.W.fnOf "take_layer" "take_layer" (defArgs s_take_layer) (defBody s_take_layer) (defScope s_take_layer) .none f_take_layerkV f_take_layerdc f_take_layerpm f_take_layeran f_take_layercd f_take_layerct), f_take_layersl⟩)
    (cf_take_layer : PySem.W.codeIn K f_take_layercd "take_layer" = true)
    (kf_take_layer : PySem.W.keepIn K (.ref f_take_layer) = true)
    (af_read_blazon : PySem.W.nsIn K mainGlobals "read_blazon" = some (some (.ref f_read_blazon)))
    (lf_read_blazon : K.lookup f_read_blazon = some ⟨f_read_blazonoc, f_read_blazonod, .func (PySem.W.fnOf "read_blazon" "read_blazon" (defArgs s_read_blazon) (defBody s_read_blazon) (defScope s_read_blazon) .none f_read_blazonkV f_read_blazondc f_read_blazonpm f_read_blazonan f_read_blazoncd f_read_blazonct), f_read_blazonsl⟩)
    (cf_read_blazon : PySem.W.codeIn K f_read_blazoncd "read_blazon" = true)
    (kf_read_blazon : PySem.W.keepIn K (.ref f_read_blazon) = true)
    (af_field_bytes : PySem.W.nsIn K mainGlobals "field_bytes" = some (some (.ref f_field_bytes)))
    (lf_field_bytes : K.lookup f_field_bytes = some ⟨f_field_bytesoc, f_field_bytesod, .func (PySem.W.fnOf "field_bytes" "field_bytes" (defArgs s_field_bytes) (defBody s_field_bytes) (defScope s_field_bytes) .none f_field_byteskV f_field_bytesdc f_field_bytespm f_field_bytesan f_field_bytescd f_field_bytesct), f_field_bytessl⟩)
    (cf_field_bytes : PySem.W.codeIn K f_field_bytescd "field_bytes" = true)
    (kf_field_bytes : PySem.W.keepIn K (.ref f_field_bytes) = true)
    (af_fill_bytes : PySem.W.nsIn K mainGlobals "fill_bytes" = some (some (.ref f_fill_bytes)))
    (lf_fill_bytes : K.lookup f_fill_bytes = some ⟨f_fill_bytesoc, f_fill_bytesod, .func (PySem.W.fnOf "fill_bytes" "fill_bytes" (defArgs s_fill_bytes) (defBody s_fill_bytes) (defScope s_fill_bytes) .none f_fill_byteskV f_fill_bytesdc f_fill_bytespm f_fill_bytesan f_fill_bytescd f_fill_bytesct), f_fill_bytessl⟩)
    (cf_fill_bytes : PySem.W.codeIn K f_fill_bytescd "fill_bytes" = true)
    (kf_fill_bytes : PySem.W.keepIn K (.ref f_fill_bytes) = true)
    (af_layer_bytes : PySem.W.nsIn K mainGlobals "layer_bytes" = some (some (.ref f_layer_bytes)))
    (lf_layer_bytes : K.lookup f_layer_bytes = some ⟨f_layer_bytesoc, f_layer_bytesod, .func (PySem.W.fnOf "layer_bytes" "layer_bytes" (defArgs s_layer_bytes) (defBody s_layer_bytes) (defScope s_layer_bytes) .none f_layer_byteskV f_layer_bytesdc f_layer_bytespm f_layer_bytesan f_layer_bytescd f_layer_bytesct), f_layer_bytessl⟩)
    (cf_layer_bytes : PySem.W.codeIn K f_layer_bytescd "layer_bytes" = true)
    (kf_layer_bytes : PySem.W.keepIn K (.ref f_layer_bytes) = true)
    (af_arms_bytes : PySem.W.nsIn K mainGlobals "arms_bytes" = some (some (.ref f_arms_bytes)))
    (lf_arms_bytes : K.lookup f_arms_bytes = some ⟨f_arms_bytesoc, f_arms_bytesod, .func (PySem.W.fnOf "arms_bytes" "arms_bytes" (defArgs s_arms_bytes) (defBody s_arms_bytes) (defScope s_arms_bytes) .none f_arms_byteskV f_arms_bytesdc f_arms_bytespm f_arms_bytesan f_arms_bytescd f_arms_bytesct), f_arms_bytessl⟩)
    (cf_arms_bytes : PySem.W.codeIn K f_arms_bytescd "arms_bytes" = true)
    (kf_arms_bytes : PySem.W.keepIn K (.ref f_arms_bytes) = true)
    (af_with_length : PySem.W.nsIn K mainGlobals "with_length" = some (some (.ref f_with_length)))
    (lf_with_length : K.lookup f_with_length = some ⟨f_with_lengthoc, f_with_lengthod, .func (PySem.W.fnOf "with_length" "with_length" (defArgs sWL) (defBody sWL) (defScope sWL) .none f_with_lengthkV f_with_lengthdc f_with_lengthpm f_with_lengthan f_with_lengthcd f_with_lengthct), f_with_lengthsl⟩)
    (cf_with_length : PySem.W.codeIn K f_with_lengthcd "with_length" = true)
    (kf_with_length : PySem.W.keepIn K (.ref f_with_length) = true)
    (af_read : PySem.W.nsIn K mainGlobals "read" = some (some (.ref f_read)))
    (lf_read : K.lookup f_read = some ⟨f_readoc, f_readod, .func (PySem.W.fnOf "read" "read" (defArgs s_read) (defBody s_read) (defScope s_read) .none f_readkV f_readdc f_readpm f_readan f_readcd f_readct), f_readsl⟩)
    (cf_read : PySem.W.codeIn K f_readcd "read" = true)
    (kf_read : PySem.W.keepIn K (.ref f_read) = true)
    (ac_PLAIN : PySem.W.nsIn K mainGlobals "PLAIN" = some (some (.int 0 c_PLAINt)))
    (ac_PARTED : PySem.W.nsIn K mainGlobals "PARTED" = some (some (.int 1 c_PARTEDt)))
    (ac_VARIED : PySem.W.nsIn K mainGlobals "VARIED" = some (some (.int 2 c_VARIEDt)))
    (ac_CHEQUY : PySem.W.nsIn K mainGlobals "CHEQUY" = some (some (.int 5 c_CHEQUYt)))
    (ac_LOZENGY : PySem.W.nsIn K mainGlobals "LOZENGY" = some (some (.int 6 c_LOZENGYt)))
    (ac_ORDINARY_LAYER : PySem.W.nsIn K mainGlobals "ORDINARY_LAYER" = some (some (.int 0 c_ORDINARY_LAYERt)))
    (ac_GROUP_LAYER : PySem.W.nsIn K mainGlobals "GROUP_LAYER" = some (some (.int 1 c_GROUP_LAYERt)))
    (ac_FIELD_FILL : PySem.W.nsIn K mainGlobals "FIELD_FILL" = some (some (.int 0 c_FIELD_FILLt)))
    (ac_COUNTERCHANGED_FILL : PySem.W.nsIn K mainGlobals "COUNTERCHANGED_FILL" = some (some (.int 1 c_COUNTERCHANGED_FILLt)))
    (ac_MOST_DIGITS : PySem.W.nsIn K mainGlobals "MOST_DIGITS" = some (some (.int 3 c_MOST_DIGITSt)))
    (ac_BYTE_THAT_CANT_BE : PySem.W.nsIn K mainGlobals "BYTE_THAT_CANT_BE" = some (some (.int 1 c_BYTE_THAT_CANT_BEt)))
    (ac_NO_NUMBER : PySem.W.nsIn K mainGlobals "NO_NUMBER" = some (some (.int 2 c_NO_NUMBERt)))
    (ac_ELSE_WANTED : PySem.W.nsIn K mainGlobals "ELSE_WANTED" = some (some (.int 3 c_ELSE_WANTEDt)))
    (ac_SAME_TINCTURE : PySem.W.nsIn K mainGlobals "SAME_TINCTURE" = some (some (.int 5 c_SAME_TINCTUREt)))
    (ac_PIECES_OUT_OF_BOUNDS : PySem.W.nsIn K mainGlobals "PIECES_OUT_OF_BOUNDS" = some (some (.int 4 c_PIECES_OUT_OF_BOUNDSt)))
    (ac_LEAST_PIECES : PySem.W.nsIn K mainGlobals "LEAST_PIECES" = some (some (.int 2 c_LEAST_PIECESt)))
    (ac_MOST_PIECES : PySem.W.nsIn K mainGlobals "MOST_PIECES" = some (some (.int 24 c_MOST_PIECESt)))
    (ac_COUNTERCHANGED_OVER_PLAIN : PySem.W.nsIn K mainGlobals "COUNTERCHANGED_OVER_PLAIN" = some (some (.int 6 c_COUNTERCHANGED_OVER_PLAINt)))
    (ac_PLAIN_SIZE : PySem.W.nsIn K mainGlobals "PLAIN_SIZE" = some (some (.int 3 c_PLAIN_SIZEt)))
    (ac_WRONG_ARTICLE : PySem.W.nsIn K mainGlobals "WRONG_ARTICLE" = some (some (.int 7 c_WRONG_ARTICLEt)))
    (ac_MOST_LAYERS : PySem.W.nsIn K mainGlobals "MOST_LAYERS" = some (some (.int 8 c_MOST_LAYERSt)))
    (ac_NINTH_LAYER : PySem.W.nsIn K mainGlobals "NINTH_LAYER" = some (some (.int 8 c_NINTH_LAYERt)))
    (aaT : PySem.W.nsIn K mainGlobals "TINCTURES" = some (some (.ref aT)))
    (laT : K.lookup aT = some ⟨.type "tuple", none, .seq #[.str "or" aT0, .str "argent" aT1, .str "gules" aT2, .str "azure" aT3, .str "sable" aT4, .str "vert" aT5, .str "purpure" aT6, .str "ermine" aT7, .str "vair" aT8] aTn, aTsl⟩)
    (aaL : PySem.W.nsIn K mainGlobals "LINES" = some (some (.ref aL)))
    (laL : K.lookup aL = some ⟨.type "tuple", none, .seq #[.none, .str "wavy" aL1, .str "embattled" aL2, .str "indented" aL3, .str "engrailed" aL4, .str "invected" aL5] aLn, aLsl⟩)
    (aaP : PySem.W.nsIn K mainGlobals "PER_WAYS" = some (some (.ref aP)))
    (laP : K.lookup aP = some ⟨.type "tuple", none, .seq #[.str "pale" aP0, .str "fess" aP1, .str "bend" aP2, .str "bend sinister" aP3, .str "chevron" aP4, .str "saltire" aP5] aPn, aPsl⟩)
    (aaW : PySem.W.nsIn K mainGlobals "OTHER_WAYS" = some (some (.ref aW)))
    (laW : K.lookup aW = some ⟨.type "tuple", none, .seq #[.str "quarterly" aW0, .str "gyronny" aW1] aWn, aWsl⟩)
    (aaV : PySem.W.nsIn K mainGlobals "VARIED_WAYS" = some (some (.ref aV)))
    (laV : K.lookup aV = some ⟨.type "tuple", none, .seq #[.str "barry" aV0, .str "paly" aV1, .str "bendy" aV2, .str "bendy sinister" aV3, .str "chevronny" aV4, .str "chequy" aV5, .str "lozengy" aV6] aVn, aVsl⟩)
    (aaO : PySem.W.nsIn K mainGlobals "ORDINARIES" = some (some (.ref aO)))
    (laO : K.lookup aO = some ⟨.type "tuple", none, .seq #[.str "chief" aO0, .str "base" aO1, .str "pale" aO2, .str "fess" aO3, .str "bend" aO4, .str "bend sinister" aO5, .str "chevron" aO6, .str "cross" aO7, .str "saltire" aO8, .str "pile" aO9, .str "bordure" aO10, .str "canton" aO11, .str "quarter" aO12] aOn, aOsl⟩)
    (aaC : PySem.W.nsIn K mainGlobals "CHARGES" = some (some (.ref aC)))
    (laC : K.lookup aC = some ⟨.type "tuple", none, .seq #[.str "roundel" aC0, .str "annulet" aC1, .str "lozenge" aC2, .str "mascle" aC3, .str "fusil" aC4, .str "billet" aC5, .str "mullet" aC6, .str "crescent" aC7, .str "increscent" aC8, .str "crosslet" aC9, .str "saltorel" aC10, .str "escutcheon" aC11, .str "tower" aC12, .str "sword" aC13, .str "wheel" aC14, .str "arrow" aC15] aCn, aCsl⟩)
    (aaN : PySem.W.nsIn K mainGlobals "COUNTS" = some (some (.ref aN)))
    (laN : K.lookup aN = some ⟨.type "tuple", none, .seq #[.none, .none, .str "two" aN2, .str "three" aN3, .str "four" aN4, .str "five" aN5, .str "six" aN6, .str "seven" aN7, .str "eight" aN8, .str "nine" aN9, .str "ten" aN10] aNn, aNsl⟩)
    (aaZ : PySem.W.nsIn K mainGlobals "SIZES" = some (some (.ref aZ)))
    (laZ : K.lookup aZ = some ⟨.type "tuple", none, .seq #[.none, .str "small" aZ1, .str "lesser" aZ2, .none, .str "great" aZ4] aZn, aZsl⟩)
    (aaM : PySem.W.nsIn K mainGlobals "MANNERS" = some (some (.ref aM)))
    (laM : K.lookup aM = some ⟨.type "tuple", none, .seq #[.none, .str "fess" aM1, .str "pale" aM2, .str "bend" aM3, .str "bend sinister" aM4, .str "chief" aM5, .str "base" aM6] aMn, aMsl⟩)
    (aaBL : PySem.W.nsIn K mainGlobals "BLANKS" = some (some (.ref aBL)))
    (laBL : K.lookup aBL = some ⟨.type "tuple", aBLod, .seq #[.int 32 aBL0, .int 10 aBL1] aBLn, aBLsl⟩)
    (z_ValueError : PySem.W.nsIn K mainGlobals "ValueError" = some none)
    (z_len : PySem.W.nsIn K mainGlobals "len" = some none)
    (z_ord : PySem.W.nsIn K mainGlobals "ord" = some none)
    (z_int : PySem.W.nsIn K mainGlobals "int" = some none)
    (z_list : PySem.W.nsIn K mainGlobals "list" = some none)
    (z_isinstance : PySem.W.nsIn K mainGlobals "isinstance" = some none)
    {sLEt : Tok} {sDIt : Tok} {sCOt : Tok} {sSIt : Tok} {sCCt : Tok}
    (asLE : PySem.W.nsIn K mainGlobals "LETTERS" = some (some (.str "abcdefghijklmnopqrstuvwxyz" sLEt)))
    (asDI : PySem.W.nsIn K mainGlobals "DIGITS" = some (some (.str "0123456789" sDIt)))
    (asCO : PySem.W.nsIn K mainGlobals "COMMA" = some (some (.str "," sCOt)))
    (asSI : PySem.W.nsIn K mainGlobals "SINISTER" = some (some (.str "sinister" sSIt)))
    (asCC : PySem.W.nsIn K mainGlobals "COUNTERCHANGED" = some (some (.str "counterchanged" sCCt)))
    (neK : CK ≠ CR)
    (neF : CF ≠ CR)
    (neO : CO ≠ CR)
    (neG : CG ≠ CR)
    (neGO : CG ≠ CO)
    (haO : PySem.W.findIn K (.ref CO) "__class__" = some (some (.builtin "object.__class__")))
    (haG : PySem.W.findIn K (.ref CG) "__class__" = some (some (.builtin "object.__class__")))
    (hnO : PySem.W.specialIn K (.builtin "object.__class__") "__get__" = some (some (.builtin "getset_descriptor.__get__")))
    (htkO : PySem.W.takesIn K (.builtin "object.__class__") = some true)
    (hmO : PySem.W.mroIn K CO (.type "object") = some true)
    (hmG : PySem.W.mroIn K CG (.type "object") = some true)
    (icO : PySem.W.isClsIn K CO = true)
    (tyO : PySem.W.typeIn K (.ref CO) = some (.type "type"))
    (subGO : PySem.W.subIn K (.ref CG) (.ref CO) = some false) :
    ∃ fd : FuncData, (∀ (s : Shared) (us : List Value), us.length = (["t"] : List Str).length → BindsTo s fd ⟨us, []⟩ ((["t"] : List Str).zip us)) ∧ ∀ base : Heap, K.In base → base.Ns mainGlobals mg → FnOk P w K mg base (CXx P w) 16 fa fd ["t"] (spRd K) := by
  have e := hfa.symm.trans (PySem.W.mg_of X G af_read)
  cases e
  have okNE : PySem.W.nsOkIn K NE = true := by unfold PySem.W.nsOkIn; rw [lNE]; dsimp only; rw [← Array.all_toList]; exact oNE
  have xCE : XCls K CE NE fE := ⟨⟨_, _, _, _, _, _, _, _, _, _, _, _, _, lCE⟩, okNE, iNE, n0NE, n1NE, n2NE, ifE, pCE⟩
  have FfE := fun_mk (st := sXI) lfE cfE kfE
  have bfE := FfE.binds (ps := ["self", "kind", "place"]) fun _ _ _ _ _ _ us hl => by obtain ⟨q0, q1, q2, rfl⟩ := ar3 hl; rfl
  have FfK := fun_mk (st := sKI) lfK cfK kfK
  have bfK := FfK.binds (ps := ["self", "text", "place", "end"]) fun _ _ _ _ _ _ us hl => by obtain ⟨q0, q1, q2, q3, rfl⟩ := ar4 hl; rfl
  have FfR := fun_mk (st := s_T_init) lfR cfR kfR
  have bfR := FfR.binds (ps := ["self", "data"]) fun _ _ _ _ _ _ us hl => by obtain ⟨q0, q1, rfl⟩ := ar2 hl; rfl
  have FfPk := fun_mk (st := s_T_peek) lfPk cfPk kfPk
  have bfPk := FfPk.binds (ps := ["self"]) fun _ _ _ _ _ _ us hl => by obtain ⟨q0, rfl⟩ := ar1 hl; rfl
  have FfSe := fun_mk (st := s_T_sees) lfSe cfSe kfSe
  have bfSe := FfSe.binds (ps := ["self", "text"]) fun _ _ _ _ _ _ us hl => by obtain ⟨q0, q1, rfl⟩ := ar2 hl; rfl
  have FfSO := fun_mk (st := s_T_sees_one_of) lfSO cfSO kfSO
  have bfSO := FfSO.binds (ps := ["self", "texts"]) fun _ _ _ _ _ _ us hl => by obtain ⟨q0, q1, rfl⟩ := ar2 hl; rfl
  have FfAc := fun_mk (st := s_T_accept) lfAc cfAc kfAc
  have bfAc := FfAc.binds (ps := ["self"]) fun _ _ _ _ _ _ us hl => by obtain ⟨q0, rfl⟩ := ar1 hl; rfl
  have FfRe := fun_mk (st := s_T_refuse) lfRe cfRe kfRe
  have bfRe := FfRe.binds (ps := ["self"]) fun _ _ _ _ _ _ us hl => by obtain ⟨q0, rfl⟩ := ar1 hl; rfl
  have FfAT := fun_mk (st := s_T_accept_text) lfAT cfAT kfAT
  have bfAT := FfAT.binds (ps := ["self", "text"]) fun _ _ _ _ _ _ us hl => by obtain ⟨q0, q1, rfl⟩ := ar2 hl; rfl
  have FfAN := fun_mk (st := s_T_accept_number) lfAN cfAN kfAN
  have bfAN := FfAN.binds (ps := ["self"]) fun _ _ _ _ _ _ us hl => by obtain ⟨q0, rfl⟩ := ar1 hl; rfl
  have FfF := fun_mk (st := sFI) lfF cfF kfF
  have bfF := FfF.binds (ps := ["self", "kind", "way", "pieces", "line", "first", "second"]) fun _ _ _ _ _ _ us hl => by obtain ⟨q0, q1, q2, q3, q4, q5, q6, rfl⟩ := ar7 hl; rfl
  have FfO := fun_mk (st := sOI) lfO cfO kfO
  have bfO := FfO.binds (ps := ["self", "ordinary", "line", "fill"]) fun _ _ _ _ _ _ us hl => by obtain ⟨q0, q1, q2, q3, rfl⟩ := ar4 hl; rfl
  have FfG := fun_mk (st := sGI) lfG cfG kfG
  have bfG := FfG.binds (ps := ["self", "charge", "how_many", "manner", "size", "fill"]) fun _ _ _ _ _ _ us hl => by obtain ⟨q0, q1, q2, q3, q4, q5, rfl⟩ := ar6 hl; rfl
  have FfA := fun_mk (st := sAI) lfA cfA kfA
  have bfA := FfA.binds (ps := ["self", "field", "layers"]) fun _ _ _ _ _ _ us hl => by obtain ⟨q0, q1, q2, rfl⟩ := ar3 hl; rfl
  have Ff_sign_among := fun_mk (st := s_sign_among) lf_sign_among cf_sign_among kf_sign_among
  have bf_sign_among := Ff_sign_among.binds (ps := ["byte", "signs"]) fun _ _ _ _ _ _ us hl => by obtain ⟨q0, q1, rfl⟩ := ar2 hl; rfl
  have Ff_skip_blanks := fun_mk (st := s_skip_blanks) lf_skip_blanks cf_skip_blanks kf_skip_blanks
  have bf_skip_blanks := Ff_skip_blanks.binds (ps := ["data", "place"]) fun _ _ _ _ _ _ us hl => by obtain ⟨q0, q1, rfl⟩ := ar2 hl; rfl
  have Ff_signs_at := fun_mk (st := s_signs_at) lf_signs_at cf_signs_at kf_signs_at
  have bf_signs_at := Ff_signs_at.binds (ps := ["data", "place", "signs"]) fun _ _ _ _ _ _ us hl => by obtain ⟨q0, q1, q2, rfl⟩ := ar3 hl; rfl
  have Ff_token_at := fun_mk (st := s_token_at) lf_token_at cf_token_at kf_token_at
  have bf_token_at := Ff_token_at.binds (ps := ["data", "place"]) fun _ _ _ _ _ _ us hl => by obtain ⟨q0, q1, rfl⟩ := ar2 hl; rfl
  have Ff_is_number := fun_mk (st := s_is_number) lf_is_number cf_is_number kf_is_number
  have bf_is_number := Ff_is_number.binds (ps := ["token"]) fun _ _ _ _ _ _ us hl => by obtain ⟨q0, rfl⟩ := ar1 hl; rfl
  have Ff_check_number := fun_mk (st := s_check_number) lf_check_number cf_check_number kf_check_number
  have bf_check_number := Ff_check_number.binds (ps := ["token"]) fun _ _ _ _ _ _ us hl => by obtain ⟨q0, rfl⟩ := ar1 hl; rfl
  have Ff_article_before := fun_mk (st := sAB) lf_article_before cf_article_before kf_article_before
  have bf_article_before := Ff_article_before.binds (ps := ["word"]) fun _ _ _ _ _ _ us hl => by obtain ⟨q0, rfl⟩ := ar1 hl; rfl
  have Ff_charge_words := fun_mk (st := sCW) lf_charge_words cf_charge_words kf_charge_words
  have bf_charge_words := Ff_charge_words.binds (ps := ["how_many"]) fun _ _ _ _ _ _ us hl => by obtain ⟨q0, rfl⟩ := ar1 hl; rfl
  have Ff_take_name := fun_mk (st := s_take_name) lf_take_name cf_take_name kf_take_name
  have bf_take_name := Ff_take_name.binds (ps := ["reader", "names"]) fun _ _ _ _ _ _ us hl => by obtain ⟨q0, q1, rfl⟩ := ar2 hl; rfl
  have Ff_take_name_if_there := fun_mk (st := s_take_name_if_there) lf_take_name_if_there cf_take_name_if_there kf_take_name_if_there
  have bf_take_name_if_there := Ff_take_name_if_there.binds (ps := ["reader", "names", "otherwise"]) fun _ _ _ _ _ _ us hl => by obtain ⟨q0, q1, q2, rfl⟩ := ar3 hl; rfl
  have Ff_take_line := fun_mk (st := s_take_line) lf_take_line cf_take_line kf_take_line
  have bf_take_line := Ff_take_line.binds (ps := ["reader"]) fun _ _ _ _ _ _ us hl => by obtain ⟨q0, rfl⟩ := ar1 hl; rfl
  have Ff_take_two_tinctures := fun_mk (st := s_take_two_tinctures) lf_take_two_tinctures cf_take_two_tinctures kf_take_two_tinctures
  have bf_take_two_tinctures := Ff_take_two_tinctures.binds (ps := ["reader"]) fun _ _ _ _ _ _ us hl => by obtain ⟨q0, rfl⟩ := ar1 hl; rfl
  have Ff_take_pieces := fun_mk (st := s_take_pieces) lf_take_pieces cf_take_pieces kf_take_pieces
  have bf_take_pieces := Ff_take_pieces.binds (ps := ["reader"]) fun _ _ _ _ _ _ us hl => by obtain ⟨q0, rfl⟩ := ar1 hl; rfl
  have Ff_take_plain := fun_mk (st := s_take_plain) lf_take_plain cf_take_plain kf_take_plain
  have bf_take_plain := Ff_take_plain.binds (ps := ["reader"]) fun _ _ _ _ _ _ us hl => by obtain ⟨q0, rfl⟩ := ar1 hl; rfl
  have Ff_take_parted_way := fun_mk (st := s_take_parted_way) lf_take_parted_way cf_take_parted_way kf_take_parted_way
  have bf_take_parted_way := Ff_take_parted_way.binds (ps := ["reader"]) fun _ _ _ _ _ _ us hl => by obtain ⟨q0, rfl⟩ := ar1 hl; rfl
  have Ff_take_parted := fun_mk (st := s_take_parted) lf_take_parted cf_take_parted kf_take_parted
  have bf_take_parted := Ff_take_parted.binds (ps := ["reader"]) fun _ _ _ _ _ _ us hl => by obtain ⟨q0, rfl⟩ := ar1 hl; rfl
  have Ff_take_varied := fun_mk (st := s_take_varied) lf_take_varied cf_take_varied kf_take_varied
  have bf_take_varied := Ff_take_varied.binds (ps := ["reader"]) fun _ _ _ _ _ _ us hl => by obtain ⟨q0, rfl⟩ := ar1 hl; rfl
  have Ff_take_field := fun_mk (st := s_take_field) lf_take_field cf_take_field kf_take_field
  have bf_take_field := Ff_take_field.binds (ps := ["reader"]) fun _ _ _ _ _ _ us hl => by obtain ⟨q0, rfl⟩ := ar1 hl; rfl
  have Ff_take_fill := fun_mk (st := s_take_fill) lf_take_fill cf_take_fill kf_take_fill
  have bf_take_fill := Ff_take_fill.binds (ps := ["reader", "arms_field"]) fun _ _ _ _ _ _ us hl => by obtain ⟨q0, q1, rfl⟩ := ar2 hl; rfl
  have Ff_take_manner := fun_mk (st := s_take_manner) lf_take_manner cf_take_manner kf_take_manner
  have bf_take_manner := Ff_take_manner.binds (ps := ["reader"]) fun _ _ _ _ _ _ us hl => by obtain ⟨q0, rfl⟩ := ar1 hl; rfl
  have Ff_take_ordinary := fun_mk (st := s_take_ordinary) lf_take_ordinary cf_take_ordinary kf_take_ordinary
  have bf_take_ordinary := Ff_take_ordinary.binds (ps := ["reader", "arms_field"]) fun _ _ _ _ _ _ us hl => by obtain ⟨q0, q1, rfl⟩ := ar2 hl; rfl
  have Ff_take_group := fun_mk (st := s_take_group) lf_take_group cf_take_group kf_take_group
  have bf_take_group := Ff_take_group.binds (ps := ["reader", "how_many", "arms_field"]) fun _ _ _ _ _ _ us hl => by obtain ⟨q0, q1, q2, rfl⟩ := ar3 hl; rfl
  have Ff_take_one := fun_mk (st := s_take_one) lf_take_one cf_take_one kf_take_one
  have bf_take_one := Ff_take_one.binds (ps := ["reader", "arms_field"]) fun _ _ _ _ _ _ us hl => by obtain ⟨q0, q1, rfl⟩ := ar2 hl; rfl
  have Ff_take_layer := fun_mk (st := s_take_layer) lf_take_layer cf_take_layer kf_take_layer
  have bf_take_layer := Ff_take_layer.binds (ps := ["reader", "arms_field"]) fun _ _ _ _ _ _ us hl => by obtain ⟨q0, q1, rfl⟩ := ar2 hl; rfl
  have Ff_read_blazon := fun_mk (st := s_read_blazon) lf_read_blazon cf_read_blazon kf_read_blazon
  have bf_read_blazon := Ff_read_blazon.binds (ps := ["data"]) fun _ _ _ _ _ _ us hl => by obtain ⟨q0, rfl⟩ := ar1 hl; rfl
  have Ff_field_bytes := fun_mk (st := s_field_bytes) lf_field_bytes cf_field_bytes kf_field_bytes
  have bf_field_bytes := Ff_field_bytes.binds (ps := ["field"]) fun _ _ _ _ _ _ us hl => by obtain ⟨q0, rfl⟩ := ar1 hl; rfl
  have Ff_fill_bytes := fun_mk (st := s_fill_bytes) lf_fill_bytes cf_fill_bytes kf_fill_bytes
  have bf_fill_bytes := Ff_fill_bytes.binds (ps := ["fill"]) fun _ _ _ _ _ _ us hl => by obtain ⟨q0, rfl⟩ := ar1 hl; rfl
  have Ff_layer_bytes := fun_mk (st := s_layer_bytes) lf_layer_bytes cf_layer_bytes kf_layer_bytes
  have bf_layer_bytes := Ff_layer_bytes.binds (ps := ["layer"]) fun _ _ _ _ _ _ us hl => by obtain ⟨q0, rfl⟩ := ar1 hl; rfl
  have Ff_arms_bytes := fun_mk (st := s_arms_bytes) lf_arms_bytes cf_arms_bytes kf_arms_bytes
  have bf_arms_bytes := Ff_arms_bytes.binds (ps := ["arms"]) fun _ _ _ _ _ _ us hl => by obtain ⟨q0, rfl⟩ := ar1 hl; rfl
  have Ff_with_length := fun_mk (st := sWL) lf_with_length cf_with_length kf_with_length
  have bf_with_length := Ff_with_length.binds (ps := ["data"]) fun _ _ _ _ _ _ us hl => by obtain ⟨q0, rfl⟩ := ar1 hl; rfl
  have Ff_read := fun_mk (st := s_read) lf_read cf_read kf_read
  have bf_read := Ff_read.binds (ps := ["t"]) fun _ _ _ _ _ _ us hl => by obtain ⟨q0, rfl⟩ := ar1 hl; rfl
  have T : TX K mg CE NE fE CK fK := ⟨xCE, n3NE, n4NE, PySem.W.mg_of X G aCE, PySem.W.mg_none_of X G z_ValueError, PySem.W.mg_none_of X G z_len, PySem.W.mg_none_of X G z_ord, PySem.W.mg_none_of X G z_int, ⟨⟨pgCK, hdCK, poCK, saCK⟩, PySem.W.mg_of X G aCK, ⟨mkCK, afK, ifK, kcCK⟩, fun x hx => by
      simp only [List.mem_cons, List.not_mem_nil, or_false] at hx
      rcases hx with rfl | rfl | rfl
      · exact noCK_text
      · exact noCK_place
      · exact noCK_end⟩⟩
  have V7 : TG7 mg := ⟨⟨_, _, PySem.W.mg_of X G asLE, sgL⟩, ⟨_, _, PySem.W.mg_of X G asDI, sgD⟩, ⟨_, PySem.W.mg_of X G asCO⟩, fun nm z hz => by
    simp only [List.mem_cons, List.not_mem_nil, or_false, Prod.mk.injEq] at hz
    rcases hz with ⟨rfl, rfl⟩ | ⟨rfl, rfl⟩ | ⟨rfl, rfl⟩ | ⟨rfl, rfl⟩
    · exact ⟨_, PySem.W.mg_of X G ac_MOST_DIGITS⟩
    · exact ⟨_, PySem.W.mg_of X G ac_BYTE_THAT_CANT_BE⟩
    · exact ⟨_, PySem.W.mg_of X G ac_NO_NUMBER⟩
    · exact ⟨_, PySem.W.mg_of X G ac_ELSE_WANTED⟩⟩
  have M : TM7 K mg CR fR fPk fSe fSO fAc fRe fAT fAN := ⟨⟨⟨pgCR, hdCR, poCR, saCR⟩, PySem.W.mg_of X G aCR, ⟨mkCR, afR, ifR, kcCR⟩, fun x hx => by
      simp only [List.mem_cons, List.not_mem_nil, or_false] at hx
      rcases hx with rfl | rfl | rfl
      · exact noCR_data
      · exact noCR_ahead
      · exact noCR_end⟩, ⟨afPk, ifPk, kfPk⟩, ⟨afSe, ifSe, kfSe⟩, ⟨afSO, ifSO, kfSO⟩, ⟨afAc, ifAc, kfAc⟩, ⟨afRe, ifRe, kfRe⟩, ⟨afAT, ifAT, kfAT⟩, ⟨afAN, ifAN, kfAN⟩⟩
  have U : TF7 K mg CR CF fF := ⟨⟨⟨pgCF, hdCF, poCF, saCF⟩, PySem.W.mg_of X G aCF, ⟨mkCF, afF, ifF, kcCF⟩, fun x hx => by
      simp only [List.mem_cons, List.not_mem_nil, or_false] at hx
      rcases hx with rfl | rfl | rfl | rfl | rfl | rfl
      · exact noCF_kind
      · exact noCF_way
      · exact noCF_pieces
      · exact noCF_line
      · exact noCF_first
      · exact noCF_second⟩, neF, fun nm z hz => by
    simp only [List.mem_cons, List.not_mem_nil, or_false, Prod.mk.injEq] at hz
    rcases hz with ⟨rfl, rfl⟩ | ⟨rfl, rfl⟩ | ⟨rfl, rfl⟩ | ⟨rfl, rfl⟩ | ⟨rfl, rfl⟩
    · exact ⟨_, PySem.W.mg_of X G ac_PLAIN⟩
    · exact ⟨_, PySem.W.mg_of X G ac_PARTED⟩
    · exact ⟨_, PySem.W.mg_of X G ac_VARIED⟩
    · exact ⟨_, PySem.W.mg_of X G ac_CHEQUY⟩
    · exact ⟨_, PySem.W.mg_of X G ac_LOZENGY⟩⟩
  have RO : RC K mg "OrdinaryLayer" CO fO ["ordinary", "line", "fill"] := ⟨⟨pgCO, hdCO, poCO, saCO⟩, PySem.W.mg_of X G aCO, ⟨mkCO, afO, ifO, kcCO⟩, fun x hx => by
      simp only [List.mem_cons, List.not_mem_nil, or_false] at hx
      rcases hx with rfl | rfl | rfl
      · exact noCO_ordinary
      · exact noCO_line
      · exact noCO_fill⟩
  have RG : RC K mg "GroupLayer" CG fG ["charge", "how_many", "manner", "size", "fill"] := ⟨⟨pgCG, hdCG, poCG, saCG⟩, PySem.W.mg_of X G aCG, ⟨mkCG, afG, ifG, kcCG⟩, fun x hx => by
      simp only [List.mem_cons, List.not_mem_nil, or_false] at hx
      rcases hx with rfl | rfl | rfl | rfl | rfl
      · exact noCG_charge
      · exact noCG_how_many
      · exact noCG_manner
      · exact noCG_size
      · exact noCG_fill⟩
  have RA : RC K mg "Arms" CA fA ["field", "layers"] := ⟨⟨pgCA, hdCA, poCA, saCA⟩, PySem.W.mg_of X G aCA, ⟨mkCA, afA, ifA, kcCA⟩, fun x hx => by
      simp only [List.mem_cons, List.not_mem_nil, or_false] at hx
      rcases hx with rfl | rfl
      · exact noCA_field
      · exact noCA_layers⟩
  have BY : TBy mg := ⟨fun nm z hz => by
    simp only [List.mem_cons, List.not_mem_nil, or_false, Prod.mk.injEq] at hz
    rcases hz with ⟨rfl, rfl⟩ | ⟨rfl, rfl⟩ | ⟨rfl, rfl⟩ | ⟨rfl, rfl⟩ | ⟨rfl, rfl⟩ | ⟨rfl, rfl⟩ | ⟨rfl, rfl⟩
    · exact ⟨_, PySem.W.mg_of X G ac_PLAIN⟩
    · exact ⟨_, PySem.W.mg_of X G ac_PARTED⟩
    · exact ⟨_, PySem.W.mg_of X G ac_VARIED⟩
    · exact ⟨_, PySem.W.mg_of X G ac_ORDINARY_LAYER⟩
    · exact ⟨_, PySem.W.mg_of X G ac_GROUP_LAYER⟩
    · exact ⟨_, PySem.W.mg_of X G ac_FIELD_FILL⟩
    · exact ⟨_, PySem.W.mg_of X G ac_COUNTERCHANGED_FILL⟩⟩
  have TI : TIs K mg CO CG := by
    refine ⟨PySem.W.mg_none_of X G z_isinstance, fun H z dz fs e => .ins e ⟨pgCO, hdCO, poCO, saCO⟩ haO hnO htkO hmO, fun H z dz fs e => .ins e ⟨pgCG, hdCG, poCG, saCG⟩ haG hnO htkO hmG, ?kO, ?kG⟩
    case kO => unfold PySem.W.kitOne; rw [if_pos (beq_self_eq_true _)]
    case kG =>
      unfold PySem.W.kitOne PySem.W.kitCls
      rw [if_neg (by rw [beq_iff_eq]; intro z; injection z with z; exact neGO z)]
      dsimp only
      rw [if_pos (by rw [Bool.and_eq_true]; exact ⟨icO, by rw [tyO]; rfl⟩)]
      exact subGO
  have sBL : ∀ H, SqT K H aBL [V.int 32, V.int 10] := sqt_gen (us := [.int 32 aBL0, .int 10 aBL1]) laBL (.cons ⟨_, rfl⟩ (.cons ⟨_, rfl⟩ .nil)) (by show 2 ≤ 100; decide)
  have tT : Tb K mg "TINCTURES" oT aT := ⟨PySem.W.mg_of X G aaT, sqt_gen (us := [.str "or" aT0, .str "argent" aT1, .str "gules" aT2, .str "azure" aT3, .str "sable" aT4, .str "vert" aT5, .str "purpure" aT6, .str "ermine" aT7, .str "vair" aT8]) (vs := [V.str "or", V.str "argent", V.str "gules", V.str "azure", V.str "sable", V.str "vert", V.str "purpure", V.str "ermine", V.str "vair"]) laT (.cons ⟨aT0, rfl⟩ (.cons ⟨aT1, rfl⟩ (.cons ⟨aT2, rfl⟩ (.cons ⟨aT3, rfl⟩ (.cons ⟨aT4, rfl⟩ (.cons ⟨aT5, rfl⟩ (.cons ⟨aT6, rfl⟩ (.cons ⟨aT7, rfl⟩ (.cons ⟨aT8, rfl⟩ (.nil)))))))))) (by show 9 ≤ 100; decide), ⟨_, laT, rfl, rfl⟩⟩
  have tL : Tb K mg "LINES" oL aL := ⟨PySem.W.mg_of X G aaL, sqt_gen (us := [.none, .str "wavy" aL1, .str "embattled" aL2, .str "indented" aL3, .str "engrailed" aL4, .str "invected" aL5]) (vs := [V.non, V.str "wavy", V.str "embattled", V.str "indented", V.str "engrailed", V.str "invected"]) laL (.cons rfl (.cons ⟨aL1, rfl⟩ (.cons ⟨aL2, rfl⟩ (.cons ⟨aL3, rfl⟩ (.cons ⟨aL4, rfl⟩ (.cons ⟨aL5, rfl⟩ (.nil))))))) (by show 6 ≤ 100; decide), ⟨_, laL, rfl, rfl⟩⟩
  have tP : Tb K mg "PER_WAYS" oP aP := ⟨PySem.W.mg_of X G aaP, sqt_gen (us := [.str "pale" aP0, .str "fess" aP1, .str "bend" aP2, .str "bend sinister" aP3, .str "chevron" aP4, .str "saltire" aP5]) (vs := [V.str "pale", V.str "fess", V.str "bend", V.str "bend sinister", V.str "chevron", V.str "saltire"]) laP (.cons ⟨aP0, rfl⟩ (.cons ⟨aP1, rfl⟩ (.cons ⟨aP2, rfl⟩ (.cons ⟨aP3, rfl⟩ (.cons ⟨aP4, rfl⟩ (.cons ⟨aP5, rfl⟩ (.nil))))))) (by show 6 ≤ 100; decide), ⟨_, laP, rfl, rfl⟩⟩
  have tW : Tb K mg "OTHER_WAYS" oW aW := ⟨PySem.W.mg_of X G aaW, sqt_gen (us := [.str "quarterly" aW0, .str "gyronny" aW1]) (vs := [V.str "quarterly", V.str "gyronny"]) laW (.cons ⟨aW0, rfl⟩ (.cons ⟨aW1, rfl⟩ (.nil))) (by show 2 ≤ 100; decide), ⟨_, laW, rfl, rfl⟩⟩
  have tV : Tb K mg "VARIED_WAYS" oV aV := ⟨PySem.W.mg_of X G aaV, sqt_gen (us := [.str "barry" aV0, .str "paly" aV1, .str "bendy" aV2, .str "bendy sinister" aV3, .str "chevronny" aV4, .str "chequy" aV5, .str "lozengy" aV6]) (vs := [V.str "barry", V.str "paly", V.str "bendy", V.str "bendy sinister", V.str "chevronny", V.str "chequy", V.str "lozengy"]) laV (.cons ⟨aV0, rfl⟩ (.cons ⟨aV1, rfl⟩ (.cons ⟨aV2, rfl⟩ (.cons ⟨aV3, rfl⟩ (.cons ⟨aV4, rfl⟩ (.cons ⟨aV5, rfl⟩ (.cons ⟨aV6, rfl⟩ (.nil)))))))) (by show 7 ≤ 100; decide), ⟨_, laV, rfl, rfl⟩⟩
  have tO : Tb K mg "ORDINARIES" oO aO := ⟨PySem.W.mg_of X G aaO, sqt_gen (us := [.str "chief" aO0, .str "base" aO1, .str "pale" aO2, .str "fess" aO3, .str "bend" aO4, .str "bend sinister" aO5, .str "chevron" aO6, .str "cross" aO7, .str "saltire" aO8, .str "pile" aO9, .str "bordure" aO10, .str "canton" aO11, .str "quarter" aO12]) (vs := [V.str "chief", V.str "base", V.str "pale", V.str "fess", V.str "bend", V.str "bend sinister", V.str "chevron", V.str "cross", V.str "saltire", V.str "pile", V.str "bordure", V.str "canton", V.str "quarter"]) laO (.cons ⟨aO0, rfl⟩ (.cons ⟨aO1, rfl⟩ (.cons ⟨aO2, rfl⟩ (.cons ⟨aO3, rfl⟩ (.cons ⟨aO4, rfl⟩ (.cons ⟨aO5, rfl⟩ (.cons ⟨aO6, rfl⟩ (.cons ⟨aO7, rfl⟩ (.cons ⟨aO8, rfl⟩ (.cons ⟨aO9, rfl⟩ (.cons ⟨aO10, rfl⟩ (.cons ⟨aO11, rfl⟩ (.cons ⟨aO12, rfl⟩ (.nil)))))))))))))) (by show 13 ≤ 100; decide), ⟨_, laO, rfl, rfl⟩⟩
  have tC : Tb K mg "CHARGES" oC aC := ⟨PySem.W.mg_of X G aaC, sqt_gen (us := [.str "roundel" aC0, .str "annulet" aC1, .str "lozenge" aC2, .str "mascle" aC3, .str "fusil" aC4, .str "billet" aC5, .str "mullet" aC6, .str "crescent" aC7, .str "increscent" aC8, .str "crosslet" aC9, .str "saltorel" aC10, .str "escutcheon" aC11, .str "tower" aC12, .str "sword" aC13, .str "wheel" aC14, .str "arrow" aC15]) (vs := [V.str "roundel", V.str "annulet", V.str "lozenge", V.str "mascle", V.str "fusil", V.str "billet", V.str "mullet", V.str "crescent", V.str "increscent", V.str "crosslet", V.str "saltorel", V.str "escutcheon", V.str "tower", V.str "sword", V.str "wheel", V.str "arrow"]) laC (.cons ⟨aC0, rfl⟩ (.cons ⟨aC1, rfl⟩ (.cons ⟨aC2, rfl⟩ (.cons ⟨aC3, rfl⟩ (.cons ⟨aC4, rfl⟩ (.cons ⟨aC5, rfl⟩ (.cons ⟨aC6, rfl⟩ (.cons ⟨aC7, rfl⟩ (.cons ⟨aC8, rfl⟩ (.cons ⟨aC9, rfl⟩ (.cons ⟨aC10, rfl⟩ (.cons ⟨aC11, rfl⟩ (.cons ⟨aC12, rfl⟩ (.cons ⟨aC13, rfl⟩ (.cons ⟨aC14, rfl⟩ (.cons ⟨aC15, rfl⟩ (.nil))))))))))))))))) (by show 16 ≤ 100; decide), ⟨_, laC, rfl, rfl⟩⟩
  have tN : Tb K mg "COUNTS" oN aN := ⟨PySem.W.mg_of X G aaN, sqt_gen (us := [.none, .none, .str "two" aN2, .str "three" aN3, .str "four" aN4, .str "five" aN5, .str "six" aN6, .str "seven" aN7, .str "eight" aN8, .str "nine" aN9, .str "ten" aN10]) (vs := [V.non, V.non, V.str "two", V.str "three", V.str "four", V.str "five", V.str "six", V.str "seven", V.str "eight", V.str "nine", V.str "ten"]) laN (.cons rfl (.cons rfl (.cons ⟨aN2, rfl⟩ (.cons ⟨aN3, rfl⟩ (.cons ⟨aN4, rfl⟩ (.cons ⟨aN5, rfl⟩ (.cons ⟨aN6, rfl⟩ (.cons ⟨aN7, rfl⟩ (.cons ⟨aN8, rfl⟩ (.cons ⟨aN9, rfl⟩ (.cons ⟨aN10, rfl⟩ (.nil)))))))))))) (by show 11 ≤ 100; decide), ⟨_, laN, rfl, rfl⟩⟩
  have tZ : Tb K mg "SIZES" oZ aZ := ⟨PySem.W.mg_of X G aaZ, sqt_gen (us := [.none, .str "small" aZ1, .str "lesser" aZ2, .none, .str "great" aZ4]) (vs := [V.non, V.str "small", V.str "lesser", V.non, V.str "great"]) laZ (.cons rfl (.cons ⟨aZ1, rfl⟩ (.cons ⟨aZ2, rfl⟩ (.cons rfl (.cons ⟨aZ4, rfl⟩ (.nil)))))) (by show 5 ≤ 100; decide), ⟨_, laZ, rfl, rfl⟩⟩
  have tM : Tb K mg "MANNERS" oM aM := ⟨PySem.W.mg_of X G aaM, sqt_gen (us := [.none, .str "fess" aM1, .str "pale" aM2, .str "bend" aM3, .str "bend sinister" aM4, .str "chief" aM5, .str "base" aM6]) (vs := [V.non, V.str "fess", V.str "pale", V.str "bend", V.str "bend sinister", V.str "chief", V.str "base"]) laM (.cons rfl (.cons ⟨aM1, rfl⟩ (.cons ⟨aM2, rfl⟩ (.cons ⟨aM3, rfl⟩ (.cons ⟨aM4, rfl⟩ (.cons ⟨aM5, rfl⟩ (.cons ⟨aM6, rfl⟩ (.nil)))))))) (by show 7 ≤ 100; decide), ⟨_, laM, rfl, rfl⟩⟩
  refine ⟨PySem.W.fnOf "read" "read" (defArgs s_read) (defBody s_read) (defScope s_read) .none f_readkV f_readdc f_readpm f_readan f_readcd f_readct, fun s us hu => by obtain ⟨q0, rfl⟩ := ar1 hu; exact .of_eq rfl, fun base _ _ => ?_⟩
  · have GE : FnOk P w K mg base (CXx P w) 1 fE _ ["self", "kind", "place"] (spXI CE) := ok_xi FfE T
    have GK : FnOk P w K mg base (CXx P w) 1 fK _ ["self", "text", "place", "end"] (spKI CK) := ok_ki FfK T.K
    have GR : FnOk P w K mg base (CXx P w) 1 fR _ ["self", "data"] (spTI CR) := ok_T_init FfR M
    have GF : FnOk P w K mg base (CXx P w) 1 fF _ ["self", "kind", "way", "pieces", "line", "first", "second"] (spFI CF) := ok_fi FfF U.F
    have GOi : FnOk P w K mg base (CXx P w) 1 fO _ ["self", "ordinary", "line", "fill"] (spOI CO) := ok_oi FfO RO
    have GGi : FnOk P w K mg base (CXx P w) 1 fG _ ["self", "charge", "how_many", "manner", "size", "fill"] (spGI CG) := ok_gi FfG RG
    have GAi : FnOk P w K mg base (CXx P w) 1 fA _ ["self", "field", "layers"] (spAI CA) := ok_ai FfA RA
    have g_sign_among : FnOk P w K mg base (CXx P w) 1 f_sign_among _ ["byte", "signs"] (spSA) := ok_sign_among Ff_sign_among T
    have g_skip_blanks : FnOk P w K mg base (CXx P w) 1 f_skip_blanks _ ["data", "place"] (spSB K) := ok_skip_blanks Ff_skip_blanks T (PySem.W.mg_of X G aaBL) sBL
    have g_signs_at : FnOk P w K mg base (CXx P w) 2 f_signs_at _ ["data", "place", "signs"] (spSg K) := ok_signs_at Ff_signs_at T g_sign_among bf_sign_among kf_sign_among (PySem.W.mg_of X G af_sign_among)
    have g_token_at : FnOk P w K mg base (CXx P w) 3 f_token_at _ ["data", "place"] (spTA K CE CK) := ok_token_at Ff_token_at T V7 GE bfE GK bfK g_signs_at bf_signs_at kf_signs_at (PySem.W.mg_of X G af_signs_at)
    have g_is_number : FnOk P w K mg base (CXx P w) 1 f_is_number _ ["token"] (spIN CK) := ok_is_number Ff_is_number T
    have g_check_number : FnOk P w K mg base (CXx P w) 3 f_check_number _ ["token"] (spCN CE CK) := ok_check_number Ff_check_number T V7 GE bfE
    have GPk : FnOk P w K mg base (CXx P w) 4 fPk _ ["self"] (spPk K CE CK CR) := ok_peek FfPk T M g_token_at bf_token_at kf_token_at (PySem.W.mg_of X G af_token_at) g_skip_blanks bf_skip_blanks kf_skip_blanks (PySem.W.mg_of X G af_skip_blanks) g_is_number bf_is_number kf_is_number (PySem.W.mg_of X G af_is_number) g_check_number bf_check_number kf_check_number (PySem.W.mg_of X G af_check_number)
    have GSe : FnOk P w K mg base (CXx P w) 5 fSe _ ["self", "text"] (spSe K CE CK CR) := ok_sees FfSe T M GPk bfPk
    have GSO : FnOk P w K mg base (CXx P w) 5 fSO _ ["self", "texts"] (spSO K CE CK CR) := ok_sees_one_of FfSO T M GPk bfPk
    have GAc : FnOk P w K mg base (CXx P w) 5 fAc _ ["self"] (spAc K CK CR) := ok_accept FfAc T M GPk bfPk
    have GRe : FnOk P w K mg base (CXx P w) 5 fRe _ ["self"] (spRe K CE CK CR) := ok_refuse FfRe T V7 M GE bfE GPk bfPk
    have GAT : FnOk P w K mg base (CXx P w) 6 fAT _ ["self", "text"] (spAT K CE CK CR) := ok_accept_text FfAT M GSe bfSe GRe bfRe GAc bfAc
    have GAN : FnOk P w K mg base (CXx P w) 6 fAN _ ["self"] (spAN K CE CK CR) := ok_accept_number FfAN M GPk bfPk g_is_number bf_is_number kf_is_number (PySem.W.mg_of X G af_is_number) GRe bfRe GAc bfAc
    have p_article_before : PG P w K mg base "article_before" 1 f_article_before ["word"] (spAB) := ⟨⟨_, ok_ab Ff_article_before , bf_article_before⟩, kf_article_before, PySem.W.mg_of X G af_article_before⟩
    have p_charge_words : PG P w K mg base "charge_words" 1 f_charge_words ["how_many"] (spCW) := ⟨⟨_, ok_cw Ff_charge_words tC (PySem.W.mg_none_of X G z_list), bf_charge_words⟩, kf_charge_words, PySem.W.mg_of X G af_charge_words⟩
    have p_take_name : PG P w K mg base "take_name" 6 f_take_name ["reader", "names"] (spTN K CE CK CR) := ⟨⟨_, ok_take_name Ff_take_name T M ⟨_, PySem.W.mg_of X G asSI⟩ GSO bfSO GRe bfRe GAc bfAc GSe bfSe, bf_take_name⟩, kf_take_name, PySem.W.mg_of X G af_take_name⟩
    have p_take_name_if_there : PG P w K mg base "take_name_if_there" 7 f_take_name_if_there ["reader", "names", "otherwise"] (spIf K CE CK CR) := ⟨⟨_, ok_take_name_if_there Ff_take_name_if_there M GSO bfSO p_take_name, bf_take_name_if_there⟩, kf_take_name_if_there, PySem.W.mg_of X G af_take_name_if_there⟩
    have p_take_line : PG P w K mg base "take_line" 8 f_take_line ["reader"] (spL K CE CK CR fun s => .ok (ShBlazon.lineAt s)) := ⟨⟨_, ok_take_line Ff_take_line tL p_take_name_if_there, bf_take_line⟩, kf_take_line, PySem.W.mg_of X G af_take_line⟩
    have p_take_two_tinctures : PG P w K mg base "take_two_tinctures" 7 f_take_two_tinctures ["reader"] (spTwo K CE CK CR) := ⟨⟨_, ok_take_two Ff_take_two_tinctures T M tT ⟨_, PySem.W.mg_of X G ac_SAME_TINCTURE⟩ GE bfE GAT bfAT GPk bfPk p_take_name, bf_take_two_tinctures⟩, kf_take_two_tinctures, PySem.W.mg_of X G af_take_two_tinctures⟩
    have p_take_pieces : PG P w K mg base "take_pieces" 7 f_take_pieces ["reader"] (spI K CE CK CR ShBlazon.piecesAt) := ⟨⟨_, ok_take_pieces Ff_take_pieces T M ⟨_, PySem.W.mg_of X G ac_PIECES_OUT_OF_BOUNDS⟩ ⟨_, PySem.W.mg_of X G ac_LEAST_PIECES⟩ ⟨_, PySem.W.mg_of X G ac_MOST_PIECES⟩ GE bfE GAT bfAT GAN bfAN, bf_take_pieces⟩, kf_take_pieces, PySem.W.mg_of X G af_take_pieces⟩
    have p_take_plain : PG P w K mg base "take_plain" 7 f_take_plain ["reader"] (spFd K CE CK CR CF plainG) := ⟨⟨_, ok_take_plain Ff_take_plain U tT GF bfF p_take_name, bf_take_plain⟩, kf_take_plain, PySem.W.mg_of X G af_take_plain⟩
    have p_take_parted_way : PG P w K mg base "take_parted_way" 7 f_take_parted_way ["reader"] (spL K CE CK CR wayG) := ⟨⟨_, ok_take_parted_way Ff_take_parted_way T M tP tW GSe bfSe GAc bfAc p_take_name, bf_take_parted_way⟩, kf_take_parted_way, PySem.W.mg_of X G af_take_parted_way⟩
    have p_take_parted : PG P w K mg base "take_parted" 9 f_take_parted ["reader"] (spFd K CE CK CR CF partedG) := ⟨⟨_, ok_take_parted Ff_take_parted U GF bfF p_take_parted_way p_take_line p_take_two_tinctures, bf_take_parted⟩, kf_take_parted, PySem.W.mg_of X G af_take_parted⟩
    have p_take_varied : PG P w K mg base "take_varied" 9 f_take_varied ["reader"] (spFd K CE CK CR CF variedG) := ⟨⟨_, ok_take_varied Ff_take_varied U tV GF bfF p_take_name p_take_pieces p_take_line p_take_two_tinctures, bf_take_varied⟩, kf_take_varied, PySem.W.mg_of X G af_take_varied⟩
    have p_take_field : PG P w K mg base "take_field" 10 f_take_field ["reader"] (spFd K CE CK CR CF ShBlazon.fieldAt) := ⟨⟨_, ok_take_field Ff_take_field M tT tV tW GSO bfSO GSe bfSe GRe bfRe p_take_plain p_take_varied p_take_parted, bf_take_field⟩, kf_take_field, PySem.W.mg_of X G af_take_field⟩
    have p_take_fill : PG P w K mg base "take_fill" 11 f_take_fill ["reader", "arms_field"] (spFl K CE CK CR CF) := ⟨⟨_, ok_take_fill Ff_take_fill T M U ⟨_, PySem.W.mg_of X G asCC⟩ ⟨_, PySem.W.mg_of X G ac_COUNTERCHANGED_OVER_PLAIN⟩ GE bfE GSe bfSe GAc bfAc p_take_field, bf_take_fill⟩, kf_take_fill, PySem.W.mg_of X G af_take_fill⟩
    have p_take_manner : PG P w K mg base "take_manner" 7 f_take_manner ["reader"] (spL K CE CK CR ShBlazon.mannerAt) := ⟨⟨_, ok_take_manner Ff_take_manner M tM GSe bfSe GAc bfAc p_take_name, bf_take_manner⟩, kf_take_manner, PySem.W.mg_of X G af_take_manner⟩
    have p_take_ordinary : PG P w K mg base "take_ordinary" 12 f_take_ordinary ["reader", "arms_field"] (spLy K CE CK CR CF CO CG ordG) := ⟨⟨_, ok_take_ordinary Ff_take_ordinary U RO tO GOi bfO p_take_name p_take_line p_take_fill, bf_take_ordinary⟩, kf_take_ordinary, PySem.W.mg_of X G af_take_ordinary⟩
    have p_take_group : PG P w K mg base "take_group" 12 f_take_group ["reader", "how_many", "arms_field"] (spGr K CE CK CR CF CO CG) := ⟨⟨_, ok_take_group Ff_take_group U RG tZ ⟨_, PySem.W.mg_of X G ac_PLAIN_SIZE⟩ GGi bfG p_take_name_if_there p_take_name p_charge_words p_take_manner p_take_fill, bf_take_group⟩, kf_take_group, PySem.W.mg_of X G af_take_group⟩
    have p_take_one : PG P w K mg base "take_one" 13 f_take_one ["reader", "arms_field"] (spOne K CE CK CR CF CO CG) := ⟨⟨_, ok_take_one Ff_take_one T M U tO tZ tC ⟨_, PySem.W.mg_of X G ac_WRONG_ARTICLE⟩ GE bfE GAc bfAc GSO bfSO GRe bfRe GPk bfPk p_take_ordinary p_article_before p_take_group, bf_take_one⟩, kf_take_one, PySem.W.mg_of X G af_take_one⟩
    have p_take_layer : PG P w K mg base "take_layer" 14 f_take_layer ["reader", "arms_field"] (spLy K CE CK CR CF CO CG ShBlazon.layerAt) := ⟨⟨_, ok_take_layer Ff_take_layer M U tN GSe bfSe p_take_one p_take_name p_take_group, bf_take_layer⟩, kf_take_layer, PySem.W.mg_of X G af_take_layer⟩
    have p_read_blazon : PG P w K mg base "read_blazon" 15 f_read_blazon ["data"] (spRB K CE CF CO CG CA) := ⟨⟨_, ok_read_blazon Ff_read_blazon T V7 M U RA neK neO neG ⟨_, PySem.W.mg_of X G ac_MOST_LAYERS⟩ ⟨_, PySem.W.mg_of X G ac_NINTH_LAYER⟩ GE bfE GR bfR GSe bfSe GAT bfAT GAi bfA p_take_field p_take_layer, bf_read_blazon⟩, kf_read_blazon, PySem.W.mg_of X G af_read_blazon⟩
    have p_field_bytes : PG P w K mg base "field_bytes" 1 f_field_bytes ["field"] (spFBy CF) := ⟨⟨_, ok_field_bytes Ff_field_bytes U.F BY, bf_field_bytes⟩, kf_field_bytes, PySem.W.mg_of X G af_field_bytes⟩
    have p_fill_bytes : PG P w K mg base "fill_bytes" 2 f_fill_bytes ["fill"] (spLBy CF) := ⟨⟨_, ok_fill_bytes Ff_fill_bytes BY p_field_bytes, bf_fill_bytes⟩, kf_fill_bytes, PySem.W.mg_of X G af_fill_bytes⟩
    have p_layer_bytes : PG P w K mg base "layer_bytes" 3 f_layer_bytes ["layer"] (spYBy CF CO CG) := ⟨⟨_, ok_layer_bytes Ff_layer_bytes RO RG TI BY p_fill_bytes, bf_layer_bytes⟩, kf_layer_bytes, PySem.W.mg_of X G af_layer_bytes⟩
    have p_arms_bytes : PG P w K mg base "arms_bytes" 4 f_arms_bytes ["arms"] (spAm CF CO CG CA) := ⟨⟨_, ok_arms_bytes Ff_arms_bytes T RA p_field_bytes p_layer_bytes, bf_arms_bytes⟩, kf_arms_bytes, PySem.W.mg_of X G af_arms_bytes⟩
    have p_with_length : PG P w K mg base "with_length" 1 f_with_length ["data"] (spWL) := ⟨⟨_, ok_wl Ff_with_length T, bf_with_length⟩, kf_with_length, PySem.W.mg_of X G af_with_length⟩
    exact ok_read Ff_read T p_read_blazon p_arms_bytes p_with_length
end Re7
open PySem PySem.W PyProof.Rows
namespace PySem.W.Fast
noncomputable abbrev tw7613360323224693449 := 0
noncomputable abbrev tw4710973719771782647 := 0
noncomputable abbrev tw1793489122183550108 := 0
noncomputable abbrev tw4812047150706582114 := 0
noncomputable abbrev tw16327546983052666436 := 0
noncomputable abbrev tw94131877918388973 := 0
noncomputable abbrev tw9740424333906378419 := 0
noncomputable abbrev tw14524670951140862796 := 0
noncomputable abbrev tw2467627014274928424 := 0
noncomputable abbrev tw15155081788725877758 := 0
noncomputable abbrev tw11762141200589335890 := 0
noncomputable abbrev tw9096541407297907859 := 0
noncomputable abbrev tw11458295543014789075 := 0
noncomputable abbrev tw16955674303171272370 := 0
noncomputable abbrev tw1353237114705349487 := 0
noncomputable abbrev tw2940222685026912688 := 0
noncomputable abbrev tw440160502346219701 := 0
noncomputable abbrev tw5426483039496859153 := 0
noncomputable abbrev tw9878822440658771928 := 0
noncomputable abbrev tw7586530277889079481 := 0
noncomputable abbrev tw7019958688637897226 := 0
noncomputable abbrev tw16776778425019467727 := 0
noncomputable abbrev tw74503151503251217 := 0
noncomputable abbrev tw15670996324054441195 := 0
noncomputable abbrev tw2421374153730553613 := 0
noncomputable abbrev tw10305326714476846378 := 0
noncomputable abbrev tw14065042922687471466 := 0
noncomputable abbrev tw240341235127336637 := 0
noncomputable abbrev tw1477363335011502119 := 0
noncomputable abbrev tw4646480875354036178 := 0
noncomputable abbrev tw7163109266101717064 := 0
noncomputable abbrev tw3410803038555942320 := 0
noncomputable abbrev tw4342242418660938270 := 0
noncomputable abbrev tw13535525220643439186 := 0
noncomputable abbrev tw17966264304803563417 := 0
noncomputable abbrev tw13499272342893758086 := 0
noncomputable abbrev tw4897852405607336588 := 0
noncomputable abbrev tw2363403335418299293 := 0
noncomputable abbrev tw6725679290200092477 := 0
noncomputable abbrev tw11436929704987672308 := 0
noncomputable abbrev tw8026687519071081303 := 0
noncomputable abbrev tw16388855360052378773 := 0
noncomputable abbrev tw13716101793869037540 := 0
noncomputable abbrev tw8271843097345039327 := 0
noncomputable abbrev tw14680684117259313017 := 0
noncomputable abbrev tw9901226798102180204 := 0
noncomputable abbrev tw2461623784058379498 := 0
noncomputable abbrev tw9079174390950728755 := 0
noncomputable abbrev tw1772822018941603556 := 0
noncomputable abbrev tw12741005478742755139 := 0
noncomputable abbrev tw16140415926117989145 := 0
noncomputable abbrev tw14505768151290754020 := 0
noncomputable abbrev tw7667731327954932997 := 0
noncomputable abbrev tw3198931511775372584 := 0
noncomputable abbrev tw15151709886670238843 := 0
noncomputable abbrev tw3966587438854281503 := 0
noncomputable abbrev tw13222615163001920886 := 0
noncomputable abbrev tw15880129360853360150 := 0
noncomputable abbrev tw13294560062306658780 := 0
noncomputable abbrev tw17797147057430115821 := 0
noncomputable abbrev tw12907812618909955823 := 0
noncomputable abbrev tw11374541388210888689 := 0
noncomputable abbrev tw937070258642284129 := 0
noncomputable abbrev tw3006853827497881582 := 0
noncomputable abbrev tw12318674604554391049 := 0
noncomputable abbrev tw1480532429215636085 := 0
noncomputable abbrev tw5543519219779387529 := 0
noncomputable abbrev tw18151057685428723978 := 0
noncomputable abbrev tw2423174018815840732 := 0
noncomputable abbrev tw11428153972660860054 := 0
noncomputable abbrev tw9105855087702473829 := 0
noncomputable abbrev tw4554259696080606237 := 0
noncomputable abbrev tw12049116451235202493 := 0
noncomputable abbrev tw18184706343000288105 := 0
noncomputable abbrev tw14512471811079916614 := 0
noncomputable abbrev tw2053551354259288516 := 0
noncomputable abbrev tw15555799116370941462 := 0
noncomputable abbrev tw1211291423279994019 := 0
noncomputable abbrev tw6886738234458505161 := 0
noncomputable abbrev tw15293861113289784161 := 0
noncomputable abbrev tw1846875423469017961 := 0
noncomputable abbrev tw11726466371641539489 := 0
noncomputable abbrev tw3513436339828402109 := 0
noncomputable abbrev tw4340889607718897918 := 0
noncomputable abbrev tw18329372589681158212 := 0
noncomputable abbrev tw7474248653391026516 := 0
noncomputable abbrev tw3821850866914471711 := 0
noncomputable abbrev tw6780293373770233479 := 0
noncomputable abbrev tw15331538038317502244 := 0
noncomputable abbrev tw10203779593828559949 := 0
noncomputable abbrev tw15288837865376489329 := 0
noncomputable abbrev tw7174701850642933948 := 0
noncomputable abbrev tw14376525209702475612 := 0
noncomputable abbrev tw37726919142381576 := 0
noncomputable abbrev tw13535728778320312942 := 0
noncomputable abbrev tw8152823588327775654 := 0
noncomputable abbrev tw12258410698828827936 := 0
noncomputable abbrev tw7885568391042538788 := 0
noncomputable abbrev tw4517118363795869973 := 0
noncomputable abbrev tw6175543975682734204 := 0
noncomputable abbrev tw7595944543706459943 := 0
noncomputable abbrev tw11250186470868234000 := 0
noncomputable abbrev tw8347933675617577776 := 0
noncomputable abbrev tw7588689576567254188 := 0
noncomputable abbrev tw8324730490014563268 := 0
noncomputable abbrev tw2124267596857354265 := 0
noncomputable abbrev tw15433734088387033108 := 0
noncomputable abbrev tw14038781800224325824 := 0
noncomputable abbrev tw15333436179796323979 := 0
noncomputable abbrev tw16000620838642340453 := 0
noncomputable abbrev tw942085982675129215 := 0
noncomputable abbrev tw1855408811995165935 := 0
noncomputable abbrev tw4082799036677622608 := 0
noncomputable abbrev tw6658274966410558983 := 0
noncomputable abbrev tw6948257222551801177 := 0
noncomputable abbrev tw13514077001272445501 := 0
noncomputable abbrev tw6241600837672682509 := 0
noncomputable abbrev tw464312216245715449 := 0
noncomputable abbrev tw15378306847565264986 := 0
noncomputable abbrev tw6457544491007746582 := 0
noncomputable abbrev tw13612256503964301472 := 0
noncomputable abbrev tw15931152011043952432 := 0
noncomputable abbrev tw117129465121867286 := 0
noncomputable abbrev tw4449800194330886115 := 0
noncomputable abbrev tw14648502400779307788 := 0
noncomputable abbrev tw3766781972576127160 := 0
noncomputable abbrev tw5434048598384884016 := 0
noncomputable abbrev tw336700296460188841 := 0
noncomputable abbrev tw6056115617136489287 := 0
noncomputable abbrev tw14233620397344540644 := 0
noncomputable abbrev tw16184058072059031973 := 0
noncomputable abbrev tw13015588459395463197 := 0
noncomputable abbrev tw10702408222231601444 := 0
noncomputable abbrev tw17338879228052476272 := 0
noncomputable abbrev tw2828781303184942861 := 0
noncomputable abbrev tw8201951392589441412 := 0
noncomputable abbrev tw6183897909857128760 := 0
noncomputable abbrev tw9810035378059869700 := 0
noncomputable abbrev tw4969828991195756540 := 0
noncomputable abbrev tw12771650635048089265 := 0
noncomputable abbrev tw187843906352889159 := 0
noncomputable abbrev tw16495150835249150521 := 0
noncomputable abbrev tw8261402400880168974 := 0
noncomputable abbrev tw3837977873809037655 := 0
noncomputable abbrev tw1885318001685767485 := 0
noncomputable abbrev tw8101053129927814710 := 0
noncomputable abbrev tw2426635034501574653 := 0
noncomputable abbrev tw16895075211101219887 := 0
noncomputable abbrev tw5118016556257619308 := 0
noncomputable abbrev tw334974134591140475 := 0
noncomputable abbrev tw5589029730360729499 := 0
noncomputable abbrev tw9698655178109290561 := 0
noncomputable abbrev tw377962395361036994 := 0
noncomputable abbrev tw3693921064329158794 := 0
noncomputable abbrev tw10362122672029490034 := 0
noncomputable abbrev tw769123078641064025 := 0
noncomputable abbrev tw2454671898888622959 := 0
noncomputable abbrev tw15118480802767480307 := 0
noncomputable abbrev tw8224535919260498290 := 0
noncomputable abbrev tw2813922249772191004 := 0
noncomputable abbrev tw3072270881977654704 := 0
noncomputable abbrev tw5883438705509907780 := 0
noncomputable abbrev tw3878824009759060448 := 0
noncomputable abbrev tw16235699652859533490 := 0
noncomputable abbrev tw9271805927987100063 := 0
noncomputable abbrev tw16983783729730709865 := 0
noncomputable abbrev tw14370739428991713965 := 0
noncomputable abbrev tw8156519011290941540 := 0
noncomputable abbrev tw1859024771873203931 := 0
noncomputable abbrev tw8035308583561595095 := 0
noncomputable abbrev tw3942399852342351264 := 0
noncomputable abbrev tw14037724954320079144 := 0
noncomputable abbrev tw4944605844621724311 := 0
noncomputable abbrev tw1827051348998648697 := 0
noncomputable abbrev tw714532738778317237 := 0
noncomputable abbrev tw14542610950769213055 := 0
noncomputable abbrev tw15226213983046926245 := 0
noncomputable abbrev tw4613267278574491208 := 0
noncomputable abbrev tw18083916457784593076 := 0
noncomputable abbrev tw13420824445456099895 := 0
noncomputable abbrev tw18437609728704331076 := 0
noncomputable abbrev tw11172368989447483477 := 0
noncomputable abbrev tw11048413110059963402 := 0
noncomputable abbrev tw5572280610078562437 := 0
noncomputable abbrev tw15794117007606782743 := 0
noncomputable abbrev tw6695064563581265193 := 0
noncomputable abbrev tw16897145105206560196 := 0
noncomputable abbrev tw911417595388186310 := 0
noncomputable abbrev tw18211385734379573915 := 0
noncomputable abbrev tw1250392301308732906 := 0
noncomputable abbrev tw10388690246230051707 := 0
noncomputable abbrev tw8337698346429361034 := 0
noncomputable abbrev tw4280058672165152723 := 0
noncomputable abbrev tw7043068863959513610 := 0
noncomputable abbrev tw10746878896180788673 := 0
noncomputable abbrev tw14293593847951871782 := 0
noncomputable abbrev tw3142597401267580396 := 0
noncomputable abbrev tw6044703276317300713 := 0
noncomputable abbrev tw14380545884765750317 := 0
noncomputable abbrev tw962335821375042166 := 0
noncomputable abbrev tw608443692210102705 := 0
noncomputable abbrev tw5311313228194854731 := 0
noncomputable abbrev tw11536983403856006812 := 0
noncomputable abbrev tw10121370603963113377 := 0
noncomputable abbrev tw13778289998960437766 := 0
noncomputable abbrev tw544550408284581446 := 0
noncomputable abbrev tw15693133067715776628 := 0
noncomputable abbrev tw763797335365392537 := 0
noncomputable abbrev tw2102861173093725425 := 0
noncomputable abbrev tw4707555467335598046 := 0
noncomputable abbrev tw14144066669135636709 := 0
noncomputable abbrev tw10815322158470982089 := 0
noncomputable abbrev tw1392467525208239612 := 0
noncomputable abbrev tw3515444365912758859 := 0
noncomputable abbrev tw16782466320855927822 := 0
noncomputable abbrev tw10683236010540084798 := 0
noncomputable abbrev tw15483887333475075597 := 0
noncomputable abbrev tw5170339319120008588 := 0
noncomputable abbrev tw7388174134457210982 := 0
noncomputable abbrev tw16272293200077441897 := 0
noncomputable abbrev tw10440510746568955948 := 0
noncomputable abbrev tw1759197235618494659 := 0
noncomputable abbrev tw321962990707003039 := 0
noncomputable abbrev tw5217673759419903873 := 0
noncomputable abbrev tw8792267181935400779 := 0
noncomputable abbrev tw9608964919480223021 := 0
noncomputable abbrev tw87278191532857020 := 0
noncomputable abbrev tw9424025132493905317 := 0
noncomputable abbrev tw13566403692653899680 := 0
noncomputable abbrev tw15138020945014622630 := 0
noncomputable abbrev tw1647925344410310451 := 0
noncomputable abbrev tw14612166901133414070 := 0
noncomputable abbrev tw6589813900194383638 := 0
noncomputable abbrev tw17774686150571280152 := 0
noncomputable abbrev tw1324547305470074141 := 0
noncomputable abbrev tw17741469161588306880 := 0
noncomputable abbrev tw5383780604011968777 := 0
noncomputable abbrev tw13858696136610215398 := 0
noncomputable abbrev tw8367764341542018220 := 0
noncomputable abbrev tw12683108105011966840 := 0
noncomputable abbrev tw5608091043625465466 := 0
noncomputable abbrev tw15059070509966156795 := 0
noncomputable abbrev tw13006764507325692506 := 0
noncomputable abbrev tw8609938122285905314 := 0
noncomputable abbrev tw8861569388699929092 := 0
noncomputable abbrev tw6465739269445870234 := 0
noncomputable abbrev tw15211635174571928056 := 0
noncomputable abbrev tw3307517648572745322 := 0
noncomputable abbrev tw4394331956658544410 := 0
noncomputable abbrev tw4673725835204173616 := 0
noncomputable abbrev tw15611641727066012009 := 0
noncomputable abbrev tw3997299787569524702 := 0
noncomputable abbrev tw12733720436280441222 := 0
noncomputable abbrev tw1330222774208658345 := 0
noncomputable abbrev tw13439912462302685424 := 0
noncomputable abbrev tw7830455218749912481 := 0
noncomputable abbrev tw5293117141299406712 := 0
noncomputable abbrev tw8550988754131791404 := 0
noncomputable abbrev tw7076938636443073761 := 0
noncomputable abbrev tw3625215556441460680 := 0
noncomputable abbrev tw6804938192173166912 := 0
noncomputable abbrev tw8085691494843304577 := 0
noncomputable abbrev tw4821520808845409860 := 0
noncomputable abbrev tw8456325206026932154 := 0
noncomputable abbrev tw6260748205320797208 := 0
noncomputable abbrev tw15280174594708513685 := 0
noncomputable abbrev tw7931664446312139473 := 0
noncomputable abbrev tw17406850235296461715 := 0
noncomputable abbrev tw11991726224824482455 := 0
noncomputable abbrev tw12277198912370829130 := 0
noncomputable abbrev tw17809649104407216452 := 0
noncomputable abbrev tw10899679206324629428 := 0
noncomputable abbrev tw16387248940692972121 := 0
noncomputable abbrev tw15591526987664898644 := 0
noncomputable abbrev tw10155005859502658763 := 0
noncomputable abbrev tw4618387713937655641 := 0
noncomputable abbrev tw7762520578146569583 := 0
noncomputable abbrev tw4898625344531849691 := 0
noncomputable abbrev tw3257070455250753012 := 0
noncomputable abbrev tw16859569647716649940 := 0
noncomputable abbrev tw13987671013156354407 := 0
noncomputable abbrev tw2333592515752616139 := 0
noncomputable abbrev tw11003582356541515350 := 0
noncomputable abbrev tw11926593730955926381 := 0
noncomputable abbrev tw9460437881868365850 := 0
noncomputable abbrev tw5936776740414627840 := 0
noncomputable abbrev tw11239866735516772724 := 0
noncomputable abbrev tw1552225221269922716 := 0
noncomputable abbrev tw1674942488012232053 := 0
noncomputable abbrev tw15657245545390880275 := 0
noncomputable abbrev tw5282048640212111595 := 0
noncomputable abbrev tw953867847790094875 := 0
noncomputable abbrev tw9133455988888877695 := 0
noncomputable abbrev tw2832962492450731332 := 0
noncomputable abbrev tw14758827777187523237 := 0
noncomputable abbrev tw9667466452930044846 := 0
noncomputable abbrev tw9162901308032666338 := 0
noncomputable abbrev tw9878838956881263012 := 0
noncomputable abbrev tw17085333742565545775 := 0
noncomputable abbrev tw15819155922572180299 := 0
noncomputable abbrev tw9339578752276480474 := 0
noncomputable abbrev tw17096150982253939570 := 0
noncomputable abbrev tw14373691286384276648 := 0
noncomputable abbrev tw9120016158943181318 := 0
noncomputable abbrev tw13055828626137667529 := 0
noncomputable abbrev tw4120870857198805112 := 0
noncomputable abbrev tw11902879592720843835 := 0
noncomputable abbrev tw15068245016118513740 := 0
noncomputable abbrev tw491253786827066954 := 0
noncomputable abbrev tw1565353334891433365 := 0
noncomputable abbrev tw3500110168530345917 := 0
noncomputable abbrev tw13328226502397335228 := 0
noncomputable abbrev tw12993191508829916897 := 0
noncomputable abbrev tw10946750558709341708 := 0
noncomputable abbrev tw10187140921359747604 := 0
noncomputable abbrev tw8872353156512978659 := 0
noncomputable abbrev tw4411701109659819731 := 0
noncomputable abbrev tw4604193809994469919 := 0
noncomputable abbrev tw73996067013189179 := 0
noncomputable abbrev tw3451787262178110270 := 0
noncomputable abbrev tw7151532917973092641 := 0
noncomputable abbrev tw17970138584358326110 := 0
noncomputable abbrev tw13949164507287996685 := 0
noncomputable abbrev tw9898528327382431728 := 0
noncomputable abbrev tw3207397882257015349 := 0
noncomputable abbrev tw12972432544234422509 := 0
noncomputable abbrev tw10511689518408489103 := 0
noncomputable abbrev tw9132276677606563376 := 0
noncomputable abbrev tw12939265347474285175 := 0
noncomputable abbrev tw11503540602493190152 := 0
noncomputable abbrev tw5278044397614966949 := 0
noncomputable abbrev tw13287700361014763853 := 0
noncomputable abbrev tw16205868609886325863 := 0
noncomputable abbrev tw15291532842022633807 := 0
noncomputable abbrev tw5188173411804427010 := 0
noncomputable abbrev tw13976946434496763338 := 0
noncomputable abbrev tw10421967574878239563 := 0
noncomputable abbrev tw17228426922124443642 := 0
noncomputable abbrev tw13660524274606905416 := 0
noncomputable abbrev tw6602020362740857330 := 0
noncomputable abbrev tw4519629590685802903 := 0
noncomputable abbrev tw2183890765190575171 := 0
noncomputable abbrev tw1889762599106091863 := 0
noncomputable abbrev tw4991432926174567941 := 0
noncomputable abbrev tw649077518359380736 := 0
noncomputable abbrev tw10999512742694674298 := 0
noncomputable abbrev tw9027762030295996542 := 0
noncomputable abbrev tw6948596503218546960 := 0
noncomputable abbrev tw3237134108336251544 := 0
noncomputable abbrev tw10240416958133245820 := 0
noncomputable abbrev tw16601815054604534472 := 0
noncomputable abbrev tw3152559162531833310 := 0
noncomputable abbrev tw1730448125136205263 := 0
noncomputable abbrev tw18050777504600424693 := 0
noncomputable abbrev tw5861397118335454194 := 0
noncomputable abbrev tw909939337088586575 := 0
noncomputable abbrev tw5155505220590894685 := 0
noncomputable abbrev tw11303138039038580754 := 0
noncomputable abbrev tw18244467445841955677 := 0
noncomputable abbrev tw8095249763916218854 := 0
noncomputable abbrev tw1341176765881095239 := 0
noncomputable abbrev tw14550210667109284866 := 0
noncomputable abbrev tw4926725485919139564 := 0
noncomputable abbrev tw11291945078898778442 := 0
noncomputable abbrev tw7675380855527568778 := 0
noncomputable abbrev tw1457492966934440860 := 0
noncomputable abbrev tw13758652077640857381 := 0
noncomputable abbrev tw11288421571433734837 := 0
noncomputable abbrev tw7107468265649488794 := 0
noncomputable abbrev tw13445500812548055535 := 0
noncomputable abbrev tw15892841772582303052 := 0
noncomputable abbrev tw12403459313679347449 := 0
noncomputable abbrev tw17374035519266572348 := 0
noncomputable abbrev tw307463968420079345 := 0
noncomputable abbrev tw13155912976895424948 := 0
noncomputable abbrev tw10713382810559934725 := 0
noncomputable abbrev tw32324695102284774 := 0
noncomputable abbrev tw5930719263982968537 := 0
noncomputable abbrev tw6609481400472357720 := 0
noncomputable abbrev tw11414674526485199193 := 0
noncomputable abbrev tw1551331020684241717 := 0
noncomputable abbrev tw4392154917914898695 := 0
noncomputable abbrev tw6433536658022674363 := 0
noncomputable abbrev tw6860425330325035548 := 0
noncomputable abbrev tw18187572996783017173 := 0
noncomputable abbrev tw125661221432489918 := 0
noncomputable abbrev tw3778233132913952458 := 0
noncomputable abbrev tw12039847806439453979 := 0
noncomputable abbrev tw8190952111084555086 := 0
noncomputable abbrev tw8741989114778105218 := 0
noncomputable abbrev tw16302474709320873636 := 0
noncomputable abbrev tw13108352849066642258 := 0
noncomputable abbrev tw10517409505080144687 := 0
noncomputable abbrev tw578646025229145069 := 0
noncomputable abbrev tw2774766476770419603 := 0
noncomputable abbrev tw15102744779441366763 := 0
noncomputable abbrev tw4327266295263765305 := 0
noncomputable abbrev tw1986040529102176221 := 0
noncomputable abbrev tw6910855311581309494 := 0
noncomputable abbrev tw12429150165040645664 := 0
noncomputable abbrev tw8087187094565270203 := 0
noncomputable abbrev tw15305107356672110567 := 0
noncomputable abbrev tw18377544743286876764 := 0
noncomputable abbrev tw8317231607961552517 := 0
noncomputable abbrev tw268281350004497633 := 0
noncomputable abbrev tw17296473993588352997 := 0
noncomputable abbrev tw17657581222429084437 := 0
noncomputable abbrev tw4304382862693797050 := 0
noncomputable abbrev tw17526817867149141770 := 0
noncomputable abbrev tw630041609121771972 := 0
noncomputable abbrev tw10929868331058548261 := 0
noncomputable abbrev tw4093084929225750211 := 0
noncomputable abbrev tw13214548481607533258 := 0
noncomputable abbrev tw2663128004302763951 := 0
end PySem.W.Fast
set_option maxRecDepth 100000 in
set_option maxHeartbeats 0 in
theorem PySem.Challenge.cw_shieldwords_s07_read_holds : PySem.Challenge.rw_shieldwords_s07_read.Holds := by
  w_on; k_headS; (case hw => exact ⟨[.list []], by decide +kernel, by decide +kernel⟩)
  k_fillS
  refine L2.walk_specX (r := PySem.Challenge.rw_shieldwords_s07_read) (k := 16) (CX := fun w => L2.CXx PySem.Challenge.rw_shieldwords_s07_read.prog w) (ps := ["t"]) (sp := Re7.spRd) (by decide +kernel) rfl rfl ⟨rfl, by decide, by decide⟩ (fun w h Y => PySem.W.kIn_of Y) ?F ?S ?C
  case F =>
    intro w mg fa h Y KX G hmg
    refine' Re7.all_mk KX G hmg ?aCE ?lCE ?lNE ?oNE ?iNE ?n0NE ?n1NE ?n2NE ?n3NE ?n4NE ?pCE ?aCK ?pgCK ?hdCK ?poCK ?saCK ?mkCK ?kcCK ?noCK_text ?noCK_place ?noCK_end ?aCR ?pgCR ?hdCR ?poCR ?saCR ?mkCR ?kcCR ?noCR_data ?noCR_ahead ?noCR_end ?aCF ?pgCF ?hdCF ?poCF ?saCF ?mkCF ?kcCF ?noCF_kind ?noCF_way ?noCF_pieces ?noCF_line ?noCF_first ?noCF_second ?aCO ?pgCO ?hdCO ?poCO ?saCO ?mkCO ?kcCO ?noCO_ordinary ?noCO_line ?noCO_fill ?aCG ?pgCG ?hdCG ?poCG ?saCG ?mkCG ?kcCG ?noCG_charge ?noCG_how_many ?noCG_manner ?noCG_size ?noCG_fill ?aCA ?pgCA ?hdCA ?poCA ?saCA ?mkCA ?kcCA ?noCA_field ?noCA_layers ?ifE ?lfE ?cfE ?kfE ?afK ?ifK ?lfK ?cfK ?kfK ?afR ?ifR ?lfR ?cfR ?kfR ?afPk ?ifPk ?lfPk ?cfPk ?kfPk ?afSe ?ifSe ?lfSe ?cfSe ?kfSe ?afSO ?ifSO ?lfSO ?cfSO ?kfSO ?afAc ?ifAc ?lfAc ?cfAc ?kfAc ?afRe ?ifRe ?lfRe ?cfRe ?kfRe ?afAT ?ifAT ?lfAT ?cfAT ?kfAT ?afAN ?ifAN ?lfAN ?cfAN ?kfAN ?afF ?ifF ?lfF ?cfF ?kfF ?afO ?ifO ?lfO ?cfO ?kfO ?afG ?ifG ?lfG ?cfG ?kfG ?afA ?ifA ?lfA ?cfA ?kfA ?af_sign_among ?lf_sign_among ?cf_sign_among ?kf_sign_among ?af_skip_blanks ?lf_skip_blanks ?cf_skip_blanks ?kf_skip_blanks ?af_signs_at ?lf_signs_at ?cf_signs_at ?kf_signs_at ?af_token_at ?lf_token_at ?cf_token_at ?kf_token_at ?af_is_number ?lf_is_number ?cf_is_number ?kf_is_number ?af_check_number ?lf_check_number ?cf_check_number ?kf_check_number ?af_article_before ?lf_article_before ?cf_article_before ?kf_article_before ?af_charge_words ?lf_charge_words ?cf_charge_words ?kf_charge_words ?af_take_name ?lf_take_name ?cf_take_name ?kf_take_name ?af_take_name_if_there ?lf_take_name_if_there ?cf_take_name_if_there ?kf_take_name_if_there ?af_take_line ?lf_take_line ?cf_take_line ?kf_take_line ?af_take_two_tinctures ?lf_take_two_tinctures ?cf_take_two_tinctures ?kf_take_two_tinctures ?af_take_pieces ?lf_take_pieces ?cf_take_pieces ?kf_take_pieces ?af_take_plain ?lf_take_plain ?cf_take_plain ?kf_take_plain ?af_take_parted_way ?lf_take_parted_way ?cf_take_parted_way ?kf_take_parted_way ?af_take_parted ?lf_take_parted ?cf_take_parted ?kf_take_parted ?af_take_varied ?lf_take_varied ?cf_take_varied ?kf_take_varied ?af_take_field ?lf_take_field ?cf_take_field ?kf_take_field ?af_take_fill ?lf_take_fill ?cf_take_fill ?kf_take_fill ?af_take_manner ?lf_take_manner ?cf_take_manner ?kf_take_manner ?af_take_ordinary ?lf_take_ordinary ?cf_take_ordinary ?kf_take_ordinary ?af_take_group ?lf_take_group ?cf_take_group ?kf_take_group ?af_take_one ?lf_take_one ?cf_take_one ?kf_take_one ?af_take_layer ?lf_take_layer ?cf_take_layer ?kf_take_layer ?af_read_blazon ?lf_read_blazon ?cf_read_blazon ?kf_read_blazon ?af_field_bytes ?lf_field_bytes ?cf_field_bytes ?kf_field_bytes ?af_fill_bytes ?lf_fill_bytes ?cf_fill_bytes ?kf_fill_bytes ?af_layer_bytes ?lf_layer_bytes ?cf_layer_bytes ?kf_layer_bytes ?af_arms_bytes ?lf_arms_bytes ?cf_arms_bytes ?kf_arms_bytes ?af_with_length ?lf_with_length ?cf_with_length ?kf_with_length ?af_read ?lf_read ?cf_read ?kf_read ?ac_PLAIN ?ac_PARTED ?ac_VARIED ?ac_CHEQUY ?ac_LOZENGY ?ac_ORDINARY_LAYER ?ac_GROUP_LAYER ?ac_FIELD_FILL ?ac_COUNTERCHANGED_FILL ?ac_MOST_DIGITS ?ac_BYTE_THAT_CANT_BE ?ac_NO_NUMBER ?ac_ELSE_WANTED ?ac_SAME_TINCTURE ?ac_PIECES_OUT_OF_BOUNDS ?ac_LEAST_PIECES ?ac_MOST_PIECES ?ac_COUNTERCHANGED_OVER_PLAIN ?ac_PLAIN_SIZE ?ac_WRONG_ARTICLE ?ac_MOST_LAYERS ?ac_NINTH_LAYER ?aaT ?laT ?aaL ?laL ?aaP ?laP ?aaW ?laW ?aaV ?laV ?aaO ?laO ?aaC ?laC ?aaN ?laN ?aaZ ?laZ ?aaM ?laM ?aaBL ?laBL ?z_ValueError ?z_len ?z_ord ?z_int ?z_list ?z_isinstance ?asLE ?asDI ?asCO ?asSI ?asCC ?neK ?neF ?neO ?neG ?neGO ?haO ?haG ?hnO ?htkO ?hmO ?hmG ?icO ?tyO ?subGO
    (case aCE => k_is)
    (case lCE => k_is)
    (case lNE => k_is)
    (case oNE => first | rfl | decide +kernel)
    (case iNE => k_is)
    (case n0NE => k_is)
    (case n1NE => k_is)
    (case n2NE => k_is)
    (case n3NE => k_is)
    (case n4NE => k_is)
    (case pCE => k_is)
    (case aCK => k_is)
    (case pgCK => k_is)
    (case hdCK => k_is)
    (case poCK => k_is)
    (case saCK => k_is)
    (case mkCK => k_is)
    (case kcCK => k_is)
    (case noCK_text => k_is)
    (case noCK_place => k_is)
    (case noCK_end => k_is)
    (case aCR => k_is)
    (case pgCR => k_is)
    (case hdCR => k_is)
    (case poCR => k_is)
    (case saCR => k_is)
    (case mkCR => k_is)
    (case kcCR => k_is)
    (case noCR_data => k_is)
    (case noCR_ahead => k_is)
    (case noCR_end => k_is)
    (case aCF => k_is)
    (case pgCF => k_is)
    (case hdCF => k_is)
    (case poCF => k_is)
    (case saCF => k_is)
    (case mkCF => k_is)
    (case kcCF => k_is)
    (case noCF_kind => k_is)
    (case noCF_way => k_is)
    (case noCF_pieces => k_is)
    (case noCF_line => k_is)
    (case noCF_first => k_is)
    (case noCF_second => k_is)
    (case aCO => k_is)
    (case pgCO => k_is)
    (case hdCO => k_is)
    (case poCO => k_is)
    (case saCO => k_is)
    (case mkCO => k_is)
    (case kcCO => k_is)
    (case noCO_ordinary => k_is)
    (case noCO_line => k_is)
    (case noCO_fill => k_is)
    (case aCG => k_is)
    (case pgCG => k_is)
    (case hdCG => k_is)
    (case poCG => k_is)
    (case saCG => k_is)
    (case mkCG => k_is)
    (case kcCG => k_is)
    (case noCG_charge => k_is)
    (case noCG_how_many => k_is)
    (case noCG_manner => k_is)
    (case noCG_size => k_is)
    (case noCG_fill => k_is)
    (case aCA => k_is)
    (case pgCA => k_is)
    (case hdCA => k_is)
    (case poCA => k_is)
    (case saCA => k_is)
    (case mkCA => k_is)
    (case kcCA => k_is)
    (case noCA_field => k_is)
    (case noCA_layers => k_is)
    (case ifE => k_is)
    (case lfE => k_is)
    (case cfE => k_is)
    (case kfE => k_is)
    (case afK => k_is)
    (case ifK => k_is)
    (case lfK => k_is)
    (case cfK => k_is)
    (case kfK => k_is)
    (case afR => k_is)
    (case ifR => k_is)
    (case lfR => k_is)
    (case cfR => k_is)
    (case kfR => k_is)
    (case afPk => k_is)
    (case ifPk => k_is)
    (case lfPk => k_is)
    (case cfPk => k_is)
    (case kfPk => k_is)
    (case afSe => k_is)
    (case ifSe => k_is)
    (case lfSe => k_is)
    (case cfSe => k_is)
    (case kfSe => k_is)
    (case afSO => k_is)
    (case ifSO => k_is)
    (case lfSO => k_is)
    (case cfSO => k_is)
    (case kfSO => k_is)
    (case afAc => k_is)
    (case ifAc => k_is)
    (case lfAc => k_is)
    (case cfAc => k_is)
    (case kfAc => k_is)
    (case afRe => k_is)
    (case ifRe => k_is)
    (case lfRe => k_is)
    (case cfRe => k_is)
    (case kfRe => k_is)
    (case afAT => k_is)
    (case ifAT => k_is)
    (case lfAT => k_is)
    (case cfAT => k_is)
    (case kfAT => k_is)
    (case afAN => k_is)
    (case ifAN => k_is)
    (case lfAN => k_is)
    (case cfAN => k_is)
    (case kfAN => k_is)
    (case afF => k_is)
    (case ifF => k_is)
    (case lfF => k_is)
    (case cfF => k_is)
    (case kfF => k_is)
    (case afO => k_is)
    (case ifO => k_is)
    (case lfO => k_is)
    (case cfO => k_is)
    (case kfO => k_is)
    (case afG => k_is)
    (case ifG => k_is)
    (case lfG => k_is)
    (case cfG => k_is)
    (case kfG => k_is)
    (case afA => k_is)
    (case ifA => k_is)
    (case lfA => k_is)
    (case cfA => k_is)
    (case kfA => k_is)
    (case af_sign_among => k_is)
    (case lf_sign_among => k_is)
    (case cf_sign_among => k_is)
    (case kf_sign_among => k_is)
    (case af_skip_blanks => k_is)
    (case lf_skip_blanks => k_is)
    (case cf_skip_blanks => k_is)
    (case kf_skip_blanks => k_is)
    (case af_signs_at => k_is)
    (case lf_signs_at => k_is)
    (case cf_signs_at => k_is)
    (case kf_signs_at => k_is)
    (case af_token_at => k_is)
    (case lf_token_at => k_is)
    (case cf_token_at => k_is)
    (case kf_token_at => k_is)
    (case af_is_number => k_is)
    (case lf_is_number => k_is)
    (case cf_is_number => k_is)
    (case kf_is_number => k_is)
    (case af_check_number => k_is)
    (case lf_check_number => k_is)
    (case cf_check_number => k_is)
    (case kf_check_number => k_is)
    (case af_article_before => k_is)
    (case lf_article_before => k_is)
    (case cf_article_before => k_is)
    (case kf_article_before => k_is)
    (case af_charge_words => k_is)
    (case lf_charge_words => k_is)
    (case cf_charge_words => k_is)
    (case kf_charge_words => k_is)
    (case af_take_name => k_is)
    (case lf_take_name => k_is)
    (case cf_take_name => k_is)
    (case kf_take_name => k_is)
    (case af_take_name_if_there => k_is)
    (case lf_take_name_if_there => k_is)
    (case cf_take_name_if_there => k_is)
    (case kf_take_name_if_there => k_is)
    (case af_take_line => k_is)
    (case lf_take_line => k_is)
    (case cf_take_line => k_is)
    (case kf_take_line => k_is)
    (case af_take_two_tinctures => k_is)
    (case lf_take_two_tinctures => k_is)
    (case cf_take_two_tinctures => k_is)
    (case kf_take_two_tinctures => k_is)
    (case af_take_pieces => k_is)
    (case lf_take_pieces => k_is)
    (case cf_take_pieces => k_is)
    (case kf_take_pieces => k_is)
    (case af_take_plain => k_is)
    (case lf_take_plain => k_is)
    (case cf_take_plain => k_is)
    (case kf_take_plain => k_is)
    (case af_take_parted_way => k_is)
    (case lf_take_parted_way => k_is)
    (case cf_take_parted_way => k_is)
    (case kf_take_parted_way => k_is)
    (case af_take_parted => k_is)
    (case lf_take_parted => k_is)
    (case cf_take_parted => k_is)
    (case kf_take_parted => k_is)
    (case af_take_varied => k_is)
    (case lf_take_varied => k_is)
    (case cf_take_varied => k_is)
    (case kf_take_varied => k_is)
    (case af_take_field => k_is)
    (case lf_take_field => k_is)
    (case cf_take_field => k_is)
    (case kf_take_field => k_is)
    (case af_take_fill => k_is)
    (case lf_take_fill => k_is)
    (case cf_take_fill => k_is)
    (case kf_take_fill => k_is)
    (case af_take_manner => k_is)
    (case lf_take_manner => k_is)
    (case cf_take_manner => k_is)
    (case kf_take_manner => k_is)
    (case af_take_ordinary => k_is)
    (case lf_take_ordinary => k_is)
    (case cf_take_ordinary => k_is)
    (case kf_take_ordinary => k_is)
    (case af_take_group => k_is)
    (case lf_take_group => k_is)
    (case cf_take_group => k_is)
    (case kf_take_group => k_is)
    (case af_take_one => k_is)
    (case lf_take_one => k_is)
    (case cf_take_one => k_is)
    (case kf_take_one => k_is)
    (case af_take_layer => k_is)
    (case lf_take_layer => k_is)
    (case cf_take_layer => k_is)
    (case kf_take_layer => k_is)
    (case af_read_blazon => k_is)
    (case lf_read_blazon => k_is)
    (case cf_read_blazon => k_is)
    (case kf_read_blazon => k_is)
    (case af_field_bytes => k_is)
    (case lf_field_bytes => k_is)
    (case cf_field_bytes => k_is)
    (case kf_field_bytes => k_is)
    (case af_fill_bytes => k_is)
    (case lf_fill_bytes => k_is)
    (case cf_fill_bytes => k_is)
    (case kf_fill_bytes => k_is)
    (case af_layer_bytes => k_is)
    (case lf_layer_bytes => k_is)
    (case cf_layer_bytes => k_is)
    (case kf_layer_bytes => k_is)
    (case af_arms_bytes => k_is)
    (case lf_arms_bytes => k_is)
    (case cf_arms_bytes => k_is)
    (case kf_arms_bytes => k_is)
    (case af_with_length => k_is)
    (case lf_with_length => k_is)
    (case cf_with_length => k_is)
    (case kf_with_length => k_is)
    (case af_read => k_is)
    (case lf_read => k_is)
    (case cf_read => k_is)
    (case kf_read => k_is)
    (case ac_PLAIN => k_is)
    (case ac_PARTED => k_is)
    (case ac_VARIED => k_is)
    (case ac_CHEQUY => k_is)
    (case ac_LOZENGY => k_is)
    (case ac_ORDINARY_LAYER => k_is)
    (case ac_GROUP_LAYER => k_is)
    (case ac_FIELD_FILL => k_is)
    (case ac_COUNTERCHANGED_FILL => k_is)
    (case ac_MOST_DIGITS => k_is)
    (case ac_BYTE_THAT_CANT_BE => k_is)
    (case ac_NO_NUMBER => k_is)
    (case ac_ELSE_WANTED => k_is)
    (case ac_SAME_TINCTURE => k_is)
    (case ac_PIECES_OUT_OF_BOUNDS => k_is)
    (case ac_LEAST_PIECES => k_is)
    (case ac_MOST_PIECES => k_is)
    (case ac_COUNTERCHANGED_OVER_PLAIN => k_is)
    (case ac_PLAIN_SIZE => k_is)
    (case ac_WRONG_ARTICLE => k_is)
    (case ac_MOST_LAYERS => k_is)
    (case ac_NINTH_LAYER => k_is)
    (case aaT => k_is)
    (case laT => k_is)
    (case aaL => k_is)
    (case laL => k_is)
    (case aaP => k_is)
    (case laP => k_is)
    (case aaW => k_is)
    (case laW => k_is)
    (case aaV => k_is)
    (case laV => k_is)
    (case aaO => k_is)
    (case laO => k_is)
    (case aaC => k_is)
    (case laC => k_is)
    (case aaN => k_is)
    (case laN => k_is)
    (case aaZ => k_is)
    (case laZ => k_is)
    (case aaM => k_is)
    (case laM => k_is)
    (case aaBL => k_is)
    (case laBL => k_is)
    (case z_ValueError => k_is)
    (case z_len => k_is)
    (case z_ord => k_is)
    (case z_int => k_is)
    (case z_list => k_is)
    (case z_isinstance => k_is)
    (case asLE => k_is)
    (case asDI => k_is)
    (case asCO => k_is)
    (case asSI => k_is)
    (case asCC => k_is)
    (case neK => decide)
    (case neF => decide)
    (case neO => decide)
    (case neG => decide)
    (case neGO => decide)
    (case haO => k_is)
    (case haG => k_is)
    (case hnO => k_is)
    (case htkO => k_is)
    (case hmO => k_is)
    (case hmG => k_is)
    (case icO => k_is)
    (case tyO => k_is)
    (case subGO => k_is)
  case S =>
    intro K H xs a hO hwi hask hx
    cases hx with
    | cons h1 h2 =>
      cases h2
      cases h1 with
      | lst hs ha =>
        have e := L2.ints_dw a.1 _ ha
        subst e
        have q : ((Codec.inLen 0 4096 a.1 && a.1.all (Codec.inInt 0 255)) && true) = true := hwi
        rw [Bool.and_eq_true, Bool.and_eq_true] at q
        have hl : a.1.length ≤ 4096 := (Codec.inNat_iff.mp q.1.1).2
        refine ⟨_, a.1, rfl, fun x hx => Codec.inInt_iff.mp (List.all_eq_true.mp q.1.2 x hx), hl, Re7.SqF.of hs (fun ys z => ?_), fun H' p hp => .lst (L2.SqL.of hp) (L2.dw_ints _)⟩
        rcases hO _ with y | ⟨ob, u, y⟩ <;> (rw [y] at z; cases z)
  case C =>
    rintro w H s e s' ⟨x, C, d, q, H', rfl, nx, os, bare, un, hok, hx, hq, hh, hE⟩
    exact hE
