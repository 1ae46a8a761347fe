import PyProof.Rows.All
import Wide.All
import OpenK.AllK
import Wide.FinOn
import PyProof.EqAt
import PyProof.EqKinds
import PyProof.TupleCall
import KE.BitLaws
import Open.SpecLaws
import KE.OsHead
import KE.OsGo
import PyProof.SetScanFacts
import PyProof.Rows.SetFrom
import PyProof.Rows.SortPure
import PyProof.CollectWalk
import PyProof.SetRoads
import PyProof.DictWalks
import PyProof.ListRange
import PyProof.TupleKey
import PyProof.DictStraight
import PyProof.DictRoadsH
import KE.KDictLaws
import PyProof.AutoSeq1
import PyProof.Rows.RuleM_int
import KE.KSortKeySt
import PySem.Challenge.RW_whydecided_s01_answers
set_option bootstrap.genMatcherCode false
set_option compiler.extract_closed false
set_option genSizeOfSpec false
section
-- CHANGE: your row's module here, as the last of these rows
set_option Elab.async false
set_option linter.all false
set_option maxRecDepth 100000
namespace L2
open PySem PySem.Spec PyProof.Rows
noncomputable abbrev Key := Sum Int Str
noncomputable def keyIs : Key → Value → Bool
  | .inl k, v => Value.isInt k v
  | .inr x, v => Value.isStrOf x v
noncomputable def keyH (w : World) : Key → Int
  | .inl k => hashInt k
  | .inr x => hashStr w x
theorem keyIs_shape : ∀ {k : Key} {v : Value}, keyIs k v = true → (∃ i t, k = Sum.inl i ∧ v = Value.int i t) ∨ (∃ x t, k = Sum.inr x ∧ v = Value.str x t)
  | .inl i, v, h => by
    obtain ⟨t, e⟩ := Value.isInt_shape (k := i) (v := v) h
    exact .inl ⟨i, t, rfl, e⟩
  | .inr x, v, h => by
    obtain ⟨t, e⟩ := Value.isStrOf_shape (x := x) (v := v) h
    exact .inr ⟨x, t, rfl, e⟩
theorem keyIs_int (i : Int) (t : Tok) : keyIs (.inl i) (.int i t) = true := by simp [keyIs, Value.isInt]
theorem keyIs_str (x : Str) (t : Tok) : keyIs (.inr x) (.str x t) = true := by simp [keyIs, Value.isStrOf]
theorem key_ll (a b : Int) : decide ((Sum.inl a : Key) = Sum.inl b) = (a == b) := by
  by_cases e : a = b
  · subst e; simp
  · have h : ¬ (Sum.inl a : Key) = Sum.inl b := fun q => e (Sum.inl.inj q)
    rw [decide_eq_false h]
    exact (beq_eq_false_iff_ne.mpr e).symm
theorem key_rr (a b : Str) : decide ((Sum.inr a : Key) = Sum.inr b) = decide (a = b) := by
  by_cases e : a = b
  · subst e; simp
  · have h : ¬ (Sum.inr a : Key) = Sum.inr b := fun q => e (Sum.inr.inj q)
    rw [decide_eq_false h, decide_eq_false e]
theorem key_lr (a : Int) (b : Str) : decide ((Sum.inl a : Key) = Sum.inr b) = false := decide_eq_false (fun q => nomatch q)
theorem key_rl (a : Str) (b : Int) : decide ((Sum.inr a : Key) = Sum.inl b) = false := decide_eq_false (fun q => nomatch q)
noncomputable def mixKind (prog : Program) (w : World) : PySem.KeyKind prog w Key where
  is := keyIs
  hash := keyH w
  inj := fun v a b ha hb => by
    rcases keyIs_shape ha with ⟨i, t, rfl, rfl⟩ | ⟨x, t, rfl, rfl⟩
    · rcases keyIs_shape hb with ⟨j, u, rfl, e⟩ | ⟨y, u, rfl, e⟩
      · injection e with e1 _; rw [e1]
      · exact nomatch e
    · rcases keyIs_shape hb with ⟨j, u, rfl, e⟩ | ⟨y, u, rfl, e⟩
      · exact nomatch e
      · injection e with e1 _; rw [e1]
  byValue := fun k v h => by
    rcases keyIs_shape h with ⟨i, t, rfl, rfl⟩ | ⟨x, t, rfl, rfl⟩ <;> rfl
  pyHash := fun hv h => by
    rcases keyIs_shape hv with ⟨i, t, rfl, rfl⟩ | ⟨x, t, rfl, rfl⟩
    · exact wpAny_pyHash_int h
    · exact wpAny_pyHash_str h
  eqBool := fun hu hv h => by
    rcases keyIs_shape hu with ⟨i, t, rfl, rfl⟩ | ⟨x, t, rfl, rfl⟩
    · rcases keyIs_shape hv with ⟨j, u, rfl, rfl⟩ | ⟨y, u, rfl, rfl⟩
      · rw [key_ll] at h; exact wpAny_eqBool_int h
      · rw [key_lr] at h; exact SeqAt.EqAt.int_str i t y u _ _ _ _ h
    · rcases keyIs_shape hv with ⟨j, u, rfl, rfl⟩ | ⟨y, u, rfl, rfl⟩
      · rw [key_rl] at h; exact SeqAt.EqAt.str_int x t j u _ _ _ _ h
      · rw [key_rr] at h; exact wpAny_eqBool_str h
  «strs» := fun k x t v h => by
    rcases keyIs_shape h with ⟨i, u, rfl, e⟩ | ⟨y, u, rfl, e⟩
    · exact nomatch e
    · injection e with e1 _
      subst e1
      cases v <;> rfl
theorem mixKind_int (prog : Program) (w : World) (i : Int) (t : Tok) : (mixKind prog w).is (.inl i) (.int i t) = true := keyIs_int i t
theorem mixKind_str (prog : Program) (w : World) (x : Str) (t : Tok) : (mixKind prog w).is (.inr x) (.str x t) = true := keyIs_str x t
end L2
namespace L2
open PySem PySem.Spec PyProof.Rows
inductive V where
  | non | bl (b : Bool) | int (i : Int) | str (x : Str) | byt (b : Array UInt8) | flt (b : UInt64) | ref (a : Addr) | ty (n : String)
  deriving DecidableEq
noncomputable def RelV : V → Value → Prop
  | .non, u => u = Value.none
  | .bl b, u => u = Value.bool b
  | .int i, u => ∃ t, u = Value.int i t
  | .str x, u => ∃ t, u = Value.str x t
  | .byt b, u => ∃ t, u = Value.bytes b t
  | .flt b, u => ∃ t, u = Value.float b t
  | .ref a, u => u = Value.ref a
  | .ty n, u => u = Value.type n
noncomputable abbrev Vals : List V → List Value → Prop := Paired RelV
theorem Vals.length {xs : List V} {us : List Value} (r : Vals xs us) : xs.length = us.length := Paired.length r
theorem Vals.get : ∀ {xs : List V} {us : List Value} {i : Nat} {x : V}, Vals xs us → xs[i]? = some x → ∃ u, us[i]? = some u ∧ RelV x u
  | _, _, _, _, .nil, e => by simp at e
  | _, _, 0, _, .cons r _, e => by simp at e; subst e; exact ⟨_, rfl, r⟩
  | _, _, i + 1, x, .cons _ t, e => by
    obtain ⟨u, h1, h2⟩ := Vals.get (i := i) (x := x) t (by simpa using e)
    exact ⟨u, by simpa using h1, h2⟩
theorem Vals.set {x : V} {u : Value} (r : RelV x u) : ∀ {xs : List V} {us : List Value} (i : Nat), Vals xs us → Vals (xs.set i x) (us.set i u)
  | _, _, _, .nil => .nil
  | _, _, 0, .cons _ t => .cons r t
  | _, _, i + 1, .cons q t => .cons q (Vals.set r i t)
theorem Vals.append {xs ys : List V} {us ws : List Value} (h : Vals xs us) (s : Vals ys ws) : Vals (xs ++ ys) (us ++ ws) := by
  induction h with
  | nil => exact s
  | cons r t ih => exact .cons r ih
theorem Vals.take : ∀ {xs : List V} {us : List Value} (n : Nat), Vals xs us → Vals (xs.take n) (us.take n)
  | _, _, 0, _ => .nil
  | _, _, _ + 1, .nil => .nil
  | _, _, n + 1, .cons r t => .cons r (Vals.take n t)
theorem Vals.drop : ∀ {xs : List V} {us : List Value} (n : Nat), Vals xs us → Vals (xs.drop n) (us.drop n)
  | _, _, 0, r => r
  | _, _, _ + 1, .nil => .nil
  | _, _, n + 1, .cons _ t => Vals.drop n t
noncomputable def RelO : Option V → Option Value → Prop
  | some v, some u => RelV v u
  | none, none => True
  | _, _ => False
noncomputable def KV {κ : Type} : List (κ × V) → List (κ × Value) → Prop := Paired fun (p : κ × V) (q : κ × Value) => p.1 = q.1 ∧ RelV p.2 q.2
noncomputable def kV : Key → V
  | .inl i => .int i
  | .inr x => .str x
inductive HO where
  | lst (xs : List V)
  | tup (xs : List V)
  | dK (kvs : List (Key × V)) | dT (kvs : List (List Key × V))
  | set (S : Int → Bool) (n : Nat)
  | ins (C dx : Addr) (fs : List (Str × V))
  | own (x : Addr)
  | xd (fs : List (Str × V))
  | met (f x : Addr)
  | rng (lo hi : Int)
  | frz (o : Obj) (u : HO)
  | tbl (ps : Array Value)
  | ext (φ : Heap → Prop)
noncomputable abbrev Hp := Addr → Option HO
noncomputable def upd (H : Hp) (a : Addr) (o : HO) : Hp := fun b => if b = a then some o else H b
theorem upd_same {H : Hp} {a : Addr} {o : HO} : upd H a o a = some o := by unfold upd; rw [if_pos rfl]
theorem upd_ne {H : Hp} {a b : Addr} {o : HO} (h : b ≠ a) : upd H a o b = H b := by unfold upd; rw [if_neg h]
theorem upd_upd {H : Hp} {a : Addr} {o u : HO} : upd (upd H a o) a u = upd H a u := by
  funext b; unfold upd; split <;> rfl
theorem ne_of {H : Hp} {a b : Addr} {o u : HO} (h : H a = some o) (h' : H b = some u) (d : o ≠ u) : a ≠ b := by
  intro e; subst e; rw [h] at h'; exact d (Option.some.inj h')
theorem ne_of_none {H : Hp} {a b : Addr} {o : HO} (h : H a = some o) (h' : H b = none) : a ≠ b := by
  intro e; subst e; rw [h] at h'; cases h'
section
variable (P : Program) (w : World)
noncomputable def ObjOk (H : Hp) (h : Heap) (a : Addr) : HO → Prop
  | .lst xs => xs.length ≤ sizeLine ∧ ∃ (its : List Value) (n : Nat), Vals xs its ∧ h.get? a = some { cls := .type "list", data := .seq its.toArray n }
  | .tup xs => xs.length ≤ sizeLine ∧ ∃ its : List Value, Vals xs its ∧ IsTup h a its.toArray
  | .dK kvs => kvs.length ≤ sizeLine ∧ (a == sysModules) = false ∧ ∃ vs, KV kvs vs ∧ h.DictOf (mixKind P w) a vs
  | .dT kvs => kvs.length ≤ sizeLine ∧ (a == sysModules) = false ∧ ∃ xs : List (List Key × Addr × Value),
      Paired (fun (p : List Key × V) (q : List Key × Addr × Value) => p.1 = q.1 ∧ H q.2.1 = some (.tup (p.1.map kV)) ∧ RelV p.2 q.2.2) kvs xs ∧
      ∃ o es ep, h.get? a = some o ∧ o.ExactDict ∧ o.data = .dict es ep ∧ es.toList = xs.map (entryOfKey (tupleKind (mixKind P w))) ∧ (xs.map (·.1)).Nodup
  | .set S n => h.SetOf (intKind P w) a S n
  | .ins C dx fs => H dx = some (.own a) ∧ fs.length ≤ 1000 ∧ dx ≠ a ∧ h.get? a = some (PySem.W.instObj C dx) ∧
      ∃ mA, h.Ns1 dx mA ∧ (∀ f, RelO (fs.lookup f) (mA f)) ∧ PySem.Within mA (fs.map (·.1))
  | .own _ => ∃ o, h.get? a = some o
  | .xd fs => ∃ mA, h.Ns1 a mA ∧ ∀ f, RelO (fs.lookup f) (mA f)
  | .rng lo hi => ∃ t u v, h.get? a = some { cls := .type "range", data := .fields #[.int lo t, .int hi u, .int 1 v] }
  | .frz o u => h.get? a = some o ∧ ObjOk H h a u
  | .tbl ps => h.get? a = some { cls := .none, data := .fields ps }
  | .met f x => h.get? a = some (PySem.W.methodObj (.ref f) (.ref x))
  | .ext φ => φ h ∧ (∃ o, h.get? a = some o) ∧ ∀ h1 h2 : Heap, φ h1 → (∀ o, h1.get? a = some o → h2.get? a = some o) → φ h2
noncomputable def HOk (H : Hp) (h : Heap) : Prop := ∀ a o, H a = some o → ObjOk P w H h a o
end
section
variable {P : Program} {w : World} {H H' : Hp} {h h' : Heap} {a : Addr} {o : HO}
theorem ObjOk.lt (x : ObjOk P w H h a o) : a < h.objs.size := by
  cases o with
  | lst xs => obtain ⟨_, _, _, _, e⟩ := x; exact Heap.lt_size e
  | tup xs => obtain ⟨_, _, _, p⟩ := x; exact p.lt
  | dK kvs => obtain ⟨_, _, _, _, o, _, _, e, _⟩ := x; exact Heap.lt_size e
  | dT kvs => obtain ⟨_, _, _, _, o, _, _, e, _⟩ := x; exact Heap.lt_size e
  | set S n => obtain ⟨o, _, _, _, e, _⟩ := x; exact Heap.lt_size e
  | ins C dx fs => obtain ⟨_, _, _, e, _⟩ := x; exact Heap.lt_size e
  | own y => obtain ⟨_, e⟩ := x; exact Heap.lt_size e
  | xd fs => obtain ⟨_, ⟨_, _, _, e, _⟩, _⟩ := x; exact Heap.lt_size e
  | rng lo hi => obtain ⟨_, _, _, e⟩ := x; exact Heap.lt_size e
  | frz ob u => obtain ⟨e, _⟩ := x; exact Heap.lt_size e
  | tbl ps => exact Heap.lt_size (show h.get? a = some _ from x)
  | met f y => exact Heap.lt_size (show h.get? a = some _ from x)
  | ext φ => obtain ⟨_, ⟨_, e⟩, _⟩ := x; exact Heap.lt_size e
theorem Paired.mapP {α β : Type} {F G : α → β → Prop} {l₁ : List α} {l₂ : List β} (h : Paired F l₁ l₂) (f : ∀ a b, F a b → G a b) : Paired G l₁ l₂ := by
  induction h with
  | nil => exact .nil
  | cons r t ih => exact .cons (f _ _ r) ih
theorem ObjOk.stay (x : ObjOk P w H h a o) (k : ∀ b u, (b = a ∨ H b = some (.own a)) → h.get? b = some u → h'.get? b = some u)
    (ho : ∀ b, H b = some (.own a) → H' b = some (.own a)) (ht : ∀ b xs, H b = some (.tup xs) → H' b = some (.tup xs)) : ObjOk P w H' h' a o := by
  induction o with
  | lst xs => obtain ⟨z, its, n, r, e⟩ := x; exact ⟨z, its, n, r, k _ _ (.inl rfl) e⟩
  | tup xs => obtain ⟨z, its, r, ob, e, c⟩ := x; exact ⟨z, its, r, ob, k _ _ (.inl rfl) e, c⟩
  | dK kvs => obtain ⟨z, y, vs, r, ob, es, ep, e, c⟩ := x; exact ⟨z, y, vs, r, ob, es, ep, k _ _ (.inl rfl) e, c⟩
  | dT kvs =>
    obtain ⟨z, y, xs, r, ob, es, ep, e, c⟩ := x
    exact ⟨z, y, xs, Paired.mapP r fun p q z => ⟨z.1, ht _ _ z.2.1, z.2.2⟩, ob, es, ep, k _ _ (.inl rfl) e, c⟩
  | set S n => obtain ⟨ob, es, ep, t, e, c⟩ := x; exact ⟨ob, es, ep, t, k _ _ (.inl rfl) e, c⟩
  | ins C dx fs =>
    obtain ⟨d, z, ne, e, mA, ⟨od, es, ep, e2, c⟩, r⟩ := x
    exact ⟨ho _ d, z, ne, k _ _ (.inl rfl) e, mA, ⟨od, es, ep, k _ _ (.inr d) e2, c⟩, r⟩
  | own y => obtain ⟨ob, e⟩ := x; exact ⟨ob, k _ _ (.inl rfl) e⟩
  | xd fs => obtain ⟨mA, ⟨od, es, ep, e, c⟩, r⟩ := x; exact ⟨mA, ⟨od, es, ep, k _ _ (.inl rfl) e, c⟩, r⟩
  | rng lo hi => obtain ⟨t, u, v, e⟩ := x; exact ⟨t, u, v, k _ _ (.inl rfl) e⟩
  | frz ob u ih => obtain ⟨e, q⟩ := x; exact ⟨k _ _ (.inl rfl) e, ih q⟩
  | tbl ps =>
    have e : h.get? a = some { cls := .none, data := .fields ps } := x
    show h'.get? a = some { cls := .none, data := .fields ps }
    exact k a _ (.inl rfl) e
  | met f y =>
    have e : h.get? a = some (PySem.W.methodObj (.ref f) (.ref y)) := x
    show h'.get? a = some (PySem.W.methodObj (.ref f) (.ref y))
    exact k a _ (.inl rfl) e
  | ext φ => obtain ⟨p, ⟨o, e⟩, st⟩ := x; exact ⟨st _ _ p fun o q => k _ _ (.inl rfl) q, ⟨o, k _ _ (.inl rfl) e⟩, st⟩
theorem HOk.lt (x : HOk P w H h) (e : H a = some o) : a < h.objs.size := (x a o e).lt
theorem HOk.fresh (x : HOk P w H h) (e : h.objs.size ≤ a) : H a = none := by
  cases q : H a with
  | none => rfl
  | some u => exact absurd (Nat.lt_of_lt_of_le (x.lt q) e) (Nat.lt_irrefl _)
theorem HOk.kept (x : HOk P w H h) (k : ∀ b u, h.get? b = some u → h'.get? b = some u) : HOk P w H h' := fun a o e =>
  (x a o e).stay (fun b u _ q => k b u q) (fun _ q => q) fun _ _ q => q
theorem HOk.laid (x : HOk P w H h) (k : ∀ b u, h.get? b = some u → h'.get? b = some u) (hp : h.objs.size ≤ a) (new : ObjOk P w (upd H a o) h' a o) : HOk P w (upd H a o) h' := fun b u e => by
  have hn := x.fresh hp
  by_cases hb : b = a
  · subst hb; rw [upd_same] at e; cases e; exact new
  · rw [upd_ne hb] at e
    exact (x b u e).stay (fun c v _ q => k c v q) (fun c q => by rw [upd_ne (ne_of_none q hn)]; exact q) fun c xs q => by rw [upd_ne (ne_of_none q hn)]; exact q
end
noncomputable def Rd (H : Hp) (a : Addr) (u : HO) : Prop := H a = some u ∨ ∃ o, H a = some (.frz o u)
theorem Rd.ok {P : Program} {w : World} {H : Hp} {h : Heap} {a : Addr} {u : HO} (r : Rd H a u) (x : HOk P w H h) : ObjOk P w H h a u := by
  rcases r with r | ⟨o, r⟩
  · exact x a u r
  · obtain ⟨_, q⟩ := x a _ r
    exact q
noncomputable def Mut : Option HO → Prop
  | some (.lst _) => True
  | some (.dK _) => True
  | some (.dT _) => True
  | some (.set _ _) => True
  | some (.ins _ _ _) => True
  | some (.ext _) => True
  | _ => False
section
variable {P : Program} {w : World} {H : Hp} {h h' : Heap} {x e : Addr} {o' : HO}
theorem HOk.write (ok : HOk P w H h) (mu : Mut (H x)) (he : e = x ∨ H e = some (.own x)) (k : ∀ b u, b ≠ e → h.get? b = some u → h'.get? b = some u) (heo : ∃ u, h'.get? e = some u)
    (new : ObjOk P w (upd H x o') h' x o') : HOk P w (upd H x o') h' := fun b u q => by
  have nown : ∀ c y, H c = some (.own y) → c ≠ x := fun c y r z => by subst z; rw [r] at mu; exact mu
  have ntup : ∀ c xs, H c = some (.tup xs) → c ≠ x := fun c xs r z => by subst z; rw [r] at mu; exact mu
  by_cases hb : b = x
  · subst hb; rw [upd_same] at q; cases q; exact new
  · rw [upd_ne hb] at q
    by_cases hbe : b = e
    · have q' : H b = some (.own x) := by
        rcases he with z | z
        · exact absurd (hbe.trans z) hb
        · rw [hbe]; exact z
      rw [q] at q'; cases q'
      obtain ⟨v, hv⟩ := heo
      exact ⟨v, by rw [hbe]; exact hv⟩
    · refine (ok b u q).stay (fun c v hc r => k c v ?_ r) (fun c r => by rw [upd_ne (nown c b r)]; exact r) fun c xs r => by rw [upd_ne (ntup c xs r)]; exact r
      rcases hc with rfl | hc
      · exact hbe
      · rintro rfl
        rcases he with z | z
        · exact nown c b hc z
        · rw [hc] at z; cases z; exact hb rfl
end
structure Un (fs ex : List Addr) (H H' : Hp) (h h' : Heap) : Prop where
  keep : ∀ b o, h.get? b = some o → H b = none → b ∉ fs → b ∉ ex → h'.get? b = some o
  slot : ∀ b o, h.get? b = some o → H b = none → b ∈ fs → b ∉ ex → ∃ sl, h'.get? b = some { o with slots := sl }
  free : ∀ b o, h.get? b = some o → H b = none → b ∉ ex → H' b = none
  there : ∀ b o, h.get? b = some o → b ∉ ex → ∃ o', h'.get? b = some o'
  tups : ∀ b xs, H b = some (.tup xs) → H' b = some (.tup xs)
  frzs : ∀ b o u, H b = some (.frz o u) → H' b = some (.frz o u)
  tbls : ∀ b ps, H b = some (.tbl ps) → ∃ more, H' b = some (.tbl (ps ++ more))
section
variable {fs fs' ex ex' : List Addr} {H H1 H2 : Hp} {h h1 h2 h' : Heap} {a x e : Addr} {o : HO}
theorem Un.any (u : Un fs ex H H1 h h1) {b : Addr} {ob : Obj} (q : h.get? b = some ob) (n : H b = none) (hx : b ∉ ex) : ∃ sl, h1.get? b = some { ob with slots := sl } := by
  by_cases hb : b ∈ fs
  · exact u.slot b ob q n hb hx
  · exact ⟨ob.slots, u.keep b ob q n hb hx⟩
theorem Un.kept (k : ∀ b u, h.get? b = some u → h'.get? b = some u) : Un fs ex H H h h' :=
  ⟨fun b ob q _ _ _ => k b ob q, fun b ob q _ _ _ => ⟨ob.slots, k b ob q⟩, fun _ _ _ n _ => n, fun b ob q _ => ⟨ob, k b ob q⟩, fun _ _ q => q, fun _ _ _ q => q, fun _ ps q => ⟨#[], by rw [q]; simp⟩⟩
theorem Un.refl : Un fs ex H H h h := Un.kept fun _ _ q => q
theorem Un.laid (k : ∀ b u, h.get? b = some u → h'.get? b = some u) (hp : h.objs.size ≤ a) (hn : H a = none) : Un fs ex H (upd H a o) h h' where
  keep := fun b u q _ _ _ => k b u q
  slot := fun b u q _ _ _ => ⟨u.slots, k b u q⟩
  free := fun b u q n _ => by rw [upd_ne (Nat.ne_of_lt (Nat.lt_of_lt_of_le (Heap.lt_size q) hp))]; exact n
  there := fun b u q _ => ⟨u, k b u q⟩
  tups := fun b xs q => by rw [upd_ne (ne_of_none q hn)]; exact q
  frzs := fun b u xs q => by rw [upd_ne (ne_of_none q hn)]; exact q
  tbls := fun b ps q => ⟨#[], by rw [upd_ne (ne_of_none q hn), q]; simp⟩
theorem Un.write (mu : Mut (H x)) (he : e = x ∨ H e = some (.own x)) (k : ∀ b u, b ≠ e → h.get? b = some u → h'.get? b = some u) (heo : ∃ u, h'.get? e = some u) : Un fs ex H (upd H x o) h h' := by
  have hx : ∀ b, H b = none → b ≠ x := fun b n z => by subst z; rw [n] at mu; exact mu
  have hb : ∀ b, H b = none → b ≠ e := fun b n z => by
    subst z
    rcases he with r | r
    · exact hx b n r
    · rw [n] at r; cases r
  have hm : ∀ b u, H b = some u → ¬ Mut (some u) → b ≠ x := fun b u q nm z => by subst z; rw [q] at mu; exact nm mu
  refine ⟨fun b u q n _ _ => k b u (hb b n) q, fun b u q n _ _ => ⟨u.slots, k b u (hb b n) q⟩, fun b u q n _ => by rw [upd_ne (hx b n)]; exact n, fun b u q _ => ?_,
    fun b xs q => by rw [upd_ne (hm b _ q fun z => z)]; exact q, fun b u xs q => by rw [upd_ne (hm b _ q fun z => z)]; exact q, fun b ps q => ⟨#[], by rw [upd_ne (hm b _ q fun z => z), q]; simp⟩⟩
  by_cases hbe : b = e
  · subst hbe; exact heo
  · exact ⟨u, k b u hbe q⟩
end
noncomputable def trk (h : Heap) (H : Hp) : List Addr := (List.range h.objs.size).filter fun a => (H a).isSome
noncomputable def hidT (h : Heap) (H : Hp) : Heap := PySem.W.hideAll h (trk h H)
theorem hidT_size (h : Heap) (H : Hp) : (hidT h H).objs.size = h.objs.size := PySem.W.hideAll_size _ _
theorem hidT_get {h : Heap} {H : Hp} {b : Addr} {o : Obj} (e : h.get? b = some o) (n : H b = none) : (hidT h H).get? b = some o :=
  PySem.W.hideAll_get _ e fun hm => by
    have q : (H b).isSome = true := (List.mem_filter.mp hm).2
    rw [n] at q; simp at q
theorem of_hidT {h : Heap} {H : Hp} {b : Addr} {o : Obj} (e : (hidT h H).get? b = some o) : h.get? b = some o ∧ H b = none := by
  have e' : h.get? b = some o := PySem.W.of_hideAll (trk h H) e
  refine ⟨e', ?_⟩
  cases q : H b with
  | none => rfl
  | some x =>
    have hm : b ∈ trk h H := List.mem_filter.mpr ⟨List.mem_range.mpr (Heap.lt_size e'), by simp [q]⟩
    have z : (hidT h H).get? b = none := PySem.W.hideAll_none (trk h H) hm
    rw [z] at e; cases e
end L2
namespace L2
open PySem PySem.Spec PyProof.Rows
structure Mod (K : PySem.W.Frag) (mg : Str → Option Value) (base : Heap) : Prop where
  kin : K.In base
  glob : base.Ns mainGlobals mg
  blt : ∃ mb, base.Ns builtinsNs mb ∧ ∀ x : Str, x ≠ "__name__" → mb x = bootBuiltins x
  nolimit : base.NoLimit
set_option genInjectivity false in
structure Cx where
  prog : Program
  w : World
  K : PySem.W.Frag
  mg : Str → Option Value
  base : Heap
  A : Around
  N : List Str
  s_0 : Shared
  H_0 : Hp
  env : Env
  outer : List Env
  stack : List Env
  ex : List Addr
  fn : Str → Bool
  calm : Bool
  pn : List (Addr × Obj)
  xe : Value → Shared → Prop
noncomputable def frs (l : List Env) : List Addr := l.filterMap (·.frame)
noncomputable abbrev Cx.fs (X : Cx) : List Addr := frs X.outer
noncomputable def Vis (sc : Scope) (x : Str) : Prop := sc.names.lookup x = some .local ∨ sc.names.lookup x = some .cell ∨ sc.names.lookup x = some .free
noncomputable def Loc (sc : Scope) (x : Str) : Prop := sc.names.lookup x = some .local ∨ sc.names.lookup x = some .cell
noncomputable def Look (env : Env) (h : Heap) (m : Str → Option Value) (x : Str) (u : Value) : Prop :=
  (env.kindOf x = some .local ∧ m x = some u) ∨ ((env.kindOf x = some .cell ∨ env.kindOf x = some .free) ∧ ∃ c, env.cells.lookup x = some c ∧ h.IsCell c (some u))
structure Cx.Ok (X : Cx) : Prop where
  mod : Mod X.K X.mg X.base
  kind : X.env.scope.kind = .function
  glob : X.env.globals = mainGlobals
  blt : X.env.builtins = builtinsNs
  above : X.s_0.heap.objs.size ≤ X.env.locals
  inj : ∀ x y c, X.env.cells.lookup x = some c → X.env.cells.lookup y = some c → x = y
  has : ∀ x, (X.env.kindOf x = some .cell ∨ X.env.kindOf x = some .free) → ∃ c, X.env.cells.lookup x = some c
  cab : ∀ x c, X.fn x = true → X.env.cells.lookup x = some c → X.s_0.heap.objs.size ≤ c
  hd : X.calm = true → X.A.handled = none
  frames : X.A.frames = some X.stack
  stk : X.stack = X.outer ∨ (X.stack = X.env :: X.outer ∧ X.env.frame = some X.env.locals)
  exf : ∀ b ∈ X.ex, b ≠ X.env.locals ∧ ∀ x c, X.env.cells.lookup x = some c → c ≠ b
  bs : ∀ b o, X.base.get? b = some o → X.s_0.heap.get? b = some o ∧ X.H_0 b = none
  bsz : X.base.objs.size ≤ X.s_0.heap.objs.size
  noex : ∀ b o, X.base.get? b = some o → b ∉ X.ex
  exfs : ∀ b ∈ X.ex, b ∉ X.fs
  funs : X.s_0.heap.FunFrames X.base X.outer
  frf : ∀ b ∈ X.fs, X.H_0 b = none
structure Inv (X : Cx) (pins : List (Addr × Obj)) (σ : List (Option V)) (H : Hp) (s : Shared) : Prop where
  ok : X.Ok
  os : s.os = X.s_0.os
  bare : AllBare s.gens
  base : Un X.fs X.ex X.H_0 H X.s_0.heap s.heap
  loc : ∃ m, s.heap.Ns X.env.locals m ∧ ∀ (i : Nat) (x : Str) (v : V), X.N[i]? = some x → σ[i]? = some (some v) → Vis X.env.scope x → ∃ u, RelV v u ∧ Look X.env s.heap m x u
  cell : ∀ x c, X.env.cells.lookup x = some c → ∃ v, s.heap.IsCell c v
  free : H X.env.locals = none
  freeC : ∀ x c, X.env.cells.lookup x = some c → H c = none
  pin : ∀ p ∈ X.pn ++ pins, s.heap.get? p.1 = some p.2 ∧ H p.1 = none ∧ p.1 ≠ X.env.locals ∧ p.1 ∉ X.fs ∧ ∀ v, p.2.data ≠ .cell v
  hok : HOk X.prog X.w H s.heap
  len : σ.length = X.N.length
section
variable {X : Cx} {pins : List (Addr × Obj)} {σ : List (Option V)} {H H' : Hp} {s : Shared} {h' : Heap}
theorem Cx.Ok.nofr (ok : X.Ok) {b : Addr} {o : Obj} (e : X.base.get? b = some o) : b ∉ X.fs := fun hb => by
  have := (ok.funs.mem hb).1
  rw [e] at this; cases this
theorem Inv.bs (I : Inv X pins σ H s) : ∀ b o, X.base.get? b = some o → s.heap.get? b = some o ∧ H b = none := fun b o e =>
  ⟨I.base.keep b o (I.ok.bs b o e).1 (I.ok.bs b o e).2 (I.ok.nofr e) (I.ok.noex b o e), I.base.free b o (I.ok.bs b o e).1 (I.ok.bs b o e).2 (I.ok.noex b o e)⟩
theorem Inv.bk (I : Inv X pins σ H s) : ∀ b o, X.base.get? b = some o → s.heap.get? b = some o := fun b o e => (I.bs b o e).1
theorem Inv.mod (I : Inv X pins σ H s) : Mod X.K X.mg X.base := I.ok.mod
theorem Inv.kIn (I : Inv X pins σ H s) : X.K.In s.heap := I.ok.mod.kin.keeps I.bk
theorem Inv.lt (I : Inv X pins σ H s) : X.env.locals < s.heap.objs.size := let ⟨_, hn, _⟩ := I.loc; hn.lt
theorem Inv.sz (I : Inv X pins σ H s) : X.s_0.heap.objs.size ≤ s.heap.objs.size := Nat.le_trans I.ok.above (Nat.le_of_lt I.lt)
theorem Inv.nofs (I : Inv X pins σ H s) {a : Addr} (h : s.heap.objs.size ≤ a) : a ∉ X.fs := fun hb => by
  obtain ⟨_, o, ho, _⟩ := I.ok.funs.mem hb
  exact absurd (Nat.lt_of_lt_of_le (Heap.lt_size ho) (Nat.le_trans I.sz h)) (Nat.lt_irrefl _)
theorem Inv.cne (I : Inv X pins σ H s) : ∀ x c, X.env.cells.lookup x = some c → c ≠ X.env.locals := fun x c e z => by
  obtain ⟨v, o, ho, hd⟩ := I.cell x c e
  obtain ⟨m, ⟨o', es, ep, ho', hd', _⟩, _⟩ := I.loc
  rw [z, ho'] at ho; cases ho; rw [hd'] at hd; cases hd
theorem Inv.funs (I : Inv X pins σ H s) : s.heap.FunFrames X.base X.outer := by
  have all : ∀ (l : List Env), (∀ b ∈ frs l, b ∈ X.fs) → X.s_0.heap.FunFrames X.base l → s.heap.FunFrames X.base l := by
    intro l
    induction l with
    | nil => intro _ _; trivial
    | cons env r ih =>
      intro hs hl
      obtain ⟨hk, ⟨L, o, hf, hn, ho, hd⟩, hr⟩ := hl
      have hL : L ∈ X.fs := hs L (by unfold frs; rw [List.filterMap_cons, hf]; exact List.mem_cons_self)
      obtain ⟨sl, e⟩ := I.base.slot L o ho (I.ok.frf L hL) hL fun z => I.ok.exfs L z hL
      exact ⟨hk, ⟨L, _, hf, hn, e, hd⟩, ih (fun b hb => hs b (by unfold frs; rw [List.filterMap_cons, hf]; exact List.mem_cons_of_mem _ hb)) hr⟩
  exact all X.outer (fun _ hb => hb) I.ok.funs
theorem Inv.stack (I : Inv X pins σ H s) : s.heap.FunFrames X.base X.stack := by
  rcases I.ok.stk with e | ⟨e, hf⟩
  · rw [e]; exact I.funs
  · rw [e]
    obtain ⟨m, hn, _⟩ := I.loc
    refine .cons (by rw [I.ok.kind]; decide) hf hn ?_ I.funs
    exact Heap.get?_none_of_le (Nat.le_trans I.ok.bsz I.ok.above)
theorem Inv.stkSub (I : Inv X pins σ H s) : ∀ b ∈ frs X.stack, b ∈ X.env.locals :: X.fs := fun b hb => by
  rcases I.ok.stk with e | ⟨e, hf⟩
  · rw [e] at hb; exact List.mem_cons_of_mem _ hb
  · rw [e] at hb
    unfold frs at hb
    rw [List.filterMap_cons, hf] at hb
    exact hb
theorem Inv.stkFree (I : Inv X pins σ H s) : ∀ b ∈ frs X.stack, H b = none := fun b hb => by
  rcases List.mem_cons.mp (I.stkSub b hb) with e | hb
  · rw [e]; exact I.free
  · obtain ⟨_, o, ho, _⟩ := I.ok.funs.mem hb
    exact I.base.free b o ho (I.ok.frf b hb) fun z => I.ok.exfs b z hb
theorem Inv.step {g' : Array GenState} {t' : Nat} {d' : Drawn} {ch : List Addr} (I : Inv X pins σ H s)
    (hch : ∀ b ∈ ch, (b ∈ X.ex ∨ X.s_0.heap.objs.size ≤ b) ∧ b ≠ X.env.locals ∧ (∀ x c, X.env.cells.lookup x = some c → c ≠ b) ∧ ∀ p ∈ X.pn ++ pins, p.1 ≠ b)
    (keep : ∀ b o, b ≠ X.env.locals → b ∉ X.fs → b ∉ ch → s.heap.get? b = some o → H b = none → h'.get? b = some o)
    (slot : ∀ b o, b ≠ X.env.locals → b ∈ X.fs → b ∉ ch → s.heap.get? b = some o → H b = none → ∃ sl, h'.get? b = some { o with slots := sl }) (free : ∀ b o, b ∉ ch → s.heap.get? b = some o → H b = none → H' b = none)
    (there : ∀ b o, b ∉ ch → s.heap.get? b = some o → ∃ o', h'.get? b = some o')
    (tups : ∀ b xs, H b = some (.tup xs) → H' b = some (.tup xs)) (frzs : ∀ b o u, H b = some (.frz o u) → H' b = some (.frz o u)) (tbls : ∀ b ps, H b = some (.tbl ps) → ∃ more, H' b = some (.tbl (ps ++ more)))
    (ns : ∀ m, s.heap.Ns X.env.locals m → h'.Ns X.env.locals m) (hok : HOk X.prog X.w H' h') (hg : AllBare g') :
    Inv X pins σ H' { s with heap := h', gens := g', drawn := d', toks := t' } := by
  have neL : ∀ b o, X.s_0.heap.get? b = some o → b ≠ X.env.locals := fun b o e => Nat.ne_of_lt (Nat.lt_of_lt_of_le (Heap.lt_size e) I.ok.above)
  have neC : ∀ b o, X.s_0.heap.get? b = some o → b ∉ X.ex → b ∉ ch := fun b o e hx hb => by
    rcases (hch b hb).1 with z | z
    · exact hx z
    · exact absurd (Nat.lt_of_lt_of_le (Heap.lt_size e) z) (Nat.lt_irrefl _)
  have cellK : ∀ x c, X.env.cells.lookup x = some c → ∀ v, s.heap.IsCell c v → h'.IsCell c v := fun x c e v ⟨o, ho, hd⟩ => by
    have nch : c ∉ ch := fun z => (hch c z).2.2.1 x c e rfl
    by_cases hc : c ∈ X.fs
    · obtain ⟨sl, q⟩ := slot c o (I.cne x c e) hc nch ho (I.freeC x c e)
      exact ⟨_, q, hd⟩
    · exact ⟨o, keep c o (I.cne x c e) hc nch ho (I.freeC x c e), hd⟩
  refine ⟨I.ok, I.os, hg, ⟨fun b o e n hb hx => ?_, fun b o e n hb hx => ?_, fun b o e n hx => ?_, fun b o e hx => ?_, fun b xs e => tups b xs (I.base.tups b xs e), fun b o xs e => frzs b o xs (I.base.frzs b o xs e), fun b ps e => ?_⟩, ?_, fun x c e => ?_, ?_, fun x c e => ?_, fun p hp => ?_, hok, I.len⟩
  · exact keep b o (neL b o e) hb (neC b o e hx) (I.base.keep b o e n hb hx) (I.base.free b o e n hx)
  · obtain ⟨sl, e1⟩ := I.base.slot b o e n hb hx
    obtain ⟨sl', e2⟩ := slot b _ (neL b o e) hb (neC b o e hx) e1 (I.base.free b o e n hx)
    exact ⟨sl', e2⟩
  · obtain ⟨o', e1⟩ := I.base.there b o e hx
    exact free b o' (neC b o e hx) e1 (I.base.free b o e n hx)
  · obtain ⟨o', e1⟩ := I.base.there b o e hx
    exact there b o' (neC b o e hx) e1
  · obtain ⟨m1, e1⟩ := I.base.tbls b ps e
    obtain ⟨m2, e2⟩ := tbls b _ e1
    exact ⟨m1 ++ m2, by rw [e2, Array.append_assoc]⟩
  · obtain ⟨m, hn, hl⟩ := I.loc
    refine ⟨m, ns m hn, fun i x v e1 e2 e3 => ?_⟩
    obtain ⟨u, r, l⟩ := hl i x v e1 e2 e3
    refine ⟨u, r, ?_⟩
    rcases l with l | ⟨k, c, e, z⟩
    · exact .inl l
    · exact .inr ⟨k, c, e, cellK x c e _ z⟩
  · obtain ⟨v, z⟩ := I.cell x c e
    exact ⟨v, cellK x c e v z⟩
  · obtain ⟨m, ⟨o, _, _, ho, _⟩, _⟩ := I.loc
    exact free _ o (fun z => (hch _ z).2.1 rfl) ho I.free
  · obtain ⟨v, o, ho, hd⟩ := I.cell x c e
    exact free c o (fun z => (hch c z).2.2.1 x c e rfl) ho (I.freeC x c e)
  · obtain ⟨e, n, ne, nf, d⟩ := I.pin p hp
    have nch : p.1 ∉ ch := fun z => (hch p.1 z).2.2.2 p hp rfl
    exact ⟨keep p.1 p.2 ne nf nch e n, free p.1 p.2 nch e n, ne, nf, d⟩
theorem Inv.un {t' : Nat} (I : Inv X pins σ H s) (u : Un X.fs [] H H' s.heap h') (hok : HOk X.prog X.w H' h') : Inv X pins σ H' { s with heap := h', toks := t' } := by
  obtain ⟨m, ⟨o, es, ep, ho, r⟩, _⟩ := id I.loc
  obtain ⟨sl, hL⟩ := u.any ho I.free (by simp)
  exact I.step (g' := s.gens) (d' := s.drawn) (ch := []) (fun _ z => nomatch z) (fun b o _ hb _ e n => u.keep b o e n hb (by simp)) (fun b o _ hb _ e n => u.slot b o e n hb (by simp)) (fun b o _ e n => u.free b o e n (by simp)) (fun b o _ e => u.there b o e (by simp)) u.tups u.frzs u.tbls (fun m' hm => by
    obtain ⟨o', es', ep', ho', r'⟩ := hm
    rw [ho] at ho'; cases ho'
    exact ⟨_, es', ep', hL, r'⟩) hok I.bare
theorem Inv.call {g' : Array GenState} {t' : Nat} {d' : Drawn} {ch : List Addr} (I : Inv X pins σ H s) (u : Un (frs X.stack) ch H H' s.heap h') (hok : HOk X.prog X.w H' h') (hg : AllBare g')
    (hch : ∀ b ∈ ch, (b ∈ X.ex ∨ X.s_0.heap.objs.size ≤ b) ∧ b ≠ X.env.locals ∧ (∀ x c, X.env.cells.lookup x = some c → c ≠ b) ∧ ∀ p ∈ X.pn ++ pins, p.1 ≠ b) :
    Inv X pins σ H' { s with heap := h', gens := g', drawn := d', toks := t' } := by
  obtain ⟨m, ⟨o, es, ep, ho, r⟩, _⟩ := id I.loc
  obtain ⟨sl, hL⟩ := u.any ho I.free fun z => (hch _ z).2.1 rfl
  exact I.step (ch := ch) hch (fun b o hL hb hc e n => u.keep b o e n (fun z => (List.mem_cons.mp (I.stkSub b z)).elim hL hb) hc) (fun b o _ _ hc e n => u.any e n hc) (fun b o hc e n => u.free b o e n hc) (fun b o hc e => u.there b o e hc) u.tups u.frzs u.tbls (fun m' hm => by
    obtain ⟨o', es', ep', ho', r'⟩ := hm
    rw [ho] at ho'; cases ho'
    exact ⟨_, es', ep', hL, r'⟩) hok hg
theorem Inv.turned {t' : Nat} {it : Addr} (I : Inv X pins σ H s) (k : ∀ b o, b ≠ it → s.heap.get? b = some o → h'.get? b = some o) (hn : H it = none) (hL : it ≠ X.env.locals)
    (h1 : it ∈ X.ex ∨ X.s_0.heap.objs.size ≤ it) (h2 : ∀ x c, X.env.cells.lookup x = some c → c ≠ it) (h3 : ∀ p ∈ X.pn ++ pins, p.1 ≠ it) : Inv X pins σ H { s with heap := h', toks := t' } := by
  have nit : ∀ b u, H b = some u → b ≠ it := fun b u e z => by rw [z, hn] at e; cases e
  refine I.step (g' := s.gens) (d' := s.drawn) (ch := [it]) (fun b hb => ?_) (fun b o _ _ hc e _ => k b o (fun z => hc (by simp [z])) e) (fun b o _ _ hc e _ => ⟨o.slots, k b o (fun z => hc (by simp [z])) e⟩) (fun _ _ _ _ n => n)
    (fun b o hc e => ⟨o, k b o (fun z => hc (by simp [z])) e⟩) (fun _ _ e => e) (fun _ _ _ e => e) (fun b ps e => ⟨#[], by rw [e]; simp⟩) (fun m hm => ?_) (fun b u e => ?_) I.bare
  · have e : b = it := by simpa using hb
    subst e
    exact ⟨h1, hL, h2, h3⟩
  · obtain ⟨o, es, ep, ho, r⟩ := hm
    exact ⟨o, es, ep, k _ o (Ne.symm hL) ho, r⟩
  · refine (I.hok b u e).stay (fun c v hc q => k c v ?_ q) (fun _ q => q) fun _ _ q => q
    rcases hc with z | z
    · rw [z]; exact nit b u e
    · exact nit c _ z
theorem Inv.tok (I : Inv X pins σ H s) (t : Nat) : Inv X pins σ H { s with toks := t } := I.un (h' := s.heap) (t' := t) Un.refl I.hok
theorem Inv.kept {t' : Nat} (I : Inv X pins σ H s) (k : ∀ b u, s.heap.get? b = some u → h'.get? b = some u) : Inv X pins σ H { s with heap := h', toks := t' } := I.un (Un.kept k) (I.hok.kept k)
theorem Inv.laid {a : Addr} {o : HO} {t' : Nat} (I : Inv X pins σ H s) (k : ∀ b u, s.heap.get? b = some u → h'.get? b = some u) (hp : s.heap.objs.size ≤ a) (new : ObjOk X.prog X.w (upd H a o) h' a o) :
    Inv X pins σ (upd H a o) { s with heap := h', toks := t' } := I.un (Un.laid k hp (I.hok.fresh hp)) (I.hok.laid k hp new)
theorem Inv.write {x e : Addr} {o : HO} {t' : Nat} (I : Inv X pins σ H s) (mu : Mut (H x)) (he : e = x ∨ H e = some (.own x)) (k : ∀ b u, b ≠ e → s.heap.get? b = some u → h'.get? b = some u) (heo : ∃ u, h'.get? e = some u)
    (new : ObjOk X.prog X.w (upd H x o) h' x o) : Inv X pins σ (upd H x o) { s with heap := h', toks := t' } := I.un (Un.write mu he k heo) (I.hok.write mu he k heo new)
theorem Inv.weak {σ' : List (Option V)} (I : Inv X pins σ H s) (hl : σ'.length = σ.length) (w : ∀ (i : Nat) v, σ'[i]? = some (some v) → σ[i]? = some (some v)) : Inv X pins σ' H s :=
  ⟨I.ok, I.os, I.bare, I.base, let ⟨m, hn, hl'⟩ := I.loc; ⟨m, hn, fun i x v e1 e2 e3 => hl' i x v e1 (w i v e2) e3⟩, I.cell, I.free, I.freeC, I.pin, I.hok, hl.trans I.len⟩
theorem Inv.pins_of {pins' : List (Addr × Obj)} (I : Inv X pins σ H s) (h : ∀ p ∈ pins', s.heap.get? p.1 = some p.2 ∧ H p.1 = none ∧ p.1 ≠ X.env.locals ∧ p.1 ∉ X.fs ∧ ∀ v, p.2.data ≠ .cell v) : Inv X pins' σ H s :=
  ⟨I.ok, I.os, I.bare, I.base, I.loc, I.cell, I.free, I.freeC, fun p hp => (List.mem_append.mp hp).elim (fun z => I.pin p (List.mem_append_left _ z)) (h p), I.hok, I.len⟩
theorem nodup_ix {N : List Str} (hN : N.Nodup) {i j : Nat} {x : Str} (a : N[i]? = some x) (b : N[j]? = some x) : i = j := by
  obtain ⟨h1, e1⟩ := List.getElem?_eq_some_iff.mp a
  obtain ⟨h2, e2⟩ := List.getElem?_eq_some_iff.mp b
  exact (List.getElem_inj hN).mp (e1.trans e2.symm)
theorem store_ok2 {M : Model} {A : Around} {E : Value → Shared → Prop} {i : Nat} {x : Str} {v : V} {u : Value} {Q : Unit → Shared → Prop} (I : Inv X pins σ H s) (hN : X.N.Nodup) (hi : X.N[i]? = some x) (hx : Loc X.env.scope x) (r : RelV v u)
    (h : ∀ s', Inv X pins (σ.set i (some v)) H s' → (∃ a, Heap.SameBut a s.heap s'.heap ∧ (a = X.env.locals ∨ X.env.cells.lookup x = some a)) → Q () s') (hf : X.fn x = true ∨ X.env.scope.names.lookup x = some .local := by first | exact .inl rfl | exact .inr rfl | assumption) : wpAny M A (storeName X.env x u) Q E s := by
  obtain ⟨m, hn, hl⟩ := id I.loc
  have hcls : (X.env.scope.kind == .class || (X.env.scope.kind == .module && X.env.locals != X.env.globals)) = false := by rw [I.ok.kind]; rfl
  have hiσ : i < σ.length := by rw [I.len]; exact (List.getElem?_eq_some_iff.mp hi).1
  have cne := I.cne
  have tracked : ∀ {a : Addr} {h' : Heap}, (∃ o, s.heap.get? a = some o ∧ H a = none) → Heap.SameBut a s.heap h' → HOk X.prog X.w H h' := fun {a h'} ha hs b ob e => by
    obtain ⟨_, _, hfree⟩ := ha
    refine (I.hok b ob e).stay (fun c w' hc q => (hs.2 c ?_).trans q) (fun _ q => q) fun _ _ q => q
    rintro rfl
    rcases hc with rfl | hc
    · rw [hfree] at e; cases e
    · rw [hfree] at hc; cases hc
  rcases hx with hk | hk
  · refine wpAny_storeName_local hk hn (fun h' hn' hs => ?_) hcls
    obtain ⟨oL, _, _, hoL, _⟩ := id hn
    refine h _ ⟨I.ok, I.os, I.bare, ⟨fun b o e n hb hx => ?_, fun b o e n hb hx => ?_, I.base.free, fun b o e hx => ?_, I.base.tups, I.base.frzs, I.base.tbls⟩, ⟨_, hn', fun j y v' e1 e2 e3 => ?_⟩, fun y c e => ?_, I.free, I.freeC, fun p hp => ?_, tracked ⟨oL, hoL, I.free⟩ hs, by simpa using I.len⟩ ⟨_, hs, .inl rfl⟩
    · exact (hs.2 b (Nat.ne_of_lt (Nat.lt_of_lt_of_le (Heap.lt_size e) I.ok.above))).trans (I.base.keep b o e n hb hx)
    · obtain ⟨sl, e1⟩ := I.base.slot b o e n hb hx
      exact ⟨sl, (hs.2 b (Nat.ne_of_lt (Nat.lt_of_lt_of_le (Heap.lt_size e) I.ok.above))).trans e1⟩
    · obtain ⟨o', e1⟩ := I.base.there b o e hx
      exact ⟨o', (hs.2 b (Nat.ne_of_lt (Nat.lt_of_lt_of_le (Heap.lt_size e) I.ok.above))).trans e1⟩
    · by_cases hj : j = i
      · subst hj
        rw [hi] at e1; cases e1
        rw [List.getElem?_set_self hiσ] at e2
        cases e2
        exact ⟨u, r, .inl ⟨hk, by simp⟩⟩
      · rw [List.getElem?_set_ne (Ne.symm hj)] at e2
        obtain ⟨u', r', q⟩ := hl j y v' e1 e2 e3
        refine ⟨u', r', ?_⟩
        rcases q with ⟨k, e⟩ | ⟨k, c, e, z⟩
        · refine .inl ⟨k, ?_⟩
          have : y ≠ x := fun e => hj (nodup_ix hN e1 (e ▸ hi))
          simp [this, e]
        · exact .inr ⟨k, c, e, z.sameBut hs (cne y c e)⟩
    · obtain ⟨w', z⟩ := I.cell y c e
      exact ⟨w', z.sameBut hs (cne y c e)⟩
    · obtain ⟨e, n, ne, nf, d⟩ := I.pin p hp
      exact ⟨(hs.2 p.1 ne).trans e, n, ne, nf, d⟩
  · have hfn : X.fn x = true := by
      rcases hf with z | z
      · exact z
      · rw [z] at hk; cases hk
    obtain ⟨c, hc⟩ := I.ok.has x (.inl hk)
    obtain ⟨w', z⟩ := I.cell x c hc
    refine wpAny_storeName_cell I.ok.kind hk hc z (fun h' hc' hs => ?_)
    obtain ⟨oc, hoc, hocd⟩ := id z
    refine h { s with heap := h' } ⟨I.ok, I.os, I.bare, ⟨fun b o e n hb hx => ?_, fun b o e n hb hx => ?_, I.base.free, fun b o e hx => ?_, I.base.tups, I.base.frzs, I.base.tbls⟩, ⟨m, hn.sameBut hs (Ne.symm (cne x c hc)), fun j y v' e1 e2 e3 => ?_⟩, fun y c' e => ?_, I.free, I.freeC, fun p hp => ?_, tracked ⟨oc, hoc, I.freeC x c hc⟩ hs, by simpa using I.len⟩ ⟨c, hs, .inr hc⟩
    · exact (hs.2 b (Nat.ne_of_lt (Nat.lt_of_lt_of_le (Heap.lt_size e) (I.ok.cab x c hfn hc)))).trans (I.base.keep b o e n hb hx)
    · obtain ⟨sl, e1⟩ := I.base.slot b o e n hb hx
      exact ⟨sl, (hs.2 b (Nat.ne_of_lt (Nat.lt_of_lt_of_le (Heap.lt_size e) (I.ok.cab x c hfn hc)))).trans e1⟩
    · obtain ⟨o', e1⟩ := I.base.there b o e hx
      exact ⟨o', (hs.2 b (Nat.ne_of_lt (Nat.lt_of_lt_of_le (Heap.lt_size e) (I.ok.cab x c hfn hc)))).trans e1⟩
    · by_cases hj : j = i
      · subst hj
        rw [hi] at e1; cases e1
        rw [List.getElem?_set_self hiσ] at e2
        cases e2
        exact ⟨u, r, .inr ⟨.inl hk, c, hc, hc'⟩⟩
      · rw [List.getElem?_set_ne (Ne.symm hj)] at e2
        obtain ⟨u', r', q⟩ := hl j y v' e1 e2 e3
        refine ⟨u', r', ?_⟩
        rcases q with q | ⟨k, c', e, z'⟩
        · exact .inl q
        · refine .inr ⟨k, c', e, z'.sameBut hs ?_⟩
          rintro rfl
          exact hj (nodup_ix hN e1 (I.ok.inj _ _ _ e hc ▸ hi))
    · by_cases hcc : c' = c
      · subst hcc; exact ⟨_, hc'⟩
      · obtain ⟨w2, z2⟩ := I.cell y c' e
        exact ⟨w2, z2.sameBut hs hcc⟩
    · obtain ⟨e, n, ne, nf, d⟩ := I.pin p hp
      refine ⟨(hs.2 p.1 ?_).trans e, n, ne, nf, d⟩
      intro q
      rw [q, hoc] at e
      have q' : oc = p.2 := Option.some.inj e
      exact d w' (by rw [← q']; exact hocd)
theorem store_ok {M : Model} {A : Around} {E : Value → Shared → Prop} {i : Nat} {x : Str} {v : V} {u : Value} {Q : Unit → Shared → Prop} (I : Inv X pins σ H s) (hN : X.N.Nodup) (hi : X.N[i]? = some x) (hx : Loc X.env.scope x) (r : RelV v u)
    (h : ∀ s', Inv X pins (σ.set i (some v)) H s' → Q () s') (hf : X.fn x = true ∨ X.env.scope.names.lookup x = some .local := by first | exact .inl rfl | exact .inr rfl | assumption) : wpAny M A (storeName X.env x u) Q E s :=
  store_ok2 I hN hi hx r (fun s' I' _ => h s' I') hf
theorem Inv.call' {s' : Shared} {ch : List Addr} (I : Inv X pins σ H s) (ho : s'.os = s.os) (u : Un (frs X.stack) ch H H' s.heap s'.heap) (hok : HOk X.prog X.w H' s'.heap) (hg : AllBare s'.gens)
    (hch : ∀ b ∈ ch, (b ∈ X.ex ∨ X.s_0.heap.objs.size ≤ b) ∧ b ≠ X.env.locals ∧ (∀ x c, X.env.cells.lookup x = some c → c ≠ b) ∧ ∀ p ∈ X.pn ++ pins, p.1 ≠ b) : Inv X pins σ H' s' := by
  obtain ⟨h', g', d', t', o'⟩ := s'
  have e : o' = s.os := ho
  subst e
  exact I.call (g' := g') (t' := t') (d' := d') u hok hg hch
end
noncomputable abbrev XK := Value → Option Addr → Hp → Prop
noncomputable abbrev St := List (Option V)
noncomputable abbrev VK := V → Hp → Prop
noncomputable abbrev TE := St → Hp → VK → Prop
noncomputable abbrev TT := St → Hp → (Bool → Hp → Prop) → Prop
noncomputable abbrev TA := St → Hp → (List V → Hp → Prop) → Prop
set_option genInjectivity false in
structure Ends where
  nx : St → Hp → Prop
  rt : VK
  bk : St → Hp → Prop := fun _ _ => False
  ct : St → Hp → Prop := fun _ _ => False
noncomputable abbrev TS := Ends → St → Hp → Prop
inductive EP (X : Cx) (pins : List (Addr × Obj)) (σ : St) (Q : VK) (u : Value) (s' : Shared) : Prop
  | mk (v : V) (H' : Hp) (i : Inv X pins σ H' s') (r : RelV v u) (q : Q v H')
inductive TP (X : Cx) (pins : List (Addr × Obj)) (σ : St) (Q : Bool → Hp → Prop) (b : Bool) (s' : Shared) : Prop
  | mk (H' : Hp) (i : Inv X pins σ H' s') (q : Q b H')
inductive AP (X : Cx) (pins : List (Addr × Obj)) (σ : St) (Q : List V → Hp → Prop) (us : List Value) (s' : Shared) : Prop
  | mk (vs : List V) (H' : Hp) (i : Inv X pins σ H' s') (r : Vals vs us) (q : Q vs H')
inductive GP (X : Cx) (pins : List (Addr × Obj)) (Q : St → Hp → Prop) (u : Unit) (s' : Shared) : Prop
  | mk (σ' : St) (H' : Hp) (i : Inv X pins σ' H' s') (q : Q σ' H')
inductive HP (X : Cx) (pins : List (Addr × Obj)) (σ : St) (Q : Hp → Prop) (u : Unit) (s' : Shared) : Prop
  | mk (H' : Hp) (i : Inv X pins σ H' s') (q : Q H')
inductive RP (X : Cx) (pins : List (Addr × Obj)) (Q : V → Hp → Prop) (u : Value) (s' : Shared) : Prop
  | mk (v : V) (σ' : St) (H' : Hp) (i : Inv X pins σ' H' s') (r : RelV v u) (q : Q v H')
inductive OP (X : Cx) (pins : List (Addr × Obj)) (σ : St) (P : Value → Option Int → Prop) (Q : Option Int → Hp → Prop) (u : Value) (s' : Shared) : Prop
  | mk (o : Option Int) (H' : Hp) (i : Inv X pins σ H' s') (r : P u o) (q : Q o H')
noncomputable def SP (X : Cx) (pins : List (Addr × Obj)) (D : Ends) (f : Flow) (s' : Shared) : Prop :=
  match f with
  | .next => GP X pins D.nx () s'
  | .brk => GP X pins D.bk () s'
  | .cont => GP X pins D.ct () s'
  | .ret u => RP X pins D.rt u s'
noncomputable def PE (X : Cx) (e : Expr) (t : TE) : Prop :=
  ∀ (pins : List (Addr × Obj)) (s : Shared) (σ : St) (H : Hp) (Q : VK), Inv X pins σ H s → t σ H Q → wpAny (model X.prog X.w) X.A (eval e X.env) (EP X pins σ Q) X.xe s
noncomputable def PT (X : Cx) (e : Expr) (t : TT) : Prop :=
  ∀ (pins : List (Addr × Obj)) (s : Shared) (σ : St) (H : Hp) (Q : Bool → Hp → Prop), Inv X pins σ H s → t σ H Q → wpAny (model X.prog X.w) X.A (isTrue e X.env (eval e X.env)) (TP X pins σ Q) X.xe s
noncomputable def PW (X : Cx) (e : Expr) (t : TT) : Prop :=
  ∀ (whole : Sem Value) (pins : List (Addr × Obj)) (s : Shared) (σ : St) (H : Hp) (Q : Bool → Hp → Prop), Inv X pins σ H s → t σ H Q → wpAny (model X.prog X.w) X.A (isTrue e X.env whole) (TP X pins σ Q) X.xe s
theorem PW.pt {X : Cx} {e : Expr} {t : TT} (h : PW X e t) : PT X e t := h _
noncomputable def PA (X : Cx) (es : List Expr) (t : TA) : Prop :=
  ∀ (pos : Pos) (pins : List (Addr × Obj)) (s : Shared) (σ : St) (H : Hp) (Q : List V → Hp → Prop), Inv X pins σ H s → t σ H Q → wpAny (model X.prog X.w) X.A (spliced (backTo pos (starEach es X.env))) (AP X pins σ Q) X.xe s
noncomputable def PS (X : Cx) (st : Stmt) (t : TS) : Prop :=
  ∀ (pins : List (Addr × Obj)) (s : Shared) (σ : St) (H : Hp) (D : Ends), Inv X pins σ H s → t D σ H → wpAny (model X.prog X.w) X.A (exec st X.env) (SP X pins D) X.xe s
noncomputable def PSs (X : Cx) (st : List Stmt) (t : TS) : Prop :=
  ∀ (pins : List (Addr × Obj)) (s : Shared) (σ : St) (H : Hp) (D : Ends), Inv X pins σ H s → t D σ H → wpAny (model X.prog X.w) X.A (execs st X.env) (SP X pins D) X.xe s
theorem thn {α : Type} {t : Sem α} {Q Q' : α → Shared → Prop} {M : Model} {A : Around} {E : Value → Shared → Prop} {s : Shared} (h : wpAny M A t Q E s) (hQ : ∀ a s, Q a s → Q' a s) : wpAny M A t Q' E s := wpAny_mono h hQ fun _ _ x => x
end L2
namespace L2
open PySem PySem.Spec PyProof.Rows
section
variable {X : Cx}
inductive VarR (i : Nat) (σ : St) (H : Hp) (Q : VK) : Prop
  | mk (v : V) (h : σ[i]? = some (some v)) (q : Q v H)
noncomputable def tVar (i : Nat) : TE := VarR i
noncomputable def tC (v : V) : TE := fun _ H Q => Q v H
theorem pe_var {i : Nat} {x : Str} {pos : Pos} (hN : X.N[i]? = some x) (hv : Vis X.env.scope x) (hd : (x == ("__debug__" : Str)) = false := by decide) (hcd : (x == ("__classdict__" : Str)) = false := by decide) : PE X (.Name x pos) (tVar i) := by
  intro pins s σ H Q I h
  obtain ⟨v, e, h⟩ := h
  obtain ⟨m, hn, hl⟩ := I.loc
  obtain ⟨u, r, l⟩ := hl i x v hN e hv
  have fin : EP X pins σ Q u s := ⟨v, H, I, r, h⟩
  rcases l with ⟨hk, hm⟩ | ⟨hk, c, hc, hcell⟩
  · exact wpAny_Name (wpAny_loadName_local I.ok.kind hk hn hm fin) hd
  · rcases hk with hk | hk
    · exact wpAny_Name (wpAny_loadName_cell I.ok.kind hk hc hcell fin) hd
    · exact wpAny_Name (wpAny_loadName_free I.ok.kind hk hc hcell fin hcd) hd
theorem pe_int {i j pos} : PE X (.Constant (.int i) j pos) (tC (.int i)) := fun _ _ _ H _ I h => wpAny_Constant_int ⟨.int i, H, I.tok _, ⟨_, rfl⟩, h⟩
theorem pe_bl {b j pos} : PE X (.Constant (.bool b) j pos) (tC (.bl b)) := fun _ _ _ H _ I h => Constant_bool ⟨.bl b, H, I, rfl, h⟩
theorem pe_non {j pos} : PE X (.Constant .none j pos) (tC .non) := fun _ _ _ H _ I h => Constant_none ⟨.non, H, I, rfl, h⟩
noncomputable def Gl (X : Cx) (x : Str) : Prop := X.env.kindOf x = some .globalImplicit
theorem ld_glob {E : Value → Shared → Prop} {pins : List (Addr × Obj)} {s : Shared} {σ : St} {H : Hp} {x : Str} {u : Value} {pos : Pos} {Q : Value → Shared → Prop} (I : Inv X pins σ H s) (hg : Gl X x) (hm : X.mg x = some u) (h : Q u s)
    (hd : (x == ("__debug__" : Str)) = false := by decide) : wpAny (model X.prog X.w) X.A (eval (.Name x pos) X.env) Q E s :=
  Calls.Name_function_global I.ok.kind hg (Calls.loadGlobal_global (by rw [I.ok.glob]; exact I.mod.glob.keeps I.bk) hm h) hd
theorem ld_blt {E : Value → Shared → Prop} {pins : List (Addr × Obj)} {s : Shared} {σ : St} {H : Hp} {x : Str} {u : Value} {pos : Pos} {Q : Value → Shared → Prop} (I : Inv X pins σ H s) (hg : Gl X x) (hm : X.mg x = none) (hv : bootBuiltins x = some u) (h : Q u s)
    (hn : x ≠ "__name__" := by decide) (hd : (x == ("__debug__" : Str)) = false := by decide) : wpAny (model X.prog X.w) X.A (eval (.Name x pos) X.env) Q E s := by
  obtain ⟨mb, h1, h2⟩ := I.mod.blt
  exact Calls.Name_function_global I.ok.kind hg (Calls.loadGlobal_builtin (by rw [I.ok.glob]; exact I.mod.glob.keeps I.bk) hm (by rw [I.ok.blt]; exact h1.keeps I.bk) ((h2 x hn).trans hv) h) hd
theorem pe_glob {x : Str} {v : V} {u : Value} {pos : Pos} (hg : Gl X x) (hm : X.mg x = some u) (r : RelV v u) (hd : (x == ("__debug__" : Str)) = false := by decide) : PE X (.Name x pos) (tC v) :=
  fun _ _ _ H _ I h => ld_glob I hg hm ⟨v, H, I, r, h⟩ hd
variable {a b : Expr} {ta tb : TE} {pos : Pos}
noncomputable def PC (X : Cx) (op : CmpOp) (a b : Expr) (t : TE) : Prop :=
  ∀ (pins : List (Addr × Obj)) (s : Shared) (σ : St) (H : Hp) (Q : VK), Inv X pins σ H s → t σ H Q →
    wpAny (model X.prog X.w) X.A (eval a X.env) (fun v s₁ => wpAny (model X.prog X.w) X.A (eval b X.env) (fun u s₂ => wpAny (model X.prog X.w) X.A (compareOp op v u) (EP X pins σ Q) X.xe s₂) X.xe s₁) X.xe s
theorem nobehind (b : Expr) {op : CmpOp} (h : op ≠ .In) (h2 : op ≠ .NotIn) : behindInMarks op b = false := by
  have e1 : (op == CmpOp.In) = false := by cases op <;> first | rfl | exact absurd rfl h
  have e2 : (op == CmpOp.NotIn) = false := by cases op <;> first | rfl | exact absurd rfl h2
  cases b <;> simp [behindInMarks, e1, e2]
noncomputable def tIsN (ta : TE) : TE := fun σ H Q => ta σ H fun x H1 => Q (.bl (decide (x = .non))) H1
noncomputable def tNotN (ta : TE) : TE := fun σ H Q => ta σ H fun x H1 => Q (.bl (!decide (x = .non))) H1
theorem RelV.none_iff {x : V} {v : Value} (r : RelV x v) : (v == Value.none) = decide (x = .non) := by
  cases x with
  | non => cases r; rfl
  | bl _ => cases r; rfl
  | int _ => obtain ⟨t, rfl⟩ := r; rfl
  | str _ => obtain ⟨t, rfl⟩ := r; rfl
  | byt _ => obtain ⟨t, rfl⟩ := r; rfl
  | flt _ => obtain ⟨t, rfl⟩ := r; rfl
  | ref _ => cases r; rfl
  | ty _ => cases r; rfl
theorem pc_isN {j pos'} (ha : PE X a ta) : PC X .Is a (.Constant .none j pos') (tIsN ta) := by
  intro pins s σ H Q I h
  refine thn (ha pins s σ H _ I h) fun v s1 ⟨x, H1, I1, r1, q1⟩ => ?_
  exact Constant_none (is_none_gen ⟨.bl _, H1, I1, by rw [r1.none_iff]; rfl, q1⟩)
theorem pc_notN {j pos'} (ha : PE X a ta) : PC X .IsNot a (.Constant .none j pos') (tNotN ta) := by
  intro pins s σ H Q I h
  refine thn (ha pins s σ H _ I h) fun v s1 ⟨x, H1, I1, r1, q1⟩ => ?_
  exact Constant_none (isnot_none_gen ⟨.bl _, H1, I1, by rw [r1.none_iff]; rfl, q1⟩)
inductive BlR (Q : Bool → Hp → Prop) (x : V) (H : Hp) : Prop
  | mk (c : Bool) (e : x = .bl c) (q : Q c H)
noncomputable def tB (t : TE) : TT := fun σ H Q => t σ H (BlR Q)
theorem pt_cmp {op : CmpOp} {t : TE} (h : PC X op a b t) (h1 : behindInMarks op b = false := by first | exact nobehind _ (by decide) (by decide) | rfl) : PT X (.Compare a [op] [b] pos) (tB t) := by
  intro pins s σ H Q I hw
  refine wpAny_isTrue_Compare1 (thn (h pins s σ H _ I hw) fun v s1 h1 => thn h1 fun u s2 h2 => thn h2 fun c s3 ⟨x, H1, I1, r1, q1⟩ => ?_) h1
  obtain ⟨d, rfl, q⟩ := q1
  cases r1
  exact wpAny_truthy_bool ⟨H1, I1, q⟩
theorem pt_val {e : Expr} {t : TE} (h : PE X e t) (he : ∀ whole, isTrue e X.env whole = (do let v ← whole; standAt e.pos; holding [v] (truthy v)) := by intro _; rfl) : PT X e (tB t) := by
  intro pins s σ H Q I hw
  refine isTrue_plain (thn (h pins s σ H _ I hw) fun v s1 ⟨x, H1, I1, r1, q1⟩ => ?_) (he _)
  obtain ⟨d, rfl, q⟩ := q1
  cases r1
  exact wpAny_truthy_bool ⟨H1, I1, q⟩
variable {tA tB' : TT} {rest : List Expr}
noncomputable def tOr (t u : TT) : TT := fun σ H Q => t σ H fun c H1 => if c = true then Q true H1 else u σ H1 Q
noncomputable def tNot (t : TT) : TT := fun σ H Q => t σ H fun c H1 => Q (!c) H1
theorem pw_or1 (ha : PT X a tA) : PW X (.BoolOp .Or [a] pos) tA := by
  intro wh pins s σ H Q I h
  refine isTrue_or (thn (ha pins s σ H Q I h) fun c s1 e => ?_)
  cases c with
  | false => exact isTrue_or_nil e
  | true => exact e
theorem pw_or (ha : PT X a tA) (hb : PW X (.BoolOp .Or (b :: rest) pos) tB') : PW X (.BoolOp .Or (a :: b :: rest) pos) (tOr tA tB') := by
  intro wh pins s σ H Q I h
  refine isTrue_or (thn (ha pins s σ H _ I h) fun c s1 ⟨H1, I1, q1⟩ => ?_)
  cases c with
  | true => exact ⟨H1, I1, q1⟩
  | false => exact hb wh pins s1 σ H1 Q I1 q1
theorem pt_not (ha : PT X a tA) : PT X (.UnaryOp .Not a pos) (tNot tA) := by
  intro pins s σ H Q I h
  exact isTrue_not (thn (ha pins s σ H (fun c H1 => Q (!c) H1) I h) fun c s1 z => match z with | ⟨H1, I1, q1⟩ => ⟨H1, I1, q1⟩)
noncomputable def tIf (t : TT) (ta tb : TE) : TE := fun σ H Q => t σ H fun c H1 => if c = true then ta σ H1 Q else tb σ H1 Q
theorem pe_ifExp {c : Expr} (hc : PT X c tA) (ha : PE X a ta) (hb : PE X b tb) : PE X (.IfExp c a b pos) (tIf tA ta tb) := by
  intro pins s σ H Q I h
  refine wpAny_IfExp (thn (hc pins s σ H _ I h) fun d s1 ⟨H1, I1, q1⟩ => ?_)
  cases d with
  | true => exact ha pins s1 σ H1 Q I1 q1
  | false => exact hb pins s1 σ H1 Q I1 q1
end
end L2
namespace L2
open PySem PySem.Spec PyProof.Rows
noncomputable def SqL (K : PySem.W.Frag) (H : Hp) (a : Addr) (xs : List V) : Prop :=
  Rd H a (.lst xs) ∨
    ∃ (o : Obj) (its : Array Value) (n : Nat), K.lookup a = some o ∧ o.cls = .type "list" ∧ o.dict = none ∧ o.data = .seq its n ∧ its.size ≤ sizeLine ∧ Vals xs its.toList
noncomputable def SqT (K : PySem.W.Frag) (H : Hp) (a : Addr) (xs : List V) : Prop :=
  Rd H a (.tup xs) ∨
    ∃ (o : Obj) (its : Array Value) (n : Nat), K.lookup a = some o ∧ o.cls = .type "tuple" ∧ o.data = .seq its n ∧ its.size ≤ sizeLine ∧ Vals xs its.toList
noncomputable def absV : Value → Option V
  | .none => some .non
  | .bool b => some (.bl b)
  | .int i _ => some (.int i)
  | .str x _ => some (.str x)
  | .bytes b _ => some (.byt b)
  | .float b _ => some (.flt b)
  | .ref a => some (.ref a)
  | .type n => some (.ty n)
  | _ => none
theorem RelV.abs {x : V} {u : Value} (r : RelV x u) : absV u = some x := by
  cases x with
  | non => cases r; rfl
  | bl _ => cases r; rfl
  | int _ => obtain ⟨t, rfl⟩ := r; rfl
  | str _ => obtain ⟨t, rfl⟩ := r; rfl
  | byt _ => obtain ⟨t, rfl⟩ := r; rfl
  | flt _ => obtain ⟨t, rfl⟩ := r; rfl
  | ref _ => cases r; rfl
  | ty _ => cases r; rfl
theorem RelV.inj {x y : V} {u : Value} (r : RelV x u) (q : RelV y u) : x = y := Option.some.inj (r.abs.symm.trans q.abs)
theorem Vals.inj {xs ys : List V} {us : List Value} (h : Vals xs us) (k : Vals ys us) : xs = ys := by
  induction h generalizing ys with
  | nil => cases k; rfl
  | cons r t ih =>
    cases k with
    | cons r' t' => rw [r.inj r', ih t']
section
variable {X : Cx} {pins : List (Addr × Obj)} {σ : St} {H : Hp} {s : Shared} {a : Addr} {xs ys : List V}
theorem SqL.of {K : PySem.W.Frag} (h : H a = some (.lst xs)) : SqL K H a xs := .inl (.inl h)
theorem SqT.of {K : PySem.W.Frag} (h : H a = some (.tup xs)) : SqT K H a xs := .inl (.inl h)
theorem Inv.list (I : Inv X pins σ H s) (h : SqL X.K H a xs) : ∃ its : List Value, Vals xs its ∧ PlainL s.heap a its.toArray ∧ xs.length ≤ sizeLine := by
  rcases h with h | ⟨o, its, n, hk, hc, hd, hs, hz, r⟩
  · obtain ⟨z, its, n, r, e⟩ := h.ok I.hok
    exact ⟨its, r, ⟨_, n, e, rfl, rfl, rfl⟩, z⟩
  · refine ⟨its.toList, r, ⟨o, n, I.kIn a o hk, hc, hd, by simpa using hs⟩, ?_⟩
    have e := r.length
    simp only [Array.length_toList] at e
    omega
theorem Inv.tuple (I : Inv X pins σ H s) (h : SqT X.K H a xs) : ∃ its : List Value, Vals xs its ∧ IsTup s.heap a its.toArray ∧ xs.length ≤ sizeLine := by
  rcases h with h | ⟨o, its, n, hk, hc, hs, hz, r⟩
  · obtain ⟨z, its, r, p⟩ := h.ok I.hok
    exact ⟨its, r, p, z⟩
  · refine ⟨its.toList, r, ⟨o, I.kIn a o hk, hc, n, by simpa using hs⟩, ?_⟩
    have e := r.length
    simp only [Array.length_toList] at e
    omega
theorem Inv.list_inj (I : Inv X pins σ H s) (h : SqL X.K H a xs) (h' : SqL X.K H a ys) : xs = ys := by
  obtain ⟨its, r, ⟨o, n, e, _, _, d⟩, _⟩ := I.list h
  obtain ⟨its', r', ⟨o', n', e', _, _, d'⟩, _⟩ := I.list h'
  rw [e] at e'; cases e'
  rw [d] at d'
  injection d' with d1 _
  have : its = its' := by simpa using congrArg Array.toList d1
  subst this
  exact r.inj r'
end
noncomputable abbrev Cx.wish (X : Cx) (E : Value → Shared → Prop) : Cx := { X with xe := E }
noncomputable abbrev Cx.nox (X : Cx) : Cx := X.wish fun _ _ => False
theorem Cx.Ok.wish {X : Cx} (ok : X.Ok) (E : Value → Shared → Prop) : (X.wish E).Ok :=
  ⟨ok.mod, ok.kind, ok.glob, ok.blt, ok.above, ok.inj, ok.has, ok.cab, ok.hd, ok.frames, ok.stk, ok.exf, ok.bs, ok.bsz, ok.noex, ok.exfs, ok.funs, ok.frf⟩
theorem Cx.Ok.unwish {X : Cx} {E : Value → Shared → Prop} (ok : (X.wish E).Ok) : X.Ok :=
  ⟨ok.mod, ok.kind, ok.glob, ok.blt, ok.above, ok.inj, ok.has, ok.cab, ok.hd, ok.frames, ok.stk, ok.exf, ok.bs, ok.bsz, ok.noex, ok.exfs, ok.funs, ok.frf⟩
section
variable {X : Cx} {pins : List (Addr × Obj)} {σ : St} {H : Hp} {s : Shared} {E : Value → Shared → Prop}
theorem Inv.wish (I : Inv X pins σ H s) (E : Value → Shared → Prop) : Inv (X.wish E) pins σ H s := ⟨I.ok.wish E, I.os, I.bare, I.base, I.loc, I.cell, I.free, I.freeC, I.pin, I.hok, I.len⟩
theorem Inv.unwish (I : Inv (X.wish E) pins σ H s) : Inv X pins σ H s := ⟨I.ok.unwish, I.os, I.bare, I.base, I.loc, I.cell, I.free, I.freeC, I.pin, I.hok, I.len⟩
theorem SP.unwish {D : Ends} {f : Flow} {s' : Shared} (h : SP (X.wish E) pins D f s') : SP X pins D f s' := by
  cases f with
  | next => obtain ⟨σ', H', I, q⟩ := h; exact ⟨σ', H', I.unwish, q⟩
  | brk => obtain ⟨σ', H', I, q⟩ := h; exact ⟨σ', H', I.unwish, q⟩
  | cont => obtain ⟨σ', H', I, q⟩ := h; exact ⟨σ', H', I.unwish, q⟩
  | ret u => obtain ⟨v, σ', H', I, r, q⟩ := h; exact ⟨v, σ', H', I.unwish, r, q⟩
theorem PSs.nox {st : List Stmt} {t : TS} (h : PSs X.nox st t) : PSs X st t := fun pins s σ H D I hw =>
  wpAny_mono (h pins s σ H D (I.wish _) hw) (fun _ _ q => q.unwish) fun _ _ z => False.elim z
end
section
variable {X : Cx} {st : Stmt} {rest : List Stmt} {t u : TS} {e : Expr} {te : TE} {pos : Pos}
noncomputable def tNext : TS := fun D σ H => D.nx σ H
noncomputable def tSeq (t u : TS) : TS := fun D σ H => t { D with nx := u D } σ H
theorem pss_nil : PSs X [] tNext := fun _ _ σ H _ I h => wpAny_execs_nil ⟨σ, H, I, h⟩
theorem pss_cons (h1 : PS X st t) (h2 : PSs X rest u) : PSs X (st :: rest) (tSeq t u) := by
  intro pins s σ H D I h
  refine wpAny_execs_cons (thn (h1 pins s σ H { D with nx := u D } I h) fun f s1 q => ?_)
  cases f with
  | next =>
    obtain ⟨σ', H', I', q⟩ := q
    exact h2 pins s1 σ' H' D I' q
  | ret v => exact q
  | brk => exact q
  | cont => exact q
theorem pss_one (h1 : PS X st t) : PSs X [st] t := by
  intro pins s σ H D I h
  refine wpAny_execs_cons (thn (h1 pins s σ H D I h) fun f s1 q => ?_)
  cases f with
  | next => exact wpAny_execs_nil q
  | ret v => exact q
  | brk => exact q
  | cont => exact q
theorem Inv.quiet {pins : List (Addr × Obj)} {σ : St} {H : Hp} {s : Shared} (I : Inv X pins σ H s) : interactive X.env = false := by simp [interactive, I.ok.kind]
noncomputable def tDrop (te : TE) : TS := fun D σ H => te σ H fun _ H1 => D.nx σ H1
theorem ps_expr (he : PE X e te) (hs : swapsWith e none pos.line X.env = pure false := by rfl) : PS X (.Expr e pos) (tDrop te) := by
  intro pins s σ H D I h
  exact wpAny_Expr_any (thn (he pins s σ H _ I h) fun v s1 ⟨x, H1, I1, r1, q1⟩ => ⟨σ, H1, I1, q1⟩) I.quiet hs
noncomputable def tRet (te : TE) : TS := fun D σ H => te σ H D.rt
theorem ps_ret (he : PE X e te) : PS X (.Return (some e) pos) (tRet te) := by
  intro pins s σ H D I h
  exact wpAny_Return_some (thn (he pins s σ H _ I h) fun v s1 ⟨x, H1, I1, r1, q1⟩ => ⟨x, σ, H1, I1, r1, q1⟩)
noncomputable def tIfS (c : TT) (t u : TS) : TS := fun D σ H => c σ H fun b H1 => if b = true then t D σ H1 else u D σ H1
theorem ps_if {c : Expr} {a b : List Stmt} {tc : TT} (hc : PT X c tc) (ha : PSs X a t) (hb : PSs X b u) : PS X (.If c a b pos) (tIfS tc t u) := by
  intro pins s σ H D I h
  refine wpAny_If (thn (hc pins s σ H _ I h) fun d s1 ⟨H1, I1, q1⟩ => ?_)
  cases d with
  | true => exact ha pins s1 σ H1 D I1 q1
  | false => exact hb pins s1 σ H1 D I1 q1
noncomputable def tNever : TS := fun _ _ _ => False
theorem ps_never : PS X st tNever := fun _ _ _ _ _ _ h => h.elim
end
noncomputable abbrev TG := V → St → Hp → (St → Hp → Prop) → Prop
noncomputable abbrev TGs := List V → St → Hp → (St → Hp → Prop) → Prop
noncomputable def PG (X : Cx) (target : Expr) (t : TG) : Prop :=
  ∀ (pins : List (Addr × Obj)) (s : Shared) (σ : St) (H : Hp) (v : V) (u : Value) (Q : St → Hp → Prop), Inv X pins σ H s → RelV v u → t v σ H Q →
    wpAny (model X.prog X.w) X.A (assign target X.env u) (GP X pins Q) X.xe s
noncomputable def PGs (X : Cx) (ts : List Expr) (t : TGs) : Prop :=
  ∀ (pins : List (Addr × Obj)) (s : Shared) (σ : St) (H : Hp) (vs : List V) (us : List Value) (Q : St → Hp → Prop), Inv X pins σ H s → Vals vs us → t vs σ H Q →
    wpAny (model X.prog X.w) X.A (assignInOrder ((assignEach ts X.env).map (·.2)) us) (GP X pins Q) X.xe s
noncomputable abbrev TSet := V → V → V → Hp → (Hp → Prop) → Prop
noncomputable def PSet (X : Cx) (t : TSet) : Prop :=
  ∀ (pins : List (Addr × Obj)) (s : Shared) (σ : St) (H : Hp) (o i v : V) (ov iv u : Value) (Q : Hp → Prop), Inv X pins σ H s → RelV o ov → RelV i iv → RelV v u → t o i v H Q →
    wpAny (model X.prog X.w) X.A (setItem ov iv u) (HP X pins σ Q) X.xe s
noncomputable abbrev TIp := V → V → Hp → VK → Prop
noncomputable def PIp (X : Cx) (op : Operator) (t : TIp) : Prop :=
  ∀ (pins : List (Addr × Obj)) (s : Shared) (σ : St) (H : Hp) (x y : V) (v u : Value) (Q : VK), Inv X pins σ H s → RelV x v → RelV y u → t x y H Q →
    wpAny (model X.prog X.w) X.A (inplaceOp op v u) (EP X pins σ Q) X.xe s
section
variable {X : Cx} {pos : Pos}
noncomputable def gName (i : Nat) : TG := fun v σ H Q => Q (σ.set i (some v)) H
theorem pg_name {i : Nat} {x : Str} (hN : X.N.Nodup) (hi : X.N[i]? = some x) (hx : Loc X.env.scope x) (hf : X.fn x = true ∨ X.env.scope.names.lookup x = some .local := by first | exact .inl rfl | exact .inr rfl | assumption) : PG X (.Name x pos) (gName i) := by
  intro pins s σ H v u Q I r h
  exact wpAny_assign_Name (store_ok I hN hi hx r (fun s' I' => ⟨_, H, I', h⟩) hf)
noncomputable def gNil : TGs := fun vs σ H Q => vs = [] ∧ Q σ H
inductive GConsR (t : TG) (u : TGs) (vs : List V) (σ : St) (H : Hp) (Q : St → Hp → Prop) : Prop
  | mk (v : V) (r : List V) (e : vs = v :: r) (q : t v σ H fun σ' H' => u r σ' H' Q)
noncomputable def gCons (t : TG) (u : TGs) : TGs := GConsR t u
theorem pgs_nil : PGs X [] gNil := by
  intro pins s σ H vs us Q I r h
  obtain ⟨e, h⟩ := h
  subst e
  cases r
  exact assignInOrder_nil ⟨σ, H, I, h⟩
theorem pgs_cons {e : Expr} {es : List Expr} {t : TG} {u : TGs} (h1 : PG X e t) (h2 : PGs X es u)
    (hs : (assignEach (e :: es) X.env).map (·.2) = assign e X.env :: (assignEach es X.env).map (·.2) := by rfl) : PGs X (e :: es) (gCons t u) := by
  intro pins s σ H vs us Q I r h
  obtain ⟨v, vr, e1, h⟩ := h
  subst e1
  cases r with
  | cons r rr =>
    rw [hs]
    refine assignInOrder_cons (thn (h1 pins s σ H _ _ _ I r h) fun _ s1 ⟨σ1, H1, I1, q1⟩ => ?_)
    exact h2 pins s1 σ1 H1 _ _ Q I1 rr q1
inductive GTupR (K : PySem.W.Frag) (n : Nat) (t : TGs) (v : V) (σ : St) (H : Hp) (Q : St → Hp → Prop) : Prop
  | mk (a : Addr) (xs : List V) (e : v = .ref a) (s : SqT K H a xs) (l : xs.length = n) (q : t xs σ H Q)
noncomputable def gTup (K : PySem.W.Frag) (n : Nat) (t : TGs) : TG := GTupR K n t
theorem pg_tup {es : List Expr} {k : Nat} {t : TGs} {n : Nat} (hc : X.calm = true) (h : PGs X es t)
    (hn : (assignEach es X.env).length = n := by rfl) (hst : (assignEach es X.env).findIdx? (·.1) = none := by rfl) : PG X (.Tuple es k pos) (gTup X.K n t) := by
  intro pins s σ H v u Q I r hw
  obtain ⟨a, xs, e1, hq, hl, hw⟩ := hw
  subst e1
  cases r
  obtain ⟨its, rv, ht, hz⟩ := I.tuple hq
  refine assign_Tuple_tuple (I.ok.hd hc) ht (by simp [hn, ← hl, rv.length]) hst fun h' hx => ?_
  have I1 : Inv X pins σ H { s with heap := h' } := I.kept (t' := s.toks) fun b o e => hx b o (Nat.ne_of_lt (Heap.lt_size e)) e
  exact h pins _ σ H xs _ Q I1 (by simpa using rv) hw
noncomputable def gSub (to ti : TE) (t : TSet) : TG := fun v σ H Q => to σ H fun o H1 => ti σ H1 fun i H2 => t o i v H2 fun H3 => Q σ H3
theorem pg_sub {o i : Expr} {to ti : TE} {t : TSet} (ho : PE X o to) (hi : PE X i ti) (hs : PSet X t)
    (ha : ∀ v, assign (.Subscript o i pos) X.env v = (do
      let ov ← holding [v] (eval o X.env)
      let iv ← holding [v, ov] (eval i X.env)
      standAt pos
      holding [v, ov, iv] (setItem ov iv v)
      release [v, ov, iv] []) := by intro _; rfl) : PG X (.Subscript o i pos) (gSub to ti t) := by
  intro pins s σ H v u Q I r h
  rw [ha]
  refine wpAny_bind (wpAny_holding (thn (ho pins s σ H _ I h) fun ov s1 ⟨x, H1, I1, r1, q1⟩ => ?_))
  refine wpAny_bind (wpAny_holding (thn (hi pins s1 σ H1 _ I1 q1) fun iv s2 ⟨y, H2, I2, r2, q2⟩ => ?_))
  refine wpAny_bind (wpAny_standAt (wpAny_bind (wpAny_holding (thn (hs pins s2 σ H2 x y v ov iv u _ I2 r1 r2 r q2) fun _ s3 ⟨H3, I3, q3⟩ => ?_))))
  exact wpAny_release ⟨σ, H3, I3, q3⟩
noncomputable def tAsg (te : TE) (g : TG) : TS := fun D σ H => te σ H fun x H1 => g x σ H1 D.nx
theorem ps_asg {tg e : Expr} {te : TE} {g : TG} (he : PE X e te) (hg : PG X tg g) (hs : swapsWithSole [tg] e pos.line X.env = pure false := by rfl) (hw : swappedStores [tg] e X.env = pure none := by rfl)
    (h1 : (assignEach [tg] X.env).map (·.2) = [assign tg X.env] := by rfl) : PS X (.Assign [tg] e pos) (tAsg te g) := by
  intro pins s σ H D I h
  refine wpAny_Assign_stores (thn (he pins s σ H _ I h) fun v s1 ⟨x, H1, I1, r1, q1⟩ => ?_) hs hw
  rw [h1]
  exact thn (hg pins s1 σ H1 x v _ I1 r1 q1) fun _ s2 q => q
theorem ps_set {i : Nat} {x : Str} {e : Expr} {te : TE} {pos' : Pos} (hN : X.N.Nodup) (hi : X.N[i]? = some x) (hx : Loc X.env.scope x) (he : PE X e te) (hs : swapsWith e (some (.Name x pos')) pos.line X.env = pure false := by rfl) (hf : X.fn x = true ∨ X.env.scope.names.lookup x = some .local := by first | exact .inl rfl | exact .inr rfl | assumption) :
    PS X (.Assign [.Name x pos'] e pos) (tAsg te (gName i)) := by
  intro pins s σ H D I h
  refine wpAny_Assign_Name (thn (he pins s σ H _ I h) fun v s1 ⟨y, H1, I1, r1, q1⟩ => ?_) hs
  exact store_ok I1 hN hi hx r1 (fun s2 I2 => ⟨_, H1, I2, q1⟩) hf
inductive AugR (i : Nat) (te : TE) (ti : TIp) (D : Ends) (σ : St) (H : Hp) : Prop
  | mk (x : V) (e : σ[i]? = some (some x)) (q : te σ H fun y H1 => ti x y H1 fun z H2 => D.nx (σ.set i (some z)) H2)
noncomputable def tAug (i : Nat) (te : TE) (ti : TIp) : TS := AugR i te ti
theorem ps_aug {i : Nat} {x : Str} {e : Expr} {te : TE} {op : Operator} {ti : TIp} {pos' : Pos} (hN : X.N.Nodup) (hi : X.N[i]? = some x) (hx : Loc X.env.scope x) (he : PE X e te) (ho : PIp X op ti) (hf : X.fn x = true ∨ X.env.scope.names.lookup x = some .local := by first | exact .inl rfl | exact .inr rfl | assumption) :
    PS X (.AugAssign (.Name x pos') op e pos) (tAug i te ti) := by
  intro pins s σ H D I h
  obtain ⟨v, e1, h⟩ := h
  obtain ⟨m, hn, hl⟩ := I.loc
  have vis : Vis X.env.scope x := by rcases hx with k | k; exact .inl k; exact .inr (.inl k)
  obtain ⟨u, r, l⟩ := hl i x v hi e1 vis
  refine wpAny_AugAssign_Name ?_
  have go : wpAny (model X.prog X.w) X.A (eval e X.env) (fun w s₂ => wpAny (model X.prog X.w) X.A (inplaceOp op u w) (fun r s₃ => wpAny (model X.prog X.w) X.A (storeName X.env x r) (fun _ => SP X pins D .next) X.xe s₃) X.xe s₂) X.xe s := by
    refine thn (he pins s σ H _ I h) fun w s1 ⟨y, H1, I1, r1, q1⟩ => ?_
    refine thn (ho pins s1 σ H1 v y u w _ I1 r r1 q1) fun z s2 ⟨zv, H2, I2, r2, q2⟩ => ?_
    exact store_ok I2 hN hi hx r2 (fun s3 I3 => ⟨_, H2, I3, q2⟩) hf
  rcases l with ⟨hk, hm⟩ | ⟨hk, c, hc, hcell⟩
  · exact wpAny_loadName_local I.ok.kind hk hn hm go
  · rcases hk with hk | hk
    · exact wpAny_loadName_cell I.ok.kind hk hc hcell go
    · rcases hx with k | k
      · have : X.env.scope.names.lookup x = some .free := hk
        rw [k] at this; cases this
      · have : X.env.scope.names.lookup x = some .free := hk
        rw [k] at this; cases this
inductive Int0R (g : Int → Int → V) (x y : V) (H : Hp) (Q : VK) : Prop
  | mk (i j : Int) (ex : x = .int i) (ey : y = .int j) (q : Q (g i j) H)
noncomputable def ipI (f : Int → Int → Int) : TIp := Int0R fun i j => .int (f i j)
end
section
variable {X : Cx} {pos : Pos}
noncomputable def tWhile (c : TT) (tb : TS) : TS := fun D σ H => ∃ W : Nat → St → Hp → Prop, (∃ m, W m σ H) ∧ ∀ m σ H, W m σ H →
  c σ H fun b H1 => if b = true then ∃ N : St → Hp → Prop, (∀ σ' H', N σ' H' → ∃ m', m' < m ∧ W m' σ' H') ∧ tb { D with nx := N, ct := N, bk := D.nx } σ H1 else D.nx σ H1
theorem ps_while {c : Expr} {body : List Stmt} {tc : TT} {tb : TS} (hp : PassesOwn (model X.prog X.w) X.A X.env X.xe) (hc : PT X c tc) (hb : PSs X body tb) : PS X (.While c body [] pos) (tWhile tc tb) := by
  intro pins s σ H D I h
  obtain ⟨W, ⟨m0, w0⟩, turn⟩ := h
  refine wpAny_While (codeAny_whileLoop (fun n s' => ∃ σ' H', Inv X pins σ' H' s' ∧ W n σ' H') ?_ m0 ⟨σ, H, I, w0⟩)
  rintro n s1 ⟨σ1, H1, I1, w1⟩
  refine wpAny_passesOwn hp (thn (hc pins s1 σ1 H1 _ I1 (turn n σ1 H1 w1)) fun b s2 ⟨H2, I2, q2⟩ => ?_)
  cases b with
  | true =>
    obtain ⟨N, hN, q2⟩ := q2
    rw [if_pos rfl]
    refine wpAny_passesOwn hp (thn (hb pins s2 σ1 H2 _ I2 q2) fun f s3 q3 => ?_)
    cases f with
    | next =>
      obtain ⟨σ3, H3, I3, n3⟩ := q3
      obtain ⟨m', hm, w3⟩ := hN σ3 H3 n3
      exact ⟨m', hm, σ3, H3, I3, w3⟩
    | cont =>
      obtain ⟨σ3, H3, I3, n3⟩ := q3
      obtain ⟨m', hm, w3⟩ := hN σ3 H3 n3
      exact ⟨m', hm, σ3, H3, I3, w3⟩
    | brk => exact q3
    | ret v => exact q3
  | false =>
    rw [if_neg Bool.false_ne_true]
    exact wpAny_execs_nil ⟨σ1, H2, I2, q2⟩
end
set_option genInjectivity false in
structure It where
  go : Nat → Hp → Prop
  yld : Nat → Hp → V → Hp → Prop
  stop : Nat → Hp → Prop
noncomputable def FpOk (X : Cx) (pins : List (Addr × Obj)) (H : Hp) (b : Addr) : Prop :=
  H b = none ∧ b ≠ X.env.locals ∧ b ∉ X.fs ∧ (b ∈ X.ex ∨ X.s_0.heap.objs.size ≤ b) ∧ (∀ x c, X.env.cells.lookup x = some c → c ≠ b) ∧ ∀ p ∈ X.pn ++ pins, p.1 ≠ b
theorem Inv.fpOk {X : Cx} {pins : List (Addr × Obj)} {σ : St} {H H' : Hp} {s : Shared} {b : Addr} (I : Inv X pins σ H s) (hb : s.heap.objs.size ≤ b) (hn : H' b = none) : FpOk X pins H' b := by
  refine ⟨hn, Nat.ne_of_gt (Nat.lt_of_lt_of_le I.lt hb), I.nofs hb, .inr (Nat.le_trans I.sz hb), fun x c e z => ?_, fun p hp z => ?_⟩
  · obtain ⟨v, q⟩ := I.cell x c e
    exact absurd (Nat.lt_of_lt_of_le q.lt (by rw [z]; exact hb)) (Nat.lt_irrefl _)
  · exact absurd (Nat.lt_of_lt_of_le (Heap.lt_size (I.pin p hp).1) (by rw [z]; exact hb)) (Nat.lt_irrefl _)
structure Turn (P : Program) (w : World) (K : PySem.W.Frag) (tg : Expr) (J : It) (fp : List Addr) (it : Addr) (tn : Nat → Heap → Prop) : Prop where
  mem : it ∈ fp
  obj : ∀ i h, tn i h → ∀ b ∈ fp, ∃ o, h.get? b = some o ∧ ∀ v, o.data ≠ .cell v
  keep : ∀ i h h', tn i h → (∀ b ∈ fp, ∀ o, h.get? b = some o → h'.get? b = some o) → tn i h'
  item : ∀ (X : Cx), X.prog = P → X.w = w → X.K = K → X.calm = true → ∀ (i : Nat) (pins : List (Addr × Obj)) (s : Shared) (σ : St) (H : Hp) (E : Value → Shared → Prop), Inv X pins σ H s → (∀ b ∈ fp, FpOk X pins H b) → tn i s.heap → J.go i H →
    wpAny (model P w) X.A (pyNext (.ref it)) (fun r s1 => ∃ u, r = some u ∧
      wpAny (model P w) X.A (letOwnedTupleGo tg (.ref it) u) (fun _ s2 => ∃ x H', Inv X pins σ H' s2 ∧ RelV x u ∧ J.yld i H x H' ∧ tn (i + 1) s2.heap ∧ ∀ b ∈ fp, H' b = none) E s1) E s
  done : ∀ (X : Cx), X.prog = P → X.w = w → X.K = K → X.calm = true → ∀ (i : Nat) (pins : List (Addr × Obj)) (s : Shared) (σ : St) (H : Hp) (E : Value → Shared → Prop), Inv X pins σ H s → (∀ b ∈ fp, FpOk X pins H b) → tn i s.heap → J.stop i H →
    wpAny (model P w) X.A (pyNext (.ref it)) (fun r s1 => r = none ∧ Inv X pins σ H s1) E s
  self : ∀ (A : Around) (i : Nat) (s : Shared) (Q : Value → Shared → Prop) (E : Value → Shared → Prop), tn i s.heap → Q (.ref it) s → wpAny (model P w) A (pyIter (.ref it)) Q E s
noncomputable abbrev TI := St → Hp → (It → Hp → Prop) → Prop
inductive PIE (X : Cx) (pins : List (Addr × Obj)) (σ : St) (tg : Expr) (R : It → Hp → Prop) (itv : Value) (s2 : Shared) : Prop
  | mk (it : Addr) (fp : List Addr) (tn : Nat → Heap → Prop) (J : It) (H' : Hp) (e : itv = .ref it) (i : Inv X pins σ H' s2) (t : Turn X.prog X.w X.K tg J fp it tn) (z : tn 0 s2.heap) (f : ∀ b ∈ fp, FpOk X pins H' b) (r : R J H')
noncomputable def PI (X : Cx) (tg iter : Expr) (wi : TI) : Prop :=
  ∀ (pins : List (Addr × Obj)) (s : Shared) (σ : St) (H : Hp) (R : It → Hp → Prop), Inv X pins σ H s → wi σ H R →
    wpAny (model X.prog X.w) X.A (eval iter X.env) (fun v s1 => wpAny (model X.prog X.w) X.A (pyIter v) (PIE X pins σ tg R) X.xe s1) X.xe s
theorem go_of {M : Model} {A : Around} {E : Value → Shared → Prop} {s : Shared} {tg : Expr} {it : Addr} {u : Value} {o : Obj} {n : String} {vs : Array Value} {Q : Unit → Shared → Prop} (ho : s.heap.get? it = some o) (hc : o.cls = .type n) (hd : o.data = .fields vs)
    (hn : ["enumerate", "zip", "dict_itemiterator", "dict_reverseitemiterator", "odict_iterator", "itertools.zip_longest", "itertools.pairwise"].contains n = false) (hQ : Q () s) : wpAny M A (letOwnedTupleGo tg (.ref it) u) Q E s := by
  unfold letOwnedTupleGo
  cases tg <;> first
    | exact wpAny_pure hQ
    | (cases u <;> first
        | exact wpAny_pure hQ
        | (refine wpAny_bind (wpAny_load ho ?_)
           rw [hc, hd]
           show wpAny M A (if (["enumerate", "zip", "dict_itemiterator", "dict_reverseitemiterator", "odict_iterator", "itertools.zip_longest", "itertools.pairwise"].contains n && vs[0]? == some (rawInt _)) = true then _ else _) Q E s
           rw [if_neg (by intro h; rw [hn, Bool.false_and] at h; cases h)]
           exact wpAny_pure hQ))
noncomputable def Itl (K : PySem.W.Frag) (a : Addr) : It :=
  ⟨fun i H => ∃ xs x, SqL K H a xs ∧ xs[i]? = some x, fun i H x H' => H' = H ∧ ∀ xs, SqL K H a xs → xs[i]? = some x, fun i H => ∃ xs, SqL K H a xs ∧ xs.length ≤ i⟩
noncomputable def Itr (lo : Int) (n : Nat) : It := ⟨fun i _ => i < n, fun i H x H' => H' = H ∧ x = .int (lo + i), fun i _ => n ≤ i⟩
theorem turn_list {P : Program} {w : World} {K : PySem.W.Frag} {tg : Expr} (a it : Addr) : Turn P w K tg (Itl K a) [it] it (fun i h => h.IsListIter it a i) where
  mem := by simp
  obj := fun i h st b hb => by
    have e : b = it := by simpa using hb
    subst e
    obtain ⟨o, e, c, d⟩ := st
    exact ⟨o, e, fun v z => by rw [d] at z; cases z⟩
  keep := fun i h h' st k => st.at fun o e => k it (by simp) o e
  item := by
    intro X hP hw hK hc i pins s σ H E I hf st hg
    subst hP hw hK
    obtain ⟨xs, x, hq, hx⟩ := hg
    obtain ⟨its, rv, p, hz⟩ := I.list hq
    obtain ⟨u, hu, ru⟩ := rv.get hx
    obtain ⟨f0, f1, f2, f3, f4, f5⟩ := hf it (by simp)
    refine wpAny_pyNext_list_item st p.isList (x := u) (by simpa using hu) fun h' st' sb => ?_
    have I1 : Inv X pins σ H { s with heap := h' } := I.turned (t' := s.toks) (fun b o hb e => (sb.2 b hb).trans e) f0 f1 f3 f4 f5
    obtain ⟨o, e, c, d⟩ := id st'
    exact ⟨u, rfl, go_of (s := { s with heap := h' }) e c d (by decide) ⟨x, H, I1, ru, ⟨rfl, fun ys hy => by rw [I.list_inj hy hq]; exact hx⟩, st', fun b hb => (hf b hb).1⟩⟩
  done := by
    intro X hP hw hK hc i pins s σ H E I hf st hg
    subst hP hw hK
    obtain ⟨xs, hq, hx⟩ := hg
    obtain ⟨its, rv, p, hz⟩ := I.list hq
    obtain ⟨f0, f1, f2, f3, f4, f5⟩ := hf it (by simp)
    have hl := rv.length
    exact wpAny_pyNext_list_end (I.ok.hd hc) st p.isList (by simp; omega) fun h' eb => ⟨rfl, I.turned (t' := s.toks) (fun b o hb e => eb b o hb e) f0 f1 f3 f4 f5⟩
  self := fun _ _ _ _ _ st h => wpAny_pyIter_listiter st h
theorem turn_range {P : Program} {w : World} {K : PySem.W.Frag} {tg : Expr} (it : Addr) (lo : Int) (n : Nat) : Turn P w K tg (Itr lo n) [it] it (fun i h => IsRangeIter h it (lo + (i : Nat) * 1) ((n : Int) - (i : Nat)) 1) where
  mem := by simp
  obj := fun i h st b hb => by
    have e : b = it := by simpa using hb
    subst e
    exact ⟨_, st, fun v z => by
      have z' : Data.fields _ = Data.cell v := z
      cases z'⟩
  keep := fun i h h' st k => k it (by simp) _ st
  item := by
    intro X hP hw hK hc i pins s σ H E I hf st hg
    subst hP hw hK
    obtain ⟨f0, f1, f2, f3, f4, f5⟩ := hf it (by simp)
    have W := Walks.range (prog := X.prog) (w := X.w) (I.ok.hd hc) it lo 1 n
    refine W.item i s _ _ hg st fun v h' tk hv st' kk => ?_
    obtain ⟨t, rfl⟩ := hv
    have I1 : Inv X pins σ H { s with heap := h', toks := tk } := I.turned (fun b o hb e => kk b o (by simpa using hb) e) f0 f1 f3 f4 f5
    refine ⟨_, rfl, go_of (s := { s with heap := h', toks := tk }) (n := "range_iterator") st' rfl rfl (by decide) ⟨.int (lo + i), H, I1, ⟨t, ?_⟩, ⟨rfl, rfl⟩, st', fun b hb => (hf b hb).1⟩⟩
    rw [Int.mul_one]
  done := by
    intro X hP hw hK hc i pins s σ H E I hf st hg
    subst hP hw hK
    obtain ⟨f0, f1, f2, f3, f4, f5⟩ := hf it (by simp)
    exact wpAny_pyNext_range_end (I.ok.hd hc) st (by have : n ≤ i := hg; omega) fun h' eb => ⟨rfl, I.turned (t' := s.toks) (fun b o hb e => eb b o hb e) f0 f1 f3 f4 f5⟩
  self := fun _ _ _ _ _ st h => wpAny_pyIter_rangeiter st h
end L2
namespace L2
open PySem PySem.Spec PyProof.Rows
section
variable {X : Cx} {tg : Expr}
inductive IListR (K : PySem.W.Frag) (R : It → Hp → Prop) (x : V) (H1 : Hp) : Prop
  | mk (a : Addr) (e : x = .ref a) (s : ∃ xs, SqL K H1 a xs) (r : R (Itl K a) H1)
noncomputable def iList (K : PySem.W.Frag) (tl : TE) : TI := fun σ H R => tl σ H (IListR K R)
theorem pi_list {l : Expr} {tl : TE} (hl : PE X l tl) : PI X tg l (iList X.K tl) := by
  intro pins s σ H R I h
  refine thn (hl pins s σ H _ I h) fun v s1 ⟨x, H1, I1, r1, q1⟩ => ?_
  obtain ⟨a, e, ⟨xs, hq⟩, q⟩ := q1
  subst e
  cases r1
  obtain ⟨its, rv, p, hz⟩ := I1.list hq
  refine wpAny_pyIter_list p.isList ?_
  refine ⟨s1.heap.objs.size, [s1.heap.objs.size], _, _, H1, rfl, I1.kept (t' := s1.toks) fun b o e => Heap.get?_push_of_some _ e, turn_list a _, ⟨_, Heap.get?_push_size _ rfl, rfl, rfl⟩, fun b hb => ?_, q⟩
  have e : b = s1.heap.objs.size := by simpa using hb
  subst e
  exact I1.fpOk (Nat.le_refl _) (I1.hok.fresh (Nat.le_refl _))
theorem range_it {pins : List (Addr × Obj)} {σ : St} {H : Hp} {s : Shared} {R : It → Hp → Prop} {E : Value → Shared → Prop} {lo hi : Int} {t u v : Tok} {tk : Nat} (I : Inv X pins σ H s) (h1 : -(2 ^ 62) ≤ lo) (h2 : lo < 2 ^ 62) (h3 : -(2 ^ 62) ≤ hi) (h4 : hi < 2 ^ 62)
    (q : R (Itr lo (hi - lo).toNat) H) : wpAny (model X.prog X.w) X.A (pyIter (.ref s.heap.objs.size)) (PIE X pins σ tg R) E { s with heap := s.heap.push { cls := .type "range", data := .fields #[.int lo t, .int hi u, .int 1 v] }, toks := tk } := by
  refine wpAny_pyIter_range (IsRange.new ..) (small_one h1 h2 h3 h4) ?_
  have I1 : Inv X pins σ H { s with heap := s.heap.push { cls := .type "range", data := .fields #[.int lo t, .int hi u, .int 1 v] }, toks := tk } := I.kept fun b o e => Heap.get?_push_of_some _ e
  refine ⟨(s.heap.push { cls := .type "range", data := .fields #[.int lo t, .int hi u, .int 1 v] }).objs.size, [(s.heap.push { cls := .type "range", data := .fields #[.int lo t, .int hi u, .int 1 v] }).objs.size], _, _, H, rfl,
    I1.kept (t' := tk) fun b o e => Heap.get?_push_of_some _ e, turn_range _ lo (hi - lo).toNat, ?_, fun b hb => ?_, q⟩
  · have e1 : lo + ((0 : Nat) : Int) * 1 = lo := by simp
    have e2 : (((hi - lo).toNat : Nat) : Int) - ((0 : Nat) : Int) = Builtin.Range.rangeSize lo hi 1 := by rw [rangeSize_one]; split <;> omega
    show IsRangeIter _ _ (lo + ((0 : Nat) : Int) * 1) ((((hi - lo).toNat : Nat) : Int) - ((0 : Nat) : Int)) 1
    rw [e1, e2]
    exact Heap.get?_push_size _ rfl
  · have e : b = (s.heap.push { cls := .type "range", data := .fields #[.int lo t, .int hi u, .int 1 v] }).objs.size := by simpa using hb
    subst e
    exact I1.fpOk (Nat.le_refl _) (I1.hok.fresh (Nat.le_refl _))
inductive IRng1R (R : It → Hp → Prop) (vs : List V) (H1 : Hp) : Prop
  | mk (j : Int) (e : vs = [.int j]) (l : -(2 ^ 62) ≤ j) (u : j < 2 ^ 62) (r : R (Itr 0 j.toNat) H1)
noncomputable def iRng1 (ta : TA) : TI := fun σ H R => ta σ H (IRng1R R)
theorem pi_range1 {a : Expr} {ta : TA} {p pos : Pos} (hg : Gl X "range") (hm : X.mg "range" = none) (ha : PA X [a] ta) (hs : starEach [a] X.env = [(false, eval a X.env)] := by rfl) : PI X tg (.Call (.Name "range" p) [a] [] pos) (iRng1 ta) := by
  intro pins s σ H R I h
  refine Call_ (ld_blt I hg hm boot_range (PyProof.Rows.callWith_type1 (thn (ha pos pins s σ H _ I h) fun us s1 ⟨vs, H1, I1, r1, q1⟩ => ?_) hs rfl))
  obtain ⟨j, e, q1, q2, q⟩ := q1
  subst e
  cases r1 with
  | cons r rr =>
    cases rr
    obtain ⟨t, rfl⟩ := r
    exact call_range_1 (range_it I1 (by omega) (by omega) q1 q2 (by simpa using q))
noncomputable def tFor (wi : TI) (g : TG) (tb : TS) : TS := fun D σ H => wi σ H fun J H1 => ∃ W : Nat → Nat → St → Hp → Prop, (∃ m, W 0 m σ H1) ∧ ∀ i m σ H, W i m σ H →
  (J.stop i H ∧ D.nx σ H) ∨ (J.go i H ∧ ∃ N : St → Hp → Prop, (∀ σ' H', N σ' H' → ∃ m', m' < m ∧ W (i + 1) m' σ' H') ∧ ∀ x H', J.yld i H x H' → g x σ H' fun σ2 H2 => tb { D with nx := N, ct := N, bk := D.nx } σ2 H2)
noncomputable def pinsAt (fp : List Addr) (h : Heap) : List (Addr × Obj) := fp.filterMap fun b => (h.get? b).map fun o => (b, o)
theorem mem_pinsAt {fp : List Addr} {h : Heap} {b : Addr} {o : Obj} (hb : b ∈ fp) (e : h.get? b = some o) : (b, o) ∈ pinsAt fp h := List.mem_filterMap.mpr ⟨b, hb, by rw [e]; rfl⟩
theorem of_pinsAt {fp : List Addr} {h : Heap} {p : Addr × Obj} (hp : p ∈ pinsAt fp h) : p.1 ∈ fp ∧ h.get? p.1 = some p.2 := by
  obtain ⟨b, hb, e⟩ := List.mem_filterMap.mp hp
  cases q : h.get? b with
  | none => rw [q] at e; cases e
  | some o =>
    rw [q] at e
    have e' : (b, o) = p := Option.some.inj e
    subst e'
    exact ⟨hb, q⟩
theorem Inv.pinned {pins : List (Addr × Obj)} {σ : St} {H : Hp} {s : Shared} {fp : List Addr} (I : Inv X pins σ H s) (hf : ∀ b ∈ fp, FpOk X pins H b) (ho : ∀ b ∈ fp, ∃ o, s.heap.get? b = some o ∧ ∀ v, o.data ≠ .cell v) : Inv X (pins ++ pinsAt fp s.heap) σ H s :=
  I.pins_of fun p hp => (List.mem_append.mp hp).elim (fun z => I.pin p (List.mem_append_right _ z)) fun z => by
    obtain ⟨hb, e⟩ := of_pinsAt z
    obtain ⟨f0, f1, f2, _⟩ := hf p.1 hb
    obtain ⟨o, e', d⟩ := ho p.1 hb
    rw [e] at e'; cases e'
    exact ⟨e, f0, f1, f2, d⟩
theorem Inv.unpinned {pins pl : List (Addr × Obj)} {σ : St} {H : Hp} {s : Shared} (I : Inv X (pins ++ pl) σ H s) : Inv X pins σ H s := I.pins_of fun p hp => I.pin p (List.mem_append_right _ (List.mem_append_left _ hp))
theorem ps_for {iter : Expr} {body : List Stmt} {wi : TI} {g : TG} {tb : TS} {pos : Pos} (hp : PassesOwn (model X.prog X.w) X.A X.env X.xe) (hc : X.calm = true) (hi : PI X tg iter wi) (hg : PG X tg g) (hb : PSs X body tb)
    (hs : ∀ x, foldedSetIterable iter X.env x = pure x := by intro _; rfl) : PS X (.For tg iter body [] pos) (tFor wi g tb) := by
  intro pins s σ H D I h
  refine wpAny_For (thn (hi pins s σ H _ I h) fun v s1 h1 => thn h1 fun itv s2 h2 => ?_) hs
  obtain ⟨it, fp, tn, J, H2, e, I2, T, st2, f2, W, ⟨m0, w0⟩, turn⟩ := h2
  subst e
  -- what stays true of the iterator's objects through the loop
  have stat : ∀ {H' : Hp}, (∀ b ∈ fp, H' b = none) → ∀ b ∈ fp, FpOk X pins H' b := fun hn b hb => ⟨hn b hb, (f2 b hb).2⟩
  refine codeAny_forLoop_any (fun n s' => ∃ i σ' H', Inv X pins σ' H' s' ∧ tn i s'.heap ∧ (∀ b ∈ fp, H' b = none) ∧ W i n σ' H') ?_ m0 ⟨0, σ, H2, I2, st2, fun b hb => (f2 b hb).1, w0⟩
  rintro n s3 ⟨i, σ3, H3, I3, st3, fr3, w3⟩
  rcases turn i n σ3 H3 w3 with ⟨stop, qn⟩ | ⟨go, N, hN, step⟩
  · refine wpAny_passesOwn hp (thn (T.done X rfl rfl rfl hc i pins s3 σ3 H3 X.xe I3 (stat fr3) st3 stop) fun r s4 ⟨hr, I4⟩ => ?_)
    subst hr
    exact wpAny_execs_nil ⟨σ3, H3, I4, qn⟩
  · refine wpAny_passesOwn hp (thn (T.item X rfl rfl rfl hc i pins s3 σ3 H3 X.xe I3 (stat fr3) st3 go) fun r s4 ⟨u, hr, h4⟩ => ?_)
    subst hr
    refine wpAny_passesOwn hp (thn h4 fun _ s5 ⟨x, H5, I5, r5, y5, st5, fr5⟩ => ?_)
    have I5' := I5.pinned (stat fr5) (T.obj _ _ st5)
    refine wpAny_passesOwn hp (thn (hg _ s5 σ3 H5 x u _ I5' r5 (step x H5 y5)) fun _ s6 ⟨σ6, H6, I6, q6⟩ => ?_)
    refine wpAny_passesOwn hp (thn (hb _ s6 σ6 H6 _ I6 q6) fun f s7 q7 => ?_)
    have again : ∀ {σ7 : St} {H7 : Hp}, Inv X (pins ++ pinsAt fp s5.heap) σ7 H7 s7 → N σ7 H7 → ∃ m, m < n ∧ ∃ i σ' H', Inv X pins σ' H' s7 ∧ tn i s7.heap ∧ (∀ b ∈ fp, H' b = none) ∧ W i m σ' H' := fun {σ7 H7} I7 n7 => by
      obtain ⟨m', hm, w7⟩ := hN σ7 H7 n7
      refine ⟨m', hm, i + 1, σ7, H7, I7.unpinned, T.keep _ _ _ st5 fun b hb o e => (I7.pin (b, o) (List.mem_append_right _ (List.mem_append_right _ (mem_pinsAt hb e)))).1, fun b hb => ?_, w7⟩
      obtain ⟨o, e, d⟩ := T.obj _ _ st5 b hb
      exact (I7.pin (b, o) (List.mem_append_right _ (List.mem_append_right _ (mem_pinsAt hb e)))).2.1
    cases f with
    | next => obtain ⟨σ7, H7, I7, n7⟩ := q7; exact again I7 n7
    | cont => obtain ⟨σ7, H7, I7, n7⟩ := q7; exact again I7 n7
    | brk => obtain ⟨σ7, H7, I7, q7⟩ := q7; exact ⟨σ7, H7, I7.unpinned, q7⟩
    | ret v => obtain ⟨x7, σ7, H7, I7, r7, q7⟩ := q7; exact ⟨x7, σ7, H7, I7.unpinned, r7, q7⟩
end
theorem for_list {K : PySem.W.Frag} {a : Addr} {xs : List V} {g : TG} {tb : TS} {D : Ends} {σ : St} {H : Hp} (Pv : Nat → St → Hp → Prop) (h0 : Pv 0 σ H) (hl : ∀ i σ H, i ≤ xs.length → Pv i σ H → SqL K H a xs)
    (hs : ∀ i x σ H, xs[i]? = some x → Pv i σ H → g x σ H fun σ2 H2 => tb { D with nx := Pv (i + 1), ct := Pv (i + 1), bk := D.nx } σ2 H2) (hd : ∀ σ H, Pv xs.length σ H → D.nx σ H) :
    ∃ W : Nat → Nat → St → Hp → Prop, (∃ m, W 0 m σ H) ∧ ∀ i m σ H, W i m σ H →
      ((Itl K a).stop i H ∧ D.nx σ H) ∨ ((Itl K a).go i H ∧ ∃ N : St → Hp → Prop, (∀ σ' H', N σ' H' → ∃ m', m' < m ∧ W (i + 1) m' σ' H') ∧ ∀ x H', (Itl K a).yld i H x H' → g x σ H' fun σ2 H2 => tb { D with nx := N, ct := N, bk := D.nx } σ2 H2) := by
  refine ⟨fun i m σ H => m = xs.length - i ∧ i ≤ xs.length ∧ Pv i σ H, ⟨xs.length, by simp, Nat.zero_le _, h0⟩, ?_⟩
  rintro i m σ H ⟨rfl, hi, p⟩
  have q := hl i σ H hi p
  by_cases hlt : i < xs.length
  · refine .inr ⟨⟨xs, xs[i], q, by simp [hlt]⟩, Pv (i + 1), fun σ' H' p' => ⟨xs.length - (i + 1), by omega, rfl, hlt, p'⟩, fun x H' y => ?_⟩
    obtain ⟨e, y⟩ := y
    subst e
    exact hs i x σ _ (y xs q) p
  · have e : i = xs.length := by omega
    subst e
    exact .inl ⟨⟨xs, q, Nat.le_refl _⟩, hd σ H p⟩
end L2
namespace L2
open PySem PySem.Spec PyProof.Rows
noncomputable abbrev R2 := V → V → Hp → VK → Prop
noncomputable def OpR (X : Cx) (f : Value → Value → Sem Value) (r : R2) : Prop :=
  ∀ (pins : List (Addr × Obj)) (s : Shared) (σ : St) (H : Hp) (x y : V) (v u : Value) (Q : VK), Inv X pins σ H s → RelV x v → RelV y u → r x y H Q →
    wpAny (model X.prog X.w) X.A (f v u) (EP X pins σ Q) X.xe s
noncomputable def UnR (X : Cx) (f : Value → Sem Value) (r : V → Hp → VK → Prop) : Prop :=
  ∀ (pins : List (Addr × Obj)) (s : Shared) (σ : St) (H : Hp) (x : V) (v : Value) (Q : VK), Inv X pins σ H s → RelV x v → r x H Q →
    wpAny (model X.prog X.w) X.A (f v) (EP X pins σ Q) X.xe s
noncomputable def CallR (X : Cx) (f : Value) (r : List V → Hp → VK → Prop) : Prop :=
  ∀ (pins : List (Addr × Obj)) (s : Shared) (σ : St) (H : Hp) (xs : List V) (us : List Value) (Q : VK), Inv X pins σ H s → Vals xs us → r xs H Q →
    wpAny (model X.prog X.w) X.A (call f us) (EP X pins σ Q) X.xe s
noncomputable def TruR (X : Cx) (r : V → Hp → (Bool → Hp → Prop) → Prop) : Prop :=
  ∀ (pins : List (Addr × Obj)) (s : Shared) (σ : St) (H : Hp) (x : V) (v : Value) (Q : Bool → Hp → Prop), Inv X pins σ H s → RelV x v → r x H Q →
    wpAny (model X.prog X.w) X.A (truthy v) (TP X pins σ Q) X.xe s
noncomputable def tOp (r : R2) (ta tb : TE) : TE := fun σ H Q => ta σ H fun x H1 => tb σ H1 fun y H2 => r x y H2 Q
noncomputable def tUn (r : V → Hp → VK → Prop) (ta : TE) : TE := fun σ H Q => ta σ H fun x H1 => r x H1 Q
inductive IntR (C : Int → Int → Prop) (g : Int → Int → V) (x y : V) (H : Hp) (Q : VK) : Prop
  | mk (i j : Int) (ex : x = .int i) (ey : y = .int j) (c : C i j) (q : Q (g i j) H)
inductive Int1R (g : Int → V) (x : V) (H : Hp) (Q : VK) : Prop
  | mk (i : Int) (ex : x = .int i) (q : Q (g i) H)
noncomputable def rI (C : Int → Int → Prop) (g : Int → Int → V) : R2 := IntR C g
noncomputable def rI0 (g : Int → Int → V) : R2 := Int0R g
noncomputable def rU (g : Int → V) : V → Hp → VK → Prop := Int1R g
section
variable {X : Cx} {a b c : Expr} {ta tb tc : TE} {pos : Pos}
theorem binT (ha : PE X a ta) (hb : PE X b tb) {pins : List (Addr × Obj)} {s : Shared} {σ : St} {H : Hp} {R : V → V → Hp → Prop} (I : Inv X pins σ H s)
    (h : ta σ H fun x H1 => tb σ H1 fun y H2 => R x y H2) {Q : Value → Shared → Prop} {f : Value → Value → Sem Value}
    (hf : ∀ v u s2 x y H2, Inv X pins σ H2 s2 → RelV x v → RelV y u → R x y H2 → wpAny (model X.prog X.w) X.A (f v u) Q X.xe s2) :
    wpAny (model X.prog X.w) X.A (eval a X.env) (fun v s₁ => wpAny (model X.prog X.w) X.A (eval b X.env) (fun u s₂ => wpAny (model X.prog X.w) X.A (f v u) Q X.xe s₂) X.xe s₁) X.xe s := by
  refine thn (ha pins s σ H _ I h) fun v s1 ⟨x, H1, I1, r1, q1⟩ => ?_
  refine thn (hb pins s1 σ H1 _ I1 q1) fun u s2 ⟨y, H2, I2, r2, q2⟩ => ?_
  exact hf v u s2 x y H2 I2 r1 r2 q2
theorem pe_op {op : Operator} {r : R2} (ho : OpR X (binaryOp op) r) (ha : PE X a ta) (hb : PE X b tb) : PE X (.BinOp a op b pos) (tOp r ta tb) := by
  intro pins s σ H Q I h
  exact wpAny_BinOp (binT ha hb I h fun v u s2 x y H2 I2 rx ry q => ho pins s2 σ H2 x y v u Q I2 rx ry q)
theorem pe_un {op : UnaryOp} {r : V → Hp → VK → Prop} (ho : UnR X (unaryOp op) r) (ha : PE X a ta) : PE X (.UnaryOp op a pos) (tUn r ta) := by
  intro pins s σ H Q I h
  exact UnaryOp_ (thn (ha pins s σ H _ I h) fun v s1 ⟨x, H1, I1, r1, q1⟩ => ho pins s1 σ H1 x v Q I1 r1 q1)
theorem opI {f : Value → Value → Sem Value} {C : Int → Int → Prop} {g : Int → Int → Int}
    (rule : ∀ (i j : Int) (t u : Tok) (s : Shared) (Q : Value → Shared → Prop) (E : Value → Shared → Prop), C i j → Q (.int (g i j) s.toks) { s with toks := s.toks + 1 } → wpAny (model X.prog X.w) X.A (f (.int i t) (.int j u)) Q E s) :
    OpR X f (rI C fun i j => .int (g i j)) := by
  intro pins s σ H x y v u Q I rx ry h
  obtain ⟨i, j, rfl, rfl, hc, q⟩ := h
  obtain ⟨t, rfl⟩ := rx
  obtain ⟨t', rfl⟩ := ry
  exact rule i j t t' s _ _ hc ⟨.int (g i j), H, I.tok _, ⟨_, rfl⟩, q⟩
theorem opI0 {f : Value → Value → Sem Value} {g : Int → Int → Int}
    (rule : ∀ (i j : Int) (t u : Tok) (s : Shared) (Q : Value → Shared → Prop) (E : Value → Shared → Prop), Q (.int (g i j) s.toks) { s with toks := s.toks + 1 } → wpAny (model X.prog X.w) X.A (f (.int i t) (.int j u)) Q E s) :
    OpR X f (rI0 fun i j => .int (g i j)) := by
  intro pins s σ H x y v u Q I rx ry h
  obtain ⟨i, j, rfl, rfl, q⟩ := h
  obtain ⟨t, rfl⟩ := rx
  obtain ⟨t', rfl⟩ := ry
  exact rule i j t t' s _ _ ⟨.int (g i j), H, I.tok _, ⟨_, rfl⟩, q⟩
theorem opB0 {f : Value → Value → Sem Value} {g : Int → Int → Bool}
    (rule : ∀ (i j : Int) (t u : Tok) (s : Shared) (Q : Value → Shared → Prop) (E : Value → Shared → Prop), Q (.bool (g i j)) s → wpAny (model X.prog X.w) X.A (f (.int i t) (.int j u)) Q E s) :
    OpR X f (rI0 fun i j => .bl (g i j)) := by
  intro pins s σ H x y v u Q I rx ry h
  obtain ⟨i, j, rfl, rfl, q⟩ := h
  obtain ⟨t, rfl⟩ := rx
  obtain ⟨t', rfl⟩ := ry
  exact rule i j t t' s _ _ ⟨.bl (g i j), H, I, rfl, q⟩
noncomputable def CPow (i j : Int) : Prop := 0 ≤ j ∧ j ≤ 1000000 ∧ i.natAbs < 2 ^ 64
theorem two_pow_nn (k : Nat) : (0 : Int) ≤ 2 ^ k := by
  rw [two_pow_cast]
  exact Int.natCast_nonneg _
theorem op_add : OpR X (binaryOp .Add) (rI0 fun i j => .int (i + j)) := opI0 fun _ _ _ _ _ _ _ q => add_int q
theorem op_sub : OpR X (binaryOp .Sub) (rI0 fun i j => .int (i - j)) := opI0 fun _ _ _ _ _ _ _ q => sub_int q
theorem op_shl : OpR X (binaryOp .LShift) (rI CPow fun i j => .int (i * 2 ^ j.toNat)) := opI fun _ _ _ _ _ _ _ hc q => lshift_int_small hc.1 hc.2.1 hc.2.2 q
theorem op_shr : OpR X (binaryOp .RShift) (rI (fun _ j => 0 ≤ j) fun i j => .int (i / 2 ^ j.toNat)) := opI fun i j _ _ _ _ _ hc q =>
  rshift_int hc (by rw [Int.fdiv_eq_ediv_of_nonneg i (two_pow_nn _)]; exact q)
theorem op_and : OpR X (binaryOp .BitAnd) (rI0 fun i j => .int (Builtin.bitAnd i j)) := opI0 fun _ _ _ _ _ _ _ q => and_int q
theorem unI {f : Value → Sem Value} {g : Int → Int}
    (rule : ∀ (i : Int) (t : Tok) (s : Shared) (Q : Value → Shared → Prop) (E : Value → Shared → Prop), Q (.int (g i) s.toks) { s with toks := s.toks + 1 } → wpAny (model X.prog X.w) X.A (f (.int i t)) Q E s) :
    UnR X f (rU fun i => .int (g i)) := by
  intro pins s σ H x v Q I rx h
  obtain ⟨i, rfl, q⟩ := h
  obtain ⟨t, rfl⟩ := rx
  exact rule i t s _ _ ⟨.int (g i), H, I.tok _, ⟨_, rfl⟩, q⟩
theorem un_neg : UnR X (unaryOp .USub) (rU fun i => .int (-i)) := unI fun _ _ _ _ _ q => neg_int q
end
noncomputable def scal : V → V → Bool
  | .non, .non => true | .non, .int _ => true | .int _, .non => true | .non, .bl _ => true | .bl _, .non => true | .non, .str _ => true | .str _, .non => true
  | .int _, .int _ => true | .bl _, .bl _ => true | .str _, .str _ => true | .byt _, .byt _ => true
  | .int _, .str _ => true | .str _, .int _ => true | .bl _, .str _ => true | .str _, .bl _ => true
  | _, _ => false
noncomputable def rEq : R2 := fun x y H Q => scal x y = true ∧ Q (.bl (decide (x = y))) H
noncomputable def rNe : R2 := fun x y H Q => scal x y = true ∧ Q (.bl (!decide (x = y))) H
theorem dec_int {i j : Int} : decide (V.int i = V.int j) = (i == j) := by
  rw [Bool.eq_iff_iff]
  simp
theorem dec_bl {i j : Bool} : decide (V.bl i = V.bl j) = (i == j) := by
  rw [Bool.eq_iff_iff]
  simp
theorem dec_str {i j : Str} : decide (V.str i = V.str j) = (i == j) := by
  rw [Bool.eq_iff_iff]
  simp
theorem dec_byt {i j : Array UInt8} : decide (V.byt i = V.byt j) = (i.toList == j.toList) := by
  rw [Bool.eq_iff_iff]
  cases i
  cases j
  simp
section
variable {X : Cx} {a b c : Expr} {ta tb tc : TE} {pos : Pos}
theorem fin_bl {pins : List (Addr × Obj)} {σ : St} {H : Hp} {s : Shared} {Q : VK} {k k' : Bool} (I : Inv X pins σ H s) (q : Q (.bl k) H) (e : k = k') : EP X pins σ Q (.bool k') s := by
  subst e
  exact ⟨.bl k, H, I, rfl, q⟩
theorem op_eq : OpR X (compareOp .Eq) rEq := by
  intro pins s σ H x y v u Q I rx ry h
  obtain ⟨hs, q⟩ := h
  cases x with
  | non =>
    cases rx
    cases y with
    | non => cases ry; exact PySem.EqNone.eq_none_none (fin_bl I q (by simp))
    | bl j => cases ry; exact PySem.EqNone.eq_none_bool (fin_bl I q (by simp))
    | int j => obtain ⟨t', rfl⟩ := ry; exact PySem.EqNone.eq_none_int (fin_bl I q (by simp))
    | str j => obtain ⟨t', rfl⟩ := ry; exact PySem.EqNone.eq_none_str (fin_bl I q (by simp))
    | _ => exact absurd (show false = true from hs) Bool.false_ne_true
  | bl i =>
    cases rx
    cases y with
    | non => cases ry; exact PySem.EqNone.eq_bool_none (fin_bl I q (by simp))
    | bl j => cases ry; exact eq_bool (fin_bl I q dec_bl)
    | str j => obtain ⟨t', rfl⟩ := ry; exact PySem.EqMixed.eq_bool_str (fin_bl I q (by simp))
    | _ => exact absurd (show false = true from hs) Bool.false_ne_true
  | int i =>
    obtain ⟨t, rfl⟩ := rx
    cases y with
    | non => cases ry; exact PySem.EqNone.eq_int_none (fin_bl I q (by simp))
    | int j => obtain ⟨t', rfl⟩ := ry; exact eq_int (fin_bl I q dec_int)
    | str j => obtain ⟨t', rfl⟩ := ry; exact PySem.EqMixed.eq_int_str (fin_bl I q (by simp))
    | _ => exact absurd (show false = true from hs) Bool.false_ne_true
  | str i =>
    obtain ⟨t, rfl⟩ := rx
    cases y with
    | non => cases ry; exact PySem.EqNone.eq_str_none (fin_bl I q (by simp))
    | bl j => cases ry; exact PySem.EqMixed.eq_str_bool (fin_bl I q (by simp))
    | int j => obtain ⟨t', rfl⟩ := ry; exact PySem.EqMixed.eq_str_int (fin_bl I q (by simp))
    | str j => obtain ⟨t', rfl⟩ := ry; exact eq_str (fin_bl I q dec_str)
    | _ => exact absurd (show false = true from hs) Bool.false_ne_true
  | byt i =>
    obtain ⟨t, rfl⟩ := rx
    cases y with
    | byt j => obtain ⟨t', rfl⟩ := ry; exact PySem.W.eq_bytes (fin_bl I q dec_byt)
    | _ => exact absurd (show false = true from hs) Bool.false_ne_true
  | _ => cases y <;> exact absurd (show false = true from hs) Bool.false_ne_true
theorem op_ne : OpR X (compareOp .NotEq) rNe := by
  intro pins s σ H x y v u Q I rx ry h
  obtain ⟨hs, q⟩ := h
  cases x with
  | non =>
    cases rx
    cases y with
    | non => cases ry; exact PySem.EqNone.ne_none_none (fin_bl I q (by simp))
    | bl j => cases ry; exact PySem.EqNone.ne_none_bool (fin_bl I q (by simp))
    | int j => obtain ⟨t', rfl⟩ := ry; exact PySem.EqNone.ne_none_int (fin_bl I q (by simp))
    | str j => obtain ⟨t', rfl⟩ := ry; exact PySem.EqNone.ne_none_str (fin_bl I q (by simp))
    | _ => exact absurd (show false = true from hs) Bool.false_ne_true
  | bl i =>
    cases rx
    cases y with
    | non => cases ry; exact PySem.EqNone.ne_bool_none (fin_bl I q (by simp))
    | bl j => cases ry; exact ne_bool (fin_bl I q (congrArg not dec_bl))
    | str j => obtain ⟨t', rfl⟩ := ry; exact PySem.EqMixed.ne_bool_str (fin_bl I q (by simp))
    | _ => exact absurd (show false = true from hs) Bool.false_ne_true
  | int i =>
    obtain ⟨t, rfl⟩ := rx
    cases y with
    | non => cases ry; exact PySem.EqNone.ne_int_none (fin_bl I q (by simp))
    | int j => obtain ⟨t', rfl⟩ := ry; exact ne_int (fin_bl I q (congrArg not dec_int))
    | str j => obtain ⟨t', rfl⟩ := ry; exact PySem.EqMixed.ne_int_str (fin_bl I q (by simp))
    | _ => exact absurd (show false = true from hs) Bool.false_ne_true
  | str i =>
    obtain ⟨t, rfl⟩ := rx
    cases y with
    | non => cases ry; exact PySem.EqNone.ne_str_none (fin_bl I q (by simp))
    | bl j => cases ry; exact PySem.EqMixed.ne_str_bool (fin_bl I q (by simp))
    | int j => obtain ⟨t', rfl⟩ := ry; exact PySem.EqMixed.ne_str_int (fin_bl I q (by simp))
    | str j => obtain ⟨t', rfl⟩ := ry; exact ne_str (fin_bl I q (congrArg not dec_str))
    | _ => exact absurd (show false = true from hs) Bool.false_ne_true
  | byt i =>
    obtain ⟨t, rfl⟩ := rx
    cases y with
    | byt j => obtain ⟨t', rfl⟩ := ry; exact PySem.W.ne_bytes (fin_bl I q (congrArg not dec_byt))
    | _ => exact absurd (show false = true from hs) Bool.false_ne_true
  | _ => cases y <;> exact absurd (show false = true from hs) Bool.false_ne_true
theorem op_lt : OpR X (compareOp .Lt) (rI0 fun i j => .bl (decide (i < j))) := opB0 fun _ _ _ _ _ _ _ q => lt_int q
theorem op_le : OpR X (compareOp .LtE) (rI0 fun i j => .bl (decide (i ≤ j))) := opB0 fun _ _ _ _ _ _ _ q => le_int q
theorem op_gt : OpR X (compareOp .Gt) (rI0 fun i j => .bl (decide (j < i))) := opB0 fun _ _ _ _ _ _ _ q => gt_int q
theorem op_ge : OpR X (compareOp .GtE) (rI0 fun i j => .bl (decide (j ≤ i))) := opB0 fun _ _ _ _ _ _ _ q => ge_int q
theorem nomark (b : Expr) {op : CmpOp} (h : op ≠ .In := by decide) (h2 : op ≠ .NotIn := by decide) : behindInMarks op b = false := by
  have e1 : (op == CmpOp.In) = false := by cases op <;> first | rfl | exact absurd rfl h
  have e2 : (op == CmpOp.NotIn) = false := by cases op <;> first | rfl | exact absurd rfl h2
  cases b <;> simp [behindInMarks, e1, e2]
theorem pe_cmpR {op : CmpOp} {r : R2} (ho : OpR X (compareOp op) r) (ha : PE X a ta) (hb : PE X b tb) (hm : behindInMarks op b = false) : PE X (.Compare a [op] [b] pos) (tOp r ta tb) := by
  intro pins s σ H Q I h
  exact wpAny_Compare1 (binT ha hb I h fun v u s2 x y H2 I2 rx ry q => ho pins s2 σ H2 x y v u Q I2 rx ry q) hm
noncomputable def tTest (t : TE) : TT := fun σ H Q => t σ H (BlR Q)
theorem pt_cmpR {op : CmpOp} {r : R2} (ho : OpR X (compareOp op) r) (ha : PE X a ta) (hb : PE X b tb) (hm : behindInMarks op b = false) : PT X (.Compare a [op] [b] pos) (tTest (tOp r ta tb)) := by
  intro pins s σ H Q I h
  refine wpAny_isTrue_Compare1 (thn (ha pins s σ H _ I h) fun v s1 ⟨x, H1, I1, r1, q1⟩ => thn (hb pins s1 σ H1 _ I1 q1) fun u s2 ⟨y, H2, I2, r2, q2⟩ =>
    thn (ho pins s2 σ H2 x y v u _ I2 r1 r2 q2) fun c s3 ⟨z, H3, I3, r3, k, e, q3⟩ => ?_) hm
  subst e
  cases r3
  exact wpAny_truthy_bool ⟨H3, I3, q3⟩
noncomputable def tChain (r r' : R2) (ta tb tc : TE) : TE := fun σ H Q => ta σ H fun x H1 => tb σ H1 fun y H2 => r x y H2 (BlR fun k H3 =>
  (if k = true then tc σ H3 fun w' H4 => r' y w' H4 Q else Q (.bl false) H3))
theorem pt_chain {op op' : CmpOp} {r r' : R2} (ho : OpR X (compareOp op) r) (ho' : OpR X (compareOp op') r') (ha : PE X a ta) (hb : PE X b tb) (hc : PE X c tc)
    (hm : lastMarks [op, op'] [b, c] = false := by with_unfolding_all rfl) : PT X (.Compare a [op, op'] [b, c] pos) (tTest (tChain r r' ta tb tc)) := by
  intro pins s σ H Q I h
  refine isTrue_chain (thn (ha pins s σ H _ I h) fun v s1 ⟨x, H1, I1, r1, q1⟩ => test_link (thn (hb pins s1 σ H1 _ I1 q1) fun u s2 ⟨y, H2, I2, r2, q2⟩ =>
    thn (ho pins s2 σ H2 x y v u _ I2 r1 r2 q2) fun d s3 ⟨z, H3, I3, r3, k, e, q3⟩ => ?_)) hm
  subst e
  cases r3
  refine wpAny_truthy_bool ?_
  cases k with
  | false =>
    obtain ⟨k', e', q'⟩ := q3
    cases e'
    exact ite_ff ⟨H3, I3, q'⟩
  | true =>
    refine ite_tt (test_last (thn (hc pins s3 σ H3 _ I3 q3) fun w' s4 ⟨z', H4, I4, r4, q4⟩ => thn (ho' pins s4 σ H4 y z' u w' _ I4 r2 r4 q4) fun d' s5 ⟨z2, H5, I5, r5, k2, e2, q5⟩ => ?_))
    subst e2
    cases r5
    exact wpAny_truthy_bool ⟨H5, I5, q5⟩
noncomputable def TruV (K : PySem.W.Frag) (x : V) (H : Hp) (k : Bool) : Prop :=
  match x with
  | .non => k = false
  | .bl b => k = b
  | .int i => k = (i != 0)
  | .str y => y.length ≤ sizeLine ∧ k = ((y.length : Int) != 0)
  | .byt y => y.size ≤ sizeLine ∧ k = ((y.size : Int) != 0)
  | .ref p => (∃ xs, SqL K H p xs ∧ k = !xs.isEmpty) ∨ (∃ xs, SqT K H p xs ∧ k = !xs.isEmpty) ∨ ∃ kvs, H p = some (.dK kvs) ∧ k = !kvs.isEmpty
  | _ => False
theorem isEmpty_kv {κ : Type} {kvs : List (κ × V)} {vs : List (κ × Value)} (r : KV kvs vs) : (!vs.isEmpty) = !kvs.isEmpty := by
  cases r <;> rfl
theorem isEmpty_of {xs : List V} {its : List Value} (r : Vals xs its) : (!its.toArray.isEmpty) = !xs.isEmpty := by
  cases r <;> simp
theorem line63 : (sizeLine : Nat) < 2 ^ 63 := by rw [sizeLine_eq]; decide
inductive TruthR (K : PySem.W.Frag) (Q : Bool → Hp → Prop) (x : V) (H : Hp) : Prop
  | mk (k : Bool) (t : TruV K x H k) (q : Q k H)
theorem tru_ok : TruR X (fun x H Q => TruthR X.K Q x H) := by
  intro pins s σ H x v Q I rx h
  obtain ⟨k, e, q⟩ := h
  have hl := line63
  have hs : sizeLine = 16777216 := sizeLine_eq
  cases x with
  | non =>
    cases rx
    have e' : k = false := e
    subst e'
    exact truthy_none ⟨H, I, q⟩
  | bl b =>
    cases rx
    have e' : k = b := e
    subst e'
    exact wpAny_truthy_bool ⟨H, I, q⟩
  | int i =>
    obtain ⟨t, rfl⟩ := rx
    have e' : k = (i != 0) := e
    subst e'
    exact PySem.P.truthy_int ⟨H, I, q⟩
  | str y =>
    obtain ⟨t, rfl⟩ := rx
    obtain ⟨hy, e'⟩ : y.length ≤ sizeLine ∧ k = ((y.length : Int) != 0) := e
    subst e'
    exact PySem.P.truthy_str (by omega) ⟨H, I.tok _, q⟩
  | byt y =>
    obtain ⟨t, rfl⟩ := rx
    obtain ⟨hy, e'⟩ : y.size ≤ sizeLine ∧ k = ((y.size : Int) != 0) := e
    subst e'
    exact PySem.W.truthy_bytes (by omega) ⟨H, I.tok _, q⟩
  | ref p =>
    cases rx
    have e' : (∃ xs, SqL X.K H p xs ∧ k = !xs.isEmpty) ∨ (∃ xs, SqT X.K H p xs ∧ k = !xs.isEmpty) ∨ ∃ kvs, H p = some (.dK kvs) ∧ k = !kvs.isEmpty := e
    rcases e' with ⟨xs, hx, e'⟩ | ⟨xs, hx, e'⟩ | ⟨kvs, hx, e'⟩
    · subst e'
      obtain ⟨its, r, pl, hz⟩ := I.list hx
      have hlen := r.length
      exact wpAny_truthy_list pl.isList (by simp only [List.size_toArray]; omega) ⟨H, I.tok _, by rw [isEmpty_of r]; exact q⟩
    · subst e'
      obtain ⟨its, r, pl, hz⟩ := I.tuple hx
      have hlen := r.length
      exact truthy_tuple pl (by simp only [List.size_toArray]; omega) ⟨H, I.tok _, by rw [isEmpty_of r]; exact q⟩
    · subst e'
      obtain ⟨hz, hS, vs, r, m⟩ : kvs.length ≤ sizeLine ∧ (p == sysModules) = false ∧ ∃ vs, KV kvs vs ∧ s.heap.DictOf (mixKind X.prog X.w) p vs := I.hok p _ hx
      have hlen : kvs.length = vs.length := Paired.length r
      exact wpAny_truthy_dict hS m (by omega) ⟨H, I.tok _, by rw [isEmpty_kv r]; exact q⟩
  | _ => exact (show False from e).elim
theorem pt_truth (ha : PE X a ta) (he : ∀ whole, isTrue a X.env whole = (do let v ← whole; standAt a.pos; holding [v] (truthy v))) :
    PT X a (fun σ H Q => ta σ H (TruthR X.K Q)) := by
  intro pins s σ H Q I h
  exact isTrue_plain (thn (ha pins s σ H _ I h) fun v s1 ⟨x, H1, I1, r1, q1⟩ => tru_ok pins s1 σ H1 x v Q I1 r1 q1) (he _)
theorem vals1 {x : V} {us : List Value} (r : Vals [x] us) : ∃ u, us = [u] ∧ RelV x u := by
  cases r with
  | cons r1 r2 => cases r2; exact ⟨_, rfl, r1⟩
end
end L2
namespace L2
open PySem PySem.Spec PyProof.Rows
structure ObjM (h : Heap) (x dx C : Addr) (mA : Str → Option Value) : Prop where
  obj : h.get? x = some (PySem.W.instObj C dx)
  ns : h.Ns1 dx mA
  ne : dx ≠ x
theorem lookIn_ns {h : Heap} {dx : Addr} {mA : Str → Option Value} (n : h.Ns1 dx mA) : ∃ od, h.get? dx = some od ∧ ∀ name, PySem.W.lookIn name od = some (mA name) := by
  obtain ⟨o, es, ep, ho, hd, hk, _, hm⟩ := n
  refine ⟨o, ho, fun name => ?_⟩
  have e := hm name
  unfold nsFind findBy at e
  rw [← Array.find?_toList] at e
  unfold PySem.W.lookIn
  rw [hd]
  dsimp only
  split
  · rename_i y q
    rw [q] at e
    exact congrArg some e
  · rename_i q
    rw [q] at e
    have a : es.toList.any (·.refKey) = false := by
      rw [List.any_eq_false]
      intro y hy
      obtain ⟨z, t, hkey⟩ := hk y (Array.mem_toList_iff.mp hy)
      simp [DictEntry.refKey, hkey]
    have a' : ¬ es.toList.any (·.refKey) = true := by rw [a]; exact Bool.false_ne_true
    rw [if_neg a']
    exact congrArg some e
theorem ObjM.look {h : Heap} {x dx C : Addr} {mA : Str → Option Value} (I : ObjM h x dx C mA) : ∃ od, PySem.W.InstAt h x (PySem.W.instObj C dx) C (some od) ∧ ∀ name, PySem.W.lookIn name od = some (mA name) :=
  let ⟨od, ho, hl⟩ := lookIn_ns I.ns
  ⟨od, ⟨I.obj, rfl, rfl, ho⟩, hl⟩
section
variable {prog : Program} {w : World} {A : Around} {E : Value → Shared → Prop} {s : Shared} {K : PySem.W.Frag} {x dx C f : Addr} {mA : Str → Option Value} {name : Str} {v : Value}
theorem get_map {expr : Bool} {Q : Value → Shared → Prop} (X : K.In s.heap) (I : ObjM s.heap x dx C mA) (hg : PySem.W.plainGet K C name = true) (hh : PySem.W.hasDictIn K C = true)
    (ha : PySem.W.findIn K (.ref C) name = some none) (hv : mA name = some v) (hv' : PySem.W.handedIn v = true) (h : Q v { s with toks := s.toks + 1 }) :
    wpAny (model prog w) A (getAttr (.ref x) name expr) Q E s := by
  obtain ⟨od, J, hl⟩ := I.look
  exact PySem.W.get_value X J (PySem.W.plainGet_of hg).1 (PySem.W.findObj_own hh ha rfl (by rw [hl, hv])) hv' h
theorem get_meth {pl : Sem Bool} {Q : Value × List Value → Shared → Prop} (X : K.In s.heap) (I : ObjM s.heap x dx C mA) (hg : PySem.W.plainGet K C name = true)
    (hf : PySem.W.findIn K (.ref C) name = some (some (.ref f))) (ht : PySem.W.isFn K (.ref f) = true) (hv : mA name = none) (h : Q (.ref f, [.ref x]) s) :
    wpAny (model prog w) A (getMethod (.ref x) name pl) Q E s := by
  obtain ⟨od, J, hl⟩ := I.look
  exact PySem.W.method_fn X J (PySem.W.plainGet_of hg).1 (PySem.W.plainGet_of hg).2 hf (beq_iff_eq.mp ht) (by show (PySem.W.lookIn name od).map (·.isSome) = some false; rw [hl, hv]; rfl) h
theorem set_map {ns : List Str} {Q : Unit → Shared → Prop} (X : K.In s.heap) (I : ObjM s.heap x dx C mA)
    (hs : PySem.W.findIn K (.ref C) "__setattr__" = some (some (.builtin "object.__setattr__"))) (hp : PySem.W.plainOver K C = true) (ht : PySem.W.takerIn K C name = some none) (hh : PySem.W.hasDictIn K C = true)
    (hw : PySem.Within mA ns) (hsz : ns.length ≤ sizeLine)
    (h : ∀ h', ObjM h' x dx C (fun y => if y = name then some v else mA y) → Heap.SameBut dx s.heap h' → Q () { s with heap := h', toks := s.toks + 2 }) :
    wpAny (model prog w) A (setAttr (.ref x) name v) Q E s := by
  obtain ⟨od, J, hl⟩ := I.look
  refine PySem.W.set_plain X J hs (PySem.W.osa_open (s := { s with toks := s.toks + 1 }) (r := none) X J hp ht fun b => ?_)
  obtain ⟨cd, hc, hd'⟩ := PySem.W.any_some hh
  have hx : s.heap.get? x = some ⟨.ref C, some dx, .plain, #[]⟩ := I.obj
  refine wpAny_bind (wpAny_pure (wpAny_bind (wpAny_bind (wpAny_loadPart hx (wpAny_bind (PySem.W.Looks.here (s := { s with toks := s.toks + 1 }) (PySem.W.looks_clsIn X hc) ?_))))))
  rw [hd']
  refine wpAny_pure (a := some dx) (wpAny_bind (wpAny_pure (wpAny_bind ?_)))
  refine wpAny_nsSet1 (s := { s with toks := s.toks + 1 }) I.ns fun h' hn2 hs2 => ?_
  obtain ⟨oD, esD, epD, hoD, hdD, hcD⟩ := hn2.count (PySem.Within.cons name v hw)
  refine wpAny_bind (wpAny_lookBehind hoD (by rw [hdD]; exact pastItsLine_dict (Nat.le_trans hcD (by rw [List.length_cons]; omega))) ?_)
  exact wpAny_pure (h _ ⟨(hs2.2 _ (Ne.symm I.ne)).trans I.obj, hn2, I.ne⟩ hs2)
theorem make_map {R : Result → Shared → Prop} {vs : List Value} {kw : List (Str × Value)} (X : K.In s.heap) (hm : PySem.W.makesIn K C = true)
    (hi : PySem.W.findIn K (.ref C) "__init__" = some (some (.ref f))) (hf : PySem.W.typeIn K (.ref f) = some (.type "function"))
    (h : codeAny (model prog w) (A.under (.builtin "type.__call__" ⟨.ref C :: vs, kw⟩)) (.call (.ref f) ⟨.ref (s.heap.objs.size + 1) :: vs, kw⟩) (PySem.W.InitBack (s.heap.objs.size + 1) R)
      { s with heap := (s.heap.push PySem.W.emptyDict).push (PySem.W.instObj C s.heap.objs.size) }) :
    codeAny (model prog w) A (.call (.ref C) ⟨vs, kw⟩) R s := by
  obtain ⟨hh, g, d, t, os⟩ := s
  exact PySem.W.make_core (PySem.W.makes_of X hm) (PySem.W.looks_findIn X hi) (fun self => PySem.W.bind_fn X self hf) (.inl rfl) h
end
noncomputable def putF (f : Str) (v : V) : List (Str × V) → List (Str × V)
  | [] => [(f, v)]
  | (g, x) :: r => if g = f then (g, v) :: r else (g, x) :: putF f v r
theorem lookup_putF (f g : Str) (v : V) : ∀ fs : List (Str × V), (putF f v fs).lookup g = if g = f then some v else fs.lookup g
  | [] => by
    show List.lookup g [(f, v)] = _
    by_cases h : g = f
    · have hb : (g == f) = true := beq_iff_eq.mpr h
      simp only [List.lookup, hb, if_pos h]
    · have hb : (g == f) = false := beq_eq_false_iff_ne.mpr h
      simp only [List.lookup, hb, if_neg h]
  | (k, x) :: r => by
    have ih := lookup_putF f g v r
    rw [show putF f v ((k, x) :: r) = (if k = f then (k, v) :: r else (k, x) :: putF f v r) from rfl]
    by_cases hk : k = f
    · rw [if_pos hk]
      by_cases h : g = k
      · have hb : (g == k) = true := beq_iff_eq.mpr h
        simp only [List.lookup, hb, if_pos (h.trans hk)]
      · have hb : (g == k) = false := beq_eq_false_iff_ne.mpr h
        simp only [List.lookup, hb, if_neg (fun e : g = f => h (e.trans hk.symm))]
    · rw [if_neg hk]
      by_cases h : g = k
      · have hb : (g == k) = true := beq_iff_eq.mpr h
        simp only [List.lookup, hb, if_neg (fun e : g = f => hk (h.symm.trans e))]
      · have hb : (g == k) = false := beq_eq_false_iff_ne.mpr h
        simp only [List.lookup, hb]
        exact ih
theorem keys_putF (f : Str) (v : V) : ∀ fs : List (Str × V), f ∈ (putF f v fs).map (·.1) ∧ ∀ g, g ∈ fs.map (·.1) → g ∈ (putF f v fs).map (·.1)
  | [] => ⟨by simp [putF], fun g h => by simp at h⟩
  | (k, x) :: r => by
    obtain ⟨i1, i2⟩ := keys_putF f v r
    rw [show putF f v ((k, x) :: r) = (if k = f then (k, v) :: r else (k, x) :: putF f v r) from rfl]
    by_cases hk : k = f
    · rw [if_pos hk]
      subst hk
      exact ⟨by simp, fun g h => by simpa using h⟩
    · rw [if_neg hk]
      refine ⟨?_, fun g h => ?_⟩
      · rw [List.map_cons]
        exact List.mem_cons_of_mem _ i1
      · rw [List.map_cons] at h ⊢
        rcases List.mem_cons.mp h with e | e
        · exact List.mem_cons.mpr (.inl e)
        · exact List.mem_cons_of_mem _ (i2 g e)
theorem length_putF (f : Str) (v : V) : ∀ fs : List (Str × V), (putF f v fs).length ≤ fs.length + 1
  | [] => by simp [putF]
  | (k, x) :: r => by
    have ih := length_putF f v r
    rw [show putF f v ((k, x) :: r) = (if k = f then (k, v) :: r else (k, x) :: putF f v r) from rfl]
    by_cases hk : k = f
    · rw [if_pos hk, List.length_cons, List.length_cons]; omega
    · rw [if_neg hk, List.length_cons, List.length_cons]; omega
theorem RelO.some_of {v : V} {o : Option Value} (r : RelO (some v) o) : ∃ u, o = some u ∧ RelV v u := by
  cases o with
  | none => exact (show False from r).elim
  | some u => exact ⟨u, rfl, r⟩
theorem RelO.none_of {o : Option Value} (r : RelO none o) : o = none := by
  cases o with
  | none => rfl
  | some u => exact (show False from r).elim
theorem handed_of {v : V} {u : Value} (r : RelV v u) : PySem.W.handedIn u = true := by
  cases v with
  | non => cases (show u = Value.none from r); rfl
  | bl b => cases (show u = Value.bool b from r); rfl
  | int i => obtain ⟨t, e⟩ := (show ∃ t, u = Value.int i t from r); cases e; rfl
  | str x => obtain ⟨t, e⟩ := (show ∃ t, u = Value.str x t from r); cases e; rfl
  | byt b => obtain ⟨t, e⟩ := (show ∃ t, u = Value.bytes b t from r); cases e; rfl
  | flt b => obtain ⟨t, e⟩ := (show ∃ t, u = Value.float b t from r); cases e; rfl
  | ref a => cases (show u = Value.ref a from r); rfl
  | ty n => cases (show u = Value.type n from r); rfl
section
variable {P : Program} {w : World} {H H' : Hp} {h h' : Heap} {a C dx : Addr} {fs fs' : List (Str × V)}
theorem ins_get (hok : HOk P w H h) (e : H a = some (.ins C dx fs)) : ∃ mA, ObjM h a dx C mA ∧ (∀ f, RelO (fs.lookup f) (mA f)) ∧ PySem.Within mA (fs.map (·.1)) ∧ fs.length ≤ 1000 ∧ H dx = some (.own a) := by
  obtain ⟨d, z, ne, ob, mA, n, r, q⟩ := (show ObjOk P w H h a (.ins C dx fs) from hok a _ e)
  exact ⟨mA, ⟨ob, n, ne⟩, r, q, z, d⟩
end
structure Cls (K : PySem.W.Frag) (C : Addr) : Prop where
  pg : PySem.W.plainGet K C Str.empty = true
  hd : PySem.W.hasDictIn K C = true
  po : PySem.W.plainOver K C = true
  sa : PySem.W.findIn K (.ref C) "__setattr__" = some (some (.builtin "object.__setattr__"))
theorem Cls.get {K : PySem.W.Frag} {C : Addr} (c : Cls K C) (f : Str) : PySem.W.plainGet K C f = true := c.pg
noncomputable def NoAttr (K : PySem.W.Frag) (C : Addr) (f : Str) : Prop := PySem.W.findIn K (.ref C) f = some none
theorem NoAttr.taker {K : PySem.W.Frag} {C : Addr} {f : Str} (n : NoAttr K C f) : PySem.W.takerIn K C f = some none := by
  unfold PySem.W.takerIn
  rw [show PySem.W.findIn K (.ref C) f = some none from n]
  rfl
structure Meth (K : PySem.W.Frag) (C : Addr) (m : Str) (f : Addr) : Prop where
  at_ : PySem.W.findIn K (.ref C) m = some (some (.ref f))
  fn : PySem.W.isFn K (.ref f) = true
  kp : PySem.W.keepIn K (.ref f) = true
section
variable {X : Cx} {pins : List (Addr × Obj)} {σ : St} {H : Hp} {s : Shared} {a C dx : Addr} {fs : List (Str × V)} {f : Str} {v : V} {A : Around} {E : Value → Shared → Prop}
theorem getattr_ok {b : Bool} {Q : Value → Shared → Prop} (I : Inv X pins σ H s) (e : H a = some (.ins C dx fs)) (c : Cls X.K C) (n : NoAttr X.K C f) (l : fs.lookup f = some v)
    (h : ∀ u s', Inv X pins σ H s' → RelV v u → Q u s') : wpAny (model X.prog X.w) A (getAttr (.ref a) f b) Q E s := by
  obtain ⟨mA, O, r, _, _, _⟩ := ins_get I.hok e
  obtain ⟨u, hu, ru⟩ := RelO.some_of (v := v) (o := mA f) (by rw [← l]; exact r f)
  exact get_map I.kIn O (c.get f) c.hd n hu (handed_of ru) (h u _ (I.tok _) ru)
theorem getmeth_ok {m : Str} {g : Addr} {pl : Sem Bool} {Q : Value × List Value → Shared → Prop} (I : Inv X pins σ H s) (e : H a = some (.ins C dx fs)) (c : Cls X.K C) (k : Meth X.K C m g) (l : fs.lookup m = none)
    (h : Q (.ref g, [.ref a]) s) : wpAny (model X.prog X.w) A (getMethod (.ref a) m pl) Q E s := by
  obtain ⟨mA, O, r, _, _, _⟩ := ins_get I.hok e
  have hn : mA m = none := RelO.none_of (by rw [← l]; exact r m)
  exact get_meth I.kIn O (c.get m) k.at_ k.fn hn h
theorem setattr_ok {y : V} {u : Value} {Q : Unit → Shared → Prop} (I : Inv X pins σ H s) (e : H a = some (.ins C dx fs)) (c : Cls X.K C) (n : NoAttr X.K C f) (hl : fs.length < 1000) (ry : RelV y u)
    (h : ∀ s', Inv X pins σ (upd H a (.ins C dx (putF f y fs))) s' → Q () s') : wpAny (model X.prog X.w) A (setAttr (.ref a) f u) Q E s := by
  obtain ⟨mA, O, r, wi, _, ho⟩ := ins_get I.hok e
  have hz : (fs.map (·.1)).length ≤ sizeLine := by rw [List.length_map, sizeLine_eq]; omega
  refine set_map I.kIn O c.sa c.po n.taker c.hd wi hz fun h' O' sb => h _ ?_
  have hd : ∃ o, h'.get? dx = some o := let ⟨o, _, _, e', _⟩ := O'.ns; ⟨o, e'⟩
  refine I.write (x := a) (e := dx) (by rw [e]; exact True.intro) (.inr ho) (fun b q hb z => (sb.2 b hb).trans z) hd ?_
  refine ⟨by rw [upd_ne O.ne]; exact ho, ?_, O.ne, O'.obj, _, O'.ns, fun g => ?_, fun g hg => ?_⟩
  · have := length_putF f y fs; omega
  · show RelO ((putF f y fs).lookup g) (if g = f then some u else mA g)
    rw [lookup_putF]
    by_cases q : g = f
    · rw [if_pos q, if_pos q]; exact ry
    · rw [if_neg q, if_neg q]; exact r g
  · by_cases q : g = f
    · rw [q]; exact (keys_putF f y fs).1
    · refine (keys_putF f y fs).2 g (wi g fun z => hg ?_)
      show (if g = f then some u else mA g) = none
      rw [if_neg q]; exact z
theorem Inv.made (I : Inv X pins σ H s) : Inv X pins σ (upd (upd H s.heap.objs.size (.own (s.heap.objs.size + 1))) (s.heap.objs.size + 1) (.ins C s.heap.objs.size []))
    { s with heap := (s.heap.push PySem.W.emptyDict).push (PySem.W.instObj C s.heap.objs.size) } := by
  have e1 : (s.heap.push PySem.W.emptyDict).get? s.heap.objs.size = some PySem.W.emptyDict := Heap.get?_push_size s.heap rfl
  have e2 : ((s.heap.push PySem.W.emptyDict).push (PySem.W.instObj C s.heap.objs.size)).get? (s.heap.objs.size + 1) = some (PySem.W.instObj C s.heap.objs.size) := by
    have := Heap.get?_push_size (s.heap.push PySem.W.emptyDict) (o := PySem.W.instObj C s.heap.objs.size) rfl
    rwa [Heap.size_push] at this
  have e3 : (s.heap.push PySem.W.emptyDict).Ns s.heap.objs.size (fun _ => none) := ⟨PySem.W.emptyDict, #[], _, e1, rfl, (fun e he => absurd he (by simp)), fun _ => rfl⟩
  have I1 := I.laid (a := s.heap.objs.size) (o := .own (s.heap.objs.size + 1)) (h' := s.heap.push PySem.W.emptyDict) (t' := s.toks) (fun b u q => Heap.get?_push_of_some _ q) (Nat.le_refl _) ⟨_, e1⟩
  refine I1.laid (a := s.heap.objs.size + 1) (o := .ins C s.heap.objs.size []) (t' := s.toks) (fun b u q => Heap.get?_push_of_some _ q) (Nat.le_of_eq (Heap.size_push _ _)) ?_
  have ne : s.heap.objs.size ≠ s.heap.objs.size + 1 := Nat.ne_of_lt (Nat.lt_succ_self _)
  refine ⟨by rw [upd_ne ne, upd_same], Nat.zero_le _, ne, e2, fun _ => none, (Heap.Ns1.of_empty e3).at fun o q => Heap.get?_push_of_some _ q, fun _ => True.intro, fun y hy => absurd rfl hy⟩
theorem attr_of {prog : Program} {w : World} {env : Env} {e : Expr} {f : Str} {pos : Pos} {s : Shared} {Q : Value → Shared → Prop} (hb : attributeBase e f env (eval e env) = eval e env)
    (h : wpAny (model prog w) A (eval e env) (fun o s₁ => wpAny (model prog w) A (getAttr o f true) Q E s₁) E s) : wpAny (model prog w) A (eval (.Attribute e f pos) env) Q E s :=
  Attribute_any_ h (by rw [arm_eval_Attribute, hb])
end
inductive FldR (K : PySem.W.Frag) (f : Str) (Q : VK) (x : V) (H1 : Hp) : Prop
  | mk (a C dx : Addr) (fs : List (Str × V)) (v : V) (e : x = .ref a) (h : H1 a = some (.ins C dx fs)) (c : Cls K C) (n : NoAttr K C f) (l : fs.lookup f = some v) (q : Q v H1)
noncomputable def tFld (K : PySem.W.Frag) (ta : TE) (f : Str) : TE := fun σ H Q => ta σ H (FldR K f Q)
inductive SFldR (K : PySem.W.Frag) (f : Str) (y : V) (Q : Hp → Prop) (x : V) (H2 : Hp) : Prop
  | mk (a C dx : Addr) (fs : List (Str × V)) (e : x = .ref a) (h : H2 a = some (.ins C dx fs)) (c : Cls K C) (n : NoAttr K C f) (l : fs.length < 1000) (q : Q (upd H2 a (.ins C dx (putF f y fs))))
noncomputable def sFld (K : PySem.W.Frag) (ta tv : TE) (f : Str) : TS := fun D σ H => tv σ H fun y H1 => ta σ H1 (SFldR K f y (D.nx σ))
noncomputable def InOp (X : Cx) (op : Operator) (rd : V → V → Hp → VK → Prop) : Prop :=
  ∀ (pins : List (Addr × Obj)) (s : Shared) (σ : St) (H : Hp) (x y : V) (u v : Value) (Q : VK), Inv X pins σ H s → RelV x u → RelV y v → rd x y H Q → wpAny (model X.prog X.w) X.A (inplaceOp op u v) (EP X pins σ Q) X.xe s
inductive AugP (C a : Addr) (f : Str) (Q : Hp → Prop) (z : V) (H3 : Hp) : Prop
  | mk (dx : Addr) (fs : List (Str × V)) (h : H3 a = some (.ins C dx fs)) (l : fs.length < 1000) (q : Q (upd H3 a (.ins C dx (putF f z fs))))
inductive SAugR (K : PySem.W.Frag) (f : Str) (tv : TE) (rd : V → V → Hp → VK → Prop) (σ : St) (Q : Hp → Prop) (x : V) (H1 : Hp) : Prop
  | mk (a C dx : Addr) (fs : List (Str × V)) (v : V) (e : x = .ref a) (h : H1 a = some (.ins C dx fs)) (c : Cls K C) (n : NoAttr K C f) (l : fs.lookup f = some v) (q : tv σ H1 fun y H2 => rd v y H2 (AugP C a f Q))
noncomputable def sFldAug (K : PySem.W.Frag) (ta tv : TE) (rd : V → V → Hp → VK → Prop) (f : Str) : TS := fun D σ H => ta σ H (SAugR K f tv rd σ (D.nx σ))
section
variable {X : Cx} {o e value : Expr} {f : Str} {pos pos' tpos : Pos} {ta tv : TE}
theorem pe_fld (he : PE X e ta) (hb : attributeBase e f X.env (eval e X.env) = eval e X.env) : PE X (.Attribute e f pos) (tFld X.K ta f) := by
  intro pins s σ H Q I h
  refine attr_of hb (thn (he pins s σ H _ I h) fun u s1 ⟨x, H1, I1, rx, a, C, dx, fs, v, ex, ea, c, n, l, q⟩ => ?_)
  subst ex
  obtain rfl : u = Value.ref a := rx
  exact getattr_ok I1 ea c n l fun u' s2 I2 ru => ⟨v, H1, I2, ru, q⟩
theorem ps_fld (ha : PE X o ta) (hv : PE X value tv) (hs : swapsWith value (some (.Attribute o f pos')) pos.line X.env = pure false) : PS X (.Assign [.Attribute o f pos'] value pos) (sFld X.K ta tv f) := by
  intro pins s σ H D I h
  refine plainObj_wpAny_Assign_Attribute (thn (hv pins s σ H _ I h) fun u s1 ⟨y, H1, I1, ry, q⟩ => thn (ha pins s1 σ H1 _ I1 q) fun ov s2 ⟨x, H2, I2, rx, a, C, dx, fs, ex, ea, c, n, l, q2⟩ => ?_) hs
  subst ex
  obtain rfl : ov = Value.ref a := rx
  exact setattr_ok I2 ea c n l ry fun s3 I3 => ⟨σ, _, I3, q2⟩
theorem ps_fldaug {op : Operator} {rd : V → V → Hp → VK → Prop} (ha : PE X o ta) (hv : PE X value tv) (hop : InOp X op rd) : PS X (.AugAssign (.Attribute o f tpos) op value pos) (sFldAug X.K ta tv rd f) := by
  intro pins s σ H D I h
  refine wpAny_AugAssign_AttributeAny (thn (ha pins s σ H _ I h) fun ov s1 ⟨x, H1, I1, rx, a, C, dx, fs, v, ex, ea, c, n, l, q⟩ => ?_)
  subst ex
  obtain rfl : ov = Value.ref a := rx
  refine getattr_ok I1 ea c n l fun u s2 I2 ru => thn (hv pins s2 σ H1 _ I2 q) fun w3 s3 ⟨y, H2, I3, ry, q3⟩ => thn (hop pins s3 σ H2 v y u w3 _ I3 ru ry q3) fun w4 s4 ⟨z, H3, I4, rz, dx', fs', ea', l', q4⟩ => ?_
  exact setattr_ok I4 ea' c n l' rz fun s5 I5 => ⟨σ, _, I5, q4⟩
noncomputable def rAdd : V → V → Hp → VK → Prop := Int0R fun i j => .int (i + j)
theorem in_add : InOp X .Add rAdd := by
  rintro pins s σ H x y u v Q I rx ry ⟨i, j, rfl, rfl, q⟩
  obtain ⟨t, rfl⟩ := (show ∃ t, u = Value.int i t from rx)
  obtain ⟨t', rfl⟩ := (show ∃ t', v = Value.int j t' from ry)
  exact PyProof.Rows.iadd_int ⟨.int (i + j), H, I.tok _, ⟨_, rfl⟩, q⟩
end
section
variable {X : Cx} {pins : List (Addr × Obj)} {σ : St} {H : Hp} {s : Shared} {A : Around} {E : Value → Shared → Prop} {Q : Value → Shared → Prop} {c : Value} {b : Bool}
end
end L2
namespace L2
open PySem PySem.Spec PyProof.Rows
structure Room (k : Nat) (A : Around) : Prop where
  hd : A.handled = none
  dp : A.depth + 3 * k + 5 < recursionLimit
  un : A.units + 16 * k + 200 < cLine
theorem Room.mono {j k : Nat} {A : Around} (r : Room k A) (h : j ≤ k) : Room j A := ⟨r.hd, by have := r.dp; omega, by have := r.un; omega⟩
theorem Room.deeper {k : Nat} {A : Around} (r : Room (k + 1) A) (env : Env) : Room k (A.deeper env) :=
  ⟨r.hd, by have := r.dp; show A.depth + 1 + 3 * k + 5 < _; omega, by have := r.un; show A.units + 3 + 16 * k + 200 < _; omega⟩
theorem Room.in1 {k : Nat} {A : Around} (r : Room (k + 1) A) : Room k A.in1 :=
  ⟨r.hd, by have := r.dp; show A.depth + 3 * k + 5 < _; omega, by have := r.un; show A.units + 1 + 16 * k + 200 < _; omega⟩
theorem make_depth {A : Around} {C : Addr} {us : List Value} {kw : List (Str × Value)} : (A.under (.builtin "type.__call__" ⟨.ref C :: us, kw⟩)).depth = A.depth + 1 := by
  first | rfl | simp [Around.under, Code.weight, Code.isCreation, Code.isGuard, Code.isCaller, Code.frames, Code.isFrame, guardIds]
theorem make_units {A : Around} {C : Addr} {us : List Value} {kw : List (Str × Value)} : (A.under (.builtin "type.__call__" ⟨.ref C :: us, kw⟩)).units = A.units + 1 := by
  first | rfl | simp [Around.under, Code.cUnits, Code.frames, Code.isFrame]
theorem Room.make {k : Nat} {A : Around} (r : Room (k + 1) A) (C : Addr) (us : List Value) (kw : List (Str × Value)) : Room k (A.under (.builtin "type.__call__" ⟨.ref C :: us, kw⟩)) :=
  ⟨r.hd, by have := r.dp; rw [make_depth]; omega, by have := r.un; rw [make_units]; omega⟩
theorem Room.depth {k : Nat} {A : Around} (r : Room k A) : A.depth < recursionLimit := by have := r.dp; omega
theorem Room.units {k : Nat} {A : Around} (r : Room k A) : A.units + 64 < cLine := by have := r.un; omega
noncomputable def tNil : TA := fun _ H Q => Q [] H
noncomputable def tCons (ta : TE) (tr : TA) : TA := fun σ H Q => ta σ H fun x H1 => tr σ H1 fun xs H2 => Q (x :: xs) H2
section
variable {X : Cx} {e : Expr} {es : List Expr} {te : TE} {t : TA} {pos : Pos}
theorem pa_nil : PA X [] tNil := fun _ _ _ _ H Q I h => Calls.spliced_nil ⟨[], H, I, .nil, h⟩
theorem pa_cons (ha : PE X e te) (hr : PA X es t) (hs : starEach (e :: es) X.env = (false, eval e X.env) :: starEach es X.env := by rfl) : PA X (e :: es) (tCons te t) := by
  intro pos pins s σ H Q I h
  rw [hs]
  show wpAny _ _ (spliced ((false, eval e X.env) :: backTo pos (starEach es X.env))) _ _ s
  refine Calls.spliced_cons (thn (ha pins s σ H _ I h) fun u s1 ⟨x, H1, I1, r1, q1⟩ => ?_)
  exact thn (hr pos pins s1 σ H1 _ I1 q1) fun us s2 ⟨xs, H2, I2, r2, q2⟩ => ⟨x :: xs, H2, I2, .cons r1 r2, q2⟩
noncomputable def tTup (t : TA) : TE := fun σ H Q => t σ H fun xs H1 => xs.length ≤ sizeLine ∧ ∀ p, H1 p = none → Q (.ref p) (upd H1 p (.tup xs))
noncomputable def tLst (t : TA) : TE := fun σ H Q => t σ H fun xs H1 => xs.length ≤ sizeLine ∧ ∀ p, H1 p = none → Q (.ref p) (upd H1 p (.lst xs))
theorem pe_tup {x1} (h : PA X es t) : PE X (.Tuple es x1 pos) (tTup t) := by
  intro pins s σ H Q I hq
  refine wpAny_Tuple_spliced (thn (h pos pins s σ H _ I hq) fun us s1 ⟨xs, H1, I1, r, z, q⟩ => ⟨by rw [← r.length]; exact z, ?_⟩)
  have hf : H1 s1.heap.objs.size = none := I1.hok.fresh (Nat.le_refl _)
  refine ⟨.ref s1.heap.objs.size, upd H1 s1.heap.objs.size (.tup xs), I1.laid (t' := s1.toks) (fun b u e => Heap.get?_push_of_some _ e) (Nat.le_refl _) ?_, rfl, q _ hf⟩
  exact ⟨z, us, r, ⟨_, Heap.get?_push_size _ rfl, rfl, _, rfl⟩⟩
theorem pe_lst (h : PA X es t) : PE X (.List es pos) (tLst t) := by
  intro pins s σ H Q I hq
  refine wpAny_List_spliced (thn (h pos pins s σ H _ I hq) fun us s1 ⟨xs, H1, I1, r, z, q⟩ => ⟨by rw [← r.length]; exact z, ?_⟩)
  have hf : H1 s1.heap.objs.size = none := I1.hok.fresh (Nat.le_refl _)
  refine ⟨.ref s1.heap.objs.size, upd H1 s1.heap.objs.size (.lst xs), I1.laid (t' := s1.toks) (fun b u e => Heap.get?_push_of_some _ e) (Nat.le_refl _) ?_, rfl, q _ hf⟩
  exact ⟨z, us, 0, r, Heap.get?_push_size _ rfl⟩
end
noncomputable abbrev Sp := List V → Hp → VK → XK → Prop
noncomputable abbrev CXT := List Env → Hp → Shared → XK → Value → Shared → Prop
structure Env0 (P : Program) (w : World) (K : PySem.W.Frag) (mg : Str → Option Value) (base : Heap) (A : Around) (outer : List Env) (s : Shared) (H : Hp) : Prop where
  frames : A.frames = some outer
  mod : Mod K mg base
  bs : ∀ b o, base.get? b = some o → s.heap.get? b = some o ∧ H b = none
  bsz : base.objs.size ≤ s.heap.objs.size
  funs : s.heap.FunFrames base outer
  frf : ∀ b ∈ frs outer, H b = none
  hok : HOk P w H s.heap
  bare : AllBare s.gens
inductive CE (outer : List Env) (P : Program) (w : World) (H : Hp) (s : Shared) (Q : VK) (u : Value) (s' : Shared) : Prop
  | mk (v : V) (H' : Hp) (o : s'.os = s.os) (b : AllBare s'.gens) (n : Un (frs outer) [] H H' s.heap s'.heap) (k : HOk P w H' s'.heap) (r : RelV v u) (q : Q v H')
noncomputable def CR (CX : CXT) (outer : List Env) (P : Program) (w : World) (H : Hp) (s : Shared) (Q : VK) (E : XK) (r : Result) (s' : Shared) : Prop :=
  match r with
  | .ok (.ret u) => CE outer P w H s Q u s'
  | .ok _ => False
  | .error e => CX outer H s E e s'
structure FnOk (P : Program) (w : World) (K : PySem.W.Frag) (mg : Str → Option Value) (base : Heap) (CX : CXT) (k : Nat) (f : Addr) (fd : FuncData) (ps : List Str) (sp : Sp) : Prop where
  len : ∀ vs H Q E, sp vs H Q E → vs.length = ps.length
  run : ∀ (A : Around) (outer : List Env) (s : Shared) (H : Hp) (args : Args) (us : List Value) (vs : List V) (Q : VK) (E : XK), Room k A → Env0 P w K mg base A outer s H → BindsTo s fd args (ps.zip us) → Vals vs us → sp vs H Q E →
    codeAny (model P w) A (.call (.ref f) args) (CR CX outer P w H s Q E) s
theorem Env0.make {P : Program} {w : World} {K : PySem.W.Frag} {mg : Str → Option Value} {base : Heap} {A : Around} {outer : List Env} {s : Shared} {H : Hp} (e : Env0 P w K mg base A outer s H) (C : Addr) (us : List Value) (kw : List (Str × Value)) :
    Env0 P w K mg base (A.under (.builtin "type.__call__" ⟨.ref C :: us, kw⟩)) outer s H := ⟨by first | exact e.frames | (simpa [Around.under, Code.envs, Code.isFrame, pushEnvs] using e.frames), e.mod, e.bs, e.bsz, e.funs, e.frf, e.hok, e.bare⟩
theorem Env0.in1 {P : Program} {w : World} {K : PySem.W.Frag} {mg : Str → Option Value} {base : Heap} {A : Around} {outer : List Env} {s : Shared} {H : Hp} (e : Env0 P w K mg base A outer s H) :
    Env0 P w K mg base A.in1 outer s H := ⟨e.frames, e.mod, e.bs, e.bsz, e.funs, e.frf, e.hok, e.bare⟩
section
variable {X : Cx} {pins : List (Addr × Obj)} {σ : St} {H : Hp} {s s' : Shared}
theorem Inv.env0 (I : Inv X pins σ H s) : Env0 X.prog X.w X.K X.mg X.base X.A X.stack s H :=
  ⟨I.ok.frames, I.ok.mod, I.bs, Nat.le_trans I.ok.bsz I.sz, I.stack, I.stkFree, I.hok, I.bare⟩
theorem Inv.after {Q : VK} {u : Value} (I : Inv X pins σ H s) (h : CE X.stack X.prog X.w H s Q u s') : EP X pins σ Q u s' := by
  obtain ⟨v, H', os, bare, un, hok, r, q⟩ := h
  obtain ⟨hh, g, d, t, os'⟩ := s'
  obtain rfl : os' = s.os := os
  exact ⟨v, H', I.call (h' := hh) (g' := g) (d' := d) (t' := t) (ch := []) un hok bare (fun b z => absurd z (by simp)), r, q⟩
end
noncomputable def tCall (sp : Sp) (dvs : List V) (E : XK) (t : TA) : TE := fun σ H Q => t σ H fun vs H1 => sp (vs ++ dvs) H1 Q E
inductive MethR (C : Addr) (m : Str) (q : V → Hp → Prop) (x : V) (H1 : Hp) : Prop
  | mk (a dx : Addr) (fs : List (Str × V)) (e : x = .ref a) (h : H1 a = some (.ins C dx fs)) (l : fs.lookup m = none) (r : q x H1)
noncomputable def tMeth (C : Addr) (m : Str) (sp : Sp) (dvs : List V) (E : XK) (ta : TE) (t : TA) : TE := fun σ H Q => ta σ H (MethR C m fun x H1 => t σ H1 fun vs H2 => sp (x :: (vs ++ dvs)) H2 Q E)
noncomputable def tMake (C : Addr) (sp : Sp) (dvs : List V) (E : XK) (t : TA) : TE := fun σ H Q => t σ H fun vs H1 => ∀ x dx, H1 x = none → H1 dx = none → dx ≠ x →
  sp (.ref x :: (vs ++ dvs)) (upd (upd H1 dx (.own x)) x (.ins C dx [])) (fun v H2 => v = .non ∧ Q (.ref x) H2) E
noncomputable def Binds (K : PySem.W.Frag) (fd : FuncData) (ps : List Str) (ds : List Value) : Prop :=
  ∀ (s : Shared) (us : List Value), K.In s.heap → (us ++ ds).length = ps.length → BindsTo s fd ⟨us, []⟩ (ps.zip (us ++ ds))
theorem Binds.all {K : PySem.W.Frag} {fd : FuncData} {ps : List Str} (h : ∀ us : List Value, us.length = ps.length → bindArgs fd ⟨us, []⟩ = pure (ps.zip us)) : Binds K fd ps [] := fun s us _ hl => by
  rw [List.append_nil] at hl ⊢
  exact .of_eq (h us hl)
noncomputable def Passes (CX : CXT) (X : Cx) (E : XK) : Prop := ∀ (pins : List (Addr × Obj)) (σ : St) (H : Hp) (s : Shared) (e : Value) (s' : Shared), Inv X pins σ H s → CX X.stack H s E e s' → X.xe e s'
section
variable {X : Cx} {CX : CXT} {k : Nat} {f C : Addr} {fd : FuncData} {ps : List Str} {sp : Sp} {dvs : List V} {ds : List Value} {E : XK} {x m : Str} {p pos apos : Pos} {e o : Expr} {es : List Expr} {ta : TE} {t : TA}
theorem run_fn {pins : List (Addr × Obj)} {σ : St} {H : Hp} {s : Shared} {Q : VK} {us : List Value} {vs : List V} (F : FnOk X.prog X.w X.K X.mg X.base CX k f fd ps sp) (hr : Room k X.A) (hb : Binds X.K fd ps ds) (hd : Vals dvs ds) (hx : Passes CX X E)
    (I : Inv X pins σ H s) (r : Vals vs us) (h : sp (vs ++ dvs) H Q E) : wpAny (model X.prog X.w) X.A (call (.ref f) us) (EP X pins σ Q) X.xe s := by
  have r2 : Vals (vs ++ dvs) (us ++ ds) := r.append hd
  have hl : (us ++ ds).length = ps.length := by rw [← r2.length]; exact F.len _ _ _ _ h
  refine wpAny_call (codeAny_mono (F.run X.A X.stack s H ⟨us, []⟩ (us ++ ds) (vs ++ dvs) Q E hr I.env0 (hb s us I.kIn hl) r2 h) fun r s' hq => ?_)
  cases r with
  | error e => exact hx pins σ H s e s' I hq
  | ok fl =>
    cases fl with
    | ret u => exact I.after hq
    | next => exact False.elim hq
    | brk => exact False.elim hq
    | cont => exact False.elim hq
theorem pe_call (F : FnOk X.prog X.w X.K X.mg X.base CX k f fd ps sp) (hr : Room k X.A) (hg : Gl X x) (hm : X.mg x = some (.ref f)) (hk : PySem.W.keepIn X.K (.ref f) = true) (hb : Binds X.K fd ps ds) (hd : Vals dvs ds) (hx : Passes CX X E)
    (ha : PA X (e :: es) t) (hdb : (x == ("__debug__" : Str)) = false := by decide) (he : starEach (e :: es) X.env = (false, eval e X.env) :: starEach es X.env := by rfl) (hpl : (backTo pos (starEach es X.env)).any (·.1) = false := by rfl) :
    PE X (.Call (.Name x p) (e :: es) [] pos) (tCall sp dvs E t) := by
  intro pins s σ H Q I h
  refine wpAny_Call_Name_kw (ld_glob I hg hm ?_ hdb)
  refine PySem.W.callWith_K (h₀ := X.base) I.ok.mod.kin hk (thn (ha pos pins s σ H _ I h) fun us s1 ⟨vs, H1, I1, r, q⟩ => ⟨I1.kIn, ?_⟩) he hpl
  exact run_fn F hr hb hd hx I1 r q
theorem pe_meth {pl : Sem Bool} (he : PE X o ta) (c : Cls X.K C) (hm : Meth X.K C m f) (F : FnOk X.prog X.w X.K X.mg X.base CX k f fd ps sp) (hr : Room k X.A) (hb : Binds X.K fd ps ds) (hd : Vals dvs ds) (hx : Passes CX X E) (ha : PA X (e :: es) t)
    (hst : starEach (e :: es) X.env = (false, eval e X.env) :: starEach es X.env := by rfl) (hpl : (backTo pos (starEach es X.env)).any (·.1) = false := by rfl)
    (ht : eval (.Call (.Attribute o m apos) (e :: es) [] pos) X.env = (do
      let ov ← eval o X.env
      standAt apos.atName
      let (f, first) ← holding [ov] (getMethod ov m pl)
      callWith pos f first (backTo pos (starEach (e :: es) X.env)) (backToKw pos (keywordEach [] X.env))) := by rfl) :
    PE X (.Call (.Attribute o m apos) (e :: es) [] pos) (tMeth C m sp dvs E ta t) := by
  intro pins s σ H Q I h
  refine PySem.W.methodCall_KW (pl := pl) (thn (he pins s σ H _ I h) fun u s1 ⟨x, H1, I1, rx, a, dx, fs, ex, ea, l, q⟩ => ?_) ht
  subst ex
  obtain rfl : u = Value.ref a := rx
  refine getmeth_ok I1 ea c hm l ?_
  refine PySem.W.callWith_K (first := [.ref a]) (h₀ := X.base) I.ok.mod.kin hm.kp (thn (ha pos pins s1 σ H1 _ I1 q) fun us s2 ⟨vs, H2, I2, r, q2⟩ => ⟨I2.kIn, ?_⟩) hst hpl
  exact run_fn (us := .ref a :: us) (vs := .ref a :: vs) F hr hb hd hx I2 (.cons rfl r) q2
theorem pe_meth0 {pl : Sem Bool} (he : PE X o ta) (c : Cls X.K C) (hm : Meth X.K C m f) (F : FnOk X.prog X.w X.K X.mg X.base CX k f fd ps sp) (hr : Room k X.A) (hb : Binds X.K fd ps ds) (hd : Vals dvs ds) (hx : Passes CX X E)
    (ht : eval (.Call (.Attribute o m apos) [] [] pos) X.env = (do
      let ov ← eval o X.env
      standAt apos.atName
      let (f, first) ← holding [ov] (getMethod ov m pl)
      callWith pos f first (backTo pos (starEach [] X.env)) (backToKw pos (keywordEach [] X.env))) := by rfl) :
    PE X (.Call (.Attribute o m apos) [] [] pos) (tMeth C m sp dvs E ta tNil) := by
  intro pins s σ H Q I h
  refine PySem.W.methodCall_KW (pl := pl) (thn (he pins s σ H _ I h) fun u s1 ⟨x, H1, I1, rx, a, dx, fs, ex, ea, l, q⟩ => ?_) ht
  subst ex
  obtain rfl : u = Value.ref a := rx
  refine getmeth_ok I1 ea c hm l ?_
  exact PySem.W.callWith_K0 (first := [.ref a]) I1.kIn hm.kp (run_fn (us := [.ref a]) (vs := [.ref a]) F hr hb hd hx I1 (.cons rfl .nil) q)
structure Mk (K : PySem.W.Frag) (C f : Addr) : Prop where
  makes : PySem.W.makesIn K C = true
  init : PySem.W.findIn K (.ref C) "__init__" = some (some (.ref f))
  fn : PySem.W.isFn K (.ref f) = true
  kp : PySem.W.keepIn K (.ref C) = true
theorem run_make {pins : List (Addr × Obj)} {σ : St} {H : Hp} {s : Shared} {Q : VK} {us : List Value} {vs : List V} (M : Mk X.K C f) (F : FnOk X.prog X.w X.K X.mg X.base CX k f fd ps sp) (hr : Room (k + 1) X.A) (hb : Binds X.K fd ps ds) (hd : Vals dvs ds)
    (hx : Passes CX X E) (I : Inv X pins σ H s) (r : Vals vs us)
    (h : ∀ x dx, H x = none → H dx = none → dx ≠ x → sp (.ref x :: (vs ++ dvs)) (upd (upd H dx (.own x)) x (.ins C dx [])) (fun v H2 => v = .non ∧ Q (.ref x) H2) E) :
    wpAny (model X.prog X.w) X.A (call (.ref C) us) (EP X pins σ Q) X.xe s := by
  have hq := h (s.heap.objs.size + 1) s.heap.objs.size (I.hok.fresh (Nat.le_succ _)) (I.hok.fresh (Nat.le_refl _)) (Nat.ne_of_lt (Nat.lt_succ_self _))
  have I2 := Inv.made (C := C) I
  have r2 : Vals (V.ref (s.heap.objs.size + 1) :: (vs ++ dvs)) (Value.ref (s.heap.objs.size + 1) :: (us ++ ds)) := .cons rfl (r.append hd)
  have hl : (Value.ref (s.heap.objs.size + 1) :: us ++ ds).length = ps.length := by
    have e := r2.length
    rw [F.len _ _ _ _ hq] at e
    exact e.symm
  refine wpAny_call (make_map (f := f) I.kIn M.makes M.init (beq_iff_eq.mp M.fn) (codeAny_mono (F.run _ X.stack _ _ ⟨Value.ref (s.heap.objs.size + 1) :: us, []⟩ (Value.ref (s.heap.objs.size + 1) :: (us ++ ds)) _ _ E (hr.make C us [])
    (I2.env0.make C us []) (hb _ (Value.ref (s.heap.objs.size + 1) :: us) I2.kIn hl) r2 hq) fun r s' hq' => ?_))
  cases r with
  | error e => exact hx pins σ _ _ e s' I2 hq'
  | ok fl =>
    cases fl with
    | ret u =>
      obtain ⟨v, H', I3, rv, ev, q3⟩ := I2.after hq'
      subst ev
      exact ⟨rv, ⟨V.ref (s.heap.objs.size + 1), H', I3, rfl, q3⟩⟩
    | next => exact False.elim hq'
    | brk => exact False.elim hq'
    | cont => exact False.elim hq'
theorem pe_make (M : Mk X.K C f) (F : FnOk X.prog X.w X.K X.mg X.base CX k f fd ps sp) (hr : Room (k + 1) X.A) (hg : Gl X x) (hm : X.mg x = some (.ref C)) (hb : Binds X.K fd ps ds) (hd : Vals dvs ds) (hx : Passes CX X E)
    (ha : PA X (e :: es) t) (hdb : (x == ("__debug__" : Str)) = false := by decide) (he : starEach (e :: es) X.env = (false, eval e X.env) :: starEach es X.env := by rfl) (hpl : (backTo pos (starEach es X.env)).any (·.1) = false := by rfl) :
    PE X (.Call (.Name x p) (e :: es) [] pos) (tMake C sp dvs E t) := by
  intro pins s σ H Q I h
  refine wpAny_Call_Name_kw (ld_glob I hg hm ?_ hdb)
  refine PySem.W.callWith_K (h₀ := X.base) I.ok.mod.kin M.kp (thn (ha pos pins s σ H _ I h) fun us s1 ⟨vs, H1, I1, r, q⟩ => ⟨I1.kIn, ?_⟩) he hpl
  exact run_make M F hr hb hd hx I1 r q
theorem pe_make0 (M : Mk X.K C f) (F : FnOk X.prog X.w X.K X.mg X.base CX k f fd ps sp) (hr : Room (k + 1) X.A) (hg : Gl X x) (hm : X.mg x = some (.ref C)) (hb : Binds X.K fd ps ds) (hd : Vals dvs ds) (hx : Passes CX X E)
    (hdb : (x == ("__debug__" : Str)) = false := by decide) : PE X (.Call (.Name x p) [] [] pos) (tMake C sp dvs E tNil) := by
  intro pins s σ H Q I h
  refine wpAny_Call_Name_kw (ld_glob I hg hm ?_ hdb)
  exact PySem.W.callWith_K0 I.kIn M.kp (run_make (us := []) M F hr hb hd hx I .nil h)
end
section
variable {X : Cx} {CX : CXT} {k : Nat} {f C : Addr} {fd : FuncData} {ps ks : List Str} {sp : Sp} {E : XK} {x m : Str} {p pos apos kpos : Pos} {e o : Expr} {es : List Expr} {kws : List Keyword} {te ta : TE} {t tk : TA} {nm : Option Str}
variable {g : List Value → List Value → List Value} {gV : List V → List V → List V}
end
structure FnScope (N P : List Str) (sc : Scope) : Prop where
  kind : sc.kind = .function
  co : sc.isCoroutine = false
  gen : sc.isGenerator = false
  nd : N.Nodup
  pre : N.take P.length = P
  par : ∀ x ∈ P, sc.names.lookup x = some .local ∨ sc.names.lookup x = some .cell
  nofree : ∀ y ∈ sc.names, y.2 ≠ .free
theorem bindL_out {kindOf : Str → Option NameKind} {x : Str} : ∀ {binds : List (Str × Value)} {m : Str → Option Value}, (∀ v, (x, v) ∉ binds) → bindL kindOf binds m x = m x
  | [], _, _ => rfl
  | (n, v) :: r, m, h => by
    unfold bindL
    rw [bindL_out fun w hw => h w (List.mem_cons_of_mem _ hw)]
    split
    · have : x ≠ n := by rintro rfl; exact h v List.mem_cons_self
      simp [this]
    · rfl
theorem bindC_out {kindOf : Str → Option NameKind} {x : Str} : ∀ {binds : List (Str × Value)} {m : Str → Option Value}, (∀ v, (x, v) ∉ binds) → bindC kindOf binds m x = m x
  | [], _, _ => rfl
  | (n, v) :: r, m, h => by
    unfold bindC
    rw [bindC_out fun w hw => h w (List.mem_cons_of_mem _ hw)]
    split
    · rfl
    · have : x ≠ n := by rintro rfl; exact h v List.mem_cons_self
      simp [this]
theorem bindL_get {kindOf : Str → Option NameKind} {x : Str} {v : Value} : ∀ {P : List Str} {vs : List Value} {i : Nat} {m : Str → Option Value}, P.Nodup → P[i]? = some x → vs[i]? = some v → kindOf x = some .local →
    bindL kindOf (P.zip vs) m x = some v
  | [], _, _, _, _, h, _, _ => by simp at h
  | _ :: _, [], _, _, _, _, h, _ => by simp at h
  | p :: P, w :: vs, 0, m, nd, h1, h2, hk => by
    simp at h1 h2; subst h1; subst h2
    show bindL kindOf ((p, w) :: P.zip vs) m p = _
    unfold bindL
    rw [bindL_out fun v hv => (List.nodup_cons.mp nd).1 (List.of_mem_zip hv).1, if_pos hk]
    simp
  | p :: P, w :: vs, i + 1, m, nd, h1, h2, hk => by
    show bindL kindOf ((p, w) :: P.zip vs) m x = _
    unfold bindL
    exact bindL_get (i := i) (List.nodup_cons.mp nd).2 (by simpa using h1) (by simpa using h2) hk
theorem bindC_get {kindOf : Str → Option NameKind} {x : Str} {v : Value} : ∀ {P : List Str} {vs : List Value} {i : Nat} {m : Str → Option Value}, P.Nodup → P[i]? = some x → vs[i]? = some v → kindOf x ≠ some .local →
    bindC kindOf (P.zip vs) m x = some v
  | [], _, _, _, _, h, _, _ => by simp at h
  | _ :: _, [], _, _, _, _, h, _ => by simp at h
  | p :: P, w :: vs, 0, m, nd, h1, h2, hk => by
    simp at h1 h2; subst h1; subst h2
    show bindC kindOf ((p, w) :: P.zip vs) m p = _
    unfold bindC
    rw [bindC_out fun v hv => (List.nodup_cons.mp nd).1 (List.of_mem_zip hv).1, if_neg hk]
    simp
  | p :: P, w :: vs, i + 1, m, nd, h1, h2, hk => by
    show bindC kindOf ((p, w) :: P.zip vs) m x = _
    unfold bindC
    exact bindC_get (i := i) (List.nodup_cons.mp nd).2 (by simpa using h1) (by simpa using h2) hk
noncomputable def start (N : List Str) (vs : List V) : St := vs.map some ++ List.replicate (N.length - vs.length) none
noncomputable def cxOf (CX : CXT) (P : Program) (w : World) (K : PySem.W.Frag) (mg : Str → Option Value) (base : Heap) (N : List Str) (qual : Str) (scope : Scope) (f : Addr) (cd : Value) (A : Around) (outer : List Env) (s : Shared) (H : Hp) (E : XK) : Cx where
  prog := P
  w := w
  K := K
  mg := mg
  base := base
  A := A.deeper (envOfC qual scope s.heap.objs.size f cd)
  N := N
  s_0 := s
  H_0 := H
  env := envOfC qual scope s.heap.objs.size f cd
  outer := outer
  stack := envOfC qual scope s.heap.objs.size f cd :: outer
  ex := []
  calm := true
  fn := fun _ => true
  pn := []
  xe := fun e s' => wpAny (model P w) (A.deeper (envOfC qual scope s.heap.objs.size f cd)) (leaving (envOfC qual scope s.heap.objs.size f cd) e) (fun _ s'' => CX outer H s E e s'') (fun e' s'' => CX outer H s E e' s'') s'
theorem cell_has {sc : Scope} {n : Nat} {x : Str} (h : sc.names.lookup x = some .cell) : ∃ c, (cellsFrom n sc.names []).lookup x = some c := by
  have q := PySem.W.cellsFrom_some sc.names n [] (.inl h)
  exact Option.isSome_iff_exists.mp q
theorem inv_start {CX : CXT} {P : Program} {w : World} {K : PySem.W.Frag} {mg : Str → Option Value} {base : Heap} {N ps : List Str} {qual : Str} {scope : Scope} {f : Addr} {cd : Value} {A : Around} {outer : List Env} {s s1 : Shared} {H : Hp} {E : XK} {us : List Value} {vs : List V}
    (S : FnScope N ps scope) (hd : A.handled = none) (e0 : Env0 P w K mg base A outer s H) (hl : vs.length = ps.length) (r : Vals vs us)
    (x : InCallC s s.heap.objs.size (bindL (envOfC qual scope s.heap.objs.size f cd).kindOf (ps.zip us) fun _ => none) (cellsFrom (s.heap.objs.size + 1) scope.names []) (bindC (envOfC qual scope s.heap.objs.size f cd).kindOf (ps.zip us) fun _ => none) s1) :
    Inv (cxOf CX P w K mg base N qual scope f cd A outer s H E) [] (start N vs) H s1 := by
  have hpl : ps.length ≤ N.length := by have := congrArg List.length S.pre; rw [List.length_take] at this; omega
  obtain ⟨h1, tk, rfl, hk⟩ := x.done
  have noA : ∀ b : Addr, b ∉ (cxOf CX P w K mg base N qual scope f cd A outer s H E).ex := fun b z => absurd (show b ∈ ([] : List Addr) from z) (by simp)
  refine ⟨⟨e0.mod, S.kind, rfl, rfl, Nat.le_refl _, fun y z c h1 h2 => ?_, fun y hy => ?_, fun y c _ h => ?_, fun _ => hd, Around.frames_deeper e0.frames, .inr ⟨rfl, rfl⟩, fun b z => absurd z (noA b), e0.bs, e0.bsz, fun b _ _ => noA b, fun b z => absurd z (noA b), e0.funs, e0.frf⟩,
    rfl, e0.bare, Un.kept hk, ⟨_, x.toInCall.ns, fun i y v h1 h2 h3 => ?_⟩, fun y c h => ⟨_, x.cell y c h⟩, e0.hok.fresh (Nat.le_refl _), fun y c h => ?_, fun p hp => absurd (show p ∈ ([] : List (Addr × Obj)) from hp) (by simp), e0.hok.kept hk, ?_⟩
  · exact name_of_addr x.apart (PySem.mem_of_lookup h1) (PySem.mem_of_lookup h2)
  · have hy : scope.names.lookup y = some .cell ∨ scope.names.lookup y = some .free := hy
    rcases hy with hy | hy
    · exact cell_has hy
    · exact absurd rfl (S.nofree _ (PySem.mem_of_lookup hy))
  · exact Nat.le_of_lt (x.above y c (PySem.mem_of_lookup h))
  · have hi : i < vs.length := by
      unfold start at h2
      by_cases hi : i < vs.length
      · exact hi
      · rw [List.getElem?_append_right (by simpa using hi)] at h2
        rw [List.getElem?_replicate] at h2
        split at h2 <;> cases h2
    have ha : vs[i]? = some v := by
      unfold start at h2
      rw [List.getElem?_append_left (by simpa using hi), List.getElem?_map] at h2
      cases e : vs[i]? with
      | none => rw [e] at h2; cases h2
      | some a => rw [e] at h2; cases h2; rfl
    obtain ⟨u, hu, rv⟩ := r.get ha
    have hp : ps[i]? = some y := by
      rw [← S.pre, List.getElem?_take_of_lt (by omega)]; exact h1
    have ndP : ps.Nodup := by rw [← S.pre]; exact S.nd.sublist (List.take_sublist _ _)
    refine ⟨u, rv, ?_⟩
    rcases S.par y (List.mem_of_getElem? hp) with k | k
    · exact .inl ⟨k, bindL_get ndP hp hu k⟩
    · obtain ⟨c, e⟩ := cell_has (n := s.heap.objs.size + 1) k
      refine .inr ⟨.inl k, c, e, ?_⟩
      have q := x.cell y c e
      rw [bindC_get ndP hp hu (by show scope.names.lookup y ≠ _; rw [k]; decide)] at q
      exact q
  · exact e0.hok.fresh (Nat.le_of_lt (x.above y c (PySem.mem_of_lookup h)))
  · unfold start
    show _ = N.length
    rw [List.length_append, List.length_map, List.length_replicate]
    omega
theorem fn_of {CX : CXT} {P : Program} {w : World} {K : PySem.W.Frag} {mg : Str → Option Value} {base : Heap} {k : Nat} {f : Addr} {name qual : Str} {params : Arguments} {body : List Stmt} {scope : Scope} {dV kV doc pm cdv ct oc : Value} {an od : Option Addr}
    {osl : Array (Option Value)} {N ps : List Str} {sp : Sp} (lk : K.lookup f = some ⟨oc, od, .func (PySem.W.fnOf name qual params body scope dV kV doc pm an cdv ct), osl⟩) (hcd : PySem.W.codeIn K cdv qual = true) (S : FnScope N ps scope)
    (len : ∀ vs H Q E, sp vs H Q E → vs.length = ps.length)
    (hbody : ∀ (A : Around) (outer : List Env) (s : Shared) (H : Hp) (vs : List V) (Q : VK) (E : XK), Room k (A.deeper (envOfC qual scope s.heap.objs.size f cdv)) → sp vs H Q E →
      ∃ t, PSs (cxOf CX P w K mg base N qual scope f cdv A outer s H E) body t ∧ t { nx := fun _ H' => Q .non H', rt := Q } (start N vs) H) :
    FnOk P w K mg base CX (k + 1) f (PySem.W.fnOf name qual params body scope dV kV doc pm an cdv ct) ps sp := by
  refine ⟨len, fun A outer s H args us vs Q E hr e0 hb r hsp => ?_⟩
  have hl := len _ _ _ _ hsp
  have KX : K.In s.heap := e0.mod.kin.keeps fun b o e => (e0.bs b o e).1
  have lim : s.heap.NoLimit := e0.mod.nolimit.keeps fun b o e => (e0.bs b o e).1
  have hkind : ∀ y ∈ ps.zip us, scope.names.lookup y.1 = some .local ∨ (scope.names.lookup y.1 = some .cell ∧ ((cellsFrom (s.heap.objs.size + 1) scope.names []).lookup y.1).isSome = true) := fun ⟨n, v⟩ hy => by
    rcases S.par n (List.of_mem_zip hy).1 with q | q
    · exact .inl q
    · exact .inr ⟨q, PySem.W.cellsFrom_some _ _ _ (.inl q)⟩
  refine codeAny_call_function hr.depth (KX _ _ lk) rfl S.co S.gen rfl (PySem.W.codeRec_of KX hcd) (hb _ _ _ _ ?_)
  refine wpAny_newFunctionEnv_cells S.kind hkind fun env he s1 x => ?_
  subst he
  refine ⟨lim.keeps x.toInCall.keep, codeAny_func ?_⟩
  obtain ⟨t, ht, hq⟩ := hbody A outer s H vs Q E (hr.deeper _) hsp
  have I : Inv (cxOf CX P w K mg base N qual scope f cdv A outer s H E) [] (start N vs) H s1 := inv_start S hr.hd e0 hl r x
  refine wpAny_mono (ht [] s1 (start N vs) H _ I hq) (fun fl s' hs => ?_) fun e s' hs => hs
  have fin : ∀ {σ' : St} {H' : Hp} {v : V} {u : Value}, Inv (cxOf CX P w K mg base N qual scope f cdv A outer s H E) [] σ' H' s' → RelV v u → Q v H' → CE outer P w H s Q u s' :=
    fun {σ' H' v u} J rv q => ⟨v, H', J.os, J.bare, J.base, J.hok, rv, q⟩
  cases fl with
  | ret u =>
    obtain ⟨v, σ', H', J, rv, q⟩ := hs
    exact fin J rv q
  | next =>
    obtain ⟨σ', H', J, q⟩ := hs
    exact fin (v := V.non) (u := Value.none) J rfl q
  | brk =>
    obtain ⟨_, _, _, q⟩ := hs
    exact False.elim q
  | cont =>
    obtain ⟨_, _, _, q⟩ := hs
    exact False.elim q
end L2
namespace L2
open PySem PySem.Spec PyProof.Rows
section
variable {X : Cx} {x : Str} {p pos : Pos} {e : Expr} {es : List Expr} {t : TA} {id T : String} {r : List V → Hp → VK → Prop}
noncomputable def tCB (r : List V → Hp → VK → Prop) (t : TA) : TE := fun σ H Q => t σ H fun vs H1 => r vs H1 Q
theorem pe_callB (hc : CallR X (.builtin id) r) (hg : Gl X x) (hm : X.mg x = none) (hv : bootBuiltins x = some (.builtin id)) (ha : PA X (e :: es) t) (hn : x ≠ "__name__" := by decide) (hdb : (x == ("__debug__" : Str)) = false := by decide)
    (he : starEach (e :: es) X.env = (false, eval e X.env) :: starEach es X.env := by rfl) (hpl : (backTo pos (starEach es X.env)).any (·.1) = false := by rfl) : PE X (.Call (.Name x p) (e :: es) [] pos) (tCB r t) := by
  intro pins s σ H Q I h
  refine wpAny_Call_Name_kw (ld_blt I hg hm hv ?_ hn hdb)
  exact PyProof.Rows.callWith_builtin1 (thn (ha pos pins s σ H _ I h) fun us s1 ⟨vs, H1, I1, r1, q1⟩ => hc pins s1 σ H1 vs us Q I1 r1 q1) he hpl
theorem pe_callTy (hc : CallR X (.type T) r) (hg : Gl X x) (hm : X.mg x = none) (hv : bootBuiltins x = some (.type T)) (ha : PA X (e :: es) t) (hn : x ≠ "__name__" := by decide) (hdb : (x == ("__debug__" : Str)) = false := by decide)
    (he : starEach (e :: es) X.env = (false, eval e X.env) :: starEach es X.env := by rfl) (hpl : (backTo pos (starEach es X.env)).any (·.1) = false := by rfl) : PE X (.Call (.Name x p) (e :: es) [] pos) (tCB r t) := by
  intro pins s σ H Q I h
  refine wpAny_Call_Name_kw (ld_blt I hg hm hv ?_ hn hdb)
  exact PyProof.Rows.callWith_type1 (thn (ha pos pins s σ H _ I h) fun us s1 ⟨vs, H1, I1, r1, q1⟩ => hc pins s1 σ H1 vs us Q I1 r1 q1) he hpl
end
end L2
namespace HT
open PySem PyProof.Rows
section
open PySem.SeqAt
open PySem.AutoSeq1 (wpAny_loadPart')
open PySem.MeetsSeq PySem.MeetsSeq2 PySem.MeetsSeq3
end
section
variable {prog : Program} {w : World} {A : Around} {E : Value → Shared → Prop} {s : Shared}
noncomputable def sIx (n d : Nat) : Option Int → Nat
  | none => d
  | some v => if v < 0 then (v + (n : Int)).toNat else min v.toNat n
theorem sIx_nat (n d k : Nat) : sIx n d (some (k : Int)) = min k n := by
  show (if (k : Int) < 0 then ((k : Int) + (n : Int)).toNat else min (k : Int).toNat n) = min k n
  rw [if_neg (by omega), Int.toNat_natCast]
theorem sIx_le (n d : Nat) (hd : d ≤ n) (o : Option Int) : sIx n d o ≤ n := by
  cases o with
  | none => exact hd
  | some v =>
    show (if v < 0 then (v + (n : Int)).toNat else min v.toNat n) ≤ n
    by_cases hv : v < 0
    · rw [if_pos hv]; omega
    · rw [if_neg hv]; exact Nat.min_le_right _ _
theorem min_cast (v : Int) (n : Nat) (h : ¬ v < 0) : min v (n : Int) = ((min v.toNat n : Nat) : Int) := by
  obtain ⟨m, rfl⟩ := Int.eq_ofNat_of_zero_le (Int.not_lt.mp h)
  rw [Int.toNat_natCast]
  cases Nat.le_total m n with
  | inl h => rw [Nat.min_eq_left h, Int.min_eq_left (Int.ofNat_le.mpr h)]
  | inr h => rw [Nat.min_eq_right h, Int.min_eq_right (Int.ofNat_le.mpr h)]
theorem low_cast (i : Int) (n : Nat) (h : i < 0) : max 0 (min (i + (n : Int)) n) = (((i + (n : Int)).toNat : Nat) : Int) := by
  rw [Int.min_eq_left (Int.add_le_of_le_sub_right (by rw [Int.sub_self]; exact Int.le_of_lt h)), Int.max_comm, Int.toNat_eq_max]
theorem step_cast (i j : Nat) : ((j : Int) - (i : Int) - 1 + 1).toNat = j - i := by
  rw [Int.sub_add_cancel]
  exact Int.toNat_sub j i
theorem clip_eq (v : Int) (n d : Nat) : (if v < 0 then max (v + (n : Int)) 0 else min v (n : Int)) = ((sIx n d (some v) : Nat) : Int) := by
  show (if v < 0 then max (v + (n : Int)) 0 else min v (n : Int)) = (((if v < 0 then (v + (n : Int)).toNat else min v.toNat n) : Nat) : Int)
  by_cases hv : v < 0
  · simp only [if_pos hv]; exact (Int.toNat_eq_max _).symm
  · simp only [if_neg hv]; exact min_cast v n hv
theorem adjust_gen (lo hi : Option Int) (n : Nat) : Builtin.Slice.sliceAdjust lo hi 1 (n : Int) = (((sIx n 0 lo : Nat) : Int), ((sIx n n hi : Nat) : Int)) := by
  have h1 : ¬ ((1 : Int) < 0) := by omega
  unfold Builtin.Slice.sliceAdjust
  simp only [h1, if_false]
  refine Prod.ext ?_ ?_
  · cases lo with
    | none => rfl
    | some v => exact clip_eq v n 0
  · cases hi with
    | none => rfl
    | some v => exact clip_eq v n n
theorem places_gen (i j : Nat) : Builtin.Slice.slicePlaces (i : Int) (j : Int) 1 = j - i := by
  unfold Builtin.Slice.slicePlaces
  have h1 : (1 : Int) > 0 := by omega
  simp only [h1, if_true, Int.ediv_one]
  split
  · exact step_cast i j
  · rename_i h; exact (Nat.sub_eq_zero_of_le (Int.ofNat_le.mp (Int.not_lt.mp h))).symm
theorem slicePart_ {v : Value} {o : Option Int} {Q : Option Int → Shared → Prop} (p : IsPart v o) (h : Q o s) : wpAny (model prog w) A (Builtin.Slice.slicePartIndex v) Q E s := by
  cases p with
  | none => exact slicePart_none h
  | int i t => exact slicePart_int h
theorem sliceApplied_gen {sl : Addr} {vl vu : Value} {lo hi : Option Int} {n : Nat} {Q : Int × Int × Nat → Shared → Prop} (hs : s.heap.IsSliceOf sl vl vu .none) (pl : IsPart vl lo) (pu : IsPart vu hi)
    (h : Q (((sIx n 0 lo : Nat) : Int), 1, sIx n n hi - sIx n 0 lo) s) : wpAny (model prog w) A (Builtin.Slice.sliceApplied (.ref sl) (pure (n : Int))) Q E s := by
  obtain ⟨os, hos, hcs, hds⟩ := id hs
  unfold Builtin.Slice.sliceApplied Builtin.Slice.sliceFields
  refine wpAny_bind (wpAny_bind (wpAny_field hos hds (x := vl) rfl (wpAny_bind (wpAny_field hos hds (x := vu) rfl (wpAny_bind (wpAny_field hos hds (x := .none) rfl (wpAny_pure ?_)))))))
  refine wpAny_bind (slicePart_none ?_)
  show wpAny _ _ (if ((1 : Int) == 0) = true then _ else _) _ _ s
  rw [if_neg (by decide)]
  refine wpAny_bind (slicePart_ pl (wpAny_bind (slicePart_ pu (wpAny_bind (wpAny_pure ?_)))))
  show wpAny _ _ (match Builtin.Slice.sliceAdjust lo hi 1 (n : Int) with | (lo, hi) => pure (lo, (1 : Int), Builtin.Slice.slicePlaces lo hi 1)) _ _ s
  rw [adjust_gen lo hi n]
  show wpAny _ _ (pure (((sIx n 0 lo : Nat) : Int), (1 : Int), Builtin.Slice.slicePlaces ((sIx n 0 lo : Nat) : Int) ((sIx n n hi : Nat) : Int) 1)) _ _ s
  rw [places_gen]
  exact wpAny_pure h
theorem pick_gen (xs : Array Value) (i k : Nat) : ((List.range k).filterMap fun (m : Nat) => xs[((i : Int) + (m : Int) * 1).toNat]?).toArray = ((xs.toList.drop i).take k).toArray := by
  have e : (fun (m : Nat) => xs[((i : Int) + (m : Int) * 1).toNat]?) = fun m => xs[i + m]? := by
    funext m
    have : ((i : Int) + (m : Int) * 1).toNat = i + m := by omega
    rw [this]
  rw [e]
  have := pick_run xs i k
  rw [List.filterMap_map] at this
  have e2 : ((fun x => xs[x]?) ∘ fun x => i + x) = fun m => xs[i + m]? := rfl
  rw [e2] at this
  rw [this]
theorem getItem_tuple_cut {t sl : Addr} {items : Array Value} {vl vu : Value} {lo hi : Option Int} {Q : Value → Shared → Prop} (ht : IsTup s.heap t items) (hs : s.heap.IsSliceOf sl vl vu .none) (pl : IsPart vl lo) (pu : IsPart vu hi)
    (hw : ¬ (sIx items.size 0 lo = 0 ∧ sIx items.size items.size hi = items.size))
    (h : Q (.ref s.heap.objs.size) { s with heap := s.heap.push { cls := .type "tuple", data := .seq ((items.toList.drop (sIx items.size 0 lo)).take (sIx items.size items.size hi - sIx items.size 0 lo)).toArray } })
    (hsz : items.size ≤ sizeLine) : wpAny (model prog w) A (getItem (.ref t) (.ref sl)) Q E s := by
  have htake : sizeOk (.seq ((items.toList.drop (sIx items.size 0 lo)).take (sIx items.size items.size hi - sIx items.size 0 lo)).toArray) := by
    show ((items.toList.drop (sIx items.size 0 lo)).take (sIx items.size items.size hi - sIx items.size 0 lo)).toArray.size ≤ sizeLine
    rw [List.size_toArray, List.length_take, List.length_drop, Array.length_toList]
    exact Nat.le_trans (Nat.min_le_right _ _) (Nat.le_trans (Nat.sub_le _ _) hsz)
  have hj : sIx items.size items.size hi ≤ items.size := sIx_le _ _ (Nat.le_refl _) hi
  obtain ⟨os, hos, hcs, hds⟩ := id hs
  have hTs : s.TypeIs (.ref sl) "slice" := ⟨os, hos, hcs⟩
  unfold getItem
  try with_reducible refine wpAny_holding ?_
  first | refine wpAny_bind (wpAny_pure ?_) | skip
  refine wpAny_bind (wpAny_sequenceKey ht.typeIs (by decide) ?_)
  refine wpAny_bind (wpAny_callSpecial?_slot (name := Str.ofString "__getitem__") ht.typeIs PyProof.Rows.slot_tuple_getitem
    (wpAny_call_entry PyProof.Rows.slot_tuple_getitem ht.typeIs entry_tuple_getitem ?_ (args_tuple_getitem _ _)))
  show wpAny _ _ (Builtin.Tuple.tupleItemsOf (.ref t) >>= _) _ _ s
  refine wpAny_bind (tupleItemsOf_ ht ?_)
  refine wpAny_bind (wpAny_typeOf hTs ?_)
  rw [if_pos (by decide)]
  refine wpAny_bind (sliceApplied_gen hs pl pu ?_)
  have hno : ¬ ((((sIx items.size 0 lo : Nat) : Int) == 0 && (1 : Int) == 1 && (sIx items.size items.size hi - sIx items.size 0 lo) == items.size) = true) := by
    intro q
    rw [Bool.and_eq_true, Bool.and_eq_true] at q
    have q1 : ((sIx items.size 0 lo : Nat) : Int) = 0 := eq_of_beq q.1.1
    have q2 : sIx items.size items.size hi - sIx items.size 0 lo = items.size := eq_of_beq q.2
    exact hw ⟨by omega, by omega⟩
  show wpAny _ _ (if (((sIx items.size 0 lo : Nat) : Int) == 0 && (1 : Int) == 1 && (sIx items.size items.size hi - sIx items.size 0 lo) == items.size) = true then _ else _) _ _ s
  rw [if_neg hno, pick_gen]
  first
    | exact wpAny_bind (m := Builtin.Tuple.tupleExact _) (wpAny_newObj_type (wpAny_pure ⟨_, rfl, wpAny_pure h⟩) htake)
    | exact wpAny_bind (m := Builtin.Tuple.tupleExact _) (wpAny_newObj_type (wpAny_bind (wpAny_pure (wpAny_pure ⟨_, rfl, wpAny_pure h⟩))) htake)
    | exact wpAny_bind (wpAny_bind (m := Builtin.Tuple.tupleExact _) (wpAny_newObj_type (wpAny_pure (wpAny_pure ⟨_, rfl, wpAny_pure h⟩)) htake))
    | exact wpAny_bind (wpAny_bind (m := Builtin.Tuple.tupleExact _) (wpAny_newObj_type (wpAny_pure ⟨_, rfl, wpAny_pure h⟩) htake))
end
end HT
namespace L2
open PySem PySem.Spec PyProof.Rows
noncomputable abbrev TO := St → Hp → (Option Int → Hp → Prop) → Prop
noncomputable def PO (X : Cx) (e : Option Expr) (t : TO) : Prop :=
  ∀ (pins : List (Addr × Obj)) (s : Shared) (σ : St) (H : Hp) (Q : Option Int → Hp → Prop), Inv X pins σ H s → t σ H Q →
    wpAny (model X.prog X.w) X.A (evalPart e X.env) (OP X pins σ IsPart Q) X.xe s
noncomputable def tNoPart : TO := fun _ H Q => Q none H
inductive PartR (Q : Option Int → Hp → Prop) (x : V) (H1 : Hp) : Prop
  | mk (i : Int) (e : x = .int i) (q : Q (some i) H1)
noncomputable def tPart (t : TE) : TO := fun σ H Q => t σ H (PartR Q)
section
variable {X : Cx} {e : Expr} {te : TE} {lo hi : Option Expr} {tl th : TO} {pos p2 : Pos}
theorem po_none : PO X none tNoPart := by
  intro pins s σ H Q I h
  rw [evalPart_none]
  exact wpAny_pure ⟨none, H, I, .none, h⟩
theorem po_some (h : PE X e te) : PO X (some e) (tPart te) := by
  intro pins s σ H Q I hw
  rw [evalPart_some]
  refine thn (h pins s σ H _ I hw) fun u s1 ⟨x, H1, I1, r1, q1⟩ => ?_
  obtain ⟨i, rfl, q⟩ := q1
  obtain ⟨t, rfl⟩ := r1
  exact ⟨some i, H1, I1, .int i t, q⟩
noncomputable def SlR (X : Cx) (r : V → Option Int → Option Int → Hp → VK → Prop) : Prop :=
  ∀ (pins : List (Addr × Obj)) (s : Shared) (σ : St) (H : Hp) (x : V) (v vl vu : Value) (lo hi : Option Int) (sl : Addr) (Q : VK), Inv X pins σ H s → RelV x v → s.heap.IsSliceOf sl vl vu .none → IsPart vl lo → IsPart vu hi → r x lo hi H Q →
    ∃ T id, typeLookup (.type T) "__getitem__" = pure (some (.builtin id)) ∧ s.TypeIs v T ∧ wpAny (model X.prog X.w) X.A (getItem v (.ref sl)) (EP X pins σ Q) X.xe s
noncomputable def tSl (r : V → Option Int → Option Int → Hp → VK → Prop) (te : TE) (tl th : TO) : TE := fun σ H Q => te σ H fun x H1 => tl σ H1 fun l H2 => th σ H2 fun u H3 => r x l u H3 Q
theorem pe_slice {r : V → Option Int → Option Int → Hp → VK → Prop} (hr : SlR X r) (he : PE X e te) (hl : PO X lo tl) (hu : PO X hi th) : PE X (.Subscript e (.Slice lo hi none p2) pos) (tSl r te tl th) := by
  intro pins s σ H Q I h
  refine Subscript_ (thn (he pins s σ H _ I h) fun v s1 ⟨x, H1, I1, r1, q1⟩ => ?_)
  refine wpAny_Slice (thn (hl pins s1 σ H1 _ I1 q1) fun vl s2 ⟨l, H2, I2, pl, q2⟩ => thn (hu pins s2 σ H2 _ I2 q2) fun vu s3 ⟨u, H3, I3, pu, q3⟩ => ?_)
  rw [evalPart_none]
  refine wpAny_pure ?_
  have I4 : Inv X pins σ H3 { s3 with heap := s3.heap.push { cls := .type "slice", data := .fields #[vl, vu, .none] } } := I3.kept (t' := s3.toks) fun b ob q => Heap.get?_push_of_some _ q
  obtain ⟨T, id, hT, ht, hg⟩ := hr pins { s3 with heap := s3.heap.push { cls := .type "slice", data := .fields #[vl, vu, .none] } } σ H3 x v vl vu l u s3.heap.objs.size Q I4 r1 (Heap.IsSliceOf.new ..) pl pu q3
  show wpAny (model X.prog X.w) X.A (subscriptTail e (.Slice lo hi none p2) v (.ref s3.heap.objs.size)) (EP X pins σ Q) X.xe { s3 with heap := s3.heap.push { cls := .type "slice", data := .fields #[vl, vu, .none] } }
  exact tail_any (ops := [.ref s3.heap.objs.size, v]) ht hT hg (by with_unfolding_all rfl)
noncomputable def cutV (xs : List V) (lo hi : Option Int) : List V := (xs.drop (HT.sIx xs.length 0 lo)).take (HT.sIx xs.length xs.length hi - HT.sIx xs.length 0 lo)
theorem cutV_length (xs : List V) (lo hi : Option Int) : (cutV xs lo hi).length ≤ xs.length := by
  unfold cutV
  rw [List.length_take, List.length_drop]
  exact Nat.le_trans (Nat.min_le_right _ _) (Nat.sub_le _ _)
inductive SlTR (K : PySem.W.Frag) (x : V) (lo hi : Option Int) (H : Hp) (Q : VK) : Prop
  | mk (a : Addr) (xs : List V) (e : x = .ref a) (s : SqT K H a xs) (n : ¬ (HT.sIx xs.length 0 lo = 0 ∧ HT.sIx xs.length xs.length hi = xs.length)) (q : ∀ p, H p = none → Q (.ref p) (upd H p (.tup (cutV xs lo hi))))
noncomputable def rSlT (K : PySem.W.Frag) : V → Option Int → Option Int → Hp → VK → Prop := SlTR K
theorem sl_tup : SlR X (rSlT X.K) := by
  intro pins s σ H x v vl vu lo hi sl Q I rx hs pl pu h
  obtain ⟨a, xs, rfl, hx, hw, q⟩ := h
  cases rx
  obtain ⟨its, r, ht, hz⟩ := I.tuple hx
  have hlen : its.toArray.size = xs.length := by rw [List.size_toArray]; exact r.length.symm
  refine ⟨"tuple", _, PyProof.Rows.slot_tuple_getitem.lookup, ht.typeIs, ?_⟩
  refine HT.getItem_tuple_cut ht hs pl pu (by rw [hlen]; exact hw) ?_ (by rw [hlen]; exact hz)
  rw [hlen]
  refine ⟨.ref s.heap.objs.size, _, I.laid (t' := s.toks) (o := .tup (cutV xs lo hi)) (fun b ob q => Heap.get?_push_of_some _ q) (Nat.le_refl _) ?_, rfl, q _ (I.hok.fresh (Nat.le_refl _))⟩
  exact ⟨Nat.le_trans (cutV_length xs lo hi) hz, _, (r.drop (HT.sIx xs.length 0 lo)).take (HT.sIx xs.length xs.length hi - HT.sIx xs.length 0 lo), IsTup.new _ _⟩
end
end L2
namespace L2
open PySem PySem.Spec PyProof.Rows
noncomputable def ixN (n : Nat) (i : Int) : Option Nat := if 0 ≤ i then (if i < n then some i.toNat else none) else if -(n : Int) ≤ i then some (i + n).toNat else none
noncomputable def atI {α : Type} (xs : List α) (i : Int) : Option α := (ixN xs.length i).bind fun j => xs[j]?
theorem ixN_seq {n : Nat} {i : Int} {j : Nat} (h : ixN n i = some j) : seqIndex? i n = some j ∧ j < n ∧ -(n : Int) ≤ i ∧ i < n := by
  unfold ixN at h
  by_cases h0 : 0 ≤ i
  · rw [if_pos h0] at h
    by_cases h1 : i < n
    · rw [if_pos h1] at h
      have e : i.toNat = j := Option.some.inj h
      exact ⟨by rw [seqIndex_of h0 h1, e], by omega, by omega, h1⟩
    · rw [if_neg h1] at h; cases h
  · rw [if_neg h0] at h
    by_cases h1 : -(n : Int) ≤ i
    · rw [if_pos h1] at h
      have e : (i + n).toNat = j := Option.some.inj h
      exact ⟨by rw [seqIndex_neg (by omega) h1, e], by omega, h1, by omega⟩
    · rw [if_neg h1] at h; cases h
theorem atI_get {α : Type} {xs : List α} {i : Int} {v : α} (h : atI xs i = some v) : ∃ j, seqIndex? i xs.length = some j ∧ xs[j]? = some v ∧ j < xs.length ∧ -(xs.length : Int) ≤ i ∧ i < xs.length := by
  unfold atI at h
  cases e : ixN xs.length i with
  | none => rw [e] at h; cases h
  | some j =>
    rw [e] at h
    obtain ⟨h1, h2, h3, h4⟩ := ixN_seq e
    exact ⟨j, h1, h, h2, h3, h4⟩
theorem atI_nat {α : Type} {xs : List α} {j : Nat} {v : α} (h : xs[j]? = some v) : atI xs (j : Int) = some v := by
  have hj : j < xs.length := (List.getElem?_eq_some_iff.mp h).1
  have e : ixN xs.length (j : Int) = some j := by
    unfold ixN
    rw [if_pos (by omega), if_pos (by omega)]; simp
  unfold atI; rw [e]; exact h
noncomputable def PlainIx (b : Expr) : Prop := ∀ o i, subscripted b false o i = operate [o, i] (getItem o i)
noncomputable def IxR (X : Cx) (r : R2) : Prop :=
  ∀ (value slice : Expr) (pins : List (Addr × Obj)) (s : Shared) (σ : St) (H : Hp) (x y : V) (v u : Value) (Q : VK), Inv X pins σ H s → RelV x v → RelV y u → r x y H Q →
    subscripted slice false v u = operate [v, u] (getItem v u) → wpAny (model X.prog X.w) X.A (subscriptTail value slice v u) (EP X pins σ Q) X.xe s
noncomputable def MtR (X : Cx) (id : String) (r : V → List V → Hp → VK → Prop) : Prop :=
  ∀ (pins : List (Addr × Obj)) (s : Shared) (σ : St) (H : Hp) (x : V) (xs : List V) (v : Value) (us : List Value) (Q : VK), Inv X pins σ H s → RelV x v → Vals xs us → r x xs H Q →
    wpAny (model X.prog X.w) X.A (call (.builtin id) (v :: us)) (EP X pins σ Q) X.xe s
section
variable {X : Cx} {a b : Expr} {ta tb : TE} {pos : Pos}
theorem pe_ix {r : R2} (hr : IxR X r) (ha : PE X a ta) (hb : PE X b tb) (hs : PlainIx b) : PE X (.Subscript a b pos) (tOp r ta tb) := by
  intro pins s σ H Q I h
  exact Subscript_ (binT ha hb I h fun v u s2 x y H2 I2 rx ry q => hr a b pins s2 σ H2 x y v u Q I2 rx ry q (hs _ _))
inductive IrIxL (K : PySem.W.Frag) (x y : V) (H : Hp) (Q : VK) : Prop
  | mk (p : Addr) (xs : List V) (i : Int) (v : V) (ex : x = .ref p) (ey : y = .int i) (s : SqL K H p xs) (a : atI xs i = some v) (q : Q v H)
noncomputable def rIxL (K : PySem.W.Frag) : R2 := IrIxL K
inductive IrIxT (K : PySem.W.Frag) (x y : V) (H : Hp) (Q : VK) : Prop
  | mk (p : Addr) (xs : List V) (i : Int) (v : V) (ex : x = .ref p) (ey : y = .int i) (s : SqT K H p xs) (a : atI xs i = some v) (q : Q v H)
noncomputable def rIxT (K : PySem.W.Frag) : R2 := IrIxT K
theorem ix_list : IxR X (rIxL X.K) := by
  intro value slice pins s σ H x y v u Q I rx ry h hs
  obtain ⟨p, xs, i, z, rfl, rfl, hq, he, q⟩ := h
  cases rx
  obtain ⟨t, rfl⟩ := ry
  obtain ⟨its, r, pl, hz⟩ := I.list hq
  obtain ⟨j, h1, h2, h3, h4, h5⟩ := atI_get he
  obtain ⟨w, ew, rw'⟩ := r.get h2
  have hl := r.length
  have hn := line63
  have fin : EP X pins σ Q w s := ⟨z, H, I, rw', q⟩
  by_cases h0 : 0 ≤ i
  · have hj : i.toNat = j := by
      rw [seqIndex_of h0 h5] at h1
      exact Option.some.inj h1
    exact item_listR pl.isList h0 (by omega) (by rw [hj]; simpa using ew) fin hs
  · have hj : (i + (its.toArray.size : Int)).toNat = j := by
      rw [seqIndex_neg (by omega) h4] at h1
      rw [List.size_toArray, ← hl]
      exact Option.some.inj h1
    exact subscriptTail_builtinR (x := w) pl.isList.typeIs slot_list_getitem.lookup
      (wpAny_getItem_list_neg (Q := fun r s' => r = w ∧ EP X pins σ Q r s') pl.isList (by omega) (by rw [List.size_toArray] <;> omega) (by omega) (by rw [hj]; simpa using ew) ⟨rfl, fin⟩) hs
theorem ix_tup : IxR X (rIxT X.K) := by
  intro value slice pins s σ H x y v u Q I rx ry h hs
  obtain ⟨p, xs, i, z, rfl, rfl, hq, he, q⟩ := h
  cases rx
  obtain ⟨t, rfl⟩ := ry
  obtain ⟨its, r, pl, hz⟩ := I.tuple hq
  obtain ⟨j, h1, h2, h3, h4, h5⟩ := atI_get he
  obtain ⟨w, ew, rw'⟩ := r.get h2
  have hl := r.length
  have hn := line63
  have fin : EP X pins σ Q w s := ⟨z, H, I, rw', q⟩
  exact subscriptTail_builtinR (x := w) pl.typeIs slot_tuple_getitem.lookup
    (getItem_tuple (j := j) (Q := fun r s' => r = w ∧ EP X pins σ Q r s') pl (by omega) (by omega) (by rw [List.size_toArray, ← hl]; exact h1) (by simpa using ew) ⟨rfl, fin⟩) hs
theorem mapSeq_set (its : List Value) (n j : Nat) (u : Value) : Obj.mapSeq (·.setIfInBounds j u) { cls := .type "list", data := .seq its.toArray n } = { cls := .type "list", data := .seq (its.set j u).toArray n } := by
  simp [Obj.mapSeq]
theorem Inv.lst {pins : List (Addr × Obj)} {σ : St} {H : Hp} {s : Shared} {p : Addr} {xs : List V} (I : Inv X pins σ H s) (h : H p = some (.lst xs)) :
    ∃ (its : List Value) (n : Nat), Vals xs its ∧ s.heap.get? p = some { cls := .type "list", data := .seq its.toArray n } ∧ xs.length ≤ sizeLine := by
  obtain ⟨z, its, n, r, e⟩ := I.hok p _ h
  exact ⟨its, n, r, e, z⟩
theorem Inv.lstUpd {pins : List (Addr × Obj)} {σ : St} {H : Hp} {s : Shared} {p : Addr} {xs ys : List V} {its its' : List Value} {n n' : Nat} {f : Obj → Obj} (I : Inv X pins σ H s) (h : H p = some (.lst xs))
    (ho : s.heap.get? p = some { cls := .type "list", data := .seq its.toArray n }) (hf : f { cls := .type "list", data := .seq its.toArray n } = { cls := .type "list", data := .seq its'.toArray n' }) (r : Vals ys its') (hz : ys.length ≤ sizeLine) (t : Nat) :
    Inv X pins σ (upd H p (.lst ys)) { s with heap := s.heap.update p f, toks := t } := by
  have e : (s.heap.update p f).get? p = some { cls := .type "list", data := .seq its'.toArray n' } := by
    rw [Heap.get?_update_self f ho (by rw [hf] <;> rfl), hf]
  refine I.write (x := p) (e := p) (by rw [h]; trivial) (.inl rfl) (fun b u hb q => (Heap.get?_update_other _ _ (Ne.symm hb)).trans q) ⟨_, e⟩ ?_
  exact ⟨hz, its', n', r, e⟩
inductive SetLR (o i v : V) (H : Hp) (Q : Hp → Prop) : Prop
  | mk (p : Addr) (xs : List V) (k : Int) (j : Nat) (eo : o = .ref p) (ei : i = .int k) (h : H p = some (.lst xs)) (x : ixN xs.length k = some j) (q : Q (upd H p (.lst (xs.set j v))))
noncomputable def rSetL : V → V → V → Hp → (Hp → Prop) → Prop := SetLR
theorem set_list : PSet X rSetL := by
  intro pins s σ H o i v ov iv u Q I ro ri rv h
  obtain ⟨p, xs, k, j, rfl, rfl, hp, hj, q⟩ := h
  cases ro
  obtain ⟨t, rfl⟩ := ri
  obtain ⟨its, n, r, ho, hz⟩ := I.lst hp
  obtain ⟨h1, h2, h3, h4⟩ := ixN_seq hj
  have hl := r.length
  have hn := line63
  have I' : Inv X pins σ (upd H p (.lst (xs.set j v))) { s with heap := s.heap.update p (Obj.mapSeq (·.setIfInBounds j u)) } :=
    I.lstUpd hp ho (mapSeq_set its n j u) (r.set rv j) (by rw [List.length_set]; exact hz) s.toks
  by_cases h0 : 0 ≤ k
  · have hk : k.toNat = j := by
      rw [seqIndex_of h0 h4] at h1
      exact Option.some.inj h1
    exact PySem.W.ki_setAt ho h0 (by omega) (by rw [List.size_toArray, ← hl]; exact h4) (by rw [hk]; exact ⟨_, I', q⟩)
  · have hk : (k + (its.toArray.size : Int)).toNat = j := by
      rw [seqIndex_neg (by omega) h3] at h1
      rw [List.size_toArray, ← hl]
      exact Option.some.inj h1
    exact PySem.W.ki_setBack ho (by omega) (by rw [List.size_toArray, ← hl]; exact h3) (by omega) (by rw [hk]; exact ⟨_, I', q⟩)
theorem slice_bounds (lo hi : Option Int) (n : Nat) : (sliceBounds lo hi none n).1 = ((HT.sIx n 0 lo : Nat) : Int) ∧ (sliceBounds lo hi none n).2.1 = ((HT.sIx n n hi : Nat) : Int) ∧ (sliceBounds lo hi none n).2.2 = 1 := by
  refine ⟨?_, ?_, rfl⟩
  · cases lo with
    | none => simp [sliceBounds, HT.sIx]
    | some i =>
      simp only [sliceBounds, HT.sIx, Option.getD_none, show (1 : Int) > 0 by decide, if_true]
      by_cases h : i < 0
      · simp only [h, if_true]; exact HT.low_cast i n h
      · simp only [h, if_false]; rw [HT.min_cast i n h]; exact Int.max_eq_right (Int.natCast_nonneg _)
  · cases hi with
    | none => simp [sliceBounds, HT.sIx]
    | some i =>
      simp only [sliceBounds, HT.sIx, Option.getD_none, show (1 : Int) > 0 by decide, if_true]
      by_cases h : i < 0
      · simp only [h, if_true]; exact HT.low_cast i n h
      · simp only [h, if_false]; rw [HT.min_cast i n h]; exact Int.max_eq_right (Int.natCast_nonneg _)
theorem slicePick_cut (its : List Value) (lo hi : Option Int) : slicePick its.toArray lo hi none = ((its.drop (HT.sIx its.length 0 lo)).take (HT.sIx its.length its.length hi - HT.sIx its.length 0 lo)).toArray := by
  obtain ⟨h1, h2, h3⟩ := slice_bounds lo hi its.toArray.size
  unfold slicePick
  rw [h1, h2, h3]
  simp only [sliceRange_one, pick_run, List.size_toArray] <;> rfl
inductive SlLR (K : PySem.W.Frag) (x : V) (lo hi : Option Int) (H : Hp) (Q : VK) : Prop
  | mk (a : Addr) (xs : List V) (e : x = .ref a) (s : SqL K H a xs) (q : ∀ p, H p = none → Q (.ref p) (upd H p (.lst (cutV xs lo hi))))
noncomputable def rSlL (K : PySem.W.Frag) : V → Option Int → Option Int → Hp → VK → Prop := SlLR K
theorem sl_list : SlR X (rSlL X.K) := by
  intro pins s σ H x v vl vu lo hi sl Q I rx hs pl pu h
  obtain ⟨a, xs, rfl, hx, q⟩ := h
  cases rx
  obtain ⟨its, r, ht, hz⟩ := I.list hx
  have hlen := r.length
  refine ⟨"list", _, slot_list_getitem.lookup, ht.isList.typeIs, ?_⟩
  refine wpAny_getItem_list_slice ht.isList hs pl pu .none (by simp) ?_ (by rw [List.size_toArray] <;> omega)
  rw [slicePick_cut, ← hlen]
  refine ⟨.ref s.heap.objs.size, _, I.laid (t' := s.toks) (o := .lst (cutV xs lo hi)) (fun b ob q => Heap.get?_push_of_some _ q) (Nat.le_refl _) ?_, rfl, q _ (I.hok.fresh (Nat.le_refl _))⟩
  exact ⟨Nat.le_trans (cutV_length xs lo hi) hz, _, 0, (r.drop (HT.sIx xs.length 0 lo)).take (HT.sIx xs.length xs.length hi - HT.sIx xs.length 0 lo), Heap.get?_push_size _ rfl⟩
inductive LenR (K : PySem.W.Frag) (xs : List V) (H : Hp) (Q : VK) : Prop
  | mk (p : Addr) (ys : List V) (e : xs = [.ref p]) (s : SqL K H p ys ∨ SqT K H p ys) (q : Q (.int ys.length) H)
theorem call_len_seq : CallR X (.builtin "len") (LenR X.K) := by
  intro pins s σ H xs us Q I r h
  obtain ⟨p, ys, rfl, hq, q⟩ := h
  obtain ⟨u, rfl, rx⟩ := vals1 r
  cases rx
  have hn := line63
  rcases hq with hq | hq
  · obtain ⟨its, r', pl, hz⟩ := I.list hq
    have hlen := r'.length
    exact Calls.call_len_list pl.isList (by simp only [List.size_toArray] <;> omega) ⟨.int ys.length, H, I.tok _, ⟨s.toks + 1, by rw [List.size_toArray, hlen]⟩, q⟩
  · obtain ⟨its, r', pl, hz⟩ := I.tuple hq
    have hlen := r'.length
    exact len_tuple pl (by simp only [List.size_toArray] <;> omega) ⟨.int ys.length, H, I.tok _, ⟨s.toks + 1, by rw [List.size_toArray, hlen]⟩, q⟩
inductive LstOfR (K : PySem.W.Frag) (xs : List V) (H : Hp) (Q : VK) : Prop
  | mk (p : Addr) (ys : List V) (e : xs = [.ref p]) (s : SqL K H p ys ∨ SqT K H p ys) (q : ∀ l, H l = none → Q (.ref l) (upd H l (.lst ys)))
theorem call_list_of : CallR X (.type "list") (LstOfR X.K) := by
  intro pins s σ H xs us Q I r h
  obtain ⟨p, ys, rfl, hq, q⟩ := h
  obtain ⟨u, rfl, rx⟩ := vals1 r
  cases rx
  have fin : ∀ (its : List Value), Vals ys its → ys.length ≤ sizeLine → ∀ (h' : Heap) (c' : Nat), (∀ b o', s.heap.get? b = some o' → h'.get? b = some o') →
      h'.get? s.heap.objs.size = some { cls := .type "list", dict := none, data := .seq its.toArray c', slots := #[] } → EP X pins σ Q (.ref s.heap.objs.size) { s with heap := h' } := fun its r' hz h' c' kp e =>
    ⟨.ref s.heap.objs.size, _, I.laid (t' := s.toks) kp (Nat.le_refl _) (show ObjOk X.prog X.w _ h' _ (.lst ys) from ⟨hz, its, c', r', e⟩), rfl, q _ (I.hok.fresh (Nat.le_refl _))⟩
  rcases hq with hq | hq
  · obtain ⟨its, r', pl, hz⟩ := I.list hq
    have hlen := r'.length
    obtain ⟨o, ho, hc, n, hd⟩ := pl.isList
    exact call_list_seq p (.inl rfl) ho hc hd (fun h' c' kp e => fin its r' hz h' c' kp e) (by simp only [List.size_toArray] <;> omega)
  · obtain ⟨its, r', pl, hz⟩ := I.tuple hq
    have hlen := r'.length
    obtain ⟨o, ho, hc, n, hd⟩ := pl
    exact call_list_seq p (.inr rfl) ho hc hd (fun h' c' kp e => fin its r' hz h' c' kp e) (by simp only [List.size_toArray] <;> omega)
inductive TupOfR (K : PySem.W.Frag) (xs : List V) (H : Hp) (Q : VK) : Prop
  | mk (p : Addr) (ys : List V) (e : xs = [.ref p]) (q : (SqL K H p ys ∧ ∀ l, H l = none → Q (.ref l) (upd H l (.tup ys))) ∨ (SqT K H p ys ∧ Q (.ref p) H))
theorem call_tuple_of : CallR X (.type "tuple") (TupOfR X.K) := by
  intro pins s σ H xs us Q I r h
  obtain ⟨p, ys, rfl, h⟩ := h
  obtain ⟨u, rfl, rx⟩ := vals1 r
  cases rx
  rcases h with ⟨hq, q⟩ | ⟨hq, q⟩
  · obtain ⟨its, r', pl, hz⟩ := I.list hq
    have hlen := r'.length
    refine call_tuple_list pl.isList (fun h' kp => ?_) (by simp only [List.size_toArray] <;> omega)
    have I1 : Inv X pins σ H { s with heap := h' } := I.kept (t' := s.toks) kp
    have I2 : Inv X pins σ (upd H h'.objs.size (.tup ys)) { s with heap := h'.push { cls := .type "tuple", data := .seq its.toArray } } :=
      I1.laid (t' := s.toks) (fun b o e => Heap.get?_push_of_some _ e) (Nat.le_refl _) (show ObjOk X.prog X.w _ _ _ (.tup ys) from ⟨hz, its, r', IsTup.new _ _⟩)
    exact ⟨.ref h'.objs.size, _, I2, rfl, q _ (I1.hok.fresh (Nat.le_refl _))⟩
  · obtain ⟨its, r', pl, hz⟩ := I.tuple hq
    exact call_tuple_same pl ⟨.ref p, H, I, rfl, q⟩
noncomputable def tyV (K : PySem.W.Frag) (T : String) (x : V) (H : Hp) : Prop := match x with
  | .str _ => T = "str"
  | .int _ => T = "int"
  | .ref p => (T = "list" ∧ ∃ xs, SqL K H p xs) ∨ (T = "tuple" ∧ ∃ o, K.lookup p = some o ∧ o.cls = .type "tuple" ∧ o.dict = none) ∨
      (T = "dict" ∧ ((∃ kvs, H p = some (.dK kvs)) ∨ ∃ kvs, H p = some (.dT kvs))) ∨ (T = "set" ∧ ∃ S n, H p = some (.set S n))
  | _ => False
theorem tyV_is {pins : List (Addr × Obj)} {σ : St} {H : Hp} {s : Shared} {T : String} {x : V} {v : Value} (I : Inv X pins σ H s) (r : RelV x v) (ty : tyV X.K T x H) :
    s.TypeIs v T ∧ ∀ a, v = .ref a → ∃ ob, s.heap.get? a = some ob ∧ ob.dict = none := by
  cases x with
  | str z =>
    obtain ⟨t, rfl⟩ := r
    cases (show T = "str" from ty)
    exact ⟨typeIs_str s z t, fun _ e => nomatch e⟩
  | int i =>
    obtain ⟨t, rfl⟩ := r
    cases (show T = "int" from ty)
    exact ⟨typeIs_int s i t, fun _ e => nomatch e⟩
  | ref p =>
    cases r
    rcases ty with ⟨rfl, xs, hq⟩ | ⟨rfl, o, hk, hc, hd⟩ | ⟨rfl, hk⟩ | ⟨rfl, S, n, hk⟩
    · obtain ⟨its, _, pl, _⟩ := I.list hq
      refine ⟨pl.isList.typeIs, fun a e => ?_⟩
      cases e
      obtain ⟨o, n, e, c, hd, _⟩ := pl
      exact ⟨o, e, hd⟩
    · refine ⟨⟨o, I.kIn p o hk, hc⟩, fun a e => ?_⟩
      cases e
      exact ⟨o, I.kIn _ o hk, hd⟩
    · have z : ∃ o, s.heap.get? p = some o ∧ o.ExactDict := by
        rcases hk with ⟨kvs, hk⟩ | ⟨kvs, hk⟩
        · obtain ⟨_, _, _, _, o, _, _, e, ex, _⟩ := I.hok p _ hk
          exact ⟨o, e, ex⟩
        · obtain ⟨_, _, _, _, o, _, _, e, ex, _⟩ := I.hok p _ hk
          exact ⟨o, e, ex⟩
      obtain ⟨o, e, ex⟩ := z
      refine ⟨⟨o, e, ex.1⟩, fun a e2 => ?_⟩
      cases e2
      exact ⟨o, e, ex.2.1⟩
    · obtain ⟨o, _, _, _, e, ex, _⟩ := I.hok p _ hk
      refine ⟨⟨o, e, ex.1⟩, fun a e2 => ?_⟩
      cases e2
      exact ⟨o, e, ex.2.1⟩
  | _ => exact False.elim ty
noncomputable def tBM0 (K : PySem.W.Frag) (T : String) (r : V → List V → Hp → VK → Prop) (to : TE) : TE := fun σ H Q => to σ H fun x H1 => tyV K T x H1 ∧ r x [] H1 Q
noncomputable def tBM (K : PySem.W.Frag) (T : String) (r : V → List V → Hp → VK → Prop) (to : TE) (t : TA) : TE := fun σ H Q => to σ H fun x H1 => tyV K T x H1 ∧ t σ H1 fun xs H2 => r x xs H2 Q
variable {o e : Expr} {es : List Expr} {to : TE} {t : TA} {name : Str} {apos cpos : Pos} {T id : String} {r : V → List V → Hp → VK → Prop}
theorem pe_bm0 (pa : PlainAttrs T) (slot : Slot T name id) (hty : typeOf (.builtin id) = pure (.type "method_descriptor")) (hm : MtR X id r) (ho : PE X o to)
    (hbase : attributeBase o name X.env (eval o X.env) = eval o X.env := by rfl) (hline : (apos.endLine == cpos.line) = true := by rfl) : PE X (.Call (.Attribute o name apos) [] [] cpos) (tBM0 X.K T r to) := by
  intro pins s σ H Q I h
  refine wpAny_Call_method0_late hbase hline (thn (ho pins s σ H _ I h) fun v s1 ⟨x, H1, I1, r1, ty, q1⟩ => ?_)
  obtain ⟨h1, h2⟩ := tyV_is I1 r1 ty
  exact ⟨T, id, pa, slot, hty, h1, h2, Calls.callWith_builtin rfl (PySem.evalArgs_none (hm pins s1 σ H1 x [] v [] Q I1 r1 .nil q1))⟩
theorem pe_bm (pa : PlainAttrs T) (slot : Slot T name id) (hty : typeOf (.builtin id) = pure (.type "method_descriptor")) (hm : MtR X id r) (ho : PE X o to) (ha : PA X (e :: es) t)
    (hbase : attributeBase o name X.env (eval o X.env) = eval o X.env := by rfl)
    (hfew : ((backTo cpos (starEach (e :: es) X.env)).all (fun x => !x.1) && (backToKw cpos (keywordEach [] X.env)).all (fun x => x.1.isSome)
      && decide ((e :: es).length + ([] : List Keyword).length + (if ([] : List Keyword).isEmpty then 0 else 1) < 30)) = true := by rfl)
    (hline : (apos.endLine == cpos.line) = true := by rfl) (hs : starEach (e :: es) X.env = (false, eval e X.env) :: starEach es X.env := by rfl) (hplain : (backTo cpos (starEach es X.env)).any (·.1) = false := by rfl) :
    PE X (.Call (.Attribute o name apos) (e :: es) [] cpos) (tBM X.K T r to t) := by
  intro pins s σ H Q I h
  refine wpAny_Call_method_late hbase hfew hline rfl (thn (ho pins s σ H _ I h) fun v s1 ⟨x, H1, I1, r1, ty, q1⟩ => ?_)
  obtain ⟨h1, h2⟩ := tyV_is I1 r1 ty
  refine ⟨T, id, pa, slot, hty, h1, h2, ?_⟩
  have hA := ha cpos pins s1 σ H1 _ I1 q1
  rw [hs] at hA ⊢
  refine Calls.callWith_builtin (by show (false || (backTo cpos (starEach es X.env)).any (·.1)) = false; rw [hplain] <;> rfl) (Calls.evalArgs_plain ?_)
  exact thn hA fun us s2 ⟨vs, H2, I2, r2, q2⟩ => hm pins s2 σ H2 x vs v us Q I2 r1 r2 q2
/- xs.append(e), list.index on a module's tuple .. are MtR facts of 06m -/
end
end L2
namespace L2
open PySem PySem.Spec PyProof.Rows
noncomputable def MtM (X : Cx) (id : String) (r : V → List V → Hp → VK → Prop) : Prop :=
  ∀ (pins : List (Addr × Obj)) (s : Shared) (σ : St) (H : Hp) (x : V) (xs : List V) (v : Value) (us : List Value) (Q : VK), Inv X pins σ H s → RelV x v → Vals xs us → r x xs H Q →
    wpAny (model X.prog X.w) X.A (call (.builtin id) (v :: us)) (EP X pins σ Q) X.xe s
theorem Vals.one {x : V} {us : List Value} (h : Vals [x] us) : ∃ u, us = [u] ∧ RelV x u := by
  cases h with
  | cons r t => cases t; exact ⟨_, rfl, r⟩
theorem Vals.eraseIdx : ∀ {xs : List V} {us : List Value} (i : Nat), Vals xs us → Vals (xs.eraseIdx i) (us.eraseIdx i)
  | _, _, _, .nil => .nil
  | _, _, 0, .cons _ t => t
  | _, _, i + 1, .cons r t => .cons r (Vals.eraseIdx i t)
theorem len_erase {α : Type} : ∀ (l : List α) (i : Nat), (l.eraseIdx i).length ≤ l.length
  | [], _ => Nat.le_refl _
  | _ :: _, 0 => Nat.le_succ _
  | _ :: r, i + 1 => Nat.succ_le_succ (len_erase r i)
section
variable {X : Cx} {pins : List (Addr × Obj)} {σ : St} {H : Hp} {s : Shared} {l b : Addr} {xs ys zs : List V}
theorem Inv.lset {its its' : List Value} {n : Nat} {f : Array Value → Array Value} {t' : Nat} (I : Inv X pins σ H s) (hH : H l = some (.lst xs))
    (e : s.heap.get? l = some { cls := .type "list", data := .seq its.toArray n }) (hf : f its.toArray = its'.toArray) (hv : Vals ys its') (hz : ys.length ≤ sizeLine) :
    Inv X pins σ (upd H l (.lst ys)) { s with heap := s.heap.update l (Obj.mapSeq f), toks := t' } := by
  have q := PySem.IsL.update e f
  rw [hf] at q
  refine I.write (x := l) (e := l) (by rw [hH]; exact trivial) (.inl rfl) (fun b' u hb hu => (Heap.get?_update_other s.heap (Obj.mapSeq f) (Ne.symm hb)).trans hu) ⟨_, q⟩ ?_
  exact ⟨hz, its', _, hv, q⟩
theorem Inv.lnew {its : List Value} {t' : Nat} (I : Inv X pins σ H s) (hv : Vals ys its) (hz : ys.length ≤ sizeLine) :
    Inv X pins σ (upd H s.heap.objs.size (.lst ys)) { s with heap := s.heap.push { cls := .type "list", data := .seq its.toArray }, toks := t' } :=
  I.laid (fun _ _ q => Heap.get?_push_of_some _ q) (Nat.le_refl _) ⟨hz, its, 0, hv, Heap.get?_push_size _ rfl⟩
theorem Inv.fresh (I : Inv X pins σ H s) : H s.heap.objs.size = none := I.hok.fresh (Nat.le_refl _)
theorem Inv.lstM (I : Inv X pins σ H s) (hH : H l = some (.lst xs)) : xs.length ≤ sizeLine ∧ ∃ (its : List Value) (n : Nat), Vals xs its ∧ xs.length = its.length ∧ s.heap.get? l = some { cls := .type "list", data := .seq its.toArray n } := by
  obtain ⟨z, its, n, r, e⟩ := I.hok l _ hH
  exact ⟨z, its, n, r, r.length, e⟩
theorem notLongL {n : Nat} (h : n ≤ sizeLine) : Builtin.List.listTooLong n = false := by
  unfold Builtin.List.listTooLong
  exact decide_eq_false (by omega)
end
section
variable {X : Cx}
inductive AppR (x : V) (vs : List V) (H : Hp) (Q : VK) : Prop
  | mk (l : Addr) (xs : List V) (y : V) (ex : x = .ref l) (ev : vs = [y]) (h : H l = some (.lst xs)) (n : xs.length < sizeLine) (q : Q .non (upd H l (.lst (xs ++ [y]))))
noncomputable def rAppend : V → List V → Hp → VK → Prop := AppR
theorem mt_append : MtM X "list.append" rAppend := by
  intro pins s σ H x vs v us Q I rx rv h
  obtain ⟨l, xs, y, rfl, rfl, hH, hz, q⟩ := h
  cases rx
  obtain ⟨u, rfl, ru⟩ := rv.one
  obtain ⟨z, its, n, r, hl, e⟩ := I.lstM hH
  refine call_meets F.slot_list_append ⟨_, e, rfl⟩ F.entry_list_append (F.args_list_append_2 _ _) (PySem.list_append l its.toArray n u (by rw [List.size_toArray]; omega)) ⟨e, ?_⟩
  refine ⟨.non, _, I.lset (its' := its ++ [u]) hH e (by simp) (r.append (.cons ru .nil)) ?_, rfl, q⟩
  rw [List.length_append, List.length_singleton]
  omega
inductive ExtR (x : V) (vs : List V) (H : Hp) (Q : VK) : Prop
  | mk (l b : Addr) (xs zs : List V) (ex : x = .ref l) (ev : vs = [.ref b]) (h : H l = some (.lst xs)) (h' : H b = some (.lst zs)) (n : xs.length + zs.length ≤ sizeLine) (q : Q .non (upd H l (.lst (xs ++ zs))))
noncomputable def rExtend : V → List V → Hp → VK → Prop := ExtR
theorem mt_extend : MtM X "list.extend" rExtend := by
  intro pins s σ H x vs v us Q I rx rv h
  obtain ⟨l, b, xs, zs, rfl, rfl, hH, hB, hz, q⟩ := h
  cases rx
  obtain ⟨u, rfl, ru⟩ := rv.one
  cases ru
  obtain ⟨z, its, n, r, hl, e⟩ := I.lstM hH
  obtain ⟨z2, its2, n2, r2, hl2, e2⟩ := I.lstM hB
  have hsz : its.toArray.size + its2.toArray.size ≤ sizeLine := by rw [List.size_toArray, List.size_toArray]; omega
  have hlong : ¬ (!its.toArray.isEmpty && Builtin.List.listTooLong (its.toArray.size + its2.toArray.size)) = true := by
    rw [notLongL hsz, Bool.and_false]
    exact Bool.false_ne_true
  refine call_meets F.slot_list_extend ⟨_, e, rfl⟩ F.entry_list_extend (F.args_list_extend_2 _ _)
    (AutoSeq1.list_extend_list_list_0 l its.toArray n b its2.toArray n2 hlong (by rw [List.size_toArray]; omega) (by omega)) ⟨e, e2, ?_⟩
  refine ⟨.non, _, I.lset (its' := its ++ its2) hH e (by simp) (r.append r2) ?_, rfl, q⟩
  rw [List.length_append]
  omega
inductive PopR (x : V) (vs : List V) (H : Hp) (Q : VK) : Prop
  | mk (l : Addr) (xs : List V) (i : Int) (k : Nat) (y : V) (ex : x = .ref l) (ev : vs = [.int i]) (h : H l = some (.lst xs)) (a : -(2 ^ 63) ≤ i) (b : i < 2 ^ 63) (c : seqIndex? i xs.length = some k) (d : xs[k]? = some y) (q : Q y (upd H l (.lst (xs.eraseIdx k))))
noncomputable def rPopAt : V → List V → Hp → VK → Prop := PopR
theorem mt_popAt : MtM X "list.pop" rPopAt := by
  intro pins s σ H x vs v us Q I rx rv h
  obtain ⟨l, xs, i, k, y, rfl, rfl, hH, h1, h2, hk, hy, q⟩ := h
  cases rx
  obtain ⟨u, rfl, ru⟩ := rv.one
  obtain ⟨t, rfl⟩ := ru
  obtain ⟨z, its, n, r, hl, e⟩ := I.lstM hH
  obtain ⟨w, hw, rw'⟩ := r.get hy
  refine call_meets F.slot_list_pop ⟨_, e, rfl⟩ F.entry_list_pop (F.args_list_pop_2 _ _)
    (MeetsSeq.list_pop_at l its.toArray n i t k w (fitsIndex_both h1 h2) (by rw [List.size_toArray, ← hl]; exact hk) (by rw [← Array.getElem?_toList]; exact hw) (by rw [List.size_toArray]; omega)) ⟨e, ?_⟩
  refine ⟨y, _, I.lset (its' := its.eraseIdx k) hH e ?_ (r.eraseIdx k) ?_, rw', q⟩
  · show its.toArray.eraseIdxIfInBounds k = (its.eraseIdx k).toArray
    rw [List.eraseIdxIfInBounds_toArray]
  · have := len_erase xs k
    omega
inductive CatR (x y : V) (H : Hp) (Q : VK) : Prop
  | mk (l b : Addr) (xs zs : List V) (ex : x = .ref l) (ey : y = .ref b) (h : H l = some (.lst xs)) (h' : H b = some (.lst zs)) (n : xs.length + zs.length ≤ sizeLine) (q : ∀ p, H p = none → Q (.ref p) (upd H p (.lst (xs ++ zs))))
noncomputable def rCat : R2 := CatR
theorem op_cat : OpR X (binaryOp .Add) rCat := by
  intro pins s σ H x y v u Q I rx ry h
  obtain ⟨l, b, xs, zs, rfl, rfl, hH, hB, hz, q⟩ := h
  cases rx
  cases ry
  obtain ⟨z, its, n, r, hl, e⟩ := I.lstM hH
  obtain ⟨z2, its2, n2, r2, hl2, e2⟩ := I.lstM hB
  refine PySem.P.add_list e e2 ?_ (by rw [List.size_toArray, List.size_toArray]; omega)
  have ea : its.toArray ++ its2.toArray = (its ++ its2).toArray := by simp
  rw [ea]
  exact ⟨.ref _, _, I.lnew (t' := s.toks) (r.append r2) (by rw [List.length_append]; omega), rfl, q _ I.fresh⟩
end
section
variable {prog : Program} {w : World} {A : Around} {E : Value → Shared → Prop} {s : Shared}
set_option maxRecDepth 100000 in
end
section
variable {X : Cx}
end
end L2
namespace L2
open PySem PySem.Spec PyProof.Rows
theorem Vals.ints : ∀ {ns : List Int} {us : List Value}, Vals (ns.map V.int) us → IntsAre us ns
  | [], us, h => by
    rw [List.map_nil] at h
    cases h
    exact IntsAre.nil
  | n :: ns, us, h => by
    rw [List.map_cons] at h
    cases h with
    | cons r t =>
      obtain ⟨k, rfl⟩ := r
      exact IntsAre.cons n k (Vals.ints t)
theorem vals_of_ints : ∀ {us : List Value} {ns : List Int}, IntsAre us ns → Vals (ns.map V.int) us
  | _, _, .nil => by rw [List.map_nil]; exact Paired.nil
  | _, _, .cons n t h => by rw [List.map_cons]; exact Paired.cons (show RelV (V.int n) (Value.int n t) from ⟨t, rfl⟩) (vals_of_ints h)
theorem Vals.bls : ∀ {bs : List Bool} {us : List Value}, Vals (bs.map V.bl) us → us = bs.map Value.bool
  | [], us, h => by
    rw [List.map_nil] at h
    cases h
    rfl
  | b :: bs, us, h => by
    rw [List.map_cons] at h
    cases h with
    | cons r t =>
      cases r
      rw [Vals.bls t, List.map_cons]
theorem Vals.ref1 {a : Addr} {us : List Value} (r : Vals [V.ref a] us) : us = [Value.ref a] := by
  cases r with
  | cons r t =>
    cases t
    cases r
    rfl
section
variable {prog : Program} {w : World} {A : Around} {E : Value → Shared → Prop} {s : Shared} {l : Addr} {its : List Value} {ns : List Int} {Q : Value → Shared → Prop}
theorem sum_raw (hh : A.handled = none) (hl : s.heap.IsList l its.toArray) (hi : IntsAre its ns)
    (h : ∀ h' tk t', (∀ b o, s.heap.get? b = some o → h'.get? b = some o) → Q (.int ns.sum t') { s with heap := h', toks := tk }) : wpAny (model prog w) A (call (.builtin "sum") [.ref l]) Q E s := by
  obtain ⟨xs, e⟩ := hi.allInts.items
  have hn : numsOf (intItems xs).toList = ns := by rw [← e]; exact hi.numsOf
  rw [nums_intItems] at hn
  rw [e] at hl
  refine PySem.sum_intListG hh hl fun h' tk t' hk => ?_
  have := h h' tk t' hk
  rw [preSum_eq, List.take_of_length_le (by simp), hn]; exact this
end
section
variable {X : Cx}
inductive SumR (K : PySem.W.Frag) (vs : List V) (H : Hp) (Q : VK) : Prop
  | mk (a : Addr) (ns : List Int) (e : vs = [V.ref a]) (s : SqL K H a (ns.map V.int)) (q : Q (.int ns.sum) H)
noncomputable def rSum (K : PySem.W.Frag) : List V → Hp → VK → Prop := SumR K
theorem cr_sum (hc : X.calm = true) : CallR X (.builtin "sum") (rSum X.K) := by
  intro pins s σ H vs us Q I r h
  obtain ⟨a, ns, rfl, hs, q⟩ := h
  obtain ⟨its, rv, hl, _⟩ := I.list hs
  rw [Vals.ref1 r]
  exact sum_raw (I.ok.hd hc) hl.isList rv.ints fun h' tk t' hk => ⟨.int _, H, I.kept hk, ⟨_, rfl⟩, q⟩
end
section
variable {X : Cx}
end
section
variable {X : Cx}
end
theorem iter_any {prog : Program} {w : World} {A : Around} {E : Value → Shared → Prop} {s : Shared} {l : Addr} {items : Array Value} {Q : Value → Shared → Prop} (hl : s.heap.IsList l items)
    (h : ∀ s₂ : Shared, s₂ = { s with heap := s.heap.push { cls := .type "list_iterator", data := .fields #[.ref l, .int 0 0] } } →
      (s₂.heap.IsListIter s.heap.objs.size l 0 ∧ s₂.heap.IsList l items) → l ≠ s.heap.objs.size → Q (.ref s.heap.objs.size) s₂) : wpAny (model prog w) A (pyIter (.ref l)) Q E s := by
  have hlt : l < s.heap.objs.size := by obtain ⟨_, e, _⟩ := hl; exact Heap.lt_size e
  exact wpAny_pyIter_list hl (h _ rfl ⟨⟨_, Heap.get?_push_size _ rfl, rfl, rfl⟩, hl.push _⟩ (Nat.ne_of_lt hlt))
theorem truth_bools {prog : Program} {w : World} {A : Around} {bs : List Bool} {its : List Value} (e : its = bs.map Value.bool) :
    TruthOf prog w A (fun i v => its.toArray[i]? = some v) (fun i => bs.getD i false) := fun i v s Q E hv hq => by
  have hv' : its[i]? = some v := by simpa using hv
  rw [e, List.getElem?_map] at hv'
  obtain ⟨b, hb, rfl⟩ := Option.map_eq_some_iff.mp hv'
  have hg : bs.getD i false = b := by rw [List.getD_eq_getElem?_getD, hb] <;> rfl
  have hq' : Q (bs.getD i false) s := hq
  rw [hg] at hq'
  exact wpAny_truthy_bool hq'
theorem any_range : ∀ bs : List Bool, (List.range bs.length).any (fun i => bs.getD i false) = bs.any id
  | [] => rfl
  | b :: bs => by
    rw [List.length_cons, List.range_succ_eq_map, List.any_cons, List.any_map, List.any_cons, ← any_range bs]
    all_goals rfl
section
variable {X : Cx}
inductive AnyR (K : PySem.W.Frag) (vs : List V) (H : Hp) (Q : VK) : Prop
  | mk (a : Addr) (bs : List Bool) (e : vs = [V.ref a]) (s : SqL K H a (bs.map V.bl)) (q : Q (.bl (bs.any id)) H)
noncomputable def rAny (K : PySem.W.Frag) : List V → Hp → VK → Prop := AnyR K
theorem cr_any (hc : X.calm = true) : CallR X (.builtin "any") (rAny X.K) := by
  intro pins s σ H vs us Q I r h
  obtain ⟨a, bs, rfl, hs, q⟩ := h
  obtain ⟨its, rv, hl, _⟩ := I.list hs
  rw [Vals.ref1 r]
  have hb := rv.bls
  refine call_any_walk (iter_any hl.isList fun s₂ e2 st hne => ?_)
  subst e2
  refine ⟨_, _, _, _, _, _, _, rfl, Walks.list (A := X.A.in1) (I.ok.hd hc) _ a hne its.toArray, st, truth_bools hb, fun h' tk hk => ?_⟩
  refine ⟨.bl _, H, I.kept fun b o eo => hk b o (fun hmem => ?_) (Heap.get?_push_of_some _ eo), ?_, q⟩
  · rcases List.mem_cons.mp hmem with e1 | hmem
    · exact absurd (e1 ▸ Heap.lt_size eo) (Nat.lt_irrefl _)
    · cases hmem
  · show Value.bool _ = Value.bool _
    rw [← any_range, hb, List.size_toArray, List.length_map]
end
section
variable {X : Cx} {pins : List (Addr × Obj)} {σ : St} {H : Hp} {s : Shared}
end
section
variable {X : Cx}
end
end L2
namespace L2
open PySem PySem.Spec PyProof.Rows
noncomputable abbrev CellAt (h : Heap) (c : Addr) (v : Option Value) : Prop := h.IsCell c v
noncomputable def relS (scope sc : Scope) : Scope :=
  { scope with names := scope.names.map fun (n, k) => if (k == .free && sc.kind == .function && sc.names.lookup n == some .cell) then (n, .cell) else (n, k) }
noncomputable def cloFrom (cells : List (Str × Addr)) : List (Str × NameKind) → List (Str × Addr) → List (Str × Addr)
  | [], acc => acc
  | (n, k) :: r, acc => if k == .free then cloFrom cells r ((n, (cells.lookup n).getD 0) :: acc) else cloFrom cells r acc
theorem closure_loop (env : Env) (f : Str × NameKind → List (Str × Addr) → Sem (ForInStep (List (Str × Addr))))
    (hf : ∀ n k c, f (n, k) c = if k == .free then (do let a ← cellOf env n; pure (.yield ((n, a) :: c))) else pure (.yield c)) :
    ∀ (names : List (Str × NameKind)) (acc : List (Str × Addr)), (∀ y ∈ names, y.2 = .free → ∃ c, env.cells.lookup y.1 = some c) → forIn names acc f = pure (cloFrom env.cells names acc)
  | [], acc, _ => by rw [List.forIn_nil]; rfl
  | (n, k) :: r, acc, h => by
    rw [List.forIn_cons, hf]
    have ih := fun acc => closure_loop env f hf r acc fun y hy => h y (List.mem_cons_of_mem _ hy)
    unfold cloFrom
    by_cases hk : (k == NameKind.free) = true
    · rw [if_pos hk, if_pos hk]
      obtain ⟨c, hc⟩ := h (n, k) List.mem_cons_self (by simpa using hk)
      have e : cellOf env n = pure c := by unfold cellOf; rw [hc]
      rw [e]
      have e2 : (env.cells.lookup n).getD 0 = c := by rw [hc]; rfl
      rw [e2]
      exact ih _
    · rw [if_neg hk, if_neg hk]
      exact ih _
theorem closure_ok {scope : Scope} {env : Env} (h : ∀ y ∈ scope.names, y.2 = .free → ∃ c, env.cells.lookup y.1 = some c) : closureFor scope env = pure (cloFrom env.cells scope.names []) := by
  simp only [closureFor]
  rw [closure_loop env _ (fun n k c => rfl) scope.names [] h]
  rfl
theorem mem_lookup {α : Type} : ∀ {l : List (Str × α)} {n : Str} {c : α}, (n, c) ∈ l → ∃ c', l.lookup n = some c'
  | (k, v) :: r, n, c, h => by
    rw [List.lookup_cons]
    cases hb : n == k with
    | true => exact ⟨_, rfl⟩
    | false =>
      rcases List.mem_cons.mp h with e | h
      · cases e; simp at hb
      · exact mem_lookup h
theorem cloFrom_mem {cells : List (Str × Addr)} : ∀ {names : List (Str × NameKind)} {acc : List (Str × Addr)} {n : Str} {c : Addr}, (n, c) ∈ cloFrom cells names acc → (n, c) ∈ acc ∨ ((n, .free) ∈ names ∧ c = (cells.lookup n).getD 0)
  | [], _, _, _, h => .inl h
  | (m, k) :: r, acc, n, c, h => by
    unfold cloFrom at h
    split at h
    · rename_i hk
      have hk : k = .free := by simpa using hk
      rcases cloFrom_mem h with h | ⟨h1, h2⟩
      · rcases List.mem_cons.mp h with e | h
        · cases e; exact .inr ⟨hk ▸ List.mem_cons_self, rfl⟩
        · exact .inl h
      · exact .inr ⟨List.mem_cons_of_mem _ h1, h2⟩
    · rcases cloFrom_mem h with h | ⟨h1, h2⟩
      · exact .inl h
      · exact .inr ⟨List.mem_cons_of_mem _ h1, h2⟩
theorem cloFrom_acc {cells : List (Str × Addr)} : ∀ {names : List (Str × NameKind)} {acc : List (Str × Addr)} {p : Str × Addr}, p ∈ acc → p ∈ cloFrom cells names acc
  | [], _, _, h => h
  | (m, k) :: r, acc, p, h => by
    unfold cloFrom
    split
    · exact cloFrom_acc (List.mem_cons_of_mem _ h)
    · exact cloFrom_acc h
theorem cloFrom_has {cells : List (Str × Addr)} : ∀ {names : List (Str × NameKind)} {acc : List (Str × Addr)} {n : Str}, (n, .free) ∈ names → (n, (cells.lookup n).getD 0) ∈ cloFrom cells names acc
  | (m, k) :: r, acc, n, h => by
    unfold cloFrom
    rcases List.mem_cons.mp h with e | h
    · cases e
      exact cloFrom_acc List.mem_cons_self
    · split
      · exact cloFrom_has h
      · exact cloFrom_has h
theorem cells_mem : ∀ {names : List (Str × NameKind)} {h : Heap} {acc : List (Str × Addr)} {x : Str} {c : Addr}, (x, c) ∈ cellsFrom h.objs.size names acc →
    (x, c) ∈ acc ∨ ((x, .cell) ∈ names ∧ h.objs.size ≤ c ∧ CellAt (pushCells h names) c none)
  | [], _, _, _, _, h => .inl h
  | (n, k) :: r, h, acc, x, c, hm => by
    unfold cellsFrom at hm
    unfold pushCells
    split at hm
    · rename_i hk
      rw [if_pos hk]
      have hk : k = .cell := by simpa using hk
      rw [← Heap.size_push h { cls := .type "cell", data := .cell none }] at hm
      rcases cells_mem hm with hm | ⟨h1, h2, h3⟩
      · rcases List.mem_cons.mp hm with e | hm
        · cases e
          exact .inr ⟨hk ▸ List.mem_cons_self, Nat.le_refl _, _, pushCells_keeps r _ _ _ (Heap.get?_push_size _ rfl), rfl⟩
        · exact .inl hm
      · rw [Heap.size_push] at h2
        exact .inr ⟨List.mem_cons_of_mem _ h1, Nat.le_of_succ_le h2, h3⟩
    · rename_i hk
      rw [if_neg hk]
      rcases cells_mem hm with hm | ⟨h1, h2, h3⟩
      · exact .inl hm
      · exact .inr ⟨List.mem_cons_of_mem _ h1, h2, h3⟩
theorem cells_acc : ∀ {names : List (Str × NameKind)} {n : Nat} {acc : List (Str × Addr)} {p : Str × Addr}, p ∈ acc → p ∈ cellsFrom n names acc
  | [], _, _, _, h => h
  | (m, k) :: r, n, acc, p, h => by
    unfold cellsFrom
    split
    · exact cells_acc (List.mem_cons_of_mem _ h)
    · exact cells_acc h
theorem cells_has : ∀ {names : List (Str × NameKind)} {n : Nat} {acc : List (Str × Addr)} {x : Str}, (x, .cell) ∈ names → ∃ c, (x, c) ∈ cellsFrom n names acc
  | (m, k) :: r, n, acc, x, h => by
    unfold cellsFrom
    rcases List.mem_cons.mp h with e | h
    · cases e
      exact ⟨n, cells_acc List.mem_cons_self⟩
    · split
      · exact cells_has h
      · exact cells_has h
theorem cells_inj : ∀ {names : List (Str × NameKind)} {h : Heap} {acc : List (Str × Addr)} {x y : Str} {c : Addr}, (∀ p ∈ acc, p.2 < h.objs.size) → (∀ x y c, (x, c) ∈ acc → (y, c) ∈ acc → x = y) →
    (x, c) ∈ cellsFrom h.objs.size names acc → (y, c) ∈ cellsFrom h.objs.size names acc → x = y
  | [], _, _, _, _, _, _, hi, h1, h2 => hi _ _ _ h1 h2
  | (n, k) :: r, h, acc, x, y, c, hl, hi, h1, h2 => by
    unfold cellsFrom at h1 h2
    split at h1
    · rename_i hk
      rw [if_pos hk] at h2
      rw [← Heap.size_push h { cls := .type "cell", data := .cell none }] at h1 h2
      refine cells_inj (h := h.push _) (fun p hp => ?_) (fun x y c a b => ?_) h1 h2
      · rw [Heap.size_push]
        rcases List.mem_cons.mp hp with rfl | hp
        · exact Nat.lt_succ_self _
        · exact Nat.lt_succ_of_lt (hl p hp)
      · rcases List.mem_cons.mp a with e | a <;> rcases List.mem_cons.mp b with e' | b
        · cases e; cases e'; rfl
        · cases e; exact absurd (hl _ b) (Nat.lt_irrefl _)
        · cases e'; exact absurd (hl _ a) (Nat.lt_irrefl _)
        · exact hi _ _ _ a b
    · rename_i hk
      rw [if_neg hk] at h2
      exact cells_inj hl hi h1 h2
theorem newEnv_comp {M : Model} {A : Around} {E : Value → Shared → Prop} {s : Shared} {scope : Scope} {globals : Addr} {closure : List (Str × Addr)} {qual : Str} {func : Option Addr} {code : Value} {around : Env} {builtins : Addr} {Q : Env → Shared → Prop}
    (h : Q (newEnv scope s.heap.objs.size globals (cellsFrom (s.heap.objs.size + 1) scope.names closure) qual func code (some around) builtins)
      { s with heap := pushCells (s.heap.push { cls := .type "dict", data := .dict #[] }) scope.names }) :
    wpAny M A (newFunctionEnv scope globals closure [] qual func code (some around) builtins) Q E s := by
  simp only [newFunctionEnv, Option.isSome_some, if_true]
  refine wpAny_bind (wpAny_alloc ?_)
  refine wpAny_bind (wpAny_layCells _ (fun n k c => rfl) scope.names closure _ _ ?_)
  rw [show ({ s with heap := s.heap.push { cls := .type "dict", data := .dict #[] } } : Shared).heap.objs.size = s.heap.objs.size + 1 from Heap.size_push ..]
  rw [List.forIn_nil]
  exact wpAny_bind (wpAny_pure (wpAny_pure h))
theorem lookup_relS {sc : Scope} : ∀ {names : List (Str × NameKind)} {x : Str} {k : NameKind},
    (names.map fun (n, k) => if (k == NameKind.free && sc.kind == .function && sc.names.lookup n == some .cell) then (n, NameKind.cell) else (n, k)).lookup x = some k →
    ∃ k', names.lookup x = some k' ∧ (k = k' ∨ (k' = .free ∧ k = .cell))
  | [], _, _, h => by simp at h
  | (n, k₀) :: r, x, k, h => by
    have ih := @lookup_relS sc r x k
    have h' : List.lookup x ((if (k₀ == NameKind.free && sc.kind == .function && sc.names.lookup n == some .cell) = true then (n, NameKind.cell) else (n, k₀)) :: (r.map _)) = some k := h
    cases hx : x == n with
    | true =>
      simp only [List.lookup_cons, hx]
      by_cases hc : (k₀ == NameKind.free && sc.kind == .function && sc.names.lookup n == some .cell) = true
      · rw [if_pos hc] at h'
        simp only [List.lookup_cons, hx] at h'
        cases h'
        simp only [Bool.and_eq_true, beq_iff_eq] at hc
        exact ⟨k₀, rfl, .inr ⟨hc.1.1, rfl⟩⟩
      · rw [if_neg hc] at h'
        simp only [List.lookup_cons, hx] at h'
        cases h'
        exact ⟨_, rfl, .inl rfl⟩
    | false =>
      simp only [List.lookup_cons, hx]
      by_cases hc : (k₀ == NameKind.free && sc.kind == .function && sc.names.lookup n == some .cell) = true
      · rw [if_pos hc] at h'
        simp only [List.lookup_cons, hx] at h'
        exact ih h'
      · rw [if_neg hc] at h'
        simp only [List.lookup_cons, hx] at h'
        exact ih h'
structure BlkOk (N : List Str) (sc scope : Scope) (own : List (Str × Nat)) : Prop where
  kind : scope.kind = .function
  uniq : ∀ y ∈ scope.names, scope.names.lookup y.1 = some y.2
  ix : ∀ p ∈ own, N[p.2]? = some p.1
  free : ∀ y ∈ scope.names, y.2 = .free → sc.names.lookup y.1 = some .cell ∨ sc.names.lookup y.1 = some .free
  own : ∀ y ∈ scope.names, y.2 = .local ∨ y.2 = .cell → y.1 ∈ own.map (·.1) ∨ y.1 ∉ N
noncomputable def wipe (σ : St) : List Nat → St
  | [] => σ
  | v :: vs => (wipe σ vs).set v none
theorem wipe_length (σ : St) : ∀ vs : List Nat, (wipe σ vs).length = σ.length
  | [] => rfl
  | v :: vs => by unfold wipe; rw [List.length_set, wipe_length σ vs]
theorem wipe_some {σ : St} {i : Nat} {x : V} : ∀ {vs : List Nat}, (wipe σ vs)[i]? = some (some x) → σ[i]? = some (some x) ∧ i ∉ vs
  | [], h => ⟨h, by simp⟩
  | v :: vs, h => by
    unfold wipe at h
    by_cases hi : v = i
    · subst hi
      by_cases hv : v < (wipe σ vs).length
      · rw [List.getElem?_set_self hv] at h; cases h
      · rw [List.getElem?_eq_none (by simpa using hv)] at h; cases h
    · rw [List.getElem?_set_ne hi] at h
      obtain ⟨h1, h2⟩ := wipe_some h
      exact ⟨h1, by simp only [List.mem_cons, not_or]; exact ⟨fun e => hi e.symm, h2⟩⟩
noncomputable abbrev Cx.blk (X : Cx) (s : Shared) (H : Hp) (scope : Scope) (cenv : Env) (fp : List Addr) : Cx := { X with s_0 := s, H_0 := H, env := cenv, outer := X.stack, ex := fp, fn := fun x => scope.names.lookup x == some .cell, pn := [], xe := fun _ _ => False }
section
variable {X : Cx} {pins : List (Addr × Obj)} {σ : St} {H : Hp} {s : Shared}
theorem block_start {scope : Scope} {own : List (Str × Nat)} {fp : List Addr} (I : Inv X pins σ H s) (ok : BlkOk X.N X.env.scope scope own) (hN : X.N.Nodup) (hfp : ∀ b ∈ fp, FpOk X pins H b ∧ b < s.heap.objs.size) :
    Inv (X.blk s H scope (compEnvC scope (cellsFrom (s.heap.objs.size + 1) scope.names (cloFrom X.env.cells scope.names [])) s.heap.objs.size X.env) fp) [] (wipe σ (own.map (·.2))) H { s with heap := pushCells (s.heap.push { cls := .type "dict", data := .dict #[] }) scope.names } := by
  have hfree : ∀ y ∈ scope.names, y.2 = .free → ∃ c, X.env.cells.lookup y.1 = some c := fun y hy e => by
    rcases ok.free y hy e with k | k
    · exact I.ok.has _ (.inl k)
    · exact I.ok.has _ (.inr k)
  generalize hcenv : compEnvC scope (cellsFrom (s.heap.objs.size + 1) scope.names (cloFrom X.env.cells scope.names [])) s.heap.objs.size X.env = cenv
  have kp : ∀ b o, s.heap.get? b = some o → (pushCells (s.heap.push { cls := .type "dict", data := .dict #[] }) scope.names).get? b = some o := fun b o e => pushCells_keeps _ _ _ _ (Heap.get?_push_of_some _ e)
  have hL : cenv.locals = s.heap.objs.size := by rw [← hcenv]; rfl
  have hcl : cenv.cells = cellsFrom (s.heap.objs.size + 1) scope.names (cloFrom X.env.cells scope.names []) := by rw [← hcenv]; rfl
  have hsc : cenv.scope = relS scope X.env.scope := by rw [← hcenv]; rfl
  rw [← Heap.size_push s.heap { cls := .type "dict", data := .dict #[] }] at hcl
  have cm : ∀ {y c}, (y, c) ∈ cloFrom X.env.cells scope.names [] → X.env.cells.lookup y = some c ∧ c < s.heap.objs.size := fun {y c} hm => by
    rcases cloFrom_mem hm with hm | ⟨h1, rfl⟩
    · cases hm
    · obtain ⟨c, hc⟩ := hfree _ h1 rfl
      rw [hc]
      obtain ⟨w, z⟩ := I.cell _ _ hc
      exact ⟨rfl, z.lt⟩
  have mem : ∀ {y c}, cenv.cells.lookup y = some c → (X.env.cells.lookup y = some c ∧ c < s.heap.objs.size) ∨ (s.heap.objs.size + 1 ≤ c ∧ CellAt (pushCells (s.heap.push { cls := .type "dict", data := .dict #[] }) scope.names) c none) := fun {y c} e => by
    rw [hcl] at e
    rcases cells_mem (PySem.mem_of_lookup e) with hm | ⟨_, h2, h3⟩
    · exact .inl (cm hm)
    · rw [Heap.size_push] at h2; exact .inr ⟨h2, h3⟩
  have look : ∀ {y}, scope.names.lookup y = some .free → ∃ c, cenv.cells.lookup y = some c ∧ X.env.cells.lookup y = some c := fun {y} hl => by
    have hy : (y, NameKind.free) ∈ scope.names := PySem.mem_of_lookup hl
    obtain ⟨c', e'⟩ := mem_lookup (cells_acc (names := scope.names) (n := (s.heap.push { cls := .type "dict", data := .dict #[] }).objs.size) (cloFrom_has (cells := X.env.cells) (acc := []) hy))
    rw [← hcl] at e'
    refine ⟨c', e', ?_⟩
    rw [hcl] at e'
    rcases cells_mem (PySem.mem_of_lookup e') with hm | ⟨h1, _, _⟩
    · exact (cm hm).1
    · have := ok.uniq _ h1
      rw [hl] at this; cases this
  have okB : (X.blk s H scope cenv fp).Ok := by
    refine ⟨I.ok.mod, by show cenv.scope.kind = _; rw [hsc]; exact ok.kind, by show cenv.globals = _; rw [← hcenv]; exact I.ok.glob, by show cenv.builtins = _; rw [← hcenv]; exact I.ok.blt, by show s.heap.objs.size ≤ cenv.locals; rw [hL]; exact Nat.le_refl _,
      fun y z c e1 e2 => ?_, fun y hy => ?_, fun y c z e => ?_, I.ok.hd, I.ok.frames, .inl rfl, fun b hb => ⟨?_, fun y c e z => ?_⟩, I.bs, Nat.le_trans I.ok.bsz I.sz, fun b o e hb => ?_, fun b hb z => ?_, I.stack, I.stkFree⟩
    · have e1 : cenv.cells.lookup y = some c := e1
      have e2 : cenv.cells.lookup z = some c := e2
      rw [hcl] at e1 e2
      refine cells_inj (fun p hp => ?_) (fun y z c a b => I.ok.inj y z c (cm a).1 (cm b).1) (PySem.mem_of_lookup e1) (PySem.mem_of_lookup e2)
      rw [Heap.size_push]
      exact Nat.lt_succ_of_lt (cm (y := p.1) (c := p.2) hp).2
    · show ∃ c, cenv.cells.lookup y = some c
      have key : ∀ k, cenv.kindOf y = some k → (k = .cell ∨ k = .free) → ∃ c, cenv.cells.lookup y = some c := fun k hk hk' => by
        unfold Env.kindOf at hk
        rw [hsc] at hk
        obtain ⟨k', e, r⟩ := lookup_relS hk
        have : k' = .cell ∨ k' = .free := by
          rcases r with rfl | ⟨rfl, _⟩
          · exact hk'
          · exact .inr rfl
        rcases this with rfl | rfl
        · obtain ⟨c, hm⟩ := cells_has (n := (s.heap.push { cls := .type "dict", data := .dict #[] }).objs.size) (acc := cloFrom X.env.cells scope.names []) (PySem.mem_of_lookup e)
          obtain ⟨c', e'⟩ := mem_lookup hm
          exact ⟨c', by rw [hcl]; exact e'⟩
        · obtain ⟨c, h1, _⟩ := look e
          exact ⟨c, h1⟩
      rcases hy with hy | hy
      · exact key _ hy (.inl rfl)
      · exact key _ hy (.inr rfl)
    · have z : (scope.names.lookup y == some NameKind.cell) = true := z
      have z : scope.names.lookup y = some .cell := by simpa using z
      have e : cenv.cells.lookup y = some c := e
      rw [hcl] at e
      rcases cells_mem (PySem.mem_of_lookup e) with hm | ⟨_, h2, _⟩
      · rcases cloFrom_mem hm with hm | ⟨h1, _⟩
        · cases hm
        · have q := ok.uniq _ h1
          rw [z] at q; cases q
      · rw [Heap.size_push] at h2
        exact Nat.le_of_succ_le h2
    · show b ≠ cenv.locals
      rw [hL]; exact Nat.ne_of_lt (hfp b hb).2
    · have e : cenv.cells.lookup y = some c := e
      rcases mem e with ⟨h1, _⟩ | ⟨h1, _⟩
      · exact (hfp b hb).1.2.2.2.2.1 y c h1 z
      · have h2 : s.heap.objs.size + 1 ≤ b := by rw [← z]; exact h1
        exact absurd (Nat.lt_of_lt_of_le (hfp b hb).2 (Nat.le_of_succ_le h2)) (Nat.lt_irrefl _)
    · rcases (hfp b hb).1.2.2.2.1 with z | z
      · exact I.ok.noex b o e z
      · exact absurd (Nat.lt_of_lt_of_le (Heap.lt_size e) (Nat.le_trans I.ok.bsz z)) (Nat.lt_irrefl _)
    · rcases List.mem_cons.mp (I.stkSub b z) with z | z
      · exact (hfp b hb).1.2.1 z
      · exact (hfp b hb).1.2.2.1 z
  refine ⟨okB, rfl, I.bare, Un.kept kp, ⟨fun _ => none, ?_, fun i y av e1 e2 e3 => ?_⟩, fun y c e => ?_, ?_, fun y c e => ?_, fun p hp => ?_, I.hok.kept kp, by rw [wipe_length]; exact I.len⟩
  · show Heap.Ns _ cenv.locals _
    rw [hL]
    exact Heap.Ns.keeps (Heap.Ns.new ..) fun b o e => pushCells_keeps _ _ _ _ e
  · obtain ⟨e2, hne⟩ := wipe_some e2
    have hfr : scope.names.lookup y = some .free ∧ (cenv.kindOf y = some .cell ∨ cenv.kindOf y = some .free) := by
      have key : ∀ k, cenv.scope.names.lookup y = some k → k = .local ∨ k = .cell ∨ k = .free → scope.names.lookup y = some .free ∧ (cenv.kindOf y = some .cell ∨ cenv.kindOf y = some .free) := fun k hk hk' => by
        have hk0 := hk
        rw [hsc] at hk
        obtain ⟨k', e, r⟩ := lookup_relS hk
        have no : ¬ (k' = .local ∨ k' = .cell) := fun hh => by
          rcases ok.own _ (PySem.mem_of_lookup e) hh with e' | e'
          · obtain ⟨p, hp, hpy⟩ := List.mem_map.mp e'
            have e3 := ok.ix p hp
            have : p.1 = y := hpy
            rw [this] at e3
            exact hne (List.mem_map.mpr ⟨p, hp, nodup_ix hN e3 e1⟩)
          · exact e' (List.mem_of_getElem? e1)
        rcases r with rfl | ⟨rfl, rfl⟩
        · rcases hk' with rfl | rfl | rfl
          · exact absurd (.inl rfl) no
          · exact absurd (.inr rfl) no
          · exact ⟨e, .inr hk0⟩
        · exact ⟨e, .inl hk0⟩
      have e3 : Vis cenv.scope y := e3
      rcases e3 with e3 | e3 | e3
      · exact key _ e3 (.inl rfl)
      · exact key _ e3 (.inr (.inl rfl))
      · exact key _ e3 (.inr (.inr rfl))
    obtain ⟨m, hn, hl⟩ := I.loc
    have hvis : Vis X.env.scope y := (ok.free _ (PySem.mem_of_lookup hfr.1) rfl).elim (fun k => .inr (.inl k)) (fun k => .inr (.inr k))
    obtain ⟨w, r, q⟩ := hl i y av e1 e2 hvis
    refine ⟨w, r, .inr ⟨hfr.2, ?_⟩⟩
    obtain ⟨c, h1, h2⟩ := look hfr.1
    rcases q with ⟨k, _⟩ | ⟨_, c', e', z⟩
    · have k : X.env.scope.names.lookup y = some .local := k
      rcases ok.free _ (PySem.mem_of_lookup hfr.1) rfl with k' | k' <;> rw [show X.env.scope.names.lookup y = _ from k'] at k <;> cases k
    · rw [h2] at e'; cases e'
      exact ⟨c, h1, z.keeps kp⟩
  · have e : cenv.cells.lookup y = some c := e
    rcases mem e with ⟨h1, _⟩ | ⟨_, z⟩
    · obtain ⟨w, z⟩ := I.cell y c h1
      exact ⟨w, z.keeps kp⟩
    · exact ⟨_, z⟩
  · show H cenv.locals = none
    rw [hL]; exact I.hok.fresh (Nat.le_refl _)
  · have e : cenv.cells.lookup y = some c := e
    rcases mem e with ⟨h1, _⟩ | ⟨h1, _⟩
    · exact I.freeC y c h1
    · exact I.hok.fresh (Nat.le_of_succ_le h1)
  · exact absurd (show p ∈ ([] : List (Addr × Obj)) ++ [] from hp) (by simp)
theorem app_ok {E : Value → Shared → Prop} {D : Addr} {xs : List V} {y : V} {v : Value} {Q : Value → Shared → Prop} (I : Inv X pins σ H s) (hD : H D = some (.lst xs)) (hz : xs.length < sizeLine) (r : RelV y v)
    (h : ∀ s', Inv X pins σ (upd H D (.lst (xs ++ [y]))) s' → Q .none s') : wpAny (model X.prog X.w) X.A (call (.builtin "list.append") [.ref D, v]) Q E s := by
  obtain ⟨hz', its, n, ri, e⟩ := I.hok D _ hD
  have hl := ri.length
  refine append_at (hsz := by rw [List.size_toArray]; omega) e fun h' sb ho' => ?_
  refine h { s with heap := h' } (I.write (t' := s.toks) (by rw [hD]; trivial) (.inl rfl) (fun b u hb q => (sb.2 b hb).trans q) ⟨_, ho'⟩ ⟨by rw [List.length_append]; exact hz, its ++ [v], n + 1, ri.append (.cons r .nil), ?_⟩)
  rw [ho']
  simp
noncomputable def PTs (X : Cx) (ifs : List Expr) (t : TT) : Prop :=
  ∀ (pins : List (Addr × Obj)) (s : Shared) (σ : St) (H : Hp) (Q : Bool → Hp → Prop), Inv X pins σ H s → t σ H Q →
    wpAny (model X.prog X.w) X.A (forIn ifs true fun c r => if r = true then do let ok ← isTrue c X.env (eval c X.env); pure (ForInStep.yield ok) else pure (ForInStep.yield r)) (TP X pins σ Q) X.xe s
noncomputable def tYes : TT := fun _ H Q => Q true H
theorem pts_nil : PTs X [] tYes := fun _ _ _ H _ I h => wpAny_tests_nil ⟨H, I, h⟩
theorem pts_one {c : Expr} {t : TT} (h : PT X c t) : PTs X [c] t := fun pins s σ H Q I hw => wpAny_tests_one (h pins s σ H Q I hw)
end
theorem thnF {α : Type} {t : Sem α} {Q Q' : α → Shared → Prop} {M : Model} {A : Around} {E : Value → Shared → Prop} {s : Shared} (h : wpAny M A t Q (fun _ _ => False) s) (hQ : ∀ a s, Q a s → Q' a s) : wpAny M A t Q' E s := wpAny_mono h hQ fun _ _ z => False.elim z
theorem compLoop_any {prog : Program} {w : World} {A : Around} {R : Result → Shared → Prop} {s : Shared} {elt target iter : Expr} {ifs : List Expr} {scope : Scope} {pos : Pos} {it acc : Value} {env : Env} (I : Nat → Shared → Prop)
    (turn : ∀ n s, I n s → wpAny (model prog w) A (pyNext it) (fun r s₁ => match r with
      | none => R (.ok .next) s₁
      | some v => wpAny (model prog w) A (letOwnedTupleGo target it v) (fun _ s₁' => wpAny (model prog w) A (assign target env v) (fun _ s₂ =>
          wpAny (model prog w) A (forIn ifs true fun c r => if r = true then do let ok ← isTrue c env (eval c env); pure (ForInStep.yield ok) else pure (ForInStep.yield r)) (fun ok s₃ =>
            if ok = true then wpAny (model prog w) A (eval elt env) (fun x s₄ =>
              wpAny (model prog w) A (call (.builtin "list.append") [acc, x]) (fun _ s₅ => ∃ m, m < n ∧ I m s₅) (notedBy (model prog w) A env fun e s' => R (.error e) s') s₄) (notedBy (model prog w) A env fun e s' => R (.error e) s') s₃
            else ∃ m, m < n ∧ I m s₃) (notedBy (model prog w) A env fun e s' => R (.error e) s') s₂) (notedBy (model prog w) A env fun e s' => R (.error e) s') s₁') (notedBy (model prog w) A env fun e s' => R (.error e) s') s₁) (notedBy (model prog w) A env fun e s' => R (.error e) s') s)
    (n : Nat) (h : I n s) :
    codeAny (model prog w) A (.compLoop (.ListComp elt [⟨target, iter, ifs, 0⟩] scope pos) 0 it acc env) R s := by
  refine codeAny_loop rfl I (fun n s hI => ?_) n h
  show wpAny _ A ((compTurn (.ListComp elt [⟨target, iter, ifs, 0⟩] scope pos) 0 it acc env).onRaise (fun x => do noteFrame x env; theTreesLotGoes x)) _ _ s
  refine wpAny_noted ?_
  rw [compTurn_list]
  refine wpAny_bind (wpAny_standAt (wpAny_bind (wpAny_mono (turn n s hI) (fun r s₁ h₁ => ?_) fun _ _ h' => h')))
  cases r with
  | none => exact wpAny_pure h₁
  | some v =>
    refine wpAny_bind (wpAny_mono h₁ (fun _ s₁' h₁' => ?_) fun _ _ h' => h')
    refine wpAny_bind (wpAny_mono h₁' (fun _ s₂ h₂ => wpAny_bind (wpAny_mono h₂ (fun ok s₃ h₃ => ?_) fun _ _ h' => h')) fun _ _ h' => h')
    cases ok with
    | false => exact wpAny_pure ⟨rfl, h₃⟩
    | true =>
      exact wpAny_bind (wpAny_bind (wpAny_mono h₃ (fun x s₄ h₄ => wpAny_bind (wpAny_mono h₄ (fun _ s₅ h₅ => wpAny_pure (wpAny_pure ⟨rfl, h₅⟩)) fun _ _ h' => h')) fun _ _ h' => h'))
section
variable {X : Cx}
noncomputable def tLc (wi : TI) (g : TG) (tt : TT) (te : TE) (vs : List Nat) : TE := fun σ H Q => wi σ H fun J H1 => ∀ D, H1 D = none → ∃ W : Nat → Nat → Hp → Prop, (∃ m, W 0 m (upd H1 D (.lst []))) ∧ ∀ i m H, W i m H →
  (J.stop i H ∧ Q (.ref D) H) ∨ (J.go i H ∧ ∃ Nx : Hp → Prop, (∀ H', Nx H' → ∃ m', m' < m ∧ W (i + 1) m' H') ∧ ∀ x H', J.yld i H x H' → g x (wipe σ vs) H' fun σ2 H2 => wipe σ2 vs = wipe σ vs ∧ tt σ2 H2 fun b H3 =>
    if b = true then te σ2 H3 fun y H4 => ∃ acc, H4 D = some (.lst acc) ∧ acc.length < sizeLine ∧ Nx (upd H4 D (.lst (acc ++ [y]))) else Nx H3)
theorem lc_core {pins : List (Addr × Obj)} {s : Shared} {σ : St} {H : Hp} {Q : VK} {elt tg iter : Expr} {ifs : List Expr} {scope : Scope} {own : List (Str × Nat)} {pos pos' : Pos} {wi : TI} {g : TG} {tt : TT} {te : TE} {use : Option (Value → Sem Unit)} {Qf : Value → Shared → Prop}
    (hc : X.calm = true) (hN : X.N.Nodup) (I : Inv X pins σ H s) (hi : PI X tg iter wi) (ok : BlkOk X.N X.env.scope scope own)
    (hg : ∀ (s : Shared) (H : Hp) (C : Addr) (cl : List (Str × Addr)) (fp : List Addr), PG (X.blk s H scope (compEnvC scope cl C X.env) fp) tg g) (ht : ∀ (s : Shared) (H : Hp) (C : Addr) (cl : List (Str × Addr)) (fp : List Addr), PTs (X.blk s H scope (compEnvC scope cl C X.env) fp) ifs tt)
    (he : ∀ (s : Shared) (H : Hp) (C : Addr) (cl : List (Str × Addr)) (fp : List Addr), PE (X.blk s H scope (compEnvC scope cl C X.env) fp) elt te) (hs : ∀ x, foldedSetIterable iter X.env x = pure x)
    (h : tLc wi g tt te (own.map (·.2)) σ H Q)
    (hRR : ∀ D C s' m H', Inv X pins σ H' s' → Q (.ref D) H' → s'.heap.Ns C m → FpOk X pins H' C → compPost (model X.prog X.w) X.A X.xe use Qf (.ref D) C (.ok .next) s') :
    wpAny (model X.prog X.w) X.A (comprehension (.ListComp elt [⟨tg, iter, ifs, 0⟩] scope pos) scope X.env pos' (newList []) false (eval iter X.env) use) Qf X.xe s := by
  have hfree : ∀ y ∈ scope.names, y.2 = .free → ∃ c, X.env.cells.lookup y.1 = some c := fun y hy e => by
    rcases ok.free y hy e with k | k
    · exact I.ok.has _ (.inl k)
    · exact I.ok.has _ (.inr k)
  refine wpAny_comprehension_free (use := use) rfl hs (closure_ok hfree) ok.kind (fun y hy e => by rw [ok.uniq y hy, e])
    (thn (hi pins s σ H _ I h) fun xv s1 hx => thn hx fun itv s2 h2 => ?_)
  obtain ⟨it, fp, tn, J, H2, e, I2, T, st2, f2, q⟩ := h2
  subst e
  refine wpAny_newObj_type (newEnv_comp ?_) (by show 0 ≤ sizeLine; decide)
  generalize hD : s2.heap.objs.size = D
  have hDn : H2 D = none := I2.hok.fresh (Nat.le_of_eq hD)
  obtain ⟨W, ⟨m0, w0⟩, turn⟩ := q D hDn
  -- the new list
  generalize hs3 : ({ s2 with heap := s2.heap.push { cls := .type "list", data := .seq ([] : List Value).toArray } } : Shared) = s3
  have I3 : Inv X pins σ (upd H2 D (.lst [])) s3 := by
    rw [← hs3]
    refine I2.laid (t' := s2.toks) (fun b o e => Heap.get?_push_of_some _ e) (Nat.le_of_eq hD) ⟨Nat.zero_le _, [], 0, .nil, ?_⟩
    rw [← hD]
    exact Heap.get?_push_size _ rfl
  have h3 : s3.heap = s2.heap.push { cls := .type "list", data := .seq ([] : List Value).toArray } := by rw [← hs3]
  have sz : ∀ b ∈ fp, b < s2.heap.objs.size := fun b hb => by
    obtain ⟨o, e, _⟩ := T.obj _ _ st2 b hb
    exact Heap.lt_size e
  have f3 : ∀ b ∈ fp, FpOk X pins (upd H2 D (.lst [])) b ∧ b < s3.heap.objs.size := fun b hb => by
    have hlt := sz b hb
    refine ⟨⟨?_, (f2 b hb).2⟩, by rw [h3, Heap.size_push]; exact Nat.lt_succ_of_lt hlt⟩
    rw [upd_ne (by rw [← hD]; exact Nat.ne_of_lt hlt)]
    exact (f2 b hb).1
  have st3 : tn 0 s3.heap := T.keep _ _ _ st2 fun b _ o e => by rw [h3]; exact Heap.get?_push_of_some _ e
  have I4 := block_start I3 ok hN f3
  have pg := hg s3 (upd H2 D (.lst [])) s3.heap.objs.size (cellsFrom (s3.heap.objs.size + 1) scope.names (cloFrom X.env.cells scope.names [])) fp
  have pt := ht s3 (upd H2 D (.lst [])) s3.heap.objs.size (cellsFrom (s3.heap.objs.size + 1) scope.names (cloFrom X.env.cells scope.names [])) fp
  have pe := he s3 (upd H2 D (.lst [])) s3.heap.objs.size (cellsFrom (s3.heap.objs.size + 1) scope.names (cloFrom X.env.cells scope.names [])) fp
  show codeAny _ _ (.compStart (.ListComp elt [⟨tg, iter, ifs, 0⟩] scope pos) 0 (.ref it) (.ref D) (compEnvC scope (cellsFrom (s3.heap.objs.size + 1) scope.names (cloFrom X.env.cells scope.names [])) s3.heap.objs.size X.env)) (compPost (model X.prog X.w) X.A X.xe use Qf (.ref D) s3.heap.objs.size) { s3 with heap := pushCells (s3.heap.push { cls := .type "dict", data := .dict #[] }) scope.names }
  have nfp : ∀ b ∈ fp, (upd H2 D (.lst [])) b = none := fun b hb => (f3 b hb).1.1
  generalize hce : compEnvC scope (cellsFrom (s3.heap.objs.size + 1) scope.names (cloFrom X.env.cells scope.names [])) s3.heap.objs.size X.env = ce at I4 pg pt pe ⊢
  have cL : ce.locals = s3.heap.objs.size := by subst hce; rfl
  generalize hH3 : upd H2 D (.lst []) = H3 at I3 I4 pg pt pe w0 nfp f3
  generalize hs4 : ({ s3 with heap := pushCells (s3.heap.push { cls := .type "dict", data := .dict #[] }) scope.names } : Shared) = s4 at I4 ⊢
  have st4 : tn 0 s4.heap := T.keep _ _ _ st3 fun b _ o e => by rw [← hs4]; exact pushCells_keeps _ _ _ _ (Heap.get?_push_of_some _ e)
  have stat : ∀ {σ' : St} {H' : Hp} {s' : Shared}, Inv (X.blk s3 H3 scope ce fp) [] σ' H' s' → (∀ b ∈ fp, H' b = none) → ∀ b ∈ fp, FpOk (X.blk s3 H3 scope ce fp) [] H' b := fun {σ' H' s'} I' hn b hb =>
    ⟨hn b hb, (I'.ok.exf b hb).1, I'.ok.exfs b hb, .inl hb, fun x c e => (I'.ok.exf b hb).2 x c e, fun p hp => absurd (show p ∈ ([] : List (Addr × Obj)) ++ [] from hp) (by simp)⟩
  have loop : codeAny (model X.prog X.w) X.A (.compLoop (.ListComp elt [⟨tg, iter, ifs, 0⟩] scope pos) 0 (.ref it) (.ref D) ce) (compPost (model X.prog X.w) X.A X.xe use Qf (.ref D) s3.heap.objs.size) s4 := by
    refine compLoop_any (fun n s' => ∃ i H', Inv (X.blk s3 H3 scope ce fp) [] (wipe σ (own.map (·.2))) H' s' ∧ tn i s'.heap ∧ (∀ b ∈ fp, H' b = none) ∧ W i n H') ?_ m0 ⟨0, H3, I4, st4, nfp, w0⟩
    rintro n s5 ⟨i, H5, I5, st5, n5, w5⟩
    rcases turn i n H5 w5 with ⟨stop, qq⟩ | ⟨go, Nx, hNx, step⟩
    · have td := T.done (X.blk s3 H3 scope ce fp) rfl rfl rfl hc i [] s5 _ H5 (fun _ _ => False) I5 (stat I5 n5) st5 stop
      refine thnF td fun r s6 ⟨hr, I6⟩ => ?_
      subst hr
      -- back in the def's context
      have I7 : Inv X pins σ H5 s6 := I3.call' (ch := fp) I6.os I6.base I6.hok I6.bare fun b hb => ⟨(f3 b hb).1.2.2.2.1, (f3 b hb).1.2.1, (f3 b hb).1.2.2.2.2.1, (f3 b hb).1.2.2.2.2.2⟩
      have nC : H5 s3.heap.objs.size = none := by
        have z : H5 ce.locals = none := I6.free
        rw [cL] at z
        exact z
      obtain ⟨m, hn, _⟩ := I6.loc
      have hn : s6.heap.Ns ce.locals m := hn
      rw [cL] at hn
      exact hRR D s3.heap.objs.size s6 m H5 I7 qq hn (I3.fpOk (Nat.le_refl _) nC)
    · have ti := T.item (X.blk s3 H3 scope ce fp) rfl rfl rfl hc i [] s5 _ H5 (fun _ _ => False) I5 (stat I5 n5) st5 go
      refine thnF ti fun r s6 ⟨u, hr, h6⟩ => ?_
      subst hr
      refine thnF h6 fun _ s7 ⟨x, H7, I7, r7, y7, st7, n7⟩ => ?_
      have I7' := I7.pinned (stat I7 n7) (T.obj _ _ st7)
      refine thnF (pg _ s7 _ H7 x u _ I7' r7 (step x H7 y7)) fun _ s8 ⟨σ8, H8, I8, hw8, q8⟩ => ?_
      refine thnF (pt _ s8 σ8 H8 _ I8 q8) fun b s9 ⟨H9, I9, q9⟩ => ?_
      -- the turn's end
      have fin : ∀ {s' : Shared} {H' : Hp}, Inv (X.blk s3 H3 scope ce fp) ([] ++ pinsAt fp s7.heap) σ8 H' s' → Nx H' → ∃ m, m < n ∧ ∃ i H', Inv (X.blk s3 H3 scope ce fp) [] (wipe σ (own.map (·.2))) H' s' ∧ tn i s'.heap ∧ (∀ b ∈ fp, H' b = none) ∧ W i m H' := fun {s' H'} I' nx => by
        obtain ⟨m', hm, w'⟩ := hNx H' nx
        have pin' : ∀ b ∈ fp, ∀ o, s7.heap.get? b = some o → s'.heap.get? b = some o ∧ H' b = none := fun b hb o e =>
          let z := I'.pin (b, o) (List.mem_append_right _ (List.mem_append_right _ (mem_pinsAt hb e)))
          ⟨z.1, z.2.1⟩
        have hl : (wipe σ (own.map (·.2))).length = σ8.length := by rw [← hw8, wipe_length]
        refine ⟨m', hm, i + 1, H', (I'.unpinned (pins := [])).weak hl (fun j v e => ?_), T.keep _ _ _ st7 fun b hb o e => (pin' b hb o e).1, fun b hb => ?_, w'⟩
        · rw [← hw8] at e
          exact (wipe_some e).1
        · obtain ⟨o, e, _⟩ := T.obj _ _ st7 b hb
          exact (pin' b hb o e).2
      cases b with
      | false =>
        simp only [Bool.false_eq_true, if_false] at q9 ⊢
        exact fin I9 q9
      | true =>
        simp only [if_true] at q9 ⊢
        refine thnF (pe _ s9 σ8 H9 _ I9 q9) fun z s10 ⟨yv, H10, I10, r10, acc, hD10, hz10, nx⟩ => ?_
        exact app_ok (X := X.blk s3 H3 scope ce fp) I10 hD10 hz10 r10 fun s11 I11 => fin I11 nx
  exact codeAny_compStart_list loop (T.self X.A 0 _ _ _ st4 loop)
theorem pe_lc {elt tg iter : Expr} {ifs : List Expr} {scope : Scope} {own : List (Str × Nat)} {pos : Pos} {wi : TI} {g : TG} {tt : TT} {te : TE} (hc : X.calm = true) (hN : X.N.Nodup) (hi : PI X tg iter wi) (ok : BlkOk X.N X.env.scope scope own)
    (hg : ∀ (s : Shared) (H : Hp) (C : Addr) (cl : List (Str × Addr)) (fp : List Addr), PG (X.blk s H scope (compEnvC scope cl C X.env) fp) tg g) (ht : ∀ (s : Shared) (H : Hp) (C : Addr) (cl : List (Str × Addr)) (fp : List Addr), PTs (X.blk s H scope (compEnvC scope cl C X.env) fp) ifs tt)
    (he : ∀ (s : Shared) (H : Hp) (C : Addr) (cl : List (Str × Addr)) (fp : List Addr), PE (X.blk s H scope (compEnvC scope cl C X.env) fp) elt te) (hs : ∀ x, foldedSetIterable iter X.env x = pure x := by intro _; rfl) :
    PE X (.ListComp elt [⟨tg, iter, ifs, 0⟩] scope pos) (tLc wi g tt te (own.map (·.2))) := by
  intro pins s σ H Q I h
  rw [eval_ListComp]
  refine lc_core hc hN I hi ok hg ht he hs h fun D C s' m H' I' q hn f => ⟨m, hn, fun h'' sb => ?_⟩
  obtain ⟨f0, f1, f2, f3, f4, f5⟩ := f
  exact ⟨.ref D, H', I'.turned (t' := s'.toks) (fun b o hb e => (sb.2 b hb).trans e) f0 f1 f3 f4 f5, rfl, q⟩
end
theorem lc_range {lo : Int} {n : Nat} {g : TG} {tt : TT} {te : TE} {vs : List Nat} {σ : St} {H1 : Hp} {D : Addr} {Qd : Hp → Prop} (Pv : Nat → Hp → Prop) (h0 : Pv 0 (upd H1 D (.lst [])))
    (hs : ∀ i H, i < n → Pv i H → g (.int (lo + i)) (wipe σ vs) H fun σ2 H2 => wipe σ2 vs = wipe σ vs ∧ tt σ2 H2 fun b H3 =>
      if b = true then te σ2 H3 fun y H4 => ∃ acc, H4 D = some (.lst acc) ∧ acc.length < sizeLine ∧ Pv (i + 1) (upd H4 D (.lst (acc ++ [y]))) else Pv (i + 1) H3) (hd : ∀ H, Pv n H → Qd H) :
    ∃ W : Nat → Nat → Hp → Prop, (∃ m, W 0 m (upd H1 D (.lst []))) ∧ ∀ i m H, W i m H →
      ((Itr lo n).stop i H ∧ Qd H) ∨ ((Itr lo n).go i H ∧ ∃ Nx : Hp → Prop, (∀ H', Nx H' → ∃ m', m' < m ∧ W (i + 1) m' H') ∧ ∀ x H', (Itr lo n).yld i H x H' → g x (wipe σ vs) H' fun σ2 H2 => wipe σ2 vs = wipe σ vs ∧ tt σ2 H2 fun b H3 =>
        if b = true then te σ2 H3 fun y H4 => ∃ acc, H4 D = some (.lst acc) ∧ acc.length < sizeLine ∧ Nx (upd H4 D (.lst (acc ++ [y]))) else Nx H3) := by
  refine ⟨fun i m H => m = n - i ∧ i ≤ n ∧ Pv i H, ⟨n, by simp, Nat.zero_le _, h0⟩, ?_⟩
  rintro i m H ⟨rfl, hi, p⟩
  by_cases hlt : i < n
  · refine .inr ⟨hlt, Pv (i + 1), fun H' p' => ⟨n - (i + 1), by omega, rfl, hlt, p'⟩, fun x H' y => ?_⟩
    obtain ⟨e, y⟩ := y
    subst e y
    exact hs i _ hlt p
  · have e : i = n := by omega
    subst e
    exact .inl ⟨Nat.le_refl _, hd H p⟩
theorem lc_list {K : PySem.W.Frag} {a : Addr} {xs : List V} {g : TG} {tt : TT} {te : TE} {vs : List Nat} {σ : St} {H1 : Hp} {D : Addr} {Qd : Hp → Prop} (Pv : Nat → Hp → Prop) (h0 : Pv 0 (upd H1 D (.lst []))) (hl : ∀ i H, i ≤ xs.length → Pv i H → SqL K H a xs)
    (hs : ∀ i x H, xs[i]? = some x → Pv i H → g x (wipe σ vs) H fun σ2 H2 => wipe σ2 vs = wipe σ vs ∧ tt σ2 H2 fun b H3 =>
      if b = true then te σ2 H3 fun y H4 => ∃ acc, H4 D = some (.lst acc) ∧ acc.length < sizeLine ∧ Pv (i + 1) (upd H4 D (.lst (acc ++ [y]))) else Pv (i + 1) H3) (hd : ∀ H, Pv xs.length H → Qd H) :
    ∃ W : Nat → Nat → Hp → Prop, (∃ m, W 0 m (upd H1 D (.lst []))) ∧ ∀ i m H, W i m H →
      ((Itl K a).stop i H ∧ Qd H) ∨ ((Itl K a).go i H ∧ ∃ Nx : Hp → Prop, (∀ H', Nx H' → ∃ m', m' < m ∧ W (i + 1) m' H') ∧ ∀ x H', (Itl K a).yld i H x H' → g x (wipe σ vs) H' fun σ2 H2 => wipe σ2 vs = wipe σ vs ∧ tt σ2 H2 fun b H3 =>
        if b = true then te σ2 H3 fun y H4 => ∃ acc, H4 D = some (.lst acc) ∧ acc.length < sizeLine ∧ Nx (upd H4 D (.lst (acc ++ [y]))) else Nx H3) := by
  refine ⟨fun i m H => m = xs.length - i ∧ i ≤ xs.length ∧ Pv i H, ⟨xs.length, by simp, Nat.zero_le _, h0⟩, ?_⟩
  rintro i m H ⟨rfl, hi, p⟩
  have q := hl i H hi p
  by_cases hlt : i < xs.length
  · refine .inr ⟨⟨xs, xs[i], q, by simp [hlt]⟩, Pv (i + 1), fun H' p' => ⟨xs.length - (i + 1), by omega, rfl, hlt, p'⟩, fun x H' y => ?_⟩
    obtain ⟨e, y⟩ := y
    subst e
    exact hs i x _ (y xs q) p
  · have e : i = xs.length := by omega
    subst e
    exact .inl ⟨⟨xs, q, Nat.le_refl _⟩, hd H p⟩
noncomputable def blkC (N : List Str) (sc scope : Scope) (own : List (Str × Nat)) : Bool :=
  (match scope.kind with | .function => true | _ => false) && (scope.names.all fun y => decide (scope.names.lookup y.1 = some y.2)) && (own.all fun p => decide (N[p.2]? = some p.1)) &&
    (scope.names.all fun y => match y.2 with
      | .free => (match sc.names.lookup y.1 with | some .cell => true | some .free => true | _ => false)
      | .local => decide (y.1 ∈ own.map (·.1)) || decide (y.1 ∉ N)
      | .cell => decide (y.1 ∈ own.map (·.1)) || decide (y.1 ∉ N)
      | _ => true)
theorem blkOk_by {N : List Str} {sc scope : Scope} {own : List (Str × Nat)} (h : blkC N sc scope own = true) : BlkOk N sc scope own := by
  unfold blkC at h
  simp only [Bool.and_eq_true, List.all_eq_true, decide_eq_true_eq] at h
  obtain ⟨⟨⟨h1, h2⟩, h3⟩, h4⟩ := h
  refine ⟨?_, h2, h3, fun y hy e => ?_, fun y hy e => ?_⟩
  · split at h1
    · assumption
    · cases h1
  · have q := h4 y hy
    simp only [e] at q
    split at q <;> first | exact .inl (by assumption) | exact .inr (by assumption) | cases q
  · have q := h4 y hy
    rcases e with e | e <;> (simp only [e, Bool.or_eq_true, decide_eq_true_eq] at q; exact q)
end L2
namespace L2
open PySem PySem.Spec PyProof.Rows
section
variable {prog : Program} {w : World} {A : Around} {R : Result → Shared → Prop} {s : Shared} {elt t0 i0 t1 i1 : Expr} {ifs0 ifs1 : List Expr} {scope : Scope} {pos : Pos} {it acc : Value} {env : Env}
end
section
variable {X : Cx}
end
end L2
namespace L2
open PySem PySem.Spec PyProof.Rows
section
variable {κ : Type} [DecidableEq κ]
noncomputable def valV (kvs : List (κ × V)) (k : κ) : Option V := (kvs.find? fun kv => decide (kv.1 = k)).map (·.2)
noncomputable def putK (kvs : List (κ × V)) (k : κ) (v : V) : List (κ × V) :=
  if (kvs.any fun kv => decide (kv.1 = k)) = true then kvs.map (fun kv => if kv.1 = k then (kv.1, v) else kv) else kvs ++ [(k, v)]
theorem valV_pos {p : κ × V} {r : List (κ × V)} {k : κ} (e : p.1 = k) : valV (p :: r) k = some p.2 := by simp [valV, List.find?_cons, e]
theorem valV_neg {p : κ × V} {r : List (κ × V)} {k : κ} (e : ¬ p.1 = k) : valV (p :: r) k = valV r k := by simp [valV, List.find?_cons, e]
theorem valV_any (k : κ) : ∀ kvs : List (κ × V), (kvs.any fun kv => decide (kv.1 = k)) = (valV kvs k).isSome
  | [] => rfl
  | p :: r => by
    rw [List.any_cons]
    by_cases e : p.1 = k
    · simp only [valV_pos e, decide_eq_true e, Bool.true_or, Option.isSome_some]
    · rw [valV_neg e, decide_eq_false e, Bool.false_or]; exact valV_any k r
theorem length_putK (kvs : List (κ × V)) (k : κ) (v : V) : (putK kvs k v).length ≤ kvs.length + 1 := by
  unfold putK
  split
  · rw [List.length_map]; omega
  · rw [List.length_append, List.length_cons, List.length_nil]; omega
theorem RelO.isSome_eq {o : Option V} {u : Option Value} (r : RelO o u) : o.isSome = u.isSome := by
  cases o with
  | none => cases u with
    | none => rfl
    | some _ => exact (show False from r).elim
  | some _ => cases u with
    | none => exact (show False from r).elim
    | some _ => rfl
theorem KV.val {kvs : List (κ × V)} {vs : List (κ × Value)} (r : KV kvs vs) (k : κ) : RelO (valV kvs k) (valueAt vs k) := by
  unfold KV at r
  induction r with
  | nil => exact True.intro
  | @cons p q ps qs h t ih =>
    obtain ⟨h1, h2⟩ := h
    by_cases e : p.1 = k
    · have e' : q.1 = k := h1.symm.trans e
      have b : valueAt (q :: qs) k = some q.2 := by simp [valueAt, List.find?_cons, e']
      rw [valV_pos e, b]; exact h2
    · have e' : ¬ q.1 = k := fun z => e (h1.trans z)
      have b : valueAt (q :: qs) k = valueAt qs k := by simp [valueAt, List.find?_cons, e']
      rw [valV_neg e, b]; exact ih
theorem KV.any {kvs : List (κ × V)} {vs : List (κ × Value)} (r : KV kvs vs) (k : κ) : (kvs.any fun kv => decide (kv.1 = k)) = vs.any fun kv => decide (kv.1 = k) := by
  unfold KV at r
  induction r with
  | nil => rfl
  | cons h t ih => rw [List.any_cons, List.any_cons, ih, h.1]
theorem KV.repl {kvs : List (κ × V)} {vs : List (κ × Value)} (r : KV kvs vs) (k : κ) {y : V} {u : Value} (ry : RelV y u) :
    KV (kvs.map fun kv => if kv.1 = k then (kv.1, y) else kv) (vs.map fun kv => if kv.1 = k then (kv.1, u) else kv) := by
  unfold KV at r ⊢
  induction r with
  | nil => exact .nil
  | @cons p q ps qs h t ih =>
    rw [List.map_cons, List.map_cons]
    refine .cons ?_ ih
    obtain ⟨h1, h2⟩ := h
    by_cases e : p.1 = k
    · rw [if_pos e, if_pos (h1.symm.trans e)]; exact ⟨h1, ry⟩
    · rw [if_neg e, if_neg (fun z => e (h1.trans z))]; exact ⟨h1, h2⟩
theorem KV.put {kvs : List (κ × V)} {vs : List (κ × Value)} (r : KV kvs vs) (k : κ) {y : V} {u : Value} (ry : RelV y u) : KV (putK kvs k y) (stored vs k u) := by
  unfold putK stored
  rw [r.any k]
  by_cases e : (vs.any fun kv => decide (kv.1 = k)) = true
  · rw [if_pos e, if_pos e]; exact r.repl k ry
  · rw [if_neg e, if_neg e]; exact Paired.snoc r ⟨rfl, ry⟩
theorem KV.length {kvs : List (κ × V)} {vs : List (κ × Value)} (r : KV kvs vs) : kvs.length = vs.length := Paired.length r
end
theorem kV_is {P : Program} {w : World} {k : Key} {u : Value} (r : RelV (kV k) u) : (mixKind P w).is k u = true := by
  cases k with
  | inl i => obtain ⟨t, e⟩ := (show ∃ t, u = Value.int i t from r); subst e; exact mixKind_int P w i t
  | inr x => obtain ⟨t, e⟩ := (show ∃ t, u = Value.str x t from r); subst e; exact mixKind_str P w x t
section
variable {P : Program} {w : World} {H : Hp} {h : Heap} {a : Addr}
theorem rd_of {u : HO} (ok : HOk P w H h) (e : Rd H a u) : ObjOk P w H h a u := e.ok ok
theorem dk_rd {kvs : List (Key × V)} (ok : HOk P w H h) (e : Rd H a (.dK kvs)) : kvs.length ≤ sizeLine ∧ (a == sysModules) = false ∧ ∃ vs, KV kvs vs ∧ h.DictOf (mixKind P w) a vs :=
  show ObjOk P w H h a (.dK kvs) from rd_of ok e
theorem dk_of {kvs : List (Key × V)} (ok : HOk P w H h) (e : H a = some (.dK kvs)) : kvs.length ≤ sizeLine ∧ (a == sysModules) = false ∧ ∃ vs, KV kvs vs ∧ h.DictOf (mixKind P w) a vs := dk_rd ok (.inl e)
end
section
variable {X : Cx} {pins : List (Addr × Obj)} {σ : St} {H : Hp} {s : Shared} {a : Addr} {y v : V} {u r : Value} {o : Option V} {A : Around} {E : Value → Shared → Prop}
theorem Inv.big (I : Inv X pins σ H s) : sysModules < s.heap.objs.size := by
  have h : mainGlobals < s.heap.objs.size := (I.mod.glob.keeps I.bk).lt
  exact Nat.lt_trans (by decide) h
theorem d_write {h' : Heap} {t' : Nat} {ob : HO} (I : Inv X pins σ H s) (mu : Mut (H a)) (hs : Heap.SameBut a s.heap h') (he : ∃ q, h'.get? a = some q) (new : ObjOk X.prog X.w (upd H a ob) h' a ob) :
    Inv X pins σ (upd H a ob) { s with heap := h', toks := t' } :=
  I.write (x := a) (e := a) mu (.inl rfl) (fun b q hb z => (hs.2 b hb).trans z) he new
theorem dk_new {P : Program} {w : World} {H' : Hp} {h' : Heap} {kvs : List (Key × V)} {vs : List (Key × Value)} (z : kvs.length ≤ sizeLine) (hd : (a == sysModules) = false) (rel : KV kvs vs) (dd : h'.DictOf (mixKind P w) a vs) :
    ObjOk P w H' h' a (.dK kvs) := ⟨z, hd, vs, rel, dd⟩
end
section
variable {X : Cx} {pins : List (Addr × Obj)} {σ : St} {H : Hp} {s : Shared} {a : Addr} {kvs : List (Key × V)} {k : Key} {u : Value} {A : Around} {E : Value → Shared → Prop}
end
noncomputable def NoSl (i : Expr) : Prop := ∀ ov iv, subscripted i false ov iv = operate [ov, iv] (getItem ov iv)
theorem subD_of {prog : Program} {w : World} {A : Around} {E : Value → Shared → Prop} {s : Shared} {env : Env} {value slice : Expr} {pos : Pos} {T id : String} {Q : Value → Shared → Prop}
    (hl : typeLookup (.type T) "__getitem__" = pure (some (.builtin id))) (hs : NoSl slice)
    (h : wpAny (model prog w) A (eval value env) (fun o s₁ => wpAny (model prog w) A (eval slice env) (fun i s₂ => s₂.TypeIs o T ∧ wpAny (model prog w) A (getItem o i) Q E s₂) E s₁) E s) :
    wpAny (model prog w) A (eval (.Subscript value slice pos) env) Q E s := by
  refine Subscript_ (wpAny_mono h (fun o s₁ h₁ => wpAny_mono h₁ (fun i s₂ h₂ => ?_) fun _ _ x => x) fun _ _ x => x)
  obtain ⟨hT, h₂⟩ := h₂
  unfold subscriptTail
  refine wpAny_bind ?_
  rw [getitemInPython_of_ne hT.not_modules]
  refine wpAny_bind (wpAny_specialOf hT hl ?_)
  have fin : wpAny (model prog w) A (subscripted slice false o i) (fun r s₃ => wpAny (model prog w) A (letTemporaryGo value o r >>= fun _ => pure r) Q E s₃) E s₂ := by
    rw [hs o i]
    exact wpAny_operating (wpAny_mono h₂ (fun r s₃ h₃ => wpAny_bind (wpAny_letTemporaryGo (wpAny_pure h₃))) fun _ _ x => x)
  first
    | exact wpAny_pure (wpAny_bind fin)
    | exact wpAny_bind (wpAny_pure (wpAny_bind fin))
    | exact wpAny_bind fin
section
variable {X : Cx} {o i e value : Expr} {pos pos' tpos : Pos} {td ty tv : TE}
end
theorem dk_empty {P : Program} {w : World} {H : Hp} (h : Heap) (hb : sysModules < h.objs.size) : ObjOk P w H (h.push { cls := .type "dict", data := .dict #[] }) h.objs.size (.dK []) :=
  ⟨Nat.zero_le _, beq_eq_false_iff_ne.mpr (Ne.symm (Nat.ne_of_lt hb)), [], .nil, Heap.DictOf.new h⟩
noncomputable def tDNewK : TE := fun _ H Q => ∀ p, H p = none → Q (.ref p) (upd H p (.dK []))
section
variable {X : Cx} {pos : Pos}
theorem pe_dnewK : PE X (.Dict [] [] pos) tDNewK := fun pins s σ H Q I h =>
  wpAny_Dict_empty ⟨.ref s.heap.objs.size, _, I.laid (a := s.heap.objs.size) (o := .dK []) (t' := s.toks) (fun _ _ q => Heap.get?_push_of_some _ q) (Nat.le_refl _) (dk_empty s.heap I.big), rfl, h _ (I.hok.fresh (Nat.le_refl _))⟩
end
section
variable {X : Cx} {pins : List (Addr × Obj)} {σ : St} {H : Hp} {s : Shared} {a : Addr} {y d : V} {u r : Value} {o : Option V} {A : Around} {E : Value → Shared → Prop}
end
section
variable {X : Cx} {o e f : Expr} {apos cpos : Pos} {td ty tx : TE}
end
section
variable {X : Cx} {pins : List (Addr × Obj)} {σ : St} {H : Hp} {s : Shared} {a : Addr} {kvs : List (Key × V)} {A : Around} {E : Value → Shared → Prop}
end
section
variable {X : Cx} {pins : List (Addr × Obj)} {σ : St} {H : Hp} {s : Shared} {a : Addr} {y : V} {u : Value} {A : Around} {E : Value → Shared → Prop}
end
end L2
namespace L2
open PySem PySem.Spec PyProof.Rows
section
variable {prog : Program} {w : World} {A : Around} {E : Value → Shared → Prop}
end
section
variable {X : Cx}
end
end L2
namespace L2
open PySem PySem.Spec PyProof.Rows
section
variable {X : Cx} {pins : List (Addr × Obj)} {σ : St} {H : Hp} {s : Shared} {h' : Heap}
theorem Inv.turnedL {t' : Nat} {ch : List Addr} (I : Inv X pins σ H s) (k : ∀ b o, b ∉ ch → s.heap.get? b = some o → h'.get? b = some o) (hf : ∀ b ∈ ch, FpOk X pins H b) : Inv X pins σ H { s with heap := h', toks := t' } := by
  have nit : ∀ b u, H b = some u → b ∉ ch := fun b u e z => by
    have q := (hf b z).1
    rw [q] at e; cases e
  refine I.step (g' := s.gens) (d' := s.drawn) (ch := ch) (fun b hb => ⟨(hf b hb).2.2.2.1, (hf b hb).2.1, (hf b hb).2.2.2.2.1, (hf b hb).2.2.2.2.2⟩) (fun b o _ _ hc e _ => k b o hc e) (fun b o _ _ hc e _ => ⟨o.slots, k b o hc e⟩)
    (fun _ _ _ _ n => n) (fun b o hc e => ⟨o, k b o hc e⟩) (fun _ _ e => e) (fun _ _ _ e => e) (fun b ps e => ⟨#[], by rw [e]; simp⟩) (fun m hm => ?_) (fun b u e => ?_) I.bare
  · obtain ⟨o, es, ep, ho, r⟩ := hm
    exact ⟨o, es, ep, k _ o (fun z => (hf _ z).2.1 rfl) ho, r⟩
  · refine (I.hok b u e).stay (fun c v hc q => k c v ?_ q) (fun _ q => q) fun _ _ q => q
    rcases hc with z | z
    · rw [z]; exact nit b u e
    · exact nit c _ z
theorem Inv.turnedNew {t' : Nat} {ch : List Addr} {T : Addr} {ob : HO} (I : Inv X pins σ H s) (k : ∀ b o, b ∉ ch → s.heap.get? b = some o → h'.get? b = some o) (hf : ∀ b ∈ ch, FpOk X pins H b) (hT : s.heap.objs.size ≤ T)
    (new : ObjOk X.prog X.w (upd H T ob) h' T ob) : Inv X pins σ (upd H T ob) { s with heap := h', toks := t' } := by
  have hn : H T = none := I.hok.fresh hT
  have nit : ∀ b u, H b = some u → b ∉ ch := fun b u e z => by
    have q := (hf b z).1
    rw [q] at e; cases e
  refine I.step (g' := s.gens) (d' := s.drawn) (ch := ch) (fun b hb => ⟨(hf b hb).2.2.2.1, (hf b hb).2.1, (hf b hb).2.2.2.2.1, (hf b hb).2.2.2.2.2⟩) (fun b o _ _ hc e _ => k b o hc e) (fun b o _ _ hc e _ => ⟨o.slots, k b o hc e⟩)
    (fun b o _ e n => ?_) (fun b o hc e => ⟨o, k b o hc e⟩) (fun b xs e => ?_) (fun b o u e => ?_) (fun b ps e => ⟨#[], ?_⟩) (fun m hm => ?_) (fun b u e => ?_) I.bare
  · rw [upd_ne (Nat.ne_of_lt (Nat.lt_of_lt_of_le (Heap.lt_size e) hT))]; exact n
  · rw [upd_ne (ne_of_none e hn)]; exact e
  · rw [upd_ne (ne_of_none e hn)]; exact e
  · rw [upd_ne (ne_of_none e hn), e]; simp
  · obtain ⟨o, es, ep, ho, r⟩ := hm
    exact ⟨o, es, ep, k _ o (fun z => (hf _ z).2.1 rfl) ho, r⟩
  · by_cases hb : b = T
    · subst hb
      rw [upd_same] at e
      cases e
      exact new
    · rw [upd_ne hb] at e
      refine (I.hok b u e).stay (fun c v hc q => k c v ?_ q) (fun c q => by rw [upd_ne (ne_of_none q hn)]; exact q) fun c xs q => by rw [upd_ne (ne_of_none q hn)]; exact q
      rcases hc with z | z
      · rw [z]; exact nit b u e
      · exact nit c _ z
theorem Inv.lock {d : Addr} {u : HO} (I : Inv X pins σ H s) (h : H d = some u) (mu : Mut (some u)) : ∃ od, Inv X pins σ (upd H d (.frz od u)) s := by
  have x := I.hok d u h
  have ex : ∃ od, s.heap.get? d = some od := by
    cases u with
    | lst xs => obtain ⟨_, _, _, _, e⟩ := x; exact ⟨_, e⟩
    | dK kvs => obtain ⟨_, _, _, _, o, _, _, e, _⟩ := x; exact ⟨o, e⟩
    | dT kvs => obtain ⟨_, _, _, _, o, _, _, e, _⟩ := x; exact ⟨o, e⟩
    | set S n => obtain ⟨o, _, _, _, e, _⟩ := x; exact ⟨o, e⟩
    | ins C dx fs => obtain ⟨_, _, _, e, _⟩ := x; exact ⟨_, e⟩
    | ext φ => obtain ⟨_, ⟨_, e⟩, _⟩ := x; exact ⟨_, e⟩
    | _ => exact False.elim mu
  obtain ⟨od, e⟩ := ex
  have new : ObjOk X.prog X.w (upd H d (.frz od u)) s.heap d (.frz od u) := by
    refine ⟨e, x.stay (fun b v _ q => q) (fun b q => ?_) fun b xs q => ?_⟩
    · rw [upd_ne (fun z => by rw [z, h] at q; cases q; exact mu)]; exact q
    · rw [upd_ne (fun z => by rw [z, h] at q; cases q; exact mu)]; exact q
  exact ⟨od, I.write (x := d) (e := d) (t' := s.toks) (h' := s.heap) (by rw [h]; exact mu) (.inl rfl) (fun b v _ q => q) ⟨od, e⟩ new⟩
theorem Inv.nofrz {d : Addr} {u : HO} (I : Inv X pins σ H s) (h : H d = some u) (mu : Mut (some u)) : ∀ o' u', X.H_0 d ≠ some (.frz o' u') := fun o' u' e => by
  have q := I.base.frzs d o' u' e
  rw [h] at q
  cases q
  exact mu
theorem Inv.unlock {d : Addr} {od : Obj} {u : HO} (I : Inv X pins σ H s) (h : H d = some (.frz od u)) (hn : ∀ o' u', X.H_0 d ≠ some (.frz o' u')) : Inv X pins σ (upd H d u) s := by
  have neH : ∀ b o, H b = some o → (∀ o' u', o ≠ .frz o' u') → b ≠ d := fun b o e hne z => by
    rw [z, h] at e
    cases e
    exact hne _ _ rfl
  have neN : ∀ b, H b = none → b ≠ d := fun b e z => by rw [z, h] at e; cases e
  refine ⟨I.ok, I.os, I.bare, ⟨I.base.keep, I.base.slot, fun b o e n hx => ?_, I.base.there, fun b xs e => ?_, fun b o x e => ?_, fun b ps e => ?_⟩, I.loc, I.cell, ?_, fun x c e => ?_, fun p hp => ?_, fun b o e => ?_, I.len⟩
  · rw [upd_ne (neN b (I.base.free b o e n hx))]; exact I.base.free b o e n hx
  · have q := I.base.tups b xs e
    rw [upd_ne (neH b _ q (fun _ _ z => nomatch z))]; exact q
  · have q := I.base.frzs b o x e
    rw [upd_ne (fun z => by rw [z] at e; exact hn _ _ e)]; exact q
  · obtain ⟨m, q⟩ := I.base.tbls b ps e
    exact ⟨m, by rw [upd_ne (neH b _ q (fun _ _ z => nomatch z))]; exact q⟩
  · rw [upd_ne (neN _ I.free)]; exact I.free
  · rw [upd_ne (neN c (I.freeC x c e))]; exact I.freeC x c e
  · obtain ⟨e, n, r⟩ := I.pin p hp
    exact ⟨e, by rw [upd_ne (neN _ n)]; exact n, r⟩
  · by_cases hb : b = d
    · rw [hb, upd_same] at e
      cases e
      rw [hb]
      obtain ⟨_, x⟩ := I.hok d _ h
      exact x.stay (fun c v _ q => q) (fun c q => by rw [upd_ne (neH c _ q (fun _ _ z => nomatch z))]; exact q) fun c xs q => by rw [upd_ne (neH c _ q (fun _ _ z => nomatch z))]; exact q
    · rw [upd_ne hb] at e
      exact (I.hok b o e).stay (fun c v _ q => q) (fun c q => by rw [upd_ne (neH c _ q (fun _ _ z => nomatch z))]; exact q) fun c xs q => by rw [upd_ne (neH c _ q (fun _ _ z => nomatch z))]; exact q
end
inductive LockR (t : TE) (σ : St) (H : Hp) (Q : VK) : Prop
  | mk (d : Addr) (u : HO) (h : H d = some u) (m : Mut (some u)) (q : ∀ od, t σ (upd H d (.frz od u)) fun v H' => H' d = some (.frz od u) ∧ Q v (upd H' d u))
noncomputable def tLockE (t : TE) : TE := LockR t
section
variable {X : Cx}
theorem pe_lock {e : Expr} {t : TE} (h : PE X e t) : PE X e (tLockE t) := by
  intro pins s σ H Q I hw
  obtain ⟨d, u, hd, mu, hw⟩ := hw
  obtain ⟨od, I1⟩ := I.lock hd mu
  refine thn (h pins s σ _ _ I1 (hw od)) fun v s1 ⟨x, H1, I2, r, e2, q⟩ => ?_
  exact ⟨x, _, I2.unlock e2 (I.nofrz hd mu), r, q⟩
theorem pi_one {tg : Expr} {pins : List (Addr × Obj)} {σ : St} {H : Hp} {s : Shared} {R : It → Hp → Prop} {J : It} {tn : Nat → Heap → Prop} {tk : Nat} (I : Inv X pins σ H s) (o : Obj)
    (T : Turn X.prog X.w X.K tg J [s.heap.objs.size] s.heap.objs.size tn) (st : tn 0 (s.heap.push o)) (q : R J H) : PIE X pins σ tg R (.ref s.heap.objs.size) { s with heap := s.heap.push o, toks := tk } := by
  refine ⟨s.heap.objs.size, [s.heap.objs.size], tn, J, H, rfl, I.kept fun b ob e => Heap.get?_push_of_some _ e, T, st, fun b hb => ?_, q⟩
  have e : b = s.heap.objs.size := by simpa using hb
  subst e
  exact I.fpOk (Nat.le_refl _) (I.hok.fresh (Nat.le_refl _))
end
noncomputable def Itc (lo c : Int) (n : Nat) : It := ⟨fun i _ => i < n, fun i H x H' => H' = H ∧ x = .int (lo + (i : Nat) * c), fun i _ => n ≤ i⟩
theorem turn_rangeC {P : Program} {w : World} {K : PySem.W.Frag} {tg : Expr} (it : Addr) (lo c : Int) (n : Nat) : Turn P w K tg (Itc lo c n) [it] it (fun i h => IsRangeIter h it (lo + (i : Nat) * c) ((n : Int) - (i : Nat)) c) where
  mem := by simp
  obj := fun i h st b hb => by
    have e : b = it := by simpa using hb
    subst e
    exact ⟨_, st, fun v z => nomatch z⟩
  keep := fun i h h' st k => k it (by simp) _ st
  item := by
    intro X hP hw hK hc i pins s σ H E I hf st hg
    subst hP hw hK
    obtain ⟨f0, f1, f2, f3, f4, f5⟩ := hf it (by simp)
    have W := Walks.range (prog := X.prog) (w := X.w) (I.ok.hd hc) it lo c n
    refine W.item i s _ _ hg st fun v h' tk hv st' kk => ?_
    obtain ⟨t, rfl⟩ := hv
    have I1 : Inv X pins σ H { s with heap := h', toks := tk } := I.turned (fun b o hb e => kk b o (by simpa using hb) e) f0 f1 f3 f4 f5
    exact ⟨_, rfl, go_of (s := { s with heap := h', toks := tk }) (n := "range_iterator") st' rfl rfl (by decide) ⟨.int (lo + (i : Nat) * c), H, I1, ⟨t, rfl⟩, ⟨rfl, rfl⟩, st', fun b hb => (hf b hb).1⟩⟩
  done := by
    intro X hP hw hK hc i pins s σ H E I hf st hg
    subst hP hw hK
    obtain ⟨f0, f1, f2, f3, f4, f5⟩ := hf it (by simp)
    exact wpAny_pyNext_range_end (I.ok.hd hc) st (by have : n ≤ i := hg; omega) fun h' eb => ⟨rfl, I.turned (t' := s.toks) (fun b o hb e => eb b o hb e) f0 f1 f3 f4 f5⟩
  self := fun A i s Q E st h => wpAny_pyIter_rangeiter st h
noncomputable def RgC (i j c : Int) (n : Nat) : Prop := c ≠ 0 ∧ c.natAbs < 1073741824 ∧ Builtin.Range.small i j c = true ∧ Builtin.Range.rangeSize i j c = n
inductive IRng3R (R : It → Hp → Prop) (vs : List V) (H1 : Hp) : Prop
  | mk (i j c : Int) (n : Nat) (e : vs = [.int i, .int j, .int c]) (g : RgC i j c n) (r : R (Itc i c n) H1)
noncomputable def iRng3 (ta : TA) : TI := fun σ H R => ta σ H (IRng3R R)
section
variable {X : Cx} {tg : Expr}
theorem pi_range3 {a b c : Expr} {ta : TA} {p pos : Pos} (hg : Gl X "range") (hm : X.mg "range" = none) (ha : PA X [a, b, c] ta)
    (hs : starEach [a, b, c] X.env = (false, eval a X.env) :: starEach [b, c] X.env := by rfl) (hpl : (backTo pos (starEach [b, c] X.env)).any (·.1) = false := by rfl) :
    PI X tg (.Call (.Name "range" p) [a, b, c] [] pos) (iRng3 ta) := by
  intro pins s σ H R I h
  refine Call_ (ld_blt I hg hm boot_range (PyProof.Rows.callWith_type1 (thn (ha pos pins s σ H _ I h) fun us s1 ⟨vs, H1, I1, r1, q1⟩ => ?_) hs hpl))
  obtain ⟨i, j, k, n, e, ⟨c0, c1, c2, c3⟩, q⟩ := q1
  subst e
  cases r1 with
  | cons r rr =>
    cases rr with
    | cons r' rr =>
      cases rr with
      | cons r'' rr =>
        cases rr
        obtain ⟨t, rfl⟩ := r
        obtain ⟨t', rfl⟩ := r'
        obtain ⟨t'', rfl⟩ := r''
        refine call_range_3 c0 ?_ (.inl (PyProof.noPylong_small c1))
        refine wpAny_pyIter_range (IsRange.new ..) c2 ?_
        have I2 : Inv X pins σ H1 { s1 with heap := s1.heap.push { cls := .type "range", data := .fields #[.int i t, .int j t', .int k t''] } } := I1.kept (t' := s1.toks) fun b o e => Heap.get?_push_of_some _ e
        refine pi_one (tk := s1.toks) I2 _ (turn_rangeC _ i k n) ?_ q
        have e1 : i + ((0 : Nat) : Int) * k = i := by simp
        have e2 : (n : Int) - ((0 : Nat) : Int) = Builtin.Range.rangeSize i j k := by rw [c3]; simp
        show IsRangeIter _ _ (i + ((0 : Nat) : Int) * k) ((n : Int) - ((0 : Nat) : Int)) k
        rw [e1, e2]
        exact Heap.get?_push_size _ rfl
end
section
variable {X : Cx} {tg : Expr}
end
section
variable {prog : Program} {w : World} {A : Around} {E : Value → Shared → Prop} {s : Shared}
end
theorem kv_get {κ : Type} {kvs : List (κ × V)} {vs : List (κ × Value)} (h : KV kvs vs) : ∀ {i : Nat} {k : κ} {v : V}, kvs[i]? = some (k, v) → ∃ u, vs[i]? = some (k, u) ∧ RelV v u := by
  unfold KV at h
  induction h with
  | nil => intro i k v e; simp at e
  | @cons a b l₁ l₂ r t ih =>
    intro i k v e
    cases i with
    | zero =>
      simp only [List.getElem?_cons_zero, Option.some.injEq] at e
      subst e
      refine ⟨b.2, ?_, r.2⟩
      simp only [List.getElem?_cons_zero]
      exact congrArg some (Prod.ext r.1.symm rfl)
    | succ j =>
      simp only [List.getElem?_cons_succ] at e ⊢
      exact ih e
theorem relV_key {k : Key} {u : Value} (h : keyIs k u = true) : RelV (kV k) u := by
  rcases keyIs_shape h with ⟨i, t, rfl, rfl⟩ | ⟨x, t, rfl, rfl⟩
  · exact ⟨t, rfl⟩
  · exact ⟨t, rfl⟩
section
variable {X : Cx} {pins : List (Addr × Obj)} {σ : St} {H : Hp} {s : Shared} {d : Addr} {o : Obj}
theorem Inv.frzK {kvs : List (Key × V)} (I : Inv X pins σ H s) (h : H d = some (.frz o (.dK kvs))) :
    (d == sysModules) = false ∧ s.heap.get? d = some o ∧ o.ExactDict ∧ ∃ (es : Array DictEntry) (ep : Nat) (vs : List (Key × Value)), o.data = .dict es ep ∧ es.size = kvs.length ∧ KV kvs vs ∧ s.heap.DictAt (mixKind X.prog X.w) d vs ep := by
  obtain ⟨hd, z, hs, vs, kv, o', es, ep, ho, hx, hdt, r⟩ := I.hok d _ h
  rw [hd] at ho
  cases ho
  refine ⟨hs, hd, hx, es, ep, vs, hdt, ?_, kv, o, es, hd, hx, hdt, r⟩
  have l1 := r.2.1.length
  have l2 : kvs.length = vs.length := Paired.length kv
  rw [Array.length_toList] at l1
  omega
end
noncomputable def Iti (d : Addr) (o : Obj) (kvs : List (Key × V)) : It :=
  ⟨fun i H => H d = some (.frz o (.dK kvs)) ∧ i < kvs.length, fun i H x H' => ∃ T k v, kvs[i]? = some (k, v) ∧ x = .ref T ∧ H T = none ∧ H' = upd H T (.tup [kV k, v]), fun i H => H d = some (.frz o (.dK kvs)) ∧ kvs.length ≤ i⟩
theorem dict_ep {o : Obj} {es es' : Array DictEntry} {ep ep' : Nat} (h : o.data = .dict es ep) (h' : o.data = .dict es' ep') : es' = es ∧ ep' = ep := by
  rw [h] at h'
  cases h'
  exact ⟨rfl, rfl⟩
section
variable {P : Program} {w : World} {K : PySem.W.Frag} {tg : Expr} {d : Addr} {o : Obj} {es : Array DictEntry} {ep : Nat}
theorem turn_items {kvs : List (Key × V)} {elts : List Expr} {kk : Nat} {tpos : Pos} (it : Addr) (hod : o.data = .dict es ep) :
    Turn P w K (.Tuple elts kk tpos) (Iti d o kvs) [it] it (fun i h => ∃ ok ov, IsItemIter h it d i kvs.length ep ok ov) where
  mem := by simp
  obj := fun i h st b hb => by
    have e : b = it := by simpa using hb
    subst e
    obtain ⟨ok, ov, e⟩ := st
    exact ⟨_, e, fun v z => nomatch z⟩
  keep := fun i h h' st k => let ⟨ok, ov, e⟩ := st; ⟨ok, ov, k it (by simp) _ e⟩
  item := by
    intro X hP hw hK hc i pins s σ H E I hf st hg
    subst hP hw hK
    obtain ⟨hd, hi⟩ := hg
    obtain ⟨hs, hgd, hx, es', ep', vs, hdt, hsz, kv, hm⟩ := I.frzK hd
    obtain ⟨rfl, rfl⟩ := dict_ep hod hdt
    obtain ⟨⟨k, v⟩, hkv⟩ : ∃ p, kvs[i]? = some p := ⟨kvs[i], List.getElem?_eq_getElem hi⟩
    obtain ⟨u, hu, ru⟩ := kv_get kv hkv
    have hl : kvs.length = vs.length := Paired.length kv
    obtain ⟨ok, ov, he⟩ := st
    rw [hl] at he
    have hlt : it < s.heap.objs.size := Heap.lt_size he
    refine wpAny_pyNext_items_item he hm hu fun key h' hkey ho hT hz hk => ?_
    refine ⟨_, rfl, wpAny_letOwnedTupleGo_items (s := { s with heap := h' }) ho fun h'' he' sb => ?_⟩
    have hT2 : h''.get? s.heap.objs.size = some { cls := .type "tuple", data := .seq #[key, u] } := (sb.2 _ (Nat.ne_of_gt hlt)).trans hT
    have new : ObjOk X.prog X.w (upd H s.heap.objs.size (.tup [kV k, v])) h'' s.heap.objs.size (.tup [kV k, v]) :=
      ⟨by show 2 ≤ sizeLine; decide, [key, u], .cons (relV_key (show keyIs k key = true from hkey)) (.cons ru .nil), ⟨_, hT2, rfl, _, rfl⟩⟩
    have I1 : Inv X pins σ (upd H s.heap.objs.size (.tup [kV k, v])) { s with heap := h'' } :=
      I.turnedNew (t' := s.toks) (ch := [it]) (fun b ob hb e => (sb.2 b (by simpa using hb)).trans (hk b ob (by simpa using hb) e)) hf (Nat.le_refl _) new
    refine ⟨.ref s.heap.objs.size, _, I1, rfl, ⟨_, k, v, hkv, rfl, I.hok.fresh (Nat.le_refl _), rfl⟩, ⟨key, u, ?_⟩, fun b hb => ?_⟩
    · rw [hl]; exact he'
    · have e : b = it := by simpa using hb
      rw [e, upd_ne (Nat.ne_of_lt hlt)]
      exact (hf it (by simp)).1
  done := by
    intro X hP hw hK hc i pins s σ H E I hf st hg
    subst hP hw hK
    obtain ⟨hd, hi⟩ := hg
    obtain ⟨f0, f1, f2, f3, f4, f5⟩ := hf it (by simp)
    obtain ⟨hs, hgd, hx, es', ep', vs, hdt, hsz, kv, hm⟩ := I.frzK hd
    obtain ⟨rfl, rfl⟩ := dict_ep hod hdt
    have hl : kvs.length = vs.length := Paired.length kv
    obtain ⟨ok, ov, he⟩ := st
    rw [hl] at he
    exact wpAny_pyNext_items_end (I.ok.hd hc) he hm (List.getElem?_eq_none (by omega)) fun h' eb => ⟨rfl, I.turned (t' := s.toks) (fun b ob hb e => eb b ob hb e) f0 f1 f3 f4 f5⟩
  self := fun A i s Q E st h => let ⟨_, _, e⟩ := st; PySem.W.kcp_self e h
end
inductive IItemsR (R : It → Hp → Prop) (x : V) (H1 : Hp) : Prop
  | mk (d : Addr) (o : Obj) (kvs : List (Key × V)) (e : x = .ref d) (h : H1 d = some (.frz o (.dK kvs))) (r : R (Iti d o kvs) H1)
noncomputable def iItems (td : TE) : TI := fun σ H R => td σ H (IItemsR R)
section
variable {X : Cx} {tg e : Expr} {td : TE} {apos cpos : Pos}
theorem pi_items {elts : List Expr} {kk : Nat} {tpos : Pos} (he : PE X e td) (hbase : attributeBase e "items" X.env (eval e X.env) = eval e X.env := by rfl) (hline : (apos.endLine == cpos.line) = true := by rfl) :
    PI X (.Tuple elts kk tpos) (.Call (.Attribute e "items" apos) [] [] cpos) (iItems td) := by
  intro pins s σ H R I h
  refine wpAny_Call_method (T := "dict") (id := "dict.items") hbase rfl hline F.plainAttrs_dict F.slot_dict_items F.type_dict_items (thn (he pins s σ H _ I h) fun u s1 ⟨x, H1, I1, rx, d, o, kvs, ex, hd, q⟩ => ?_)
  subst ex
  obtain rfl : u = Value.ref d := rx
  obtain ⟨hs, hgd, hx, es, ep, vs, hdt, hsz, kv, hm⟩ := I1.frzK hd
  have hl : kvs.length = vs.length := Paired.length kv
  refine ⟨hm.dictOf.typeIs, hm.dictOf.mapOf.noDict, ?_⟩
  have I2 : Inv X pins σ H1 { s1 with heap := s1.heap.push { cls := .type "dict_items", data := .fields #[.ref d] } } := I1.kept (t' := s1.toks) fun b ob q => Heap.get?_push_of_some _ q
  have fin : wpAny (model X.prog X.w) X.A (pyIter (.ref s1.heap.objs.size)) (PIE X pins σ (.Tuple elts kk tpos) R) X.xe { s1 with heap := s1.heap.push { cls := .type "dict_items", data := .fields #[.ref d] } } := by
    refine wpAny_pyIter_items (d := d) (knd := mixKind X.prog X.w) ⟨_, Heap.get?_push_size _ rfl, rfl, rfl⟩ (hm.push _) (pi_one (tk := s1.toks) I2 _ (turn_items _ hdt) ⟨.none, .none, ?_⟩ q)
    rw [hl]
    exact Heap.get?_push_size _ rfl
  show wpAny _ _ (callWith cpos (.builtin "dict.items") [.ref d] [] []) _ X.xe s1
  exact method_meetsIn F.slot_dict_items F.entry_dict_items rfl (PySem.evalArgs_none ⟨rfl, hm.dictOf.typeIs, F.args_dict_items_1 _, _, meets_dict_items (mixKind X.prog X.w) d hs, ⟨vs, hm.dictOf⟩, fin⟩)
end
noncomputable def Ite (K : PySem.W.Frag) (a : Addr) : It :=
  ⟨fun i H => ∃ (xs : List V) (x : V), SqL K H a xs ∧ xs[i]? = some x, fun i H v H' => ∃ T x, v = .ref T ∧ H T = none ∧ H' = upd H T (.tup [.int (i : Nat), x]) ∧ ∀ xs, SqL K H a xs → xs[i]? = some x, fun i H => ∃ xs : List V, SqL K H a xs ∧ xs.length ≤ i⟩
theorem turn_enum {P : Program} {w : World} {K : PySem.W.Frag} {elts : List Expr} {kk : Nat} {tpos : Pos} (a e it : Addr) :
    Turn P w K (.Tuple elts kk tpos) (Ite K a) [e, it] e (fun i h => (∃ old, IsEnum h e it ((i : Nat) : Int) old) ∧ h.IsListIter it a i ∧ e ≠ it) where
  mem := by simp
  obj := fun i h st b hb => by
    obtain ⟨⟨old, he⟩, ⟨o, ho, hc, hd⟩, _⟩ := st
    have e' : b = e ∨ b = it := by simpa using hb
    rcases e' with z | z
    · rw [z]; exact ⟨_, he, fun v q => nomatch q⟩
    · rw [z]; exact ⟨o, ho, fun v q => by rw [hd] at q; cases q⟩
  keep := fun i h h' st k => let ⟨⟨old, he⟩, hi, hne⟩ := st; ⟨⟨old, k e (by simp) _ he⟩, hi.at fun o q => k it (by simp) o q, hne⟩
  item := by
    intro X hP hw hK hc i pins s σ H E I hf st hg
    subst hP hw hK
    obtain ⟨⟨old, he⟩, hit, hne⟩ := st
    obtain ⟨xs, x, hq, hx⟩ := hg
    obtain ⟨its, rv, p, hz⟩ := I.list hq
    obtain ⟨u, hu, ru⟩ := rv.get hx
    have hel : e < s.heap.objs.size := Heap.lt_size he
    have hil : it < s.heap.objs.size := by obtain ⟨_, q, _⟩ := hit; exact Heap.lt_size q
    refine wpAny_pyNext_enum_item he hit p.isList (x := u) (by simpa using hu) hne fun h' ho hit' hT hsz hk => ?_
    refine ⟨_, rfl, wpAny_letOwnedTupleGo_enum (s := { s with heap := h', toks := s.toks + 1 }) ho fun h'' he' sb => ?_⟩
    have hT2 : h''.get? s.heap.objs.size = some { cls := .type "tuple", data := .seq #[.int i s.toks, u] } := (sb.2 _ (Nat.ne_of_gt hel)).trans hT
    have new : ObjOk X.prog X.w (upd H s.heap.objs.size (.tup [.int (i : Nat), x])) h'' s.heap.objs.size (.tup [.int (i : Nat), x]) :=
      ⟨by show 2 ≤ sizeLine; decide, [.int i s.toks, u], .cons ⟨_, rfl⟩ (.cons ru .nil), ⟨_, hT2, rfl, _, rfl⟩⟩
    have I1 : Inv X pins σ (upd H s.heap.objs.size (.tup [.int (i : Nat), x])) { s with heap := h'', toks := s.toks + 1 } :=
      I.turnedNew (ch := [e, it]) (fun b ob hb q => (sb.2 b (fun z => hb (by simp [z]))).trans (hk b ob (fun z => hb (by simp [z])) (fun z => hb (by simp [z])) q)) hf (Nat.le_refl _) new
    refine ⟨.ref s.heap.objs.size, _, I1, rfl, ⟨_, x, rfl, I.hok.fresh (Nat.le_refl _), rfl, fun ys hy => by rw [I.list_inj hy hq]; exact hx⟩, ⟨⟨u, ?_⟩, hit'.at fun o q => (sb.2 it (Ne.symm hne)).trans q, hne⟩, fun b hb => ?_⟩
    · have e1 : ((i + 1 : Nat) : Int) = (i : Int) + 1 := by omega
      rw [e1]; exact he'
    · have hb' : b < s.heap.objs.size := by
        have e' : b = e ∨ b = it := by simpa using hb
        rcases e' with z | z
        · rw [z]; exact hel
        · rw [z]; exact hil
      rw [upd_ne (Nat.ne_of_lt hb')]
      exact (hf b hb).1
  done := by
    intro X hP hw hK hc i pins s σ H E I hf st hg
    subst hP hw hK
    obtain ⟨⟨old, he⟩, hit, hne⟩ := st
    obtain ⟨xs, hq, hx⟩ := hg
    obtain ⟨its, rv, p, hz⟩ := I.list hq
    obtain ⟨f0, f1, f2, f3, f4, f5⟩ := hf it (by simp)
    have hl := rv.length
    exact wpAny_pyNext_enum_end (I.ok.hd hc) he hit p.isList (by simp; omega) fun h' eb => ⟨rfl, I.turned (t' := s.toks) (fun b o hb q => eb b o hb q) f0 f1 f3 f4 f5⟩
  self := fun A i s Q E st h => let ⟨⟨_, he⟩, _⟩ := st; wpAny_pyIter_enum he h
inductive IEnumR (K : PySem.W.Frag) (R : It → Hp → Prop) (vs : List V) (H1 : Hp) : Prop
  | mk (a : Addr) (xs : List V) (e : vs = [.ref a]) (s : SqL K H1 a xs) (r : R (Ite K a) H1)
noncomputable def iEnum (K : PySem.W.Frag) (ta : TA) : TI := fun σ H R => ta σ H (IEnumR K R)
theorem pi_enum {X : Cx} {e : Expr} {ta : TA} {p pos tpos : Pos} {elts : List Expr} {kk : Nat} (hg : Gl X "enumerate") (hm : X.mg "enumerate" = none) (ha : PA X [e] ta) (hs : starEach [e] X.env = [(false, eval e X.env)] := by rfl) :
    PI X (.Tuple elts kk tpos) (.Call (.Name "enumerate" p) [e] [] pos) (iEnum X.K ta) := by
  intro pins s σ H R I h
  refine Call_ (ld_blt I hg hm boot_enumerate (PyProof.Rows.callWith_type1 (thn (ha pos pins s σ H _ I h) fun us s1 ⟨vs, H1, I1, r1, q1⟩ => ?_) hs rfl))
  obtain ⟨a, xs, ex, hq, q⟩ := q1
  subst ex
  cases r1 with
  | cons r rr =>
    cases rr
    cases r
    obtain ⟨its, rv, p', hz⟩ := I1.list hq
    refine call_enumerate_list p'.isList fun h' he hit hsz hk => wpAny_pyIter_enum he ?_
    have I2 : Inv X pins σ H1 { s1 with heap := h' } := I1.kept (t' := s1.toks) hk
    refine ⟨s1.heap.objs.size + 1, [s1.heap.objs.size + 1, s1.heap.objs.size], _, _, H1, rfl, I2, turn_enum a (s1.heap.objs.size + 1) s1.heap.objs.size, ⟨⟨.none, he⟩, hit, Nat.succ_ne_self _⟩, fun b hb => ?_, q⟩
    have e' : b = s1.heap.objs.size + 1 ∨ b = s1.heap.objs.size := by simpa using hb
    have hle : s1.heap.objs.size ≤ b := by
      rcases e' with z | z
      · rw [z]; exact Nat.le_add_right _ _
      · rw [z]; exact Nat.le_refl _
    exact I1.fpOk hle (I1.hok.fresh hle)
theorem boot_zip5 : bootBuiltins "zip" = some (.type "zip") := by decide +kernel
noncomputable def Itz (K : PySem.W.Frag) (a b : Addr) : It :=
  ⟨fun i H => ∃ (xs ys : List V) (x y : V), SqL K H a xs ∧ SqL K H b ys ∧ xs[i]? = some x ∧ ys[i]? = some y,
    fun i H v H' => ∃ T x y, v = .ref T ∧ H T = none ∧ H' = upd H T (.tup [x, y]) ∧ (∀ xs, SqL K H a xs → xs[i]? = some x) ∧ ∀ ys, SqL K H b ys → ys[i]? = some y,
    fun i H => ∃ xs ys : List V, SqL K H a xs ∧ SqL K H b ys ∧ (xs.length ≤ i ∨ ys.length ≤ i)⟩
theorem turn_zip {P : Program} {w : World} {K : PySem.W.Frag} {elts : List Expr} {kk : Nat} {tpos : Pos} {a b z TI TO i1 i2 : Addr} (D : ZipApart z TI TO i1 i2 a b) :
    Turn P w K (.Tuple elts kk tpos) (Itz K a b) [z, TI, TO, i1, i2] z (fun i h => IsZip h z TI TO .none ∧ IsPair h TI (.ref i1) (.ref i2) ∧ (∃ x y, IsPair h TO x y) ∧ h.IsListIter i1 a i ∧ h.IsListIter i2 b i) where
  mem := by simp
  obj := fun i h st c hc => by
    obtain ⟨hz, hTI, ⟨x, y, hTO⟩, ⟨o1, e1, _, d1⟩, ⟨o2, e2, _, d2⟩⟩ := st
    have e' : c = z ∨ c = TI ∨ c = TO ∨ c = i1 ∨ c = i2 := by simpa using hc
    rcases e' with q | q | q | q | q
    · rw [q]; exact ⟨_, hz, fun v q => nomatch q⟩
    · rw [q]; exact ⟨_, hTI, fun v q => nomatch q⟩
    · rw [q]; exact ⟨_, hTO, fun v q => nomatch q⟩
    · rw [q]; exact ⟨o1, e1, fun v q => by rw [d1] at q; cases q⟩
    · rw [q]; exact ⟨o2, e2, fun v q => by rw [d2] at q; cases q⟩
  keep := fun i h h' st k => by
    obtain ⟨hz, hTI, ⟨x, y, hTO⟩, h1, h2⟩ := st
    exact ⟨k z (by simp) _ hz, k TI (by simp) _ hTI, ⟨x, y, k TO (by simp) _ hTO⟩, h1.at fun o q => k i1 (by simp) o q, h2.at fun o q => k i2 (by simp) o q⟩
  item := by
    intro X hP hw hK hc i pins s σ H E I hf st hg
    subst hP hw hK
    obtain ⟨hz, hTI, ⟨x0, y0, hTO⟩, h1, h2⟩ := st
    obtain ⟨xs, ys, x, y, hqx, hqy, hx, hy⟩ := hg
    obtain ⟨its, rv, p, _⟩ := I.list hqx
    obtain ⟨its2, rv2, p2, _⟩ := I.list hqy
    obtain ⟨u, hu, ru⟩ := rv.get hx
    obtain ⟨u2, hu2, ru2⟩ := rv2.get hy
    have hzl : z < s.heap.objs.size := Heap.lt_size hz
    refine wpAny_pyNext_zip_item D hz hTI hTO h1 h2 p.isList p2.isList (x := u) (y := u2) (by simpa using hu) (by simpa using hu2) fun h' z' TO' h1' h2' hT hsz hk => ?_
    refine ⟨_, rfl, wpAny_letOwnedTupleGo_zip (s := { s with heap := h' }) z' fun h'' z'' sb => ?_⟩
    have hT2 : h''.get? s.heap.objs.size = some { cls := .type "tuple", data := .seq #[u, u2] } := (sb.2 _ (Nat.ne_of_gt hzl)).trans hT
    have new : ObjOk X.prog X.w (upd H s.heap.objs.size (.tup [x, y])) h'' s.heap.objs.size (.tup [x, y]) :=
      ⟨by show 2 ≤ sizeLine; decide, [u, u2], .cons ru (.cons ru2 .nil), ⟨_, hT2, rfl, _, rfl⟩⟩
    have I1 : Inv X pins σ (upd H s.heap.objs.size (.tup [x, y])) { s with heap := h'' } :=
      I.turnedNew (t' := s.toks) (ch := [z, TI, TO, i1, i2]) (fun c o hb q => (sb.2 c (fun q' => hb (by simp [q']))).trans (hk c o (fun q' => hb (by simp [q'])) (fun q' => hb (by simp [q'])) (fun q' => hb (by simp [q'])) (fun q' => hb (by simp [q'])) q)) hf (Nat.le_refl _) new
    refine ⟨.ref s.heap.objs.size, _, I1, rfl, ⟨_, x, y, rfl, I.hok.fresh (Nat.le_refl _), rfl, fun l hl => by rw [I.list_inj hl hqx]; exact hx, fun l hl => by rw [I.list_inj hl hqy]; exact hy⟩, ⟨z'', ?_, ⟨u, u2, ?_⟩, ?_, ?_⟩, fun c hcm => ?_⟩
    · exact (sb.2 _ D.TIz).trans (hk _ _ D.TIz D.TITO D.TIi1 D.TIi2 hTI)
    · exact (sb.2 _ D.TOz).trans TO'
    · exact h1'.at fun o q => (sb.2 _ D.i1z).trans q
    · exact h2'.at fun o q => (sb.2 _ D.i2z).trans q
    · have hlt : c < s.heap.objs.size := by
        have e' : c = z ∨ c = TI ∨ c = TO ∨ c = i1 ∨ c = i2 := by simpa using hcm
        rcases e' with q | q | q | q | q
        · rw [q]; exact hzl
        · rw [q]; exact Heap.lt_size hTI
        · rw [q]; exact Heap.lt_size hTO
        · rw [q]; obtain ⟨_, e1, _⟩ := h1; exact Heap.lt_size e1
        · rw [q]; obtain ⟨_, e2, _⟩ := h2; exact Heap.lt_size e2
      rw [upd_ne (Nat.ne_of_lt hlt)]
      exact (hf c hcm).1
  done := by
    intro X hP hw hK hc i pins s σ H E I hf st hg
    subst hP hw hK
    obtain ⟨hz, hTI, ⟨x0, y0, hTO⟩, h1, h2⟩ := st
    obtain ⟨xs, ys, hqx, hqy, hend⟩ := hg
    obtain ⟨its, rv, p, _⟩ := I.list hqx
    obtain ⟨its2, rv2, p2, _⟩ := I.list hqy
    have l1 := rv.length
    have l2 := rv2.length
    have he : its.toArray[i]? = none ∨ its2.toArray[i]? = none := by
      rcases hend with q | q
      · exact .inl (by simp; omega)
      · exact .inr (by simp; omega)
    exact wpAny_pyNext_zip_end (I.ok.hd hc) D hz hTI hTO h1 h2 p.isList p2.isList he fun h' hk => ⟨rfl, I.turnedL (t' := s.toks) (ch := [z, TI, TO, i1, i2]) (fun c o hb q =>
      hk c o (fun q' => hb (by simp [q'])) (fun q' => hb (by simp [q'])) (fun q' => hb (by simp [q'])) (fun q' => hb (by simp [q'])) q) hf⟩
  self := fun A i s Q E st h => wpAny_pyIter_zip st.1 h
inductive IZipR (K : PySem.W.Frag) (R : It → Hp → Prop) (vs : List V) (H1 : Hp) : Prop
  | mk (a b : Addr) (xs ys : List V) (e : vs = [.ref a, .ref b]) (s : SqL K H1 a xs) (t : SqL K H1 b ys) (r : R (Itz K a b) H1)
noncomputable def iZip (K : PySem.W.Frag) (ta : TA) : TI := fun σ H R => ta σ H (IZipR K R)
theorem pi_zip {X : Cx} {e e2 : Expr} {ta : TA} {p pos tpos : Pos} {elts : List Expr} {kk : Nat} (hg : Gl X "zip") (hm : X.mg "zip" = none) (ha : PA X [e, e2] ta)
    (hs : starEach [e, e2] X.env = (false, eval e X.env) :: starEach [e2] X.env := by rfl) (hpl : (backTo pos (starEach [e2] X.env)).any (·.1) = false := by rfl) :
    PI X (.Tuple elts kk tpos) (.Call (.Name "zip" p) [e, e2] [] pos) (iZip X.K ta) := by
  intro pins s σ H R I h
  refine Call_ (ld_blt I hg hm boot_zip5 (PyProof.Rows.callWith_type1 (thn (ha pos pins s σ H _ I h) fun us s1 ⟨vs, H1, I1, r1, q1⟩ => ?_) hs hpl))
  obtain ⟨a, b, xs, ys, ex, hqx, hqy, q⟩ := q1
  subst ex
  cases r1 with
  | cons r rr =>
    cases rr with
    | cons r' rr =>
      cases rr
      cases r
      cases r'
      obtain ⟨its, rv, p1, _⟩ := I1.list hqx
      obtain ⟨its2, rv2, p2, _⟩ := I1.list hqy
      have la : a < s1.heap.objs.size := p1.lt
      have lb : b < s1.heap.objs.size := p2.lt
      refine call_zip_2 p1.isList p2.isList fun h' hz hTI hTO h1 h2 hsz hk => wpAny_pyIter_zip hz ?_
      have I2 : Inv X pins σ H1 { s1 with heap := h' } := I1.kept (t' := s1.toks) hk
      refine ⟨s1.heap.objs.size + 4, [s1.heap.objs.size + 4, s1.heap.objs.size + 2, s1.heap.objs.size + 3, s1.heap.objs.size, s1.heap.objs.size + 1], _, _, H1, rfl, I2, turn_zip (PySem.W.ktu_apart s1.heap.objs.size a b la lb), ⟨hz, hTI, ⟨_, _, hTO⟩, h1, h2⟩, fun c hcm => ?_, q⟩
      have e' : c = s1.heap.objs.size + 4 ∨ c = s1.heap.objs.size + 2 ∨ c = s1.heap.objs.size + 3 ∨ c = s1.heap.objs.size ∨ c = s1.heap.objs.size + 1 := by simpa using hcm
      have hle : s1.heap.objs.size ≤ c := by
        rcases e' with z | z | z | z | z
        · rw [z]; exact Nat.le_add_right _ _
        · rw [z]; exact Nat.le_add_right _ _
        · rw [z]; exact Nat.le_add_right _ _
        · rw [z]; exact Nat.le_refl _
        · rw [z]; exact Nat.le_add_right _ _
      exact I1.fpOk hle (I1.hok.fresh hle)
end L2
section 
namespace Bits
open PySem PyProof.Rows
theorem bitOr_pp {x y : Int} (hx : 0 ≤ x) (hy : 0 ≤ y) : Builtin.bitOr x y = ((x.toNat ||| y.toNat : Nat) : Int) := by
  have e := nat_or_add_and x.toNat y.toNat
  rw [bitOr_and, bitAnd_pp hx hy]
  omega
end Bits
end 
section 
namespace TL
open PySem PySem.Builtin PySem.Builtin.Str PySem.StrLaws
end TL
end 
namespace L2
open PySem PySem.Spec PyProof.Rows
section
variable {X : Cx} {pins : List (Addr × Obj)} {σ : St} {H : Hp} {s : Shared} {Q : VK}
end
section
variable {X : Cx}
end
section
variable {X : Cx} {o e : Expr} {to te : TE}
end
end L2
namespace L2
open PySem PySem.Spec PyProof.Rows
section
variable {X : Cx}
end
end L2
namespace Att
open PySem PySem.W PySem.Calls PyProof.Rows
section
variable {prog : Program} {w : World} {A : Around} {E : Value → Shared → Prop} {s : Shared} {K : Frag}
end
end Att
namespace L2
open PySem PySem.Spec PyProof.Rows
end L2
namespace L2
open PySem PySem.Spec PyProof.Rows
end L2
/- THE LAST THEOREM (shape; LID, My.* are yours):
   My.Adr: a structure of the addresses that your layer names (classes, functions); My.Txt K t: a structure (Prop) of the equations over K;
   My.txt_mk : {K} {implicit addresses ..} (e1 : nsIn K mainGlobals "law" = some (some (.ref f))) (e2 : K.lookup f = some ⟨oc, od, .func (fnOf "law" "law" params body scope dV kV doc pm an cdv ct), sl⟩) (e3 : codeIn K cdv "law" = true) .. : ∃ t, My.Txt K t
set_option maxRecDepth 100000 in
set_option maxHeartbeats 0 in
theorem PySem.Challenge.cw_LID_holds : PySem.Challenge.rw_LID.Holds := by
  w_on; o_law; k_head; (case hw => w_witness2)
  k_fill
  refine L2.walk_of (l := PySem.Challenge.rw_LID) (n := 63) (k := 40) (x := "script") (CX := fun w => ..) (sp := fun _ => My.sp_law) rfl (by decide) rfl ⟨rfl, by decide, by decide⟩ (fun w h Y => PySem.W.kIn_of Y) ?F ?S ?C
  case F =>
    intro w mg fa h KX G hmg
    have T : ∃ t, My.Txt (L2.KOf KX) t := by
      dsimp only [L2.KOf]                          -- K must stand as «<heap const> w.params» for k_is
      refine' My.txt_mk ?e1 ?e2 ?e3 ..
      (case e1 => PySem.W.k_is)                    -- in the order: a name -> its address -> its object -> its parts
      (case e2 => PySem.W.k_is)
      ..
    obtain ⟨t, T⟩ := T
    have e0 := hmg.symm.trans (PySem.W.mg_of KX G T.law)
    cases e0                                       -- fa is the law's own address
    exact ⟨_, fun s u => .of_eq rfl, fun base kb nb => My.law_fn T kb nb⟩     -- if «.of_eq rfl» comes too early: refine' ⟨_, ?b, fun base kb nb => My.law_fn T kb nb⟩; exact fun s u => .of_eq rfl
  case S => exact fun w H a ns hl hO hS => ..
  case C => exact ..
(the tactic k_is has no namespace: write k_is) -/
namespace L2
open PySem PySem.Spec PyProof.Rows
noncomputable def inClass (s : Stmt) (j : Nat) : Stmt := match s with
  | .ClassDef _ _ _ body _ _ _ _ _ _ _ => body.getD j (.Pass ⟨0, 0, 0, 0⟩)
  | _ => .Pass ⟨0, 0, 0, 0⟩
noncomputable def defArgs (s : Stmt) : Arguments := match s with
  | .FunctionDef _ a _ _ _ _ _ _ _ _ => a
  | _ => { posonlyargs := [], args := [], vararg := none, kwonlyargs := [], kw_defaults := [], kwarg := none, defaults := [] }
noncomputable def defBody (s : Stmt) : List Stmt := match s with
  | .FunctionDef _ _ b _ _ _ _ _ _ _ => b
  | _ => []
noncomputable def defScope (s : Stmt) : Scope := match s with
  | .FunctionDef _ _ _ _ _ _ sc _ _ _ => sc
  | _ => { kind := .function, names := [], isGenerator := false, isCoroutine := false }
noncomputable abbrev CX0 : CXT := fun _ _ _ _ _ _ => False
noncomputable abbrev E0 : XK := fun _ _ _ => False
theorem pass0 {X : Cx} : Passes CX0 X E0 := fun _ _ _ _ _ _ _ h => h.elim
structure Fun (K : PySem.W.Frag) (x qual : Str) (st : Stmt) (f : Addr) (fd : FuncData) : Prop where
  ex : ∃ (oc : Value) (od : Option Addr) (kV doc pm : Value) (an : Option Addr) (cdv ct : Value) (osl : Array (Option Value)),
    fd = PySem.W.fnOf x qual (defArgs st) (defBody st) (defScope st) .none kV doc pm an cdv ct ∧ K.lookup f = some ⟨oc, od, .func fd, osl⟩ ∧ PySem.W.codeIn K cdv qual = true
  kp : PySem.W.keepIn K (.ref f) = true
section
variable {P : Program} {w : World} {K : PySem.W.Frag} {mg : Str → Option Value} {base : Heap}
theorem Fun.ok {x qual : Str} {st : Stmt} {f : Addr} {fd : FuncData} {N ps : List Str} {k : Nat} {sp : Sp} (F : Fun K x qual st f fd) (S : FnScope N ps (defScope st)) (len : ∀ vs H Q E, sp vs H Q E → vs.length = ps.length)
    (hbody : ∀ (cdv : Value) (A : Around) (outer : List Env) (s : Shared) (H : Hp) (vs : List V) (Q : VK) (E : XK), Room k (A.deeper (envOfC qual (defScope st) s.heap.objs.size f cdv)) → sp vs H Q E →
      ∃ t, PSs (cxOf CX0 P w K mg base N qual (defScope st) f cdv A outer s H E).nox (defBody st) t ∧ t { nx := fun _ H' => Q .non H', rt := Q } (start N vs) H) : FnOk P w K mg base CX0 (k + 1) f fd ps sp := by
  obtain ⟨oc, od, kV, doc, pm, an, cdv, ct, osl, rfl, lk, hcd⟩ := F.ex
  refine fn_of lk hcd S len fun A outer s H vs Q E hr hsp => ?_
  obtain ⟨t, h, q⟩ := hbody cdv A outer s H vs Q E hr hsp
  exact ⟨t, h.nox, q⟩
theorem Fun.binds {x qual : Str} {st : Stmt} {f : Addr} {fd : FuncData} {ps : List Str} (F : Fun K x qual st f fd)
    (h : ∀ (kV doc pm : Value) (an : Option Addr) (cdv ct : Value) (us : List Value), us.length = ps.length → bindArgs (PySem.W.fnOf x qual (defArgs st) (defBody st) (defScope st) .none kV doc pm an cdv ct) ⟨us, []⟩ = pure (ps.zip us)) : Binds K fd ps [] := by
  obtain ⟨oc, od, kV, doc, pm, an, cdv, ct, osl, rfl, lk, hcd⟩ := F.ex
  exact .all (h kV doc pm an cdv ct)
theorem fun_mk {x qual : Str} {st : Stmt} {f : Addr} {oc : Value} {od an : Option Addr} {osl : Array (Option Value)} {kV doc pm cdv ct : Value} (l : K.lookup f = some ⟨oc, od, .func (PySem.W.fnOf x qual (defArgs st) (defBody st) (defScope st) .none kV doc pm an cdv ct), osl⟩)
    (c : PySem.W.codeIn K cdv qual = true) (k : PySem.W.keepIn K (.ref f) = true) : Fun K x qual st f (PySem.W.fnOf x qual (defArgs st) (defBody st) (defScope st) .none kV doc pm an cdv ct) := ⟨⟨oc, od, kV, doc, pm, an, cdv, ct, osl, rfl, l, c⟩, k⟩
end
section
variable {X : Cx}
theorem pv (i : Nat) {x : Str} {pos : Pos} (hN : X.N[i]? = some x := by rfl) (hv : Vis X.env.scope x := by first | exact Or.inl rfl | exact Or.inr (Or.inl rfl) | exact Or.inr (Or.inr rfl)) (hd : (x == ("__debug__" : Str)) = false := by decide)
    (hcd : (x == ("__classdict__" : Str)) = false := by decide) : PE X (.Name x pos) (tVar i) := pe_var hN hv hd hcd
end
theorem iteF {A B : Prop} (h : B) : if false = true then A else B := by
  rw [if_neg Bool.false_ne_true]
  exact h
theorem iteT {A B : Prop} (h : A) : if true = true then A else B := by
  rw [if_pos rfl]
  exact h
theorem ite2 {c A B : Prop} [Decidable c] (h1 : c → A) (h2 : ¬ c → B) : if c then A else B := by
  by_cases h : c
  · rw [if_pos h]
    exact h1 h
  · rw [if_neg h]
    exact h2 h
noncomputable def Same (H H' : Hp) : Prop := ∀ b o, H b = some o → H' b = some o
theorem Same.refl (H : Hp) : Same H H := fun _ _ h => h
theorem Same.trans {H H1 H2 : Hp} (a : Same H H1) (b : Same H1 H2) : Same H H2 := fun c o h => b c o (a c o h)
theorem Same.free {H H' : Hp} (e : Same H H') {l : Addr} (h : H' l = Option.none) : H l = Option.none := by
  cases q : H l with
  | none => rfl
  | some o =>
    rw [e l o q] at h
    cases h
theorem Same.seq {K : PySem.W.Frag} {H H' : Hp} {a : Addr} {xs : List V} (e : Same H H') (h : SqL K H a xs) : SqL K H' a xs := by
  rcases h with (h | ⟨o, h⟩) | h
  · exact .inl (.inl (e _ _ h))
  · exact .inl (.inr ⟨o, e _ _ h⟩)
  · exact .inr h
section
variable {κ : Type} [DecidableEq κ]
end
theorem Same.made {H H1 : Hp} {x dx C : Addr} (nx : H x = Option.none) (nd : H dx = Option.none) (k : ∀ b o, (upd (upd H dx (.own x)) x (.ins C dx [])) b = some o → b ≠ x → H1 b = some o) : Same H H1 := fun b o e =>
  k b o (by rw [upd_ne (ne_of_none e nx), upd_ne (ne_of_none e nd)]; exact e) (ne_of_none e nx)
end L2
end
section
set_option Elab.async false
set_option linter.all false
set_option maxRecDepth 100000
set_option maxHeartbeats 2000000
namespace L2
open PySem PySem.Spec PyProof.Rows
open PySem.W (WData Codec OpenSpec Well WellAll ReadsW ReadsAllW)
theorem reads_ints {R : PySem.W.WRecords} {cl : Str → Option Addr} {h : Heap} : ∀ (ns : List Int) (us : List Value), Vals (ns.map V.int) us → ∃ as, ReadsAllW R cl h us (ns.map WData.int) as
  | [], us, r => by
    cases r
    exact ⟨_, ReadsAllW.nil⟩
  | n :: ns, us, r => by
    cases r with
    | cons r1 r2 =>
      obtain ⟨t, rfl⟩ := r1
      obtain ⟨bs, q2⟩ := reads_ints ns _ r2
      exact ⟨_, ReadsAllW.cons (ReadsW.int n t) q2⟩
theorem reads_list {P : Program} {w : World} {K : PySem.W.Frag} {H : Hp} {h : Heap} {R : PySem.W.WRecords} {cl : Str → Option Addr} {a : Addr} {ns : List Int} (hok : HOk P w H h) (KX : K.In h) (q : SqL K H a (ns.map V.int)) :
    ∃ as, ReadsW R cl h (.ref a) (.list (ns.map WData.int)) as := by
  rcases q with q | ⟨o, its, n, e, hc, _, hd, _, hv⟩
  · obtain ⟨_, its, n, hv, e⟩ := (show ObjOk P w H h a (.lst (ns.map V.int)) from q.ok hok)
    obtain ⟨as, hr⟩ := reads_ints (R := R) (cl := cl) (h := h) ns its hv
    exact ⟨_, ReadsW.list e rfl rfl hr⟩
  · obtain ⟨as, hr⟩ := reads_ints (R := R) (cl := cl) (h := h) ns its.toList hv
    exact ⟨_, ReadsW.list (KX _ _ e) hc (by simp [hd]; rfl) hr⟩
theorem well_ints {P : Params} {h : Heap} : ∀ (ns : List Int) (us : List Value), WellAll P h us (ns.map WData.int) → Vals (ns.map V.int) us ∧ us.length = ns.length
  | [], us, x => by
    cases x
    exact ⟨.nil, rfl⟩
  | n :: ns, us, x => by
    cases x with
    | cons a b =>
      cases a
      have z := well_ints ns _ b
      exact ⟨.cons ⟨_, rfl⟩ z.1, congrArg (· + 1) z.2⟩
theorem well_arg {P : Params} {h : Heap} {vals : List Value} {ns : List Int} (x : WellAll P h vals [.list (ns.map .int)]) :
    ∃ (a : Addr) (us : List Value), vals = [.ref a] ∧ h.get? a = some { cls := .type "list", data := .seq us.toArray } ∧ Vals (ns.map V.int) us ∧ us.length = ns.length := by
  cases x with
  | cons x1 x2 =>
    cases x2
    cases x1 with
    | list ho hall => exact ⟨_, _, rfl, ho, well_ints ns _ hall⟩
noncomputable def argI (K : PySem.W.Frag) (a : Addr) (o : Obj) (xs : List V) : Hp := fun b => if b = a ∧ K.lookup b = none then some (.frz o (.lst xs)) else none
theorem argI_is {K : PySem.W.Frag} {a b : Addr} {o : Obj} {xs : List V} {u : HO} (q : argI K a o xs b = some u) : (b = a ∧ K.lookup b = none) ∧ u = .frz o (.lst xs) := by
  unfold argI at q
  by_cases z : b = a ∧ K.lookup b = none
  · rw [if_pos z] at q
    exact ⟨z, (Option.some.inj q).symm⟩
  · rw [if_neg z] at q
    cases q
theorem call_ints {P : Program} {w : World} {K : PySem.W.Frag} {mg mb : Str → Option Value} {k : Nat} {fa : Addr} {fd : FuncData} {x : Str} {sp : Sp} {s₁ : Shared} {vals : List Value} {ns ms : List Int} {R : PySem.W.WRecords} {cl : Str → Option Addr}
    (KX : K.In s₁.heap) (hns : s₁.heap.Ns mainGlobals mg) (hb : s₁.heap.Ns builtinsNs mb) (hbb : ∀ x : Str, x ≠ "__name__" → mb x = bootBuiltins x) (hlim : s₁.heap.NoLimit) (hg : s₁.gens = #[])
    (hwl : WellAll w.params s₁.heap vals [.list (ns.map .int)]) (hwt : ns.length ≤ sizeLine) (hr : Room k callerA)
    (F : ∀ base : Heap, K.In base → base.Ns mainGlobals mg → FnOk P w K mg base CX0 k fa fd [x] sp) (hbind : ∀ (s : Shared) (us : List Value), us.length = ([x] : List Str).length → BindsTo s fd ⟨us, []⟩ (([x] : List Str).zip us))
    (hsp : ∀ (H : Hp) (p : Addr), SqL K H p (ns.map V.int) → sp [.ref p] H (fun v H' => ∃ q, v = .ref q ∧ SqL K H' q (ms.map V.int)) fun _ _ _ => False) :
    codeAny (model P w) callerA (.call (.ref fa) ⟨vals, []⟩) (fun r s' => ∃ u as, r = .ok (.ret u) ∧ ReadsW R cl s'.heap u (.list (ms.map .int)) as ∧ OldK s₁.heap s'.heap ∧ s'.os = s₁.os ∧ AllBare s'.gens) s₁ := by
  obtain ⟨a, us, rfl, ho, hV, hl⟩ := well_arg hwl
  have hS : SqL K (argI K a { cls := .type "list", data := .seq us.toArray } (ns.map V.int)) a (ns.map V.int) := by
    cases hk : K.lookup a with
    | none => exact .inl (.inr ⟨_, if_pos ⟨rfl, hk⟩⟩)
    | some o =>
      have e2 := KX a o hk
      rw [ho] at e2
      obtain rfl := Option.some.inj e2
      exact .inr ⟨_, us.toArray, _, hk, rfl, rfl, rfl, by rw [List.size_toArray, hl]; exact hwt, hV⟩
  have hI : ∀ b u, argI K a { cls := .type "list", data := .seq us.toArray } (ns.map V.int) b = some u → (b = a ∧ K.lookup b = none) ∧ u = .frz { cls := .type "list", data := .seq us.toArray } (.lst (ns.map V.int)) := fun b u q => argI_is q
  generalize argI K a { cls := .type "list", data := .seq us.toArray } (ns.map V.int) = H at hS hI
  have hok : HOk P w H s₁.heap := fun b u q => by
    obtain ⟨⟨rfl, _⟩, rfl⟩ := hI b u q
    exact ⟨ho, by rw [List.length_map]; exact hwt, us, _, hV, ho⟩
  have nK : ∀ b o, K.lookup b = some o → H b = none := fun b o e => by
    cases q : H b with
    | none => rfl
    | some u =>
      rw [(hI b u q).1.2] at e
      cases e
  have nsK : ∀ {b : Addr} {m : Str → Option Value}, s₁.heap.Ns b m → (hidT s₁.heap H).Ns b m := fun {b m} ⟨o, es, ep, e, d, r⟩ => ⟨o, es, ep, hidT_get e (by
    cases q : H b with
    | none => rfl
    | some u =>
      obtain ⟨⟨rfl, _⟩, _⟩ := hI b u q
      rw [ho] at e
      cases e
      exact Data.noConfusion (show Data.seq us.toArray _ = Data.dict es ep from d)), d, r⟩
  have hKb : K.In (hidT s₁.heap H) := fun b o e => hidT_get (KX b o e) (nK b o e)
  have hM : Mod K mg (hidT s₁.heap H) := ⟨hKb, nsK hns, ⟨mb, nsK hb, hbb⟩, let ⟨mc, h1, h2⟩ := hlim; ⟨mc, nsK h1, h2⟩⟩
  have e0 : Env0 P w K mg (hidT s₁.heap H) callerA [] s₁ H := ⟨rfl, hM, fun b o e => of_hidT e, Nat.le_of_eq (hidT_size _ _), trivial, fun b hb => absurd (show b ∈ ([] : List Addr) from hb) List.not_mem_nil, hok, .of_eq hg⟩
  refine codeAny_mono ((F _ hKb (nsK hns)).run callerA [] s₁ H ⟨[.ref a], []⟩ [.ref a] [.ref a] _ _ hr e0 (hbind s₁ _ rfl) (.cons rfl .nil) (hsp H a hS)) fun r s' x => ?_
  cases r with
  | error e => exact False.elim x
  | ok fl =>
    cases fl with
    | next => exact False.elim x
    | brk => exact False.elim x
    | cont => exact False.elim x
    | ret u =>
      obtain ⟨v, H', os, bare, un, hok', r', p, rfl, q⟩ := x
      cases r'
      have kept : ∀ b o, s₁.heap.get? b = some o → s'.heap.get? b = some o := fun b o e => by
        cases q2 : H b with
        | none => exact un.keep b o e q2 (fun z => absurd (show b ∈ ([] : List Addr) from z) List.not_mem_nil) List.not_mem_nil
        | some u2 =>
          obtain ⟨⟨rfl, _⟩, rfl⟩ := hI b u2 q2
          obtain ⟨e2, _⟩ := hok' b _ (un.frzs b _ _ q2)
          rw [ho] at e
          cases e
          exact e2
      have KX' : K.In s'.heap := fun b o e => kept b o (KX b o e)
      obtain ⟨as, hrd⟩ := reads_list (R := R) (cl := cl) hok' KX' q
      exact ⟨_, as, rfl, hrd, OldK.of_keep kept, os, bare⟩
theorem walk_ints {r : OpenSpec} {k : Nat} {q : Program} {loose : List Str} {XP : (Str → Option Value) → Heap → Prop} {YP : World → Heap → Prop} {d : DefRec} {K : Params → PySem.W.Frag} {x : Str} {sp : PySem.W.Frag → Sp}
    (hwell : r.wellSaid = true) (hr : Room k callerA)
    (hY : ∀ (w : World) (h : Heap), YP w h → (K w.params).In h)
    (F : ∀ (w : World) (mg : Str → Option Value) (fa : Addr) (h : Heap), YP w h → (K w.params).In h → h.Ns mainGlobals mg → mg d.name = some (.ref fa) →
      ∃ fd : FuncData, (∀ (s : Shared) (us : List Value), us.length = ([x] : List Str).length → BindsTo s fd ⟨us, []⟩ (([x] : List Str).zip us)) ∧
        ∀ base : Heap, (K w.params).In base → base.Ns mainGlobals mg → FnOk r.prog w (K w.params) mg base CX0 k fa fd [x] (sp (K w.params)))
    (hsp : ∀ (a : Codec.denoteAll r.args), Codec.withinAll r.args a = true → Codec.app r.args r.asked a = true → ∃ ns ms : List Int, Codec.encAll r.args a = [.list (ns.map .int)] ∧ r.ret.enc (Codec.app r.args r.f a) = .list (ms.map .int) ∧
      ∀ (K : PySem.W.Frag) (H : Hp) (p : Addr), SqL K H p (ns.map V.int) → sp K [.ref p] H (fun v H' => ∃ q, v = .ref q ∧ SqL K H' q (ms.map V.int)) fun _ _ _ => False) :
    PySem.W.WalkOS q loose XP YP r d [] (fun f vs => PySem.call f vs) := by
  intro w s_0 s₁ mg mb G Y fa o pm cd doc dV kV ho hd hcd hD hmg hg args vals as hpre hlay hrd hwl hlo
  obtain ⟨a, e1, e2⟩ := PySem.W.os_pre_some hpre
  obtain ⟨e3, hwi⟩ := Codec.encAll_of_decAll r.args args a e1
  subst e3
  obtain ⟨ns, ms, en, em, hS⟩ := hsp a hwi e2
  have KX := hY w _ Y
  obtain ⟨fd, hb, hF⟩ := F w mg fa _ Y KX G.T.g hmg
  have hp := OpenSpec.post_iff hwell hwi
  rw [en] at hwl hlay hp
  have hwt : ns.length ≤ sizeLine := by
    have z := (PySem.W.layableW_iff.mp (List.all_eq_true.mp hlay _ (List.mem_cons_self ..))).2.2
    have z2 : WData.weightAll (ns.map WData.int) ≤ 1048576 := z
    have z3 := PySem.W.length_le_weightAllW (ns.map WData.int)
    rw [List.length_map] at z3
    exact Nat.le_trans z3 (Nat.le_trans z2 (by decide))
  refine PySem.W.enter_call (codeAny_mono (call_ints (ms := ms) (R := []) (cl := classAt s_0.heap) KX G.T.g G.T.b G.T.builtins G.T.nolimit hg hwl hwt hr hF hb (hS _)) fun r' s' hq => ?_)
  obtain ⟨u, as', rfl, h1, h2, h3, h4⟩ := hq
  refine ⟨.inl ⟨u, _, as', rfl, fun _ => rfl, h1, ?_, fun z => Bool.noConfusion (show false = true from z)⟩, h2, h3, h4⟩
  rw [en]
  exact (hp _ _).mpr em.symm
end L2
end
section
/- What Kp208.find gives, told without its way of finding it: the earliest case (number by number) that fits, or that there is none. Core Lean alone. -/
namespace SS
open Kp205 (Bound Rule Open)
noncomputable def lexle : List Nat → List Nat → Prop
  | [], [] => True
  | x :: a, y :: b => x < y ∨ (x = y ∧ lexle a b)
  | _, _ => False
theorem lexle_antisymm : ∀ {a b : List Nat}, lexle a b → lexle b a → a = b
  | [], [], _, _ => rfl
  | [], _ :: _, h, _ => h.elim
  | _ :: _, [], h, _ => h.elim
  | x :: a, y :: b, h, g => by
    rcases h with h | ⟨h, h'⟩
    · rcases g with g | ⟨g, _⟩ <;> omega
    · rcases g with g | ⟨_, g'⟩
      · omega
      · rw [h, lexle_antisymm h' g']
noncomputable def fits : Kp208.Held → List Nat → Prop
  | [], [] => True
  | x :: r, v :: c => v ≤ x.1 ∧ (∀ u, x.2 = some u → v = u) ∧ fits r c
  | _, _ => False
noncomputable def okB : Kp208.Held → List Bound → Prop
  | [], [] => True
  | x :: r, b :: bs => b.lo ≤ x.1 ∧ okB r bs
  | _, _ => False
noncomputable def okH : Kp208.Held → Prop
  | [] => True
  | x :: r => (∀ u, x.2 = some u → u ≤ x.1) ∧ okH r
noncomputable def allIn (bs : List Bound) (c : List Nat) : Bool := bs.length == c.length && (bs.zip c).all fun x => Kp205.inside x.1 x.2
noncomputable def numsAt (l : List Open) (c : List Nat) : List Nat := (l.filter fun o => allIn o.bounds c).map fun o => o.number
theorem allIn_cons (b : Bound) (bs : List Bound) (v : Nat) (c : List Nat) : allIn (b :: bs) (v :: c) = (Kp205.inside b v && allIn bs c) := by
  unfold allIn
  simp only [List.length_cons, List.zip_cons_cons, List.all_cons]
  have e : (bs.length + 1 == c.length + 1) = (bs.length == c.length) := by
    by_cases h : bs.length = c.length
    · simp [h]
    · have : ¬ (bs.length + 1 = c.length + 1) := by omega
      simp
  rw [e]
  cases Kp205.inside b v <;> cases (bs.length == c.length) <;> rfl
theorem allIn_nil_cons (v : Nat) (c : List Nat) : allIn [] (v :: c) = false := rfl
theorem numsAt_cons (v : Nat) (c : List Nat) : ∀ l : List Open, numsAt l (v :: c) = numsAt (Kp205.narrowed v l) c
  | [] => rfl
  | o :: l => by
    have ih := numsAt_cons v c l
    unfold numsAt at ih ⊢
    unfold Kp205.narrowed at ih ⊢
    rw [List.filter_cons, List.filterMap_cons]
    obtain ⟨n, bs⟩ := o
    cases bs with
    | nil =>
      simp only [allIn_nil_cons]
      exact ih
    | cons b bs =>
      simp only [allIn_cons]
      cases hb : Kp205.inside b v with
      | false =>
        simp only [Bool.false_and]
        exact ih
      | true =>
        simp only [Bool.true_and, if_true]
        rw [List.filter_cons]
        simp only
        cases ha : allIn bs c with
        | false => simpa using ih
        | true => simpa using ih
theorem narrowed_ok {x : Nat × Option Nat} {H : Kp208.Held} {v : Nat} {l : List Open} (h : ∀ o ∈ l, okB (x :: H) o.bounds) : ∀ o ∈ Kp205.narrowed v l, okB H o.bounds := by
  intro o ho
  unfold Kp205.narrowed at ho
  obtain ⟨p, hp, e⟩ := List.mem_filterMap.mp ho
  have q := h p hp
  cases hb : p.bounds with
  | nil => rw [hb] at e; cases e
  | cons b bs =>
    rw [hb] at e q
    simp only at e
    split at e
    · injection e with e
      subst e
      exact q.2
    · cases e
theorem numsAt_nil : ∀ {l : List Open}, (∀ o ∈ l, okB [] o.bounds) → numsAt l [] = l.map fun o => o.number
  | [], _ => rfl
  | o :: l, h => by
    have ih := numsAt_nil (l := l) fun p hp => h p (List.mem_cons_of_mem _ hp)
    unfold numsAt at ih ⊢
    have q := h o (List.mem_cons_self ..)
    have e : allIn o.bounds [] = true := by
      cases hb : o.bounds with
      | nil => rfl
      | cons b bs => rw [hb] at q; exact q.elim
    rw [List.filter_cons, if_pos e, List.map_cons, List.map_cons, ih]
theorem mem_insert {z x : Nat} : ∀ {l : List Nat}, z ∈ Kp205.insert x l ↔ z = x ∨ z ∈ l
  | [] => by simp [Kp205.insert]
  | y :: l => by
    have ih := mem_insert (z := z) (x := x) (l := l)
    unfold Kp205.insert
    by_cases h1 : x < y
    · rw [if_pos h1]; simp
    · rw [if_neg h1]
      by_cases h2 : x = y
      · rw [if_pos h2]; subst h2; simp
      · rw [if_neg h2, List.mem_cons, ih, List.mem_cons]
        constructor
        · rintro (h | h | h)
          · exact .inr (.inl h)
          · exact .inl h
          · exact .inr (.inr h)
        · rintro (h | h | h)
          · exact .inr (.inl h)
          · exact .inl h
          · exact .inr (.inr h)
theorem insert_rising {x : Nat} : ∀ {l : List Nat}, l.Pairwise (· < ·) → (Kp205.insert x l).Pairwise (· < ·)
  | [], _ => by simp [Kp205.insert]
  | y :: l, h => by
    have h' := List.pairwise_cons.mp h
    unfold Kp205.insert
    by_cases h1 : x < y
    · rw [if_pos h1]
      refine List.pairwise_cons.mpr ⟨?_, h⟩
      intro z hz
      rcases List.mem_cons.mp hz with rfl | hz
      · exact h1
      · exact Nat.lt_trans h1 (h'.1 z hz)
    · rw [if_neg h1]
      by_cases h2 : x = y
      · rw [if_pos h2]; exact h
      · rw [if_neg h2]
        refine List.pairwise_cons.mpr ⟨?_, insert_rising h'.2⟩
        intro z hz
        rcases mem_insert.mp hz with rfl | hz
        · omega
        · exact h'.1 z hz
theorem edges_rising (top : Nat) : ∀ l : List Open, (Kp205.edges top l).Pairwise (· < ·)
  | [] => by simp [Kp205.edges]
  | o :: l => by
    have ih := edges_rising top l
    unfold Kp205.edges
    split
    · exact ih
    · dsimp only
      split
      · exact insert_rising (insert_rising ih)
      · exact insert_rising ih
theorem zero_edges (top : Nat) : ∀ l : List Open, 0 ∈ Kp205.edges top l
  | [] => by simp [Kp205.edges]
  | o :: l => by
    have ih := zero_edges top l
    unfold Kp205.edges
    split
    · exact ih
    · dsimp only
      split
      · exact mem_insert.mpr (.inr (mem_insert.mpr (.inr ih)))
      · exact mem_insert.mpr (.inr ih)
theorem lo_edges {top : Nat} {b : Bound} {bs : List Bound} : ∀ {l : List Open} {n : Nat}, ⟨n, b :: bs⟩ ∈ l → b.lo ∈ Kp205.edges top l ∧ (b.hi < top → b.hi + 1 ∈ Kp205.edges top l)
  | [], _, h => by cases h
  | o :: l, n, h => by
    unfold Kp205.edges
    rcases List.mem_cons.mp h with h | h
    · subst h
      dsimp only
      split
      · exact ⟨mem_insert.mpr (.inr (mem_insert.mpr (.inl rfl))), fun _ => mem_insert.mpr (.inl rfl)⟩
      · exact ⟨mem_insert.mpr (.inl rfl), fun h => absurd h (by assumption)⟩
    · have ih := lo_edges (top := top) h
      split
      · exact ih
      · dsimp only
        split
        · exact ⟨mem_insert.mpr (.inr (mem_insert.mpr (.inr ih.1))), fun q => mem_insert.mpr (.inr (mem_insert.mpr (.inr (ih.2 q))))⟩
        · exact ⟨mem_insert.mpr (.inr ih.1), fun q => mem_insert.mpr (.inr (ih.2 q))⟩
theorem edges_le {x : Nat × Option Nat} {H : Kp208.Held} : ∀ {l : List Open}, (∀ o ∈ l, okB (x :: H) o.bounds) → ∀ z ∈ Kp205.edges x.1 l, z ≤ x.1
  | [], _, z, hz => by
    simp [Kp205.edges] at hz
    omega
  | o :: l, h, z, hz => by
    have ih := edges_le (l := l) (fun p hp => h p (List.mem_cons_of_mem _ hp)) z
    have q := h o (List.mem_cons_self ..)
    unfold Kp205.edges at hz
    split at hz
    · exact ih hz
    · rename_i b bs hb
      rw [hb] at q
      have q1 : b.lo ≤ x.1 := q.1
      dsimp only at hz
      split at hz
      · rcases mem_insert.mp hz with rfl | hz
        · omega
        · rcases mem_insert.mp hz with rfl | hz
          · exact q1
          · exact ih hz
      · rcases mem_insert.mp hz with rfl | hz
        · exact q1
        · exact ih hz
theorem below {v : Nat} : ∀ {l : List Nat}, (∃ e ∈ l, e ≤ v) → ∃ e ∈ l, e ≤ v ∧ ∀ d ∈ l, d ≤ v → d ≤ e
  | [], h => by obtain ⟨_, h, _⟩ := h; cases h
  | x :: l, h => by
    by_cases hl : ∃ e ∈ l, e ≤ v
    · obtain ⟨e, he, hv, hm⟩ := below hl
      by_cases hx : x ≤ v ∧ e < x
      · refine ⟨x, List.mem_cons_self .., hx.1, fun d hd hdv => ?_⟩
        rcases List.mem_cons.mp hd with rfl | hd
        · omega
        · have := hm d hd hdv; omega
      · refine ⟨e, List.mem_cons_of_mem _ he, hv, fun d hd hdv => ?_⟩
        rcases List.mem_cons.mp hd with rfl | hd
        · omega
        · exact hm d hd hdv
    · obtain ⟨e, he, hv⟩ := h
      rcases List.mem_cons.mp he with rfl | he
      · refine ⟨e, List.mem_cons_self .., hv, fun d hd hdv => ?_⟩
        rcases List.mem_cons.mp hd with rfl | hd
        · omega
        · exact absurd ⟨d, hd, hdv⟩ hl
      · exact absurd ⟨e, he, hv⟩ hl
theorem inside_iff {b : Bound} {x : Nat} : Kp205.inside b x = true ↔ b.lo ≤ x ∧ x ≤ b.hi := by
  unfold Kp205.inside
  simp
theorem inside_eq {b : Bound} {x y : Nat} (h : (b.lo ≤ x ∧ x ≤ b.hi) ↔ (b.lo ≤ y ∧ y ≤ b.hi)) : Kp205.inside b x = Kp205.inside b y := by
  rw [Bool.eq_iff_iff, inside_iff, inside_iff]; exact h
theorem narrowed_congr {x y : Nat} : ∀ {l : List Open}, (∀ n b bs, (⟨n, b :: bs⟩ : Open) ∈ l → Kp205.inside b x = Kp205.inside b y) → Kp205.narrowed x l = Kp205.narrowed y l
  | [], _ => rfl
  | o :: l, h => by
    have ih := narrowed_congr (l := l) fun n b bs hm => h n b bs (List.mem_cons_of_mem _ hm)
    unfold Kp205.narrowed at ih ⊢
    rw [List.filterMap_cons, List.filterMap_cons, ih]
    obtain ⟨n, bs⟩ := o
    cases bs with
    | nil => rfl
    | cons b bs =>
      have := h n b bs (List.mem_cons_self ..)
      simp only [this]
theorem edge_of {top v : Nat} (hv : v ≤ top) (l : List Open) : ∃ e ∈ Kp205.edges top l, e ≤ v ∧ Kp205.narrowed e l = Kp205.narrowed v l := by
  obtain ⟨e, he, hev, hm⟩ := below (v := v) ⟨0, zero_edges top l, Nat.zero_le _⟩
  refine ⟨e, he, hev, narrowed_congr fun n b bs hb => inside_eq ?_⟩
  obtain ⟨h1, h2⟩ := lo_edges (top := top) hb
  constructor
  · rintro ⟨p, q⟩
    refine ⟨by omega, ?_⟩
    apply Classical.byContradiction
    intro hn
    have hlt : b.hi < v := by omega
    have := hm _ (h2 (by omega)) (by omega)
    omega
  · rintro ⟨p, q⟩
    exact ⟨hm _ h1 p, by omega⟩
theorem firstOf_some {f : Nat → Option (List Nat)} : ∀ {l : List Nat} {c : List Nat}, l.Pairwise (· < ·) → Kp205.firstOf f l = some c → ∃ x c', x ∈ l ∧ c = x :: c' ∧ f x = some c' ∧ ∀ y ∈ l, y < x → f y = none
  | [], _, _, h => by cases h
  | x :: l, c, hp, h => by
    have hp' := List.pairwise_cons.mp hp
    unfold Kp205.firstOf at h
    split at h
    · rename_i c' e
      injection h with h
      subst h
      refine ⟨x, c', List.mem_cons_self .., rfl, e, fun y hy hlt => ?_⟩
      rcases List.mem_cons.mp hy with rfl | hy
      · omega
      · have := hp'.1 y hy; omega
    · rename_i e
      obtain ⟨z, c', hz, hc, hf, hm⟩ := firstOf_some hp'.2 h
      refine ⟨z, c', List.mem_cons_of_mem _ hz, hc, hf, fun y hy hlt => ?_⟩
      rcases List.mem_cons.mp hy with rfl | hy
      · exact e
      · exact hm y hy hlt
theorem firstOf_none {f : Nat → Option (List Nat)} : ∀ {l : List Nat}, Kp205.firstOf f l = none → ∀ x ∈ l, f x = none
  | [], _, _, hx => by cases hx
  | x :: l, h, y, hy => by
    unfold Kp205.firstOf at h
    split at h
    · cases h
    · rename_i e
      rcases List.mem_cons.mp hy with rfl | hy
      · exact e
      · exact firstOf_none h y hy
theorem leastHeld_spec (so : List Nat → Bool) : ∀ (H : Kp208.Held) (l : List Open), (∀ o ∈ l, okB H o.bounds) → okH H →
    (∀ y, Kp208.leastHeld so H l = some y → fits H y ∧ so (numsAt l y) = true ∧ ∀ z, fits H z → so (numsAt l z) = true → lexle y z) ∧
    (Kp208.leastHeld so H l = none → ∀ z, fits H z → so (numsAt l z) = false)
  | [], l, hl, _ => by
    unfold Kp208.leastHeld
    rw [← numsAt_nil hl]
    constructor
    · intro y h
      split at h
      · rename_i hs
        injection h with h
        subst h
        refine ⟨trivial, hs, fun z hz _ => ?_⟩
        cases z with
        | nil => trivial
        | cons _ _ => exact hz.elim
      · cases h
    · intro h z hz
      split at h
      · cases h
      · rename_i hs
        cases z with
        | nil => simpa using hs
        | cons _ _ => exact hz.elim
  | (top, some v) :: H, l, hl, hH => by
    have ih := leastHeld_spec so H (Kp205.narrowed v l) (narrowed_ok hl) hH.2
    unfold Kp208.leastHeld
    constructor
    · intro y h
      obtain ⟨c, hc, e⟩ := Option.map_eq_some_iff.mp h
      subst e
      obtain ⟨h1, h2, h3⟩ := ih.1 c hc
      refine ⟨⟨hH.1 v rfl, fun u hu => Option.some.inj hu, h1⟩, by rw [numsAt_cons]; exact h2, fun z hz hs => ?_⟩
      cases z with
      | nil => exact hz.elim
      | cons u z =>
        have hu : u = v := hz.2.1 v rfl
        subst hu
        rw [numsAt_cons] at hs
        exact .inr ⟨rfl, h3 z hz.2.2 hs⟩
    · intro h z hz
      have hn : Kp208.leastHeld so H (Kp205.narrowed v l) = none := Option.map_eq_none_iff.mp h
      cases z with
      | nil => exact hz.elim
      | cons u z =>
        have hu : u = v := hz.2.1 v rfl
        subst hu
        rw [numsAt_cons]
        exact ih.2 hn z hz.2.2
  | (top, none) :: H, l, hl, hH => by
    have ih := fun v => leastHeld_spec so H (Kp205.narrowed v l) (narrowed_ok hl) hH.2
    unfold Kp208.leastHeld
    constructor
    · intro y h
      obtain ⟨x, c, hx, e, hf, hm⟩ := firstOf_some (edges_rising top l) h
      subst e
      obtain ⟨h1, h2, h3⟩ := (ih x).1 c hf
      refine ⟨⟨edges_le hl x hx, fun u hu => (by cases hu), h1⟩, (by rw [numsAt_cons]; exact h2), fun z hz hs => ?_⟩
      cases z with
      | nil => exact hz.elim
      | cons v z =>
        rw [numsAt_cons] at hs
        obtain ⟨e, he, hev, hn⟩ := edge_of hz.1 l
        by_cases hex : e < x
        · have := (ih e).2 (hm e he hex) z hz.2.2
          rw [hn, hs] at this
          cases this
        · by_cases hxv : x < v
          · exact .inl hxv
          · have : x = v := by omega
            subst this
            exact .inr ⟨rfl, h3 z hz.2.2 hs⟩
    · intro h z hz
      cases z with
      | nil => exact hz.elim
      | cons v z =>
        obtain ⟨e, he, hev, hn⟩ := edge_of hz.1 l
        rw [numsAt_cons, ← hn]
        exact (ih e).2 (firstOf_none h e he) z hz.2.2
noncomputable def okRules (tops : List Nat) (rs : List Rule) : Prop := ∀ r ∈ rs, r.bounds.length = tops.length ∧ ∀ (i : Nat) (b : Bound) (t : Nat), r.bounds[i]? = some b → tops[i]? = some t → b.lo ≤ t
noncomputable def isCase (tops c : List Nat) : Prop := c.length = tops.length ∧ ∀ i x t : Nat, c[i]? = some x → tops[i]? = some t → x ≤ t
noncomputable def like (s : Nat) (tops c y : List Nat) : Prop := isCase tops y ∧ ∀ i : Nat, i < tops.length → Nat.testBit s i = true → y[i]? = c[i]?
theorem fits_holdFrom (s : Nat) : ∀ (tops c y : List Nat) (k : Nat), c.length = tops.length →
    (fits (Kp208.holdFrom k s tops c) y ↔ isCase tops y ∧ ∀ i : Nat, i < tops.length → Nat.testBit s (k + i) = true → y[i]? = c[i]?)
  | [], c, y, k, hc => by
    unfold Kp208.holdFrom
    constructor
    · intro h
      cases y with
      | nil => exact ⟨⟨rfl, fun i x t h => by simp at h⟩, fun i hi => absurd hi (Nat.not_lt_zero _)⟩
      | cons _ _ => exact h.elim
    · rintro ⟨⟨h, _⟩, _⟩
      cases y with
      | nil => trivial
      | cons _ _ => simp at h
  | t :: tops, [], y, k, hc => by simp at hc
  | t :: tops, x :: c, y, k, hc => by
    have ih := fun y => fits_holdFrom s tops c y (k + 1) (by simpa using hc)
    unfold Kp208.holdFrom
    cases y with
    | nil =>
      constructor
      · intro h; exact h.elim
      · rintro ⟨⟨h, _⟩, _⟩; simp at h
    | cons v y =>
      show (v ≤ t ∧ (∀ u, (if Nat.testBit s k then some x else none) = some u → v = u) ∧ fits _ y) ↔ _
      rw [ih y]
      constructor
      · rintro ⟨h1, h2, ⟨h3, h4⟩, h5⟩
        refine ⟨⟨by simpa using h3, fun i a b ha hb => ?_⟩, fun i hi hs => ?_⟩
        · cases i with
          | zero => simp at ha hb; omega
          | succ i => exact h4 i a b (by simpa using ha) (by simpa using hb)
        · cases i with
          | zero =>
            have hs' : Nat.testBit s k = true := by simpa using hs
            have := h2 x (by rw [if_pos hs'])
            simp [this]
          | succ i =>
            have := h5 i (by simpa using hi) (by rw [show k + 1 + i = k + (i + 1) by omega]; exact hs)
            simpa using this
      · rintro ⟨⟨h1, h2⟩, h3⟩
        refine ⟨h2 0 v t rfl rfl, fun u hu => ?_, ⟨by simpa using h1, fun i a b ha hb => h2 (i + 1) a b (by simpa using ha) (by simpa using hb)⟩, fun i hi hs => ?_⟩
        · by_cases hs : Nat.testBit s k = true
          · rw [if_pos hs] at hu
            have := h3 0 (by simp) (by simpa using hs)
            simp at this hu
            omega
          · rw [if_neg hs] at hu; cases hu
        · have := h3 (i + 1) (by simpa using hi) (by rw [show k + (i + 1) = k + 1 + i by omega]; exact hs)
          simpa using this
theorem okB_holdFrom (s : Nat) : ∀ (tops c : List Nat) (bs : List Bound) (k : Nat), c.length = tops.length → bs.length = tops.length →
    (∀ (i : Nat) (b : Bound) (t : Nat), bs[i]? = some b → tops[i]? = some t → b.lo ≤ t) → okB (Kp208.holdFrom k s tops c) bs
  | [], c, [], k, _, _, _ => by unfold Kp208.holdFrom; trivial
  | [], _, _ :: _, _, _, h, _ => by simp at h
  | _ :: _, _, [], _, _, h, _ => by simp at h
  | _ :: _, [], _ :: _, _, h, _, _ => by simp at h
  | t :: tops, x :: c, b :: bs, k, h1, h2, h3 => by
    unfold Kp208.holdFrom
    exact ⟨h3 0 b t rfl rfl, okB_holdFrom s tops c bs (k + 1) (by simpa using h1) (by simpa using h2) fun i d e hd he => h3 (i + 1) d e (by simpa using hd) (by simpa using he)⟩
theorem okH_holdFrom (s : Nat) : ∀ (tops c : List Nat) (k : Nat), isCase tops c → okH (Kp208.holdFrom k s tops c)
  | [], c, k, _ => by unfold Kp208.holdFrom; trivial
  | _ :: _, [], _, h => by have := h.1; simp at this
  | t :: tops, x :: c, k, h => by
    unfold Kp208.holdFrom
    refine ⟨fun u hu => ?_, okH_holdFrom s tops c (k + 1) ⟨by simpa using h.1, fun i d e hd he => h.2 (i + 1) d e (by simpa using hd) (by simpa using he)⟩⟩
    by_cases hs : Nat.testBit s k = true
    · simp only [hs, if_true] at hu
      injection hu with hu
      subst hu
      exact h.2 0 x t rfl rfl
    · simp only [hs] at hu; cases hu
theorem mem_opened {o : Open} : ∀ {rs : List Rule} {k : Nat}, o ∈ Kp205.opened k rs → ∃ r ∈ rs, o.bounds = r.bounds
  | [], _, h => by cases h
  | r :: rs, k, h => by
    unfold Kp205.opened at h
    rcases List.mem_cons.mp h with rfl | h
    · exact ⟨r, List.mem_cons_self .., rfl⟩
    · obtain ⟨q, hq, e⟩ := mem_opened h
      exact ⟨q, List.mem_cons_of_mem _ hq, e⟩
theorem head_numsAt (c : List Nat) : ∀ (rs : List Rule) (k : Nat), (numsAt (Kp205.opened k rs) c).head? = (Kp205.first rs c).map (· + k)
  | [], _ => rfl
  | r :: rs, k => by
    have ih := head_numsAt c rs (k + 1)
    unfold Kp205.first at ih ⊢
    unfold Kp205.opened
    unfold numsAt at ih ⊢
    rw [List.filter_cons, List.findIdx?_cons]
    have e : allIn r.bounds c = Kp205.holds r c := rfl
    dsimp only
    rw [e]
    cases Kp205.holds r c with
    | true => simp
    | false =>
      simp only [Bool.false_eq_true, if_false]
      rw [ih]
      cases List.findIdx? (fun r => Kp205.holds r c) rs with
      | none => rfl
      | some n => simp; omega
theorem byThese_head (rs : List Rule) (l : List Nat) : Kp205.byThese rs l = match l.head? with
    | some k => Kp205.outcomeOf rs k + 1
    | none => 0 := by
  cases l <;> rfl
theorem byThese_numsAt (rs : List Rule) (c : List Nat) : Kp205.byThese rs (numsAt (Kp205.opened 0 rs) c) = Kp205.decided rs c := by
  rw [byThese_head, head_numsAt]
  unfold Kp205.decided
  cases Kp205.first rs c <;> rfl
theorem find_spec {h : Kp208.House} {s : Nat} {c : List Nat} (p : Nat → Bool) (hr : okRules h.tops h.rules) (hc : isCase h.tops c) :
    (∀ y, Kp208.find h s c (fun l => p (Kp205.byThese h.rules l)) = some y → like s h.tops c y ∧ p (Kp205.decided h.rules y) = true ∧ ∀ z, like s h.tops c z → p (Kp205.decided h.rules z) = true → lexle y z) ∧
    (Kp208.find h s c (fun l => p (Kp205.byThese h.rules l)) = none → ∀ z, like s h.tops c z → p (Kp205.decided h.rules z) = false) := by
  have g := leastHeld_spec (fun l => p (Kp205.byThese h.rules l)) (Kp208.holdFrom 0 s h.tops c) (Kp205.opened 0 h.rules)
    (fun o ho => by
      obtain ⟨r, hm, e⟩ := mem_opened ho
      rw [e]
      exact okB_holdFrom s h.tops c r.bounds 0 hc.1 (hr r hm).1 (hr r hm).2) (okH_holdFrom s h.tops c 0 hc)
  have f : ∀ y, fits (Kp208.holdFrom 0 s h.tops c) y ↔ like s h.tops c y := fun y => by
    have := fits_holdFrom s h.tops c y 0 hc.1
    simp only [Nat.zero_add] at this
    exact this
  simp only [byThese_numsAt, f] at g
  exact g
theorem find_eq_some {h : Kp208.House} {s : Nat} {c y : List Nat} {p : Nat → Bool} (hr : okRules h.tops h.rules) (hc : isCase h.tops c)
    (h1 : like s h.tops c y) (h2 : p (Kp205.decided h.rules y) = true) (h3 : ∀ z, like s h.tops c z → p (Kp205.decided h.rules z) = true → lexle y z) :
    Kp208.find h s c (fun l => p (Kp205.byThese h.rules l)) = some y := by
  have g := find_spec (s := s) p hr hc
  cases e : Kp208.find h s c (fun l => p (Kp205.byThese h.rules l)) with
  | none => have := g.2 e y h1; rw [h2] at this; cases this
  | some x =>
    obtain ⟨a1, a2, a3⟩ := g.1 x e
    rw [lexle_antisymm (a3 y h1 h2) (h3 x a1 a2)]
theorem find_eq_none {h : Kp208.House} {s : Nat} {c : List Nat} {p : Nat → Bool} (hr : okRules h.tops h.rules) (hc : isCase h.tops c)
    (h1 : ∀ z, like s h.tops c z → p (Kp205.decided h.rules z) = false) :
    Kp208.find h s c (fun l => p (Kp205.byThese h.rules l)) = none := by
  have g := find_spec (s := s) p hr hc
  cases e : Kp208.find h s c (fun l => p (Kp205.byThese h.rules l)) with
  | none => rfl
  | some x =>
    obtain ⟨a1, a2, _⟩ := g.1 x e
    rw [h1 x a1] at a2; cases a2
end SS
end
section
/- The program's search as plain functions, and that it finds what Kp208.find finds. Core Lean alone. -/
namespace MA
open Kp205 (Bound Rule)
noncomputable def inB (r : Rule) (k x : Nat) : Bool := match r.bounds[k]? with
  | some b => Kp205.inside b x
  | none => false
noncomputable def inAt (rs : List Rule) (j k x : Nat) : Bool := match rs[j]? with
  | some r => inB r k x
  | none => false
noncomputable def allowTo (rs : List Rule) (k x : Nat) : Nat → Nat
  | 0 => 0
  | i + 1 => if inAt rs i k x then allowTo rs k x i ||| 2 ^ i else allowTo rs k x i
noncomputable def allow (rs : List Rule) (k x : Nat) : Nat := allowTo rs k x rs.length
theorem testBit_allowTo (rs : List Rule) (k x : Nat) : ∀ i j : Nat, Nat.testBit (allowTo rs k x i) j = (decide (j < i) && inAt rs j k x)
  | 0, j => by simp [allowTo]
  | i + 1, j => by
    have ih := testBit_allowTo rs k x i j
    unfold allowTo
    by_cases h : inAt rs i k x = true
    · rw [if_pos h, Nat.testBit_or, ih]
      by_cases hj : j = i
      · subst hj; simp [Nat.testBit_two_pow_self, h]
      · rw [Nat.testBit_two_pow_of_ne (Ne.symm hj)]
        by_cases h1 : j < i
        · simp [h1, show j < i + 1 by omega]
        · simp [h1, show ¬ j < i + 1 by omega]
    · rw [if_neg h, ih]
      by_cases hj : j = i
      · subst hj
        have : inAt rs j k x = false := by simpa using h
        simp [this]
      · by_cases h1 : j < i
        · simp [h1, show j < i + 1 by omega]
        · simp [h1, show ¬ j < i + 1 by omega]
theorem inAt_lt {rs : List Rule} {j k x : Nat} (h : inAt rs j k x = true) : j < rs.length := by
  unfold inAt at h
  split at h
  · rename_i r e; exact (List.getElem?_eq_some_iff.mp e).1
  · cases h
theorem testBit_allow (rs : List Rule) (k x j : Nat) : Nat.testBit (allow rs k x) j = inAt rs j k x := by
  unfold allow
  rw [testBit_allowTo]
  cases h : inAt rs j k x with
  | false => simp
  | true => simp [inAt_lt h]
theorem allow_congr {rs : List Rule} {k x y : Nat} (h : ∀ j, inAt rs j k x = inAt rs j k y) : allow rs k x = allow rs k y := by
  apply Nat.eq_of_testBit_eq
  intro j
  rw [testBit_allow, testBit_allow, h]
noncomputable def foundTo (rs : List Rule) (k top : Nat) : Nat → List Nat
  | 0 => [0]
  | i + 1 => match rs[i]? with
    | none => foundTo rs k top i
    | some r => match r.bounds[k]? with
      | none => foundTo rs k top i
      | some b => if b.hi < top then foundTo rs k top i ++ [b.lo] ++ [b.hi + 1] else foundTo rs k top i ++ [b.lo]
noncomputable def rising : List Nat → List Nat
  | [] => []
  | x :: l => Kp205.insert x (rising l)
theorem rising_pw : ∀ l : List Nat, (rising l).Pairwise (· < ·)
  | [] => List.Pairwise.nil
  | _ :: l => SS.insert_rising (rising_pw l)
theorem mem_rising {z : Nat} : ∀ {l : List Nat}, z ∈ rising l ↔ z ∈ l
  | [] => by simp [rising]
  | x :: l => by
    unfold rising
    rw [SS.mem_insert, mem_rising (l := l), List.mem_cons]
theorem rising_unique : ∀ {a b : List Nat}, a.Pairwise (· < ·) → b.Pairwise (· < ·) → (∀ z, z ∈ a ↔ z ∈ b) → a = b
  | [], [], _, _, _ => rfl
  | [], y :: b, _, _, h => by have := (h y).mpr (List.mem_cons_self ..); cases this
  | x :: a, [], _, _, h => by have := (h x).mp (List.mem_cons_self ..); cases this
  | x :: a, y :: b, ha, hb, h => by
    have ha' := List.pairwise_cons.mp ha
    have hb' := List.pairwise_cons.mp hb
    have e : x = y := by
      have h1 := (h x).mp (List.mem_cons_self ..)
      have h2 := (h y).mpr (List.mem_cons_self ..)
      rcases List.mem_cons.mp h1 with r | r
      · exact r
      · rcases List.mem_cons.mp h2 with q | q
        · exact q.symm
        · have := hb'.1 x r; have := ha'.1 y q; omega
    subst e
    rw [rising_unique ha'.2 hb'.2 fun z => ?_]
    constructor
    · intro hz
      rcases List.mem_cons.mp ((h z).mp (List.mem_cons_of_mem _ hz)) with r | r
      · subst r; exact absurd (ha'.1 _ hz) (Nat.lt_irrefl _)
      · exact r
    · intro hz
      rcases List.mem_cons.mp ((h z).mpr (List.mem_cons_of_mem _ hz)) with r | r
      · subst r; exact absurd (hb'.1 _ hz) (Nat.lt_irrefl _)
      · exact r
noncomputable def turns (rs : List Rule) (k top : Nat) : List Nat := rising (foundTo rs k top rs.length)
noncomputable def addP (acc : List (Nat × Nat)) (b n : Nat) : List (Nat × Nat) := if acc.any (fun p => p.1 == b) then acc else acc ++ [(b, n)]
noncomputable def piecesTo (rs : List Rule) (k : Nat) (ts : List Nat) : Nat → List (Nat × Nat)
  | 0 => []
  | i + 1 => match ts[i]? with
    | none => piecesTo rs k ts i
    | some n => addP (piecesTo rs k ts i) (allow rs k n) n
noncomputable def pieces (rs : List Rule) (k top : Nat) : List (Nat × Nat) := piecesTo rs k (turns rs k top) (turns rs k top).length
noncomputable def firstP (f : Nat → Option (List Nat)) : List (Nat × Nat) → Option (List Nat)
  | [] => none
  | p :: l => match f p.1 with
    | some ns => some (p.2 :: ns)
    | none => firstP f l
noncomputable def place (left : Nat) : Nat := match (List.range 10).find? fun j => Nat.testBit left j with
  | some j => j + 1
  | none => 0
noncomputable def srch (wanted : Nat → Bool) (pc : Nat → List (Nat × Nat)) : List Nat → Nat → Option (List Nat)
  | [], left => if wanted (place left) then some [] else none
  | k :: rest, left => firstP (fun b => srch wanted pc rest (left &&& b)) (pc k)
end MA
end
section
namespace MA
open Kp205 (Bound Rule)
open SS (lexle okRules isCase like)
theorem zero_found (rs : List Rule) (k top : Nat) : ∀ i, 0 ∈ foundTo rs k top i
  | 0 => by simp [foundTo]
  | i + 1 => by
    have ih := zero_found rs k top i
    unfold foundTo
    split
    · exact ih
    · split
      · exact ih
      · split <;> simp [ih]
theorem lo_found {rs : List Rule} {k top j : Nat} {r : Rule} {b : Bound} (hj : rs[j]? = some r) (hb : r.bounds[k]? = some b) : ∀ {i : Nat}, j < i → b.lo ∈ foundTo rs k top i ∧ (b.hi < top → b.hi + 1 ∈ foundTo rs k top i)
  | 0, h => absurd h (Nat.not_lt_zero _)
  | i + 1, h => by
    unfold foundTo
    by_cases e : j = i
    · subst e
      rw [hj]
      simp only [hb]
      split
      · exact ⟨by simp, fun _ => by simp⟩
      · rename_i hn
        exact ⟨by simp, fun q => absurd q hn⟩
    · have ih := lo_found (rs := rs) (top := top) hj hb (i := i) (by omega)
      split
      · exact ih
      · split
        · exact ih
        · split
          · refine ⟨?_, fun q => ?_⟩
            · have := ih.1; simp [this]
            · have := ih.2 q; simp only [List.mem_append]; exact .inl (.inl this)
          · refine ⟨?_, fun q => ?_⟩
            · have := ih.1; simp [this]
            · have := ih.2 q; simp only [List.mem_append]; exact .inl this
theorem found_le {rs : List Rule} {tops : List Nat} {k top : Nat} (hr : okRules tops rs) (hk : tops[k]? = some top) : ∀ {i : Nat}, ∀ z ∈ foundTo rs k top i, z ≤ top
  | 0, z, hz => by simp [foundTo] at hz; omega
  | i + 1, z, hz => by
    have ih := found_le (i := i) hr hk z
    unfold foundTo at hz
    split at hz
    · exact ih hz
    · rename_i r e
      split at hz
      · exact ih hz
      · rename_i b eb
        have h1 := (hr r (List.mem_of_getElem? e)).2 k b top eb hk
        split at hz
        · rw [List.mem_append, List.mem_append] at hz
          rcases hz with (hz | hz) | hz
          · exact ih hz
          · have : z = b.lo := by simpa using hz
            omega
          · have : z = b.hi + 1 := by simpa using hz
            omega
        · rw [List.mem_append] at hz
          rcases hz with hz | hz
          · exact ih hz
          · have : z = b.lo := by simpa using hz
            omega
theorem turns_le {rs : List Rule} {tops : List Nat} {k top : Nat} (hr : okRules tops rs) (hk : tops[k]? = some top) : ∀ z ∈ turns rs k top, z ≤ top := fun z hz => found_le hr hk z (mem_rising.mp hz)
theorem turn_of {rs : List Rule} {k top x : Nat} (hx : x ≤ top) : ∃ e ∈ turns rs k top, e ≤ x ∧ allow rs k e = allow rs k x := by
  obtain ⟨e, he, hex, hm⟩ := SS.below (v := x) (l := turns rs k top) ⟨0, mem_rising.mpr (zero_found rs k top _), Nat.zero_le _⟩
  refine ⟨e, he, hex, allow_congr fun j => ?_⟩
  unfold inAt
  cases hj : rs[j]? with
  | none => rfl
  | some r =>
    unfold inB
    dsimp only
    cases hb : r.bounds[k]? with
    | none => rfl
    | some b =>
      refine SS.inside_eq ?_
      obtain ⟨h1, h2⟩ := lo_found (top := top) hj hb (i := rs.length) (List.getElem?_eq_some_iff.mp hj).1
      constructor
      · rintro ⟨p, q⟩
        refine ⟨by omega, ?_⟩
        apply Classical.byContradiction
        intro hn
        have := hm _ (mem_rising.mpr (h2 (by omega))) (by omega)
        omega
      · rintro ⟨p, q⟩
        exact ⟨hm _ (mem_rising.mpr h1) p, by omega⟩
theorem mem_addP {acc : List (Nat × Nat)} {b n : Nat} {p : Nat × Nat} (h : p ∈ addP acc b n) : p ∈ acc ∨ p = (b, n) := by
  unfold addP at h
  split at h
  · exact .inl h
  · rw [List.mem_append] at h
    rcases h with h | h
    · exact .inl h
    · exact .inr (by simpa using h)
theorem sub_addP {acc : List (Nat × Nat)} {b n : Nat} {p : Nat × Nat} (h : p ∈ acc) : p ∈ addP acc b n := by
  unfold addP
  split
  · exact h
  · exact List.mem_append_left _ h
theorem pieces_of {rs : List Rule} {k : Nat} {ts : List Nat} : ∀ {i : Nat} {p : Nat × Nat}, p ∈ piecesTo rs k ts i → ∃ j, j < i ∧ ts[j]? = some p.2 ∧ p.1 = allow rs k p.2
  | 0, p, h => by cases h
  | i + 1, p, h => by
    unfold piecesTo at h
    split at h
    · obtain ⟨j, h1, h2⟩ := pieces_of h
      exact ⟨j, by omega, h2⟩
    · rename_i n e
      rcases mem_addP h with h | h
      · obtain ⟨j, h1, h2⟩ := pieces_of h
        exact ⟨j, by omega, h2⟩
      · subst h
        exact ⟨i, by omega, e, rfl⟩
theorem pieces_pw {rs : List Rule} {k : Nat} {ts : List Nat} (ht : ts.Pairwise (· < ·)) : ∀ {i : Nat}, (piecesTo rs k ts i).Pairwise (fun p q => p.2 < q.2)
  | 0 => List.Pairwise.nil
  | i + 1 => by
    have ih := pieces_pw (rs := rs) (k := k) ht (i := i)
    unfold piecesTo
    split
    · exact ih
    · rename_i n e
      unfold addP
      split
      · exact ih
      · rw [List.pairwise_append]
        refine ⟨ih, List.pairwise_singleton _ _, fun p hp q hq => ?_⟩
        have : q = (allow rs k n, n) := by simpa using hq
        subst this
        obtain ⟨j, hj, hjt, _⟩ := pieces_of hp
        obtain ⟨hj1, ej⟩ := List.getElem?_eq_some_iff.mp hjt
        obtain ⟨hi1, ei⟩ := List.getElem?_eq_some_iff.mp e
        have := List.pairwise_iff_getElem.mp ht j i hj1 hi1 hj
        rw [ej, ei] at this
        exact this
theorem pieces_all {rs : List Rule} {k : Nat} {ts : List Nat} (ht : ts.Pairwise (· < ·)) {j n : Nat} (hj : ts[j]? = some n) : ∀ {i : Nat}, j < i → ∃ p ∈ piecesTo rs k ts i, p.1 = allow rs k n ∧ p.2 ≤ n
  | 0, h => absurd h (Nat.not_lt_zero _)
  | i + 1, h => by
    unfold piecesTo
    by_cases e : j = i
    · subst e
      rw [hj]
      dsimp only
      unfold addP
      split
      · rename_i ha
        obtain ⟨p, hp, hb⟩ := List.any_eq_true.mp ha
        have hb' : p.1 = allow rs k n := by simpa using hb
        refine ⟨p, hp, hb', ?_⟩
        obtain ⟨l, hl, hlt, _⟩ := pieces_of hp
        obtain ⟨hl1, el⟩ := List.getElem?_eq_some_iff.mp hlt
        obtain ⟨hj1, ej⟩ := List.getElem?_eq_some_iff.mp hj
        have := List.pairwise_iff_getElem.mp ht l j hl1 hj1 hl
        rw [el, ej] at this
        omega
      · exact ⟨_, List.mem_append_right _ (List.mem_singleton.mpr rfl), rfl, Nat.le_refl _⟩
    · obtain ⟨p, hp, h2⟩ := pieces_all (rs := rs) (k := k) ht hj (i := i) (by omega)
      split
      · exact ⟨p, hp, h2⟩
      · exact ⟨p, sub_addP hp, h2⟩
theorem piece_of {rs : List Rule} {k top x : Nat} (hx : x ≤ top) : ∃ p ∈ pieces rs k top, p.1 = allow rs k x ∧ p.2 ≤ x := by
  obtain ⟨e, he, hex, ha⟩ := turn_of (rs := rs) (k := k) hx
  obtain ⟨j, hj, ej⟩ := List.mem_iff_getElem.mp he
  obtain ⟨p, hp, h1, h2⟩ := pieces_all (rs := rs) (k := k) (rising_pw (foundTo rs k top rs.length)) (j := j) (n := e) (List.getElem?_eq_some_iff.mpr ⟨hj, ej⟩) (i := (turns rs k top).length) hj
  exact ⟨p, hp, h1.trans ha, by omega⟩
theorem piece_is {rs : List Rule} {tops : List Nat} {k top : Nat} (hr : okRules tops rs) (hk : tops[k]? = some top) {p : Nat × Nat} (hp : p ∈ pieces rs k top) : p.2 ≤ top ∧ p.1 = allow rs k p.2 := by
  obtain ⟨j, _, hj, h⟩ := pieces_of hp
  exact ⟨turns_le hr hk _ (List.mem_of_getElem? hj), h⟩
theorem pieces_rising (rs : List Rule) (k top : Nat) : (pieces rs k top).Pairwise (fun p q => p.2 < q.2) := pieces_pw (rising_pw _)
theorem firstP_some {f : Nat → Option (List Nat)} : ∀ {l : List (Nat × Nat)} {c : List Nat}, l.Pairwise (fun p q => p.2 < q.2) → firstP f l = some c → ∃ p c', p ∈ l ∧ c = p.2 :: c' ∧ f p.1 = some c' ∧ ∀ q ∈ l, q.2 < p.2 → f q.1 = none
  | [], _, _, h => by cases h
  | p :: l, c, hp, h => by
    have hp' := List.pairwise_cons.mp hp
    unfold firstP at h
    split at h
    · rename_i c' e
      injection h with h
      subst h
      refine ⟨p, c', List.mem_cons_self .., rfl, e, fun q hq hlt => ?_⟩
      rcases List.mem_cons.mp hq with rfl | hq
      · omega
      · have := hp'.1 q hq; omega
    · rename_i e
      obtain ⟨z, c', hz, hc, hf, hm⟩ := firstP_some hp'.2 h
      refine ⟨z, c', List.mem_cons_of_mem _ hz, hc, hf, fun q hq hlt => ?_⟩
      rcases List.mem_cons.mp hq with rfl | hq
      · exact e
      · exact hm q hq hlt
theorem firstP_none {f : Nat → Option (List Nat)} : ∀ {l : List (Nat × Nat)}, firstP f l = none → ∀ p ∈ l, f p.1 = none
  | [], _, _, hx => by cases hx
  | p :: l, h, q, hq => by
    unfold firstP at h
    split at h
    · cases h
    · rename_i e
      rcases List.mem_cons.mp hq with rfl | hq
      · exact e
      · exact firstP_none h q hq
noncomputable def rem (rs : List Rule) : List Nat → List Nat → Nat → Nat
  | k :: fs, n :: ns, left => rem rs fs ns (left &&& allow rs k n)
  | _, _, left => left
noncomputable def okV (tops : List Nat) : List Nat → List Nat → Prop
  | [], [] => True
  | k :: fs, n :: ns => (∃ t, tops[k]? = some t ∧ n ≤ t) ∧ okV tops fs ns
  | _, _ => False
noncomputable def pcs (rs : List Rule) (tops : List Nat) (k : Nat) : List (Nat × Nat) := pieces rs k (tops.getD k 0)
theorem srch_spec {rs : List Rule} {tops : List Nat} (hr : okRules tops rs) (w : Nat → Bool) : ∀ (fs : List Nat) (left : Nat), (∀ k ∈ fs, k < tops.length) →
    (∀ ns, srch w (pcs rs tops) fs left = some ns → okV tops fs ns ∧ w (place (rem rs fs ns left)) = true ∧ ∀ ms, okV tops fs ms → w (place (rem rs fs ms left)) = true → lexle ns ms) ∧
    (srch w (pcs rs tops) fs left = none → ∀ ms, okV tops fs ms → w (place (rem rs fs ms left)) = false)
  | [], left, _ => by
    unfold srch
    constructor
    · intro ns h
      split at h
      · rename_i hw
        injection h with h
        subst h
        refine ⟨trivial, hw, fun ms hm _ => ?_⟩
        cases ms with
        | nil => trivial
        | cons _ _ => exact hm.elim
      · cases h
    · intro h ms hm
      split at h
      · cases h
      · rename_i hw
        cases ms with
        | nil => simpa [rem] using hw
        | cons _ _ => exact hm.elim
  | k :: fs, left, hk => by
    have ih := fun b => srch_spec hr w fs (left &&& b) fun j hj => hk j (List.mem_cons_of_mem _ hj)
    obtain ⟨top, ht⟩ : ∃ t, tops[k]? = some t := ⟨_, List.getElem?_eq_getElem (hk k (List.mem_cons_self ..))⟩
    have hp : pcs rs tops k = pieces rs k top := by
      unfold pcs
      rw [List.getD_eq_getElem?_getD, ht]
      rfl
    unfold srch
    rw [hp]
    constructor
    · intro ns h
      obtain ⟨p, ns', hm, e, hf, hq⟩ := firstP_some (pieces_rising rs k top) h
      subst e
      obtain ⟨h1, h2⟩ := piece_is hr ht hm
      obtain ⟨g1, g2, g3⟩ := (ih p.1).1 ns' hf
      refine ⟨⟨⟨top, ht, h1⟩, g1⟩, by unfold rem; rw [← h2]; exact g2, fun ms hv hw => ?_⟩
      cases ms with
      | nil => exact hv.elim
      | cons x ms =>
        obtain ⟨⟨t, ht', hx⟩, hv⟩ := hv
        rw [ht] at ht'
        have et : top = t := Option.some.inj ht'
        subst et
        unfold rem at hw
        obtain ⟨q, hqm, hqa, hqx⟩ := piece_of (rs := rs) (k := k) hx
        rw [← hqa] at hw
        by_cases hlt : q.2 < p.2
        · have := (ih q.1).2 (hq q hqm hlt) ms hv
          rw [hw] at this
          cases this
        · by_cases hpx : p.2 < x
          · exact .inl hpx
          · have e1 : p.2 = x := by omega
            have e2 : q.1 = p.1 := by rw [hqa, h2, e1]
            rw [e2] at hw
            exact .inr ⟨e1, g3 ms hv hw⟩
    · intro h ms hv
      cases ms with
      | nil => exact hv.elim
      | cons x ms =>
        obtain ⟨⟨t, ht', hx⟩, hv⟩ := hv
        rw [ht] at ht'
        have et : top = t := Option.some.inj ht'
        subst et
        obtain ⟨q, hqm, hqa, hqx⟩ := piece_of (rs := rs) (k := k) hx
        unfold rem
        rw [← hqa]
        exact (ih q.1).2 (firstP_none h q hqm) ms hv
end MA
end
section
namespace MA
open Kp205 (Bound Rule)
open SS (lexle okRules isCase like)
noncomputable def freeFrom (fb : Nat) : Nat → List Nat → List Nat
  | _, [] => []
  | o, _ :: l => if Nat.testBit fb o then o :: freeFrom fb (o + 1) l else freeFrom fb (o + 1) l
noncomputable def leftFrom (rs : List Rule) (fb : Nat) : Nat → Nat → List Nat → Nat
  | _, acc, [] => acc
  | o, acc, x :: l => leftFrom rs fb (o + 1) (if Nat.testBit fb o then acc else acc &&& allow rs o x) l
noncomputable def merge (fb : Nat) : Nat → List Nat → List Nat → List Nat
  | _, [], _ => []
  | o, x :: l, ns => if Nat.testBit fb o then (match ns with
      | n :: ns' => n :: merge fb (o + 1) l ns'
      | [] => x :: merge fb (o + 1) l []) else x :: merge fb (o + 1) l ns
theorem freeFrom_snoc (fb : Nat) (x : Nat) : ∀ (l : List Nat) (o : Nat), freeFrom fb o (l ++ [x]) = freeFrom fb o l ++ if Nat.testBit fb (o + l.length) then [o + l.length] else []
  | [], o => by
    show freeFrom fb o [x] = _
    unfold freeFrom
    unfold freeFrom
    simp
  | y :: l, o => by
    have ih := freeFrom_snoc fb x l (o + 1)
    show freeFrom fb o (y :: (l ++ [x])) = _
    unfold freeFrom
    rw [ih]
    have e : o + 1 + l.length = o + (y :: l).length := by simp; omega
    rw [e]
    split <;> rfl
theorem leftFrom_snoc (rs : List Rule) (fb : Nat) (x : Nat) : ∀ (l : List Nat) (o acc : Nat), leftFrom rs fb o acc (l ++ [x]) = if Nat.testBit fb (o + l.length) then leftFrom rs fb o acc l else leftFrom rs fb o acc l &&& allow rs (o + l.length) x
  | [], o, acc => by
    show leftFrom rs fb o acc [x] = _
    unfold leftFrom
    unfold leftFrom
    simp
  | y :: l, o, acc => by
    have ih := leftFrom_snoc rs fb x l (o + 1)
    show leftFrom rs fb o acc (y :: (l ++ [x])) = _
    unfold leftFrom
    rw [ih]
    have e : o + 1 + l.length = o + (y :: l).length := by simp; omega
    rw [e]
theorem mem_freeFrom {fb k : Nat} : ∀ {l : List Nat} {o : Nat}, k ∈ freeFrom fb o l → o ≤ k ∧ k < o + l.length ∧ Nat.testBit fb k = true
  | [], o, h => by cases h
  | x :: l, o, h => by
    unfold freeFrom at h
    split at h
    · rename_i hb
      rcases List.mem_cons.mp h with rfl | h
      · exact ⟨Nat.le_refl _, by simp, hb⟩
      · obtain ⟨h1, h2, h3⟩ := mem_freeFrom h
        exact ⟨by omega, by simp; omega, h3⟩
    · obtain ⟨h1, h2, h3⟩ := mem_freeFrom h
      exact ⟨by omega, by simp; omega, h3⟩
theorem merge_length (fb : Nat) : ∀ (c ns : List Nat) (o : Nat), (merge fb o c ns).length = c.length
  | [], _, _ => rfl
  | x :: c, ns, o => by
    unfold merge
    split
    · cases ns with
      | nil => simp [merge_length fb c]
      | cons n ns => simp [merge_length fb c]
    · simp [merge_length fb c]
noncomputable def putO (o : Nat) (c : List Nat) (ps : List (Nat × Nat)) : List Nat := ps.foldl (fun c p => c.set (p.1 - o) p.2) c
theorem putO_up (o x : Nat) : ∀ (ps : List (Nat × Nat)) (l : List Nat), (∀ p ∈ ps, o + 1 ≤ p.1) → putO o (x :: l) ps = x :: putO (o + 1) l ps
  | [], _, _ => rfl
  | p :: ps, l, h => by
    have h1 := h p (List.mem_cons_self ..)
    have ih := putO_up o x ps (l.set (p.1 - (o + 1)) p.2) fun q hq => h q (List.mem_cons_of_mem _ hq)
    unfold putO at ih ⊢
    rw [List.foldl_cons, List.foldl_cons]
    have e : (x :: l).set (p.1 - o) p.2 = x :: l.set (p.1 - (o + 1)) p.2 := by
      have : p.1 - o = (p.1 - (o + 1)) + 1 := by omega
      rw [this]
      rfl
    rw [e]
    exact ih
theorem putO_merge (fb : Nat) : ∀ (c ns : List Nat) (o : Nat), ns.length = (freeFrom fb o c).length → putO o c ((freeFrom fb o c).zip ns) = merge fb o c ns
  | [], ns, o, _ => by simp [freeFrom, putO, merge]
  | x :: c, ns, o, h => by
    unfold freeFrom at h ⊢
    unfold merge
    by_cases hb : Nat.testBit fb o = true
    · simp only [hb, if_true] at h ⊢
      cases ns with
      | nil => simp at h
      | cons n ns =>
        have ih := putO_merge fb c ns (o + 1) (by simpa using h)
        rw [List.zip_cons_cons]
        unfold putO at ih ⊢
        rw [List.foldl_cons, Nat.sub_self]
        show putO o ((x :: c).set 0 n) ((freeFrom fb (o + 1) c).zip ns) = _
        rw [List.set_cons_zero, putO_up]
        · exact congrArg _ ih
        · intro p hp
          have := (List.of_mem_zip (a := p.1) (b := p.2) hp).1
          exact (mem_freeFrom this).1
    · simp only [hb] at h ⊢
      have ih := putO_merge fb c ns (o + 1) h
      simp only [Bool.false_eq_true, if_false]
      rw [putO_up]
      · exact congrArg _ ih
      · intro p hp
        have := (List.of_mem_zip (a := p.1) (b := p.2) hp).1
        exact (mem_freeFrom this).1
noncomputable def allAt (rs : List Rule) (j : Nat) : Nat → List Nat → Bool
  | _, [] => true
  | o, x :: l => inAt rs j o x && allAt rs j (o + 1) l
noncomputable def heldAt (rs : List Rule) (fb j : Nat) : Nat → List Nat → Bool
  | _, [] => true
  | o, x :: l => (Nat.testBit fb o || inAt rs j o x) && heldAt rs fb j (o + 1) l
noncomputable def remB (rs : List Rule) (j : Nat) : List Nat → List Nat → Bool
  | k :: fs, n :: ns => inAt rs j k n && remB rs j fs ns
  | _, _ => true
theorem testBit_rem (rs : List Rule) (j : Nat) : ∀ (fs ns : List Nat) (left : Nat), Nat.testBit (rem rs fs ns left) j = (Nat.testBit left j && remB rs j fs ns)
  | k :: fs, n :: ns, left => by
    unfold rem remB
    rw [testBit_rem rs j fs ns, Nat.testBit_and, testBit_allow, Bool.and_assoc]
  | [], ns, left => by simp [rem, remB]
  | k :: fs, [], left => by simp [rem, remB]
theorem testBit_leftFrom (rs : List Rule) (fb j : Nat) : ∀ (l : List Nat) (o acc : Nat), Nat.testBit (leftFrom rs fb o acc l) j = (Nat.testBit acc j && heldAt rs fb j o l)
  | [], o, acc => by simp [leftFrom, heldAt]
  | x :: l, o, acc => by
    unfold leftFrom heldAt
    rw [testBit_leftFrom rs fb j l]
    by_cases hb : Nat.testBit fb o = true
    · simp [hb]
    · simp only [hb]
      rw [if_neg (by simp), Nat.testBit_and, testBit_allow, Bool.and_assoc]
      simp
theorem allAt_merge (rs : List Rule) (fb j : Nat) : ∀ (c ns : List Nat) (o : Nat), ns.length = (freeFrom fb o c).length → allAt rs j o (merge fb o c ns) = (heldAt rs fb j o c && remB rs j (freeFrom fb o c) ns)
  | [], ns, o, _ => by
    simp [allAt, merge, heldAt, freeFrom, remB]
  | x :: c, ns, o, h => by
    unfold freeFrom at h ⊢
    unfold merge heldAt
    by_cases hb : Nat.testBit fb o = true
    · simp only [hb, if_true] at h ⊢
      cases ns with
      | nil => simp at h
      | cons n ns =>
        have ih := allAt_merge rs fb j c ns (o + 1) (by simpa using h)
        simp only [allAt, remB, ih, Bool.true_or, Bool.true_and]
        cases inAt rs j o n <;> cases heldAt rs fb j (o + 1) c <;> simp
    · simp only [hb] at h ⊢
      have ih := allAt_merge rs fb j c ns (o + 1) h
      simp only [Bool.false_eq_true, if_false, allAt, ih, Bool.false_or]
      cases inAt rs j o x <;> simp
theorem holds_allAt {rs : List Rule} {j : Nat} {r : Rule} (hj : rs[j]? = some r) : ∀ (bs : List Bound) (y : List Nat) (o : Nat), bs = r.bounds.drop o → bs.length = y.length → (bs.zip y).all (fun x => Kp205.inside x.1 x.2) = allAt rs j o y
  | [], [], o, _, _ => rfl
  | [], _ :: _, _, _, h => by simp at h
  | _ :: _, [], _, _, h => by simp at h
  | b :: bs, x :: y, o, e, h => by
    have hb : r.bounds[o]? = some b := by
      have : (r.bounds.drop o)[0]? = some b := by rw [← e]; rfl
      rw [List.getElem?_drop] at this
      simpa using this
    have ih := holds_allAt hj bs y (o + 1) (by rw [← List.drop_drop, ← e]; rfl) (by simpa using h)
    rw [List.zip_cons_cons, List.all_cons, ih]
    show _ = (inAt rs j o x && allAt rs j (o + 1) y)
    unfold inAt inB
    rw [hj]
    simp only [hb]
theorem holds_eq {rs : List Rule} {j : Nat} {r : Rule} {y : List Nat} (hj : rs[j]? = some r) (hl : r.bounds.length = y.length) : Kp205.holds r y = allAt rs j 0 y := by
  unfold Kp205.holds
  rw [holds_allAt hj r.bounds y 0 (by simp) hl, hl]
  simp
theorem findIdx_find {α : Type} (p : α → Bool) (q : Nat → Bool) : ∀ (rs : List α) (o n : Nat), rs.length ≤ n → (∀ j, q (o + j) = match rs[j]? with | some r => p r | none => false) →
    (List.range' o n).find? q = (rs.findIdx? p).map (· + o)
  | [], o, n, _, h => by
    simp only [List.findIdx?_nil, Option.map_none]
    rw [List.find?_eq_none]
    intro x hx
    rw [List.mem_range'_1] at hx
    have := h (x - o)
    rw [show o + (x - o) = x by omega] at this
    simp [this]
  | r :: rs, o, 0, hn, _ => by simp at hn
  | r :: rs, o, n + 1, hn, h => by
    have h0 : q o = p r := by simpa using h 0
    rw [List.range'_succ, List.find?_cons, List.findIdx?_cons, h0]
    cases hp : p r with
    | true => simp
    | false =>
      simp only [Bool.false_eq_true, if_false]
      rw [findIdx_find p q rs (o + 1) n (by simpa using hn) fun j => ?_]
      · cases rs.findIdx? p with
        | none => rfl
        | some k => simp; omega
      · have := h (j + 1)
        rw [show o + 1 + j = o + (j + 1) by omega]
        simpa using this
theorem place_first {rs : List Rule} {y : List Nat} {R : Nat} (hn : rs.length ≤ 10) (h : ∀ j, Nat.testBit R j = match rs[j]? with | some r => Kp205.holds r y | none => false) :
    place R = match Kp205.first rs y with | some k => k + 1 | none => 0 := by
  have e := findIdx_find (fun r => Kp205.holds r y) (fun j => Nat.testBit R j) rs 0 10 hn (fun j => by rw [Nat.zero_add, h j]; cases rs[j]? <;> rfl)
  unfold place Kp205.first
  rw [List.range_eq_range', e]
  cases rs.findIdx? fun r => Kp205.holds r y <;> rfl
noncomputable def toldAll (rs : List Rule) : List Nat := 0 :: rs.map fun r => r.outcome + 1
theorem told_decided {rs : List Rule} {y : List Nat} {R : Nat} (hn : rs.length ≤ 10) (h : ∀ j, Nat.testBit R j = match rs[j]? with | some r => Kp205.holds r y | none => false) :
    (toldAll rs)[place R]? = some (Kp205.decided rs y) := by
  rw [place_first hn h]
  unfold Kp205.decided toldAll
  cases e : Kp205.first rs y with
  | none => rfl
  | some k =>
    unfold Kp205.first at e
    obtain ⟨hk, _⟩ := List.findIdx?_eq_some_iff_getElem.mp e
    have hg : rs[k]? = some rs[k] := List.getElem?_eq_getElem hk
    simp only [List.getElem?_cons_succ, List.getElem?_map, hg, Kp205.outcomeOf]
    rfl
noncomputable def pick (fb : Nat) : Nat → List Nat → List Nat
  | _, [] => []
  | o, x :: l => if Nat.testBit fb o then x :: pick fb (o + 1) l else pick fb (o + 1) l
theorem pick_merge (fb : Nat) : ∀ (c ns : List Nat) (o : Nat), ns.length = (freeFrom fb o c).length → pick fb o (merge fb o c ns) = ns
  | [], ns, o, h => by
    have : ns = [] := List.length_eq_zero_iff.mp (by simpa [freeFrom] using h)
    subst this
    rfl
  | x :: c, ns, o, h => by
    unfold freeFrom at h
    unfold merge
    by_cases hb : Nat.testBit fb o = true
    · simp only [hb, if_true] at h ⊢
      cases ns with
      | nil => simp at h
      | cons n ns =>
        have ih := pick_merge fb c ns (o + 1) (by simpa using h)
        simp only [pick, hb, if_true, ih]
    · simp only [hb] at h ⊢
      have ih := pick_merge fb c ns (o + 1) h
      simp only [Bool.false_eq_true, if_false, pick, hb, ih]
theorem merge_pick (fb : Nat) : ∀ (c z : List Nat) (o : Nat), z.length = c.length → (∀ i : Nat, Nat.testBit fb (o + i) = false → z[i]? = c[i]?) → merge fb o c (pick fb o z) = z ∧ (pick fb o z).length = (freeFrom fb o c).length
  | [], z, o, hl, _ => by
    have : z = [] := List.length_eq_zero_iff.mp hl
    subst this
    exact ⟨rfl, rfl⟩
  | x :: c, [], o, hl, _ => by simp at hl
  | x :: c, v :: z, o, hl, h => by
    have ih := merge_pick fb c z (o + 1) (by simpa using hl) fun i hi => by
      have := h (i + 1) (by rw [show o + (i + 1) = o + 1 + i by omega]; exact hi)
      simpa using this
    unfold merge freeFrom
    by_cases hb : Nat.testBit fb o = true
    · simp only [pick, hb, if_true]
      exact ⟨by rw [ih.1], by simp [ih.2]⟩
    · have hx : v = x := by
        have := h 0 (by simpa using hb)
        simpa using this
      subst hx
      simp only [pick, hb]
      exact ⟨by rw [if_neg (by simp), if_neg (by simp), ih.1], by simpa using ih.2⟩
theorem lexle_pick (fb : Nat) : ∀ (y z : List Nat) (o : Nat), y.length = z.length → (∀ i : Nat, Nat.testBit fb (o + i) = false → y[i]? = z[i]?) → lexle (pick fb o y) (pick fb o z) → lexle y z
  | [], [], _, _, _, _ => trivial
  | [], _ :: _, _, h, _, _ => by simp at h
  | _ :: _, [], _, h, _, _ => by simp at h
  | a :: y, b :: z, o, hl, h, hp => by
    have ih := lexle_pick fb y z (o + 1) (by simpa using hl) fun i hi => by
      have := h (i + 1) (by rw [show o + (i + 1) = o + 1 + i by omega]; exact hi)
      simpa using this
    unfold pick at hp
    by_cases hb : Nat.testBit fb o = true
    · simp only [hb, if_true] at hp
      rcases hp with hp | ⟨e, hp⟩
      · exact .inl hp
      · exact .inr ⟨e, ih hp⟩
    · have hx : a = b := by
        have := h 0 (by simpa using hb)
        simpa using this
      simp only [hb] at hp
      exact .inr ⟨hx, ih hp⟩
theorem merge_held (fb : Nat) : ∀ (c ns : List Nat) (o i : Nat), Nat.testBit fb (o + i) = false → (merge fb o c ns)[i]? = c[i]?
  | [], ns, o, i, _ => rfl
  | x :: c, ns, o, 0, h => by
    unfold merge
    have hb : ¬ Nat.testBit fb o = true := by simpa using h
    rw [if_neg hb]
    rfl
  | x :: c, ns, o, i + 1, h => by
    have ih := fun ns => merge_held fb c ns (o + 1) i (by rw [show o + 1 + i = o + (i + 1) by omega]; exact h)
    unfold merge
    split
    · cases ns with
      | nil => simpa using ih []
      | cons n ns => simpa using ih ns
    · simpa using ih ns
theorem okV_length {tops : List Nat} : ∀ {fs ns : List Nat}, okV tops fs ns → ns.length = fs.length
  | [], [], _ => rfl
  | [], _ :: _, h => h.elim
  | _ :: _, [], h => h.elim
  | _ :: fs, _ :: ns, h => by simp [okV_length h.2]
theorem okV_iff {tops : List Nat} (fb : Nat) : ∀ (c ns : List Nat) (o : Nat), ns.length = (freeFrom fb o c).length → o + c.length = tops.length → (∀ i x t : Nat, c[i]? = some x → tops[o + i]? = some t → x ≤ t) →
    (okV tops (freeFrom fb o c) ns ↔ ∀ i x t : Nat, (merge fb o c ns)[i]? = some x → tops[o + i]? = some t → x ≤ t)
  | [], ns, o, h, _, _ => by
    have : ns = [] := List.length_eq_zero_iff.mp (by simpa [freeFrom] using h)
    subst this
    simp [freeFrom, merge, okV]
  | x :: c, ns, o, h, ho, hc => by
    have hc' : ∀ i y t : Nat, c[i]? = some y → tops[o + 1 + i]? = some t → y ≤ t := fun i y t a b => hc (i + 1) y t (by simpa using a) (by rw [show o + (i + 1) = o + 1 + i by omega]; exact b)
    have ho' : o + 1 + c.length = tops.length := by simp at ho; omega
    obtain ⟨t0, ht0⟩ : ∃ t, tops[o]? = some t := ⟨_, List.getElem?_eq_getElem (by simp at ho; omega)⟩
    unfold freeFrom at h ⊢
    unfold merge
    by_cases hb : Nat.testBit fb o = true
    · simp only [hb, if_true] at h ⊢
      cases ns with
      | nil => simp at h
      | cons n ns =>
        have ih := okV_iff fb c ns (o + 1) (by simpa using h) ho' hc'
        unfold okV
        rw [ih]
        constructor
        · rintro ⟨⟨t, ht, hn⟩, hr⟩ i y u hy hu
          cases i with
          | zero =>
            rw [Nat.add_zero, ht] at hu
            have : n = y := by simpa using hy
            have : t = u := Option.some.inj hu
            omega
          | succ i => exact hr i y u (by simpa using hy) (by rw [show o + 1 + i = o + (i + 1) by omega]; exact hu)
        · intro hr
          exact ⟨⟨t0, ht0, hr 0 n t0 rfl (by simpa using ht0)⟩, fun i y u hy hu => hr (i + 1) y u (by simpa using hy) (by rw [show o + (i + 1) = o + 1 + i by omega]; exact hu)⟩
    · simp only [hb] at h ⊢
      have ih := okV_iff fb c ns (o + 1) h ho' hc'
      simp only [Bool.false_eq_true, if_false]
      rw [ih]
      constructor
      · intro hr i y u hy hu
        cases i with
        | zero => exact hc 0 y u (by simpa using hy) hu
        | succ i => exact hr i y u (by simpa using hy) (by rw [show o + 1 + i = o + (i + 1) by omega]; exact hu)
      · intro hr i y u hy hu
        exact hr (i + 1) y u (by simpa using hy) (by rw [show o + (i + 1) = o + 1 + i by omega]; exact hu)
noncomputable def wantOf (rs : List Rule) (p : Nat → Bool) (n : Nat) : Bool := p ((toldAll rs).getD n 0)
noncomputable def earliest (rs : List Rule) (tops c : List Nat) (w : Nat → Bool) (fb : Nat) : Option (List Nat) :=
  (srch w (pcs rs tops) (freeFrom fb 0 c) (leftFrom rs fb 0 (2 ^ rs.length - 1) c)).map (merge fb 0 c)
theorem bits_merge {rs : List Rule} {tops c ns : List Nat} {fb : Nat} (hr : okRules tops rs) (hc : isCase tops c) (hn : ns.length = (freeFrom fb 0 c).length) (j : Nat) :
    Nat.testBit (rem rs (freeFrom fb 0 c) ns (leftFrom rs fb 0 (2 ^ rs.length - 1) c)) j = match rs[j]? with | some r => Kp205.holds r (merge fb 0 c ns) | none => false := by
  rw [testBit_rem, testBit_leftFrom, Nat.testBit_two_pow_sub_one, Bool.and_assoc, ← allAt_merge rs fb j c ns 0 hn]
  cases hj : rs[j]? with
  | none =>
    have : ¬ j < rs.length := by
      have := List.getElem?_eq_none_iff.mp hj
      omega
    simp [this]
  | some r =>
    have h1 : j < rs.length := (List.getElem?_eq_some_iff.mp hj).1
    show _ = Kp205.holds r (merge fb 0 c ns)
    rw [holds_eq hj (by rw [merge_length, hc.1]; exact (hr r (List.mem_of_getElem? hj)).1)]
    simp [h1]
theorem want_merge {rs : List Rule} {tops c ns : List Nat} {fb : Nat} (p : Nat → Bool) (hr : okRules tops rs) (h10 : rs.length ≤ 10) (hc : isCase tops c) (hn : ns.length = (freeFrom fb 0 c).length) :
    wantOf rs p (place (rem rs (freeFrom fb 0 c) ns (leftFrom rs fb 0 (2 ^ rs.length - 1) c))) = p (Kp205.decided rs (merge fb 0 c ns)) := by
  unfold wantOf
  rw [List.getD_eq_getElem?_getD, told_decided h10 (bits_merge hr hc hn)]
  rfl
theorem like_merge {tops c ns : List Nat} {fb s : Nat} (hc : isCase tops c) (hs : ∀ i, i < tops.length → Nat.testBit s i = !Nat.testBit fb i) (hv : okV tops (freeFrom fb 0 c) ns) : like s tops c (merge fb 0 c ns) := by
  have h := (okV_iff (tops := tops) fb c ns 0 (okV_length hv) (by rw [Nat.zero_add]; exact hc.1) (fun i x t a b => hc.2 i x t a (by simpa using b))).mp hv
  refine ⟨⟨by rw [merge_length]; exact hc.1, fun i x t a b => h i x t a (by simpa using b)⟩, fun i hi hb => ?_⟩
  rw [hs i hi] at hb
  exact merge_held fb c ns 0 i (by rw [Nat.zero_add]; simpa using hb)
theorem earliest_find {rs : List Rule} {tops c : List Nat} {fb s : Nat} (p : Nat → Bool) (hr : okRules tops rs) (h10 : rs.length ≤ 10) (hc : isCase tops c) (hs : ∀ i, i < tops.length → Nat.testBit s i = !Nat.testBit fb i) :
    earliest rs tops c (wantOf rs p) fb = Kp208.find ⟨tops, rs⟩ s c (fun l => p (Kp205.byThese rs l)) := by
  have g := srch_spec hr (wantOf rs p) (freeFrom fb 0 c) (leftFrom rs fb 0 (2 ^ rs.length - 1) c) (fun k hk => by
    have := (mem_freeFrom hk).2.1
    have e := hc.1
    omega)
  have back : ∀ z, like s tops c z → merge fb 0 c (pick fb 0 z) = z ∧ okV tops (freeFrom fb 0 c) (pick fb 0 z) := fun z hz => by
    have m := merge_pick fb c z 0 (hz.1.1.trans hc.1.symm) fun i hi => by
      rw [Nat.zero_add] at hi
      by_cases hlt : i < tops.length
      · exact hz.2 i hlt (by rw [hs i hlt, hi]; rfl)
      · have h1 : z[i]? = none := List.getElem?_eq_none_iff.mpr (by have := hz.1.1; omega)
        have h2 : c[i]? = none := List.getElem?_eq_none_iff.mpr (by have := hc.1; omega)
        rw [h1, h2]
    refine ⟨m.1, (okV_iff (tops := tops) fb c _ 0 m.2 (by rw [Nat.zero_add]; exact hc.1) (fun i x t a b => hc.2 i x t a (by simpa using b))).mpr fun i x t a b => ?_⟩
    rw [m.1] at a
    exact hz.1.2 i x t a (by simpa using b)
  unfold earliest
  cases e : srch (wantOf rs p) (pcs rs tops) (freeFrom fb 0 c) (leftFrom rs fb 0 (2 ^ rs.length - 1) c) with
  | none =>
    refine (SS.find_eq_none (h := ⟨tops, rs⟩) hr hc fun z hz => ?_).symm
    obtain ⟨m1, m2⟩ := back z hz
    have := g.2 e _ m2
    rw [want_merge p hr h10 hc (okV_length m2), m1] at this
    exact this
  | some ns =>
    obtain ⟨g1, g2, g3⟩ := g.1 ns e
    refine (SS.find_eq_some (h := ⟨tops, rs⟩) hr hc (like_merge hc hs g1) ?_ fun z hz hp => ?_).symm
    · rw [← want_merge p hr h10 hc (okV_length g1)]; exact g2
    · obtain ⟨m1, m2⟩ := back z hz
      have q := g3 _ m2 (by rw [want_merge p hr h10 hc (okV_length m2), m1]; exact hp)
      refine lexle_pick fb _ z 0 (by rw [merge_length]; exact hc.1.trans hz.1.1.symm) (fun i hi => ?_) (by rw [pick_merge fb c ns 0 (okV_length g1)]; exact q)
      rw [merge_held fb c ns 0 i hi]
      by_cases hlt : i < tops.length
      · rw [Nat.zero_add] at hi
        exact (hz.2 i hlt (by rw [hs i hlt, hi]; rfl)).symm
      · have h1 : z[i]? = none := List.getElem?_eq_none_iff.mpr (by have e1 : z.length = tops.length := hz.1.1; omega)
        have h2 : c[i]? = none := List.getElem?_eq_none_iff.mpr (by have e1 : c.length = tops.length := hc.1; omega)
        rw [h1, h2]
end MA
end
section
/- The calls as the program answers them. Core Lean alone. -/
namespace MA
open Kp205 (Bound Rule)
open SS (lexle okRules isCase like)
noncomputable def leastAcc (acc : List Nat) (s : Nat) : List Nat := if acc.any (fun r => (r &&& s) == r) then acc else acc ++ [s]
noncomputable def leastOf (l : List Nat) : List Nat := l.foldl leastAcc []
theorem minimal_acc (p : Nat → Bool) : ∀ (l acc : List Nat), l.foldl (fun (a : List Nat) (s : Nat) => if p s && !a.any fun r => Kp208.inside r s then a ++ [s] else a) acc = (l.filter p).foldl leastAcc acc
  | [], _ => rfl
  | s :: l, acc => by
    rw [List.foldl_cons, List.filter_cons]
    cases hp : p s with
    | false =>
      rw [if_neg (by simp), if_neg (by simp)]
      exact minimal_acc p l acc
    | true =>
      rw [if_pos rfl, List.foldl_cons, minimal_acc p l]
      congr 1
      unfold leastAcc
      have e : (acc.any fun r => Kp208.inside r s) = acc.any (fun r => (r &&& s) == r) := rfl
      rw [← e]
      cases acc.any fun r => Kp208.inside r s <;> rfl
theorem minimal_eq (h : Kp208.House) (p : Nat → Bool) : Kp208.minimal h p = leastOf ((Kp208.sets h).filter p) := minimal_acc p _ []
noncomputable def setsN (n : Nat) : List Nat := (List.range (n + 1)).flatMap fun m => (List.range (2 ^ n)).filter fun s => Kp208.size s == m
theorem two_pos (n : Nat) : 0 < 2 ^ n := Nat.two_pow_pos n
theorem sets_eq (h : Kp208.House) : Kp208.sets h = setsN h.tops.length := by
  unfold Kp208.sets setsN Kp208.full
  have := two_pos h.tops.length
  rw [show 2 ^ h.tops.length - 1 + 1 = 2 ^ h.tops.length by omega]
theorem mem_setsN {n s : Nat} (h : s ∈ setsN n) : s < 2 ^ n := by
  unfold setsN at h
  obtain ⟨m, _, hs⟩ := List.mem_flatMap.mp h
  exact List.mem_range.mp (List.mem_filter.mp hs).1
theorem testBit_rest {n s i : Nat} (hs : s < 2 ^ n) (hi : i < n) : Nat.testBit (2 ^ n - 1 - s) i = !Nat.testBit s i := by
  have e : 2 ^ n - 1 - s = 2 ^ n - (s + 1) := by omega
  rw [e, Nat.testBit_two_pow_sub_succ hs]
  simp [hi]
theorem testBit_rest' {n s i : Nat} (hs : s < 2 ^ n) (hi : i < n) : Nat.testBit s i = !Nat.testBit (2 ^ n - 1 - s) i := by
  rw [testBit_rest hs hi, Bool.not_not]
theorem full_land {n s : Nat} (hs : s < 2 ^ n) : Nat.land (2 ^ n - 1) s = s := by
  have : (2 ^ n - 1) &&& s = s := by
    rw [Nat.and_comm, Nat.and_two_pow_sub_one_eq_mod, Nat.mod_eq_of_lt hs]
  exact this
structure OkH (h : Kp208.House) : Prop where
  one : 1 ≤ h.tops.length
  four : h.tops.length ≤ 4
  ten : h.rules.length ≤ 10
  rules : okRules h.tops h.rules
theorem good_iff {h : Kp208.House} {c : List Nat} : Kp208.good h c = true ↔ isCase h.tops c := by
  unfold Kp208.good Kp205.goodCase Kp208.asTable isCase
  dsimp only
  rw [Bool.and_eq_true, beq_iff_eq, List.all_eq_true]
  constructor
  · rintro ⟨h1, h2⟩
    refine ⟨h1, fun i x t hx ht => ?_⟩
    have : (x, t) ∈ c.zip h.tops := by
      rw [List.mem_iff_getElem?]
      exact ⟨i, by rw [List.getElem?_zip_eq_some]; exact ⟨hx, ht⟩⟩
    simpa using h2 _ this
  · rintro ⟨h1, h2⟩
    refine ⟨h1, fun p hp => ?_⟩
    obtain ⟨i, hi⟩ := List.mem_iff_getElem?.mp hp
    obtain ⟨a, b⟩ := List.getElem?_zip_eq_some.mp hi
    simpa using h2 i _ _ a b
noncomputable def here (h : Kp208.House) (c : List Nat) : Nat := Kp205.decided h.rules c
noncomputable def otherW (h : Kp208.House) (c : List Nat) : Nat → Bool := wantOf h.rules fun n => n != here h c
theorem otherwise_eq {h : Kp208.House} {c : List Nat} {s fb : Nat} (ok : OkH h) (hc : isCase h.tops c) (hs : ∀ i, i < h.tops.length → Nat.testBit s i = !Nat.testBit fb i) :
    Kp208.otherwise_ h s c = earliest h.rules h.tops c (otherW h c) fb := (earliest_find (fun n => n != here h c) ok.rules ok.ten hc hs).symm
theorem forces_eq {h : Kp208.House} {c : List Nat} {s : Nat} (ok : OkH h) (hc : isCase h.tops c) (hs : s < 2 ^ h.tops.length) :
    Kp208.otherwise_ h s c = earliest h.rules h.tops c (otherW h c) (2 ^ h.tops.length - 1 - s) := otherwise_eq ok hc fun _ hi => testBit_rest' hs hi
theorem reasons_eq {h : Kp208.House} {c : List Nat} (ok : OkH h) (hc : isCase h.tops c) :
    Kp208.reasons h c = leastOf ((setsN h.tops.length).filter fun s => (earliest h.rules h.tops c (otherW h c) (2 ^ h.tops.length - 1 - s)).isNone) := by
  unfold Kp208.reasons
  rw [minimal_eq, sets_eq]
  congr 1
  refine List.filter_congr fun s hs => ?_
  unfold Kp208.forces
  rw [forces_eq ok hc (mem_setsN hs)]
theorem contrasts_eq {h : Kp208.House} {c : List Nat} (ok : OkH h) (hc : isCase h.tops c) :
    Kp208.contrasts h c = leastOf ((setsN h.tops.length).filter fun s => (earliest h.rules h.tops c (otherW h c) s).isSome) := by
  unfold Kp208.contrasts
  rw [minimal_eq, sets_eq]
  congr 1
  refine List.filter_congr fun s hs => ?_
  have hs' := mem_setsN hs
  unfold Kp208.opens Kp208.full
  rw [full_land hs', otherwise_eq ok hc fun i hi => testBit_rest hs' hi]
noncomputable def wayW (h : Kp208.House) (t : Nat) : Nat → Bool := wantOf h.rules fun n => n == t
theorem way_eq {h : Kp208.House} {c : List Nat} {t : Nat} (ok : OkH h) (hc : isCase h.tops c) :
    Kp208.way h t c = (setsN h.tops.length).findSome? fun s => (earliest h.rules h.tops c (wayW h t) s).map fun x => (s, x) := by
  unfold Kp208.way
  rw [sets_eq]
  have : ∀ l : List Nat, (∀ s ∈ l, s < 2 ^ h.tops.length) → (l.findSome? fun s => (Kp208.find h (Kp208.full h - s) c fun l => Kp205.byThese h.rules l == t).map fun x => (s, x)) = l.findSome? fun s => (earliest h.rules h.tops c (wayW h t) s).map fun x => (s, x) := by
    intro l
    induction l with
    | nil => intro _; rfl
    | cons s l ih =>
      intro hl
      rw [List.findSome?_cons, List.findSome?_cons, ih fun x hx => hl x (List.mem_cons_of_mem _ hx)]
      have e := earliest_find (s := Kp208.full h - s) (fb := s) (fun n => n == t) ok.rules ok.ten hc fun i hi => testBit_rest (hl s (List.mem_cons_self ..)) hi
      have e' : Kp208.find h (Kp208.full h - s) c (fun l => Kp205.byThese h.rules l == t) = earliest h.rules h.tops c (wayW h t) s := e.symm
      rw [e']
  exact this _ fun s hs => mem_setsN hs
theorem as_eq {h : Kp208.House} {c : Kp205.Call} {X : Kp205.House} {a : Kp205.Ans} (e : Kp205.step (some (Kp208.asTable h)) c = (some X, a)) : Kp208.as h c = (some ⟨h.tops, X.rules⟩, ⟨a.num, a.nums⟩) := by
  unfold Kp208.as
  rw [e]
theorem neutral_eq {s : Kp208.State} {c : Kp208Neutral.Call} {x : Kp208.Call} {s' : Kp208.State} {a : Kp208.Ans} (hc : Kp208Neutral.callOf c = some x) (e : Kp208.step s x = (s', a)) : Kp208Neutral.step s c = (s', a.num :: Kp208Neutral.outs a.nums) := by
  unfold Kp208Neutral.step
  rw [hc]
  show ((Kp208.step s x).1, (Kp208.step s x).2.num :: Kp208Neutral.outs (Kp208.step s x).2.nums) = _
  rw [e]
theorem neutral_as {h : Kp208.House} {c : Kp208Neutral.Call} {x : Kp208.Call} (x5 : Kp205.Call) (X : Kp205.House) (a : Kp205.Ans) (hc : Kp208Neutral.callOf c = some x) (hx : Kp208.step (some h) x = Kp208.as h x5) (e : Kp205.step (some (Kp208.asTable h)) x5 = (some X, a)) :
    Kp208Neutral.step (some h) c = (some ⟨h.tops, X.rules⟩, a.num :: Kp208Neutral.outs a.nums) := neutral_eq hc (hx.trans (as_eq e))
noncomputable def I (l : List Nat) : List Int := Kp208Neutral.outs l
noncomputable def ansDecide (h : Kp208.House) (c : List Nat) : List Int := if Kp208.good h c = false then [-22] else match Kp205.first h.rules c with
  | some k => [1, (Kp205.outcomeOf h.rules k : Int), (k : Int)]
  | none => [0]
noncomputable def ansForces (h : Kp208.House) (s : Nat) (c : List Nat) : List Int := if Kp208.good h c = false ∨ 2 ^ h.tops.length - 1 < s then [-22] else match earliest h.rules h.tops c (otherW h c) (2 ^ h.tops.length - 1 - s) with
  | none => [1]
  | some y => 0 :: I y
noncomputable def ansReasons (h : Kp208.House) (c : List Nat) : List Int := if Kp208.good h c = false then [-22] else
  let l := leastOf ((setsN h.tops.length).filter fun s => (earliest h.rules h.tops c (otherW h c) (2 ^ h.tops.length - 1 - s)).isNone)
  (l.length : Int) :: I l
noncomputable def ansContrasts (h : Kp208.House) (c : List Nat) : List Int := if Kp208.good h c = false then [-22] else
  let l := leastOf ((setsN h.tops.length).filter fun s => (earliest h.rules h.tops c (otherW h c) s).isSome)
  (l.length : Int) :: I l
noncomputable def ansWay (h : Kp208.House) (t : Nat) (c : List Nat) : List Int := if Kp208.good h c = false ∨ 256 < t then [-22] else match (setsN h.tops.length).findSome? fun s => (earliest h.rules h.tops c (wayW h t) s).map fun x => (s, x) with
  | none => [-33]
  | some y => (Kp208.size y.1 : Int) :: (y.1 : Int) :: I y.2
theorem step_decide (h : Kp208.House) (r : List Int) : Kp208Neutral.step (some h) [[4], r] = (some h, ansDecide h (r.map Int.toNat)) := by
  have e : ∀ a : Kp205.Ans, (if Kp205.goodCase (Kp208.asTable h) (r.map Int.toNat) = false then Kp205.say (-22) else match Kp205.first h.rules (r.map Int.toNat) with
          | some k => ⟨1, [Kp205.outcomeOf h.rules k, k]⟩
          | none => Kp205.say 0) = a → Kp208Neutral.step (some h) [[4], r] = (some h, a.num :: Kp208Neutral.outs a.nums) := fun a ha =>
    neutral_as (h := h) (c := [[4], r]) (x := .decide_ (r.map Int.toNat)) (.decide_ (r.map Int.toNat)) (Kp208.asTable h) a rfl rfl (Prod.ext rfl ha)
  rw [e _ rfl]
  unfold ansDecide Kp208.good
  by_cases hg : Kp205.goodCase (Kp208.asTable h) (r.map Int.toNat) = false
  · rw [if_pos hg, if_pos hg]
    rfl
  · rw [if_neg hg, if_neg hg]
    cases Kp205.first h.rules (r.map Int.toNat) <;> rfl
theorem step_forces {h : Kp208.House} (ok : OkH h) (s : Int) (r : List Int) : Kp208Neutral.step (some h) [[5, s], r] = (some h, ansForces h s.toNat (r.map Int.toNat)) := by
  unfold Kp208Neutral.step
  show ((Kp208.step (some h) (.forces s.toNat (r.map Int.toNat))).1, (Kp208.step (some h) (.forces s.toNat (r.map Int.toNat))).2.num :: Kp208Neutral.outs (Kp208.step (some h) (.forces s.toNat (r.map Int.toNat))).2.nums) = _
  unfold ansForces
  simp only [Kp208.step]
  by_cases hg : Kp208.good h (r.map Int.toNat) = false ∨ 2 ^ h.tops.length - 1 < s.toNat
  · rw [if_pos hg, if_pos (show Kp208.good h (r.map Int.toNat) = false ∨ Kp208.full h < s.toNat from hg)]
    rfl
  · rw [if_neg hg, if_neg (show ¬ (Kp208.good h (r.map Int.toNat) = false ∨ Kp208.full h < s.toNat) from hg)]
    have h1 : isCase h.tops (r.map Int.toNat) := good_iff.mp (by simpa using fun q => hg (.inl q))
    have h2 : s.toNat < 2 ^ h.tops.length := by
      have := two_pos h.tops.length
      have : ¬ 2 ^ h.tops.length - 1 < s.toNat := fun q => hg (.inr q)
      omega
    rw [forces_eq ok h1 h2]
    cases earliest h.rules h.tops (r.map Int.toNat) (otherW h (r.map Int.toNat)) (2 ^ h.tops.length - 1 - s.toNat) <;> rfl
theorem step_reasons {h : Kp208.House} (ok : OkH h) (r : List Int) : Kp208Neutral.step (some h) [[6], r] = (some h, ansReasons h (r.map Int.toNat)) := by
  unfold Kp208Neutral.step
  show ((Kp208.step (some h) (.reasons (r.map Int.toNat))).1, (Kp208.step (some h) (.reasons (r.map Int.toNat))).2.num :: Kp208Neutral.outs (Kp208.step (some h) (.reasons (r.map Int.toNat))).2.nums) = _
  unfold ansReasons
  simp only [Kp208.step]
  cases hg : Kp208.good h (r.map Int.toNat) with
  | false => rfl
  | true =>
    rw [if_neg (by simp), if_neg (by simp), reasons_eq ok (good_iff.mp hg)]
    rfl
theorem step_contrasts {h : Kp208.House} (ok : OkH h) (r : List Int) : Kp208Neutral.step (some h) [[7], r] = (some h, ansContrasts h (r.map Int.toNat)) := by
  unfold Kp208Neutral.step
  show ((Kp208.step (some h) (.contrasts (r.map Int.toNat))).1, (Kp208.step (some h) (.contrasts (r.map Int.toNat))).2.num :: Kp208Neutral.outs (Kp208.step (some h) (.contrasts (r.map Int.toNat))).2.nums) = _
  unfold ansContrasts
  simp only [Kp208.step]
  cases hg : Kp208.good h (r.map Int.toNat) with
  | false => rfl
  | true =>
    rw [if_neg (by simp), if_neg (by simp), contrasts_eq ok (good_iff.mp hg)]
    rfl
theorem step_way {h : Kp208.House} (ok : OkH h) (t : Int) (r : List Int) : Kp208Neutral.step (some h) [[8, t], r] = (some h, ansWay h t.toNat (r.map Int.toNat)) := by
  unfold Kp208Neutral.step
  show ((Kp208.step (some h) (.way t.toNat (r.map Int.toNat))).1, (Kp208.step (some h) (.way t.toNat (r.map Int.toNat))).2.num :: Kp208Neutral.outs (Kp208.step (some h) (.way t.toNat (r.map Int.toNat))).2.nums) = _
  unfold ansWay
  simp only [Kp208.step]
  by_cases hg : Kp208.good h (r.map Int.toNat) = false ∨ 256 < t.toNat
  · rw [if_pos hg, if_pos (show Kp208.good h (r.map Int.toNat) = false ∨ Kp205.OUTCOMES < t.toNat from hg)]
    rfl
  · rw [if_neg hg, if_neg (show ¬ (Kp208.good h (r.map Int.toNat) = false ∨ Kp205.OUTCOMES < t.toNat) from hg)]
    have h1 : isCase h.tops (r.map Int.toNat) := good_iff.mp (by simpa using fun q => hg (.inl q))
    rw [way_eq ok h1]
    cases (setsN h.tops.length).findSome? fun s => (earliest h.rules h.tops (r.map Int.toNat) (wayW h t.toNat) s).map fun x => (s, x) <;> rfl
theorem step_begin (s : Kp208.State) (r : List Int) : Kp208Neutral.step s [[0], r] = if r.length < 1 ∨ 4 < r.length then (s, [-22]) else (some ⟨r.map Int.toNat, []⟩, [0]) := by
  unfold Kp208Neutral.step
  show ((Kp208.step s (.begin_ (r.map Int.toNat))).1, (Kp208.step s (.begin_ (r.map Int.toNat))).2.num :: Kp208Neutral.outs (Kp208.step s (.begin_ (r.map Int.toNat))).2.nums) = _
  simp only [Kp208.step]
  by_cases hg : r.length < 1 ∨ 4 < r.length
  · rw [if_pos hg, if_pos (show (r.map Int.toNat).isEmpty = true ∨ Kp205.INPUTS < (r.map Int.toNat).length by
      rcases hg with q | q
      · have : r = [] := List.length_eq_zero_iff.mp (by omega)
        subst this; exact .inl rfl
      · exact .inr (by rw [List.length_map]; exact q))]
    rfl
  · rw [if_neg hg, if_neg (show ¬ ((r.map Int.toNat).isEmpty = true ∨ Kp205.INPUTS < (r.map Int.toNat).length) by
      rintro (q | q)
      · cases r with
        | nil => exact hg (.inl (by simp))
        | cons _ _ => simp at q
      · rw [List.length_map] at q; exact hg (.inr q))]
    rfl
noncomputable def pairsOf : List Int → List Bound
  | a :: b :: r => ⟨a.toNat, b.toNat⟩ :: pairsOf r
  | _ => []
theorem chunks_pairs : ∀ (f : Nat) (r : List Int), r.length % 2 = 0 → r.length ≤ f → (Kp208Neutral.chunksBy 2 f r).map (fun l => (⟨(l.getD 0 0).toNat, (l.getD 1 0).toNat⟩ : Bound)) = pairsOf r
  | 0, [], _, _ => rfl
  | 0, _ :: _, _, h => by simp at h
  | f + 1, [], _, _ => rfl
  | f + 1, [a], h, _ => by simp at h
  | f + 1, a :: b :: r, h, hf => by
    have ih := chunks_pairs f r (by simp at h; omega) (by simp at hf; omega)
    show _ :: (Kp208Neutral.chunksBy 2 f r).map _ = _
    rw [ih]
    rfl
theorem pairsOf_length : ∀ r : List Int, (pairsOf r).length = r.length / 2
  | [] => rfl
  | [_] => by simp [pairsOf]
  | a :: b :: r => by
    have := pairsOf_length r
    simp only [pairsOf, List.length_cons, this]
    omega
theorem pairsOf_get : ∀ (r : List Int) (i : Nat) (a b : Int), r[2 * i]? = some a → r[2 * i + 1]? = some b → (pairsOf r)[i]? = some ⟨a.toNat, b.toNat⟩
  | [], i, a, b, h, _ => by simp at h
  | [x], i, a, b, _, h => by simp at h
  | x :: y :: r, 0, a, b, h1, h2 => by
    have e1 : x = a := by simpa using h1
    have e2 : y = b := by simpa using h2
    subst e1 e2
    rfl
  | x :: y :: r, i + 1, a, b, h1, h2 => by
    have := pairsOf_get r i a b (by rw [show 2 * (i + 1) = 2 * i + 1 + 1 by omega] at h1; simpa using h1) (by rw [show 2 * (i + 1) + 1 = 2 * i + 1 + 1 + 1 by omega] at h2; simpa using h2)
    simpa [pairsOf] using this
noncomputable def fitB (tops : List Nat) (bs : List Bound) : Bool := bs.length == tops.length && (bs.zip tops).all fun x => decide (x.1.lo ≤ x.1.hi) && decide (x.1.hi ≤ x.2)
noncomputable def newRule (h : Kp208.House) (o : Nat) (bs : List Bound) : Kp208.House × List Int :=
  if 256 ≤ o ∨ fitB h.tops bs = false then (h, [-22]) else if 10 ≤ h.rules.length then (h, [-28]) else (⟨h.tops, h.rules ++ [⟨bs, o⟩]⟩, [(h.rules.length : Int)])
theorem step_rule (h : Kp208.House) (o : Int) (r : List Int) (he : r.length % 2 = 0) : Kp208Neutral.step (some h) [[1, o], r] = (some (newRule h o.toNat (pairsOf r)).1, (newRule h o.toNat (pairsOf r)).2) := by
  have hc : Kp208Neutral.callOf [[1, o], r] = some (.rule o.toNat (pairsOf r)) := by
    rw [← chunks_pairs r.length r he (Nat.le_refl _)]
    rfl
  unfold newRule
  by_cases hg : 256 ≤ o.toNat ∨ fitB h.tops (pairsOf r) = false
  · rw [if_pos hg]
    exact neutral_as (h := h) (.rule o.toNat (pairsOf r)) (Kp208.asTable h) ⟨-22, []⟩ hc rfl (if_pos hg)
  · rw [if_neg hg]
    by_cases hl : 10 ≤ h.rules.length
    · rw [if_pos hl]
      exact neutral_as (h := h) (.rule o.toNat (pairsOf r)) (Kp208.asTable h) ⟨-28, []⟩ hc rfl ((if_neg hg).trans (if_pos hl))
    · rw [if_neg hl]
      exact neutral_as (h := h) (.rule o.toNat (pairsOf r)) ⟨h.tops, h.rules ++ [(⟨pairsOf r, o.toNat⟩ : Rule)], []⟩ ⟨(h.rules.length : Int), []⟩ hc rfl ((if_neg hg).trans (if_neg (show ¬ Kp205.RULES ≤ (Kp208.asTable h).rules.length from hl)))
noncomputable def dropRule (h : Kp208.House) (k : Nat) : Kp208.House × List Int := if h.rules.length ≤ k then (h, [-2]) else (⟨h.tops, h.rules.eraseIdx k⟩, [((h.rules.length - 1 : Nat) : Int)])
theorem step_drop (h : Kp208.House) (k : Int) : Kp208Neutral.step (some h) [[2, k]] = (some (dropRule h k.toNat).1, (dropRule h k.toNat).2) := by
  have hc : Kp208Neutral.callOf [[2, k]] = some (.drop k.toNat) := rfl
  unfold dropRule
  by_cases hg : h.rules.length ≤ k.toNat
  · rw [if_pos hg]
    exact neutral_as (h := h) (.drop k.toNat) (Kp208.asTable h) ⟨-2, []⟩ hc rfl (if_pos hg)
  · rw [if_neg hg, List.eraseIdx_eq_take_drop_succ]
    exact neutral_as (h := h) (.drop k.toNat) ⟨h.tops, h.rules.take k.toNat ++ h.rules.drop (k.toNat + 1), []⟩ ⟨((h.rules.length - 1 : Nat) : Int), []⟩ hc rfl (if_neg hg)
noncomputable def moveRule (h : Kp208.House) (k t : Nat) : Kp208.House × List Int := match h.rules[k]? with
  | none => (h, [-2])
  | some r => if h.rules.length ≤ t then (h, [-22]) else (⟨h.tops, (h.rules.eraseIdx k).take t ++ r :: (h.rules.eraseIdx k).drop t⟩, [0])
theorem step_move (h : Kp208.House) (k t : Int) : Kp208Neutral.step (some h) [[3, k, t]] = (some (moveRule h k.toNat t.toNat).1, (moveRule h k.toNat t.toNat).2) := by
  have hc : Kp208Neutral.callOf [[3, k, t]] = some (.move k.toNat t.toNat) := rfl
  have e5 : Kp205.step (some (Kp208.asTable h)) (.move k.toNat t.toNat) = (match h.rules[k.toNat]? with
        | none => (some (Kp208.asTable h), Kp205.say (-2))
        | some r => if h.rules.length ≤ t.toNat then (some (Kp208.asTable h), Kp205.say (-22)) else
            (some { (Kp208.asTable h) with rules := (h.rules.take k.toNat ++ h.rules.drop (k.toNat + 1)).take t.toNat ++ r :: (h.rules.take k.toNat ++ h.rules.drop (k.toNat + 1)).drop t.toNat }, Kp205.say 0)) := rfl
  unfold moveRule
  cases hr : h.rules[k.toNat]? with
  | none =>
    rw [hr] at e5
    exact neutral_as (h := h) (.move k.toNat t.toNat) (Kp208.asTable h) ⟨-2, []⟩ hc rfl e5
  | some r =>
    rw [hr] at e5
    dsimp only at e5 ⊢
    by_cases hg : h.rules.length ≤ t.toNat
    · rw [if_pos hg] at e5 ⊢
      exact neutral_as (h := h) (.move k.toNat t.toNat) (Kp208.asTable h) ⟨-22, []⟩ hc rfl e5
    · rw [if_neg hg] at e5 ⊢
      rw [List.eraseIdx_eq_take_drop_succ]
      exact neutral_as (h := h) (.move k.toNat t.toNat) _ ⟨0, []⟩ hc rfl e5
theorem fitB_ok {tops : List Nat} {bs : List Bound} (h : fitB tops bs = true) : bs.length = tops.length ∧ ∀ (i : Nat) (b : Bound) (t : Nat), bs[i]? = some b → tops[i]? = some t → b.lo ≤ t := by
  unfold fitB at h
  rw [Bool.and_eq_true, beq_iff_eq, List.all_eq_true] at h
  refine ⟨h.1, fun i b t hb ht => ?_⟩
  have : (b, t) ∈ bs.zip tops := by
    rw [List.mem_iff_getElem?]
    exact ⟨i, by rw [List.getElem?_zip_eq_some]; exact ⟨hb, ht⟩⟩
  have q := h.2 _ this
  rw [Bool.and_eq_true, decide_eq_true_eq, decide_eq_true_eq] at q
  have q1 : b.lo ≤ b.hi := q.1
  have q2 : b.hi ≤ t := q.2
  omega
theorem ok_begin {r : List Int} (h : ¬ (r.length < 1 ∨ 4 < r.length)) : OkH ⟨r.map Int.toNat, []⟩ :=
  ⟨by simp; omega, by simp; omega, by simp, fun _ hr => by cases hr⟩
theorem ok_rule {h : Kp208.House} (ok : OkH h) (o : Nat) (bs : List Bound) : OkH (newRule h o bs).1 := by
  unfold newRule
  split
  · exact ok
  · rename_i hg
    split
    · exact ok
    · rename_i hl
      have hf : fitB h.tops bs = true := by
        cases q : fitB h.tops bs with
        | true => rfl
        | false => exact absurd (.inr q) hg
      refine ⟨ok.one, ok.four, by simp; omega, fun r hr => ?_⟩
      rcases List.mem_append.mp hr with hr | hr
      · exact ok.rules r hr
      · have : r = ⟨bs, o⟩ := by simpa using hr
        subst this
        exact fitB_ok hf
theorem ok_drop {h : Kp208.House} (ok : OkH h) (k : Nat) : OkH (dropRule h k).1 := by
  unfold dropRule
  split
  · exact ok
  · exact ⟨ok.one, ok.four, Nat.le_trans (List.length_eraseIdx_le ..) ok.ten, fun r hr => ok.rules r (List.mem_of_mem_eraseIdx hr)⟩
theorem ok_move {h : Kp208.House} (ok : OkH h) (k t : Nat) : OkH (moveRule h k t).1 := by
  unfold moveRule
  split
  · exact ok
  · rename_i r e
    split
    · exact ok
    · have hk : k < h.rules.length := (List.getElem?_eq_some_iff.mp e).1
      refine ⟨ok.one, ok.four, ?_, fun q hq => ?_⟩
      · have := ok.ten
        show ((h.rules.eraseIdx k).take t ++ r :: (h.rules.eraseIdx k).drop t).length ≤ 10
        rw [List.length_append, List.length_cons, List.length_take, List.length_drop, List.length_eraseIdx_of_lt hk]
        omega
      · rcases List.mem_append.mp hq with hq | hq
        · exact ok.rules q (List.mem_of_mem_eraseIdx (List.mem_of_mem_take hq))
        · rcases List.mem_cons.mp hq with rfl | hq
          · exact ok.rules _ (List.mem_of_getElem? e)
          · exact ok.rules q (List.mem_of_mem_eraseIdx (List.mem_of_mem_drop hq))
end MA
end
section
/- The places of a set's table rise, and stay so. -/
namespace SX
open PySem
noncomputable def Rise (xs : Array Nat) : Prop := xs.toList.Pairwise (· < ·)
theorem rise_get {xs : Array Nat} (h : Rise xs) {i j x y : Nat} (hij : i < j) (hi : xs[i]? = some x) (hj : xs[j]? = some y) : x < y := by
  obtain ⟨h1, e1⟩ := Array.getElem?_eq_some_iff.mp hi
  obtain ⟨h2, e2⟩ := Array.getElem?_eq_some_iff.mp hj
  have := List.pairwise_iff_getElem.mp h i j (by simpa using h1) (by simpa using h2) hij
  simp only [Array.getElem_toList] at this
  rw [e1, e2] at this
  exact this
theorem go_spec {xs : Array Nat} {j : Nat} (hr : Rise xs) : ∀ (f lo hi : Nat), hi ≤ xs.size → lo ≤ hi → hi - lo ≤ f →
    (∀ i x, i < lo → xs[i]? = some x → x < j) → (∀ i x, hi ≤ i → xs[i]? = some x → j ≤ x) →
    (∀ i x, i < SetTable.below.go xs j f lo hi → xs[i]? = some x → x < j) ∧ (∀ i x, SetTable.below.go xs j f lo hi ≤ i → xs[i]? = some x → j ≤ x) ∧ SetTable.below.go xs j f lo hi ≤ xs.size
  | 0, lo, hi, h1, h2, h3, a, b => by
    have e : lo = hi := by omega
    subst e
    exact ⟨a, b, h1⟩
  | f + 1, lo, hi, h1, h2, h3, a, b => by
    unfold SetTable.below.go
    by_cases hlt : lo < hi
    · rw [if_pos hlt]
      dsimp only
      have hm : (lo + hi) / 2 < xs.size := by omega
      have hg : xs[(lo + hi) / 2]? = some xs[(lo + hi) / 2] := Array.getElem?_eq_getElem hm
      have hd : xs.getD ((lo + hi) / 2) j = xs[(lo + hi) / 2] := by
        rw [Array.getD_eq_getD_getElem?, hg]
        rfl
      rw [hd]
      by_cases hx : xs[(lo + hi) / 2] < j
      · rw [if_pos hx]
        refine go_spec hr f _ hi h1 (by omega) (by omega) (fun i x hi' ex => ?_) b
        by_cases e : i = (lo + hi) / 2
        · subst e
          rw [hg] at ex
          cases ex
          exact hx
        · have := rise_get hr (show i < (lo + hi) / 2 by omega) ex hg
          omega
      · rw [if_neg hx]
        refine go_spec hr f lo _ (by omega) (by omega) (by omega) a (fun i x hi' ex => ?_)
        by_cases e : i = (lo + hi) / 2
        · subst e
          rw [hg] at ex
          cases ex
          omega
        · have := rise_get hr (show (lo + hi) / 2 < i by omega) hg ex
          omega
    · rw [if_neg hlt]
      have e : lo = hi := by omega
      subst e
      exact ⟨a, b, h1⟩
theorem below_spec {xs : Array Nat} (hr : Rise xs) (j : Nat) :
    (∀ i x, i < SetTable.below xs j → xs[i]? = some x → x < j) ∧ (∀ i x, SetTable.below xs j ≤ i → xs[i]? = some x → j ≤ x) ∧ SetTable.below xs j ≤ xs.size := by
  unfold SetTable.below
  refine go_spec hr xs.size 0 xs.size (Nat.le_refl _) (Nat.zero_le _) (by omega) (fun i x h => absurd h (Nat.not_lt_zero _)) (fun i x h e => ?_)
  have := (Array.getElem?_eq_some_iff.mp e).1
  omega
theorem below_next {xs : Array Nat} (hr : Rise xs) {i x : Nat} (e : xs[i]? = some x) : SetTable.below xs (x + 1) = i + 1 := by
  obtain ⟨h1, h2, h3⟩ := below_spec hr (x + 1)
  have hi := (Array.getElem?_eq_some_iff.mp e).1
  apply Nat.le_antisymm
  · apply Classical.byContradiction
    intro hn
    have hlt : i + 1 < xs.size := by omega
    have := h1 (i + 1) xs[i + 1] (by omega) (Array.getElem?_eq_getElem hlt)
    have := rise_get hr (Nat.lt_succ_self i) e (Array.getElem?_eq_getElem hlt)
    omega
  · apply Classical.byContradiction
    intro hn
    have := h2 i x (by omega) e
    omega
theorem below_zero {xs : Array Nat} (hr : Rise xs) : SetTable.below xs 0 = 0 := by
  obtain ⟨h1, h2, h3⟩ := below_spec hr 0
  apply Classical.byContradiction
  intro hn
  have hlt : 0 < xs.size := by omega
  have := h1 0 xs[0] (by omega) (Array.getElem?_eq_getElem hlt)
  omega
theorem insert_rise {xs : Array Nat} (hr : Rise xs) {j : Nat} (hn : j ∉ xs.toList) : Rise (SetTable.insertAt xs (SetTable.below xs j) j) := by
  obtain ⟨h1, h2, h3⟩ := below_spec hr j
  unfold Rise at hr ⊢
  rw [SetTable.toList_insertAt]
  have hr' := hr
  rw [← List.take_append_drop (SetTable.below xs j) xs.toList, List.pairwise_append] at hr'
  obtain ⟨p1, p2, p3⟩ := hr'
  rw [List.pairwise_append]
  refine ⟨p1, List.pairwise_cons.mpr ⟨fun y hy => ?_, p2⟩, fun x hx y hy => ?_⟩
  · obtain ⟨k, hk, e⟩ := List.mem_iff_getElem.mp hy
    have e' : xs[SetTable.below xs j + k]? = some y := by
      rw [← Array.getElem?_toList, ← List.getElem?_drop]
      exact List.getElem?_eq_some_iff.mpr ⟨hk, e⟩
    have q := h2 _ _ (Nat.le_add_right _ _) e'
    have : y ∈ xs.toList := List.mem_of_mem_drop hy
    have : j ≠ y := fun z => hn (z ▸ this)
    omega
  · have hx' : x < j := by
      obtain ⟨k, hk, e⟩ := List.mem_iff_getElem.mp hx
      rw [List.length_take] at hk
      have e' : xs[k]? = some x := by
        rw [← Array.getElem?_toList, ← List.getElem?_take_of_lt (show k < SetTable.below xs j by omega)]
        exact List.getElem?_eq_some_iff.mpr ⟨by rw [List.length_take]; omega, e⟩
      exact h1 k x (by omega) e'
    rcases List.mem_cons.mp hy with rfl | hy
    · exact hx'
    · exact p3 x hx y hy
theorem has_of_mem {xs : Array Nat} (hr : Rise xs) {j : Nat} (h : j ∈ xs.toList) : xs[SetTable.below xs j]? = some j := by
  obtain ⟨h1, h2, h3⟩ := below_spec hr j
  obtain ⟨k, hk, e⟩ := List.mem_iff_getElem.mp h
  have e' : xs[k]? = some j := by
    rw [← Array.getElem?_toList]
    exact List.getElem?_eq_some_iff.mpr ⟨hk, e⟩
  have : SetTable.below xs j = k := by
    apply Nat.le_antisymm
    · apply Classical.byContradiction
      intro hn
      have := h1 k j (by omega) e'
      omega
    · apply Classical.byContradiction
      intro hn
      have hlt : SetTable.below xs j < xs.size := by
        have := (Array.getElem?_eq_some_iff.mp e').1
        omega
      have q := h2 _ _ (Nat.le_refl _) (Array.getElem?_eq_getElem hlt)
      have q' := rise_get hr (show SetTable.below xs j < k by omega) (Array.getElem?_eq_getElem hlt) e'
      omega
  rw [this]
  exact e'
theorem not_mem_of_slot {t : SetTable} (hr : Rise t.place) {j : Nat} (h : ∀ i, t.slot j ≠ .live i) : j ∉ t.place.toList := fun hm => by
  have e := has_of_mem hr hm
  refine h (SetTable.below t.place j) ?_
  unfold SetTable.slot
  dsimp only
  rw [e, if_pos (by simp)]
theorem probe_free {t : SetTable} (hr : Rise t.place) (f : Nat → Int) (h : Int) : ∀ (n : Nat) (p : SetTable.Probe), (∀ d, p.dummy = some d → d ∉ t.place.toList) → ∀ j dm, SetTable.probe.go t f h n p = some (.empty j dm) → j ∉ t.place.toList ∧ ∀ d, dm = some d → d ∉ t.place.toList
  | 0, p, _, j, dm, e => by
    unfold SetTable.probe.go at e
    cases e
  | n + 1, p, hp, j, dm, e => by
    unfold SetTable.probe.go at e
    have adv : ∀ q : SetTable.Probe, (t.advance q).dummy = q.dummy := fun q => by
      unfold SetTable.advance
      split
      · rfl
      · rfl
    cases hs : t.slot p.j with
    | empty =>
      rw [hs] at e
      simp only [Option.some.injEq, SetTable.Met.empty.injEq] at e
      obtain ⟨e1, e2⟩ := e
      subst e1 e2
      exact ⟨not_mem_of_slot hr fun i q => (by rw [hs] at q; cases q), hp⟩
    | dummy =>
      rw [hs] at e
      refine probe_free hr f h n _ (fun d hd => ?_) j dm e
      rw [adv] at hd
      have : p.j = d := Option.some.inj hd
      subst this
      exact not_mem_of_slot hr fun i q => (by rw [hs] at q; cases q)
    | live i =>
      rw [hs] at e
      dsimp only at e
      split at e
      · cases e
      · refine probe_free hr f h n _ (fun d hd => ?_) j dm e
        rw [adv] at hd
        exact hp d hd
theorem freeSlot_free {t : SetTable} (hr : Rise t.place) {h : Int} {j : Nat} {b : Bool} (e : t.freeSlot h = some (j, b)) : j ∉ t.place.toList := by
  unfold SetTable.freeSlot at e
  split at e
  · rename_i jj dm hq
    have q := probe_free hr _ h _ _ (fun d hd => by cases hd) jj dm hq
    simp only [Option.some.injEq, Prod.mk.injEq] at e
    rw [← e.1]
    cases dm with
    | none => exact q.1
    | some d => exact q.2 d rfl
  · cases e
theorem range_rise (n : Nat) : Rise (Array.range n) := by
  unfold Rise
  rw [Array.toList_range]
  exact List.pairwise_lt_range
theorem standIn_rise (t : SetTable) (n : Nat) : Rise (t.standIn n).place := range_rise n
theorem layNew_rise {t : SetTable} (hr : Rise t.place) (es : Array (Int × Value)) (h : Int) (x : Value) : Rise (layNew t es h x).2.1.place ∧ (layNew t es h x).2.1.led = t.led := by
  unfold layNew
  split
  · rename_i slot wd e
    have hp : Rise (t.put slot).1.place := insert_rise hr (freeSlot_free hr e)
    dsimp only
    unfold SetTable.orStandIn
    split
    · exact ⟨hp, rfl⟩
    · exact ⟨standIn_rise _ _, rfl⟩
  · exact ⟨standIn_rise _ _, rfl⟩
theorem fst_filterMap (owner : Array (Option Nat)) : ∀ l : List Nat, l.Pairwise (· < ·) → ((l.filterMap fun j => (owner.getD j none).map (j, ·)).map (·.1)).Pairwise (· < ·)
  | [], _ => by simp
  | j :: l, h => by
    have h' := List.pairwise_cons.mp h
    have ih := fst_filterMap owner l h'.2
    rw [List.filterMap_cons]
    split
    · exact ih
    · rename_i b e
      obtain ⟨k, _, rfl⟩ := Option.map_eq_some_iff.mp e
      rw [List.map_cons, List.pairwise_cons]
      refine ⟨fun y hy => ?_, ih⟩
      obtain ⟨q, hq, rfl⟩ := List.mem_map.mp hy
      obtain ⟨i, hi, e2⟩ := List.mem_filterMap.mp hq
      obtain ⟨k2, _, rfl⟩ := Option.map_eq_some_iff.mp e2
      exact h'.1 i hi
theorem relayAll_rise {t : SetTable} (hr : Rise t.place) (es : Array (Int × Value)) (n : Nat) : Rise (relayAll t es n).2.1.place ∧ (relayAll t es n).2.1.led = t.led := by
  unfold relayAll
  split
  · rename_i t' order e
    dsimp only
    split
    · unfold SetTable.relaid SetTable.laid at e
      cases ho : SetTable.layClean (SetTable.sizeAbove n - 1) (Array.map (fun x => x.1) es) with
      | none =>
        rw [ho] at e
        cases e
      | some owner =>
        rw [ho] at e
        simp only [Option.bind_eq_bind, Option.bind_some, Option.pure_def, Option.some.injEq, Prod.mk.injEq] at e
        rw [← e.1]
        refine ⟨?_, rfl⟩
        unfold Rise
        exact fst_filterMap owner _ List.pairwise_lt_range
    · exact ⟨standIn_rise _ _, rfl⟩
  · exact ⟨standIn_rise _ _, rfl⟩
end SX
end
section
/- A set of ints that is filled one by one: its entries, its table. -/
namespace SX
open PySem PySem.Spec PyProof.Rows
set_option maxRecDepth 100000
set_option linter.all false
section
variable {prog : Program} {w : World} {A : Around} {E : Value → Shared → Prop} {s : Shared}
noncomputable def SetI (prog : Program) (w : World) (h : Heap) (a : Addr) (led : Bool) (es : Array (Int × Value)) : Prop :=
  ∃ o ep t, h.get? a = some o ∧ o.ExactSet ∧ o.data = .set es ep t ∧ ElemsOf (PySem.intKind prog w) es.toList ∧ es.size < scanBound ∧ t.fits es.size = true ∧ Rise t.place ∧ t.led = led
noncomputable def nums (es : Array (Int × Value)) : List Int := es.toList.map fun e => numOf e.2
theorem SetI.at_ {h h' : Heap} {a : Addr} {led : Bool} {es : Array (Int × Value)} (x : SetI prog w h a led es) (k : ∀ o, h.get? a = some o → h'.get? a = some o) : SetI prog w h' a led es :=
  let ⟨o, ep, t, e, r⟩ := x
  ⟨o, ep, t, k o e, r⟩
theorem put_at {h : Heap} {a : Addr} {o : Obj} {es es' : Array (Int × Value)} {ep : Nat} {t t' : SetTable} (ho : h.get? a = some o) (hd : o.data = .set es ep t) :
    (h.update a (Obj.putSet es' t')).get? a = some { o with data := .set es' (ep + 1) t' } := by
  have q := Heap.get?_update_self (Obj.putSet es' t') ho (by rw [putSet_of es' t' hd]; rfl)
  rw [putSet_of es' t' hd] at q
  exact q
theorem tail_I {g : Bool → Sem Unit} (hg : ∀ (b : Bool) (s1 : Shared) (Q' : Unit → Shared → Prop), Q' () s1 → wpAny (model prog w) A (g b) Q' E s1)
    {a : Addr} {o : Obj} {es es1 : Array (Int × Value)} {ep : Nat} {t t2 : SetTable} (ho : s.heap.get? a = some o) (hx : o.ExactSet) (hd : o.data = .set es ep t)
    (hel : ElemsOf (PySem.intKind prog w) es1.toList) (hb : es1.size < scanBound) (hf : t2.fits es1.size = true) (hr : Rise t2.place) {led : Bool} (hl : t2.led = led) {wd : Bool} {R : Option Bool → Shared → Prop}
    (h : ∀ h' es2, Heap.SameBut a s.heap h' → SetI prog w h' a led es2 → es2.toList.Perm es1.toList → R (some true) { s with heap := h' }) :
    wpAny (model prog w) A (do
        storeSet a es1 t2
        if (!wd && t2.tooFull) = true then do
            g (relayAll t2 es1 (SetTable.grown es1.size)).2.2
            storeSet a (relayAll t2 es1 (SetTable.grown es1.size)).1 (relayAll t2 es1 (SetTable.grown es1.size)).2.1
            pure (some true)
          else pure (some true)) R E s := by
  refine wpAny_bind (wpAny_storeSet_of ho hd ?_ (fits_of_scanBound hb))
  have e1 := put_at (es' := es1) (t' := t2) ho hd
  have b1 := Heap.SameBut.update s.heap a (Obj.putSet es1 t2)
  by_cases hc : (!wd && t2.tooFull) = true
  · rw [if_pos hc]
    have hp := relayAll_perm t2 es1 (SetTable.grown es1.size)
    have hfr := relayAll_fits t2 es1 (SetTable.grown es1.size)
    have hrr := relayAll_rise hr es1 (SetTable.grown es1.size)
    generalize relayAll t2 es1 (SetTable.grown es1.size) = Z at hp hfr hrr ⊢
    obtain ⟨es2, t3, gv⟩ := Z
    dsimp only at hp hfr hrr ⊢
    have hsz : es2.size = es1.size := by
      have := hp.length_eq
      simpa using this
    refine wpAny_bind (hg _ _ _ ?_)
    refine wpAny_bind (wpAny_storeSet_of e1 rfl ?_ (fits_of_scanBound (by rw [hsz]; exact hb)))
    have e2 := put_at (es' := es2) (t' := t3) e1 rfl
    exact wpAny_pure (h _ es2 (b1.trans (Heap.SameBut.update _ a _)) ⟨_, _, _, e2, hx, rfl, hel.perm hp, by rw [hsz]; exact hb, hfr, hrr.1, hrr.2.trans hl⟩ hp)
  · rw [if_neg hc]
    exact wpAny_pure (h _ es1 b1 ⟨_, _, _, e1, hx, rfl, hel, hb, hf, hr, hl⟩ (List.Perm.refl _))
theorem is_num {e : Int × Value} {k : Int} (h : (PySem.intKind prog w).is k e.2 = true) : numOf e.2 = k := by
  obtain ⟨t, q⟩ := Value.isInt_shape (k := k) (v := e.2) h
  rw [q]
  rfl
theorem add_I {a : Addr} {led : Bool} {es : Array (Int × Value)} {n : Int} {tk : Tok} {Q : Bool → Shared → Prop} (hS : SetI prog w s.heap a led es) (hroom : es.size + 1 < scanBound)
    (h : ∀ b h' es', Heap.SameBut a s.heap h' → SetI prog w h' a led es' → ((n ∈ nums es ∧ es' = es) ∨ (n ∉ nums es ∧ es'.toList.Perm (es.toList ++ [(hashInt n, Value.int n tk)]))) → Q b { s with heap := h' }) :
    wpAny (model prog w) A (setAddHashed a (.int n tk) (hashInt n)) Q E s := by
  obtain ⟨o, ep, t, ho, hx, hd, hel, hb, hf, hr, hl⟩ := hS
  have hkey : (PySem.intKind prog w).is n (.int n tk) = true := intKind_is prog w n tk
  unfold setAddHashed setAddHashedIn
  refine wpAny_holding (wpAny_bind (wpAny_setState_of ho hd hf ?_))
  dsimp only
  rw [byScan_of (knd := PySem.intKind prog w) (x := Value.int n tk) rfl hb hel]
  simp only [↓reduceIte]
  unfold setAddByScan
  refine wpAny_bind ?_
  refine wpAny_bind (wpAny_rule ?_)
  refine wpAny_bind (wpAny_setScan_of (knd := PySem.intKind prog w) hkey ho hd hf hel ?_)
  cases hq : List.findIdx? (fun e => (PySem.intKind prog w).is n e.2) es.toList with
  | some j =>
    dsimp only
    obtain ⟨hj, hp, _⟩ := List.findIdx?_eq_some_iff_getElem.mp hq
    refine wpAny_pure (wpAny_pure ?_)
    have e : s = { s with heap := s.heap } := by cases s; rfl
    rw [e]
    refine h _ s.heap es (Heap.SameBut.refl a s.heap) ⟨o, ep, t, ho, hx, hd, hel, hb, hf, hr, hl⟩ (.inl ⟨?_, rfl⟩)
    exact List.mem_map.mpr ⟨es.toList[j], List.getElem_mem hj, is_num hp⟩
  | none =>
    dsimp only
    have hno : n ∉ nums es := fun hm => by
      obtain ⟨e, he, q⟩ := List.mem_map.mp hm
      obtain ⟨⟨k, hk, _⟩, _⟩ := hel e he
      have e2 : k = n := (is_num hk).symm.trans q
      subst e2
      have := List.findIdx?_eq_none_iff.mp hq e he
      rw [hk] at this
      cases this
    have hgw : ∀ (b : Bool) {s1 : Shared} {Q' : Unit → Shared → Prop}, Q' () s1 → wpAny (model prog w) A (match b with | true => rule "set.scan.the-table-gave-way" | false => pure ()) Q' E s1 := fun b s1 Q' q => by
      cases b
      · exact wpAny_pure q
      · exact wpAny_rule q
    have hperm := layNew_perm t es ((PySem.intKind prog w).hash n) (Value.int n tk)
    have hfits := layNew_fits t es ((PySem.intKind prog w).hash n) (Value.int n tk)
    have hrise := layNew_rise hr es ((PySem.intKind prog w).hash n) (Value.int n tk)
    generalize hL : layNew t es ((PySem.intKind prog w).hash n) (Value.int n tk) = L at hperm hfits hrise ⊢
    have hL' : layNew t es (hashInt n) (Value.int n tk) = L := hL
    obtain ⟨es1, t1, wd, gv⟩ := L
    dsimp only at hperm hfits hrise ⊢
    rw [Array.toList_push] at hperm
    have hel1 : ElemsOf (PySem.intKind prog w) es1.toList := (hel.push hkey rfl).perm hperm
    have hsz1 : es1.size = es.size + 1 := by
      have := hperm.length_eq
      simpa using this
    rw [hL']
    dsimp only
    refine wpAny_bind (hgw _ ?_)
    have fin : ∀ h' es2, Heap.SameBut a s.heap h' → SetI prog w h' a led es2 → es2.toList.Perm es1.toList → Q true { s with heap := h' } := fun h' es2 hsb hS2 hp2 => h true h' es2 hsb hS2 (.inr ⟨hno, hp2.trans hperm⟩)
    have hgT : ∀ (b : Bool) (s1 : Shared) (Q' : Unit → Shared → Prop), Q' () s1 → wpAny (model prog w) A (match b with | true => rule "set.scan.the-table-gave-way" | false => pure ()) Q' E s1 := fun b s1 Q' q => hgw b q
    split
    · refine wpAny_bind ?_
      rw [hashByValue_scannable 8 (x := Value.int n tk) rfl]
      refine wpAny_pure ?_
      have hpk : plainKind (Value.int n tk) = true := rfl
      rw [hpk]
      simp only [↓reduceIte]
      refine tail_I (led := led) hgT ho hx hd hel1 (by rw [hsz1]; exact hroom) hfits hrise.1 (hrise.2.trans hl) ?_
      intro h' es2 hsb hS2 hp2
      dsimp only
      exact wpAny_pure (fin h' es2 hsb hS2 hp2)
    · refine wpAny_bind (wpAny_pure ?_)
      simp only [↓reduceIte]
      refine tail_I (led := led) hgT ho hx hd hel1 (by rw [hsz1]; exact hroom) hfits hrise.1 (hrise.2.trans hl) ?_
      intro h' es2 hsb hS2 hp2
      dsimp only
      exact wpAny_pure (fin h' es2 hsb hS2 hp2)
end
end SX
end
section
/- set(a list of ints) -/
namespace SX
open PySem PySem.Spec PyProof.Rows
set_option maxRecDepth 100000
set_option linter.all false
structure Got (val : Nat → Int) (i : Nat) (es : Array (Int × Value)) : Prop where
  few : es.size ≤ i
  once : (nums es).Nodup
  mem : ∀ z, z ∈ nums es ↔ ∃ j, j < i ∧ val j = z
theorem Got.next {val : Nat → Int} {i : Nat} {es es' : Array (Int × Value)} {tk : Tok} (g : Got val i es)
    (h : (val i ∈ nums es ∧ es' = es) ∨ (val i ∉ nums es ∧ es'.toList.Perm (es.toList ++ [(hashInt (val i), Value.int (val i) tk)]))) : Got val (i + 1) es' := by
  rcases h with ⟨hm, rfl⟩ | ⟨hm, hp⟩
  · refine ⟨Nat.le_succ_of_le g.few, g.once, fun z => ?_⟩
    rw [g.mem]
    constructor
    · rintro ⟨j, hj, e⟩
      exact ⟨j, by omega, e⟩
    · rintro ⟨j, hj, e⟩
      by_cases hji : j = i
      · subst hji
        rw [← e]
        exact (g.mem _).mp hm
      · exact ⟨j, by omega, e⟩
  · have hn : (nums es').Perm (nums es ++ [val i]) := by
      have := hp.map fun e => numOf e.2
      rw [List.map_append] at this
      exact this
    refine ⟨?_, ?_, fun z => ?_⟩
    · have := hp.length_eq
      have h2 := g.few
      simp at this
      omega
    · rw [hn.nodup_iff, List.nodup_append]
      refine ⟨g.once, by simp, fun x hx y hy => ?_⟩
      have : y = val i := by simpa using hy
      subst this
      exact fun q => hm (q ▸ hx)
    · rw [hn.mem_iff, List.mem_append, g.mem]
      constructor
      · rintro (⟨j, hj, e⟩ | q)
        · exact ⟨j, by omega, e⟩
        · exact ⟨i, by omega, by simpa using Eq.symm (List.mem_singleton.mp q)⟩
      · rintro ⟨j, hj, e⟩
        by_cases hji : j = i
        · subst hji
          exact .inr (by rw [e]; simp)
        · exact .inl ⟨j, by omega, e⟩
section
variable {prog : Program} {w : World} {A : Around} {R : Result → Shared → Prop} {I : Addr} {fp wr : List Addr} {G : Array GenState → Array GenState → Prop} {n : Nat} {P : Nat → Value → Prop} {St : Nat → Shared → Prop}
theorem loop_I (W : WalksS prog w A.in1 I fp wr G n P St) (S : Addr) (hSf : S ∉ fp) (val : Nat → Int) (hval : ∀ i v, P i v → ∃ t, v = .int (val i) t) (hb : n + 1 < scanBound) (led : Bool) :
    ∀ (k i : Nat) (s : Shared) (es : Array (Int × Value)), n - i = k → i ≤ n → St i s → SetI prog w s.heap S led es → Got val i es →
      (∀ s' es', Moved (S :: wr) G s s' → SetI prog w s'.heap S led es' → Got val n es' → R (.ok (.ret .none)) s') →
      codeAny (model prog w) A (.builtin "set.update.loop" ⟨[.ref S, .ref I], []⟩) R s := by
  have hSw : S ∉ wr := fun q => hSf (W.sub _ q)
  have up : ∀ b ∈ wr, b ∈ S :: wr := fun b q => List.mem_cons_of_mem _ q
  intro k
  induction k with
  | zero =>
    intro i s es hk hi hst hS hG hR
    obtain rfl : i = n := by omega
    refine codeAny_builtin F.entry_set_update_loop ?_
    rw [Around.under_plainId F.plain_set_update_loop _]
    show wpAny _ A.in1 (pyNext (.ref I) >>= _) _ _ s
    refine wpAny_bind (W.done s _ _ hst fun s' hm => ?_)
    show wpAny _ A.in1 (ret Value.none) _ _ s'
    exact wpAny_pure (hR s' es (hm.mono up) (hS.at_ fun o q => hm.heap S o hSw q) hG)
  | succ k ih =>
    intro i s es hk hi hst hS hG hR
    have hlt : i < n := by omega
    refine codeAny_builtin F.entry_set_update_loop ?_
    rw [Around.under_plainId F.plain_set_update_loop _]
    show wpAny _ A.in1 (pyNext (.ref I) >>= _) _ _ s
    refine wpAny_bind (W.item i s _ _ hlt hst fun v s' hP hst' hm => ?_)
    obtain ⟨t, rfl⟩ := hval i v hP
    have hS' : SetI prog w s'.heap S led es := hS.at_ fun o q => hm.heap S o hSw q
    show wpAny _ A.in1 (holding [Value.int (val i) t] (setAdd S (.int (val i) t)) >>= _) _ _ s'
    refine wpAny_bind (wpAny_holding ?_)
    unfold setAdd
    refine wpAny_holding ?_
    refine wpAny_bind ((PySem.intKind prog w).pyHash (k := val i) (intKind_is _ _ _ _) ?_)
    refine add_I (s := { s' with toks := s'.toks + 1 }) hS' (by have := hG.few; omega) fun b h' es' sb hS2 hc => ?_
    refine wpAny_pure ⟨plainId_quiet F.plain_set_update_loop _, ih (i + 1) _ es' (by omega) hlt (W.frame _ s' _ _ hst' (Nat.le_succ _) fun c hc o e => ?_) hS2 (hG.next hc) fun s'' es'' hm'' hS'' => ?_⟩
    · rw [sb.2 c (fun q : c = S => hSf (by rw [← q]; exact hc))]
      exact e
    · refine hR s'' es'' (Moved.trans W.gtrans ((hm.mono up).then_heap (Nat.le_succ _) fun c o hc e => ?_) hm'') hS''
      rw [sb.2 c (fun q : c = S => hc (by rw [q]; exact List.mem_cons_self))]
      exact e
end
section
variable {prog : Program} {w : World} {A : Around} {E : Value → Shared → Prop} {s : Shared}
noncomputable def newO (led : Bool) : Obj := { cls := .type "set", dict := none, data := .set #[] 0 (.fresh 0 0 led) }
noncomputable def ledOf (w : World) : Bool := !w.params.followText "set-order"
theorem new_I (a : Value) {Q : Value → Shared → Prop} (h : Q (.ref s.heap.objs.size) { s with heap := s.heap.push (newO (ledOf w)) }) :
    codeAny (model prog w) A (.call (.builtin "set.__new__") ⟨[.type "set", a], []⟩) (wants Q E) s := by
  refine codeAny_of_tree ?_
  show wpAny _ A.in1 (do checkBuiltinCall "set.__new__" ⟨[.type "set", a], []⟩; again (.builtin "set.__new__" ⟨[.type "set", a], []⟩)) _ _ s
  refine wpAny_bind (wpAny_of_eq (F.newCall_set_1 a) (wpAny_pure ⟨plainId_quiet F.plain_set_new _, codeAny_builtin F.entry_set_new ?_⟩))
  rw [Around.under_plainId F.plain_set_new _]
  unfold Builtin.«set.__new__» Builtin.Frozenset.newClass
  have hsub := sub_set_self
  obtain ⟨hp, g, d, tk, os⟩ := s
  dsimp only
  wp_walk
  refine wpAny_askSetting (wpAny_pure ?_)
  dsimp only
  simp only [newObj]
  refine wpAny_bind (wpAny_alloc (wpAny_pure ?_))
  exact wpAny_pure h
theorem fresh_I (led : Bool) {h : Heap} {a : Addr} (e : h.get? a = some (newO led)) : SetI prog w h a led #[] :=
  ⟨_, _, _, e, ⟨rfl, rfl, rfl⟩, rfl, (fun x hx => by simp at hx), by decide, by rfl, List.Pairwise.nil, rfl⟩
end
end SX
end
section
namespace SX
open PySem PySem.Spec PyProof.Rows
set_option maxRecDepth 100000
set_option linter.all false
section
variable {prog : Program} {w : World} {A : Around} {E : Value → Shared → Prop} {s : Shared}
set_option maxHeartbeats 3200000 in
theorem call_I {l : Addr} {its : Array Value} {ns : List Int} {Q : Value → Shared → Prop} (hh : A.handled = none) (hl : s.heap.IsList l its) (hi : IntsAre its.toList ns) (hb : its.size + 1 < scanBound)
    (h : ∀ (h' : Heap) (tk : Nat) es, SetI prog w h' s.heap.objs.size (ledOf w) es → Got (fun i => ns.getD i 0) its.size es → (∀ b o, b < s.heap.objs.size → s.heap.get? b = some o → h'.get? b = some o) →
      Q (.ref s.heap.objs.size) { s with heap := h', toks := tk }) : wpAny (model prog w) A (call (.type "set") [.ref l]) Q E s := by
  obtain ⟨c, tl, hmro⟩ := F.called_set.mro
  have hmade := F.called_set.made
  have hsub := F.called_set.sub
  refine wpAny_call (codeAny_of_tree ?_)
  show wpAny _ _ (callAny (.type "set") _) _ _ _
  refine wpAny_pure ⟨Code.quiet_builtin _ (by decide +kernel), codeAny_builtin F.entry_type_call ?_⟩
  rw [Around.under_plain (weight_type_call_type "set" [.ref l] []) rfl]
  have g1 := F.called_set.notType
  have g2 := F.called_set.canCreate
  have g3 := F.typeCall_set_1 (.ref l)
  repeat (any_goals (first | assumption | wp_step))
  refine codeAny_mono (new_I (.ref l) (E := E) (Q := fun ob s1 => ob = .ref s.heap.objs.size ∧ s1 = { s with heap := s.heap.push (newO (ledOf w)) }) ⟨rfl, rfl⟩) fun r s1 hr => ?_
  cases r with
  | error e => exact hr
  | ok fl =>
    cases fl with
    | ret ob =>
      obtain ⟨rfl, rfl⟩ := hr
      have hS : (s.heap.push (newO (ledOf w))).get? s.heap.objs.size = some (newO (ledOf w)) := Heap.get?_push_size _ rfl
      have hT : Shared.TypeIs { s with heap := s.heap.push (newO (ledOf w)) } (.ref s.heap.objs.size) "set" := ⟨_, hS, rfl⟩
      have hli := F.called_set.init.lookup
      have hbi := F.called_set.init.bind (.ref s.heap.objs.size)
      repeat (any_goals (first | assumption | wp_step))
      refine codeAny_mono (codeAny_call_builtin (R := wants (fun r s2 => r = .none ∧ ∃ h' tk es, s2 = { s with heap := h', toks := tk } ∧ SetI prog w h' s.heap.objs.size (ledOf w) es ∧ Got (fun i => ns.getD i 0) its.size es ∧
          ∀ b o, b < s.heap.objs.size → s.heap.get? b = some o → h'.get? b = some o) E) F.called_set.init.plain F.entry_set_init (check_set_init_1 hT ?_)) fun r2 s2 hr2 => ?_
      · obtain ⟨ol, hol, hcl, nl, hdl⟩ := hl
        obtain ⟨ocls, odict, odata, oslots⟩ := ol
        simp only at hcl hdl
        subst hcl hdl
        have hol2 : (s.heap.push (newO (ledOf w))).get? l = some { cls := .type "list", dict := odict, data := .seq its nl, slots := oslots } := Heap.get?_push_of_some _ hol
        have q1 := F.sub_list_set
        have q2 := F.sub_list_frozenset
        have q3 : (Value.type "list" == Value.type "dict") = false := by decide
        have hl1 : (s.heap.push (newO (ledOf w))).IsList l its := ⟨_, hol2, rfl, nl, rfl⟩
        unfold Builtin.«set.__init__» noKeywords Builtin.Frozenset.updateFrom
        generalize hPI : pyIter = PI
        have hS0 : (s.heap.push (newO (ledOf w))).get? s.heap.objs.size = some { cls := .type "set", dict := none, data := .set #[] 0 (.fresh 0 0 (ledOf w)) } := hS
        wp_walk
        subst hPI
        refine wpAny_pyIter_list hl1 ?_
        refine wpAny_bind (wpAny_runValue ?_)
        have hlS : l < s.heap.objs.size := Heap.lt_size hol
        have h3 : A.in1.in1.in1.handled = none := by simp [hh]
        have hsz : (s.heap.push (newO (ledOf w))).objs.size = s.heap.objs.size + 1 := Heap.size_push _ _
        have hne : l ≠ (s.heap.push (newO (ledOf w))).objs.size := by rw [hsz]; exact Nat.ne_of_lt (Nat.lt_succ_of_lt hlS)
        have hSf : s.heap.objs.size ∉ [(s.heap.push (newO (ledOf w))).objs.size, l] := by
          rw [hsz]
          intro q
          rcases List.mem_cons.mp q with z | z
          · exact Nat.ne_of_lt (Nat.lt_succ_self _) z
          · exact Nat.ne_of_gt hlS (List.mem_singleton.mp z)
        have hval : ∀ (i : Nat) (v : Value), its[i]? = some v → ∃ t, v = .int ((fun i => ns.getD i 0) i) t := fun i v hv => IntsAre.int_at hi i v (by rw [Array.getElem?_toList]; exact hv)
        refine loop_I ((Walks.list h3 _ l hne its).toS) s.heap.objs.size hSf (fun i => ns.getD i 0) hval hb (ledOf w) (its.size - 0) 0 _ #[] rfl (Nat.zero_le _)
          ⟨⟨_, Heap.get?_push_size _ rfl, rfl, rfl⟩, (hl1.push _)⟩ ?sI ⟨Nat.le_refl _, by simp [nums], fun z => ?_⟩ ?hR
        case sI => exact fresh_I (ledOf w) (Heap.get?_push_of_some _ hS)
        case hR =>
          intro s' es hm hS' hG'
          obtain ⟨h', g', d', tk', os'⟩ := s'
          have eg : g' = s.gens := hm.gens
          have ed : d' = s.drawn := hm.drawn
          have eo : os' = s.os := hm.os
          subst eg ed eo
          show wpAny _ _ _ _ _ _
          refine wpAny_pure ?_
          show wpAny _ _ (ret Value.none) _ _ _
          refine wpAny_pure ⟨rfl, h', tk', es, rfl, hS', hG', fun b o hb e => ?_⟩
          refine hm.heap b o (fun q => ?_) (Heap.get?_push_of_some _ (Heap.get?_push_of_some _ e))
          have q' : b = s.heap.objs.size ∨ b = (s.heap.push (newO (ledOf w))).objs.size := by simpa using q
          rw [hsz] at q'
          rcases q' with z | z
          · exact Nat.ne_of_lt hb z
          · exact Nat.ne_of_lt (Nat.lt_succ_of_lt hb) z
        · simp [nums]
      · cases r2 with
        | error e => exact hr2
        | ok f2 =>
          cases f2 with
          | ret r =>
            obtain ⟨rfl, h', tk, es, rfl, hS', hG', hk'⟩ := hr2
            repeat (any_goals (first | assumption | wp_step))
            exact h _ _ _ hS' hG' hk'
          | next => exact hr2.elim
          | brk => exact hr2.elim
          | cont => exact hr2.elim
    | next => exact hr.elim
    | brk => exact hr.elim
    | cont => exact hr.elim
end
end SX
end
section
/- A walk over a set of ints: every entry once, in whatever order. -/
namespace SX
open PySem PySem.Spec PyProof.Rows
set_option maxRecDepth 100000
set_option linter.all false
namespace F
theorem entry_set_iter : entryFor table "set.__iter__" = some Builtin.«frozenset.__iter__» := entryFor_alias (id' := "frozenset.__iter__") (by kernel_rfl) rfl (by decide +kernel) (by kernel_rfl)
theorem slot_sit_next : Slot "set_iterator" "__next__" "set_iterator.__next__" :=
  Slot.of (owner := "set_iterator") (n := "__next__") (by rw [typeLookup_type, builtinLookup_eq_fast]; kernel_rfl) (by decide +kernel) (by decide +kernel) (by decide +kernel) (by first | exact .inl (by decide +kernel) | exact .inr (by decide +kernel)) (by rw [isSubtype_type]; kernel_rfl)
theorem entry_sit_next : entryFor table "set_iterator.__next__" = some Builtin.«set_iterator.__next__» := entryFor_of_tree (by kernel_rfl)
theorem args_sit_next (a : Value) : argsOk "set_iterator.__next__" ⟨[a], []⟩ := by unfold argsOk; kernel_rfl
theorem slot_sit_iter : Slot "set_iterator" "__iter__" "set_iterator.__iter__" :=
  Slot.of (owner := "set_iterator") (n := "__iter__") (by rw [typeLookup_type, builtinLookup_eq_fast]; kernel_rfl) (by decide +kernel) (by decide +kernel) (by decide +kernel) (by first | exact .inl (by decide +kernel) | exact .inr (by decide +kernel)) (by rw [isSubtype_type]; kernel_rfl)
theorem entry_sit_iter : entryFor table "set_iterator.__iter__" = some Builtin.«dict_keyiterator.__iter__» := entryFor_alias (id' := "dict_keyiterator.__iter__") (by kernel_rfl) rfl (by decide +kernel) (by kernel_rfl)
theorem args_sit_iter (a : Value) : argsOk "set_iterator.__iter__" ⟨[a], []⟩ := by unfold argsOk; kernel_rfl
end F
theorem erase_perm {α : Type} : ∀ (l : List α) (i : Nat) (h : i < l.length), (l[i] :: l.eraseIdx i).Perm l
  | [], _, h => absurd h (Nat.not_lt_zero _)
  | a :: l, 0, _ => List.Perm.refl _
  | a :: l, i + 1, h => by
    have ih := erase_perm l i (by simpa using h)
    show (l[i]'(by simpa using h) :: a :: l.eraseIdx i).Perm (a :: l)
    exact (List.Perm.swap _ _ _).trans (List.Perm.cons _ ih)
theorem pick_go {α : Type} (next : Nat → Nat) : ∀ (f k : Nat) (left : List α) (out : Array α), left.length = f → (pickOrder.go next f k left out).toList.Perm (out.toList ++ left)
  | 0, k, left, out, h => by
    have : left = [] := List.length_eq_zero_iff.mp h
    subst this
    unfold pickOrder.go
    simp
  | f + 1, k, left, out, h => by
    unfold pickOrder.go
    have hlt : next k % left.length < left.length := Nat.mod_lt _ (by omega)
    rw [List.getElem?_eq_getElem hlt]
    dsimp only
    refine (pick_go next f (k + 1) _ _ (by rw [List.length_eraseIdx_of_lt hlt]; omega)).trans ?_
    rw [Array.toList_push, List.append_assoc]
    refine List.Perm.append_left _ ?_
    show (left[next k % left.length] :: left.eraseIdx (next k % left.length)).Perm left
    exact erase_perm _ _ hlt
theorem pick_perm {α : Type} (next : Nat → Nat) (xs : Array α) : (pickOrder next xs).toList.Perm xs.toList := by
  unfold pickOrder
  have := pick_go next xs.size 0 xs.toList #[] (by simp)
  simpa using this
section
variable {prog : Program} {w : World} {A : Around} {E : Value → Shared → Prop} {s : Shared}
theorem choose_any {src : Source} {n : Nat} {Q : Nat → Shared → Prop} (hn : n ≠ 0) (h : ∀ i d, i < n → Q i { s with drawn := d }) : wpAny (model prog w) A (choose src n) Q E s := fun Γ p hΓ => by
  unfold choose
  rw [Sem.wp_choose]
  exact ⟨hn, h _ _ (Nat.mod_lt _ (Nat.pos_of_ne_zero hn))⟩
theorem draw_any {α : Type} : ∀ (n : Nat) (xs : List α) (s : Shared) {Q : List α → Shared → Prop}, xs.length = n → (∀ ys d, ys.Perm xs → Q ys { s with drawn := d }) → wpAny (model prog w) A (drawOrder n xs) Q E s
  | 0, xs, s, Q, hn, h => by
    have : xs = [] := List.length_eq_zero_iff.mp hn
    subst this
    unfold drawOrder
    exact wpAny_pure (h [] s.drawn (List.Perm.refl _))
  | n + 1, xs, s, Q, hn, h => by
    unfold drawOrder
    cases xs with
    | nil => simp at hn
    | cons x xs =>
      dsimp only
      refine wpAny_bind (choose_any (by simp) fun i d hi => ?_)
      rw [List.getElem?_eq_getElem hi]
      dsimp only
      refine wpAny_bind (draw_any n _ _ (by rw [List.length_eraseIdx_of_lt hi]; omega) fun ys d' hp => ?_)
      refine wpAny_pure (h _ d' ?_)
      exact (List.Perm.cons _ hp).trans (erase_perm _ _ hi)
noncomputable def SitO (first : Value) (i : Nat) (a : Addr) (n ep : Nat) : Obj := { cls := .type "set_iterator", dict := none, data := .fields #[first, .int i 0, .ref a, .int n 0, .int ep 0], slots := #[] }
inductive Md (w : World) (a : Addr) (es : Array (Int × Value)) (ep : Nat) (t : SetTable) (T : Addr) (h : Heap) : (Nat → Value) → List Value → Prop
  | text (hb : w.params.followText "set-order" = true) : Md w a es ep t T h (fun _ => .int 0 0) ((pickOrder (w.params.setOrder a ep) es).toList.map (·.2))
  | places (hb : w.params.followText "set-order" = false) (hl : t.led = true) (hd : (!t.plain && decide (es.size > 1)) = false) :
      Md w a es ep t T h (fun i => .int ((if i = 0 then 0 else t.place.getD (i - 1) 0 + 1 : Nat) : Int) 0) (es.toList.map (·.2))
  | drawn (hb : w.params.followText "set-order" = false) (ps : List Nat) (hp : ps.Perm (List.range es.size)) (m : Nat) (hT : h.get? T = some { cls := .type "tuple", data := .seq (ps.map fun (p : Nat) => Value.int p 0).toArray m }) :
      Md w a es ep t T h (fun _ => .ref T) (ps.filterMap fun p => (es[p]?).map (·.2))
theorem Md.keep {w : World} {a : Addr} {es : Array (Int × Value)} {ep : Nat} {t : SetTable} {T : Addr} {h h' : Heap} {f : Nat → Value} {l : List Value} (x : Md w a es ep t T h f l) (k : ∀ o, h.get? T = some o → h'.get? T = some o) : Md w a es ep t T h' f l := by
  cases x with
  | text hb => exact .text hb
  | places hb hl hd => exact .places hb hl hd
  | drawn hb ps hp m hT => exact .drawn hb ps hp m (k _ hT)
theorem filter_get {es : Array (Int × Value)} : ∀ (ps : List Nat), (∀ p ∈ ps, p < es.size) → ∀ i : Nat, (ps.filterMap fun p => (es[p]?).map (fun e : Int × Value => e.2))[i]? = (ps[i]?).bind fun p => (es[p]?).map (fun e : Int × Value => e.2)
  | [], _, i => by simp
  | p :: ps, h, i => by
    have hp : p < es.size := h p (List.mem_cons_self ..)
    have ih := filter_get ps (fun q hq => h q (List.mem_cons_of_mem _ hq))
    rw [List.filterMap_cons]
    have e : (es[p]?).map (·.2) = some es[p].2 := by rw [Array.getElem?_eq_getElem hp]; rfl
    rw [e]
    cases i with
    | zero => simp [e]
    | succ i => simpa using ih i
theorem Md.perm {w : World} {a : Addr} {es : Array (Int × Value)} {ep : Nat} {t : SetTable} {T : Addr} {h : Heap} {f : Nat → Value} {l : List Value} (x : Md w a es ep t T h f l) : l.Perm (es.toList.map (·.2)) := by
  cases x with
  | text hb => exact (pick_perm _ es).map _
  | places hb hl hd => exact List.Perm.refl _
  | drawn hb ps hp m hT =>
    refine (hp.filterMap _).trans ?_
    have e : (List.range es.size).filterMap (fun p => (es[p]?).map (·.2)) = ((List.range es.size).filterMap fun p => es[p]?).map (·.2) := by
      rw [List.map_filterMap]
    rw [e, filterMap_getElem?_range]
theorem led_pass {M : Model} {b : Bool} {Q : Unit → Shared → Prop} {what : String} (hb : b = false) (h : Q () s) : wpAny M A (if b = true then (unsupported what : Sem Unit) else pure ()) Q E s := by
  rw [if_neg (by rw [hb]; exact Bool.false_ne_true)]
  exact wpAny_pure h
theorem next_num {a : Addr} {o : Obj} {es : Array (Int × Value)} {ep i slot : Nat} {t : SetTable} {T : Addr} {f : Nat → Value} {l : List Value} {Q : Option (Value × Nat) → Shared → Prop}
    (ho : s.heap.get? a = some o) (hd : o.data = .set es ep t) (hf : t.fits es.size = true) (hr : Rise t.place) (m : Md w a es ep t T s.heap f l) (hs : f i = .int slot 0) (hin : i ≤ es.size)
    (h1 : ∀ x next, l[i]? = some x → f (i + 1) = .int (next : Nat) 0 → Q (some (x, next)) s) (h2 : l[i]? = none → Q none s) :
    wpAny (model prog w) A (setNext a slot i ep) Q E s := by
  unfold setNext
  refine wpAny_bind (wpAny_setState_of ho hd hf ?_)
  dsimp only
  refine wpAny_bind (m := setsByText) (wpAny_bind (wpAny_askSetting (wpAny_pure ?_)))
  cases m with
  | text hb =>
    refine wpAny_ite_split (fun _ => ?_) (fun hc => absurd hb hc)
    refine wpAny_ite_split (fun hc => absurd hc (by simp)) (fun _ => ?_)
    unfold setWalk
    refine wpAny_bind (wpAny_bind (wpAny_setState_of ho hd hf ?_))
    dsimp only
    refine wpAny_bind (m := setsByText) (wpAny_bind (wpAny_askSetting (wpAny_pure ?_)))
    refine wpAny_ite_split (fun _ => ?_) (fun hc => absurd hb hc)
    refine wpAny_bind (wpAny_askSetting (wpAny_pure (wpAny_pure ?_)))
    have e : (pickOrder (w.params.setOrder a ep) es).toList[i]? = (pickOrder (w.params.setOrder a ep) es)[i]? := Array.getElem?_toList
    have hslot : slot = 0 := by
      have := hs
      injection this with q _
      omega
    subst hslot
    show Q (Option.map (fun e => (e.2, 0)) (pickOrder (w.params.setOrder a ep) es)[i]?) s
    cases hq : (pickOrder (w.params.setOrder a ep) es)[i]? with
    | none => exact h2 (by rw [List.getElem?_map, e, hq]; rfl)
    | some y => exact h1 y.2 0 (by rw [List.getElem?_map, e, hq]; rfl) rfl
  | places hb hl hp =>
    refine wpAny_ite_split (fun hc => absurd (hb.symm.trans hc) (by decide)) (fun _ => ?_)
    refine wpAny_ite_split (fun hc => absurd (hp.symm.trans hc) (by decide)) (fun _ => ?_)
    have hsz : t.place.size = es.size := by
      simp only [SetTable.fits, Bool.and_eq_true, beq_iff_eq, decide_eq_true_eq] at hf
      exact hf.1
    refine wpAny_bind (led_pass (b := !t.led && !es.isEmpty) (by rw [hl]; rfl) (wpAny_pure ?_))
    have hslot : slot = (if i = 0 then 0 else t.place.getD (i - 1) 0 + 1 : Nat) := by
      have q := hs
      injection q with q _
      omega
    have hb2 : SetTable.below t.place slot = i := by
      rw [hslot]
      by_cases h0 : i = 0
      · rw [if_pos h0, h0, below_zero hr]
      · rw [if_neg h0]
        have hlt : i - 1 < t.place.size := by omega
        have e : t.place[i - 1]? = some t.place[i - 1] := Array.getElem?_eq_getElem hlt
        have e2 : t.place.getD (i - 1) 0 = t.place[i - 1] := by
          rw [Array.getD_eq_getD_getElem?, e]
          rfl
        rw [e2, below_next hr e]
        omega
    rw [hb2]
    cases hq : es[i]? with
    | none =>
      dsimp only
      exact h2 (by rw [List.getElem?_map, Array.getElem?_toList, hq]; rfl)
    | some y =>
      have hlt : i < t.place.size := by
        have := (Array.getElem?_eq_some_iff.mp hq).1
        omega
      rw [Array.getElem?_eq_getElem hlt]
      obtain ⟨yh, yv⟩ := y
      dsimp only
      refine h1 yv _ (by rw [List.getElem?_map, Array.getElem?_toList, hq]; rfl) ?_
      dsimp only
      rw [if_neg (Nat.succ_ne_zero i), Nat.add_sub_cancel, Array.getD_eq_getD_getElem?, Array.getElem?_eq_getElem hlt]
      rfl
  | drawn hb ps hp m hT => cases hs
theorem sit_type {it a : Addr} {first : Value} {i n ep : Nat} {s : Shared} (e : s.heap.get? it = some (SitO first i a n ep)) : s.TypeIs (.ref it) "set_iterator" := ⟨_, e, rfl⟩
theorem upd_sit {h : Heap} {it a : Addr} {first g : Value} {i j n ep : Nat} (e : h.get? it = some (SitO first i a n ep)) :
    ((h.update it (Obj.mapFields (·.setIfInBounds 0 g))).update it (Obj.mapFields (·.setIfInBounds 1 (rawInt j)))).get? it = some (SitO g j a n ep) :=
  Heap.get?_update_self _ (Heap.get?_update_self (o := SitO first i a n ep) _ e rfl) rfl
theorem upd_sit1 {h : Heap} {it a : Addr} {first : Value} {i j n ep : Nat} (e : h.get? it = some (SitO first i a n ep)) :
    (h.update it (Obj.mapFields (·.setIfInBounds 1 (rawInt j)))).get? it = some (SitO first j a n ep) :=
  Heap.get?_update_self (o := SitO first i a n ep) _ e rfl
theorem Md.kind {w : World} {a : Addr} {es : Array (Int × Value)} {ep : Nat} {t : SetTable} {T : Addr} {h : Heap} {f : Nat → Value} {l : List Value} (x : Md w a es ep t T h f l) :
    (∀ i, ∃ slot : Nat, f i = .int slot 0) ∨ (∃ (ps : List Nat) (m : Nat), ps.Perm (List.range es.size) ∧ h.get? T = some { cls := .type "tuple", data := .seq (ps.map fun (p : Nat) => Value.int p 0).toArray m } ∧ (∀ i, f i = .ref T) ∧ l = ps.filterMap fun p => (es[p]?).map (fun e : Int × Value => e.2)) := by
  cases x with
  | text hb => exact .inl fun i => ⟨0, rfl⟩
  | places hb hl hd => exact .inl fun i => ⟨_, rfl⟩
  | drawn hb ps hp m hT => exact .inr ⟨ps, m, hp, hT, fun _ => rfl, rfl⟩
theorem tree_next {it a : Addr} {x : Value} {i ep : Nat} {o : Obj} {es : Array (Int × Value)} {t : SetTable} {T : Addr} {f : Nat → Value} {l : List Value} {Q : Value → Shared → Prop}
    (hi : s.heap.get? it = some (SitO (f i) i a es.size ep)) (ho : s.heap.get? a = some o) (hd : o.data = .set es ep t) (hf : t.fits es.size = true) (hr : Rise t.place) (m : Md w a es ep t T s.heap f l) (hx : l[i]? = some x)
    (hQ : ∀ h', h'.get? it = some (SitO (f (i + 1)) (i + 1) a es.size ep) → Heap.SameBut it s.heap h' → Q x { s with heap := h' }) :
    wpAny (model prog w) A (Builtin.«set_iterator.__next__» ⟨[.ref it], []⟩) (fun fin s' => ∃ r, fin = .done (.ret r) ∧ Q r s') E s := by
  have hsz : ((es.size : Int) != (es.size : Int)) = false := by simp
  have hin : i < es.size := by
    have h1 := (List.getElem?_eq_some_iff.mp hx).1
    have h2 := m.perm.length_eq
    simp at h2
    omega
  show wpAny _ _ (fieldsOf (.ref it) >>= _) _ _ s
  refine wpAny_bind (m := fieldsOf (.ref it)) (wpAny_bind (wpAny_load hi (wpAny_pure ?_)))
  show wpAny _ _ (setEntries a >>= _) _ _ s
  refine wpAny_bind (wpAny_bind (wpAny_setState_of ho hd hf (wpAny_pure ?_)))
  rw [if_neg (by rw [hsz]; exact Bool.false_ne_true)]
  rcases m.kind with q | ⟨ps, mm, hp, hT, hfr, hl⟩
  · obtain ⟨slot, hs⟩ := q i
    rw [hs] at hi ⊢
    dsimp only
    show wpAny _ _ (setNext a slot i ep >>= _) _ _ s
    refine wpAny_bind (next_num ho hd hf hr m hs (Nat.le_of_lt hin) (fun y next hy hn => ?_) (fun hn => ?_))
    · rw [hx] at hy
      cases hy
      dsimp only
      refine wpAny_bind (wpAny_setField hi rfl (by simp) ?_)
      refine wpAny_bind (wpAny_setField (Heap.get?_update_self (o := SitO (.int slot 0) i a es.size ep) _ hi rfl) rfl (by simp [SitO, Obj.mapFields]) (wpAny_pure ⟨_, rfl, ?_⟩))
      refine hQ _ ?_ ((Heap.SameBut.update ..).trans (Heap.SameBut.update ..))
      rw [hn]
      exact upd_sit (j := i + 1) hi
    · rw [hx] at hn
      cases hn
  · rw [hfr] at hi ⊢
    dsimp only
    have hps : ps[i]? = some (ps[i]'(by rw [hp.length_eq, List.length_range]; exact hin)) := List.getElem?_eq_getElem _
    generalize ps[i]'(by rw [hp.length_eq, List.length_range]; exact hin) = p at hps
    have hpl : p < es.size := List.mem_range.mp (hp.mem_iff.mp (List.mem_of_getElem? hps))
    have hxe : x = es[p].2 := by
      rw [hl, filter_get ps (fun q hq => List.mem_range.mp (hp.mem_iff.mp hq)), hps] at hx
      simp only [Option.bind_some, Array.getElem?_eq_getElem hpl, Option.map_some, Option.some.injEq] at hx
      exact hx.symm
    refine wpAny_bind (m := seqItems? (.ref T)) (wpAny_seqItems hT rfl ?_)
    dsimp only
    rw [show (ps.map fun (p : Nat) => Value.int p 0).toArray[(i : Int).toNat]? = some (Value.int p 0) by
      rw [Int.toNat_natCast, List.getElem?_toArray, List.getElem?_map, hps]
      rfl]
    dsimp only
    unfold setNextDrawn
    refine wpAny_bind (wpAny_bind (wpAny_setState_of ho hd hf ?_))
    dsimp only
    refine wpAny_ite_split (fun hc => absurd hc (by simp)) (fun _ => ?_)
    rw [Int.toNat_natCast, Array.getElem?_eq_getElem hpl]
    refine wpAny_pure ?_
    refine wpAny_bind (wpAny_setField hi rfl (by simp) (wpAny_pure ⟨_, rfl, ?_⟩))
    have q := hQ _ (by rw [hfr]; exact upd_sit1 (j := i + 1) hi) (Heap.SameBut.update ..)
    rw [hxe] at q
    exact q
theorem stop_any {P : PySem.Fin → Shared → Prop} (hh : A.handled = none) (h : ∀ e h', (∀ b o, s.heap.get? b = some o → h'.get? b = some o) → (∃ oe, h'.get? e = some oe ∧ oe.cls = .type "StopIteration") → E (.ref e) { s with heap := h' }) :
    wpAny (model prog w) A (do raiseNew (← newExc (.type "StopIteration") [])) P E s := by
  refine wpAny_bind ?_
  simp only [newExc, newTuple]
  refine wpAny_bind (wpAny_newObj_type ?_ (by size_fits))
  refine wpAny_bind (m := firstArgMember _ _) (wpAny_of_eq (a := Value.none) (by first | rfl | (simp only [firstArgMember]; rfl)) ?_)
  refine wpAny_newObj_type ?_ (by size_fits)
  simp only [raiseNew]
  refine wpAny_bind (wpAny_handled ?_)
  rw [hh]
  refine wpAny_bind (wpAny_pure (wpAny_throw ?_))
  exact h _ _ (fun b o e => Heap.get?_push_of_some _ (Heap.get?_push_of_some _ e)) ⟨_, Heap.get?_push_size _ rfl, rfl⟩
theorem tree_end {it a : Addr} {i ep : Nat} {o : Obj} {es : Array (Int × Value)} {t : SetTable} {T : Addr} {f : Nat → Value} {l : List Value} {P : PySem.Fin → Shared → Prop} (hh : A.handled = none)
    (hi : s.heap.get? it = some (SitO (f i) i a es.size ep)) (ho : s.heap.get? a = some o) (hd : o.data = .set es ep t) (hf : t.fits es.size = true) (hr : Rise t.place) (m : Md w a es ep t T s.heap f l) (hx : i = es.size)
    (hQ : ∀ e h', (∀ b u, b ≠ it → s.heap.get? b = some u → h'.get? b = some u) → (∃ oe, h'.get? e = some oe ∧ oe.cls = .type "StopIteration") → E (.ref e) { s with heap := h' }) :
    wpAny (model prog w) A (Builtin.«set_iterator.__next__» ⟨[.ref it], []⟩) P E s := by
  have hsz : ((es.size : Int) != (es.size : Int)) = false := by simp
  have hn : l[i]? = none := by
    have h2 := m.perm.length_eq
    simp at h2
    exact List.getElem?_eq_none (by omega)
  have keep : ∀ (g : Obj → Obj) (h' : Heap), (∀ b u, (s.heap.update it g).get? b = some u → h'.get? b = some u) → ∀ b u, b ≠ it → s.heap.get? b = some u → h'.get? b = some u := fun g h' k b u hb e => k b u (((Heap.SameBut.update s.heap it g).2 b hb).trans e)
  show wpAny _ _ (fieldsOf (.ref it) >>= _) _ _ s
  refine wpAny_bind (m := fieldsOf (.ref it)) (wpAny_bind (wpAny_load hi (wpAny_pure ?_)))
  show wpAny _ _ (setEntries a >>= _) _ _ s
  refine wpAny_bind (wpAny_bind (wpAny_setState_of ho hd hf (wpAny_pure ?_)))
  rw [if_neg (by rw [hsz]; exact Bool.false_ne_true)]
  rcases m.kind with q | ⟨ps, mm, hp, hT, hfr, hl⟩
  · obtain ⟨slot, hs⟩ := q i
    rw [hs] at hi ⊢
    dsimp only
    show wpAny _ _ (setNext a slot i ep >>= _) _ _ s
    refine wpAny_bind (next_num ho hd hf hr m hs (Nat.le_of_eq hx) (fun y next hy _ => ?_) (fun _ => ?_))
    · rw [hn] at hy
      cases hy
    · dsimp only
      refine wpAny_bind (wpAny_setField hi rfl (by simp) ?_)
      exact stop_any hh fun e h' k oe => hQ e h' (keep _ h' k) oe
  · rw [hfr] at hi ⊢
    dsimp only
    refine wpAny_bind (m := seqItems? (.ref T)) (wpAny_seqItems hT rfl ?_)
    dsimp only
    rw [show (ps.map fun (p : Nat) => Value.int p 0).toArray[(i : Int).toNat]? = none by
      rw [Int.toNat_natCast, List.getElem?_toArray, List.getElem?_map, List.getElem?_eq_none (by rw [hp.length_eq, List.length_range]; omega)]
      rfl]
    dsimp only
    refine wpAny_bind (wpAny_setField hi rfl (by simp) ?_)
    refine wpAny_bind (wpAny_setField (Heap.get?_update_self (o := SitO (.ref T) i a es.size ep) _ hi rfl) rfl (by simp [SitO, Obj.mapFields]) ?_)
    refine stop_any hh fun e h' k oe => hQ e h' (fun b u hb q => k b u ?_) oe
    exact (((Heap.SameBut.update s.heap it _).trans (Heap.SameBut.update _ it _)).2 b hb).trans q
theorem isSub_stop : isSubtype (.type "StopIteration") (.type "StopIteration") = pure true := by rw [isSubtype_type]; kernel_rfl
theorem walk_I (hh : A.handled = none) {it a : Addr} {ep : Nat} {o : Obj} {es : Array (Int × Value)} {t : SetTable} {T : Addr} {f : Nat → Value} {l : List Value} (hne : a ≠ it) (hTn : T ≠ it) (hd : o.data = .set es ep t) (hf : t.fits es.size = true) (hr : Rise t.place) :
    Walks prog w A it [it, a, T] [it] es.size (fun i v => l[i]? = some v) (fun i h => h.get? it = some (SitO (f i) i a es.size ep) ∧ h.get? a = some o ∧ Md w a es ep t T h f l) where
  sub := fun b hb => by
    rw [List.mem_singleton.mp hb]
    simp
  frame := fun i h h' ⟨x1, x2, x3⟩ k => ⟨k it (by simp) _ x1, k a (by simp) _ x2, x3.keep fun u e => k T (by simp) u e⟩
  item := fun i s Q E hlt ⟨x1, x2, x3⟩ h => by
    have hx : l[i]? = some (l[i]'(by have := x3.perm.length_eq; simp at this; omega)) := List.getElem?_eq_getElem _
    unfold pyNext
    refine wpAny_bind (wpAny_attempt (wpAny_callSpecial?_slot (name := Str.ofString "__next__") (sit_type x1) F.slot_sit_next (wpAny_call_entry F.slot_sit_next (sit_type x1) F.entry_sit_next ?_ (F.args_sit_next _))))
    refine tree_next x1 x2 hd hf hr x3 hx fun h' e sb => ?_
    refine wpAny_pure ?_
    exact h _ h' s.toks hx ⟨e, (sb.2 a hne).trans x2, x3.keep fun u q => (sb.2 T hTn).trans q⟩ fun b u hb q => (sb.2 b (fun z => hb (by simp [z]))).trans q
  done := fun s Q E ⟨x1, x2, x3⟩ h => by
    unfold pyNext
    refine wpAny_bind (wpAny_attempt (wpAny_callSpecial?_slot (name := Str.ofString "__next__") (sit_type x1) F.slot_sit_next (wpAny_call_entry F.slot_sit_next (sit_type x1) F.entry_sit_next ?_ (F.args_sit_next _))))
    refine tree_end (by simpa using hh) x1 x2 hd hf hr x3 rfl fun e h' k oe => ?_
    obtain ⟨oe, he, hc⟩ := oe
    refine wpAny_bind (wpAny_isInstance (T := "StopIteration") (b := true) ⟨_, he, hc⟩ isSub_stop ?_)
    exact wpAny_pure (h h' s.toks fun b u hb q => k b u (fun z => hb (by simp [z])) q)
  self := fun i s Q E ⟨x1, x2, x3⟩ h => by
    refine wpAny_pyIter_slot (sit_type x1) F.slot_sit_iter (wpAny_call_entry F.slot_sit_iter (sit_type x1) F.entry_sit_iter ?_ (F.args_sit_iter _))
    show wpAny _ _ (ret (.ref it)) _ _ s
    exact wpAny_pure ⟨_, rfl, "set_iterator", _, sit_type x1, F.slot_sit_next.lookup, h⟩
theorem iter_I {a : Addr} {led : Bool} {es : Array (Int × Value)} {Q : Value → Shared → Prop} (hl : led = ledOf w) (hS : SetI prog w s.heap a led es)
    (h : ∀ (h' : Heap) (dr : Drawn) (it T : Addr) (o : Obj) (ep : Nat) (t : SetTable) (f : Nat → Value) (l : List Value), (∀ b u, s.heap.get? b = some u → h'.get? b = some u) → s.heap.objs.size ≤ it → it < h'.objs.size → a ≠ it → T ≠ it → (T = a ∨ s.heap.objs.size ≤ T) →
      o.data = .set es ep t → t.fits es.size = true → Rise t.place → h'.get? it = some (SitO (f 0) 0 a es.size ep) → h'.get? a = some o → Md w a es ep t T h' f l → Q (.ref it) { s with heap := h', drawn := dr }) :
    wpAny (model prog w) A (pyIter (.ref a)) Q E s := by
  obtain ⟨o, ep, t, ho, hx, hd, hel, hb, hf, hr, hled⟩ := hS
  have hT : s.TypeIs (.ref a) "set" := ⟨o, ho, hx.1⟩
  have ha : a < s.heap.objs.size := Heap.lt_size ho
  refine wpAny_pyIter_slot hT F.slot_set_iter (wpAny_call_entry F.slot_set_iter hT F.entry_set_iter ?_ (F.args_set_iter_1 _))
  unfold Builtin.«frozenset.__iter__» Builtin.Frozenset.slot0 slotArgs
  simp only [List.isEmpty_nil, Bool.not_true, Bool.false_eq_true, ↓reduceIte, bind_assoc, List.length_nil, bne_self_eq_false]
  unfold Builtin.Frozenset.addrOf Builtin.Frozenset.sizeOf
  refine wpAny_bind (wpAny_pure ?_)
  try dsimp only
  refine wpAny_bind (wpAny_pure ?_)
  refine wpAny_bind (wpAny_bind (wpAny_bind (wpAny_setState_of ho hd hf (wpAny_pure (wpAny_pure ?_)))))
  dsimp only
  refine wpAny_bind (m := setDrawn a) (wpAny_bind (wpAny_setState_of ho hd hf ?_))
  dsimp only
  refine wpAny_bind (m := setsByText) (wpAny_bind (wpAny_askSetting (wpAny_pure (wpAny_pure ?_))))
  have hled2 : t.led = !w.params.followText "set-order" := hled.trans hl
  refine wpAny_ite_split (fun hc => ?_) (fun hc => ?_)
  · have hc' : (!w.params.followText "set-order" && (!t.plain && decide (es.size > 1))) = true := hc
    rw [Bool.and_eq_true] at hc'
    have hb0 : w.params.followText "set-order" = false := by simpa using hc'.1
    refine wpAny_bind (draw_any es.size _ s List.length_range fun ps d hp => ?_)
    have hpl : ps.length = es.size := by rw [hp.length_eq, List.length_range]
    unfold newTuple
    refine wpAny_bind (wpAny_newObj_type ?_ (by show (List.map _ ps).toArray.size ≤ _; rw [List.size_toArray, List.length_map, hpl]; exact fits_of_scanBound hb))
    refine wpAny_bind (wpAny_setEpoch_of (Heap.get?_push_of_some _ ho) hd hf ?_)
    unfold newFields
    refine wpAny_bind (wpAny_newObj_type (wpAny_pure ⟨_, rfl, "set_iterator", _, ⟨_, Heap.get?_push_size _ rfl, rfl⟩, F.slot_sit_next.lookup, ?_⟩))
    dsimp only
    have hs1 : (s.heap.push { cls := .type "tuple", dict := none, data := .seq (ps.map fun (p : Nat) => rawInt p).toArray }).objs.size = s.heap.objs.size + 1 := Heap.size_push _ _
    refine h _ d _ s.heap.objs.size o ep t _ _ (fun b u e => Heap.get?_push_of_some _ (Heap.get?_push_of_some _ e)) ?_ (Heap.lt_size (Heap.get?_push_size _ rfl)) ?_ ?_ (.inr (Nat.le_refl _)) hd hf hr (Heap.get?_push_size _ rfl)
      (Heap.get?_push_of_some _ (Heap.get?_push_of_some _ ho)) (.drawn hb0 ps hp 0 (Heap.get?_push_of_some _ (Heap.get?_push_size _ rfl)))
    · rw [hs1]; exact Nat.le_succ _
    · rw [hs1]; exact Nat.ne_of_lt (Nat.lt_succ_of_lt ha)
    · rw [hs1]; exact Nat.ne_of_lt (Nat.lt_succ_self _)
  · have hc' : (!w.params.followText "set-order" && (!t.plain && decide (es.size > 1))) = false := by
      cases q : (!w.params.followText "set-order" && (!t.plain && decide (es.size > 1))) with
      | false => rfl
      | true => exact absurd q hc
    refine wpAny_bind (wpAny_pure ?_)
    refine wpAny_bind (wpAny_setEpoch_of ho hd hf ?_)
    unfold newFields
    refine wpAny_bind (wpAny_newObj_type (wpAny_pure ⟨_, rfl, "set_iterator", _, ⟨_, Heap.get?_push_size _ rfl, rfl⟩, F.slot_sit_next.lookup, ?_⟩))
    have fin : ∀ (f : Nat → Value) (l : List Value), f 0 = rawInt 0 → Md w a es ep t a (s.heap.push (SitO (rawInt 0) 0 a es.size ep)) f l → Q (.ref s.heap.objs.size) { s with heap := s.heap.push (SitO (rawInt 0) 0 a es.size ep) } := fun f l e0 m =>
      h _ s.drawn _ a o ep t f l (fun b u e => Heap.get?_push_of_some _ e) (Nat.le_refl _) (by rw [Heap.size_push]; exact Nat.lt_succ_self _) (Nat.ne_of_lt ha) (Nat.ne_of_lt ha) (.inl rfl) hd hf hr
        (by rw [e0]; exact Heap.get?_push_size _ rfl) (Heap.get?_push_of_some _ ho) m
    cases hq : w.params.followText "set-order" with
    | true => exact fin (fun _ => .int 0 0) _ rfl (.text hq)
    | false =>
      rw [hq] at hc' hled2
      exact fin (fun i => .int ((if i = 0 then 0 else t.place.getD (i - 1) 0 + 1 : Nat) : Int) 0) _ rfl (.places hq hled2 (by simpa using hc'))
end
end SX
end
section
/- What sorted takes out of a set of ints, and out of a range. -/
namespace SX
open PySem PySem.Spec PyProof.Rows
set_option maxRecDepth 100000
set_option linter.all false
section
variable {prog : Program} {w : World} {A : Around} {E : Value → Shared → Prop} {s : Shared}
theorem hint_I {a : Addr} {o : Obj} {Q : Bool → Shared → Prop} (ho : s.heap.get? a = some o) (hc : o.cls = .type "set") (h : Q false s) : wpAny (model prog w) A (Builtin.List.listLengthHint (.ref a)) Q E s := by
  have hT : s.TypeIs (.ref a) "set" := ⟨o, ho, hc⟩
  unfold Builtin.List.listLengthHint
  refine wpAny_bind (wpAny_specialOf hT PySem.F.slot_set_len.lookup ?_)
  generalize hid : ("set.__len__" : String) = id0
  wp_delta
  rw [show splitId id0 = some ("set", "__len__") from by subst hid; decide +kernel]
  subst hid
  refine wpAny_bind (wpAny_isInstance (T := "set") (b := true) hT (by rw [isSubtype_type]; kernel_rfl) ?_)
  refine wpAny_ite_split (fun hc => absurd hc (by decide)) (fun _ => ?_)
  refine wpAny_ite_split (fun _ => ?_) (fun hc => absurd (by decide +kernel) hc)
  refine wpAny_bind (wpAny_typeOf (T := "set") hT ?_)
  exact wpAny_pure h
theorem items_list {l : List Value} {acc : Array Value} {n : Nat} (h : ItemsOf (fun i v => l[i]? = some v) acc n) (hn : l.length = n) : acc.toList = l := by
  apply List.ext_getElem?
  intro i
  rw [Array.getElem?_toList]
  by_cases hi : i < n
  · have hlt : i < acc.size := by rw [h.1]; exact hi
    rw [Array.getElem?_eq_getElem hlt]
    exact (h.2 i _ (Array.getElem?_eq_getElem hlt)).symm
  · rw [Array.getElem?_eq_none (by rw [h.1]; omega), List.getElem?_eq_none (by omega)]
theorem collect_I {a : Addr} {led : Bool} {es : Array (Int × Value)} {Q : List Value → Shared → Prop} (hh : A.handled = none) (hl : led = ledOf w) (hS : SetI prog w s.heap a led es)
    (h : ∀ vs h' dr tk, (∀ b u, s.heap.get? b = some u → h'.get? b = some u) → vs.Perm (es.toList.map (·.2)) → Q vs { s with heap := h', drawn := dr, toks := tk }) :
    wpAny (model prog w) A (collect (.ref a)) Q E s := by
  have ha : a < s.heap.objs.size := by
    obtain ⟨o, _, _, ho, _⟩ := hS
    exact Heap.lt_size ho
  have hb : es.size < scanBound := by
    obtain ⟨_, _, _, _, _, _, _, hb, _⟩ := hS
    exact hb
  unfold collect
  refine wpAny_bind (wpAny_runValue (codeAny_builtin PySem.F.entry_proto_collect ?_))
  rw [Around.under_plainId PySem.F.plain_proto_collect _]
  show wpAny _ A.in1 (newList [] >>= fun l => again (.builtin "list.__iadd__" ⟨[l, .ref a], []⟩)) _ _ s
  refine wpAny_bind (wpAny_newObj_type ?_)
  refine wpAny_pure ⟨plainId_quiet PySem.F.plain_list_iadd _, codeAny_builtin PySem.F.entry_list_iadd ?_⟩
  rw [Around.under_plainId PySem.F.plain_list_iadd _]
  generalize hL : s.heap.objs.size = L at ha
  have e1 : (s.heap.push { cls := .type "list", data := .seq ([] : List Value).toArray }).get? L = some { cls := .type "list", data := .seq ([] : List Value).toArray } := by rw [← hL]; exact Heap.get?_push_size _ rfl
  generalize hs1 : (s.heap.push { cls := .type "list", data := .seq ([] : List Value).toArray }) = g1 at e1
  have k1 : ∀ b u, s.heap.get? b = some u → g1.get? b = some u := fun b u e => by rw [← hs1]; exact Heap.get?_push_of_some _ e
  have sz1 : g1.objs.size = L + 1 := by rw [← hs1, Heap.size_push, hL]
  have hS1 : SetI prog w g1 a led es := hS.at_ fun o e => k1 a o e
  obtain ⟨o, _, _, ho, hx, _⟩ := id hS1
  have hne : Builtin.List.listSameRef (.ref L) (.ref a) = false := by
    have : L ≠ a := Nat.ne_of_gt ha
    simp [Builtin.List.listSameRef, this]
  show wpAny _ A.in1 (Builtin.List.listExtendWith (.ref L) (.ref a) (.ref L)) _ _ { s with heap := g1 }
  unfold Builtin.List.listExtendWith
  refine wpAny_bind (wpAny_typeOf (T := "set") ⟨o, ho, hx.1⟩ ?_)
  have q2 : (Value.type "set" == Value.type "list") = false := by decide
  have q3 : (Value.type "set" == Value.type "tuple") = false := by decide
  simp only [hne, q2, q3, Bool.or_false, Bool.false_eq_true, if_false]
  refine wpAny_bind (iter_I (s := { s with heap := g1 }) hl hS1 fun h' dr it T o2 ep t f l k hit hit2 hai hTi hT2 hd hf hr e2 e3 m => ?_)
  refine wpAny_bind (wpAny_holding (hint_I (s := { s with heap := h', drawn := dr }) (k a o ho) hx.1 ?_))
  refine wpAny_ite_split (fun _ => ?_) (fun hc => absurd (by decide +kernel) hc)
  have hLit : L ≠ it := Nat.ne_of_lt (Nat.lt_of_lt_of_le (by rw [sz1]; exact Nat.lt_succ_self L) hit)
  have eL : h'.get? L = some { cls := .type "list", data := .seq ([] : List Value).toArray } := k L _ e1
  have hLT : L ≠ T := by
    rcases hT2 with z | z
    · rw [z]; exact Nat.ne_of_gt ha
    · exact Nat.ne_of_lt (Nat.lt_of_lt_of_le (by rw [sz1]; exact Nat.lt_succ_self L) z)
  have hSf : L ∉ [it, a, T] := fun z => by
    rcases List.mem_cons.mp z with z | z
    · exact hLit z
    · rcases List.mem_cons.mp z with z | z
      · exact Nat.ne_of_gt ha z
      · exact hLT (List.mem_singleton.mp z)
  refine wpAny_bind (wpAny_rule ?_)
  refine wpAny_bind ?_
  show wpAny _ _ (updateSeq L (·.push .none) >>= fun _ => updateSeq L (·.pop)) _ _ _
  refine wpAny_bind (wpAny_updateSeq eL rfl ?_)
  have eL2 := Heap.get?_update_self (Obj.mapSeq (·.push Value.none)) eL rfl
  refine wpAny_updateSeq (hz := by seq_fits) eL2 rfl ?_
  have eL3 := Heap.get?_update_self (Obj.mapSeq (·.pop)) eL2 rfl
  have W := (walk_I (prog := prog) (w := w) (A := A.in1) (l := l) (f := f) (o := o2) hh hai hTi hd hf hr).toS
  have other : ∀ b u, b ≠ L → h'.get? b = some u → ((h'.update L (Obj.mapSeq (·.push Value.none))).update L (Obj.mapSeq (·.pop))).get? b = some u := fun b u hb e => (Heap.get?_update_other _ _ (Ne.symm hb)).trans ((Heap.get?_update_other _ _ (Ne.symm hb)).trans e)
  refine wpAny_pure ⟨plainId_quiet PySem.F.plain_extend_loop _, codeAny_extend_loopS W (fits_of_scanBound hb) L hSf (.ref L) es.size 0 _ #[] _ rfl (Nat.zero_le _)
    ⟨other it _ (Ne.symm hLit) e2, other a _ (Nat.ne_of_lt ha) e3, m.keep fun u q => other T u (Ne.symm hLT) q⟩ eL3 (ItemsOf.nil _) fun s' acc c hm hS' hacc => ?_⟩
  show wpAny _ A (load L >>= _) _ _ s'
  refine wpAny_bind (wpAny_load hS' ?_)
  rw [Moved.eq_with hm]
  refine wpAny_pure ?_
  have hlen : l.length = es.size := by
    have := m.perm.length_eq
    simpa using this
  have el := items_list hacc hlen
  show Q acc.toList _
  rw [el]
  refine h l s'.heap dr s'.toks (fun b u e => ?_) m.perm
  have hbL : b ≠ L := fun z => by
    rw [z, ← hL] at e
    exact absurd (Heap.lt_size e) (Nat.lt_irrefl _)
  refine hm.heap b u (fun z => ?_) (other b u hbL (k b u (k1 b u e)))
  rcases List.mem_cons.mp z with z | z
  · exact hbL z
  · have z' : b = it := by simpa using z
    have h1 := Heap.lt_size e
    rw [hL, z'] at h1
    exact absurd (Nat.lt_of_lt_of_le h1 (Nat.le_trans (by rw [sz1]; exact Nat.le_succ L) hit)) (Nat.lt_irrefl _)
noncomputable def RgEnd (s : Shared) (i : Int) (n : Nat) (res : Result) (s' : Shared) : Prop :=
  ∃ (acc : Array Value) (h' : Heap) (tk : Nat) (L : Addr) (c : Nat), res = .ok (.ret (.ref L)) ∧ s' = { s with heap := h', toks := tk } ∧ h'.get? L = some { cls := .type "list", dict := none, data := .seq acc c, slots := #[] } ∧
    (∀ b o, s.heap.get? b = some o → h'.get? b = some o) ∧ acc.size = n ∧ ∀ (k : Nat) (x : Value), acc[k]? = some x → ∃ tt, x = Value.int (i + k) tt
theorem collect_R {r : Addr} {i j : Int} {t u v : Tok} {n : Nat} {Q : List Value → Shared → Prop} (hh : A.handled = none) (hr : IsRange s.heap r i j 1 t u v) (hsm : Builtin.Range.small i j 1 = true) (hn : Builtin.Range.rangeSize i j 1 = n) (hle : n ≤ 2 ^ 24)
    (h : ∀ vs h' tk, (∀ b o, s.heap.get? b = some o → h'.get? b = some o) → vs.length = n → (∀ (k : Nat) (x : Value), vs[k]? = some x → ∃ tt, x = Value.int (i + k) tt) → Q vs { s with heap := h', toks := tk }) :
    wpAny (model prog w) A (collect (.ref r)) Q E s := by
  have key : codeAny (model prog w) A (.builtin "proto.collect" ⟨[.ref r], []⟩) (RgEnd s i n) s := by
    refine codeAny_builtin PySem.F.entry_proto_collect ?_
    rw [Around.under_plainId PySem.F.plain_proto_collect _]
    show wpAny _ A.in1 (newList [] >>= fun l => again (.builtin "list.__iadd__" ⟨[l, .ref r], []⟩)) _ _ s
    refine wpAny_bind (wpAny_newObj_type ?_)
    refine wpAny_pure ⟨plainId_quiet PySem.F.plain_list_iadd _, codeAny_builtin PySem.F.entry_list_iadd ?_⟩
    rw [Around.under_plainId PySem.F.plain_list_iadd _]
    refine wpAny_extend_range (R := RgEnd s i n) (s := { s with heap := s.heap.push { cls := .type "list", data := .seq ([] : List Value).toArray } }) hh (Heap.get?_push_of_some _ hr) hsm hn hle s.heap.objs.size _ 0 (Heap.get?_push_size _ rfl) fun h' tk acc c k hS hacc => ?_
    refine ⟨acc, h', tk, _, c, rfl, rfl, hS, fun b o e => k b o (Nat.ne_of_lt (Heap.lt_size e)) (Heap.get?_push_of_some _ e), hacc.1, fun m x e => ?_⟩
    obtain ⟨tt, q⟩ := hacc.2 m x e
    exact ⟨tt, by rw [q, Int.mul_one]⟩
  unfold collect
  refine wpAny_bind (wpAny_runValue (codeAny_mono key fun res s' hres => ?_))
  obtain ⟨acc, h', tk, L, c, rfl, rfl, hS, k, hz, hit⟩ := hres
  show wpAny _ A (load L >>= _) _ _ _
  refine wpAny_bind (wpAny_load hS ?_)
  exact wpAny_pure (h acc.toList h' tk k (by rw [Array.length_toList, hz]) fun m x e => hit m x (by rw [← Array.getElem?_toList]; exact e))
end
end SX
end
section
/- Keys that are pairs: a tuple of ints, and an int. -/
namespace PK
open PySem
open Sem (wp)
set_option maxRecDepth 100000
set_option linter.all false
noncomputable abbrev PKey := List Int × Int
section
variable {prog : Program} {w : World}
noncomputable def IsP (prog : Program) (w : World) (h : Heap) (k : PKey) (a : Addr) : Prop :=
  ∃ (o : Obj) (m : Nat) (f : Addr) (t : Tok), h.get? a = some o ∧ o.cls = .type "tuple" ∧ o.data = .seq #[.ref f, .int k.2 t] m ∧ IsTupleKey (intKind prog w) h k.1 f
noncomputable def hashP (prog : Program) (w : World) (k : PKey) : Int := reduceHash (Builtin.Tuple.tupleHashOf [tupleKeyHash (intKind prog w) k.1, hashInt k.2])
theorem IsP.typeIs {s : Shared} {k : PKey} {a : Addr} (x : IsP prog w s.heap k a) : s.TypeIs (.ref a) "tuple" := let ⟨o, _, _, _, ho, hc, _⟩ := x; ⟨o, ho, hc⟩
theorem IsP.inj {h : Heap} {a : Addr} {x y : PKey} (hx : IsP prog w h x a) (hy : IsP prog w h y a) : x = y := by
  obtain ⟨o, m, f, t, ho, _, hd, hi⟩ := hx
  obtain ⟨o', m', f', t', ho', _, hd', hi'⟩ := hy
  obtain rfl : o = o' := Option.some.inj (ho.symm.trans ho')
  rw [hd] at hd'
  injection hd' with h1 _
  have h2 : [Value.ref f, Value.int x.2 t] = [Value.ref f', Value.int y.2 t'] := congrArg Array.toList h1
  simp only [List.cons.injEq, Value.ref.injEq, Value.int.injEq, and_true] at h2
  obtain ⟨e1, e2, _⟩ := h2
  subst e1
  exact Prod.ext (hi.inj hi') e2
theorem IsP.keeps {h h' : Heap} {k : PKey} {a d : Addr} {o : Obj} {es ep} (x : IsP prog w h k a) (ho : h.get? d = some o) (hd : o.data = .dict es ep) (hs : Heap.SameBut d h h') : IsP prog w h' k a := by
  obtain ⟨o', m, f, t, ho', hc, hd', hi⟩ := x
  have hne : a ≠ d := fun e => by
    rw [e] at ho'
    obtain rfl : o' = o := Option.some.inj (ho'.symm.trans ho)
    rw [hd] at hd'
    exact nomatch hd'
  exact ⟨o', m, f, t, (hs.2 a hne).trans ho', hc, hd', hi.keeps ho hd hs⟩
variable {A : Around} {E : Value → Shared → Prop} {s : Shared}
theorem hash_P {k : PKey} {a : Addr} {Q : Int → Shared → Prop} (hu : A.units + 8 < cLine) (hk : IsP prog w s.heap k a) (h : Q (hashP prog w k) { s with toks := s.toks + (k.1.length + 3) }) :
    wpAny (model prog w) A (pyHash (.ref a)) Q E s := by
  have hT := hk.typeIs
  obtain ⟨o, m, f, t, ho, _, hd, hi⟩ := hk
  unfold pyHash
  first | unfold pyHashByItsType | skip
  first | refine wpAny_bind (wpAny_cRoomFor_or (.inr (by omega)) ?_) | skip
  refine wpAny_bind (wpAny_specialOf hT F.slot_tuple_hash.lookup ?_)
  show wpAny _ _ (if (some (Value.builtin "tuple.__hash__") == some Value.none) = true then _ else _) Q E s
  rw [if_neg (by rw [beq_builtin_none]; exact Bool.false_ne_true)]
  refine wpAny_bind (wpAny_specialOf hT F.slot_tuple_hash.lookup ?_)
  show wpAny _ _ (callSpecialIfBoundUnlessNone? (.ref a) "__hash__" _ >>= _) Q E s
  refine wpAny_bind (wpAny_callSpecialIfBoundUnlessNone?_slot hT F.slot_tuple_hash (wpAny_call_entry F.slot_tuple_hash hT F.entry_tuple_hash ?_ (F.args_tuple_hash_1 _)))
  show wpAny _ _ (Builtin.Tuple.tupleItemsOf (.ref a) >>= _) _ _ s
  refine wpAny_bind (wpAny_tupleItemsOf ho hd ?_)
  refine wpAny_bind ?_
  rw [← Array.forIn_toList]
  refine wpAny_forIn_list _ (fun rest (b : Array Int) s' => (rest = [Value.ref f, Value.int k.2 t] ∧ b = #[] ∧ s' = s) ∨ (rest = [Value.int k.2 t] ∧ b = #[tupleKeyHash (intKind prog w) k.1] ∧ s' = { s with toks := s.toks + (k.1.length + 1) }) ∨
      (rest = [] ∧ b = #[tupleKeyHash (intKind prog w) k.1, hashInt k.2] ∧ s' = { s with toks := s.toks + (k.1.length + 2) })) _ ?_ ?_ _ _ (.inl ⟨rfl, rfl, rfl⟩)
  · rintro x rest b s' (⟨e, rfl, rfl⟩ | ⟨e, rfl, rfl⟩ | ⟨e, _⟩)
    · injection e with e1 e2
      subst e1 e2
      refine wpAny_bind (wpAny_pyHash_tuple (by show A.units + 1 < _; omega) hi ?_)
      first
        | exact wpAny_pure (.inr (.inl ⟨rfl, rfl, rfl⟩))
        | exact wpAny_bind (wpAny_pure (wpAny_pure (.inr (.inl ⟨rfl, rfl, rfl⟩))))
    · injection e with e1 e2
      subst e1 e2
      refine wpAny_bind ((intKind prog w).pyHash (k := k.2) (intKind_is _ _ _ _) ?_)
      first
        | exact wpAny_pure (.inr (.inr ⟨rfl, rfl, by simp [Nat.add_assoc]⟩))
        | exact wpAny_bind (wpAny_pure (wpAny_pure (.inr (.inr ⟨rfl, rfl, by simp [Nat.add_assoc]⟩))))
    · cases e
  · rintro b s' (⟨e, _⟩ | ⟨e, _⟩ | ⟨_, rfl, rfl⟩)
    · cases e
    · cases e
    · show wpAny _ _ (retInt (Builtin.Tuple.tupleHashOf [tupleKeyHash (intKind prog w) k.1, hashInt k.2])) _ _ _
      refine wpAny_ret_mkInt ?_
      generalize hz : Builtin.Tuple.tupleHashOf [tupleKeyHash (intKind prog w) k.1, hashInt k.2] = z
      show wpAny _ _ (if (decide (-(2 : Int) ^ 63 ≤ z) && decide (z < 2 ^ 63)) = true then _ else _) Q E _
      unfold hashP reduceHash at h
      rw [hz] at h
      by_cases hr : (decide (-(2 : Int) ^ 63 ≤ z) && decide (z < 2 ^ 63)) = true
      · rw [if_pos hr] at h ⊢
        exact wpAny_pure (by simpa [Nat.add_assoc] using h)
      · rw [if_neg hr] at h ⊢
        exact wpAny_bind (wpAny_rule (wpAny_pure (by simpa [Nat.add_assoc] using h)))
theorem tree_eqP {x y : PKey} {a b : Addr} {P : PySem.Fin → Shared → Prop} (hu : A.units + 4 < cLine) (hx : IsP prog w s.heap x a) (hy : IsP prog w s.heap y b) (h : P (.done (.ret (.bool (decide (x = y))))) s) :
    wpAny (model prog w) A (Builtin.«tuple.__eq__» ⟨[.ref a, .ref b], []⟩) P E s := by
  have hTb := hy.typeIs
  obtain ⟨oa, ma, fa, ta, hoa, _, hda, hia⟩ := hx
  obtain ⟨ob, mb, fb, tb, hob, _, hdb, hib⟩ := hy
  show wpAny _ _ (isInstance (.ref b) (.type "tuple") >>= _) _ _ s
  refine wpAny_bind (wpAny_isInstance hTb isSubtype_tuple_tuple ?_)
  simp only [Bool.not_true, Bool.false_eq_true, if_false]
  refine wpAny_bind (wpAny_tupleItemsOf hoa hda ?_)
  refine wpAny_bind (wpAny_tupleItemsOf hob hdb ?_)
  refine wpAny_bind ?_
  refine wpAny_forIn_list _ (fun rest r s' => r.1 = none ∧ s' = s ∧ ((rest = [(Value.ref fa, Value.ref fb), (Value.int x.2 ta, Value.int y.2 tb)]) ∨ (rest = [(Value.int x.2 ta, Value.int y.2 tb)] ∧ x.1 = y.1) ∨ (rest = [] ∧ x = y))) _ ?_ ?_ _ _ ⟨rfl, rfl, .inl rfl⟩
  · rintro ⟨u, v⟩ rest r s' ⟨hr, rfl, e | ⟨e, e1⟩ | ⟨e, _⟩⟩
    · injection e with e1 e2
      injection e1 with e3 e4
      subst e2 e3 e4
      refine wpAny_bind (wpAny_eqBool_tuple (by omega) hia hib ?_)
      by_cases hk : x.1 = y.1
      · rw [decide_eq_true hk]
        simp only [Bool.not_true, Bool.false_eq_true, if_false]
        exact wpAny_pure ⟨by first | rfl | trivial, by first | rfl | trivial, .inr (.inl ⟨by first | rfl | trivial, hk⟩)⟩
      · rw [decide_eq_false hk]
        simp only [Bool.not_false, if_true]
        have hf : decide (x = y) = false := decide_eq_false fun q => hk (by rw [q])
        rw [hf] at h
        exact wpAny_bind (wpAny_pure (wpAny_pure (wpAny_pure h)))
    · injection e with e2 e3
      injection e2 with e4 e5
      subst e3 e4 e5
      refine wpAny_bind ((intKind prog w).eqBool (a := x.2) (b := y.2) (intKind_is _ _ _ _) (intKind_is _ _ _ _) ?_)
      by_cases hk : x.2 = y.2
      · rw [decide_eq_true hk]
        simp only [Bool.not_true, Bool.false_eq_true, if_false]
        exact wpAny_pure ⟨by first | rfl | trivial, by first | rfl | trivial, .inr (.inr ⟨by first | rfl | trivial, Prod.ext e1 hk⟩)⟩
      · rw [decide_eq_false hk]
        simp only [Bool.not_false, if_true]
        have hf : decide (x = y) = false := decide_eq_false fun q => hk (by rw [q])
        rw [hf] at h
        exact wpAny_bind (wpAny_pure (wpAny_pure (wpAny_pure h)))
    · cases e
  · rintro ⟨r1, r2⟩ s' ⟨hr, rfl, e | ⟨e, _⟩ | ⟨_, e⟩⟩
    · cases e
    · cases e
    · simp only at hr
      subst hr
      rw [decide_eq_true e] at h
      exact wpAny_pure h
theorem eq_P {x y : PKey} {a b : Addr} {Q : Bool → Shared → Prop} (hu : A.units + 8 < cLine) (hx : IsP prog w s.heap x a) (hy : IsP prog w s.heap y b) (h : Q (decide (x = y)) s) : wpAny (model prog w) A (eqBool (.ref a) (.ref b)) Q E s := by
  unfold eqBool
  try with_reducible refine wpAny_holding ?_
  show wpAny _ _ (if (Value.ref a == Value.ref b) = true then _ else _) Q E s
  by_cases hab : (Value.ref a == Value.ref b) = true
  · rw [if_pos hab]
    have e : a = b := by have := eq_of_beq hab; injection this
    subst e
    obtain rfl := hx.inj hy
    exact wpAny_bind (wpAny_rule (wpAny_pure (by simpa using h)))
  · rw [if_neg hab]
    exact wpAny_bind (wpAny_richCompare_same_room (op := .Eq) hx.typeIs hy.typeIs F.slot_tuple_eq (wpAny_call_entry F.slot_tuple_eq hx.typeIs F.entry_tuple_eq (tree_eqP (by show A.units + 1 + 4 < _; omega) hx hy ⟨_, rfl, (fun e => nomatch e), wpAny_truthy_bool h⟩) (F.args_tuple_eq_2 _ _)) (by omega))
theorem quiet_T (n : Nat) {ks : List Int} {a : Addr} {Q : Bool → Shared → Prop} (hk : IsTupleKey (intKind prog w) s.heap ks a) (h : Q true s) : wpAny (model prog w) A (eqIsQuiet (n + 1) (.ref a)) Q E s := by
  have hT := hk.typeIs
  obtain ⟨o, items, m, ho, _, hd, hi⟩ := hk
  unfold eqIsQuiet
  refine wpAny_bind (wpAny_specialOf hT F.slot_tuple_eq.lookup ?_)
  show wpAny _ _ (isInstance (.ref a) (.type "tuple") >>= _) _ _ s
  refine wpAny_bind (wpAny_isInstance hT isSubtype_tuple_tuple ?_)
  simp only [Bool.not_true, Bool.false_eq_true, if_false]
  refine wpAny_bind (wpAny_seqItems ho hd ?_)
  refine wpAny_bind ?_
  show wpAny _ _ (forIn items _ _) _ _ s
  rw [← Array.forIn_toList]
  refine wpAny_forIn_list _ (fun rest r s' => r.1 = none ∧ s' = s ∧ ∀ v ∈ rest, carriedByValue v = true) _ ?_ ?_ _ _ ⟨rfl, rfl, hi.byValue⟩
  · rintro v rest r s' ⟨hr, rfl, hall⟩
    rw [eqIsQuiet_byValue _ (hall v List.mem_cons_self)]
    refine wpAny_bind (wpAny_pure ?_)
    simp only [Bool.not_true, Bool.false_eq_true, if_false]
    exact wpAny_pure ⟨rfl, rfl, fun u hu' => hall u (List.mem_cons_of_mem _ hu')⟩
  · rintro ⟨r1, r2⟩ s' ⟨hr, rfl, _⟩
    simp only at hr
    subst hr
    exact wpAny_pure h
theorem quiet_P {k : PKey} {a : Addr} {Q : Bool → Shared → Prop} (hk : IsP prog w s.heap k a) (h : Q true s) : wpAny (model prog w) A (eqIsQuiet 8 (.ref a)) Q E s := by
  have hT := hk.typeIs
  obtain ⟨o, m, f, t, ho, _, hd, hi⟩ := hk
  unfold eqIsQuiet
  refine wpAny_bind (wpAny_specialOf hT F.slot_tuple_eq.lookup ?_)
  show wpAny _ _ (isInstance (.ref a) (.type "tuple") >>= _) _ _ s
  refine wpAny_bind (wpAny_isInstance hT isSubtype_tuple_tuple ?_)
  simp only [Bool.not_true, Bool.false_eq_true, if_false]
  refine wpAny_bind (wpAny_seqItems ho hd ?_)
  refine wpAny_bind ?_
  show wpAny _ _ (forIn #[Value.ref f, Value.int k.2 t] _ _) _ _ s
  rw [← Array.forIn_toList]
  refine wpAny_forIn_list _ (fun rest r s' => r.1 = none ∧ s' = s ∧ ∀ v ∈ rest, v = Value.ref f ∨ carriedByValue v = true) _ ?_ ?_ _ _ ⟨rfl, rfl, fun v hv => ?_⟩
  · rintro v rest r s' ⟨hr, rfl, hall⟩
    rcases hall v List.mem_cons_self with rfl | hv
    · refine wpAny_bind (quiet_T 6 hi ?_)
      simp only [Bool.not_true, Bool.false_eq_true, if_false]
      exact wpAny_pure ⟨rfl, rfl, fun u hu' => hall u (List.mem_cons_of_mem _ hu')⟩
    · rw [eqIsQuiet_byValue _ hv]
      refine wpAny_bind (wpAny_pure ?_)
      simp only [Bool.not_true, Bool.false_eq_true, if_false]
      exact wpAny_pure ⟨rfl, rfl, fun u hu' => hall u (List.mem_cons_of_mem _ hu')⟩
  · rintro ⟨r1, r2⟩ s' ⟨hr, rfl, _⟩
    simp only at hr
    subst hr
    exact wpAny_pure h
  · have hv' : v = Value.ref f ∨ v = Value.int k.2 t := by simpa using hv
    rcases hv' with e | e
    · exact .inl e
    · exact .inr (by rw [e]; rfl)
end
noncomputable def pairKind (prog : Program) (w : World) : HeapKind prog w PKey where
  is := IsP prog w
  hash := hashP prog w
  draws := fun k => k.1.length + 3
  room := fun A => A.units + 8 < cLine
  inj := fun hx hy => hx.inj hy
  keeps := fun x ho hd hs => x.keeps ho hd hs
  pyHash := fun hu hk h => hash_P hu hk h
  eqBool := fun hu hx hy h => eq_P hu hx hy h
  quiet := fun hk h => quiet_P hk h
end PK
end
section
/- A list sorted by a small number is its rows, one behind another. Core Lean alone. -/
namespace SM
theorem cut_top {α : Type} (M : Nat) : ∀ ps : List (Int × α), ps.Pairwise (fun p q => p.1 ≤ q.1) → (∀ p ∈ ps, p.1 ≤ (M : Int)) → ps = ps.filter (fun p => decide (p.1 < (M : Int))) ++ ps.filter (fun p => p.1 == (M : Int))
  | [], _, _ => rfl
  | p :: ps, hp, hb => by
    have hp' := List.pairwise_cons.mp hp
    have ih := cut_top M ps hp'.2 fun q hq => hb q (List.mem_cons_of_mem _ hq)
    have h1 := hb p (List.mem_cons_self ..)
    by_cases h : p.1 < (M : Int)
    · have h2 : (p.1 == (M : Int)) = false := by simp; omega
      rw [List.filter_cons, List.filter_cons, if_pos (by simpa using h), if_neg (by rw [h2]; exact Bool.false_ne_true), List.cons_append, ← ih]
    · have h2 : (p.1 == (M : Int)) = true := by simp; omega
      have h3 : ps.filter (fun p => decide (p.1 < (M : Int))) = [] := by
        rw [List.filter_eq_nil_iff]
        intro q hq
        have := hp'.1 q hq
        simp
        omega
      rw [List.filter_cons, List.filter_cons, if_neg (by simpa using h), if_pos h2, h3, List.nil_append]
      rw [h3, List.nil_append] at ih
      rw [← ih]
theorem fm_congr {α β : Type} {f g : α → List β} : ∀ l : List α, (∀ x ∈ l, f x = g x) → l.flatMap f = l.flatMap g
  | [], _ => rfl
  | x :: l, h => by
    rw [List.flatMap_cons, List.flatMap_cons, h x (List.mem_cons_self ..), fm_congr l fun y hy => h y (List.mem_cons_of_mem _ hy)]
theorem rows {α : Type} : ∀ (M : Nat) (ps : List (Int × α)), ps.Pairwise (fun p q => p.1 ≤ q.1) → (∀ p ∈ ps, 0 ≤ p.1 ∧ p.1 < (M : Int)) → ps = (List.range M).flatMap fun (m : Nat) => ps.filter fun p => p.1 == (m : Int)
  | 0, ps, _, hb => by
    cases ps with
    | nil => rfl
    | cons p ps => have := hb p (List.mem_cons_self ..); omega
  | M + 1, ps, hp, hb => by
    have e := cut_top M ps hp fun p hq => by have := (hb p hq).2; omega
    have ih := rows M (ps.filter fun p => decide (p.1 < (M : Int))) (hp.filter _) fun p hq => by
      have h1 := List.mem_filter.mp hq
      exact ⟨(hb p h1.1).1, by simpa using h1.2⟩
    rw [List.range_succ, List.flatMap_append, List.flatMap_singleton]
    have e2 : ((List.range M).flatMap fun (m : Nat) => ps.filter fun p => p.1 == (m : Int)) = ps.filter fun p => decide (p.1 < (M : Int)) := by
      rw [ih]
      refine fm_congr _ fun m hm => ?_
      have hm' := List.mem_range.mp hm
      rw [List.filter_filter]
      refine List.filter_congr fun p _ => ?_
      by_cases q : p.1 = (m : Int)
      · have : p.1 < (M : Int) := by omega
        simp [q]
        omega
      · simp [q]
    rw [e2]
    exact e
end SM
end
section
/- Rules that the layer lacks: insert, setdefault, bit_length, a set sorted. -/
set_option Elab.async false
set_option linter.all false
set_option maxRecDepth 100000
namespace X3
open PySem PySem.Spec PyProof.Rows L2
section
variable {X : Cx}
noncomputable def rInsert : V → List V → Hp → VK → Prop := fun x vs H Q => ∃ (l : Addr) (xs : List V) (k : Nat) (y : V), x = .ref l ∧ vs = [.int k, y] ∧ H l = some (.lst xs) ∧ k ≤ xs.length ∧ xs.length < 1000 ∧ Q .non (upd H l (.lst (xs.take k ++ y :: xs.drop k)))
theorem fits_small {k : Nat} (h : k < 1000) : Builtin.List.listFitsIndex (k : Int) = true := by
  unfold Builtin.List.listFitsIndex
  simp
  omega
theorem mt_insert : MtM X "list.insert" rInsert := by
  intro pins s σ H x vs v us Q I rx rv h
  obtain ⟨l, xs, k, y, rfl, rfl, hH, hk, hz, q⟩ := h
  cases rx
  cases rv with
  | cons r1 r2 =>
    cases r2 with
    | cons r3 r4 =>
      cases r4
      obtain ⟨t, rfl⟩ := r1
      rename_i u
      obtain ⟨z, its, n, r, hl, e⟩ := I.lstM hH
      have hs : its.toArray.size ≤ sizeLine := by rw [List.size_toArray, ← hl]; exact z
      generalize hx : (k : Int) = x
      have hfit : ¬(!Builtin.List.listFitsIndex x) = true := by
        rw [← hx, fits_small (Nat.lt_of_le_of_lt hk hz)]
        exact Bool.false_ne_true
      refine call_meets F.slot_list_insert ⟨_, e, rfl⟩ F.entry_list_insert (F.args_list_insert_3 _ _ _) (PySem.AutoSeq1.list_insert_list_int_val_1 l its.toArray n x t u hfit hs) ⟨e, ?_⟩
      refine ⟨.non, _, I.lset (its' := its.take k ++ u :: its.drop k) hH e ?_ ((r.take k).append (.cons r3 (r.drop k))) ?_, rfl, q⟩
      · have e1 : ¬ (x < 0) := by omega
        have e2 : min x.toNat its.toArray.size = k := by
          rw [← hx, Int.toNat_natCast, List.size_toArray, ← hl]
          exact Nat.min_eq_left hk
        dsimp only
        rw [if_neg e1, e2]
        apply Array.ext'
        simp [List.extract_eq_take_drop, List.take_of_length_le]
      · rw [List.length_append, List.length_cons, List.length_take, List.length_drop]
        have : 1000 ≤ sizeLine := by rw [sizeLine_eq]; omega
        omega
theorem rel_some {o : Option V} {u : Value} (r : RelO o (some u)) : ∃ y, o = some y ∧ RelV y u := by
  cases o with
  | none => exact (show False from r).elim
  | some y => exact ⟨y, rfl, r⟩
noncomputable def rSetd : V → List V → Hp → VK → Prop := fun x vs H Q => ∃ (a : Addr) (kvs : List (Key × V)) (k : Key) (v : V), x = .ref a ∧ vs = [kV k, v] ∧ H a = some (.dK kvs) ∧ kvs.length < sizeLine ∧
  (∀ y, valV kvs k = some y → Q y H) ∧ (valV kvs k = none → Q v (upd H a (.dK (putK kvs k v))))
theorem mt_setd : MtM X "dict.setdefault" rSetd := by
  intro pins s σ H x vs v us Q I rx rv h
  obtain ⟨a, kvs, k, y, rfl, rfl, hH, hz, q1, q2⟩ := h
  cases rx
  cases rv with
  | cons r1 r2 =>
    cases r2 with
    | cons r3 r4 =>
      cases r4
      rename_i u1 u2
      obtain ⟨z, hd, ws, rel, dd⟩ := dk_of I.hok hH
      refine call_meetsIn PySem.F.slot_dict_setdefault dd.typeIs PySem.F.entry_dict_setdefault (PySem.F.args_dict_setdefault_3 _ _ _) (kt_meets_setdefault (mixKind X.prog X.w) a (kV_is r1) hd u2) ⟨ws, dd, by rw [← rel.length]; exact z, fun w' hw => ?_, fun hn h' dd' hs => ?_⟩
      · have hro : RelO (valV kvs k) (some w') := by rw [← hw]; exact rel.val k
        obtain ⟨y', hy', ry'⟩ := rel_some hro
        exact ⟨y', H, I.tok _, ry', q1 y' hy'⟩
      · have hv : valV kvs k = none := by
          have := (rel.val k).isSome_eq
          rw [hn] at this
          cases e : valV kvs k with
          | none => rfl
          | some _ => rw [e] at this; cases this
        have hl : (putK kvs k y).length ≤ sizeLine := by have := length_putK kvs k y; omega
        have he : ∃ q, h'.get? a = some q := let ⟨q, _, _, hq, _⟩ := dd'; ⟨q, hq⟩
        exact ⟨y, _, d_write I (by rw [hH]; exact True.intro) hs he (dk_new hl hd (rel.put k r3) dd'), r3, q2 hv⟩
noncomputable def rBits : V → List V → Hp → VK → Prop := fun x vs H Q => ∃ i : Int, x = .int i ∧ vs = [] ∧ Q (.int (Builtin.Int.intBits i : Nat)) H
theorem mt_bits : MtM X "int.bit_length" rBits := by
  intro pins s σ H x vs v us Q I rx rv h
  obtain ⟨i, rfl, rfl, q⟩ := h
  obtain ⟨t, rfl⟩ := rx
  cases rv
  exact call_int_bit_length ⟨.int _, H, I.tok _, ⟨_, rfl⟩, q⟩
noncomputable def setO (P : Program) (w : World) (a : Addr) (es : Array (Int × Value)) : HO := .ext fun h => SX.SetI P w h a (SX.ledOf w) es
noncomputable def rSet (X : Cx) : List V → Hp → VK → Prop := fun vs H Q => ∃ (l : Addr) (ns : List Int), vs = [.ref l] ∧ SqL X.K H l (ns.map V.int) ∧ ns.length < 1000 ∧
  ∀ (a : Addr) (es : Array (Int × Value)), H a = none → (SX.nums es).Nodup → (∀ z, z ∈ SX.nums es ↔ z ∈ ns) → es.size ≤ ns.length → Q (.ref a) (upd H a (setO X.prog X.w a es))
theorem cr_set (hc : X.calm = true) : CallR X (.type "set") (rSet X) := by
  intro pins s σ H vs us Q I r h
  obtain ⟨l, ns, rfl, hs, hz, q⟩ := h
  obtain ⟨its, rv, hl, _⟩ := I.list hs
  rw [Vals.ref1 r]
  have hi := rv.ints
  have hlen : its.length = ns.length := hi.length
  have hsb : scanBound = 4096 := rfl
  refine SX.call_I (I.ok.hd hc) hl.isList (by simpa using hi) (by rw [List.size_toArray, hlen, hsb]; omega) fun h' tk es hS hG k => ?_
  have keep : ∀ b o, s.heap.get? b = some o → h'.get? b = some o := fun b o e => k b o (Heap.lt_size e) e
  have hn : H s.heap.objs.size = none := I.hok.fresh (Nat.le_refl _)
  refine ⟨.ref _, _, I.laid (t' := tk) (o := setO X.prog X.w s.heap.objs.size es) keep (Nat.le_refl _) ⟨hS, ?_, fun h1 h2 a b => a.at_ b⟩, rfl, q _ es hn hG.once (fun z => ?_) (by rw [← hlen]; exact hG.few)⟩
  · obtain ⟨o, _, _, e, _⟩ := hS
    exact ⟨o, e⟩
  · rw [hG.mem, List.size_toArray, hlen]
    constructor
    · rintro ⟨j, hj, e⟩
      rw [← e]
      rw [List.getD_eq_getElem?_getD, List.getElem?_eq_getElem hj]
      exact List.getElem_mem hj
    · intro hm
      obtain ⟨j, hj, e⟩ := List.mem_iff_getElem.mp hm
      exact ⟨j, hj, by rw [List.getD_eq_getElem?_getD, List.getElem?_eq_getElem hj]; exact e⟩
end
end X3
end
section
/- sorted(a set of ints); sorted(range(n), key=f), f a def of the text. -/
set_option Elab.async false
set_option linter.all false
set_option maxRecDepth 100000
namespace X3
open PySem PySem.Spec PyProof.Rows L2
section
variable {X : Cx}
theorem kept_any {pins : List (Addr × Obj)} {σ : L2.St} {H : Hp} {s : Shared} {h' : Heap} {dr : Drawn} {tk : Nat} (I : L2.Inv X pins σ H s) (k : ∀ b u, s.heap.get? b = some u → h'.get? b = some u) : L2.Inv X pins σ H { s with heap := h', drawn := dr, toks := tk } :=
  I.call (g' := s.gens) (d' := dr) (t' := tk) (ch := []) (Un.kept k) (I.hok.kept k) I.bare fun b hb => absurd hb (by simp)
noncomputable def rSortedSet (X : Cx) : List V → Hp → VK → Prop := fun vs H Q => ∃ (a : Addr) (es : Array (Int × Value)), vs = [.ref a] ∧ H a = some (setO X.prog X.w a es) ∧ es.size < 64 ∧
  ∀ (ns : List Int) (p : Addr), ns.Perm (SX.nums es) → ns.Pairwise (· ≤ ·) → H p = none → Q (.ref p) (upd H p (.lst (ns.map V.int)))
theorem cr_sortedSet (hc : X.calm = true) : CallR X (.builtin "sorted") (rSortedSet X) := by
  intro pins s σ H vs us Q I r h
  obtain ⟨a, es, rfl, hH, h64, q⟩ := h
  rw [Vals.ref1 r]
  obtain ⟨hS, _, _⟩ := I.hok a _ hH
  have hS : SX.SetI X.prog X.w s.heap a (SX.ledOf X.w) es := hS
  have hel : ElemsOf (PySem.intKind X.prog X.w) es.toList := by
    obtain ⟨_, _, _, _, _, _, hel, _⟩ := hS
    exact hel
  refine call_function_entry_kw (kw := []) kind_sorted plain_sorted entry_sorted (args_sorted1 _) ?_
  unfold Builtin.«sorted»
  refine wpAny_bind (m := checkCount "sorted" 1 1 _) (wpAny_pure ?_)
  refine wpAny_bind (SX.collect_I (by simpa using I.ok.hd hc) rfl hS fun ws h' dr tk k hp => ?_)
  have hws : ∀ v, v ∈ ws → ∃ n t, v = Value.int n t := fun v hv => by
    obtain ⟨e, he, rfl⟩ := List.mem_map.mp (hp.mem_iff.mp hv)
    obtain ⟨⟨n, hn, _⟩, _⟩ := hel e he
    obtain ⟨t, e2⟩ := Value.isInt_shape (k := n) (v := e.2) hn
    exact ⟨n, t, e2⟩
  have hi : IntsAre ws (ws.map numOf) := intsAre_map ws hws
  have hwl : ws.length = es.size := by
    have := hp.length_eq
    simpa using this
  have hsz : ws.length ≤ sizeLine := by rw [sizeLine_eq]; omega
  refine wpAny_bind (wpAny_newList ?_ hsz)
  have e0 : (h'.push (seqObj "list" ws.toArray 0)).get? h'.objs.size = some (seqObj "list" ws.toArray 0) := Heap.get?_push_size _ rfl
  refine wpAny_bind (wpAny_holding (wpAny_call_entry_kw (kw := []) slot_list_sort ⟨_, e0, rfl⟩ entry_list_sort (list_sort_tree e0 hi (by omega) fun out ns h1 h2 h3 => ⟨.none, rfl, ?_⟩) (args_list_sort _)))
  refine wpAny_pure ⟨_, rfl, ?_⟩
  obtain ⟨ep, e1⟩ := sortedHeap_at (vs := ws) (out := out) e0
  have hpn : ns.Perm (SX.nums es) := by
    refine h2.trans ?_
    have := hp.map numOf
    rw [List.map_map] at this
    exact this
  have I1 := kept_any (dr := dr) (tk := tk) I k
  refine ⟨.ref h'.objs.size, _, I1.laid (o := .lst (ns.map V.int)) (t' := tk) (fun b u e => ?_) (Nat.le_refl _) ⟨?_, out.toList, ep, vals_of_ints h1, e1⟩, rfl, q ns _ hpn h3 (I1.hok.fresh (Nat.le_refl _))⟩
  · have e : h'.get? b = some u := e
    rw [sortedHeap_old (Nat.ne_of_lt (Heap.lt_size e)) (by rw [Heap.size_push]; exact Nat.lt_succ_of_lt (Heap.lt_size e))]
    exact Heap.get?_push_of_some _ e
  · rw [List.length_map, h2.length_eq, List.length_map]
    exact hsz
section
variable {prog : Program} {w : World} {A : Around} {E : Value → Shared → Prop} {s : Shared} {a kS : Addr} {vs : List Value} {kz : List Int} {keys : Array Value} {e e1 : Nat} {P : PySem.Fin → Shared → Prop}
theorem tail_K {st : SortSt} (nk : s.heap.get? kS = some (seqObj "list" keys e)) (na : s.heap.get? a = some (seqObj "list" #[] e1)) (hka : kS ≠ a) (hk : IntsAre keys.toList kz) (hlen : kz.length = vs.length) (hZ : vs.length < 1000)
    (hp : (arrOf st).Perm (keys.zip vs.toArray)) (hs : SortedTo (arrOf st) (arrOf st).size) (hfl : failedOf st = none) (hst : Stable PyProof.Rows.intKind (arrOf st) (keys.zip vs.toArray))
    (h : ∀ h' out c, (∀ b o, b ≠ kS → b ≠ a → s.heap.get? b = some o → h'.get? b = some o) → h'.get? a = some (seqObj "list" out c) → KskOutSt false kz vs out.toList → P (.done (.ret .none)) { s with heap := h' }) :
    wpAny (model prog w) A (ksk_tail a false e1 (.ref kS) st) P E s := by
  have hL : 1000 ≤ sizeLine := by rw [sizeLine_eq]; omega
  have hsz : keys.size = vs.length := by
    have q := hk.length
    rw [Array.length_toList] at q
    omega
  have hs2 : (arrOf st).size = vs.length := by rw [hp.size_eq, Array.size_zip, hsz, List.size_toArray, Nat.min_self]
  have b1 := Heap.SameBut.update s.heap kS (Obj.mapSeq fun _ => (#[] : Array Value))
  have na1 : (s.heap.update kS (Obj.mapSeq fun _ => (#[] : Array Value))).get? a = some (seqObj "list" #[] e1) := (b1.2 a hka.symm).trans na
  have na2 := get?_update_seq na1 fun _ => (arrOf st).map (·.2)
  have b2 := Heap.SameBut.update (s.heap.update kS (Obj.mapSeq fun _ => (#[] : Array Value))) a (Obj.mapSeq fun _ => (arrOf st).map (·.2))
  unfold ksk_tail
  try dsimp only
  refine wpAny_bind (listUpdate_at nk rfl ?_ (by rw [hsz]; omega) (Nat.zero_le _))
  refine wpAny_bind (wpAny_letGo ?_)
  refine wpAny_bind (seqEpoch_at na1 rfl ?_)
  simp only [Bool.false_eq_true, if_false]
  refine wpAny_bind (listUpdate_at na1 rfl ?_ (Nat.zero_le _) (by rw [Array.size_map, hs2]; omega))
  rw [hfl]
  simp only [bne_self_eq_false, Bool.false_eq_true, if_false]
  refine wpAny_pure (h _ _ _ (fun b o c1 c2 q => (b2.2 b c2).trans ((b1.2 b c1).trans q)) na2 ?_)
  have q := ksk_outSt (b := false) (vs := vs) hk hp hs hst
  exact q
theorem end_K (nk : s.heap.get? kS = some (seqObj "list" keys e)) (na : s.heap.get? a = some (seqObj "list" #[] e1)) (hka : kS ≠ a) (hk : IntsAre keys.toList kz) (hlen : kz.length = vs.length) (hZ : vs.length < 1000)
    (h : ∀ h' out c, (∀ b o, b ≠ kS → b ≠ a → s.heap.get? b = some o → h'.get? b = some o) → h'.get? a = some (seqObj "list" out c) → KskOutSt false kz vs out.toList → P (.done (.ret .none)) { s with heap := h' }) :
    wpAny (model prog w) A (ksk_end a false vs.toArray e1 (.ref kS) keys) P E s := by
  have hsz : keys.size = vs.length := by
    have q := hk.length
    rw [Array.length_toList] at q
    omega
  have hzs : (keys.zip vs.toArray).size = vs.length := by rw [Array.size_zip, hsz, List.size_toArray, Nat.min_self]
  unfold ksk_end
  simp only [Bool.false_eq_true, if_false]
  by_cases h2 : vs.toArray.size < 2
  · rw [if_pos h2, if_pos h2]
    refine wpAny_bind (wpAny_pure ?_)
    rw [StateT.run_pure]
    refine wpAny_bind (wpAny_pure ?_)
    try dsimp only
    refine tail_K (st := SortSt.mk' general' (keys.zip vs.toArray) #[] 7 none) nk na hka hk hlen hZ (Array.Perm.refl _) (fun i j hij hj => ?_) rfl (Stable.refl _) h
    have hj' : j < (keys.zip vs.toArray).size := hj
    rw [hzs] at hj'
    rw [List.size_toArray] at h2
    obtain rfl : i = j := by omega
    exact Int.le_refl _
  · rw [if_neg h2, if_neg h2]
    rw [List.size_toArray] at h2
    rw [ksk_kind hk (by rw [hsz]; omega)]
    refine wpAny_bind (wpAny_pure ?_)
    refine wpAny_bind (wpAny_mono (wpS_sortRunsSt (κ := PyProof.Rows.intKind) (a₀ := keys.zip vs.toArray) (st := SortSt.mk' oneType' (keys.zip vs.toArray) #[] 7 none)
      (Q := fun _ st' => (arrOf st').Perm (keys.zip vs.toArray) ∧ failedOf st' = none ∧ SortedTo (arrOf st') (arrOf st').size ∧ Stable PyProof.Rows.intKind (arrOf st') (keys.zip vs.toArray))
      intKind_oneLt (ksk_keysOfInt (ksk_intKeys hk)) ⟨Array.Perm.refl _, rfl, rfl⟩ rfl (Stable.refl _) (by rw [hzs]; omega)
      fun st' c1 c2 c3 c4 => ⟨c1, c2, by rw [c1.size_eq]; exact sortedTo_of_int c3, c4⟩) ?_ fun _ _ q => q)
    rintro ⟨⟨⟩, st'⟩ s' ⟨rfl, hp, hf, hs, hst⟩
    try dsimp only
    exact tail_K nk na hka hk hlen hZ hp hs hf hst h
end
end
end X3
end
section
/- sorted(range(n), key=f), f a def of the text. -/
set_option Elab.async false
set_option linter.all false
set_option maxRecDepth 100000
namespace X3
open PySem PySem.Spec PyProof.Rows L2
section
variable {X : Cx} {pins : List (Addr × Obj)} {σ : L2.St} {H : Hp} {s : Shared}
theorem track {a : Addr} {o : HO} (I : L2.Inv X pins σ H s) (f : FpOk X pins H a) (hs : X.s_0.heap.objs.size ≤ a) (new : ObjOk X.prog X.w (upd H a o) s.heap a o) : L2.Inv X pins σ (upd H a o) s := by
  obtain ⟨f0, f1, f2, f3, f4, f5⟩ := f
  have ne : ∀ b u, H b = some u → b ≠ a := fun b u e z => by rw [z, f0] at e; cases e
  refine ⟨I.ok, I.os, I.bare, ⟨I.base.keep, I.base.slot, fun b u e n hx => ?_, I.base.there, fun b xs e => ?_, fun b u xs e => ?_, fun b ps e => ?_⟩, I.loc, I.cell, ?_, fun x c e => ?_, fun p hp => ?_, fun b u e => ?_, I.len⟩
  · rw [upd_ne (Nat.ne_of_lt (Nat.lt_of_lt_of_le (Heap.lt_size e) hs))]
    exact I.base.free b u e n hx
  · have q := I.base.tups b xs e
    rw [upd_ne (ne b _ q)]
    exact q
  · have q := I.base.frzs b u xs e
    rw [upd_ne (ne b _ q)]
    exact q
  · obtain ⟨more, q⟩ := I.base.tbls b ps e
    exact ⟨more, by rw [upd_ne (ne b _ q)]; exact q⟩
  · rw [upd_ne (Ne.symm f1)]
    exact I.free
  · rw [upd_ne (f4 x c e)]
    exact I.freeC x c e
  · obtain ⟨q1, q2, q3⟩ := I.pin p hp
    exact ⟨q1, by rw [upd_ne (f5 p hp)]; exact q2, q3⟩
  · by_cases hb : b = a
    · subst hb
      rw [upd_same] at e
      cases e
      exact new
    · rw [upd_ne hb] at e
      exact (I.hok b u e).stay (fun _ _ _ q => q) (fun c q => by rw [upd_ne (ne c _ q)]; exact q) fun c xs q => by rw [upd_ne (ne c _ q)]; exact q
section
variable {k : Nat} {f : Addr} {fd : FuncData} {ps : List Str} {sp : Sp}
theorem key_turn {n : Int} {t : Tok} {y : Int} {pins : List (Addr × Obj)} {H : Hp} {s : Shared} {A : Around} {E : Value → Shared → Prop} {Q : Value → Shared → Prop} (F : FnOk X.prog X.w X.K X.mg X.base CX0 k f fd ps sp) (hr : Room k A) (hA : Env0 X.prog X.w X.K X.mg X.base A X.stack s H) (hb : Binds X.K fd ps [])
    (I : L2.Inv X pins σ H s) (hsp : ∀ Q : VK, (∀ H', Same H H' → Q (.int y) H') → sp [.int n] H Q E0) (h : ∀ s' H' t', L2.Inv X pins σ H' s' → Same H H' → Q (.int y t') s') : wpAny (model X.prog X.w) A (call (.ref f) [.int n t]) Q E s := by
  have q : sp [V.int n] H (fun v H' => v = .int y ∧ Same H H') E0 := hsp _ fun H' e => ⟨rfl, e⟩
  have hl : ([Value.int n t] ++ ([] : List Value)).length = ps.length := F.len _ _ _ _ q
  refine wpAny_call (codeAny_mono (F.run A X.stack s H ⟨[.int n t], []⟩ [.int n t] [.int n] _ E0 hr hA (hb s [.int n t] I.kIn hl) (.cons ⟨t, rfl⟩ .nil) q) fun r s' hq => ?_)
  cases r with
  | error e => exact (hq : False).elim
  | ok fl =>
    cases fl with
    | ret u =>
      obtain ⟨v, H', I', ru, ev, e⟩ := I.after hq
      subst ev
      obtain ⟨t', rfl⟩ := ru
      exact h s' H' t' I' e
    | next => exact (hq : False).elim
    | brk => exact (hq : False).elim
    | cont => exact (hq : False).elim
theorem fp_pin {L : Addr} {o : Obj} {pins : List (Addr × Obj)} {H : Hp} {s : Shared} (I : L2.Inv X pins σ H s) (f : FpOk X pins H L) (e : s.heap.get? L = some o) (d : ∀ v, o.data ≠ .cell v) : L2.Inv X (pins ++ [(L, o)]) σ H s :=
  I.pins_of fun p hp => (List.mem_append.mp hp).elim (fun z => I.pin p (List.mem_append_right _ z)) fun z => by
    rw [List.mem_singleton.mp z]
    exact ⟨e, f.1, f.2.1, f.2.2.1, d⟩
theorem fp_more {L : Addr} {o : Obj} {b : Addr} {pins : List (Addr × Obj)} {H : Hp} (f : FpOk X pins H b) (hb : L ≠ b) : FpOk X (pins ++ [(L, o)]) H b :=
  ⟨f.1, f.2.1, f.2.2.1, f.2.2.2.1, f.2.2.2.2.1, fun p hp => by
    rw [← List.append_assoc] at hp
    rcases List.mem_append.mp hp with z | z
    · exact f.2.2.2.2.2 p z
    · rw [List.mem_singleton.mp z]
      exact hb⟩
theorem fp_heap {b : Addr} {pins : List (Addr × Obj)} {H H' : Hp} (f : FpOk X pins H b) (h : H' b = none) : FpOk X pins H' b := ⟨h, f.2⟩
theorem seq_nocell {n : String} {xs : Array Value} {e : Nat} (v : Option Value) : (seqObj n xs e).data ≠ .cell v := fun z => nomatch z
theorem rest_K {vs : List Value} {L kS : Addr} {e1 : Nat} {g : Nat → Int} {A : Around} {E : Value → Shared → Prop} {P : PySem.Fin → Shared → Prop} (F : FnOk X.prog X.w X.K X.mg X.base CX0 k f fd ps sp) (hr : Room k A)
    (hA : ∀ {pins' s' H'}, L2.Inv X pins' σ H' s' → Env0 X.prog X.w X.K X.mg X.base A X.stack s' H') (hb : Binds X.K fd ps []) (I : L2.Inv X pins σ H s) (hv : ∀ (i : Nat) (v : Value), vs[i]? = some v → ∃ t, v = Value.int (i : Nat) t) (hN : vs.length < 1000)
    (hsp : ∀ (i : Nat) (H : Hp) (Q : VK), i < vs.length → (∀ H', Same H H' → Q (.int (g i)) H') → sp [.int (i : Nat)] H Q E0)
    (eL : s.heap.get? L = some (seqObj "list" #[] e1)) (eK : s.heap.get? kS = some (seqObj "list" #[] 0)) (fL : FpOk X pins H L) (fK : FpOk X pins H kS) (hne : kS ≠ L)
    (h : ∀ s' H' out c, L2.Inv X pins σ H' s' → Same H H' → FpOk X pins H' L → s'.heap.get? L = some (seqObj "list" out c) → KskOutSt false ((List.range vs.length).map g) vs out.toList → P (.done (.ret .none)) s') :
    wpAny (model X.prog X.w) A (ksk_rest L (.ref f) false vs.toArray e1 (.ref kS)) P E s := by
  have hz : 1000 ≤ sizeLine := by rw [sizeLine_eq]; omega
  have hkz : ∀ i, i < vs.length → ((List.range vs.length).map g)[i]? = some (g i) := fun i hi => by
    rw [List.getElem?_map, List.getElem?_range hi]
    rfl
  unfold ksk_rest
  refine wpAny_bind (wpAny_rule ?_)
  rw [List.forIn_toArray]
  refine wpAny_bind (ksk_fold (fun i s' => ∃ H' kA e, L2.Inv X ((pins ++ [(L, seqObj "list" #[] e1)]) ++ [(kS, seqObj "list" kA e)]) σ H' s' ∧ Same H H' ∧ FpOk X pins H' L ∧ FpOk X pins H' kS ∧ IntsAre kA.toList (((List.range vs.length).map g).take i)) vs 0 s
    ⟨H, #[], 0, fp_pin (fp_pin I fL eL fun v => seq_nocell v) (fp_more fK (Ne.symm hne)) eK (fun v => seq_nocell v), fun _ _ q => q, fL, fK, by simpa using IntsAre.nil⟩ ?step ?done)
  case step =>
    rintro j x s1 hx ⟨H1, kA, e, I1, sm, fL1, fK1, hk⟩
    rw [Nat.zero_add] at hk ⊢
    have hj : j < vs.length := (List.getElem?_eq_some_iff.mp hx).1
    obtain ⟨t, rfl⟩ := hv j x hx
    have hsz : kA.size = j := by
      have q := hk.length
      rw [Array.length_toList, List.length_take, List.length_map, List.length_range] at q
      omega
    refine wpAny_bind (wpAny_attempt (key_turn (y := g j) F hr (hA I1) hb I1 (fun Q q => hsp j H1 Q hj q) fun s2 H2 t2 I2 sm2 => ?_))
    try dsimp only
    have eK2 : s2.heap.get? kS = some (seqObj "list" kA e) := (I2.pin (kS, seqObj "list" kA e) (by simp)).1
    have nK2 : H2 kS = none := (I2.pin (kS, seqObj "list" kA e) (by simp)).2.1
    have eL2 : s2.heap.get? L = some (seqObj "list" #[] e1) := (I2.pin (L, seqObj "list" #[] e1) (by simp)).1
    have nL2 : H2 L = none := (I2.pin (L, seqObj "list" #[] e1) (by simp)).2.1
    have I3 : L2.Inv X pins σ H2 s2 := (I2.unpinned).unpinned
    have fL2 := fp_heap fL1 nL2
    have fK2 := fp_heap fK1 nK2
    have b1 := Heap.SameBut.update s2.heap kS (Obj.mapSeq (·.push (Value.int (g j) t2)))
    have eK3 := get?_update_seq eK2 (·.push (Value.int (g j) t2))
    refine wpAny_bind (listUpdate_at eK2 rfl ?_ (by omega) (by rw [Array.size_push]; omega))
    have I4 : L2.Inv X pins σ H2 { s2 with heap := s2.heap.update kS (Obj.mapSeq (·.push (Value.int (g j) t2))), toks := s2.toks } :=
      I3.turnedL (ch := [kS]) (fun b o hb q => (b1.2 b (fun z => hb (by simp [z]))).trans q) fun b hb => by rw [List.mem_singleton.mp hb]; exact fK2
    refine wpAny_pure ⟨rfl, H2, _, _, fp_pin (fp_pin I4 fL2 ((b1.2 L (Ne.symm hne)).trans eL2) fun v => seq_nocell v) (fp_more fK2 (Ne.symm hne)) eK3 (fun v => seq_nocell v), sm.trans sm2, fL2, fK2, ?_⟩
    have e5 : ((List.range vs.length).map g).take (j + 1) = ((List.range vs.length).map g).take j ++ [g j] := by
      rw [List.take_add_one, hkz j hj]
      rfl
    rw [e5, Array.toList_push]
    exact ksk_snoc hk
  case done =>
    rintro s1 ⟨H1, kA, e, I1, sm, fL1, fK1, hk⟩
    rw [Nat.zero_add, List.take_of_length_le (by rw [List.length_map, List.length_range]; exact Nat.le_refl _)] at hk
    have eK2 : s1.heap.get? kS = some (seqObj "list" kA e) := (I1.pin (kS, seqObj "list" kA e) (by simp)).1
    have eL2 : s1.heap.get? L = some (seqObj "list" #[] e1) := (I1.pin (L, seqObj "list" #[] e1) (by simp)).1
    have I3 : L2.Inv X pins σ H1 s1 := (I1.unpinned).unpinned
    try dsimp only
    refine wpAny_bind (listItems_at eK2 rfl ?_)
    refine end_K eK2 eL2 hne hk (by rw [List.length_map, List.length_range]) hN fun h' out c kp eL3 ko => ?_
    refine h { s1 with heap := h' } H1 out c (I3.turnedL (t' := s1.toks) (ch := [kS, L]) (fun b o hb q => kp b o (fun z => hb (by simp [z])) (fun z => hb (by simp [z])) q) fun b hb => ?_) sm fL1 eL3 ko
    rcases List.mem_cons.mp hb with z | z
    · rw [z]; exact fK1
    · rw [List.mem_singleton.mp z]; exact fL1
end
end
end X3
end
section
set_option Elab.async false
set_option linter.all false
set_option maxRecDepth 100000
namespace X3
open PySem PySem.Spec PyProof.Rows L2
noncomputable def orderK (M N : Nat) (g : Nat → Int) : List Nat := (List.range M).flatMap fun (m : Nat) => (List.range N).filter fun i => g i == (m : Int)
noncomputable def IsN (i : Nat) (v : Value) : Prop := ∃ t, v = Value.int (i : Nat) t
theorem pair_range : ∀ (vs : List Value) (o : Nat), (∀ (i : Nat) (v : Value), vs[i]? = some v → ∃ t, v = Value.int ((o + i : Nat) : Int) t) → Paired IsN (List.range' o vs.length) vs
  | [], _, _ => .nil
  | v :: vs, o, h => by
    rw [List.length_cons, List.range'_succ]
    refine .cons (by simpa [IsN] using h 0 v rfl) (pair_range vs (o + 1) fun i x e => ?_)
    have := h (i + 1) x (by simpa using e)
    rw [show o + 1 + i = o + (i + 1) by omega]
    exact this
theorem row_vals (g : Nat → Int) (m : Int) : ∀ {is : List Nat} {vs : List Value}, Paired IsN is vs → Vals ((is.filter fun i => g i == m).map fun (i : Nat) => V.int i) ((((is.map g).zip vs).filter fun p => p.1 == m).map (·.2))
  | _, _, .nil => .nil
  | i :: is, v :: vs, .cons r t => by
    have ih := row_vals g m t
    rw [List.filter_cons, List.map_cons, List.zip_cons_cons, List.filter_cons]
    dsimp only
    by_cases h : (g i == m) = true
    · rw [if_pos h, if_pos h]
      exact .cons r ih
    · rw [if_neg h, if_neg h]
      exact ih
theorem flat_vals {f : Nat → List Nat} {k : Nat → List (Int × Value)} (h : ∀ m, Vals ((f m).map fun (i : Nat) => V.int i) ((k m).map (·.2))) : ∀ l : List Nat, Vals ((l.flatMap f).map fun (i : Nat) => V.int i) ((l.flatMap k).map (·.2))
  | [] => .nil
  | m :: l => by
    rw [List.flatMap_cons, List.flatMap_cons, List.map_append, List.map_append]
    exact (h m).append (flat_vals h l)
theorem out_vals {M : Nat} {g : Nat → Int} {vs out : List Value} (hv : ∀ (i : Nat) (v : Value), vs[i]? = some v → ∃ t, v = Value.int (i : Nat) t) (hg : ∀ i, i < vs.length → 0 ≤ g i ∧ g i < (M : Int))
    (ko : KskOutSt false ((List.range vs.length).map g) vs out) : Vals ((orderK M vs.length g).map fun (i : Nat) => V.int i) out := by
  obtain ⟨ps, hp, ho, hs, hst⟩ := ko
  have hs' : ps.Pairwise fun p q => p.1 ≤ q.1 := by simpa using hs
  have hb : ∀ p ∈ ps, 0 ≤ p.1 ∧ p.1 < (M : Int) := fun p hq => by
    have h1 := (List.of_mem_zip (a := p.1) (b := p.2) (hp.mem_iff.mp hq)).1
    obtain ⟨i, hi, e⟩ := List.mem_map.mp h1
    rw [← e]
    exact hg i (List.mem_range.mp hi)
  have e := SM.rows M ps hs' hb
  have e2 : ps = (List.range M).flatMap fun (m : Nat) => ((((List.range vs.length).map g).zip vs).filter fun p => p.1 == (m : Int)) := by
    refine e.trans (SM.fm_congr _ fun m _ => hst (m : Int))
  rw [ho, e2]
  have pr : Paired IsN (List.range vs.length) vs := by
    rw [List.range_eq_range']
    exact pair_range vs 0 fun i v q => by simpa using hv i v q
  exact flat_vals (fun m => row_vals g (m : Int) pr) _
section
variable {X : Cx} {pins : List (Addr × Obj)} {σ : L2.St} {H : Hp} {s : Shared} {k : Nat} {f : Addr} {fd : FuncData} {ps : List Str} {sp : Sp}
theorem room2 {k : Nat} {A : Around} (r : Room (k + 2) A) : Room k A.in1.in1 := (Room.in1 (k := k + 1) r).in1
theorem sortK_call {M N : Nat} {r : Addr} {g : Nat → Int} {t u v : Tok} {Q : VK} (hc : X.calm = true) (F : FnOk X.prog X.w X.K X.mg X.base CX0 k f fd ps sp) (hr : Room (k + 2) X.A) (hb : Binds X.K fd ps []) (I : L2.Inv X pins σ H s) (hN : N < 1000)
    (er : IsRange s.heap r 0 (N : Int) 1 t u v) (hg : ∀ i, i < N → 0 ≤ g i ∧ g i < (M : Int)) (hsp : ∀ (i : Nat) (H : Hp) (Q : VK), i < N → (∀ H', Same H H' → Q (.int (g i)) H') → sp [.int (i : Nat)] H Q E0)
    (q : ∀ H' p, Same H H' → H' p = some (.lst ((orderK M N g).map fun (i : Nat) => V.int i)) → H p = none → Q (.ref p) H') :
    wpAny (model X.prog X.w) X.A (call (.builtin "sorted") [.ref r] [(Str.ofString "key", .ref f)]) (EP X pins σ Q) X.xe s := by
  have hz : 1000 ≤ sizeLine := by rw [sizeLine_eq]; omega
  refine call_function_entry_kw kind_sorted plain_sorted entry_sorted (ksk_s1 _ _) ?_
  unfold Builtin.«sorted»
  refine wpAny_bind (m := checkCount "sorted" 1 1 _) (wpAny_pure ?_)
  have hsz : Builtin.Range.rangeSize 0 (N : Int) 1 = (N : Int) := by rw [rangeSize_one]; split <;> omega
  refine wpAny_bind (SX.collect_R (by simpa using I.ok.hd hc) er (small_one (by omega) (by omega) (by omega) (by omega)) hsz (by omega) fun vs h1 tk kp hl hv => ?_)
  have hv' : ∀ (i : Nat) (v : Value), vs[i]? = some v → ∃ t, v = Value.int (i : Nat) t := fun i v e => by simpa using hv i v e
  subst hl
  have I1 := kept_any (dr := s.drawn) (tk := tk) I kp
  refine wpAny_bind (wpAny_newList ?_ (by omega))
  -- the list that is sorted stands at L
  generalize hL : h1.objs.size = L
  have eL : (h1.push (seqObj "list" vs.toArray 0)).get? L = some (seqObj "list" vs.toArray 0) := by rw [← hL]; exact Heap.get?_push_size _ rfl
  have k2 : ∀ b o, h1.get? b = some o → (h1.push (seqObj "list" vs.toArray 0)).get? b = some o := fun b o e => Heap.get?_push_of_some _ e
  have sz2 : (h1.push (seqObj "list" vs.toArray 0)).objs.size = L + 1 := by rw [Heap.size_push, hL]
  generalize hh2 : h1.push (seqObj "list" vs.toArray 0) = h2 at eL k2 sz2
  have hh2' : h1.push { cls := Value.type "list", data := Data.seq vs.toArray } = h2 := hh2
  refine wpAny_bind (wpAny_holding (wpAny_call_entry_kw slot_list_sort ⟨_, eL, rfl⟩ entry_list_sort ?body (ksk_l1 _ _)))
  case body =>
    rw [ksk_t1]
    unfold ksk_tree
    refine wpAny_bind (listItems_at eL rfl ?_)
    refine wpAny_bind (listUpdate_at eL rfl ?_ (by rw [List.size_toArray]; omega) (Nat.zero_le _))
    have b3 := Heap.SameBut.update h2 L (Obj.mapSeq fun _ => (#[] : Array Value))
    have eL3 := get?_update_seq eL fun _ => (#[] : Array Value)
    generalize hh3 : h2.update L (Obj.mapSeq fun _ => (#[] : Array Value)) = h3 at b3 eL3
    have sz3 : h3.objs.size = L + 1 := by rw [← hh3, Heap.size_update, sz2]
    refine wpAny_bind (seqEpoch_at eL3 rfl ?_)
    refine wpAny_bind (wpAny_newTuple ?_ (by show vs.length ≤ _; omega))
    refine wpAny_bind (wpAny_newList ?_ (Nat.zero_le _))
    refine wpAny_holding ?_
    have k4 : ∀ b o, h3.get? b = some o → ((h3.push (seqObj "tuple" vs.toArray 0)).push (seqObj "list" #[] 0)).get? b = some o := fun b o e => Heap.get?_push_of_some _ (Heap.get?_push_of_some _ e)
    have eK : ((h3.push (seqObj "tuple" vs.toArray 0)).push (seqObj "list" #[] 0)).get? (L + 2) = some (seqObj "list" #[] 0) := by
      have e := Heap.get?_push_size (h3.push (seqObj "tuple" vs.toArray 0)) (o := seqObj "list" #[] 0) rfl
      rwa [Heap.size_push, sz3] at e
    have hK : (h3.push (seqObj "tuple" vs.toArray 0)).objs.size = L + 2 := by rw [Heap.size_push, sz3]
    have keep : ∀ b o, h1.get? b = some o → ((h3.push (seqObj "tuple" vs.toArray 0)).push (seqObj "list" #[] 0)).get? b = some o := fun b o e => by
      refine k4 b o ?_
      have hbL : b ≠ L := fun z => by
        have := Heap.lt_size e
        rw [hL, z] at this
        exact Nat.lt_irrefl _ this
      exact (b3.2 b hbL).trans (k2 b o e)
    have I2 := kept_any (dr := s.drawn) (tk := tk) I1 keep
    have le1 : (({ s with heap := h1, drawn := s.drawn, toks := tk } : Shared)).heap.objs.size ≤ L := Nat.le_of_eq hL
    have le2 : (({ s with heap := h1, drawn := s.drawn, toks := tk } : Shared)).heap.objs.size ≤ L + 2 := Nat.le_trans le1 (Nat.le_add_right _ _)
    have fL : FpOk X pins H L := I1.fpOk le1 (I1.hok.fresh le1)
    have fK : FpOk X pins H (L + 2) := I1.fpOk le2 (I1.hok.fresh le2)
    have hnew : X.s_0.heap.objs.size ≤ L := Nat.le_trans I1.sz le1
    show wpAny (model X.prog X.w) X.A.in1.in1 (ksk_rest L (.ref f) false vs.toArray _ (.ref (h3.push (seqObj "tuple" vs.toArray 0)).objs.size)) _ _ { s with heap := (h3.push (seqObj "tuple" vs.toArray 0)).push (seqObj "list" #[] 0), toks := tk }
    rw [hK]
    refine rest_K F (room2 hr) (fun I' => (I'.env0.in1).in1) hb I2 hv' hN hsp (k4 L _ eL3) eK fL fK (fun z => absurd z (by simp)) fun s5 H5 out c I5 sm fL5 e5 ko => ?_
    refine ⟨.none, rfl, ?_⟩
    refine wpAny_pure ⟨_, rfl, ?_⟩
    have hvals := out_vals (M := M) hv' hg ko
    have e5' : s5.heap.get? L = some { cls := Value.type "list", data := Data.seq out c } := e5
    have hlen : ((orderK M vs.length g).map fun (i : Nat) => V.int i).length ≤ sizeLine := by
      rw [hvals.length]
      obtain ⟨ps', hp', ho', _⟩ := ko
      rw [ho', List.length_map, hp'.length_eq, List.length_zip, List.length_map, List.length_range, Nat.min_self]
      omega
    refine ⟨.ref L, _, track (o := .lst ((orderK M vs.length g).map fun (i : Nat) => V.int i)) I5 fL5 hnew ⟨hlen, out.toList, c, hvals, by simpa using e5'⟩, rfl, q _ L (fun b o e => ?_) upd_same fL.1⟩
    rw [upd_ne (ne_of_none (sm b o e) fL5.1)]
    exact sm b o e
end
end X3
end
section
set_option Elab.async false
set_option linter.all false
set_option maxRecDepth 100000
namespace X3
open PySem PySem.Spec PyProof.Rows L2
section
variable {X : Cx} {k : Nat} {f : Addr} {fd : FuncData} {ps : List Str} {sp : Sp} {e : Expr} {x : Str} {p p2 p3 pos pos2 kpos : Pos} {ta : TA}
noncomputable def tSortK (M : Nat) (g : Nat → Int) (sp : Sp) (ta : TA) : TE := fun σ H Q => ta σ H fun vs H1 => ∃ N : Nat, vs = [.int (N : Nat)] ∧ N < 1000 ∧ (∀ i, i < N → 0 ≤ g i ∧ g i < (M : Int)) ∧
  (∀ (i : Nat) (H : Hp) (Q : VK), i < N → (∀ H', Same H H' → Q (.int (g i)) H') → sp [.int (i : Nat)] H Q E0) ∧ ∀ H' q, Same H1 H' → H' q = some (.lst ((orderK M N g).map fun (i : Nat) => V.int i)) → H1 q = none → Q (.ref q) H'
theorem pe_sortK (M : Nat) (g : Nat → Int) (hc : X.calm = true) (F : FnOk X.prog X.w X.K X.mg X.base CX0 k f fd ps sp) (hr : Room (k + 2) X.A) (hb : Binds X.K fd ps []) (hgS : Gl X "sorted") (hmS : X.mg "sorted" = none) (hgR : Gl X "range") (hmR : X.mg "range" = none)
    (hgx : Gl X x) (hmx : X.mg x = some (.ref f)) (ha : PA X [e] ta) (hs : starEach [e] X.env = [(false, eval e X.env)] := by rfl) (hdx : (x == ("__debug__" : Str)) = false := by decide)
    (hs2 : starEach [Expr.Call (.Name "range" p2) [e] [] pos2] X.env = [(false, eval (.Call (.Name "range" p2) [e] [] pos2) X.env)] := by rfl) :
    PE X (.Call (.Name "sorted" p) [.Call (.Name "range" p2) [e] [] pos2] [⟨some "key", .Name x p3, kpos⟩] pos) (tSortK M g sp ta) := by
  intro pins s σ H Q I h
  refine wpAny_Call_Name_kw (ld_blt I hgS hmS boot_sorted ?_)
  refine callWith_kw ?_ (by rw [hs2]; rfl) (by rw [hs2]; rfl)
  rw [hs2]
  refine Calls.spliced_cons ?_
  refine Call_ (ld_blt I hgR hmR boot_range (PyProof.Rows.callWith_type1 (thn (ha pos2 pins s σ H _ I h) fun us s1 ⟨vs, H1, I1, r1, q1⟩ => ?_) hs rfl))
  obtain ⟨N, rfl, hN, hg, hsp, q⟩ := q1
  cases r1 with
  | cons r rr =>
    cases rr
    obtain ⟨t, rfl⟩ := r
    refine call_range_1 ?_
    refine Calls.spliced_nil ?_
    refine kws_cons (ld_glob (s := { s1 with heap := _, toks := _ }) (H := H1) (σ := σ) (pins := pins) (I1.kept fun b o e => Heap.get?_push_of_some _ e) hgx hmx ?_ hdx)
    refine kws_nil ?_
    exact sortK_call hc F hr hb (I1.kept fun b o e => Heap.get?_push_of_some _ e) hN (IsRange.new ..) hg hsp q
end
end X3
end
section
set_option Elab.async false
set_option linter.all false
set_option maxRecDepth 100000
/- A dict whose keys are pairs (a tuple of ints, an int) and whose values are lists or None. -/
namespace X3
open PySem PySem.Spec PyProof.Rows L2
open PK (PKey pairKind IsP)
noncomputable abbrev Ent := PKey × Addr × Option Addr
noncomputable def valU : Option Addr → Value
  | none => .none
  | some p => .ref p
noncomputable def valW : Option Addr → V
  | none => .non
  | some p => .ref p
theorem val_rel : ∀ o : Option Addr, RelV (valW o) (valU o)
  | none => rfl
  | some _ => rfl
noncomputable def raw (es : List Ent) : List (PKey × Addr × Value) := es.map fun x => (x.1, x.2.1, valU x.2.2)
noncomputable def look (es : List Ent) (k : PKey) : Option (Option Addr) := (es.find? fun x => decide (x.1 = k)).map fun x => x.2.2
noncomputable def KnObj (P : Program) (w : World) (d : Addr) (es : List Ent) (h : Heap) : Prop := ((d == sysModules) = false ∧ es.length ≤ sizeLine) ∧
  ∃ o en ep, h.get? d = some o ∧ o.ExactDict ∧ o.data = .dict en ep ∧ en.toList = (raw es).map (entryOfKey (pairKind P w)) ∧ ((raw es).map (·.1)).Nodup
noncomputable def knO (P : Program) (w : World) (d : Addr) (es : List Ent) : HO := .ext (KnObj P w d es)
noncomputable def KeyAt (H : Hp) (a : Addr) (k : PKey) : Prop := ∃ ft : Addr, H a = some (.tup [.ref ft, .int k.2]) ∧ H ft = some (.tup (k.1.map V.int))
structure Known (P : Program) (w : World) (H : Hp) (d : Addr) (es : List Ent) : Prop where
  obj : H d = some (knO P w d es)
  keys : ∀ x ∈ es, KeyAt H x.2.1 x.1
section
variable {P : Program} {w : World} {H : Hp} {h : Heap} {a d : Addr} {k : PKey} {es : List Ent}
theorem kn_ok {h : Heap} (x : KnObj P w d es h) : ObjOk P w H h d (knO P w d es) := by
  refine ⟨x, ?_, fun h1 h2 y q => ?_⟩
  · obtain ⟨_, o, _, _, e, _⟩ := x
    exact ⟨o, e⟩
  · obtain ⟨z, o, en, ep, e, r⟩ := y
    exact ⟨z, o, en, ep, q o e, r⟩
theorem items_ints : ∀ {ks : List Int} {us : List Value}, Vals (ks.map V.int) us → ItemsAre (PySem.intKind P w) ks us
  | [], _, r => by rw [List.map_nil] at r; cases r; exact .nil
  | k :: ks, _, r => by
    rw [List.map_cons] at r
    cases r with
    | cons q t =>
      obtain ⟨tk, rfl⟩ := q
      exact .cons (intKind_is _ _ _ _) (items_ints t)
theorem is_key (ok : HOk P w H h) (e : KeyAt H a k) : IsP P w h k a := by
  obtain ⟨ft, e1, e2⟩ := e
  obtain ⟨_, its, r, o, h1, h2, n, h3⟩ := (show ObjOk P w H h a (.tup [.ref ft, .int k.2]) from ok a _ e1)
  obtain ⟨_, its2, r2, o2, g1, g2, n2, g3⟩ := (show ObjOk P w H h ft (.tup (k.1.map V.int)) from ok ft _ e2)
  cases r with
  | cons q1 t =>
    cases t with
    | cons q2 t =>
      cases t
      cases q1
      obtain ⟨tk, rfl⟩ := q2
      exact ⟨o, n, ft, tk, h1, h2, h3, o2, its2.toArray, n2, g1, g2, g3, by simpa using items_ints r2⟩
theorem Known.dict (K : Known P w H d es) (ok : HOk P w H h) : (d == sysModules) = false ∧ es.length ≤ sizeLine ∧ h.DictOfH (pairKind P w) d (raw es) := by
  obtain ⟨⟨⟨z, y⟩, o, en, ep, h1, h2, h3, h4, h5⟩, _⟩ := (show ObjOk P w H h d (knO P w d es) from ok d _ K.obj)
  refine ⟨z, y, o, en, ep, h1, h2, h3, h4, fun x hx => ?_, h5⟩
  obtain ⟨q, hq, rfl⟩ := List.mem_map.mp hx
  exact is_key ok (K.keys q hq)
theorem at_raw (k : PKey) : ∀ es : List Ent, atKey (raw es) k = (es.find? fun x => decide (x.1 = k)).map fun x => (x.2.1, valU x.2.2)
  | [] => rfl
  | x :: es => by
    have ih := at_raw k es
    unfold atKey raw at ih ⊢
    rw [List.map_cons, List.find?_cons, List.find?_cons]
    by_cases q : x.1 = k
    · simp [q]
    · simp only [q, decide_false]
      exact ih
theorem at_look (k : PKey) (es : List Ent) : (atKey (raw es) k).map (·.2) = (look es k).map valU := by
  rw [at_raw]
  unfold look
  cases es.find? fun x => decide (x.1 = k) <;> rfl
theorem at_some (k : PKey) (es : List Ent) : (atKey (raw es) k).isSome = (look es k).isSome := by
  rw [at_raw]
  unfold look
  cases es.find? fun x => decide (x.1 = k) <;> rfl
end
section
variable {X : Cx} {o i value : Expr} {pos pos' : Pos} {td ty tv : TE}
inductive KGetR (P : Program) (w : World) (Q : VK) (x y : V) (H2 : Hp) : Prop
  | mk (d : Addr) (es : List Ent) (b : Addr) (k : PKey) (v : Option Addr) (ex : x = .ref d) (ey : y = .ref b) (h : Known P w H2 d es) (hk : KeyAt H2 b k) (l : look es k = some v) (q : Q (valW v) H2)
noncomputable def tKGet (P : Program) (w : World) (td ty : TE) : TE := fun σ H Q => td σ H fun x H1 => ty σ H1 (KGetR P w Q x)
inductive KNotR (P : Program) (w : World) (Q : VK) (y x : V) (H2 : Hp) : Prop
  | mk (d : Addr) (es : List Ent) (b : Addr) (k : PKey) (ex : x = .ref d) (ey : y = .ref b) (h : Known P w H2 d es) (hk : KeyAt H2 b k) (q : Q (.bl (!(look es k).isSome)) H2)
noncomputable def tKNotIn (P : Program) (w : World) (ty td : TE) : TE := fun σ H Q => ty σ H fun y H1 => td σ H1 (KNotR P w Q y)
inductive KPutR (P : Program) (w : World) (Q : Hp → Prop) (v x y : V) (H3 : Hp) : Prop
  | mk (d : Addr) (es : List Ent) (b : Addr) (k : PKey) (u : Option Addr) (ex : x = .ref d) (ey : y = .ref b) (ev : v = valW u) (h : Known P w H3 d es) (hk : KeyAt H3 b k) (l : look es k = none) (n : es.length < 100000) (q : Q (upd H3 d (knO P w d (es ++ [(k, b, u)]))))
noncomputable def sKPut (P : Program) (w : World) (td ty tv : TE) : TS := fun D σ H => tv σ H fun v H1 => td σ H1 fun x H2 => ty σ H2 (KPutR P w (D.nx σ) v x)
theorem room_P {A : Around} (hu : A.units + 64 < cLine) : (pairKind X.prog X.w).room A.in1 := by
  show A.units + 1 + 8 < cLine
  omega
theorem pe_kget (hu : X.A.units + 64 < cLine) (ho : PE X o td) (hi : PE X i ty) (hs : NoSl i) : PE X (.Subscript o i pos) (tKGet X.prog X.w td ty) := by
  intro pins s σ H Q I h
  refine subD_of PySem.F.slot_dict_getitem.lookup hs (thn (ho pins s σ H _ I h) fun u s1 ⟨x, H1, I1, rx, q1⟩ => thn (hi pins s1 σ H1 _ I1 q1) fun iv s2 ⟨y, H2, I2, ry, d, es, b, k, v, ex, ey, K, ka, l, q2⟩ => ?_)
  subst ex ey
  obtain rfl : u = Value.ref d := rx
  obtain rfl : iv = Value.ref b := ry
  obtain ⟨z1, z2, dd⟩ := K.dict I2.hok
  have e : (atKey (raw es) k).map (·.2) = some (valU v) := by rw [at_look, l]; rfl
  obtain ⟨p, hp, hp2⟩ := Option.map_eq_some_iff.mp e
  refine ⟨dd.typeIs, wpAny_getItem_heap (room_P hu) (is_key I2.hok ka) dd hp ?_⟩
  rw [hp2]
  exact ⟨valW v, H2, I2.tok _, val_rel v, q2⟩
theorem pc_knotin (hu : X.A.units + 64 < cLine) (hi : PE X i ty) (ho : PE X o td) : PC X .NotIn i o (tKNotIn X.prog X.w ty td) := by
  intro pins s σ H Q I h
  refine thn (hi pins s σ H _ I h) fun iv s1 ⟨y, H1, I1, ry, q1⟩ => thn (ho pins s1 σ H1 _ I1 q1) fun u s2 ⟨x, H2, I2, rx, d, es, b, k, ex, ey, K, ka, q2⟩ => ?_
  subst ex ey
  obtain rfl : u = Value.ref d := rx
  obtain rfl : iv = Value.ref b := ry
  obtain ⟨z1, z2, dd⟩ := K.dict I2.hok
  refine wpAny_notIn_heap (room_P hu) (is_key I2.hok ka) z1 dd ?_
  rw [at_some]
  exact ⟨.bl _, H2, I2.tok _, rfl, q2⟩
theorem ps_kput (hu : X.A.units + 64 < cLine) (ho : PE X o td) (hi : PE X i ty) (hv : PE X value tv) (hs : swapsWith value (some (.Subscript o i pos')) pos.line X.env = pure false) :
    PS X (.Assign [.Subscript o i pos'] value pos) (sKPut X.prog X.w td ty tv) := by
  intro pins s σ H D I h
  refine wpAny_Assign_Subscript (thn (hv pins s σ H _ I h) fun r s1 ⟨v, H1, I1, rv, q1⟩ => thn (ho pins s1 σ H1 _ I1 q1) fun u s2 ⟨x, H2, I2, rx, q2⟩ => thn (hi pins s2 σ H2 _ I2 q2) fun iv s3 ⟨y, H3, I3, ry, d, es, b, k, u3, ex, ey, ev, K, ka, l, hl, q3⟩ => ?_) hs
  subst ex ey ev
  obtain rfl : u = Value.ref d := rx
  obtain rfl : iv = Value.ref b := ry
  have er : r = valU u3 := by
    cases u3 with
    | none => exact rv
    | some p => exact rv
  subst er
  obtain ⟨z1, z2, dd⟩ := K.dict I3.hok
  have hz : 100000 ≤ sizeLine := by rw [sizeLine_eq]; omega
  have hn : atKey (raw es) k = none := by
    have q := at_some k es
    rw [l] at q
    cases e : atKey (raw es) k with
    | none => rfl
    | some _ => rw [e] at q; cases q
  refine wpAny_setItem_heap (hsz := by unfold raw; rw [List.length_map]; exact z2) (room_P hu) (is_key I3.hok ka) dd fun h' dd' hsb => ?_
  rw [storedH_new hn] at dd'
  have e2 : raw es ++ [(k, b, valU u3)] = raw (es ++ [(k, b, u3)]) := by
    unfold raw
    rw [List.map_append]
    rfl
  rw [e2] at dd'
  obtain ⟨ob, en, ep, g1, g2, g3, g4, _, g5⟩ := dd'
  refine ⟨σ, _, d_write (ob := knO X.prog X.w d (es ++ [(k, b, u3)])) I3 (by rw [K.obj]; exact True.intro) hsb ⟨ob, g1⟩ (kn_ok ⟨⟨z1, ?_⟩, ob, en, ep, g1, g2, g3, g4, g5⟩), q3⟩
  rw [List.length_append, List.length_singleton]
  omega
noncomputable def tKNew (P : Program) (w : World) : TE := fun _ H Q => ∀ p, H p = none → Q (.ref p) (upd H p (knO P w p []))
theorem pe_knew : PE X (.Dict [] [] pos) (tKNew X.prog X.w) := fun pins s σ H Q I h =>
  wpAny_Dict_empty ⟨.ref s.heap.objs.size, _, I.laid (a := s.heap.objs.size) (o := knO X.prog X.w s.heap.objs.size []) (t' := s.toks) (fun _ _ q => Heap.get?_push_of_some _ q) (Nat.le_refl _)
    (kn_ok ⟨⟨beq_eq_false_iff_ne.mpr (Ne.symm (Nat.ne_of_lt I.big)), Nat.zero_le _⟩, _, #[], 0, Heap.get?_push_size _ rfl, ⟨rfl, rfl, rfl⟩, rfl, rfl, List.nodup_nil⟩), rfl, h _ (I.hok.fresh (Nat.le_refl _))⟩
end
end X3
end
section
set_option Elab.async false
set_option linter.all false
set_option maxRecDepth 100000
/- Loops over enumerate, zip, items and a range with a step; bits. -/
namespace X3
open PySem PySem.Spec PyProof.Rows L2
section
variable {X : Cx}
theorem ip_or : PIp X .BitOr (ipI fun i j => Builtin.bitOr i j) := by
  intro pins s σ H x y v u Q I r1 r2 h
  obtain ⟨i, j, rfl, rfl, q⟩ := h
  obtain ⟨t, rfl⟩ := r1
  obtain ⟨t', rfl⟩ := r2
  exact ior_int ⟨.int _, H, I.tok _, ⟨_, rfl⟩, q⟩
theorem ip_and : PIp X .BitAnd (ipI fun i j => Builtin.bitAnd i j) := by
  intro pins s σ H x y v u Q I r1 r2 h
  obtain ⟨i, j, rfl, rfl, q⟩ := h
  obtain ⟨t, rfl⟩ := r1
  obtain ⟨t', rfl⟩ := r2
  exact iand_int ⟨.int _, H, I.tok _, ⟨_, rfl⟩, q⟩
end
theorem nat_and (a b : Nat) : Builtin.bitAnd (a : Int) (b : Int) = ((a &&& b : Nat) : Int) := by
  rw [bitAnd_pp (Int.natCast_nonneg a) (Int.natCast_nonneg b)]
  rfl
theorem nat_or (a b : Nat) : Builtin.bitOr (a : Int) (b : Int) = ((a ||| b : Nat) : Int) := by
  rw [Bits.bitOr_pp (Int.natCast_nonneg a) (Int.natCast_nonneg b)]
  rfl
noncomputable abbrev ForW (J : It) (g : TG) (tb : TS) (D : Ends) (σ : L2.St) (H : Hp) : Prop := ∃ W : Nat → Nat → L2.St → Hp → Prop, (∃ m, W 0 m σ H) ∧ ∀ i m σ H, W i m σ H →
  (J.stop i H ∧ D.nx σ H) ∨ (J.go i H ∧ ∃ N : L2.St → Hp → Prop, (∀ σ' H', N σ' H' → ∃ m', m' < m ∧ W (i + 1) m' σ' H') ∧ ∀ x H', J.yld i H x H' → g x σ H' fun σ2 H2 => tb { D with nx := N, ct := N, bk := D.nx } σ2 H2)
theorem for_enum {K : PySem.W.Frag} {a : Addr} {xs : List V} {g : TG} {tb : TS} {D : Ends} {σ : L2.St} {H : Hp} (Pv : Nat → L2.St → Hp → Prop) (h0 : Pv 0 σ H) (hl : ∀ i σ H, i ≤ xs.length → Pv i σ H → SqL K H a xs)
    (hs : ∀ (i : Nat) x σ H T, xs[i]? = some x → Pv i σ H → H T = none → g (.ref T) σ (upd H T (.tup [.int (i : Nat), x])) fun σ2 H2 => tb { D with nx := Pv (i + 1), ct := Pv (i + 1), bk := D.nx } σ2 H2) (hd : ∀ σ H, Pv xs.length σ H → D.nx σ H) : ForW (Ite K a) g tb D σ H := by
  refine ⟨fun i m σ H => m = xs.length - i ∧ i ≤ xs.length ∧ Pv i σ H, ⟨xs.length, by simp, Nat.zero_le _, h0⟩, ?_⟩
  rintro i m σ H ⟨rfl, hi, p⟩
  have q := hl i σ H hi p
  by_cases hlt : i < xs.length
  · refine .inr ⟨⟨xs, xs[i], q, by simp [hlt]⟩, Pv (i + 1), fun σ' H' p' => ⟨xs.length - (i + 1), by omega, rfl, hlt, p'⟩, fun v H' y => ?_⟩
    obtain ⟨T, x, rfl, hT, rfl, hx⟩ := y
    exact hs i x σ H T (hx xs q) p hT
  · obtain rfl : i = xs.length := by omega
    exact .inl ⟨⟨xs, q, Nat.le_refl _⟩, hd σ H p⟩
theorem for_zip {K : PySem.W.Frag} {a b : Addr} {xs ys : List V} {g : TG} {tb : TS} {D : Ends} {σ : L2.St} {H : Hp} (Pv : Nat → L2.St → Hp → Prop) (h0 : Pv 0 σ H) (hl : ∀ i σ H, i ≤ xs.length → Pv i σ H → SqL K H a xs ∧ SqL K H b ys) (hlen : xs.length = ys.length)
    (hs : ∀ (i : Nat) x y σ H T, xs[i]? = some x → ys[i]? = some y → Pv i σ H → H T = none → g (.ref T) σ (upd H T (.tup [x, y])) fun σ2 H2 => tb { D with nx := Pv (i + 1), ct := Pv (i + 1), bk := D.nx } σ2 H2) (hd : ∀ σ H, Pv xs.length σ H → D.nx σ H) : ForW (Itz K a b) g tb D σ H := by
  refine ⟨fun i m σ H => m = xs.length - i ∧ i ≤ xs.length ∧ Pv i σ H, ⟨xs.length, by simp, Nat.zero_le _, h0⟩, ?_⟩
  rintro i m σ H ⟨rfl, hi, p⟩
  obtain ⟨q1, q2⟩ := hl i σ H hi p
  by_cases hlt : i < xs.length
  · have hlt2 : i < ys.length := by omega
    refine .inr ⟨⟨xs, ys, xs[i], ys[i], q1, q2, by simp [hlt], by simp [hlt2]⟩, Pv (i + 1), fun σ' H' p' => ⟨xs.length - (i + 1), by omega, rfl, hlt, p'⟩, fun v H' z => ?_⟩
    obtain ⟨T, x, y, rfl, hT, rfl, hx, hy⟩ := z
    exact hs i x y σ H T (hx xs q1) (hy ys q2) p hT
  · obtain rfl : i = xs.length := by omega
    exact .inl ⟨⟨xs, ys, q1, q2, .inl (Nat.le_refl _)⟩, hd σ H p⟩
noncomputable abbrev LcW (J : It) (g : TG) (tt : TT) (te : TE) (vs : List Nat) (σ : L2.St) (H1 : Hp) (D : Addr) (Qd : Hp → Prop) : Prop := ∃ W : Nat → Nat → Hp → Prop, (∃ m, W 0 m (upd H1 D (.lst []))) ∧ ∀ i m H, W i m H →
  (J.stop i H ∧ Qd H) ∨ (J.go i H ∧ ∃ Nx : Hp → Prop, (∀ H', Nx H' → ∃ m', m' < m ∧ W (i + 1) m' H') ∧ ∀ x H', J.yld i H x H' → g x (wipe σ vs) H' fun σ2 H2 => wipe σ2 vs = wipe σ vs ∧ tt σ2 H2 fun b H3 =>
    if b = true then te σ2 H3 fun y H4 => ∃ acc, H4 D = some (.lst acc) ∧ acc.length < sizeLine ∧ Nx (upd H4 D (.lst (acc ++ [y]))) else Nx H3)
theorem lc_enum {K : PySem.W.Frag} {a : Addr} {xs : List V} {g : TG} {tt : TT} {te : TE} {vs : List Nat} {σ : L2.St} {H1 : Hp} {D : Addr} {Qd : Hp → Prop} (Pv : Nat → Hp → Prop) (h0 : Pv 0 (upd H1 D (.lst []))) (hl : ∀ i H, i ≤ xs.length → Pv i H → SqL K H a xs)
    (hs : ∀ (i : Nat) x H T, xs[i]? = some x → Pv i H → H T = none → g (.ref T) (wipe σ vs) (upd H T (.tup [.int (i : Nat), x])) fun σ2 H2 => wipe σ2 vs = wipe σ vs ∧ tt σ2 H2 fun b H3 =>
      if b = true then te σ2 H3 fun y H4 => ∃ acc, H4 D = some (.lst acc) ∧ acc.length < sizeLine ∧ Pv (i + 1) (upd H4 D (.lst (acc ++ [y]))) else Pv (i + 1) H3) (hd : ∀ H, Pv xs.length H → Qd H) : LcW (Ite K a) g tt te vs σ H1 D Qd := by
  refine ⟨fun i m H => m = xs.length - i ∧ i ≤ xs.length ∧ Pv i H, ⟨xs.length, by simp, Nat.zero_le _, h0⟩, ?_⟩
  rintro i m H ⟨rfl, hi, p⟩
  have q := hl i H hi p
  by_cases hlt : i < xs.length
  · refine .inr ⟨⟨xs, xs[i], q, by simp [hlt]⟩, Pv (i + 1), fun H' p' => ⟨xs.length - (i + 1), by omega, rfl, hlt, p'⟩, fun v H' y => ?_⟩
    obtain ⟨T, x, rfl, hT, rfl, hx⟩ := y
    exact hs i x H T (hx xs q) p hT
  · obtain rfl : i = xs.length := by omega
    exact .inl ⟨⟨xs, q, Nat.le_refl _⟩, hd H p⟩
theorem lc_items {d : Addr} {od : Obj} {kvs : List (Key × V)} {g : TG} {tt : TT} {te : TE} {vs : List Nat} {σ : L2.St} {H1 : Hp} {D : Addr} {Qd : Hp → Prop} (Pv : Nat → Hp → Prop) (h0 : Pv 0 (upd H1 D (.lst []))) (hl : ∀ i H, i ≤ kvs.length → Pv i H → H d = some (.frz od (.dK kvs)))
    (hs : ∀ (i : Nat) k v H T, kvs[i]? = some (k, v) → Pv i H → H T = none → g (.ref T) (wipe σ vs) (upd H T (.tup [kV k, v])) fun σ2 H2 => wipe σ2 vs = wipe σ vs ∧ tt σ2 H2 fun b H3 =>
      if b = true then te σ2 H3 fun y H4 => ∃ acc, H4 D = some (.lst acc) ∧ acc.length < sizeLine ∧ Pv (i + 1) (upd H4 D (.lst (acc ++ [y]))) else Pv (i + 1) H3) (hd : ∀ H, Pv kvs.length H → Qd H) : LcW (Iti d od kvs) g tt te vs σ H1 D Qd := by
  refine ⟨fun i m H => m = kvs.length - i ∧ i ≤ kvs.length ∧ Pv i H, ⟨kvs.length, by simp, Nat.zero_le _, h0⟩, ?_⟩
  rintro i m H ⟨rfl, hi, p⟩
  have q := hl i H hi p
  by_cases hlt : i < kvs.length
  · refine .inr ⟨⟨q, hlt⟩, Pv (i + 1), fun H' p' => ⟨kvs.length - (i + 1), by omega, rfl, hlt, p'⟩, fun x H' y => ?_⟩
    obtain ⟨T, k, v, hk, rfl, hT, rfl⟩ := y
    exact hs i k v H T hk p hT
  · obtain rfl : i = kvs.length := by omega
    exact .inl ⟨⟨q, Nat.le_refl _⟩, hd H p⟩
theorem lc_rangeC {lo c : Int} {n : Nat} {g : TG} {tt : TT} {te : TE} {vs : List Nat} {σ : L2.St} {H1 : Hp} {D : Addr} {Qd : Hp → Prop} (Pv : Nat → Hp → Prop) (h0 : Pv 0 (upd H1 D (.lst [])))
    (hs : ∀ i H, i < n → Pv i H → g (.int (lo + (i : Nat) * c)) (wipe σ vs) H fun σ2 H2 => wipe σ2 vs = wipe σ vs ∧ tt σ2 H2 fun b H3 =>
      if b = true then te σ2 H3 fun y H4 => ∃ acc, H4 D = some (.lst acc) ∧ acc.length < sizeLine ∧ Pv (i + 1) (upd H4 D (.lst (acc ++ [y]))) else Pv (i + 1) H3) (hd : ∀ H, Pv n H → Qd H) : LcW (Itc lo c n) g tt te vs σ H1 D Qd := by
  refine ⟨fun i m H => m = n - i ∧ i ≤ n ∧ Pv i H, ⟨n, by simp, Nat.zero_le _, h0⟩, ?_⟩
  rintro i m H ⟨rfl, hi, p⟩
  by_cases hlt : i < n
  · refine .inr ⟨hlt, Pv (i + 1), fun H' p' => ⟨n - (i + 1), by omega, rfl, hlt, p'⟩, fun x H' y => ?_⟩
    obtain ⟨e, y⟩ := y
    subst e y
    exact hs i _ hlt p
  · obtain rfl : i = n := by omega
    exact .inl ⟨Nat.le_refl _, hd H p⟩
end X3
namespace X3
open PySem PySem.Spec PyProof.Rows L2
section
variable {X : Cx} {e : Expr} {ta : TE} {f : Str} {pos : Pos}
theorem pe_fldB (K : PySem.W.Frag) (he : PE X e ta) (hb : attributeBase e f X.env (eval e X.env) = eval e X.env := by rfl) (hK : X.K = K := by rfl) : PE X (.Attribute e f pos) (tFld K ta f) := by
  subst hK
  exact pe_fld he hb
theorem pg_tupB (K : PySem.W.Frag) {es : List Expr} {k : Nat} {t : TGs} {n : Nat} (hc : X.calm = true) (h : PGs X es t) (hn : (assignEach es X.env).length = n := by rfl) (hst : (assignEach es X.env).findIdx? (·.1) = none := by rfl) (hK : X.K = K := by rfl) : PG X (.Tuple es k pos) (gTup K n t) := by
  subst hK
  exact pg_tup hc h hn hst
theorem ix_listB (K : PySem.W.Frag) (hK : X.K = K := by rfl) : IxR X (rIxL K) := by
  subst hK
  exact ix_list
end
end X3
namespace X3
open PySem PySem.Spec PyProof.Rows L2
theorem yes_in {σ : L2.St} {H : Hp} {p1 p2 : Hp → Prop} (h : p1 H) : tYes σ H fun b H3 => if b = true then p1 H3 else p2 H3 := by
  show (if true = true then p1 H else p2 H)
  exact iteT h
end X3
end
section
set_option Elab.async false
set_option linter.all false
set_option maxRecDepth 100000
/- The program's text by places; what its objects hold. -/
namespace WD
open PySem PySem.Spec PyProof.Rows L2 X3
open Kp205 (Bound Rule)
noncomputable def top (i : Nat) : Stmt := PySem.Challenge.pw_whydecided_s01_answers.main.body.getD i (.Pass ⟨0, 0, 0, 0⟩)
section
variable (P : Program) (w : World) (K : PySem.W.Frag) (mg : Str → Option Value) (base : Heap)
inductive MOk (C : Addr) (m : Str) (k : Nat) (ps : List Str) (sp : Sp) : Prop
  | mk (f : Addr) (fd : FuncData) (o : FnOk P w K mg base CX0 k f fd ps sp) (b : Binds K fd ps []) (m : Meth K C m f)
inductive FOk (x : Str) (k : Nat) (ps : List Str) (sp : Sp) : Prop
  | mk (f : Addr) (fd : FuncData) (o : FnOk P w K mg base CX0 k f fd ps sp) (b : Binds K fd ps []) (m : PySem.W.keepIn K (.ref f) = true) (g : mg x = some (.ref f))
inductive COk (x : Str) (C : Addr) (k : Nat) (ps : List Str) (sp : Sp) : Prop
  | mk (f : Addr) (fd : FuncData) (o : FnOk P w K mg base CX0 k f fd ps sp) (b : Binds K fd ps []) (m : Mk K C f) (g : mg x = some (.ref C))
end
set_option genInjectivity false in
structure Ad where
  R : Addr
  T : Addr
  S : Addr
  D : Addr
structure Txt (K : PySem.W.Frag) (mg : Str → Option Value) (c : Ad) : Prop where
  clR : Cls K c.R
  clT : Cls K c.T
  clS : Cls K c.S
  clD : Cls K c.D
  nR : NoAttr K c.R "outcome" ∧ NoAttr K c.R "bounds"
  nT : NoAttr K c.T "tops" ∧ NoAttr K c.T "rules"
  nS : NoAttr K c.S "case" ∧ NoAttr K c.S "wanted" ∧ NoAttr K c.S "all_rules" ∧ NoAttr K c.S "allowing_own" ∧ NoAttr K c.S "allowing_any" ∧ NoAttr K c.S "known"
  nD : NoAttr K c.D "numbers" ∧ NoAttr K c.D "place"
  i1 : ∃ t, mg "MOST_INPUTS" = some (.int 4 t)
  i2 : ∃ t, mg "MOST_RULES" = some (.int 10 t)
  i3 : ∃ t, mg "MOST_OUTCOME" = some (.int 255 t)
  i4 : ∃ t, mg "NOT_THERE" = some (.int (-2) t)
  i5 : ∃ t, mg "WRONG" = some (.int (-22) t)
  i6 : ∃ t, mg "FULL" = some (.int (-28) t)
  i7 : ∃ t, mg "BEGIN" = some (.int 0 t)
  i8 : ∃ t, mg "RULE" = some (.int 1 t)
  i9 : ∃ t, mg "DROP" = some (.int 2 t)
  i10 : ∃ t, mg "DECIDE" = some (.int 4 t)
  i11 : ∃ t, mg "FORCES" = some (.int 5 t)
  i12 : ∃ t, mg "REASONS" = some (.int 6 t)
  i13 : ∃ t, mg "CONTRASTS" = some (.int 7 t)
  i14 : ∃ t, mg "WAY" = some (.int 8 t)
  i15 : ∃ t, mg "MOST_TOLD" = some (.int 256 t)
  i16 : ∃ t, mg "NEVER" = some (.int (-33) t)
  len : mg "len" = none
  zip : mg "zip" = none
  enum : mg "enumerate" = none
  range : mg "range" = none
  list : mg "list" = none
  tuple : mg "tuple" = none
  set : mg "set" = none
  sorted : mg "sorted" = none
  sum : mg "sum" = none
  any : mg "any" = none
noncomputable def natL (l : List Nat) : List V := l.map fun (n : Nat) => V.int n
theorem natL_len (l : List Nat) : (natL l).length = l.length := List.length_map _
theorem natL_get {l : List Nat} {i : Nat} {v : V} (h : (natL l)[i]? = some v) : ∃ n : Nat, l[i]? = some n ∧ v = .int n := by
  unfold natL at h
  rw [List.getElem?_map] at h
  cases e : l[i]? with
  | none => rw [e] at h; cases h
  | some n => rw [e] at h; exact ⟨n, rfl, (Option.some.inj h).symm⟩
theorem natL_at {l : List Nat} {i n : Nat} (h : l[i]? = some n) : (natL l)[i]? = some (.int n) := by
  unfold natL
  rw [List.getElem?_map, h]
  rfl
theorem refs_get {l : List Addr} {i : Nat} {v : V} (h : (l.map V.ref)[i]? = some v) : ∃ p : Addr, l[i]? = some p ∧ v = .ref p := by
  rw [List.getElem?_map] at h
  cases e : l[i]? with
  | none => rw [e] at h; cases h
  | some n => rw [e] at h; exact ⟨n, rfl, (Option.some.inj h).symm⟩
theorem refs_at {l : List Addr} {i : Nat} {p : Addr} (h : l[i]? = some p) : (l.map V.ref)[i]? = some (.ref p) := by
  rw [List.getElem?_map, h]
  rfl
noncomputable def nx : HO → Bool
  | .ext _ => false
  | _ => true
noncomputable def Keeps (H H' : Hp) : Prop := ∀ b o, H b = some o → nx o = true → H' b = some o
theorem Keeps.refl (H : Hp) : Keeps H H := fun _ _ h _ => h
theorem Keeps.trans {H H1 H2 : Hp} (a : Keeps H H1) (b : Keeps H1 H2) : Keeps H H2 := fun c o h n => b c o (a c o h n) n
theorem _root_.L2.Same.keeps {H H' : Hp} (e : Same H H') : Keeps H H' := fun b o h _ => e b o h
theorem same_upd {H : Hp} {p : Addr} {o : HO} (h : H p = none) : Same H (upd H p o) := fun b u e => by rw [upd_ne (ne_of_none e h)]; exact e
theorem Keeps.seq {K : PySem.W.Frag} {H H' : Hp} {a : Addr} {xs : List V} (e : Keeps H H') (h : SqL K H a xs) : SqL K H' a xs := by
  rcases h with (h | ⟨o, h⟩) | h
  · exact .inl (.inl (e _ _ h rfl))
  · exact .inl (.inr ⟨o, e _ _ h rfl⟩)
  · exact .inr h
theorem Keeps.free {H H' : Hp} (e : Keeps H H') {l : Addr} (h : H' l = none) : ∀ o, H l = some o → nx o = false := fun o q => by
  cases z : nx o with
  | false => rfl
  | true => rw [e l o q z] at h; cases h
inductive Lv1 (f : Option V → L2.St) (P Q : Prop) (σ : L2.St) : Prop
  | mk (v0 : Option V) (e : σ = f v0) (p : P) (q : Q)
theorem Lv1.p {f : Option V → L2.St} {P Q : Prop} {σ : L2.St} (x : Lv1 f P Q σ) : P := by
  cases x
  assumption
inductive Lv2 (f : Option V → Option V → L2.St) (P Q : Prop) (σ : L2.St) : Prop
  | mk (v0 v1 : Option V) (e : σ = f v0 v1) (p : P) (q : Q)
theorem Lv2.p {f : Option V → Option V → L2.St} {P Q : Prop} {σ : L2.St} (x : Lv2 f P Q σ) : P := by
  cases x
  assumption
theorem Lv2.q {f : Option V → Option V → L2.St} {P Q : Prop} {σ : L2.St} (x : Lv2 f P Q σ) : Q := by
  cases x
  assumption
inductive Lv3 (f : Option V → Option V → Option V → L2.St) (P Q : Prop) (σ : L2.St) : Prop
  | mk (v0 v1 v2 : Option V) (e : σ = f v0 v1 v2) (p : P) (q : Q)
theorem Lv3.p {f : Option V → Option V → Option V → L2.St} {P Q : Prop} {σ : L2.St} (x : Lv3 f P Q σ) : P := by
  cases x
  assumption
inductive Lv5 (f : Option V → Option V → Option V → Option V → Option V → L2.St) (P Q : Prop) (σ : L2.St) : Prop
  | mk (v0 v1 v2 v3 v4 : Option V) (e : σ = f v0 v1 v2 v3 v4) (p : P) (q : Q)
theorem Lv5.p {f : Option V → Option V → Option V → Option V → Option V → L2.St} {P Q : Prop} {σ : L2.St} (x : Lv5 f P Q σ) : P := by
  cases x
  assumption
theorem ntake {j n m : Nat} (h : j + n ≤ m) : min n (m - j) = n := Nat.min_eq_left (Nat.le_sub_of_add_le (Nat.add_comm j n ▸ h))
theorem icast_sub {a b : Nat} (h : b ≤ a) : (a : Int) - (b : Int) = ((a - b : Nat) : Int) := (Int.ofNat_sub h).symm
theorem eq_at {m j n : Nat} (h : n = j) (h1 : ¬ m < n) (h2 : m - n = 0) : m = j := h ▸ Nat.le_antisymm (Nat.le_of_sub_eq_zero h2) (Nat.le_of_not_lt h1)
noncomputable def fR (o : Nat) (l : Addr) : List (Str × V) := [("outcome", .int o), ("bounds", .ref l)]
noncomputable def fT (a b : Addr) : List (Str × V) := [("tops", .ref a), ("rules", .ref b)]
noncomputable def fS (c wn : Addr) (al : Nat) (ow an kn : Addr) : List (Str × V) := [("case", .ref c), ("wanted", .ref wn), ("all_rules", .int al), ("allowing_own", .ref ow), ("allowing_any", .ref an), ("known", .ref kn)]
noncomputable def fD (a : Addr) (i : Nat) : List (Str × V) := [("numbers", .ref a), ("place", .int i)]
inductive BndAt (S : Addr → Prop) (H : Hp) (bs : List Bound) (j : Nat) (q : Addr) : Prop
  | mk (b : Bound) (e : bs[j]? = some b) (s : S q) (h : H q = some (.tup [.int b.lo, .int b.hi]))
inductive BndsAt (S : Addr → Prop) (H : Hp) (l : Addr) (bs : List Bound) : Prop
  | mk (tl : List Addr) (s : S l) (e : H l = some (.lst (tl.map V.ref))) (n : tl.length = bs.length) (f : ∀ (j : Nat) (q : Addr), tl[j]? = some q → BndAt S H bs j q)
inductive RuleAt (c : Ad) (S : Addr → Prop) (H : Hp) (p : Addr) (r : Rule) : Prop
  | mk (dx l : Addr) (s : S p) (e : H p = some (.ins c.R dx (fR r.outcome l))) (b : BndsAt S H l r.bounds)
structure TabIs (c : Ad) (S : Addr → Prop) (H : Hp) (t a b : Addr) (ra : List Addr) (h : Kp208.House) : Prop where
  ins : ∃ dx, H t = some (.ins c.T dx (fT a b))
  tops : H a = some (.lst (natL h.tops))
  rules : H b = some (.lst (ra.map V.ref))
  own : S t ∧ S a ∧ S b
  len : ra.length = h.rules.length
  each : ∀ (j : Nat) (p : Addr), ra[j]? = some p → ∃ r, h.rules[j]? = some r ∧ RuleAt c S H p r
inductive TabAt (c : Ad) (S : Addr → Prop) (H : Hp) (t : Addr) (h : Kp208.House) : Prop
  | mk (a b : Addr) (ra : List Addr) (x : TabIs c S H t a b ra h)
noncomputable def Kp (S : Addr → Prop) (H H' : Hp) : Prop := ∀ b o, S b → H b = some o → nx o = true → H' b = some o
theorem Keeps.kp {S : Addr → Prop} {H H' : Hp} (e : Keeps H H') : Kp S H H' := fun b o _ => e b o
section
variable {c : Ad} {S S' : Addr → Prop} {H H' : Hp} {t a b l p : Addr} {ra : List Addr} {h : Kp208.House} {r : Rule} {bs : List Bound}
theorem BndsAt.keep (x : BndsAt S H l bs) (k : Kp S H H') : BndsAt S H' l bs := by
  obtain ⟨tl, s, e, n, f⟩ := x
  refine ⟨tl, s, k _ _ s e rfl, n, fun j q hq => ?_⟩
  obtain ⟨b, h1, h2, h3⟩ := f j q hq
  exact ⟨b, h1, h2, k _ _ h2 h3 rfl⟩
theorem BndsAt.mono (x : BndsAt S H l bs) (m : ∀ x, S x → S' x) : BndsAt S' H l bs := by
  obtain ⟨tl, s, e, n, f⟩ := x
  refine ⟨tl, m _ s, e, n, fun j q hq => ?_⟩
  obtain ⟨b, h1, h2, h3⟩ := f j q hq
  exact ⟨b, h1, m _ h2, h3⟩
theorem RuleAt.keep (x : RuleAt c S H p r) (k : Kp S H H') : RuleAt c S H' p r := by
  obtain ⟨dx, l, s, e, f⟩ := x
  exact ⟨dx, l, s, k _ _ s e rfl, f.keep k⟩
theorem RuleAt.mono (x : RuleAt c S H p r) (m : ∀ x, S x → S' x) : RuleAt c S' H p r := by
  obtain ⟨dx, l, s, e, f⟩ := x
  exact ⟨dx, l, m _ s, e, f.mono m⟩
theorem TabIs.keep (x : TabIs c S H t a b ra h) (k : Kp S H H') : TabIs c S H' t a b ra h := by
  obtain ⟨⟨dx, e⟩, e1, e2, ⟨s1, s2, s3⟩, n, f⟩ := x
  refine ⟨⟨dx, k _ _ s1 e rfl⟩, k _ _ s2 e1 rfl, k _ _ s3 e2 rfl, ⟨s1, s2, s3⟩, n, fun j p hp => ?_⟩
  obtain ⟨r, h1, h2⟩ := f j p hp
  exact ⟨r, h1, h2.keep k⟩
theorem TabIs.mono (x : TabIs c S H t a b ra h) (m : ∀ x, S x → S' x) : TabIs c S' H t a b ra h := by
  obtain ⟨e, e1, e2, ⟨s1, s2, s3⟩, n, f⟩ := x
  refine ⟨e, e1, e2, ⟨m _ s1, m _ s2, m _ s3⟩, n, fun j p hp => ?_⟩
  obtain ⟨r, h1, h2⟩ := f j p hp
  exact ⟨r, h1, h2.mono m⟩
theorem TabAt.keep (x : TabAt c S H t h) (k : Kp S H H') : TabAt c S H' t h := let ⟨a, b, ra, y⟩ := x; ⟨a, b, ra, y.keep k⟩
end
noncomputable def Told (H H' : Hp) (q : Addr) (l : List Int) : Prop := H q = none ∧ H' q = some (.lst (l.map V.int))
end WD
end
section
set_option Elab.async false
set_option linter.all false
set_option maxRecDepth 100000
set_option maxHeartbeats 4000000
namespace WD
open PySem PySem.Spec PyProof.Rows L2 X3
open Kp205 (Bound Rule)
noncomputable abbrev sRI : Stmt := inClass (top 7) 0
noncomputable abbrev sHolds : Stmt := inClass (top 7) 1
noncomputable abbrev sTI : Stmt := inClass (top 8) 0
inductive RRI (c : Ad) (vs : List V) (H : Hp) (Q : VK) : Prop
  | mk (p dx l : Addr) (o : Nat) (h0 : vs = [.ref p, .int o, .ref l]) (h1 : H p = some (.ins c.R dx [])) (h2 : ∀ H' : Hp, H' p = some (.ins c.R dx (fR o l)) → (∀ b o, H b = some o → b ≠ p → H' b = some o) → Q .non H') : RRI c vs H Q
noncomputable def spRI (c : Ad) : Sp := fun vs H Q _ => RRI c vs H Q
inductive RHolds (K : PySem.W.Frag) (c : Ad) (vs : List V) (H : Hp) (Q : VK) : Prop
  | mk (S : Addr → Prop) (p a : Addr) (r : Rule) (cs : List Nat) (h0 : vs = [.ref p, .ref a]) (h1 : RuleAt c S H p r) (h2 : SqL K H a (natL cs)) (h3 : r.bounds.length = cs.length) (h4 : ∀ H' : Hp, Same H H' → Q (.bl (Kp205.holds r cs)) H') : RHolds K c vs H Q
noncomputable def spHolds (K : PySem.W.Frag) (c : Ad) : Sp := fun vs H Q _ => RHolds K c vs H Q
inductive RTI (c : Ad) (vs : List V) (H : Hp) (Q : VK) : Prop
  | mk (p dx : Addr) (h0 : vs = [.ref p]) (h1 : H p = some (.ins c.T dx [])) (h2 : ∀ (H' : Hp) (a b : Addr), H a = none → H b = none → a ≠ b → H' p = some (.ins c.T dx (fT a b)) → H' a = some (.lst []) → H' b = some (.lst []) → (∀ b o, H b = some o → b ≠ p → H' b = some o) → Q .non H') : RTI c vs H Q
noncomputable def spTI (c : Ad) : Sp := fun vs H Q _ => RTI c vs H Q
section
variable {P : Program} {w : World} {K : PySem.W.Frag} {mg : Str → Option Value} {base : Heap} {c : Ad} {f : Addr} {fd : FuncData}
theorem scRI : FnScope ["self", "outcome", "bounds"] ["self", "outcome", "bounds"] (defScope sRI) := ⟨rfl, rfl, rfl, by decide +kernel, rfl, by decide +kernel, by decide +kernel⟩
theorem ok_RI (F : Fun K "__init__" "Rule.__init__" sRI f fd) (T : Txt K mg c) : FnOk P w K mg base CX0 1 f fd ["self", "outcome", "bounds"] (spRI c) := by
  refine F.ok scRI (fun vs H Q E h => ?_) (fun cdv A outer s H vs Q E hr h => ?_)
  · obtain ⟨p, dx, l, o, rfl, _⟩ := h
    rfl
  · obtain ⟨p, dx, l, o, rfl, hp, k⟩ := h
    refine ⟨_, pss_cons (ps_fld (pv 0) (pv 1) rfl) (pss_one (ps_fld (pv 0) (pv 2) rfl)), ?_⟩
    refine ⟨_, rfl, _, rfl, p, c.R, dx, [], rfl, hp, T.clR, T.nR.1, (by show 0 < 1000; decide), ?_⟩
    refine ⟨_, rfl, _, rfl, p, c.R, dx, _, rfl, upd_same, T.clR, T.nR.2, (by show 1 < 1000; decide), ?_⟩
    refine k _ ?_ fun b u e hb => by rw [upd_ne hb, upd_ne hb]; exact e
    rw [upd_same]
    rfl
theorem scHolds : FnScope ["self", "case", "number", "bound"] ["self", "case"] (defScope sHolds) := ⟨rfl, rfl, rfl, by decide +kernel, rfl, by decide +kernel, by decide +kernel⟩
noncomputable def upTo (r : Rule) (cs : List Nat) (i : Nat) : Prop := ∀ (j : Nat) (b : Bound) (n : Nat), j < i → r.bounds[j]? = some b → cs[j]? = some n → Kp205.inside b n = true
theorem holds_all {r : Rule} {cs : List Nat} (hl : r.bounds.length = cs.length) (h : upTo r cs cs.length) : Kp205.holds r cs = true := by
  unfold Kp205.holds
  rw [hl, beq_self_eq_true, Bool.true_and, List.all_eq_true]
  intro x hx
  obtain ⟨i, hi⟩ := List.mem_iff_getElem?.mp hx
  obtain ⟨e1, e2⟩ := List.getElem?_zip_eq_some.mp hi
  exact h i x.1 x.2 (List.getElem?_eq_some_iff.mp e2).1 e1 e2
theorem holds_not {r : Rule} {cs : List Nat} {i : Nat} {b : Bound} {n : Nat} (e1 : r.bounds[i]? = some b) (e2 : cs[i]? = some n) (h : Kp205.inside b n = false) : Kp205.holds r cs = false := by
  unfold Kp205.holds
  rw [Bool.and_eq_false_iff]
  refine .inr ?_
  rw [List.all_eq_false]
  exact ⟨(b, n), List.mem_iff_getElem?.mpr ⟨i, List.getElem?_zip_eq_some.mpr ⟨e1, e2⟩⟩, by simp [h]⟩
theorem ok_holds (F : Fun K "holds" "Rule.holds" sHolds f fd) (T : Txt K mg c) : FnOk P w K mg base CX0 1 f fd ["self", "case"] (spHolds K c) := by
  refine F.ok scHolds (fun vs H Q E h => ?_) (fun cdv A outer s H vs Q E hr h => ?_)
  · obtain ⟨S, p, a, r, cs, rfl, _⟩ := h
    rfl
  · obtain ⟨S, p, a, r, cs, rfl, ⟨dx, l, _, hp, tl, _, hl, hlen, hb⟩, ha, hrl, k⟩ := h
    refine ⟨_, pss_cons (ps_for PassesOwn.never rfl (pi_zip rfl T.zip (pa_cons (pv 1) (pa_cons (pe_fld (pv 0) rfl) pa_nil))) (pg_tup rfl (pgs_cons (pg_name (i := 2) scHolds.nd rfl (Or.inl rfl)) (pgs_cons (pg_name (i := 3) scHolds.nd rfl (Or.inl rfl)) pgs_nil)))
      (pss_one (ps_if (PW.pt (pw_or (pt_cmpR op_lt (pv 2) (pe_ix ix_tup (pv 3) pe_int (fun _ _ => rfl)) (nomark _)) (pw_or1 (pt_cmpR op_gt (pv 2) (pe_ix ix_tup (pv 3) pe_int (fun _ _ => rfl)) (nomark _)))) ) (pss_one (ps_ret pe_bl)) pss_nil)))
      (pss_one (ps_ret pe_bl)), ?_⟩
    refine ⟨_, rfl, _, rfl, p, c.R, dx, _, _, rfl, hp, T.clR, T.nR.2, rfl, a, l, natL cs, tl.map V.ref, rfl, ha, SqL.of hl, ?_⟩
    refine for_zip (K := K) (xs := natL cs) (ys := tl.map V.ref) (fun i σ H' => Lv2 (fun v2 v3 => [some (.ref p), some (.ref a), v2, v3]) (Same H H') (upTo r cs i) σ) ⟨none, none, rfl, Same.refl H, fun j _ _ hj => absurd hj (Nat.not_lt_zero _)⟩
      (fun i σ H' _ q => ⟨q.p.seq ha, SqL.of (q.p _ _ hl)⟩) (by rw [natL_len, List.length_map, hlen, hrl]) ?_ ?_
    · rintro i x y σ H' U hx hy ⟨v2, v3, rfl, sm, up⟩ hU
      obtain ⟨n, hn, rfl⟩ := natL_get hx
      obtain ⟨q, hq, rfl⟩ := refs_get hy
      obtain ⟨b, hbb, _, hq2⟩ := hb i q hq
      have sm2 : Same H (upd H' U (.tup [V.int n, V.ref q])) := sm.trans (same_upd hU)
      have hq3 := sm2 _ _ hq2
      refine ⟨U, _, rfl, SqT.of upd_same, rfl, _, _, rfl, _, _, rfl, rfl, ?_⟩
      refine ⟨_, rfl, _, rfl, q, _, _, _, rfl, rfl, SqT.of hq3, rfl, _, _, rfl, rfl, _, rfl, ?_⟩
      refine ite2 (fun h1 => ?_) (fun h1 => ?_)
      · refine iteT ?_
        have e : Kp205.inside b n = false := by
          unfold Kp205.inside
          have : (n : Int) < (b.lo : Int) := by simpa using h1
          simp
          omega
        rw [← holds_not hbb hn e]
        exact k _ sm2
      · refine ⟨_, rfl, _, rfl, q, _, _, _, rfl, rfl, SqT.of hq3, rfl, _, _, rfl, rfl, _, rfl, ?_⟩
        refine ite2 (fun h2 => ?_) (fun h2 => ?_)
        · have e : Kp205.inside b n = false := by
            unfold Kp205.inside
            have : (b.hi : Int) < (n : Int) := by simpa using h2
            simp
            omega
          rw [← holds_not hbb hn e]
          exact k _ sm2
        · refine ⟨_, _, rfl, sm2, fun j b' n' hj e1 e2 => ?_⟩
          by_cases hji : j = i
          · subst hji
            rw [hbb] at e1
            rw [hn] at e2
            cases e1
            cases e2
            have h1' : ¬ (n : Int) < (b.lo : Int) := by simpa using h1
            have h2' : ¬ (b.hi : Int) < (n : Int) := by simpa using h2
            unfold Kp205.inside
            simp
            omega
          · exact up j b' n' (by omega) e1 e2
    · rintro σ H' ⟨v2, v3, rfl, sm, up⟩
      have e := holds_all hrl (by rw [natL_len] at up; exact up)
      show Q (.bl true) H'
      rw [← e]
      exact k H' sm
theorem scTI : FnScope ["self"] ["self"] (defScope sTI) := ⟨rfl, rfl, rfl, by decide +kernel, rfl, by decide +kernel, by decide +kernel⟩
theorem ok_TI (F : Fun K "__init__" "Table.__init__" sTI f fd) (T : Txt K mg c) : FnOk P w K mg base CX0 1 f fd ["self"] (spTI c) := by
  refine F.ok scTI (fun vs H Q E h => ?_) (fun cdv A outer s H vs Q E hr h => ?_)
  · obtain ⟨p, dx, rfl, _⟩ := h
    rfl
  · obtain ⟨p, dx, rfl, hp, k⟩ := h
    refine ⟨_, pss_cons (ps_fld (pv 0) (pe_lst pa_nil) rfl) (pss_one (ps_fld (pv 0) (pe_lst pa_nil) rfl)), ?_⟩
    refine ⟨Nat.zero_le _, fun a ha => ⟨_, rfl, p, c.T, dx, [], rfl, same_upd ha _ _ hp, T.clT, T.nT.1, (by show 0 < 1000; decide), ?_⟩⟩
    refine ⟨Nat.zero_le _, fun b hb => ?_⟩
    have nap : a ≠ p := fun z => by rw [z, hp] at ha; cases ha
    have nbp : b ≠ p := fun z => by rw [z, upd_same] at hb; cases hb
    have nba : b ≠ a := fun z => by rw [z, upd_ne nap, upd_same] at hb; cases hb
    have hb0 : H b = none := by rw [upd_ne nbp, upd_ne nba] at hb; exact hb
    refine ⟨_, rfl, p, c.T, dx, _, rfl, (by rw [upd_ne (Ne.symm nbp), upd_same]), T.clT, T.nT.2, (by show 1 < 1000; decide), ?_⟩
    refine k _ a b ha hb0 (Ne.symm nba) ?_ ?_ ?_ fun x u e hx => ?_
    · rw [upd_same]
      rfl
    · rw [upd_ne nap, upd_ne (Ne.symm nba), upd_ne nap, upd_same]
    · rw [upd_ne nbp, upd_same]
    · rw [upd_ne hx, upd_ne (ne_of_none e hb0), upd_ne hx, upd_ne (ne_of_none e ha)]
      exact e
end
end WD
end
section
set_option Elab.async false
set_option linter.all false
set_option maxRecDepth 100000
set_option maxHeartbeats 4000000
namespace WD
open PySem PySem.Spec PyProof.Rows L2 X3
open Kp205 (Bound Rule)
noncomputable abbrev sBegin : Stmt := inClass (top 8) 1
noncomputable abbrev sFit : Stmt := inClass (top 8) 3
noncomputable abbrev sCase : Stmt := inClass (top 8) 7
noncomputable abbrev sFirst : Stmt := inClass (top 8) 8
inductive RBegin (K : PySem.W.Frag) (c : Ad) (vs : List V) (H : Hp) (Q : VK) : Prop
  | mk (t r dx a b : Addr) (tops : List Nat) (h0 : vs = [.ref t, .ref r]) (h1 : H t = some (.ins c.T dx (fT a b))) (h2 : SqL K H r (natL tops)) (h3 : ((tops.length < 1 ∨ 4 < tops.length) → ∀ (H' : Hp) (q : Addr), Told H H' q [-22] → Same H H' → Q (.ref q) H')) (h4 : (¬ (tops.length < 1 ∨ 4 < tops.length) → ∀ (H' : Hp) (q a' b' : Addr), Told H H' q [0] → H a' = none → H b' = none → q ≠ a' → q ≠ b' → q ≠ t → H' t = some (.ins c.T dx (fT a' b')) → H' a' = some (.lst (natL tops)) → H' b' = some (.lst []) → (∀ x o, H x = some o → x ≠ t → H' x = some o) → Q (.ref q) H')) : RBegin K c vs H Q
noncomputable def spBegin (K : PySem.W.Frag) (c : Ad) : Sp := fun vs H Q _ => RBegin K c vs H Q
inductive RFit (c : Ad) (vs : List V) (H : Hp) (Q : VK) : Prop
  | mk (S S2 : Addr → Prop) (t l : Addr) (h : Kp208.House) (bs : List Bound) (h0 : vs = [.ref t, .ref l]) (h1 : TabAt c S H t h) (h2 : BndsAt S2 H l bs) (h3 : ∀ H' : Hp, Same H H' → Q (.bl (MA.fitB h.tops bs)) H') : RFit c vs H Q
noncomputable def spFit (c : Ad) : Sp := fun vs H Q _ => RFit c vs H Q
inductive RCase (K : PySem.W.Frag) (c : Ad) (vs : List V) (H : Hp) (Q : VK) : Prop
  | mk (S : Addr → Prop) (t l : Addr) (h : Kp208.House) (cs : List Nat) (h0 : vs = [.ref t, .ref l]) (h1 : TabAt c S H t h) (h2 : SqL K H l (natL cs)) (h3 : ∀ H' : Hp, Same H H' → Q (.bl (Kp208.good h cs)) H') : RCase K c vs H Q
noncomputable def spCase (K : PySem.W.Frag) (c : Ad) : Sp := fun vs H Q _ => RCase K c vs H Q
noncomputable def optV : Option Nat → V
  | none => .non
  | some k => .int k
inductive RFirst (K : PySem.W.Frag) (c : Ad) (vs : List V) (H : Hp) (Q : VK) : Prop
  | mk (S : Addr → Prop) (t l : Addr) (h : Kp208.House) (cs : List Nat) (h0 : vs = [.ref t, .ref l]) (h1 : TabAt c S H t h) (h2 : SqL K H l (natL cs)) (h3 : (∀ r ∈ h.rules, r.bounds.length = cs.length)) (h4 : ∀ H' : Hp, Same H H' → Q (optV (Kp205.first h.rules cs)) H') : RFirst K c vs H Q
noncomputable def spFirst (K : PySem.W.Frag) (c : Ad) : Sp := fun vs H Q _ => RFirst K c vs H Q
section
variable {P : Program} {w : World} {K : PySem.W.Frag} {mg : Str → Option Value} {base : Heap} {c : Ad} {f : Addr} {fd : FuncData}
theorem scBegin : FnScope ["self", "tops"] ["self", "tops"] (defScope sBegin) := ⟨rfl, rfl, rfl, by decide +kernel, rfl, by decide +kernel, by decide +kernel⟩
theorem one_line : 1 ≤ sizeLine := by rw [sizeLine_eq]; omega
theorem ok_begin (F : Fun K "begin" "Table.begin" sBegin f fd) (T : Txt K mg c) : FnOk P w K mg base CX0 1 f fd ["self", "tops"] (spBegin K c) := by
  refine F.ok scBegin (fun vs H Q E h => ?_) (fun cdv A outer s H vs Q E hr h => ?_)
  · obtain ⟨t, r, dx, a, b, tops, rfl, _⟩ := h
    rfl
  · obtain ⟨t, r, dx, a, b, tops, rfl, ht, hq, k1, k2⟩ := h
    obtain ⟨t1, e1⟩ := T.i1
    obtain ⟨t5, e5⟩ := T.i5
    refine ⟨_, pss_cons (ps_if (PW.pt (pw_or (pt_cmpR op_lt (pe_callB call_len_seq (by rfl) T.len PySem.boot_len (pa_cons (pv 1) pa_nil)) pe_int (nomark _)) (pw_or1 (pt_cmpR op_gt (pe_callB call_len_seq (by rfl) T.len PySem.boot_len (pa_cons (pv 1) pa_nil)) (pe_glob (v := .int 4) rfl e1 ⟨t1, rfl⟩) (nomark _)))))
        (pss_one (ps_ret (pe_lst (pa_cons (pe_glob (v := .int (-22)) rfl e5 ⟨t5, rfl⟩) pa_nil)))) pss_nil)
      (pss_cons (ps_fld (pv 0) (pe_callTy call_list_of (by rfl) T.list PyProof.Rows.boot_list (pa_cons (pv 1) pa_nil)) rfl) (pss_cons (ps_fld (pv 0) (pe_lst pa_nil) rfl) (pss_one (ps_ret (pe_lst (pa_cons pe_int pa_nil)))))), ?_⟩
    have bad : (tops.length < 1 ∨ 4 < tops.length) → 1 ≤ sizeLine ∧ ∀ p, H p = none → Q (.ref p) (upd H p (.lst [.int (-22)])) := fun z => ⟨one_line, fun p hp => k1 z _ p ⟨hp, upd_same⟩ (same_upd hp)⟩
    refine ⟨_, rfl, r, _, rfl, .inl hq, _, _, rfl, rfl, _, rfl, ?_⟩
    rw [natL_len]
    refine ite2 (fun h1 => iteT (bad (.inl (by have z := of_decide_eq_true h1; omega)))) (fun h1 => ?_)
    refine ⟨_, rfl, r, _, rfl, .inl hq, _, _, rfl, rfl, _, rfl, ?_⟩
    rw [natL_len]
    refine ite2 (fun h2 => bad (.inr (by have z := of_decide_eq_true h2; omega))) (fun h2 => ?_)
    have z : ¬ (tops.length < 1 ∨ 4 < tops.length) := fun z => by
      rcases z with z | z
      · exact h1 (decide_eq_true (by omega))
      · exact h2 (decide_eq_true (by omega))
    refine ⟨_, rfl, r, _, rfl, .inl hq, fun x hx => ?_⟩
    have nxt : x ≠ t := fun e => by rw [e, ht] at hx; cases hx
    refine ⟨_, rfl, t, c.T, dx, fT a b, rfl, (by rw [upd_ne (Ne.symm nxt)]; exact ht), T.clT, T.nT.1, (by show 2 < 1000; decide), Nat.zero_le _, fun y hy => ?_⟩
    have nyt : y ≠ t := fun e => by rw [e, upd_same] at hy; cases hy
    have nyx : y ≠ x := fun e => by rw [e, upd_ne nxt, upd_same] at hy; cases hy
    have hy0 : H y = none := by rw [upd_ne nyt, upd_ne nyx] at hy; exact hy
    refine ⟨_, rfl, t, c.T, dx, _, rfl, (by rw [upd_ne (Ne.symm nyt), upd_same]), T.clT, T.nT.2, (by show 2 < 1000; decide), one_line, fun q hq => ?_⟩
    have nqt : q ≠ t := fun e => by rw [e, upd_same] at hq; cases hq
    have nqy : q ≠ y := fun e => by rw [e, upd_ne nyt, upd_same] at hq; cases hq
    have nqx : q ≠ x := fun e => by rw [e, upd_ne nxt, upd_ne (Ne.symm nyx), upd_ne nxt, upd_same] at hq; cases hq
    have hq0 : H q = none := by rw [upd_ne nqt, upd_ne nqy, upd_ne nqt, upd_ne nqx] at hq; exact hq
    refine k2 z _ q x y ⟨hq0, upd_same⟩ hx hy0 nqx nqy nqt ?_ ?_ ?_ fun b o e hb => ?_
    · rw [upd_ne (Ne.symm nqt), upd_same]
      rfl
    · rw [upd_ne (Ne.symm nqx), upd_ne nxt, upd_ne (Ne.symm nyx), upd_ne nxt, upd_same]
    · rw [upd_ne (Ne.symm nqy), upd_ne nyt, upd_same]
    · rw [upd_ne (ne_of_none e hq0), upd_ne hb, upd_ne (ne_of_none e hy0), upd_ne hb, upd_ne (ne_of_none e hx)]
      exact e
theorem scFit : FnScope ["self", "bounds", "bound", "top"] ["self", "bounds"] (defScope sFit) := ⟨rfl, rfl, rfl, by decide +kernel, rfl, by decide +kernel, by decide +kernel⟩
theorem fit_all {tops : List Nat} {bs : List Bound} (hl : bs.length = tops.length) (h : ∀ (j : Nat) (b : Bound) (t : Nat), bs[j]? = some b → tops[j]? = some t → b.lo ≤ b.hi ∧ b.hi ≤ t) : MA.fitB tops bs = true := by
  unfold MA.fitB
  rw [hl, beq_self_eq_true, Bool.true_and, List.all_eq_true]
  intro x hx
  obtain ⟨i, hi⟩ := List.mem_iff_getElem?.mp hx
  obtain ⟨e1, e2⟩ := List.getElem?_zip_eq_some.mp hi
  simpa using h i x.1 x.2 e1 e2
theorem fit_not {tops : List Nat} {bs : List Bound} {i : Nat} {b : Bound} {t : Nat} (e1 : bs[i]? = some b) (e2 : tops[i]? = some t) (h : ¬ (b.lo ≤ b.hi ∧ b.hi ≤ t)) : MA.fitB tops bs = false := by
  unfold MA.fitB
  rw [Bool.and_eq_false_iff]
  refine .inr ?_
  rw [List.all_eq_false]
  refine ⟨(b, t), List.mem_iff_getElem?.mpr ⟨i, List.getElem?_zip_eq_some.mpr ⟨e1, e2⟩⟩, ?_⟩
  simp only [Bool.and_eq_true, decide_eq_true_eq]
  exact h
theorem fit_len {tops : List Nat} {bs : List Bound} (h : bs.length ≠ tops.length) : MA.fitB tops bs = false := by
  unfold MA.fitB
  rw [beq_eq_false_iff_ne.mpr h]
  rfl
theorem int_ne {a b : Nat} (h : (!decide (V.int (a : Int) = V.int (b : Int))) = true) : a ≠ b := fun e => by
  subst e
  simp at h
theorem int_eq {a b : Nat} (h : ¬ (!decide (V.int (a : Int) = V.int (b : Int))) = true) : a = b := by
  by_cases e : a = b
  · exact e
  · exact absurd (by rw [Bool.not_eq_true', decide_eq_false_iff_not]; exact fun z => e (by injection z with z; omega)) h
theorem ok_fit (F : Fun K "bounds_fit" "Table.bounds_fit" sFit f fd) (T : Txt K mg c) : FnOk P w K mg base CX0 1 f fd ["self", "bounds"] (spFit c) := by
  refine F.ok scFit (fun vs H Q E h => ?_) (fun cdv A outer s H vs Q E hr h => ?_)
  · obtain ⟨S, S2, t, l, h, bs, rfl, _⟩ := h
    rfl
  · obtain ⟨S, S2, t, l, h, bs, rfl, ⟨a, b, ra, TB⟩, ⟨tl, _, hl, hlen, hb⟩, k⟩ := h
    obtain ⟨dx, ht⟩ := TB.ins
    refine ⟨_, pss_cons (ps_if (pt_cmpR op_ne (pe_callB call_len_seq (by rfl) T.len PySem.boot_len (pa_cons (pv 1) pa_nil)) (pe_callB call_len_seq (by rfl) T.len PySem.boot_len (pa_cons (pe_fld (pv 0) rfl) pa_nil)) (nomark _)) (pss_one (ps_ret pe_bl)) pss_nil)
      (pss_cons (ps_for PassesOwn.never rfl (pi_zip rfl T.zip (pa_cons (pv 1) (pa_cons (pe_fld (pv 0) rfl) pa_nil))) (pg_tup rfl (pgs_cons (pg_name (i := 2) scFit.nd rfl (Or.inl rfl)) (pgs_cons (pg_name (i := 3) scFit.nd rfl (Or.inl rfl)) pgs_nil)))
      (pss_one (ps_if (PW.pt (pw_or (pt_cmpR op_gt (pe_ix ix_tup (pv 2) pe_int (fun _ _ => rfl)) (pe_ix ix_tup (pv 2) pe_int (fun _ _ => rfl)) (nomark _)) (pw_or1 (pt_cmpR op_gt (pe_ix ix_tup (pv 2) pe_int (fun _ _ => rfl)) (pv 3) (nomark _))))) (pss_one (ps_ret pe_bl)) pss_nil)))
      (pss_one (ps_ret pe_bl))), ?_⟩
    refine ⟨_, rfl, l, _, rfl, .inl (SqL.of hl), _, rfl, t, c.T, dx, _, _, rfl, ht, T.clT, T.nT.1, rfl, a, _, rfl, .inl (SqL.of TB.tops), rfl, _, rfl, ?_⟩
    rw [natL_len, List.length_map, hlen]
    refine ite2 (fun h1 => ?_) (fun h1 => ?_)
    · rw [← fit_len (int_ne h1)]
      exact k H (Same.refl H)
    have hlt := int_eq h1
    refine ⟨_, rfl, _, rfl, t, c.T, dx, _, _, rfl, ht, T.clT, T.nT.1, rfl, l, a, tl.map V.ref, natL h.tops, rfl, SqL.of hl, SqL.of TB.tops, ?_⟩
    refine for_zip (K := K) (xs := tl.map V.ref) (ys := natL h.tops) (fun i σ H' => Lv2 (fun v2 v3 => [some (.ref t), some (.ref l), v2, v3]) (Same H H') (∀ (j : Nat) (b : Bound) (u : Nat), j < i → bs[j]? = some b → h.tops[j]? = some u → b.lo ≤ b.hi ∧ b.hi ≤ u) σ)
      ⟨none, none, rfl, Same.refl H, fun j _ _ hj => absurd hj (Nat.not_lt_zero _)⟩ (fun i σ H' _ q => ⟨SqL.of (q.p _ _ hl), SqL.of (q.p _ _ TB.tops)⟩) (by rw [natL_len, List.length_map, hlen, hlt]) ?_ ?_
    · rintro i x y σ H' U hx hy ⟨v2, v3, rfl, sm, up⟩ hU
      obtain ⟨q, hq, rfl⟩ := refs_get hx
      obtain ⟨n, hn, rfl⟩ := natL_get hy
      obtain ⟨b, hbb, _, hq2⟩ := hb i q hq
      have sm2 : Same H (upd H' U (.tup [V.ref q, V.int n])) := sm.trans (same_upd hU)
      have hq3 := sm2 _ _ hq2
      refine ⟨U, _, rfl, SqT.of upd_same, rfl, _, _, rfl, _, _, rfl, rfl, ?_⟩
      refine ⟨_, rfl, q, _, _, _, rfl, rfl, SqT.of hq3, rfl, _, rfl, q, _, _, _, rfl, rfl, SqT.of hq3, rfl, _, _, rfl, rfl, _, rfl, ?_⟩
      refine ite2 (fun h1 => ?_) (fun h1 => ?_)
      · refine iteT ?_
        rw [← fit_not hbb hn (by have z := of_decide_eq_true h1; omega)]
        exact k _ sm2
      · refine ⟨_, rfl, q, _, _, _, rfl, rfl, SqT.of hq3, rfl, _, rfl, _, _, rfl, rfl, _, rfl, ?_⟩
        refine ite2 (fun h2 => ?_) (fun h2 => ?_)
        · rw [← fit_not hbb hn (by have z := of_decide_eq_true h2; omega)]
          exact k _ sm2
        · refine ⟨_, _, rfl, sm2, fun j b' n' hj e1 e2 => ?_⟩
          by_cases hji : j = i
          · subst hji
            rw [hbb] at e1
            rw [hn] at e2
            cases e1
            cases e2
            have z1 : ¬ (b.hi : Int) < (b.lo : Int) := fun z => h1 (decide_eq_true z)
            have z2 : ¬ (n : Int) < (b.hi : Int) := fun z => h2 (decide_eq_true z)
            omega
          · exact up j b' n' (by omega) e1 e2
    · rintro σ H' ⟨v2, v3, rfl, sm, up⟩
      have e := fit_all hlt (fun j b u e1 e2 => up j b u (by rw [List.length_map, hlen]; exact (List.getElem?_eq_some_iff.mp e1).1) e1 e2)
      show Q (.bl true) H'
      rw [← e]
      exact k H' sm
theorem scCase : FnScope ["self", "case", "number", "top"] ["self", "case"] (defScope sCase) := ⟨rfl, rfl, rfl, by decide +kernel, rfl, by decide +kernel, by decide +kernel⟩
theorem good_not {h : Kp208.House} {cs : List Nat} (n : ¬ SS.isCase h.tops cs) : Kp208.good h cs = false := by
  cases e : Kp208.good h cs with
  | false => rfl
  | true => exact absurd (MA.good_iff.mp e) n
theorem ok_case (F : Fun K "is_case" "Table.is_case" sCase f fd) (T : Txt K mg c) : FnOk P w K mg base CX0 1 f fd ["self", "case"] (spCase K c) := by
  refine F.ok scCase (fun vs H Q E h => ?_) (fun cdv A outer s H vs Q E hr h => ?_)
  · obtain ⟨S, t, l, h, cs, rfl, _⟩ := h
    rfl
  · obtain ⟨S, t, l, h, cs, rfl, ⟨a, b, ra, TB⟩, hl, k⟩ := h
    obtain ⟨dx, ht⟩ := TB.ins
    refine ⟨_, pss_cons (ps_if (pt_cmpR op_ne (pe_callB call_len_seq (by rfl) T.len PySem.boot_len (pa_cons (pv 1) pa_nil)) (pe_callB call_len_seq (by rfl) T.len PySem.boot_len (pa_cons (pe_fld (pv 0) rfl) pa_nil)) (nomark _)) (pss_one (ps_ret pe_bl)) pss_nil)
      (pss_cons (ps_for PassesOwn.never rfl (pi_zip rfl T.zip (pa_cons (pv 1) (pa_cons (pe_fld (pv 0) rfl) pa_nil))) (pg_tup rfl (pgs_cons (pg_name (i := 2) scCase.nd rfl (Or.inl rfl)) (pgs_cons (pg_name (i := 3) scCase.nd rfl (Or.inl rfl)) pgs_nil)))
      (pss_one (ps_if (pt_cmpR op_gt (pv 2) (pv 3) (nomark _)) (pss_one (ps_ret pe_bl)) pss_nil)))
      (pss_one (ps_ret pe_bl))), ?_⟩
    refine ⟨_, rfl, l, _, rfl, .inl hl, _, rfl, t, c.T, dx, _, _, rfl, ht, T.clT, T.nT.1, rfl, a, _, rfl, .inl (SqL.of TB.tops), rfl, _, rfl, ?_⟩
    rw [natL_len, natL_len]
    refine ite2 (fun h1 => ?_) (fun h1 => ?_)
    · rw [← good_not (h := h) (cs := cs) fun z => int_ne h1 z.1]
      exact k H (Same.refl H)
    have hlt := int_eq h1
    refine ⟨_, rfl, _, rfl, t, c.T, dx, _, _, rfl, ht, T.clT, T.nT.1, rfl, l, a, natL cs, natL h.tops, rfl, hl, SqL.of TB.tops, ?_⟩
    refine for_zip (K := K) (xs := natL cs) (ys := natL h.tops) (fun i σ H' => Lv2 (fun v2 v3 => [some (.ref t), some (.ref l), v2, v3]) (Same H H') (∀ (j n u : Nat), j < i → cs[j]? = some n → h.tops[j]? = some u → n ≤ u) σ)
      ⟨none, none, rfl, Same.refl H, fun j _ _ hj => absurd hj (Nat.not_lt_zero _)⟩ (fun i σ H' _ q => ⟨q.p.seq hl, SqL.of (q.p _ _ TB.tops)⟩) (by rw [natL_len, natL_len, hlt]) ?_ ?_
    · rintro i x y σ H' U hx hy ⟨v2, v3, rfl, sm, up⟩ hU
      obtain ⟨m, hm, rfl⟩ := natL_get hx
      obtain ⟨n, hn, rfl⟩ := natL_get hy
      have sm2 : Same H (upd H' U (.tup [V.int m, V.int n])) := sm.trans (same_upd hU)
      refine ⟨U, _, rfl, SqT.of upd_same, rfl, _, _, rfl, _, _, rfl, rfl, ?_⟩
      refine ⟨_, rfl, _, rfl, _, _, rfl, rfl, _, rfl, ?_⟩
      refine ite2 (fun h1 => ?_) (fun h1 => ?_)
      · rw [← good_not (h := h) (cs := cs) fun z => by have z1 := of_decide_eq_true h1; have z2 := z.2 i m n hm hn; omega]
        exact k _ sm2
      · refine ⟨_, _, rfl, sm2, fun j m' n' hj e1 e2 => ?_⟩
        by_cases hji : j = i
        · subst hji
          rw [hm] at e1
          rw [hn] at e2
          cases e1
          cases e2
          have z1 : ¬ (n : Int) < (m : Int) := fun z => h1 (decide_eq_true z)
          omega
        · exact up j m' n' (by omega) e1 e2
    · rintro σ H' ⟨v2, v3, rfl, sm, up⟩
      have e : Kp208.good h cs = true := MA.good_iff.mpr ⟨hlt, fun j n u e1 e2 => up j n u (by rw [natL_len]; exact (List.getElem?_eq_some_iff.mp e1).1) e1 e2⟩
      show Q (.bl true) H'
      rw [← e]
      exact k H' sm
theorem scFirst : FnScope ["self", "case", "k", "rule"] ["self", "case"] (defScope sFirst) := ⟨rfl, rfl, rfl, by decide +kernel, rfl, by decide +kernel, by decide +kernel⟩
theorem ok_first (F : Fun K "first_that_holds" "Table.first_that_holds" sFirst f fd) (T : Txt K mg c) (MH : MOk P w K mg base c.R "holds" 1 ["self", "case"] (spHolds K c)) : FnOk P w K mg base CX0 2 f fd ["self", "case"] (spFirst K c) := by
  obtain ⟨fh, fdh, GH, bH, mH⟩ := MH
  refine F.ok scFirst (fun vs H Q E h => ?_) (fun cdv A outer s H vs Q E hr h => ?_)
  · obtain ⟨S, t, l, h, cs, rfl, _⟩ := h
    rfl
  · obtain ⟨S, t, l, h, cs, rfl, ⟨a, b, ra, TB⟩, hl, hlen, k⟩ := h
    obtain ⟨dx, ht⟩ := TB.ins
    refine ⟨_, pss_cons (ps_for PassesOwn.never rfl (pi_enum rfl T.enum (pa_cons (pe_fld (pv 0) rfl) pa_nil)) (pg_tup rfl (pgs_cons (pg_name (i := 2) scFirst.nd rfl (Or.inl rfl)) (pgs_cons (pg_name (i := 3) scFirst.nd rfl (Or.inl rfl)) pgs_nil)))
      (pss_one (ps_if (pt_val (pe_meth (pv 3) T.clR mH GH hr bH .nil pass0 (pa_cons (pv 1) pa_nil))) (pss_one (ps_ret (pv 2))) pss_nil))) (pss_one (ps_ret pe_non)), ?_⟩
    refine ⟨_, rfl, t, c.T, dx, _, _, rfl, ht, T.clT, T.nT.2, rfl, b, _, rfl, SqL.of TB.rules, ?_⟩
    refine for_enum (K := K) (xs := ra.map V.ref) (fun i σ H' => Lv2 (fun v2 v3 => [some (.ref t), some (.ref l), v2, v3]) (Same H H') (∀ (j : Nat) (r : Rule), j < i → h.rules[j]? = some r → Kp205.holds r cs = false) σ)
      ⟨none, none, rfl, Same.refl H, fun j _ hj => absurd hj (Nat.not_lt_zero _)⟩ (fun i σ H' _ q => SqL.of (q.p _ _ TB.rules)) ?_ ?_
    · rintro i x σ H' U hx ⟨v2, v3, rfl, sm, up⟩ hU
      obtain ⟨p, hp, rfl⟩ := refs_get hx
      obtain ⟨r, hr1, hr2⟩ := TB.each i p hp
      have sm2 : Same H (upd H' U (.tup [V.int (i : Nat), V.ref p])) := sm.trans (same_upd hU)
      have hr3 := hr2.keep (sm2.keeps.kp)
      obtain ⟨dr, lr, _, hpi, _⟩ := id hr3
      refine ⟨U, _, rfl, SqT.of upd_same, rfl, _, _, rfl, _, _, rfl, rfl, ?_⟩
      refine ⟨_, rfl, p, dr, _, rfl, hpi, rfl, _, rfl, ?_⟩
      refine ⟨S, p, l, r, cs, rfl, hr3, sm2.seq hl, hlen r (List.mem_of_getElem? hr1), fun H2 sm3 => ⟨_, rfl, ?_⟩⟩
      refine ite2 (fun h1 => ?_) (fun h1 => ?_)
      · refine ⟨_, rfl, ?_⟩
        have e : Kp205.first h.rules cs = some i := by
          unfold Kp205.first
          rw [List.findIdx?_eq_some_iff_getElem]
          obtain ⟨hi, ei⟩ := List.getElem?_eq_some_iff.mp hr1
          refine ⟨hi, by rw [ei]; exact h1, fun j hj => ?_⟩
          have := up j _ hj (List.getElem?_eq_getElem (Nat.lt_trans hj hi))
          simp [this]
        have q := k H2 (sm2.trans sm3)
        rw [e] at q
        exact q
      · refine ⟨_, _, rfl, sm2.trans sm3, fun j r' hj e1 => ?_⟩
        by_cases hji : j = i
        · subst hji
          rw [hr1] at e1
          cases e1
          cases q : Kp205.holds r cs with
          | false => rfl
          | true => exact absurd q h1
        · exact up j r' (by omega) e1
    · rintro σ H' ⟨v2, v3, rfl, sm, up⟩
      have e : Kp205.first h.rules cs = none := by
        unfold Kp205.first
        rw [List.findIdx?_eq_none_iff]
        intro r hm
        obtain ⟨j, hj, ej⟩ := List.mem_iff_getElem.mp hm
        exact up j r (by rw [List.length_map, TB.len]; exact hj) (List.getElem?_eq_some_iff.mpr ⟨hj, ej⟩)
      have q := k H' sm
      rw [e] at q
      exact q
end
end WD
end
section
set_option Elab.async false
set_option linter.all false
set_option maxRecDepth 100000
set_option maxHeartbeats 4000000
namespace WD
open PySem PySem.Spec PyProof.Rows L2 X3
open Kp205 (Bound Rule)
noncomputable abbrev sDecide : Stmt := inClass (top 8) 6
noncomputable abbrev sToldIn : Stmt := inClass (top 8) 9
noncomputable abbrev sToldEach : Stmt := inClass (top 8) 10
inductive RDecide (K : PySem.W.Frag) (c : Ad) (vs : List V) (H : Hp) (Q : VK) : Prop
  | mk (S : Addr → Prop) (t l : Addr) (h : Kp208.House) (cs : List Nat) (h0 : vs = [.ref t, .ref l]) (h1 : TabAt c S H t h) (h2 : MA.OkH h) (h3 : SqL K H l (natL cs)) (h4 : ∀ (H' : Hp) (q : Addr), Told H H' q (MA.ansDecide h cs) → Same H H' → Q (.ref q) H') : RDecide K c vs H Q
noncomputable def spDecide (K : PySem.W.Frag) (c : Ad) : Sp := fun vs H Q _ => RDecide K c vs H Q
inductive RToldIn (K : PySem.W.Frag) (c : Ad) (vs : List V) (H : Hp) (Q : VK) : Prop
  | mk (S : Addr → Prop) (t l : Addr) (h : Kp208.House) (cs : List Nat) (h0 : vs = [.ref t, .ref l]) (h1 : TabAt c S H t h) (h2 : SqL K H l (natL cs)) (h3 : (∀ r ∈ h.rules, r.bounds.length = cs.length)) (h4 : ∀ H' : Hp, Same H H' → Q (.int (Kp205.decided h.rules cs : Nat)) H') : RToldIn K c vs H Q
noncomputable def spToldIn (K : PySem.W.Frag) (c : Ad) : Sp := fun vs H Q _ => RToldIn K c vs H Q
inductive RToldEach (c : Ad) (vs : List V) (H : Hp) (Q : VK) : Prop
  | mk (S : Addr → Prop) (t : Addr) (h : Kp208.House) (h0 : vs = [.ref t]) (h1 : TabAt c S H t h) (h2 : h.rules.length ≤ 10) (h3 : ∀ (H' : Hp) (q : Addr), H q = none → H' q = some (.lst (natL (MA.toldAll h.rules))) → Same H H' → Q (.ref q) H') : RToldEach c vs H Q
noncomputable def spToldEach (c : Ad) : Sp := fun vs H Q _ => RToldEach c vs H Q
theorem bounds_len {h : Kp208.House} {cs : List Nat} (ok : MA.OkH h) (g : Kp208.good h cs = true) : ∀ r ∈ h.rules, r.bounds.length = cs.length := fun r hr => by
  rw [(ok.rules r hr).1, (MA.good_iff.mp g).1]
section
variable {P : Program} {w : World} {K : PySem.W.Frag} {mg : Str → Option Value} {base : Heap} {c : Ad} {f : Addr} {fd : FuncData}
theorem few_line {n : Nat} (h : n ≤ 1000) : n ≤ sizeLine := by rw [sizeLine_eq]; omega
theorem few_lt {n : Nat} (h : n ≤ 1000) : n < sizeLine := by rw [sizeLine_eq]; omega
theorem scDecide : FnScope ["self", "case", "k"] ["self", "case"] (defScope sDecide) := ⟨rfl, rfl, rfl, by decide +kernel, rfl, by decide +kernel, by decide +kernel⟩
theorem ok_decide (F : Fun K "decide" "Table.decide" sDecide f fd) (T : Txt K mg c) (M1 : MOk P w K mg base c.T "is_case" 1 ["self", "case"] (spCase K c)) (M2 : MOk P w K mg base c.T "first_that_holds" 2 ["self", "case"] (spFirst K c)) :
    FnOk P w K mg base CX0 3 f fd ["self", "case"] (spDecide K c) := by
  obtain ⟨f1, d1, G1, b1, m1⟩ := M1
  obtain ⟨f2, d2, G2, b2, m2⟩ := M2
  refine F.ok scDecide (fun vs H Q E h => ?_) (fun cdv A outer s H vs Q E hr h => ?_)
  · obtain ⟨S, t, l, h, cs, rfl, _⟩ := h
    rfl
  · obtain ⟨S, t, l, h, cs, rfl, TA, ok, hl, k⟩ := h
    obtain ⟨a, b, ra, TB⟩ := id TA
    obtain ⟨dx, ht⟩ := TB.ins
    obtain ⟨t5, e5⟩ := T.i5
    have hr1 : Room 1 _ := hr.mono (by decide)
    refine ⟨_, pss_cons (ps_if (pt_not (pt_val (pe_meth (pv 0) T.clT m1 G1 hr1 b1 .nil pass0 (pa_cons (pv 1) pa_nil)))) (pss_one (ps_ret (pe_lst (pa_cons (pe_glob (v := .int (-22)) rfl e5 ⟨t5, rfl⟩) pa_nil)))) pss_nil)
      (pss_cons (ps_set (i := 2) scDecide.nd rfl (Or.inl rfl) (pe_meth (pv 0) T.clT m2 G2 hr b2 .nil pass0 (pa_cons (pv 1) pa_nil)))
      (pss_cons (ps_if (pt_cmp (pc_isN (pv 2))) (pss_one (ps_ret (pe_lst (pa_cons pe_int pa_nil)))) pss_nil)
      (pss_one (ps_ret (pe_lst (pa_cons pe_int (pa_cons (pe_fld (pe_ix ix_list (pe_fld (pv 0) rfl) (pv 2) (fun _ _ => rfl)) rfl) (pa_cons (pv 2) pa_nil)))))))), ?_⟩
    refine ⟨_, rfl, t, dx, _, rfl, ht, rfl, _, rfl, S, t, l, h, cs, rfl, TA, hl, fun H1 sm1 => ⟨_, rfl, ?_⟩⟩
    cases hg : Kp208.good h cs with
    | false =>
      refine iteT ⟨one_line, fun q hq => k _ q ⟨sm1.free hq, ?_⟩ (sm1.trans (same_upd hq))⟩
      rw [upd_same]
      unfold MA.ansDecide
      rw [if_pos hg]
      rfl
    | true =>
      refine iteF ?_
      have TA1 := TA.keep sm1.keeps.kp
      refine ⟨_, rfl, t, dx, _, rfl, sm1 _ _ ht, rfl, _, rfl, S, t, l, h, cs, rfl, TA1, sm1.seq hl, bounds_len ok hg, fun H2 sm2 => ?_⟩
      have sm := sm1.trans sm2
      have ans : MA.ansDecide h cs = match Kp205.first h.rules cs with
          | some k => [1, (Kp205.outcomeOf h.rules k : Int), (k : Int)]
          | none => [0] := by
        unfold MA.ansDecide
        rw [if_neg (by rw [hg]; exact fun z => nomatch z)]
        all_goals (cases Kp205.first h.rules cs <;> rfl)
      refine ⟨_, rfl, _, rfl, ?_⟩
      cases hf : Kp205.first h.rules cs with
      | none =>
        rw [hf] at ans
        refine iteT ⟨one_line, fun q hq => k _ q ⟨sm.free hq, ?_⟩ (sm.trans (same_upd hq))⟩
        rw [upd_same, ans]
        rfl
      | some j =>
        rw [hf] at ans
        refine iteF ?_
        have hj : j < h.rules.length := by
          unfold Kp205.first at hf
          exact (List.findIdx?_eq_some_iff_getElem.mp hf).1
        obtain ⟨p, hp⟩ : ∃ p, ra[j]? = some p := ⟨_, List.getElem?_eq_getElem (by rw [TB.len]; exact hj)⟩
        obtain ⟨r, hr1, dr, lr, _, hpi, _⟩ := TB.each j p hp
        refine ⟨_, rfl, t, c.T, dx, _, _, rfl, sm _ _ ht, T.clT, T.nT.2, rfl, _, rfl, b, _, _, _, rfl, rfl, SqL.of (sm _ _ TB.rules), atI_nat (refs_at hp), p, c.R, dr, _, _, rfl, sm _ _ hpi, T.clR, T.nR.1, rfl, _, rfl, few_line (by show 3 ≤ 1000; decide), fun q hq => k _ q ⟨sm.free hq, ?_⟩ (sm.trans (same_upd hq))⟩
        rw [upd_same, ans]
        have eo : Kp205.outcomeOf h.rules j = r.outcome := by
          unfold Kp205.outcomeOf
          rw [hr1]
        dsimp only
        rw [eo]
        rfl
theorem scToldIn : FnScope ["self", "case", "k"] ["self", "case"] (defScope sToldIn) := ⟨rfl, rfl, rfl, by decide +kernel, rfl, by decide +kernel, by decide +kernel⟩
theorem ok_toldIn (F : Fun K "told_in" "Table.told_in" sToldIn f fd) (T : Txt K mg c) (M2 : MOk P w K mg base c.T "first_that_holds" 2 ["self", "case"] (spFirst K c)) : FnOk P w K mg base CX0 3 f fd ["self", "case"] (spToldIn K c) := by
  obtain ⟨f2, d2, G2, b2, m2⟩ := M2
  refine F.ok scToldIn (fun vs H Q E h => ?_) (fun cdv A outer s H vs Q E hr h => ?_)
  · obtain ⟨S, t, l, h, cs, rfl, _⟩ := h
    rfl
  · obtain ⟨S, t, l, h, cs, rfl, TA, hl, hlen, k⟩ := h
    obtain ⟨a, b, ra, TB⟩ := id TA
    obtain ⟨dx, ht⟩ := TB.ins
    refine ⟨_, pss_cons (ps_set (i := 2) scToldIn.nd rfl (Or.inl rfl) (pe_meth (pv 0) T.clT m2 G2 hr b2 .nil pass0 (pa_cons (pv 1) pa_nil)))
      (pss_one (ps_ret (pe_ifExp (pt_cmp (pc_isN (pv 2))) pe_int (pe_op op_add (pe_fld (pe_ix ix_list (pe_fld (pv 0) rfl) (pv 2) (fun _ _ => rfl)) rfl) pe_int)))), ?_⟩
    refine ⟨_, rfl, t, dx, _, rfl, ht, rfl, _, rfl, S, t, l, h, cs, rfl, TA, hl, hlen, fun H2 sm => ?_⟩
    refine ⟨_, rfl, _, rfl, ?_⟩
    have q := k H2 sm
    unfold Kp205.decided at q
    cases hf : Kp205.first h.rules cs with
    | none =>
      rw [hf] at q
      exact iteT q
    | some j =>
      rw [hf] at q
      refine iteF ?_
      have hj : j < h.rules.length := by
        unfold Kp205.first at hf
        exact (List.findIdx?_eq_some_iff_getElem.mp hf).1
      obtain ⟨p, hp⟩ : ∃ p, ra[j]? = some p := ⟨_, List.getElem?_eq_getElem (by rw [TB.len]; exact hj)⟩
      obtain ⟨r, hr1, dr, lr, _, hpi, _⟩ := TB.each j p hp
      refine ⟨_, rfl, t, c.T, dx, _, _, rfl, sm _ _ ht, T.clT, T.nT.2, rfl, _, rfl, b, _, _, _, rfl, rfl, SqL.of (sm _ _ TB.rules), atI_nat (refs_at hp), p, c.R, dr, _, _, rfl, sm _ _ hpi, T.clR, T.nR.1, rfl, _, _, rfl, rfl, ?_⟩
      have eo : Kp205.outcomeOf h.rules j = r.outcome := by
        unfold Kp205.outcomeOf
        rw [hr1]
      have q' : Q (.int ((Kp205.outcomeOf h.rules j + 1 : Nat) : Int)) H2 := q
      rw [eo] at q'
      exact q'
theorem scToldEach : FnScope ["self", "rule"] ["self"] (defScope sToldEach) := ⟨rfl, rfl, rfl, by decide +kernel, rfl, by decide +kernel, by decide +kernel⟩
theorem take_snoc {α : Type} {l : List α} {i : Nat} {x : α} (h : l[i]? = some x) : l.take (i + 1) = l.take i ++ [x] := by
  rw [List.take_add_one, h]
  rfl
noncomputable def compSc (names : List (Str × NameKind)) : Scope := { kind := .function, names := names, isGenerator := false, isCoroutine := false }
theorem blkTold : BlkOk ["self", "rule"] (defScope sToldEach) (compSc [(".0", .local), ("rule", .local)]) [("rule", 1)] := blkOk_by (by decide +kernel)
theorem ok_toldEach (F : Fun K "told_by_each" "Table.told_by_each" sToldEach f fd) (T : Txt K mg c) : FnOk P w K mg base CX0 1 f fd ["self"] (spToldEach c) := by
  refine F.ok scToldEach (fun vs H Q E h => ?_) (fun cdv A outer s H vs Q E hr h => ?_)
  · obtain ⟨S, t, h, rfl, _⟩ := h
    rfl
  · obtain ⟨S, t, h, rfl, ⟨a, b, ra, TB⟩, h10, k⟩ := h
    obtain ⟨dx, ht⟩ := TB.ins
    refine ⟨_, pss_one (ps_ret (pe_op op_cat (pe_lst (pa_cons pe_int pa_nil)) (pe_lc rfl scToldEach.nd (pi_list (pe_fld (pv 0) rfl)) blkTold
      (fun _ _ _ _ _ => pg_name (i := 1) scToldEach.nd rfl (Or.inl rfl)) (fun _ _ _ _ _ => pts_nil) (fun _ _ _ _ _ => pe_op op_add (pe_fldB K (pv 1)) pe_int)))), ?_⟩
    refine ⟨one_line, fun l1 hl1 => ⟨_, rfl, t, c.T, dx, _, _, rfl, same_upd hl1 _ _ ht, T.clT, T.nT.2, rfl, b, rfl, ⟨_, SqL.of (same_upd hl1 _ _ TB.rules)⟩, fun D hD => ?_⟩⟩
    have sm1 : Same H (upd H l1 (.lst [.int 0])) := same_upd hl1
    refine lc_list (K := K) (xs := ra.map V.ref) (fun i H' => Same (upd H l1 (.lst [.int 0])) H' ∧ H' D = some (.lst (natL ((h.rules.take i).map fun r => r.outcome + 1)))) ⟨same_upd hD, upd_same⟩ (fun i H' _ q => SqL.of ((sm1.trans q.1) _ _ TB.rules)) ?_ ?_
    · rintro i x H' hx ⟨sm, hD'⟩
      obtain ⟨p, hp, rfl⟩ := refs_get hx
      obtain ⟨r, hr1, dr, lr, _, hpi, _⟩ := TB.each i p hp
      refine ⟨rfl, yes_in ?_⟩
      refine ⟨_, rfl, p, c.R, dr, _, _, rfl, (sm1.trans sm) _ _ hpi, T.clR, T.nR.1, rfl, _, _, rfl, rfl, _, hD', ?_, ?_⟩
      · rw [natL_len, List.length_map, List.length_take]
        exact few_lt (by omega)
      · refine ⟨fun y o e => ?_, ?_⟩
        · rw [upd_ne (ne_of_none e hD)]
          exact sm y o e
        · rw [upd_same, take_snoc hr1, List.map_append]
          unfold natL
          rw [List.map_append]
          rfl
    · rintro H' ⟨sm, hD'⟩
      rw [List.length_map, TB.len, List.take_length] at hD'
      have hl2 : H' l1 = some (.lst [.int 0]) := sm _ _ upd_same
      refine ⟨l1, D, _, _, rfl, rfl, hl2, hD', ?_, fun q hq => k _ q ((sm1.trans sm).free hq) ?_ ((sm1.trans sm).trans (same_upd hq))⟩
      · rw [natL_len, List.length_map]
        exact few_line (by show 1 + _ ≤ _; omega)
      · rw [upd_same]
        rfl
end
end WD
end
section
set_option Elab.async false
set_option linter.all false
set_option maxRecDepth 100000
set_option maxHeartbeats 4000000
namespace WD
open PySem PySem.Spec PyProof.Rows L2 X3
open Kp205 (Bound Rule)
noncomputable abbrev sAllow : Stmt := inClass (top 8) 11
noncomputable abbrev sTurns : Stmt := inClass (top 8) 12
noncomputable abbrev sPieces : Stmt := inClass (top 8) 13
inductive RAllow (c : Ad) (vs : List V) (H : Hp) (Q : VK) : Prop
  | mk (S : Addr → Prop) (t : Addr) (h : Kp208.House) (k x : Nat) (h0 : vs = [.ref t, .int (k : Nat), .int (x : Nat)]) (h1 : TabAt c S H t h) (h2 : h.rules.length ≤ 10) (h3 : (∀ r ∈ h.rules, k < r.bounds.length)) (h4 : ∀ H' : Hp, Same H H' → Q (.int (MA.allow h.rules k x : Nat)) H') : RAllow c vs H Q
noncomputable def spAllow (c : Ad) : Sp := fun vs H Q _ => RAllow c vs H Q
inductive RTurns (c : Ad) (vs : List V) (H : Hp) (Q : VK) : Prop
  | mk (S : Addr → Prop) (t : Addr) (h : Kp208.House) (k u : Nat) (h0 : vs = [.ref t, .int (k : Nat)]) (h1 : TabAt c S H t h) (h2 : h.rules.length ≤ 10) (h3 : (∀ r ∈ h.rules, k < r.bounds.length)) (h4 : h.tops[k]? = some u) (h5 : ∀ (H' : Hp) (q : Addr), Same H H' → H q = none → H' q = some (.lst (natL (MA.turns h.rules k u))) → Q (.ref q) H') : RTurns c vs H Q
noncomputable def spTurns (c : Ad) : Sp := fun vs H Q _ => RTurns c vs H Q
inductive PcsAt (H : Hp) (q : Addr) (ps : List (Nat × Nat)) : Prop
  | mk (pl : List Addr) (e : H q = some (.lst (pl.map V.ref))) (n : pl.length = ps.length) (f : ∀ (j : Nat) (a : Addr), pl[j]? = some a → ∃ p, ps[j]? = some p ∧ H a = some (.tup [.int (p.2 : Nat), .int (p.1 : Nat)]))
inductive RPieces (c : Ad) (vs : List V) (H : Hp) (Q : VK) : Prop
  | mk (S : Addr → Prop) (t : Addr) (h : Kp208.House) (k u : Nat) (h0 : vs = [.ref t, .int (k : Nat)]) (h1 : TabAt c S H t h) (h2 : h.rules.length ≤ 10) (h3 : (∀ r ∈ h.rules, k < r.bounds.length)) (h4 : h.tops[k]? = some u) (h5 : ∀ (H' : Hp) (q : Addr), Same H H' → H q = none → PcsAt H' q (MA.pieces h.rules k u) → Q (.ref q) H') : RPieces c vs H Q
noncomputable def spPieces (c : Ad) : Sp := fun vs H Q _ => RPieces c vs H Q
theorem PcsAt.keep {H H' : Hp} {q : Addr} {ps : List (Nat × Nat)} (x : PcsAt H q ps) (k : Keeps H H') : PcsAt H' q ps := by
  obtain ⟨pl, e, n, f⟩ := x
  refine ⟨pl, k _ _ e rfl, n, fun j a ha => ?_⟩
  obtain ⟨p, h1, h2⟩ := f j a ha
  exact ⟨p, h1, k _ _ h2 rfl⟩
section
variable {P : Program} {w : World} {K : PySem.W.Frag} {mg : Str → Option Value} {base : Heap} {c : Ad} {f : Addr} {fd : FuncData}
theorem scAllow : FnScope ["self", "k", "number", "bits", "j", "rule"] ["self", "k", "number"] (defScope sAllow) := ⟨rfl, rfl, rfl, by decide +kernel, rfl, by decide +kernel, by decide +kernel⟩
theorem shl_nat (j : Nat) : (1 : Int) * 2 ^ ((j : Int)).toNat = ((2 ^ j : Nat) : Int) := by
  rw [Int.one_mul, Int.toNat_natCast]
  exact (Int.natCast_pow 2 j).symm
theorem allow_in {rs : List Rule} {k x i : Nat} {r : Rule} {b : Bound} (e1 : rs[i]? = some r) (e2 : r.bounds[k]? = some b) (h : b.lo ≤ x ∧ x ≤ b.hi) : MA.allowTo rs k x (i + 1) = MA.allowTo rs k x i ||| 2 ^ i := by
  have q : MA.inAt rs i k x = true := by
    unfold MA.inAt MA.inB
    rw [e1]
    dsimp only
    rw [e2]
    exact SS.inside_iff.mpr h
  show (if MA.inAt rs i k x = true then _ else _) = _
  rw [if_pos q]
theorem allow_out {rs : List Rule} {k x i : Nat} {r : Rule} {b : Bound} (e1 : rs[i]? = some r) (e2 : r.bounds[k]? = some b) (h : ¬ (b.lo ≤ x ∧ x ≤ b.hi)) : MA.allowTo rs k x (i + 1) = MA.allowTo rs k x i := by
  have q : ¬ MA.inAt rs i k x = true := by
    unfold MA.inAt MA.inB
    rw [e1]
    dsimp only
    rw [e2]
    exact fun z => h (SS.inside_iff.mp z)
  show (if MA.inAt rs i k x = true then _ else _) = _
  rw [if_neg q]
theorem ok_allow (F : Fun K "allowing" "Table.allowing" sAllow f fd) (T : Txt K mg c) : FnOk P w K mg base CX0 1 f fd ["self", "k", "number"] (spAllow c) := by
  refine F.ok scAllow (fun vs H Q E h => ?_) (fun cdv A outer s H vs Q E hr h => ?_)
  · obtain ⟨S, t, h, k, x, rfl, _⟩ := h
    rfl
  · obtain ⟨S, t, h, k, x, rfl, ⟨a, b, ra, TB⟩, h10, hk, kk⟩ := h
    obtain ⟨dx, ht⟩ := TB.ins
    refine ⟨_, pss_cons (ps_set (i := 3) scAllow.nd rfl (Or.inl rfl) pe_int) (pss_cons (ps_for PassesOwn.never rfl (pi_enum rfl T.enum (pa_cons (pe_fld (pv 0) rfl) pa_nil)) (pg_tup rfl (pgs_cons (pg_name (i := 4) scAllow.nd rfl (Or.inl rfl)) (pgs_cons (pg_name (i := 5) scAllow.nd rfl (Or.inl rfl)) pgs_nil)))
      (pss_one (ps_if (pt_chain op_le op_le (pe_ix ix_tup (pe_ix ix_list (pe_fld (pv 5) rfl) (pv 1) (fun _ _ => rfl)) pe_int (fun _ _ => rfl)) (pv 2) (pe_ix ix_tup (pe_ix ix_list (pe_fld (pv 5) rfl) (pv 1) (fun _ _ => rfl)) pe_int (fun _ _ => rfl)))
        (pss_one (ps_aug (i := 3) scAllow.nd rfl (Or.inl rfl) (pe_op op_shl pe_int (pv 4)) ip_or)) pss_nil))) (pss_one (ps_ret (pv 3)))), ?_⟩
    refine ⟨_, rfl, t, c.T, dx, _, _, rfl, ht, T.clT, T.nT.2, rfl, b, _, rfl, SqL.of TB.rules, ?_⟩
    refine for_enum (K := K) (xs := ra.map V.ref) (fun i σ H' => Lv2 (fun v4 v5 => [some (.ref t), some (.int k), some (.int x), some (.int (MA.allowTo h.rules k x i : Nat)), v4, v5]) (Same H H') True σ) ⟨none, none, rfl, Same.refl H, trivial⟩ (fun i σ H' _ q => SqL.of (q.p _ _ TB.rules)) ?_ ?_
    · rintro i y σ H' U hx ⟨v4, v5, rfl, sm, _⟩ hU
      obtain ⟨p, hp, rfl⟩ := refs_get hx
      obtain ⟨r, hr1, dr, lr, _, hpi, tl, _, hlr, hln, hbb⟩ := TB.each i p hp
      have hkb := hk r (List.mem_of_getElem? hr1)
      obtain ⟨qb, hqb⟩ : ∃ q, tl[k]? = some q := ⟨_, List.getElem?_eq_getElem (by rw [hln]; exact hkb)⟩
      obtain ⟨bd, hbd, _, hqt⟩ := hbb k qb hqb
      have hi10 : i < 10 := by
        have := (List.getElem?_eq_some_iff.mp hr1).1
        omega
      have sm2 : Same H (upd H' U (.tup [V.int (i : Nat), V.ref p])) := sm.trans (same_upd hU)
      refine ⟨U, _, rfl, SqT.of upd_same, rfl, _, _, rfl, _, _, rfl, rfl, ?_⟩
      refine ⟨_, rfl, p, c.R, dr, _, _, rfl, sm2 _ _ hpi, T.clR, T.nR.2, rfl, _, rfl, lr, _, _, _, rfl, rfl, SqL.of (sm2 _ _ hlr), atI_nat (refs_at hqb), qb, _, _, _, rfl, rfl, SqT.of (sm2 _ _ hqt), rfl, _, rfl, _, _, rfl, rfl, _, rfl, ?_⟩
      refine ite2 (fun h1 => ?_) (fun h1 => ?_)
      · refine ⟨_, rfl, p, c.R, dr, _, _, rfl, sm2 _ _ hpi, T.clR, T.nR.2, rfl, _, rfl, lr, _, _, _, rfl, rfl, SqL.of (sm2 _ _ hlr), atI_nat (refs_at hqb), qb, _, _, _, rfl, rfl, SqT.of (sm2 _ _ hqt), rfl, _, _, rfl, rfl, _, rfl, ?_⟩
        refine ite2 (fun h2 => ?_) (fun h2 => ?_)
        · refine ⟨_, rfl, _, rfl, _, _, rfl, rfl, ⟨by omega, by omega, by decide⟩, _, _, rfl, rfl, some (.int (i : Nat)), some (.ref p), ?_, sm2, trivial⟩
          have z1 := of_decide_eq_true h1
          have z2 := of_decide_eq_true h2
          rw [allow_in hr1 hbd (by omega), ← nat_or, ← shl_nat]
          rfl
        · refine ⟨some (.int (i : Nat)), some (.ref p), ?_, sm2, trivial⟩
          have z2 : ¬ (x : Int) ≤ (bd.hi : Int) := fun z => h2 (decide_eq_true z)
          rw [allow_out hr1 hbd (by omega)]
          rfl
      · refine ⟨_, rfl, iteF ⟨some (.int (i : Nat)), some (.ref p), ?_, sm2, trivial⟩⟩
        have z1 : ¬ (bd.lo : Int) ≤ (x : Int) := fun z => h1 (decide_eq_true z)
        rw [allow_out hr1 hbd (by omega)]
        rfl
    · rintro σ H' ⟨v4, v5, rfl, sm, _⟩
      have q := kk H' sm
      unfold MA.allow at q
      refine ⟨_, rfl, ?_⟩
      rw [List.length_map, TB.len]
      exact q
theorem scTurns : FnScope ["self", "k", "found", "rule"] ["self", "k"] (defScope sTurns) := ⟨rfl, rfl, rfl, by decide +kernel, rfl, by decide +kernel, by decide +kernel⟩
theorem found_len (rs : List Rule) (k u : Nat) : ∀ i, (MA.foundTo rs k u i).length ≤ 1 + 2 * i
  | 0 => by simp [MA.foundTo]
  | i + 1 => by
    have ih := found_len rs k u i
    unfold MA.foundTo
    split
    · omega
    · split
      · omega
      · split
        · simp; omega
        · simp; omega
theorem found_next {rs : List Rule} {k u i : Nat} {r : Rule} {b : Bound} (e1 : rs[i]? = some r) (e2 : r.bounds[k]? = some b) : MA.foundTo rs k u (i + 1) = if b.hi < u then MA.foundTo rs k u i ++ [b.lo] ++ [b.hi + 1] else MA.foundTo rs k u i ++ [b.lo] := by
  show (match rs[i]? with
    | none => MA.foundTo rs k u i
    | some r => match r.bounds[k]? with
      | none => MA.foundTo rs k u i
      | some b => if b.hi < u then MA.foundTo rs k u i ++ [b.lo] ++ [b.hi + 1] else MA.foundTo rs k u i ++ [b.lo]) = _
  rw [e1]
  dsimp only
  rw [e2]
theorem turns_of {fo : List Nat} {ns zs : List Int} (hp : ns.Perm zs) (hs : ns.Pairwise (· ≤ ·)) (hn : zs.Nodup) (hm : ∀ z, z ∈ zs ↔ z ∈ fo.map (fun (n : Nat) => (n : Int))) : ns.map V.int = natL (MA.rising fo) := by
  have hmem : ∀ z ∈ ns, ∃ n : Nat, n ∈ fo ∧ z = (n : Int) := fun z hz => by
    obtain ⟨n, h1, h2⟩ := List.mem_map.mp ((hm z).mp (hp.mem_iff.mp hz))
    exact ⟨n, h1, h2.symm⟩
  have hnd : ns.Nodup := hp.nodup_iff.mpr hn
  have e : ns = (ns.map Int.toNat).map fun (n : Nat) => (n : Int) := by
    rw [List.map_map]
    conv => lhs; rw [← List.map_id ns]
    refine List.map_congr_left fun z hz => ?_
    obtain ⟨n, _, rfl⟩ := hmem z hz
    rfl
  have hr : (ns.map Int.toNat).Pairwise (· < ·) := by
    rw [List.pairwise_map]
    have h1 : ns.Pairwise fun a b => a ≤ b ∧ a ≠ b := hs.and hnd
    refine h1.imp_of_mem fun {a b} ha hb hab => ?_
    obtain ⟨n, _, rfl⟩ := hmem a ha
    obtain ⟨m, _, rfl⟩ := hmem b hb
    simp only [Int.toNat_natCast]
    have := hab.2
    have := hab.1
    omega
  have eu : ns.map Int.toNat = MA.rising fo := by
    refine MA.rising_unique hr (MA.rising_pw fo) fun z => ?_
    rw [MA.mem_rising]
    constructor
    · intro hz
      obtain ⟨y, hy, rfl⟩ := List.mem_map.mp hz
      obtain ⟨n, hn', rfl⟩ := hmem y hy
      exact hn'
    · intro hz
      refine List.mem_map.mpr ⟨(z : Int), hp.mem_iff.mpr ((hm z).mpr (List.mem_map.mpr ⟨z, hz, rfl⟩)), rfl⟩
  rw [e, eu, List.map_map]
  rfl
theorem ok_turns (F : Fun K "turns" "Table.turns" sTurns f fd) (T : Txt K mg c) : FnOk P w K mg base CX0 1 f fd ["self", "k"] (spTurns c) := by
  refine F.ok scTurns (fun vs H Q E h => ?_) (fun cdv A outer s H vs Q E hr h => ?_)
  · obtain ⟨S, t, h, k, u, rfl, _⟩ := h
    rfl
  · obtain ⟨S, t, h, k, u, rfl, ⟨a, b, ra, TB⟩, h10, hk, hu, kk⟩ := h
    obtain ⟨dx, ht⟩ := TB.ins
    refine ⟨_, pss_cons (ps_set (i := 2) scTurns.nd rfl (Or.inl rfl) (pe_lst (pa_cons pe_int pa_nil))) (pss_cons (ps_for PassesOwn.never rfl (pi_list (pe_fld (pv 0) rfl)) (pg_name (i := 3) scTurns.nd rfl (Or.inl rfl))
      (pss_cons (ps_expr (pe_bm PySem.F.plainAttrs_list PySem.F.slot_list_append PySem.F.type_list_append mt_append (pv 2) (pa_cons (pe_ix ix_tup (pe_ix ix_list (pe_fld (pv 3) rfl) (pv 1) (fun _ _ => rfl)) pe_int (fun _ _ => rfl)) pa_nil)))
      (pss_one (ps_if (pt_cmpR op_lt (pe_ix ix_tup (pe_ix ix_list (pe_fld (pv 3) rfl) (pv 1) (fun _ _ => rfl)) pe_int (fun _ _ => rfl)) (pe_ix ix_list (pe_fld (pv 0) rfl) (pv 1) (fun _ _ => rfl)) (nomark _))
        (pss_one (ps_expr (pe_bm PySem.F.plainAttrs_list PySem.F.slot_list_append PySem.F.type_list_append mt_append (pv 2) (pa_cons (pe_op op_add (pe_ix ix_tup (pe_ix ix_list (pe_fld (pv 3) rfl) (pv 1) (fun _ _ => rfl)) pe_int (fun _ _ => rfl)) pe_int) pa_nil)))) pss_nil))))
      (pss_one (ps_ret (pe_callB (cr_sortedSet rfl) (by rfl) T.sorted boot_sorted (pa_cons (pe_callTy (cr_set rfl) (by rfl) T.set PyProof.Rows.boot_set (pa_cons (pv 2) pa_nil)) pa_nil))))), ?_⟩
    refine ⟨one_line, fun D hD => ?_⟩
    have sm0 : Same H (upd H D (.lst [.int 0])) := same_upd hD
    refine ⟨_, rfl, t, c.T, dx, _, _, rfl, sm0 _ _ ht, T.clT, T.nT.2, rfl, b, rfl, ⟨_, SqL.of (sm0 _ _ TB.rules)⟩, ?_⟩
    refine for_list (K := K) (xs := ra.map V.ref) (fun i σ H' => Lv1 (fun v3 => [some (.ref t), some (.int k), some (.ref D), v3]) (Same H H') (H' D = some (.lst (natL (MA.foundTo h.rules k u i)))) σ) ⟨none, rfl, sm0, upd_same⟩ (fun i σ H' _ q => SqL.of (q.p _ _ TB.rules)) ?_ ?_
    · rintro i y σ H' hx ⟨v3, rfl, sm, hD'⟩
      obtain ⟨p, hp, rfl⟩ := refs_get hx
      obtain ⟨r, hr1, dr, lr, _, hpi, tl, _, hlr, hln, hbb⟩ := TB.each i p hp
      have hkb := hk r (List.mem_of_getElem? hr1)
      obtain ⟨qb, hqb⟩ : ∃ q, tl[k]? = some q := ⟨_, List.getElem?_eq_getElem (by rw [hln]; exact hkb)⟩
      obtain ⟨bd, hbd, _, hqt⟩ := hbb k qb hqb
      have hi10 : i < 10 := by
        have := (List.getElem?_eq_some_iff.mp hr1).1
        omega
      have hfl := found_len h.rules k u i
      have sm2 : ∀ l, Same H (upd H' D (.lst l)) := fun l x o e => by rw [upd_ne (ne_of_none e hD)]; exact sm x o e
      refine ⟨_, rfl, .inl ⟨rfl, _, SqL.of hD'⟩, _, rfl, p, c.R, dr, _, _, rfl, sm _ _ hpi, T.clR, T.nR.2, rfl, _, rfl, lr, _, _, _, rfl, rfl, SqL.of (sm _ _ hlr), atI_nat (refs_at hqb), qb, _, _, _, rfl, rfl, SqT.of (sm _ _ hqt), rfl, D, _, _, rfl, rfl, hD', ?_, ?_⟩
      · rw [natL_len]
        exact few_lt (by omega)
      have s2 := sm2 (natL (MA.foundTo h.rules k u i) ++ [V.int (bd.lo : Nat)])
      refine ⟨_, rfl, p, c.R, dr, _, _, rfl, s2 _ _ hpi, T.clR, T.nR.2, rfl, _, rfl, lr, _, _, _, rfl, rfl, SqL.of (s2 _ _ hlr), atI_nat (refs_at hqb), qb, _, _, _, rfl, rfl, SqT.of (s2 _ _ hqt), rfl, _, rfl, t, c.T, dx, _, _, rfl, s2 _ _ ht, T.clT, T.nT.1, rfl, _, rfl, a, _, _, _, rfl, rfl, SqL.of (s2 _ _ TB.tops), atI_nat (natL_at hu), _, _, rfl, rfl, _, rfl, ?_⟩
      refine ite2 (fun h1 => ?_) (fun h1 => ?_)
      · have z1 := of_decide_eq_true h1
        refine ⟨_, rfl, .inl ⟨rfl, _, SqL.of upd_same⟩, _, rfl, p, c.R, dr, _, _, rfl, s2 _ _ hpi, T.clR, T.nR.2, rfl, _, rfl, lr, _, _, _, rfl, rfl, SqL.of (s2 _ _ hlr), atI_nat (refs_at hqb), qb, _, _, _, rfl, rfl, SqT.of (s2 _ _ hqt), rfl, _, _, rfl, rfl, D, _, _, rfl, rfl, upd_same, ?_, _, rfl, fun x o e => ?_, ?_⟩
        · rw [List.length_append, natL_len]
          exact few_lt (by show _ + 1 ≤ _; omega)
        · rw [upd_ne (ne_of_none e hD)]
          exact s2 x o e
        · rw [upd_same, found_next hr1 hbd, if_pos (by omega)]
          unfold natL
          rw [List.map_append, List.map_append]
          rfl
      · have z1 : ¬ (bd.hi : Int) < (u : Int) := fun z => h1 (decide_eq_true z)
        refine ⟨_, rfl, s2, ?_⟩
        rw [upd_same, found_next hr1 hbd, if_neg (by omega)]
        unfold natL
        rw [List.map_append]
        rfl
    · rintro σ H' ⟨v3, rfl, sm, hD'⟩
      rw [List.length_map, TB.len] at hD'
      have hfl := found_len h.rules k u h.rules.length
      have e1 : natL (MA.foundTo h.rules k u h.rules.length) = ((MA.foundTo h.rules k u h.rules.length).map fun (n : Nat) => (n : Int)).map V.int := by
        unfold natL
        rw [List.map_map]
        rfl
      refine ⟨_, rfl, D, _, rfl, SqL.of (by rw [hD', e1]), by rw [List.length_map]; omega, fun sa es hsa hnd hmm hsz => ?_⟩
      refine ⟨sa, es, rfl, upd_same, by rw [List.length_map] at hsz; omega, fun ns q hp hs hq => ?_⟩
      have nqa : q ≠ sa := fun z => by rw [z, upd_same] at hq; cases hq
      have hq' : H' q = none := by rw [upd_ne nqa] at hq; exact hq
      refine kk _ q (sm.trans ((same_upd hsa).trans (same_upd hq))) (sm.free hq') ?_
      rw [upd_same, turns_of hp hs hnd hmm]
      rfl
end
end WD
end
section
set_option Elab.async false
set_option linter.all false
set_option maxRecDepth 100000
set_option maxHeartbeats 4000000
namespace WD
open PySem PySem.Spec PyProof.Rows L2 X3
open Kp205 (Bound Rule)
noncomputable abbrev sAdd : Stmt := inClass (top 8) 2
noncomputable abbrev sDrop : Stmt := inClass (top 8) 4
noncomputable abbrev sMove : Stmt := inClass (top 8) 5
section
variable {P : Program} {w : World} {K : PySem.W.Frag} {mg : Str → Option Value} {base : Heap} {c : Ad} {f : Addr} {fd : FuncData}
theorem scPieces : FnScope ["self", "k", "least", "number", "bits"] ["self", "k"] (defScope sPieces) := ⟨rfl, rfl, rfl, by decide +kernel, rfl, by decide +kernel, by decide +kernel⟩
theorem blkPieces : BlkOk ["self", "k", "least", "number", "bits"] (defScope sPieces) (compSc [(".0", .local), ("bits", .local), ("number", .local)]) [("bits", 4), ("number", 3)] := blkOk_by (by decide +kernel)
noncomputable def kvP (ps : List (Nat × Nat)) : List (Key × V) := ps.map fun p => (Sum.inl (p.1 : Int), V.int (p.2 : Nat))
theorem kvP_val (b : Nat) : ∀ ps : List (Nat × Nat), (valV (kvP ps) (Sum.inl (b : Int))).isSome = ps.any fun p => p.1 == b
  | [] => rfl
  | p :: ps => by
    have ih := kvP_val b ps
    unfold kvP at ih ⊢
    rw [List.map_cons, List.any_cons]
    by_cases e : p.1 = b
    · rw [valV_pos (by rw [e]), beq_iff_eq.mpr e]
      rfl
    · rw [valV_neg (fun z => e (by injection z with z; omega)), beq_eq_false_iff_ne.mpr e, Bool.false_or]
      exact ih
theorem kvP_put {ps : List (Nat × Nat)} {b n : Nat} (h : valV (kvP ps) (Sum.inl (b : Int)) = none) : putK (kvP ps) (Sum.inl (b : Int)) (.int (n : Nat)) = kvP (ps ++ [(b, n)]) := by
  unfold putK
  rw [valV_any, h, if_neg (by simp)]
  unfold kvP
  rw [List.map_append]
  rfl
theorem pieces_len {rs : List Rule} {k : Nat} {ts : List Nat} : ∀ i, (MA.piecesTo rs k ts i).length ≤ i
  | 0 => Nat.le_refl _
  | i + 1 => by
    have ih := pieces_len (rs := rs) (k := k) (ts := ts) i
    unfold MA.piecesTo
    split
    · omega
    · unfold MA.addP
      split
      · omega
      · simp; omega
theorem turns_len (rs : List Rule) (k u : Nat) (h : rs.length ≤ 10) : (MA.turns rs k u).length ≤ 21 := by
  have ins : ∀ (x : Nat) (l : List Nat), (Kp205.insert x l).length ≤ l.length + 1 := by
    intro x l
    induction l with
    | nil => simp [Kp205.insert]
    | cons y l ih =>
      unfold Kp205.insert
      split
      · simp
      · split
        · simp
        · simp; exact ih
  have ris : ∀ l : List Nat, (MA.rising l).length ≤ l.length := by
    intro l
    induction l with
    | nil => exact Nat.le_refl _
    | cons x l ih =>
      unfold MA.rising
      have := ins x (MA.rising l)
      simp
      omega
  have h1 := ris (MA.foundTo rs k u rs.length)
  have h2 := found_len rs k u rs.length
  unfold MA.turns
  omega
theorem ok_pieces (F : Fun K "pieces" "Table.pieces" sPieces f fd) (T : Txt K mg c) (M1 : MOk P w K mg base c.T "turns" 1 ["self", "k"] (spTurns c)) (M2 : MOk P w K mg base c.T "allowing" 1 ["self", "k", "number"] (spAllow c)) : FnOk P w K mg base CX0 2 f fd ["self", "k"] (spPieces c) := by
  obtain ⟨f1, d1, G1, b1, m1⟩ := M1
  obtain ⟨f2, d2, G2, b2, m2⟩ := M2
  refine F.ok scPieces (fun vs H Q E h => ?_) (fun cdv A outer s H vs Q E hr h => ?_)
  · obtain ⟨S, t, h, k, u, rfl, _⟩ := h
    rfl
  · obtain ⟨S, t, h, k, u, rfl, TA, h10, hk, hu, kk⟩ := h
    obtain ⟨a, b, ra, TB⟩ := id TA
    obtain ⟨dx, ht⟩ := TB.ins
    refine ⟨_, pss_cons (ps_set (i := 2) scPieces.nd rfl (Or.inl rfl) pe_dnewK) (pss_cons (ps_for PassesOwn.never rfl (pi_list (pe_meth (pv 0) T.clT m1 G1 hr b1 .nil pass0 (pa_cons (pv 1) pa_nil))) (pg_name (i := 3) scPieces.nd rfl (Or.inl rfl))
      (pss_one (ps_expr (pe_bm PySem.F.plainAttrs_dict PySem.F.slot_dict_setdefault PySem.F.type_dict_setdefault mt_setd (pv 2) (pa_cons (pe_meth (pv 0) T.clT m2 G2 hr b2 .nil pass0 (pa_cons (pv 1) (pa_cons (pv 3) pa_nil))) (pa_cons (pv 3) pa_nil))))))
      (pss_one (ps_ret (pe_lock (pe_lc rfl scPieces.nd (pi_items (pv 2)) blkPieces (fun _ _ _ _ _ => pg_tupB K (n := 2) rfl (pgs_cons (pg_name (i := 4) scPieces.nd rfl (Or.inl rfl)) (pgs_cons (pg_name (i := 3) scPieces.nd rfl (Or.inl rfl)) pgs_nil))) (fun _ _ _ _ _ => pts_nil)
        (fun _ _ _ _ _ => pe_tup (pa_cons (pv 3) (pa_cons (pv 4) pa_nil)))))))), ?_⟩
    intro d hd
    have sm0 : Same H (upd H d (.dK [])) := same_upd hd
    refine ⟨_, rfl, t, dx, _, rfl, sm0 _ _ ht, rfl, _, rfl, S, t, h, k, u, rfl, TA.keep sm0.keeps.kp, h10, hk, hu, fun H1 q1 sm1 hq1 hq1' => ?_⟩
    have hd1 : H1 d = some (.dK []) := sm1 _ _ upd_same
    have sm01 := sm0.trans sm1
    refine ⟨q1, rfl, ⟨_, SqL.of hq1'⟩, ?_⟩
    have htl := turns_len h.rules k u h10
    refine for_list (K := K) (xs := natL (MA.turns h.rules k u)) (fun i σ H' => Lv2 (fun v3 v4 => [some (.ref t), some (.int k), some (.ref d), v3, v4]) (Same H H') (H' q1 = some (.lst (natL (MA.turns h.rules k u))) ∧ H' d = some (.dK (kvP (MA.piecesTo h.rules k (MA.turns h.rules k u) i)))) σ)
      ⟨none, none, rfl, sm01, hq1', hd1⟩ (fun i σ H' _ q => SqL.of q.q.1) ?_ ?_
    · rintro i y σ H' hx ⟨v3, v4, rfl, sm, hq, hd'⟩
      obtain ⟨n, hn, rfl⟩ := natL_get hx
      have hin : i < 21 := by
        have := (List.getElem?_eq_some_iff.mp hn).1
        omega
      have TA1 := TA.keep sm.keeps.kp
      refine ⟨_, rfl, .inr (.inr (.inl ⟨rfl, .inl ⟨_, hd'⟩⟩)), ?_⟩
      refine ⟨_, rfl, t, dx, _, rfl, sm _ _ ht, rfl, _, rfl, _, rfl, S, t, h, k, n, rfl, TA1, h10, hk, fun H2 sm2 => ?_⟩
      have hd2 := sm2 _ _ hd'
      have hpl := pieces_len (rs := h.rules) (k := k) (ts := MA.turns h.rules k u) i
      have nx : MA.piecesTo h.rules k (MA.turns h.rules k u) (i + 1) = MA.addP (MA.piecesTo h.rules k (MA.turns h.rules k u) i) (MA.allow h.rules k n) n := by
        show (match (MA.turns h.rules k u)[i]? with
          | none => MA.piecesTo h.rules k (MA.turns h.rules k u) i
          | some n => MA.addP (MA.piecesTo h.rules k (MA.turns h.rules k u) i) (MA.allow h.rules k n) n) = _
        rw [hn]
      refine ⟨_, rfl, d, _, Sum.inl (MA.allow h.rules k n : Int), _, rfl, rfl, hd2, ?_, fun y hy => ?_, fun hy => ?_⟩
      · unfold kvP
        rw [List.length_map]
        exact few_lt (by omega)
      · refine ⟨_, _, rfl, sm.trans sm2, sm2 _ _ hq, ?_⟩
        have e := kvP_val (MA.allow h.rules k n) (MA.piecesTo h.rules k (MA.turns h.rules k u) i)
        rw [hy] at e
        rw [nx]
        unfold MA.addP
        have e' : ((MA.piecesTo h.rules k (MA.turns h.rules k u) i).any fun p => p.1 == MA.allow h.rules k n) = true := e.symm
        rw [if_pos e']
        exact hd2
      · have e := kvP_val (MA.allow h.rules k n) (MA.piecesTo h.rules k (MA.turns h.rules k u) i)
        rw [hy] at e
        refine ⟨_, _, rfl, fun x o q => ?_, ?_, ?_⟩
        · rw [upd_ne (ne_of_none q hd)]
          exact (sm.trans sm2) x o q
        · rw [upd_ne (ne_of (sm2 _ _ hq) hd2 (fun z => nomatch z))]
          exact sm2 _ _ hq
        · rw [upd_same, kvP_put hy, nx]
          unfold MA.addP
          have e' : ((MA.piecesTo h.rules k (MA.turns h.rules k u) i).any fun p => p.1 == MA.allow h.rules k n) = false := e.symm
          rw [if_neg (by rw [e']; exact Bool.false_ne_true)]
    · rintro σ H' ⟨v3, v4, rfl, sm, hq, hd'⟩
      rw [natL_len] at hd'
      refine ⟨d, _, hd', True.intro, fun od => ?_⟩
      refine ⟨_, rfl, d, od, _, rfl, upd_same, fun D hD => ?_⟩
      have nDd : D ≠ d := fun z => by rw [z, upd_same] at hD; cases hD
      have hD0 : H' D = none := by rw [upd_ne nDd] at hD; exact hD
      have hpl := pieces_len (rs := h.rules) (k := k) (ts := MA.turns h.rules k u) (MA.turns h.rules k u).length
      refine lc_items (kvs := kvP (MA.piecesTo h.rules k (MA.turns h.rules k u) (MA.turns h.rules k u).length)) (fun i H2 => H2 d = some (.frz od (.dK (kvP (MA.piecesTo h.rules k (MA.turns h.rules k u) (MA.turns h.rules k u).length)))) ∧ (∀ x o, H' x = some o → x ≠ d → H2 x = some o) ∧
          ∃ pl : List Addr, H2 D = some (.lst (pl.map V.ref)) ∧ pl.length = i ∧ ∀ (j : Nat) (q : Addr), pl[j]? = some q → ∃ p, (MA.pieces h.rules k u)[j]? = some p ∧ H2 q = some (.tup [.int (p.2 : Nat), .int (p.1 : Nat)]))
        ⟨(by rw [upd_ne (Ne.symm nDd), upd_same]), fun x o e hx => (by rw [upd_ne (ne_of_none e hD0), upd_ne hx]; exact e), [], upd_same, rfl, fun j q z => (by simp at z)⟩ (fun i H2 _ q => q.1) ?_ ?_
      · rintro i kk' v H2 U hi ⟨q1', q2, pl, q3, q4, q5⟩ hU
        obtain ⟨p, hp, e⟩ : ∃ p, (MA.pieces h.rules k u)[i]? = some p ∧ (kk', v) = (Sum.inl (p.1 : Int), V.int (p.2 : Nat)) := by
          unfold kvP at hi
          rw [List.getElem?_map] at hi
          obtain ⟨p, h1, h2⟩ := Option.map_eq_some_iff.mp hi
          exact ⟨p, h1, h2.symm⟩
        cases e
        have hi21 : i < 21 := by
          have := (List.getElem?_eq_some_iff.mp hp).1
          unfold MA.pieces at this
          omega
        refine ⟨U, _, rfl, SqT.of upd_same, rfl, _, _, rfl, _, _, rfl, rfl, rfl, yes_in ?_⟩
        refine ⟨_, rfl, _, rfl, few_line (by show 2 ≤ 1000; decide), fun U2 hU2 => ?_⟩
        have nUD : U ≠ D := fun z => by rw [z, q3] at hU; cases hU
        have nU2 : U2 ≠ U := fun z => by rw [z, upd_same] at hU2; cases hU2
        have hU2' : H2 U2 = none := by rw [upd_ne nU2] at hU2; exact hU2
        have n2D : U2 ≠ D := fun z => by rw [z, q3] at hU2'; cases hU2'
        have nDU : D ≠ U := Ne.symm nUD
        refine ⟨_, (by rw [upd_ne (Ne.symm n2D), upd_ne nDU]; exact q3), ?_, ?_, ?_, pl ++ [U2], ?_, ?_, ?_⟩
        · rw [List.length_map, q4]
          exact few_lt (by omega)
        · rw [upd_ne (Ne.symm nDd), upd_ne (ne_of_none q1' hU2'), upd_ne (ne_of_none q1' hU)]
          exact q1'
        · intro x o e hx
          have z := q2 x o e hx
          rw [upd_ne (ne_of_none e hD0), upd_ne (ne_of_none z hU2'), upd_ne (ne_of_none z hU)]
          exact z
        · rw [upd_same, List.map_append]
          rfl
        · rw [List.length_append, q4]
          rfl
        · intro j q hj
          by_cases hji : j < pl.length
          · rw [List.getElem?_append_left hji] at hj
            obtain ⟨p', h1, h2⟩ := q5 j q hj
            refine ⟨p', h1, ?_⟩
            rw [upd_ne (ne_of h2 q3 (fun z => nomatch z)), upd_ne (ne_of_none h2 hU2'), upd_ne (ne_of_none h2 hU)]
            exact h2
          · rw [List.getElem?_append_right (by omega)] at hj
            have ej : j = i := by
              have := (List.getElem?_eq_some_iff.mp hj).1
              simp at this
              omega
            subst ej
            rw [q4, Nat.sub_self] at hj
            have eq : U2 = q := by simpa using hj
            subst eq
            refine ⟨p, hp, ?_⟩
            rw [upd_ne n2D, upd_same]
            rfl
      · rintro H2 ⟨q1', q2, pl, q3, q4, q5⟩
        refine ⟨q1', kk _ D ?_ (sm.free hD0) ⟨pl, ?_, ?_, fun j q hj => ?_⟩⟩
        · intro x o e
          have nxd : x ≠ d := ne_of_none e hd
          rw [upd_ne nxd]
          exact q2 x o (sm x o e) nxd
        · rw [upd_ne nDd]
          exact q3
        · rw [q4]
          unfold kvP MA.pieces
          rw [List.length_map]
        · obtain ⟨p, h1, h2⟩ := q5 j q hj
          refine ⟨p, h1, ?_⟩
          rw [upd_ne (ne_of h2 q1' (fun z => nomatch z))]
          exact h2
end
end WD
end
section
set_option Elab.async false
set_option linter.all false
set_option maxRecDepth 100000
set_option maxHeartbeats 4000000
namespace WD
open PySem PySem.Spec PyProof.Rows L2 X3
open Kp205 (Bound Rule)
noncomputable def Chg (c : Ad) (S : Addr → Prop) (H : Hp) (t : Addr) (h' : Kp208.House) (l : List Int) (Q : VK) : Prop := ∀ (H' : Hp) (S' : Addr → Prop) (q : Addr), TabAt c S' H' t h' → (∀ x, S' x → S x ∨ H x = none) → (∀ x o, H x = some o → ¬ S x → H' x = some o) → Told H H' q l → ¬ S' q → Q (.ref q) H'
inductive RAdd (c : Ad) (vs : List V) (H : Hp) (Q : VK) : Prop
  | mk (S : Addr → Prop) (t l : Addr) (h : Kp208.House) (o : Nat) (bs : List Bound) (h0 : vs = [.ref t, .int (o : Nat), .ref l]) (h1 : TabAt c S H t h) (h2 : MA.OkH h) (h3 : BndsAt S H l bs) (h4 : (∀ x, S x → H x ≠ none)) (h5 : Chg c S H t (MA.newRule h o bs).1 (MA.newRule h o bs).2 Q) : RAdd c vs H Q
noncomputable def spAdd (c : Ad) : Sp := fun vs H Q _ => RAdd c vs H Q
inductive RDrop (c : Ad) (vs : List V) (H : Hp) (Q : VK) : Prop
  | mk (S : Addr → Prop) (t : Addr) (h : Kp208.House) (k : Nat) (h0 : vs = [.ref t, .int (k : Nat)]) (h1 : TabAt c S H t h) (h2 : MA.OkH h) (h3 : (∀ x, S x → H x ≠ none)) (h4 : Chg c S H t (MA.dropRule h k).1 (MA.dropRule h k).2 Q) : RDrop c vs H Q
noncomputable def spDrop (c : Ad) : Sp := fun vs H Q _ => RDrop c vs H Q
inductive RMove (c : Ad) (vs : List V) (H : Hp) (Q : VK) : Prop
  | mk (S : Addr → Prop) (t : Addr) (h : Kp208.House) (k u : Nat) (h0 : vs = [.ref t, .int (k : Nat), .int (u : Nat)]) (h1 : TabAt c S H t h) (h2 : MA.OkH h) (h3 : (∀ x, S x → H x ≠ none)) (h4 : Chg c S H t (MA.moveRule h k u).1 (MA.moveRule h k u).2 Q) : RMove c vs H Q
noncomputable def spMove (c : Ad) : Sp := fun vs H Q _ => RMove c vs H Q
section
variable {c : Ad} {S S2 : Addr → Prop} {H : Hp} {t a b : Addr} {ra : List Addr} {h : Kp208.House}
theorem erase_refs : ∀ (l : List Addr) (k : Nat), (l.map V.ref).eraseIdx k = (l.eraseIdx k).map V.ref
  | [], _ => rfl
  | _ :: _, 0 => rfl
  | x :: l, k + 1 => congrArg (V.ref x :: ·) (erase_refs l k)
theorem map_ref_inj : ∀ {l m : List Addr}, l.map V.ref = m.map V.ref → l = m
  | [], [], _ => rfl
  | [], _ :: _, e => by cases e
  | _ :: _, [], e => by cases e
  | x :: l, y :: m, e => by
    rw [List.map_cons, List.map_cons] at e
    injection e with e1 e2
    injection e1 with e1
    rw [e1, map_ref_inj e2]
theorem bnd_apart (TB : TabIs c S H t a b ra h) {l : Addr} {bs : List Bound} (B : BndsAt S2 H l bs) (h1 : 1 ≤ bs.length) : l ≠ b := fun z => by
  obtain ⟨tl, _, e, n, f⟩ := B
  rw [z, TB.rules] at e
  injection e with e
  injection e with e
  have e2 := map_ref_inj e
  subst e2
  obtain ⟨p, hp⟩ : ∃ p, ra[0]? = some p := ⟨_, List.getElem?_eq_getElem (by omega)⟩
  obtain ⟨_, _, _, hq⟩ := f 0 p hp
  obtain ⟨r, _, dx, l', _, hi, _⟩ := TB.each 0 p hp
  rw [hq] at hi
  cases hi
theorem tops_apart (TB : TabIs c S H t a b ra h) (h1 : 1 ≤ h.tops.length) : a ≠ b := fun z => by
  have e := TB.tops
  rw [z, TB.rules] at e
  injection e with e
  injection e with e
  cases ht : h.tops with
  | nil => rw [ht] at h1; simp at h1
  | cons x xs =>
    rw [ht] at e
    cases ra with
    | nil => cases e
    | cons y ys =>
      have : V.ref y = V.int x := (List.cons.inj e).1
      cases this
theorem retab (TB : TabIs c S H t a b ra h) (h1 : 1 ≤ h.tops.length) {ra' : List Addr} {rs : List Rule} (hl : ra'.length = rs.length) (he : ∀ (j : Nat) (p : Addr), ra'[j]? = some p → ∃ r, rs[j]? = some r ∧ RuleAt c S H p r ∧ 1 ≤ r.bounds.length) :
    TabIs c S (upd H b (.lst (ra'.map V.ref))) t a b ra' ⟨h.tops, rs⟩ := by
  obtain ⟨dx, ht⟩ := TB.ins
  refine ⟨⟨dx, ?_⟩, ?_, upd_same, TB.own, hl, fun j p hp => ?_⟩
  · rw [upd_ne (ne_of ht TB.rules (fun z => nomatch z))]
    exact ht
  · rw [upd_ne (tops_apart TB h1)]
    exact TB.tops
  · obtain ⟨r, e1, ⟨dr, l, s1, e2, B⟩, e3⟩ := he j p hp
    refine ⟨r, e1, dr, l, s1, ?_, ?_⟩
    · rw [upd_ne (ne_of e2 TB.rules (fun z => nomatch z))]
      exact e2
    · have nl := bnd_apart TB B e3
      obtain ⟨tl, s2, e4, n, f⟩ := B
      refine ⟨tl, s2, by rw [upd_ne nl]; exact e4, n, fun i q hq => ?_⟩
      obtain ⟨bd, g1, g2, g3⟩ := f i q hq
      exact ⟨bd, g1, g2, by rw [upd_ne (ne_of g3 TB.rules (fun z => nomatch z))]; exact g3⟩
end
section
variable {P : Program} {w : World} {K : PySem.W.Frag} {mg : Str → Option Value} {base : Heap} {c : Ad} {f : Addr} {fd : FuncData}
theorem chg_none {S : Addr → Prop} {H H1 : Hp} {t q : Addr} {h : Kp208.House} {l : List Int} {vs : List V} {Q : VK} (TA : TabAt c S H t h) (hS : ∀ x, S x → H x ≠ none) (k : Chg c S H t h l Q) (sm : Same H H1) (hq : H1 q = none) (e : l.map V.int = vs) : Q (.ref q) (upd H1 q (.lst vs)) := by
  have sm2 := sm.trans (same_upd (o := .lst vs) hq)
  refine k _ S q (TA.keep sm2.keeps.kp) (fun x hx => .inl hx) (fun x o e _ => sm2 x o e) ⟨sm.free hq, ?_⟩ fun z => hS q z (sm.free hq)
  rw [upd_same, e]
theorem scDrop : FnScope ["self", "k"] ["self", "k"] (defScope sDrop) := ⟨rfl, rfl, rfl, by decide +kernel, rfl, by decide +kernel, by decide +kernel⟩
theorem bounds_one {h : Kp208.House} (ok : MA.OkH h) {r : Rule} (hr : r ∈ h.rules) : 1 ≤ r.bounds.length := by
  rw [(ok.rules r hr).1]
  exact ok.one
theorem ok_drop (F : Fun K "drop_rule" "Table.drop_rule" sDrop f fd) (T : Txt K mg c) : FnOk P w K mg base CX0 1 f fd ["self", "k"] (spDrop c) := by
  refine F.ok scDrop (fun vs H Q E h => ?_) (fun cdv A outer s H vs Q E hr h => ?_)
  · obtain ⟨S, t, h, k, rfl, _⟩ := h
    rfl
  · obtain ⟨S, t, h, k, rfl, TA, ok, hS, kk⟩ := h
    obtain ⟨a, b, ra, TB⟩ := id TA
    obtain ⟨dx, ht⟩ := TB.ins
    obtain ⟨t4, e4⟩ := T.i4
    have h10 := ok.ten
    refine ⟨_, pss_cons (ps_if (pt_cmpR op_ge (pv 1) (pe_callB call_len_seq (by rfl) T.len PySem.boot_len (pa_cons (pe_fld (pv 0) rfl) pa_nil)) (nomark _)) (pss_one (ps_ret (pe_lst (pa_cons (pe_glob (v := .int (-2)) rfl e4 ⟨t4, rfl⟩) pa_nil)))) pss_nil)
      (pss_cons (ps_expr (pe_bm PySem.F.plainAttrs_list PySem.F.slot_list_pop PySem.F.type_list_pop mt_popAt (pe_fld (pv 0) rfl) (pa_cons (pv 1) pa_nil)))
      (pss_one (ps_ret (pe_lst (pa_cons (pe_callB call_len_seq (by rfl) T.len PySem.boot_len (pa_cons (pe_fld (pv 0) rfl) pa_nil)) pa_nil))))), ?_⟩
    refine ⟨_, rfl, _, rfl, t, c.T, dx, _, _, rfl, ht, T.clT, T.nT.2, rfl, b, _, rfl, .inl (SqL.of TB.rules), _, _, rfl, rfl, _, rfl, ?_⟩
    rw [List.length_map, TB.len]
    refine ite2 (fun h1 => ?_) (fun h1 => ?_)
    · have z1 := of_decide_eq_true h1
      have e : MA.dropRule h k = (h, [-2]) := by
        unfold MA.dropRule
        rw [if_pos (by omega)]
      rw [e] at kk
      exact ⟨one_line, fun q hq => chg_none TA hS kk (Same.refl H) hq rfl⟩
    · have z1 : ¬ (h.rules.length : Int) ≤ (k : Int) := fun z => h1 (decide_eq_true z)
      have hk : k < h.rules.length := by omega
      have e : MA.dropRule h k = (⟨h.tops, h.rules.eraseIdx k⟩, [((h.rules.length - 1 : Nat) : Int)]) := by
        unfold MA.dropRule
        rw [if_neg (by omega)]
      rw [e] at kk
      obtain ⟨p, hp⟩ : ∃ p, ra[k]? = some p := ⟨_, List.getElem?_eq_getElem (by rw [TB.len]; exact hk)⟩
      refine ⟨_, rfl, t, c.T, dx, _, _, rfl, ht, T.clT, T.nT.2, rfl, .inl ⟨rfl, _, SqL.of TB.rules⟩, _, rfl, b, _, _, k, _, rfl, rfl, TB.rules, by omega, by omega, ?_, refs_at hp, ?_⟩
      · rw [List.length_map, TB.len]
        have := seqIndex_of (k := (k : Int)) (n := h.rules.length) (by omega) (by omega)
        simpa using this
      have em : (ra.map V.ref).eraseIdx k = (ra.eraseIdx k).map V.ref := erase_refs ra k
      rw [em]
      have TB2 : TabIs c S (upd H b (.lst ((ra.eraseIdx k).map V.ref))) t a b (ra.eraseIdx k) ⟨h.tops, h.rules.eraseIdx k⟩ := by
        refine retab TB ok.one (by rw [List.length_eraseIdx_of_lt hk, List.length_eraseIdx_of_lt (by rw [TB.len]; exact hk), TB.len]) fun j q hq => ?_
        rw [List.getElem?_eraseIdx] at hq
        rw [List.getElem?_eraseIdx]
        by_cases hj : j < k
        · rw [if_pos hj] at hq ⊢
          obtain ⟨r, g1, g2⟩ := TB.each j q hq
          exact ⟨r, g1, g2, bounds_one ok (List.mem_of_getElem? g1)⟩
        · rw [if_neg hj] at hq ⊢
          obtain ⟨r, g1, g2⟩ := TB.each (j + 1) q hq
          exact ⟨r, g1, g2, bounds_one ok (List.mem_of_getElem? g1)⟩
      obtain ⟨dx2, ht2⟩ := TB2.ins
      refine ⟨_, rfl, t, c.T, dx2, _, _, rfl, ht2, T.clT, T.nT.2, rfl, b, _, rfl, .inl (SqL.of upd_same), one_line, fun q hq => ?_⟩
      have nqb : q ≠ b := fun z => by rw [z, upd_same] at hq; cases hq
      have hq0 : H q = none := by rw [upd_ne nqb] at hq; exact hq
      refine kk _ S q ⟨a, b, _, TB2.keep (same_upd hq).keeps.kp⟩ (fun x hx => .inl hx) (fun x o e hx => ?_) ⟨hq0, ?_⟩ fun z => hS q z hq0
      · rw [upd_ne (ne_of_none e hq0), upd_ne (fun z => hx (by rw [z]; exact TB.own.2.2))]
        exact e
      · rw [upd_same, List.length_map, List.length_eraseIdx_of_lt (by rw [TB.len]; exact hk), TB.len]
        rfl
theorem scMove : FnScope ["self", "k", "to", "moved"] ["self", "k", "to"] (defScope sMove) := ⟨rfl, rfl, rfl, by decide +kernel, rfl, by decide +kernel, by decide +kernel⟩
theorem ok_move (F : Fun K "move_rule" "Table.move_rule" sMove f fd) (T : Txt K mg c) : FnOk P w K mg base CX0 1 f fd ["self", "k", "to"] (spMove c) := by
  refine F.ok scMove (fun vs H Q E h => ?_) (fun cdv A outer s H vs Q E hr h => ?_)
  · obtain ⟨S, t, h, k, u, rfl, _⟩ := h
    rfl
  · obtain ⟨S, t, h, k, u, rfl, TA, ok, hS, kk⟩ := h
    obtain ⟨a, b, ra, TB⟩ := id TA
    obtain ⟨dx, ht⟩ := TB.ins
    obtain ⟨t4, e4⟩ := T.i4
    obtain ⟨t5, e5⟩ := T.i5
    have h10 := ok.ten
    refine ⟨_, pss_cons (ps_if (pt_cmpR op_ge (pv 1) (pe_callB call_len_seq (by rfl) T.len PySem.boot_len (pa_cons (pe_fld (pv 0) rfl) pa_nil)) (nomark _)) (pss_one (ps_ret (pe_lst (pa_cons (pe_glob (v := .int (-2)) rfl e4 ⟨t4, rfl⟩) pa_nil)))) pss_nil)
      (pss_cons (ps_if (pt_cmpR op_ge (pv 2) (pe_callB call_len_seq (by rfl) T.len PySem.boot_len (pa_cons (pe_fld (pv 0) rfl) pa_nil)) (nomark _)) (pss_one (ps_ret (pe_lst (pa_cons (pe_glob (v := .int (-22)) rfl e5 ⟨t5, rfl⟩) pa_nil)))) pss_nil)
      (pss_cons (ps_set (i := 3) scMove.nd rfl (Or.inl rfl) (pe_bm PySem.F.plainAttrs_list PySem.F.slot_list_pop PySem.F.type_list_pop mt_popAt (pe_fld (pv 0) rfl) (pa_cons (pv 1) pa_nil)))
      (pss_cons (ps_expr (pe_bm PySem.F.plainAttrs_list PySem.F.slot_list_insert PySem.F.type_list_insert mt_insert (pe_fld (pv 0) rfl) (pa_cons (pv 2) (pa_cons (pv 3) pa_nil))))
      (pss_one (ps_ret (pe_lst (pa_cons pe_int pa_nil))))))), ?_⟩
    refine ⟨_, rfl, _, rfl, t, c.T, dx, _, _, rfl, ht, T.clT, T.nT.2, rfl, b, _, rfl, .inl (SqL.of TB.rules), _, _, rfl, rfl, _, rfl, ?_⟩
    rw [List.length_map, TB.len]
    refine ite2 (fun h1 => ?_) (fun h1 => ?_)
    · have z1 := of_decide_eq_true h1
      have e : MA.moveRule h k u = (h, [-2]) := by
        unfold MA.moveRule
        rw [List.getElem?_eq_none (by omega)]
      rw [e] at kk
      exact ⟨one_line, fun q hq => chg_none TA hS kk (Same.refl H) hq rfl⟩
    · have z1 : ¬ (h.rules.length : Int) ≤ (k : Int) := fun z => h1 (decide_eq_true z)
      have hk : k < h.rules.length := by omega
      refine ⟨_, rfl, _, rfl, t, c.T, dx, _, _, rfl, ht, T.clT, T.nT.2, rfl, b, _, rfl, .inl (SqL.of TB.rules), _, _, rfl, rfl, _, rfl, ?_⟩
      rw [List.length_map, TB.len]
      refine ite2 (fun h2 => ?_) (fun h2 => ?_)
      · have z2 := of_decide_eq_true h2
        have e : MA.moveRule h k u = (h, [-22]) := by
          unfold MA.moveRule
          rw [List.getElem?_eq_getElem hk]
          dsimp only
          rw [if_pos (by omega)]
        rw [e] at kk
        exact ⟨one_line, fun q hq => chg_none TA hS kk (Same.refl H) hq rfl⟩
      · have z2 : ¬ (h.rules.length : Int) ≤ (u : Int) := fun z => h2 (decide_eq_true z)
        obtain ⟨p, hp⟩ : ∃ p, ra[k]? = some p := ⟨_, List.getElem?_eq_getElem (by rw [TB.len]; exact hk)⟩
        obtain ⟨r, hr1, hr2⟩ := TB.each k p hp
        have e : MA.moveRule h k u = (⟨h.tops, (h.rules.eraseIdx k).take u ++ r :: (h.rules.eraseIdx k).drop u⟩, [0]) := by
          unfold MA.moveRule
          rw [hr1]
          dsimp only
          rw [if_neg (by omega)]
        rw [e] at kk
        have hkr : k < ra.length := by rw [TB.len]; exact hk
        have lE : (ra.eraseIdx k).length = (h.rules.eraseIdx k).length := by rw [List.length_eraseIdx_of_lt hk, List.length_eraseIdx_of_lt hkr, TB.len]
        refine ⟨_, rfl, t, c.T, dx, _, _, rfl, ht, T.clT, T.nT.2, rfl, .inl ⟨rfl, _, SqL.of TB.rules⟩, _, rfl, b, _, _, k, _, rfl, rfl, TB.rules, by omega, by omega, ?_, refs_at hp, ?_⟩
        · rw [List.length_map, TB.len]
          have := seqIndex_of (k := (k : Int)) (n := h.rules.length) (by omega) (by omega)
          simpa using this
        have em : (ra.map V.ref).eraseIdx k = (ra.eraseIdx k).map V.ref := erase_refs ra k
        rw [em]
        have eachE : ∀ (j : Nat) (q : Addr), (ra.eraseIdx k)[j]? = some q → ∃ r, (h.rules.eraseIdx k)[j]? = some r ∧ RuleAt c S H q r ∧ 1 ≤ r.bounds.length := fun j q hq => by
          rw [List.getElem?_eraseIdx] at hq
          rw [List.getElem?_eraseIdx]
          by_cases hj : j < k
          · rw [if_pos hj] at hq ⊢
            obtain ⟨r, g1, g2⟩ := TB.each j q hq
            exact ⟨r, g1, g2, bounds_one ok (List.mem_of_getElem? g1)⟩
          · rw [if_neg hj] at hq ⊢
            obtain ⟨r, g1, g2⟩ := TB.each (j + 1) q hq
            exact ⟨r, g1, g2, bounds_one ok (List.mem_of_getElem? g1)⟩
        have TB2 := retab TB ok.one lE eachE
        obtain ⟨dx2, ht2⟩ := TB2.ins
        have hlE : (ra.eraseIdx k).length = h.rules.length - 1 := by rw [List.length_eraseIdx_of_lt hkr, TB.len]
        refine ⟨_, rfl, t, c.T, dx2, _, _, rfl, ht2, T.clT, T.nT.2, rfl, .inl ⟨rfl, _, SqL.of upd_same⟩, _, rfl, _, rfl, b, _, u, _, rfl, rfl, upd_same, ?_, ?_, ?_⟩
        · rw [List.length_map, hlE]
          omega
        · rw [List.length_map, hlE]
          omega
        have em2 : List.take u ((ra.eraseIdx k).map V.ref) ++ V.ref p :: List.drop u ((ra.eraseIdx k).map V.ref) = ((ra.eraseIdx k).take u ++ p :: (ra.eraseIdx k).drop u).map V.ref := by
          rw [List.map_append, List.map_cons, List.map_take, List.map_drop]
        rw [em2, upd_upd]
        have lT : ((ra.eraseIdx k).take u).length = ((h.rules.eraseIdx k).take u).length := by rw [List.length_take, List.length_take, lE]
        have TB3 : TabIs c S (upd H b (.lst (((ra.eraseIdx k).take u ++ p :: (ra.eraseIdx k).drop u).map V.ref))) t a b ((ra.eraseIdx k).take u ++ p :: (ra.eraseIdx k).drop u) ⟨h.tops, (h.rules.eraseIdx k).take u ++ r :: (h.rules.eraseIdx k).drop u⟩ := by
          refine retab TB ok.one (by rw [List.length_append, List.length_append, List.length_cons, List.length_cons, lT, List.length_drop, List.length_drop, lE]) fun j q hq => ?_
          by_cases hj : j < ((ra.eraseIdx k).take u).length
          · rw [List.getElem?_append_left hj] at hq
            rw [List.getElem?_append_left (by rw [← lT]; exact hj)]
            have hju : j < u := by rw [List.length_take] at hj; omega
            rw [List.getElem?_take_of_lt hju] at hq ⊢
            exact eachE j q hq
          · rw [List.getElem?_append_right (by omega)] at hq
            rw [List.getElem?_append_right (by rw [← lT]; omega), ← lT]
            generalize j - ((ra.eraseIdx k).take u).length = i at hq ⊢
            cases i with
            | zero =>
              have : p = q := by simpa using hq
              subst this
              exact ⟨r, rfl, hr2, bounds_one ok (List.mem_of_getElem? hr1)⟩
            | succ i =>
              rw [List.getElem?_cons_succ, List.getElem?_drop] at hq ⊢
              exact eachE _ q hq
        refine ⟨one_line, fun q hq => ?_⟩
        have nqb : q ≠ b := fun z => by rw [z, upd_same] at hq; cases hq
        have hq0 : H q = none := by rw [upd_ne nqb] at hq; exact hq
        refine kk _ S q ⟨a, b, _, TB3.keep (same_upd hq).keeps.kp⟩ (fun x hx => .inl hx) (fun x o e hx => ?_) ⟨hq0, by rw [upd_same]; rfl⟩ fun z => hS q z hq0
        rw [upd_ne (ne_of_none e hq0), upd_ne (fun z => hx (by rw [z]; exact TB.own.2.2))]
        exact e
end
end WD
end
section
set_option Elab.async false
set_option linter.all false
set_option maxRecDepth 100000
set_option maxHeartbeats 4000000
namespace WD
open PySem PySem.Spec PyProof.Rows L2 X3
open Kp205 (Bound Rule)
section
variable {P : Program} {w : World} {K : PySem.W.Frag} {mg : Str → Option Value} {base : Heap} {c : Ad} {f : Addr} {fd : FuncData}
theorem scAdd : FnScope ["self", "outcome", "bounds"] ["self", "outcome", "bounds"] (defScope sAdd) := ⟨rfl, rfl, rfl, by decide +kernel, rfl, by decide +kernel, by decide +kernel⟩
theorem ok_add (F : Fun K "add_rule" "Table.add_rule" sAdd f fd) (T : Txt K mg c) (M1 : MOk P w K mg base c.T "bounds_fit" 1 ["self", "bounds"] (spFit c)) (C1 : COk P w K mg base "Rule" c.R 1 ["self", "outcome", "bounds"] (spRI c)) :
    FnOk P w K mg base CX0 3 f fd ["self", "outcome", "bounds"] (spAdd c) := by
  obtain ⟨f1, d1, G1, b1, m1⟩ := M1
  obtain ⟨f2, d2, G2, b2, mk2, g2⟩ := C1
  refine F.ok scAdd (fun vs H Q E h => ?_) (fun cdv A outer s H vs Q E hr h => ?_)
  · obtain ⟨S, t, l, h, o, bs, rfl, _⟩ := h
    rfl
  · obtain ⟨S, t, l, h, o, bs, rfl, TA, ok, BA, hS, kk⟩ := h
    obtain ⟨a, b, ra, TB⟩ := id TA
    obtain ⟨dx, ht⟩ := TB.ins
    obtain ⟨t3, e3⟩ := T.i3
    obtain ⟨t5, e5⟩ := T.i5
    obtain ⟨t6, e6⟩ := T.i6
    obtain ⟨t2, e2⟩ := T.i2
    have h10 := ok.ten
    have hr1 : Room 1 _ := hr.mono (by decide)
    refine ⟨_, pss_cons (ps_if (PW.pt (pw_or (pt_cmpR op_gt (pv 1) (pe_glob (v := .int 255) rfl e3 ⟨t3, rfl⟩) (nomark _)) (pw_or1 (pt_not (pt_val (pe_meth (pv 0) T.clT m1 G1 hr1 b1 .nil pass0 (pa_cons (pv 2) pa_nil)))))))
        (pss_one (ps_ret (pe_lst (pa_cons (pe_glob (v := .int (-22)) rfl e5 ⟨t5, rfl⟩) pa_nil)))) pss_nil)
      (pss_cons (ps_if (pt_cmpR op_ge (pe_callB call_len_seq (by rfl) T.len PySem.boot_len (pa_cons (pe_fld (pv 0) rfl) pa_nil)) (pe_glob (v := .int 10) rfl e2 ⟨t2, rfl⟩) (nomark _)) (pss_one (ps_ret (pe_lst (pa_cons (pe_glob (v := .int (-28)) rfl e6 ⟨t6, rfl⟩) pa_nil)))) pss_nil)
      (pss_cons (ps_expr (pe_bm PySem.F.plainAttrs_list PySem.F.slot_list_append PySem.F.type_list_append mt_append (pe_fld (pv 0) rfl) (pa_cons (pe_make mk2 G2 hr rfl g2 b2 .nil pass0 (pa_cons (pv 1) (pa_cons (pv 2) pa_nil))) pa_nil)))
      (pss_one (ps_ret (pe_lst (pa_cons (pe_op op_sub (pe_callB call_len_seq (by rfl) T.len PySem.boot_len (pa_cons (pe_fld (pv 0) rfl) pa_nil)) pe_int) pa_nil)))))), ?_⟩
    have bad : (256 ≤ o ∨ MA.fitB h.tops bs = false) → ∀ H1, Same H H1 → 1 ≤ sizeLine ∧ ∀ p, H1 p = none → Q (.ref p) (upd H1 p (.lst [.int (-22)])) := fun z H1 sm => ⟨one_line, fun p hp => by
      have e : MA.newRule h o bs = (h, [-22]) := by
        unfold MA.newRule
        rw [if_pos z]
      rw [e] at kk
      exact chg_none TA hS kk sm hp rfl⟩
    refine ⟨_, rfl, _, _, rfl, rfl, _, rfl, ?_⟩
    refine ite2 (fun h1 => iteT (bad (.inl (by have z := of_decide_eq_true h1; omega)) H (Same.refl H))) (fun h1 => ?_)
    have z1 : ¬ (255 : Int) < (o : Int) := fun z => h1 (decide_eq_true z)
    refine ⟨_, rfl, t, dx, _, rfl, ht, rfl, _, rfl, S, S, t, l, h, bs, rfl, TA, BA, fun H1 sm1 => ⟨_, rfl, ?_⟩⟩
    cases hf : MA.fitB h.tops bs with
    | false => exact iteT (bad (.inr hf) H1 sm1)
    | true =>
      refine iteF ?_
      refine ⟨_, rfl, t, c.T, dx, _, _, rfl, sm1 _ _ ht, T.clT, T.nT.2, rfl, b, _, rfl, .inl (SqL.of (sm1 _ _ TB.rules)), _, _, rfl, rfl, _, rfl, ?_⟩
      rw [List.length_map, TB.len]
      refine ite2 (fun h2 => ?_) (fun h2 => ?_)
      · have z2 := of_decide_eq_true h2
        have e : MA.newRule h o bs = (h, [-28]) := by
          unfold MA.newRule
          rw [if_neg (by rw [hf]; rintro (z | z); omega; cases z), if_pos (by omega)]
        rw [e] at kk
        exact ⟨one_line, fun q hq => chg_none TA hS kk sm1 hq rfl⟩
      · have z2 : ¬ (10 : Int) ≤ (h.rules.length : Int) := fun z => h2 (decide_eq_true z)
        have e : MA.newRule h o bs = (⟨h.tops, h.rules ++ [⟨bs, o⟩]⟩, [(h.rules.length : Int)]) := by
          unfold MA.newRule
          rw [if_neg (by rw [hf]; rintro (z | z); omega; cases z), if_neg (by omega)]
        rw [e] at kk
        have TA1 := TA.keep sm1.keeps.kp
        refine ⟨_, rfl, t, c.T, dx, _, _, rfl, sm1 _ _ ht, T.clT, T.nT.2, rfl, .inl ⟨rfl, _, SqL.of (sm1 _ _ TB.rules)⟩, _, rfl, _, rfl, fun x dr hx hd hne => ?_⟩
        refine ⟨x, dr, l, o, rfl, upd_same, fun H2 hx2 kp2 => ⟨rfl, ?_⟩⟩
        have sm2 : Same H H2 := fun y u e => by
          have e1 := sm1 y u e
          refine kp2 y u ?_ (ne_of_none e1 hx)
          rw [upd_ne (ne_of_none e1 hx), upd_ne (ne_of_none e1 hd)]
          exact e1
        let S' : Addr → Prop := fun y => S y ∨ y = x
        have TB2 : TabIs c S' H2 t a b ra h := (TB.keep sm2.keeps.kp).mono fun y hy => .inl hy
        have BA2 : BndsAt S' H2 l bs := (BA.keep sm2.keeps.kp).mono fun y hy => .inl hy
        have hb2 := MA.fitB_ok hf
        have TB3 : TabIs c S' (upd H2 b (.lst ((ra ++ [x]).map V.ref))) t a b (ra ++ [x]) ⟨h.tops, h.rules ++ [⟨bs, o⟩]⟩ := by
          refine retab TB2 ok.one (by rw [List.length_append, List.length_append, TB.len]; rfl) fun j p hp => ?_
          by_cases hj : j < ra.length
          · rw [List.getElem?_append_left hj] at hp
            obtain ⟨r, g1, g2⟩ := TB2.each j p hp
            exact ⟨r, by rw [List.getElem?_append_left (by rw [← TB.len]; exact hj)]; exact g1, g2, bounds_one ok (List.mem_of_getElem? g1)⟩
          · rw [List.getElem?_append_right (by omega)] at hp
            have ej : j - ra.length = 0 := by
              have := (List.getElem?_eq_some_iff.mp hp).1
              simp at this
              omega
            rw [ej] at hp
            have ex : x = p := by simpa using hp
            subst ex
            refine ⟨⟨bs, o⟩, ?_, ⟨dr, l, .inr rfl, hx2, BA2⟩, by rw [show (⟨bs, o⟩ : Rule).bounds.length = h.tops.length from hb2.1]; exact ok.one⟩
            rw [List.getElem?_append_right (by rw [← TB.len]; omega), ← TB.len, ej]
            rfl
        refine ⟨b, _, _, rfl, rfl, sm2 _ _ TB.rules, ?_, ?_⟩
        · rw [List.length_map, TB.len]
          exact few_lt (by omega)
        have em : ra.map V.ref ++ [V.ref x] = (ra ++ [x]).map V.ref := by rw [List.map_append]; rfl
        rw [em]
        obtain ⟨dx3, ht3⟩ := TB3.ins
        refine ⟨_, rfl, t, c.T, dx3, _, _, rfl, ht3, T.clT, T.nT.2, rfl, b, _, rfl, .inl (SqL.of upd_same), _, _, rfl, rfl, one_line, fun q hq => ?_⟩
        have nqb : q ≠ b := fun z => by rw [z, upd_same] at hq; cases hq
        have hq2 : H2 q = none := by rw [upd_ne nqb] at hq; exact hq
        have hq0 : H q = none := sm2.free hq2
        refine kk _ S' q ⟨a, b, _, TB3.keep (same_upd hq).keeps.kp⟩ (fun y hy => ?_) (fun y o e hy => ?_) ⟨hq0, ?_⟩ fun z => ?_
        · rcases hy with hy | hy
          · exact .inl hy
          · exact .inr (by rw [hy]; exact sm1.free hx)
        · rw [upd_ne (ne_of_none e hq0), upd_ne (fun z => hy (by rw [z]; exact TB.own.2.2))]
          exact sm2 y o e
        · rw [upd_same, List.length_map, List.length_append, TB.len]
          show _ = some (HO.lst [V.int (h.rules.length : Int)])
          have : ((h.rules.length + [x].length : Nat) : Int) - 1 = (h.rules.length : Int) := by simp
          exact congrArg (fun z => some (HO.lst [V.int z])) this
        · rcases z with z | z
          · exact hS q z hq0
          · rw [z, hx2] at hq2
            cases hq2
end
end WD
end
section
set_option Elab.async false
set_option linter.all false
set_option maxRecDepth 100000
set_option maxHeartbeats 4000000
namespace WD
open PySem PySem.Spec PyProof.Rows L2 X3
open Kp205 (Bound Rule)
open PK (PKey)
noncomputable abbrev sSI : Stmt := inClass (top 9) 0
noncomputable abbrev sEar : Stmt := inClass (top 9) 1
noncomputable abbrev sEN : Stmt := inClass (top 9) 2
noncomputable abbrev sTP : Stmt := inClass (top 9) 3
noncomputable def ownL (rs : List Rule) (cs : List Nat) : List Nat := (List.range cs.length).map fun k => MA.allow rs k (cs.getD k 0)
noncomputable def F16 : List (List Nat) := [[], [0], [1], [2], [3], [0, 1], [0, 2], [0, 3], [1, 2], [1, 3], [2, 3], [0, 1, 2], [0, 1, 3], [0, 2, 3], [1, 2, 3], [0, 1, 2, 3]]
noncomputable def OptL (H : Hp) (v : V) : Option (List Nat) → Prop
  | none => v = .non
  | some ns => ∃ p, v = .ref p ∧ H p = some (.lst (natL ns))
theorem OptL.keep {H H' : Hp} {v : V} {r : Option (List Nat)} (x : OptL H v r) (k : Keeps H H') : OptL H' v r := by
  cases r with
  | none => exact x
  | some ns =>
    obtain ⟨p, h1, h2⟩ := x
    exact ⟨p, h1, k _ _ h2 rfl⟩
noncomputable def wB (wt : List Bool) (n : Nat) : Bool := wt.getD n false
noncomputable abbrev sr (h : Kp208.House) (wt : List Bool) (fs : List Nat) (left : Nat) : Option (List Nat) := MA.srch (wB wt) (MA.pcs h.rules h.tops) fs left
noncomputable def keyOf (fs : List Nat) (left : Nat) : PKey := (fs.map fun (n : Nat) => (n : Int), (left : Int))
structure MemOk (H : Hp) (h : Kp208.House) (wt : List Bool) (es : List Ent) : Prop where
  nd : (es.map (·.1)).Nodup
  each : ∀ x ∈ es, ∃ fs left, x.1 = keyOf fs left ∧ fs ∈ F16 ∧ left < 1024 ∧ OptL H (valW x.2.2) (sr h wt fs left)
set_option genInjectivity false in
structure Sa where
  dx : Addr
  ca : Addr
  wn : Addr
  ow : Addr
  an : Addr
  kn : Addr
structure SrIs (P : Program) (w : World) (K : PySem.W.Frag) (c : Ad) (H : Hp) (q : Addr) (B : Sa) (h : Kp208.House) (cs : List Nat) (wt : List Bool) (es : List Ent) : Prop where
  ins : H q = some (.ins c.S B.dx (fS B.ca B.wn (2 ^ h.rules.length - 1) B.ow B.an B.kn))
  case : SqL K H B.ca (natL cs)
  wanted : H B.wn = some (.lst (wt.map V.bl))
  own : H B.ow = some (.lst (natL (ownL h.rules cs)))
  any : ∃ pl : List Addr, H B.an = some (.lst (pl.map V.ref)) ∧ pl.length = cs.length ∧ ∀ (k : Nat) (p : Addr), pl[k]? = some p → PcsAt H p (MA.pcs h.rules h.tops k)
  kno : Known P w H B.kn es
  mem : MemOk H h wt es
section
variable {P : Program} {w : World} {K : PySem.W.Frag} {c : Ad} {H H' : Hp} {q : Addr} {B : Sa} {h : Kp208.House} {cs : List Nat} {wt : List Bool} {es es' : List Ent}
theorem MemOk.keep (m : MemOk H h wt es) (k : Keeps H H') : MemOk H' h wt es := ⟨m.nd, fun x hx => by
  obtain ⟨fs, left, e1, e2, e3, e4⟩ := m.each x hx
  exact ⟨fs, left, e1, e2, e3, e4.keep k⟩⟩
theorem KeyAt.keep {a : Addr} {k : PKey} (x : KeyAt H a k) (e : Keeps H H') : KeyAt H' a k := by
  obtain ⟨ft, h1, h2⟩ := x
  exact ⟨ft, e _ _ h1 rfl, e _ _ h2 rfl⟩
theorem SrIs.keep (x : SrIs P w K c H q B h cs wt es) (k : Keeps H H') (kn : Known P w H' B.kn es') (m : MemOk H' h wt es') : SrIs P w K c H' q B h cs wt es' := by
  refine ⟨k _ _ x.ins rfl, k.seq x.case, k _ _ x.wanted rfl, k _ _ x.own rfl, ?_, kn, m⟩
  obtain ⟨pl, e, n, f⟩ := x.any
  exact ⟨pl, k _ _ e rfl, n, fun i p hp => (f i p hp).keep k⟩
theorem SrIs.same (x : SrIs P w K c H q B h cs wt es) (sm : Same H H') : SrIs P w K c H' q B h cs wt es :=
  x.keep sm.keeps ⟨sm _ _ x.kno.obj, fun y hy => KeyAt.keep (x.kno.keys y hy) sm.keeps⟩ (x.mem.keep sm.keeps)
end
inductive RSI (P : Program) (w : World) (K : PySem.W.Frag) (c : Ad) (vs : List V) (H : Hp) (Q : VK) : Prop
  | mk (H0 : Hp) (S : Addr → Prop) (q dx t ca wn : Addr) (h : Kp208.House) (cs : List Nat) (wt : List Bool) (h0 : vs = [.ref q, .ref t, .ref ca, .ref wn]) (h1 : H q = some (.ins c.S dx [])) (h2 : Same H0 H) (h3 : H0 q = none) (h4 : TabAt c S H0 t h) (h5 : MA.OkH h) (h6 : Kp208.good h cs = true) (h7 : SqL K H0 ca (natL cs)) (h8 : H0 wn = some (.lst (wt.map V.bl))) (h9 : ∀ (H' : Hp) (B : Sa), Same H0 H' → SrIs P w K c H' q B h cs wt [] → Q .non H') : RSI P w K c vs H Q
noncomputable def spSI (P : Program) (w : World) (K : PySem.W.Frag) (c : Ad) : Sp := fun vs H Q _ => RSI P w K c vs H Q
theorem same_set {H0 H1 : Hp} {q : Addr} {o : HO} (sm : Same H0 H1) (h0 : H0 q = none) : Same H0 (upd H1 q o) := fun b u e => by
  rw [upd_ne (ne_of_none e h0)]
  exact sm b u e
section
variable {P : Program} {w : World} {K : PySem.W.Frag} {mg : Str → Option Value} {base : Heap} {c : Ad} {f : Addr} {fd : FuncData}
noncomputable abbrev nSI : List Str := ["self", "table", "case", "wanted", "k", "number"]
theorem scSI : FnScope nSI ["self", "table", "case", "wanted"] (defScope sSI) := ⟨rfl, rfl, rfl, by decide +kernel, rfl, by decide +kernel, by decide +kernel⟩
theorem blkSI1 : BlkOk nSI (defScope sSI) (compSc [(".0", .local), ("k", .local), ("number", .local), ("table", .free)]) [("k", 4), ("number", 5)] := blkOk_by (by decide +kernel)
theorem blkSI2 : BlkOk nSI (defScope sSI) (compSc [(".0", .local), ("k", .local), ("table", .free)]) [("k", 4)] := blkOk_by (by decide +kernel)
theorem ones_nat (n : Nat) : (1 : Int) * 2 ^ ((n : Int)).toNat - 1 = ((2 ^ n - 1 : Nat) : Int) := by
  rw [shl_nat]
  have := Nat.two_pow_pos n
  omega
theorem own_next {rs : List Rule} {cs : List Nat} {i n : Nat} (h : cs[i]? = some n) : natL ((List.range (i + 1)).map fun k => MA.allow rs k (cs.getD k 0)) = natL ((List.range i).map fun k => MA.allow rs k (cs.getD k 0)) ++ [V.int (MA.allow rs i n : Nat)] := by
  unfold natL
  rw [List.range_succ, List.map_append, List.map_append, List.map_cons, List.map_nil, List.getD_eq_getElem?_getD, h]
  rfl
theorem ok_SI (F : Fun K "__init__" "Search.__init__" sSI f fd) (T : Txt K mg c) (M1 : MOk P w K mg base c.T "allowing" 1 ["self", "k", "number"] (spAllow c)) (M2 : MOk P w K mg base c.T "pieces" 2 ["self", "k"] (spPieces c)) :
    FnOk P w K mg base CX0 3 f fd ["self", "table", "case", "wanted"] (spSI P w K c) := by
  obtain ⟨f1, d1, G1, b1, m1⟩ := M1
  obtain ⟨f2, d2, G2, b2, m2⟩ := M2
  refine F.ok scSI (fun vs H Q E h => ?_) (fun cdv A outer s H vs Q E hr h => ?_)
  · obtain ⟨H0, S, q, dx, t, ca, wn, h, cs, wt, rfl, _⟩ := h
    rfl
  · obtain ⟨H0, S, q, dx, t, ca, wn, h, cs, wt, rfl, hq, sm0, hq0, TA, ok, hg, hca, hwn, kk⟩ := h
    obtain ⟨a, b, ra, TB⟩ := id TA
    obtain ⟨dt, ht⟩ := TB.ins
    have h10 := ok.ten
    have hc := MA.good_iff.mp hg
    have hcl : cs.length ≤ 4 := by rw [hc.1]; exact ok.four
    have hbl := bounds_len ok hg
    have hr1 : Room 1 _ := hr.mono (by decide)
    refine ⟨_, pss_cons (ps_fld (pv 0) (pv 2) rfl) (pss_cons (ps_fld (pv 0) (pv 3) rfl)
      (pss_cons (ps_fld (pv 0) (pe_op op_sub (pe_op op_shl pe_int (pe_callB call_len_seq (by rfl) T.len PySem.boot_len (pa_cons (pe_fld (pv 1) rfl) pa_nil))) pe_int) rfl)
      (pss_cons (ps_fld (pv 0) (pe_lc rfl scSI.nd (pi_enum rfl T.enum (pa_cons (pv 2) pa_nil)) blkSI1 (fun _ _ _ _ _ => pg_tupB K (n := 2) rfl (pgs_cons (pg_name (i := 4) scSI.nd rfl (Or.inl rfl)) (pgs_cons (pg_name (i := 5) scSI.nd rfl (Or.inl rfl)) pgs_nil))) (fun _ _ _ _ _ => pts_nil)
        (fun _ _ _ _ _ => pe_meth (pv 1) T.clT m1 G1 hr1 b1 .nil pass0 (pa_cons (pv 4) (pa_cons (pv 5) pa_nil)))) rfl)
      (pss_cons (ps_fld (pv 0) (pe_lc rfl scSI.nd (pi_range1 rfl T.range (pa_cons (pe_callB call_len_seq (by rfl) T.len PySem.boot_len (pa_cons (pv 2) pa_nil)) pa_nil)) blkSI2 (fun _ _ _ _ _ => pg_name (i := 4) scSI.nd rfl (Or.inl rfl)) (fun _ _ _ _ _ => pts_nil)
        (fun _ _ _ _ _ => pe_meth (pv 1) T.clT m2 G2 hr b2 .nil pass0 (pa_cons (pv 4) pa_nil))) rfl)
      (pss_one (ps_fld (pv 0) pe_knew rfl)))))), ?_⟩
    refine ⟨_, rfl, _, rfl, q, c.S, dx, [], rfl, hq, T.clS, T.nS.1, (by show 0 < 1000; decide), ?_⟩
    have sm1 := same_set (o := .ins c.S dx (putF "case" (.ref ca) [])) sm0 hq0
    refine ⟨_, rfl, _, rfl, q, c.S, dx, _, rfl, upd_same, T.clS, T.nS.2.1, (by show 1 < 1000; decide), ?_⟩
    have sm2 := same_set (o := .ins c.S dx (putF "wanted" (.ref wn) (putF "case" (.ref ca) []))) sm1 hq0
    refine ⟨_, rfl, t, c.T, dt, _, _, rfl, sm2 _ _ ht, T.clT, T.nT.2, rfl, b, _, rfl, .inl (SqL.of (sm2 _ _ TB.rules)), _, _, rfl, rfl, ?_, ?_⟩
    · rw [List.length_map, TB.len]
      exact ⟨by omega, by omega, by decide⟩
    rw [List.length_map, TB.len]
    refine ⟨_, _, rfl, rfl, _, rfl, q, c.S, dx, _, rfl, upd_same, T.clS, T.nS.2.2.1, (by show 2 < 1000; decide), ?_⟩
    have sm3 := same_set (o := .ins c.S dx (putF "all_rules" (.int (1 * 2 ^ ((h.rules.length : Int)).toNat - 1)) (putF "wanted" (.ref wn) (putF "case" (.ref ca) [])))) sm2 hq0
    refine ⟨_, rfl, ca, _, rfl, sm3.seq hca, fun D hD => ?_⟩
    have nDq : D ≠ q := fun z => by rw [z, upd_same] at hD; cases hD
    refine lc_enum (K := K) (xs := natL cs) (fun i H' => Same H0 H' ∧ H' q = some (.ins c.S dx (putF "all_rules" (.int (1 * 2 ^ ((h.rules.length : Int)).toNat - 1)) (putF "wanted" (.ref wn) (putF "case" (.ref ca) [])))) ∧ H' D = some (.lst (natL ((List.range i).map fun k => MA.allow h.rules k (cs.getD k 0)))))
      ⟨sm3.trans (same_upd hD), by rw [upd_ne (Ne.symm nDq), upd_same], upd_same⟩ (fun i H' _ z => z.1.seq hca) ?_ ?_
    · rintro i x H' U hx ⟨sm, hq', hD'⟩ hU
      obtain ⟨n, hn, rfl⟩ := natL_get hx
      have hi := (List.getElem?_eq_some_iff.mp hn).1
      have smU : Same H0 (upd H' U (.tup [.int (i : Nat), .int (n : Nat)])) := sm.trans (same_upd hU)
      refine ⟨U, _, rfl, SqT.of upd_same, rfl, _, _, rfl, _, _, rfl, rfl, rfl, yes_in ?_⟩
      refine ⟨_, rfl, t, dt, _, rfl, smU _ _ ht, rfl, _, rfl, _, rfl, S, t, h, i, n, rfl, TA.keep smU.keeps.kp, h10, fun r hr => (by rw [hbl r hr]; exact hi), fun H2 sm2 => ?_⟩
      have hU1 : D ≠ U := fun z => by rw [← z, hD'] at hU; cases hU
      have hD2 : H2 D = some (.lst (natL ((List.range i).map fun k => MA.allow h.rules k (cs.getD k 0)))) := sm2 _ _ (by rw [upd_ne hU1]; exact hD')
      have hD0 : H0 D = none := sm3.free hD
      refine ⟨_, hD2, ?_, same_set (smU.trans sm2) hD0, ?_, ?_⟩
      · rw [natL_len, List.length_map, List.length_range]
        exact few_lt (by omega)
      · rw [upd_ne (Ne.symm nDq)]
        exact sm2 _ _ (same_upd hU _ _ hq')
      · rw [upd_same, own_next hn]
    · rintro H1 ⟨sm4, hq4, hD4⟩
      rw [natL_len] at hD4
      refine ⟨_, rfl, q, c.S, dx, _, rfl, hq4, T.clS, T.nS.2.2.2.1, (by show 3 < 1000; decide), ?_⟩
      have sm5 := same_set (o := .ins c.S dx (putF "allowing_own" (.ref D) (putF "all_rules" (.int (1 * 2 ^ ((h.rules.length : Int)).toNat - 1)) (putF "wanted" (.ref wn) (putF "case" (.ref ca) []))))) sm4 hq0
      refine ⟨_, rfl, ca, _, rfl, .inl (sm5.seq hca), _, rfl, (by rw [natL_len]; omega), (by rw [natL_len]; omega), fun D2 hD2 => ?_⟩
      have nD2q : D2 ≠ q := fun z => by rw [z, upd_same] at hD2; cases hD2
      have hD20 : H1 D2 = none := by rw [upd_ne nD2q] at hD2; exact hD2
      have nDD2 : D ≠ D2 := fun z => by rw [← z, hD4] at hD20; cases hD20
      rw [natL_len, Int.toNat_natCast]
      refine lc_range (fun i H' => Same H0 H' ∧ H' q = some (.ins c.S dx (putF "allowing_own" (.ref D) (putF "all_rules" (.int (1 * 2 ^ ((h.rules.length : Int)).toNat - 1)) (putF "wanted" (.ref wn) (putF "case" (.ref ca) []))))) ∧ H' D = some (.lst (natL (ownL h.rules cs))) ∧
          ∃ pl : List Addr, H' D2 = some (.lst (pl.map V.ref)) ∧ pl.length = i ∧ ∀ (k : Nat) (p : Addr), pl[k]? = some p → p ≠ D2 ∧ PcsAt H' p (MA.pcs h.rules h.tops k))
        ⟨sm5.trans (same_upd hD2), by rw [upd_ne (Ne.symm nD2q), upd_same]; rfl, by rw [upd_ne nDD2, upd_ne nDq]; exact hD4, [], upd_same, rfl, fun k p z => by simp at z⟩ ?_ ?_
      · rintro i H' hi ⟨sm, hq', hD', pl, hp1, hp2, hp3⟩
        have hit : i < h.tops.length := by rw [← hc.1]; exact hi
        refine ⟨rfl, yes_in ?_⟩
        refine ⟨_, rfl, t, dt, _, rfl, sm _ _ ht, rfl, _, rfl, S, t, h, i, h.tops.getD i 0, by rw [Int.zero_add]; rfl, TA.keep sm.keeps.kp, h10, fun r hr => (by rw [hbl r hr]; exact hi), (by rw [List.getD_eq_getElem?_getD, List.getElem?_eq_getElem hit]; rfl), fun H2 U sm2 hU hU2 => ?_⟩
        have hD2' := sm2 _ _ hp1
        have nUD2 : U ≠ D2 := fun z => by rw [z, hp1] at hU; cases hU
        -- the pieces' own parts are not the list
        have keepP : ∀ (p : Addr) (ps : List (Nat × Nat)), p ≠ D2 → PcsAt H2 p ps → PcsAt (upd H2 D2 (.lst (pl.map V.ref ++ [.ref U]))) p ps := fun p ps hne ⟨l2, g1, g2, g3⟩ => by
          refine ⟨l2, by rw [upd_ne hne]; exact g1, g2, fun j a ha => ?_⟩
          obtain ⟨pp, k1, k2⟩ := g3 j a ha
          refine ⟨pp, k1, ?_⟩
          rw [upd_ne (ne_of k2 hD2' (fun z => nomatch z))]
          exact k2
        refine ⟨_, hD2', ?_, same_set (sm.trans sm2) (sm4.free hD20), ?_, ?_, pl ++ [U], ?_, ?_, ?_⟩
        · rw [List.length_map, hp2]
          exact few_lt (by omega)
        · rw [upd_ne (Ne.symm nD2q)]
          exact sm2 _ _ hq'
        · rw [upd_ne nDD2]
          exact sm2 _ _ hD'
        · rw [upd_same, List.map_append]
          rfl
        · rw [List.length_append, hp2]
          rfl
        · intro j p hj
          by_cases hji : j < pl.length
          · rw [List.getElem?_append_left hji] at hj
            obtain ⟨g1, g2⟩ := hp3 j p hj
            exact ⟨g1, keepP p _ g1 (g2.keep sm2.keeps)⟩
          · rw [List.getElem?_append_right (by omega)] at hj
            have ej : j = i := by
              have := (List.getElem?_eq_some_iff.mp hj).1
              simp at this
              exact eq_at hp2 hji this
            subst ej
            rw [hp2, Nat.sub_self] at hj
            have eq : U = p := by simpa using hj
            subst eq
            exact ⟨nUD2, keepP U _ nUD2 hU2⟩
      · rintro H2 ⟨sm6, hq6, hD6, pl, hp1, hp2, hp3⟩
        refine ⟨_, rfl, q, c.S, dx, _, rfl, hq6, T.clS, T.nS.2.2.2.2.1, (by show 4 < 1000; decide), fun kn hkn => ?_⟩
        have nkq : kn ≠ q := fun z => by rw [z, upd_same] at hkn; cases hkn
        have hkn2 : H2 kn = none := by rw [upd_ne nkq] at hkn; exact hkn
        have up : ∀ (o1 o2 o3 : HO) (b : Addr) (o : HO), H2 b = some o → b ≠ q → upd (upd (upd H2 q o1) kn o2) q o3 b = some o := fun o1 o2 o3 b o e hb => by
          rw [upd_ne hb, upd_ne (ne_of_none e hkn2), upd_ne hb]
          exact e
        refine ⟨_, rfl, q, c.S, dx, _, rfl, (by rw [upd_ne (Ne.symm nkq), upd_same]), T.clS, T.nS.2.2.2.2.2, (by show 5 < 1000; decide), ?_⟩
        have smZ : Same H0 (upd (upd (upd H2 q (.ins c.S dx (putF "allowing_any" (.ref D2) (putF "allowing_own" (.ref D) (putF "all_rules" (.int (1 * 2 ^ ((h.rules.length : Int)).toNat - 1)) (putF "wanted" (.ref wn) (putF "case" (.ref ca) []))))))) kn (knO P w kn [])) q
            (.ins c.S dx (putF "known" (.ref kn) (putF "allowing_any" (.ref D2) (putF "allowing_own" (.ref D) (putF "all_rules" (.int (1 * 2 ^ ((h.rules.length : Int)).toNat - 1)) (putF "wanted" (.ref wn) (putF "case" (.ref ca) [])))))))) :=
          same_set (same_set (same_set sm6 hq0) (sm6.free hkn2)) hq0
        refine kk _ ⟨dx, ca, wn, D, D2, kn⟩ smZ ⟨?_, smZ.seq hca, smZ _ _ hwn, up _ _ _ _ _ hD6 nDq, ⟨pl, up _ _ _ _ _ hp1 nD2q, hp2, fun k p hp => ?_⟩, ⟨?_, fun x hx => by cases hx⟩, ⟨List.nodup_nil, fun x hx => by cases hx⟩⟩
        · rw [upd_same]
          have e := ones_nat h.rules.length
          show some (HO.ins c.S dx [("case", .ref ca), ("wanted", .ref wn), ("all_rules", .int (1 * 2 ^ ((h.rules.length : Int)).toNat - 1)), ("allowing_own", .ref D), ("allowing_any", .ref D2), ("known", .ref kn)]) = some (HO.ins c.S dx [("case", .ref ca), ("wanted", .ref wn), ("all_rules", .int ((2 ^ h.rules.length - 1 : Nat) : Int)), ("allowing_own", .ref D), ("allowing_any", .ref D2), ("known", .ref kn)])
          rw [e]
        · obtain ⟨_, l2, g1, g2, g3⟩ := hp3 k p hp
          have nq : ∀ (b : Addr) (o : HO), H2 b = some o → (∀ C d fs, o ≠ .ins C d fs) → b ≠ q := fun b o e hne z => by
            rw [z, hq6] at e
            injection e with e
            exact hne _ _ _ e.symm
          refine ⟨l2, up _ _ _ _ _ g1 (nq _ _ g1 fun _ _ _ z => nomatch z), g2, fun j a ha => ?_⟩
          obtain ⟨pp, k1, k2⟩ := g3 j a ha
          exact ⟨pp, k1, up _ _ _ _ _ k2 (nq _ _ k2 fun _ _ _ z => nomatch z)⟩
        · rw [upd_ne nkq, upd_same]
          rfl
end
end WD
end
section
set_option Elab.async false
set_option linter.all false
set_option maxRecDepth 100000
set_option maxHeartbeats 4000000
namespace WD
open PySem PySem.Spec PyProof.Rows L2 X3
open Kp205 (Bound Rule)
open PK (PKey)
theorem place_all : ∀ n : Nat, n < 1024 → Builtin.Int.intBits (Builtin.bitAnd (n : Int) (-(n : Int))) = MA.place n := by decide +kernel
theorem place_le {left m : Nat} (h : left < 2 ^ m) : MA.place left ≤ m := by
  unfold MA.place
  split
  · rename_i j e
    have hb := List.find?_some e
    by_cases hj : j < m
    · omega
    · have := Nat.testBit_lt_two_pow (x := left) (i := j) (Nat.lt_of_lt_of_le h (Nat.pow_le_pow_right (by decide) (by omega)))
      rw [this] at hb
      cases hb
  · omega
theorem nodup_le {α : Type} [DecidableEq α] : ∀ {l m : List α}, l.Nodup → (∀ x ∈ l, x ∈ m) → l.length ≤ m.length
  | [], _, _, _ => Nat.zero_le _
  | x :: l, m, h, hs => by
    have hx : x ∈ m := hs x (List.mem_cons_self ..)
    have h2 := (List.nodup_cons.mp h)
    have ih := nodup_le (l := l) (m := m.erase x) h2.2 fun y hy => (List.mem_erase_of_ne (fun z => h2.1 (by rw [← z]; exact hy))).mpr (hs y (List.mem_cons_of_mem _ hy))
    rw [List.length_erase_of_mem hx] at ih
    have := List.length_pos_of_mem hx
    rw [List.length_cons]
    omega
noncomputable def allKeys : List PKey := F16.flatMap fun fs => (List.range 1024).map fun left => keyOf fs left
theorem allKeys_len : allKeys.length = 16384 := by
  unfold allKeys F16
  simp [List.length_flatMap]
theorem mem_len {H : Hp} {h : Kp208.House} {wt : List Bool} {es : List Ent} (m : MemOk H h wt es) : es.length < 100000 := by
  have := nodup_le (l := es.map (·.1)) (m := allKeys) m.nd fun x hx => by
    obtain ⟨y, hy, rfl⟩ := List.mem_map.mp hx
    obtain ⟨fs, left, e1, e2, e3, _⟩ := m.each y hy
    rw [e1]
    exact List.mem_flatMap.mpr ⟨fs, e2, List.mem_map.mpr ⟨left, List.mem_range.mpr e3, rfl⟩⟩
  rw [List.length_map, allKeys_len] at this
  omega
theorem tail_F16 : ∀ l ∈ F16, l.tail ∈ F16 := by decide
theorem keyOf_inj {fs gs : List Nat} {a b : Nat} (e : keyOf fs a = keyOf gs b) : fs = gs ∧ a = b := by
  unfold keyOf at e
  injection e with e1 e2
  refine ⟨?_, by omega⟩
  exact (List.map_inj_right (fun x y h => by omega)).mp e1
theorem look_mem {es : List Ent} {k : PKey} {v : Option Addr} (h : look es k = some v) : ∃ a, (k, a, v) ∈ es := by
  unfold look at h
  obtain ⟨x, hx, rfl⟩ := Option.map_eq_some_iff.mp h
  have h1 := List.mem_of_find?_eq_some hx
  have h2 : x.1 = k := by
    have := List.find?_some hx
    simpa using this
  exact ⟨x.2.1, by rw [← h2]; exact h1⟩
theorem look_none {es : List Ent} {k : PKey} (h : look es k = none) : ∀ x ∈ es, x.1 ≠ k := by
  unfold look at h
  have := Option.map_eq_none_iff.mp h
  intro x hx e
  have := List.find?_eq_none.mp this x hx
  simp [e] at this
theorem look_snoc {es : List Ent} {k : PKey} {a : Addr} {v : Option Addr} (h : look es k = none) : look (es ++ [(k, a, v)]) k = some v := by
  unfold look at h ⊢
  rw [List.find?_append, Option.map_eq_none_iff.mp h]
  simp
theorem key_natL (fs : List Nat) (left : Nat) : (keyOf fs left).1.map V.int = natL fs := by
  unfold keyOf natL
  rw [List.map_map]
  rfl
theorem cut_tail (k : Nat) (rest : List Nat) : cutV (natL (k :: rest)) (some 1) none = natL rest := by
  unfold cutV HT.sIx
  simp [natL]
  exact List.take_of_length_le (by simp)
theorem not_whole (k : Nat) (rest : List Nat) : ¬ (HT.sIx (natL (k :: rest)).length 0 (some 1) = 0 ∧ HT.sIx (natL (k :: rest)).length (natL (k :: rest)).length none = (natL (k :: rest)).length) := by
  unfold HT.sIx
  simp [natL]
noncomputable def VNew (H : Hp) (v : V) : Prop := ∀ p, v = .ref p → ∀ o, H p = some o → nx o = false
noncomputable def MemNew (H : Hp) (es es' : List Ent) : Prop := ∀ x ∈ es', x ∈ es ∨ VNew H (valW x.2.2)
theorem MemNew.refl (H : Hp) (es : List Ent) : MemNew H es es := fun x hx => .inl hx
theorem VNew.back {H H1 : Hp} {v : V} (n : VNew H1 v) (k : Keeps H H1) : VNew H v := fun p e o h => by
  cases z : nx o with
  | false => rfl
  | true =>
    have := n p e o (k p o h z)
    rw [z] at this
    cases this
theorem MemNew.next {H H1 : Hp} {es es1 es2 : List Ent} (m0 : MemNew H es es1) (k : Keeps H H1) (m : MemNew H1 es1 es2) : MemNew H es es2 := fun x hx => by
  rcases m x hx with h | h
  · exact m0 x h
  · exact .inr (h.back k)
inductive REN (P : Program) (w : World) (K : PySem.W.Frag) (c : Ad) (n : Nat) (vs : List V) (H : Hp) (Q : VK) : Prop
  | mk (q ft : Addr) (B : Sa) (h : Kp208.House) (cs : List Nat) (wt : List Bool) (es : List Ent) (fs : List Nat) (left : Nat) (h0 : vs = [.ref q, .ref ft, .int (left : Nat)]) (h1 : SrIs P w K c H q B h cs wt es) (h2 : h.rules.length ≤ 10) (h3 : wt.length = h.rules.length + 1) (h4 : H ft = some (.tup (natL fs))) (h5 : fs ∈ F16) (h6 : fs.length ≤ n) (h7 : (∀ k ∈ fs, k < cs.length)) (h8 : left < 2 ^ h.rules.length) (h9 : ∀ (H' : Hp) (v : V) (es' : List Ent), Keeps H H' → SrIs P w K c H' q B h cs wt es' → (∀ k : PKey, fs.length < k.1.length → look es' k = look es k) → MemNew H es es' → OptL H' v (sr h wt fs left) → Q v H') : REN P w K c n vs H Q
noncomputable def spEN (P : Program) (w : World) (K : PySem.W.Frag) (c : Ad) (n : Nat) : Sp := fun vs H Q _ => REN P w K c n vs H Q
inductive RTP (P : Program) (w : World) (K : PySem.W.Frag) (c : Ad) (n : Nat) (vs : List V) (H : Hp) (Q : VK) : Prop
  | mk (q ft : Addr) (B : Sa) (h : Kp208.House) (cs : List Nat) (wt : List Bool) (es : List Ent) (fs : List Nat) (left : Nat) (h0 : vs = [.ref q, .ref ft, .int (left : Nat)]) (h1 : SrIs P w K c H q B h cs wt es) (h2 : h.rules.length ≤ 10) (h3 : wt.length = h.rules.length + 1) (h4 : H ft = some (.tup (natL fs))) (h5 : fs ∈ F16) (h6 : fs.length ≤ n) (h7 : fs ≠ []) (h8 : (∀ k ∈ fs, k < cs.length)) (h9 : left < 2 ^ h.rules.length) (h10 : ∀ (H' : Hp) (v : V) (es' : List Ent), Keeps H H' → SrIs P w K c H' q B h cs wt es' → (∀ k : PKey, fs.length ≤ k.1.length → look es' k = look es k) → MemNew H es es' → VNew H v → OptL H' v (sr h wt fs left) → Q v H') : RTP P w K c n vs H Q
noncomputable def spTP (P : Program) (w : World) (K : PySem.W.Frag) (c : Ad) (n : Nat) : Sp := fun vs H Q _ => RTP P w K c n vs H Q
theorem pow_1024 {m : Nat} (h : m ≤ 10) : 2 ^ m ≤ 1024 := Nat.pow_le_pow_right (n := 2) (by decide) h
theorem val_of {v : V} {H : Hp} {r : Option (List Nat)} (h : OptL H v r) : ∃ u, v = valW u := by
  cases r with
  | none => exact ⟨none, h⟩
  | some ns =>
    obtain ⟨p, e, _⟩ := h
    exact ⟨some p, e⟩
section
variable {P : Program} {w : World} {K : PySem.W.Frag} {mg : Str → Option Value} {base : Heap} {c : Ad} {f : Addr} {fd : FuncData}
theorem scEN : FnScope ["self", "free", "left", "place", "key"] ["self", "free", "left"] (defScope sEN) := ⟨rfl, rfl, rfl, by decide +kernel, rfl, by decide +kernel, by decide +kernel⟩
theorem wt_get {wt : List Bool} {n : Nat} (h : n < wt.length) : (wt.map V.bl)[n]? = some (.bl (wB wt n)) := by
  rw [List.getElem?_map, List.getElem?_eq_getElem h]
  unfold wB
  rw [List.getD_eq_getElem?_getD, List.getElem?_eq_getElem h]
  rfl
theorem ok_EN (n : Nat) (F : Fun K "earliest_numbers" "Search.earliest_numbers" sEN f fd) (T : Txt K mg c) (M1 : MOk P w K mg base c.S "try_pieces" (2 * n) ["self", "free", "left"] (spTP P w K c n)) : FnOk P w K mg base CX0 (2 * n + 1) f fd ["self", "free", "left"] (spEN P w K c n) := by
  obtain ⟨f1, d1, G1, b1, m1⟩ := M1
  refine F.ok scEN (fun vs H Q E h => ?_) (fun cdv A outer s H vs Q E hr h => ?_)
  · obtain ⟨q, ft, B, h, cs, wt, es, fs, left, rfl, _⟩ := h
    rfl
  · obtain ⟨q, ft, B, h, cs, wt, es, fs, left, rfl, SR, h10, hw, hft, hF, hn, hk, hleft, kk⟩ := h
    have hl1024 : left < 1024 := Nat.lt_of_lt_of_le hleft (pow_1024 h10)
    refine ⟨_, pss_cons (ps_if (pt_not (pt_truth (pv 1) (fun _ => rfl)))
        (pss_cons (ps_set (i := 3) scEN.nd rfl (Or.inl rfl) (pe_bm0 PySem.F.plainAttrs_int PySem.F.slot_int_bit_length PySem.F.type_int_bit_length mt_bits (pe_op op_and (pv 2) (pe_un un_neg (pv 2)))))
          (pss_one (ps_ret (pe_ifExp (pt_val (pe_ix ix_list (pe_fld (pv 0) rfl) (pv 3) (fun _ _ => rfl))) (pe_lst pa_nil) pe_non)))) pss_nil)
      (pss_cons (ps_set (i := 4) scEN.nd rfl (Or.inl rfl) (pe_tup (pa_cons (pv 1) (pa_cons (pv 2) pa_nil))))
      (pss_cons (ps_if (pt_cmp (pc_knotin hr.units (pv 4) (pe_fld (pv 0) rfl))) (pss_one (ps_kput hr.units (pe_fld (pv 0) rfl) (pv 4) (pe_meth (pv 0) T.clS m1 G1 hr b1 .nil pass0 (pa_cons (pv 1) (pa_cons (pv 2) pa_nil))) rfl)) pss_nil)
      (pss_one (ps_ret (pe_kget hr.units (pe_fld (pv 0) rfl) (pv 4) (fun _ _ => rfl)))))), ?_⟩
    refine ⟨_, rfl, !(natL fs).isEmpty, .inr (.inl ⟨_, SqT.of hft, rfl⟩), ?_⟩
    cases fs with
    | nil =>
      refine iteT ⟨_, rfl, _, rfl, _, rfl, _, _, rfl, rfl, rfl, _, rfl, rfl, ?_⟩
      have hp := place_all left hl1024
      have hple := place_le hleft
      refine ⟨_, rfl, q, c.S, B.dx, _, _, rfl, SR.ins, T.clS, T.nS.2.1, rfl, _, rfl, B.wn, _, _, .bl (wB wt (MA.place left)), rfl, rfl, SqL.of SR.wanted, ?_, _, rfl, ?_⟩
      · show atI (wt.map V.bl) (Builtin.Int.intBits (Builtin.bitAnd (left : Int) (-(left : Int))) : Nat) = _
        rw [hp]
        exact atI_nat (wt_get (by omega))
      · have esr : sr h wt [] left = if wB wt (MA.place left) then some [] else none := rfl
        rw [esr] at kk
        refine ite2 (fun h1 => ?_) (fun h1 => ?_)
        · rw [if_pos h1] at kk
          exact ⟨Nat.zero_le _, fun p hp => kk _ _ es (same_upd hp).keeps (SR.same (same_upd hp)) (fun _ _ => rfl) (MemNew.refl _ _) ⟨p, rfl, upd_same⟩⟩
        · rw [if_neg h1] at kk
          exact kk H .non es (Keeps.refl H) SR (fun _ _ => rfl) (MemNew.refl _ _) rfl
    | cons k0 rest =>
      refine iteF ⟨_, rfl, _, rfl, few_line (by show 2 ≤ 1000; decide), fun ky hky => ?_⟩
      have sm0 : Same H (upd H ky (.tup [.ref ft, .int (left : Nat)])) := same_upd hky
      have SR0 := SR.same sm0
      have hkey : KeyAt (upd H ky (.tup [.ref ft, .int (left : Nat)])) ky (keyOf (k0 :: rest) left) := ⟨ft, upd_same, by rw [key_natL]; exact sm0 _ _ hft⟩
      have KN := SR0.kno
      have MO := SR0.mem
      refine ⟨_, rfl, _, rfl, q, c.S, B.dx, _, _, rfl, SR0.ins, T.clS, T.nS.2.2.2.2.2, rfl, B.kn, es, ky, _, rfl, rfl, KN, hkey, _, rfl, ?_⟩
      cases hlk : look es (keyOf (k0 :: rest) left) with
      | some v =>
        refine iteF ?_
        refine ⟨_, rfl, q, c.S, B.dx, _, _, rfl, SR0.ins, T.clS, T.nS.2.2.2.2.2, rfl, _, rfl, B.kn, es, ky, _, v, rfl, rfl, KN, hkey, hlk, kk _ _ es sm0.keeps SR0 (fun _ _ => rfl) (MemNew.refl _ _) ?_⟩
        obtain ⟨a, ha⟩ := look_mem hlk
        obtain ⟨gs, l2, e1, e2, e3, e4⟩ := MO.each _ ha
        obtain ⟨e5, e6⟩ := keyOf_inj e1
        have e7 : sr h wt (k0 :: rest) left = sr h wt gs l2 := by rw [e5, e6]
        rw [e7]
        exact e4
      | none =>
        refine iteT ?_
        refine ⟨_, rfl, q, B.dx, _, rfl, SR0.ins, rfl, _, rfl, _, rfl, q, ft, B, h, cs, wt, es, k0 :: rest, left, rfl, SR0, h10, hw, sm0 _ _ hft, hF, hn, (fun z => nomatch z), hk, hleft, fun H1 v es1 kp1 SR1 fr mn vn ov => ?_⟩
        obtain ⟨u, rfl⟩ := val_of ov
        have KN1 := SR1.kno
        have MO1 := SR1.mem
        have hkey1 := KeyAt.keep hkey kp1
        have hlen : (keyOf (k0 :: rest) left).1.length = (k0 :: rest).length := by
          unfold keyOf
          rw [List.length_map]
        have hlk1 : look es1 (keyOf (k0 :: rest) left) = none := by rw [fr _ (by rw [hlen]; exact Nat.le_refl _), hlk]
        have kp2 : Keeps H1 (upd H1 B.kn (knO P w B.kn (es1 ++ [(keyOf (k0 :: rest) left, ky, u)]))) := fun b o e no => by
          rw [upd_ne (fun z => by rw [z, KN1.obj] at e; cases e; cases no)]
          exact e
        have SR2 : SrIs P w K c (upd H1 B.kn (knO P w B.kn (es1 ++ [(keyOf (k0 :: rest) left, ky, u)]))) q B h cs wt (es1 ++ [(keyOf (k0 :: rest) left, ky, u)]) := by
          refine SR1.keep kp2 ⟨upd_same, fun y hy => ?_⟩ ⟨?_, fun y hy => ?_⟩
          · rcases List.mem_append.mp hy with hy | hy
            · exact KeyAt.keep (KN1.keys y hy) kp2
            · rw [List.mem_singleton.mp hy]
              exact KeyAt.keep hkey1 kp2
          · rw [List.map_append, List.nodup_append]
            refine ⟨MO1.nd, List.pairwise_singleton _ _, fun a ha b hb => ?_⟩
            obtain ⟨y, hy, rfl⟩ := List.mem_map.mp ha
            rw [List.map_cons, List.map_nil, List.mem_singleton] at hb
            rw [hb]
            exact look_none hlk1 y hy
          · rcases List.mem_append.mp hy with hy | hy
            · obtain ⟨gs, l2, e1, e2, e3, e4⟩ := MO1.each y hy
              exact ⟨gs, l2, e1, e2, e3, e4.keep kp2⟩
            · rw [List.mem_singleton.mp hy]
              exact ⟨_, _, rfl, hF, hl1024, ov.keep kp2⟩
        refine ⟨_, rfl, q, c.S, B.dx, _, _, rfl, SR1.ins, T.clS, T.nS.2.2.2.2.2, rfl, _, rfl, B.kn, es1, ky, _, u, rfl, rfl, rfl, KN1, hkey1, hlk1, mem_len MO1, ?_⟩
        refine ⟨_, rfl, q, c.S, B.dx, _, _, rfl, SR2.ins, T.clS, T.nS.2.2.2.2.2, rfl, _, rfl, B.kn, _, ky, _, u, rfl, rfl, SR2.kno, KeyAt.keep hkey1 kp2, look_snoc hlk1, ?_⟩
        refine kk _ _ _ ((sm0.keeps.trans kp1).trans kp2) SR2 (fun k hk => ?_) ((MemNew.refl H es).next sm0.keeps fun x hx => ?_) (ov.keep kp2)
        rotate_left
        · rcases List.mem_append.mp hx with hx | hx
          · exact mn x hx
          · rw [List.mem_singleton.mp hx]
            exact .inr vn
        have hne : keyOf (k0 :: rest) left ≠ k := fun z => by
          rw [← z, hlen] at hk
          exact Nat.lt_irrefl _ hk
        rw [← fr k (Nat.le_of_lt hk)]
        unfold look
        rw [List.find?_append]
        cases es1.find? fun x => decide (x.1 = k) with
        | some _ => rfl
        | none => simp [hne]
theorem scTP : FnScope ["self", "free", "left", "number", "bits", "numbers"] ["self", "free", "left"] (defScope sTP) := ⟨rfl, rfl, rfl, by decide +kernel, rfl, by decide +kernel, by decide +kernel⟩
theorem firstP_drop {g : Nat → Option (List Nat)} : ∀ {l : List (Nat × Nat)} {i : Nat} {p : Nat × Nat}, (∀ (j : Nat) (q : Nat × Nat), j < i → l[j]? = some q → g q.1 = none) → l[i]? = some p → MA.firstP g l = match g p.1 with
    | some ns => some (p.2 :: ns)
    | none => MA.firstP g (l.drop (i + 1))
  | [], _, _, _, h => by simp at h
  | x :: l, 0, p, _, h => by
    have e : x = p := by simpa using h
    subst e
    rfl
  | x :: l, i + 1, p, hn, h => by
    have e := hn 0 x (Nat.zero_lt_succ _) rfl
    have ih := firstP_drop (g := g) (l := l) (i := i) (p := p) (fun j q hj hq => hn (j + 1) q (by omega) (by simpa using hq)) (by simpa using h)
    show (match g x.1 with
      | some ns => some (x.2 :: ns)
      | none => MA.firstP g l) = _
    rw [e]
    exact ih
theorem firstP_all {g : Nat → Option (List Nat)} : ∀ {l : List (Nat × Nat)}, (∀ (j : Nat) (q : Nat × Nat), l[j]? = some q → g q.1 = none) → MA.firstP g l = none
  | [], _ => rfl
  | x :: l, hn => by
    show (match g x.1 with
      | some ns => some (x.2 :: ns)
      | none => MA.firstP g l) = _
    rw [hn 0 x rfl]
    exact firstP_all fun j q hq => hn (j + 1) q (by simpa using hq)
theorem srch_len {wf : Nat → Bool} {pc : Nat → List (Nat × Nat)} : ∀ {fs : List Nat} {left : Nat} {ns : List Nat}, MA.srch wf pc fs left = some ns → ns.length = fs.length
  | [], left, ns, h => by
    have h' : (if wf (MA.place left) then some [] else none) = some ns := h
    split at h'
    · cases h'; rfl
    · cases h'
  | k :: rest, left, ns, h => by
    have h' : MA.firstP (fun b => MA.srch wf pc rest (left &&& b)) (pc k) = some ns := h
    revert h'
    generalize pc k = l
    intro h'
    induction l with
    | nil => cases h'
    | cons x l ih =>
      have h2 : (match MA.srch wf pc rest (left &&& x.1) with
        | some ns => some (x.2 :: ns)
        | none => MA.firstP (fun b => MA.srch wf pc rest (left &&& b)) l) = some ns := h'
      cases e : MA.srch wf pc rest (left &&& x.1) with
      | none =>
        rw [e] at h2
        exact ih h2
      | some m =>
        rw [e] at h2
        cases h2
        rw [List.length_cons, List.length_cons, srch_len e]
theorem F16_len : ∀ l ∈ F16, l.length ≤ 4 := by decide
theorem ok_TP (n : Nat) (F : Fun K "try_pieces" "Search.try_pieces" sTP f fd) (T : Txt K mg c) (M1 : MOk P w K mg base c.S "earliest_numbers" (2 * n + 1) ["self", "free", "left"] (spEN P w K c n)) : FnOk P w K mg base CX0 (2 * (n + 1)) f fd ["self", "free", "left"] (spTP P w K c (n + 1)) := by
  obtain ⟨f1, d1, G1, b1, m1⟩ := M1
  refine F.ok scTP (fun vs H Q E h => ?_) (fun cdv A outer s H vs Q E hr h => ?_)
  · obtain ⟨q, ft, B, h, cs, wt, es, fs, left, rfl, _⟩ := h
    rfl
  · obtain ⟨q, ft, B, h, cs, wt, es, fs, left, rfl, SR, h10, hw, hft, hF, hn, hne, hk, hleft, kk⟩ := h
    obtain ⟨k0, rest, rfl⟩ : ∃ k0 rest, fs = k0 :: rest := by
      cases fs with
      | nil => exact absurd rfl hne
      | cons k0 rest => exact ⟨k0, rest, rfl⟩
    have hF' : rest ∈ F16 := tail_F16 _ hF
    have hk0 := hk k0 (List.mem_cons_self ..)
    obtain ⟨pl, hpl1, hpl2, hpl3⟩ := SR.any
    obtain ⟨pa, hpa⟩ : ∃ p, pl[k0]? = some p := ⟨_, List.getElem?_eq_getElem (by rw [hpl2]; exact hk0)⟩
    have hpc := hpl3 k0 pa hpa
    obtain ⟨ql, hq1, hq2, hq3⟩ := hpc
    have esr : sr h wt (k0 :: rest) left = MA.firstP (fun b => sr h wt rest (left &&& b)) (MA.pcs h.rules h.tops k0) := rfl
    refine ⟨_, pss_cons (ps_for PassesOwn.never rfl (pi_list (pe_ix ix_list (pe_fld (pv 0) rfl) (pe_ix ix_tup (pv 1) pe_int (fun _ _ => rfl)) (fun _ _ => rfl)))
        (pg_tup rfl (pgs_cons (pg_name (i := 3) scTP.nd rfl (Or.inl rfl)) (pgs_cons (pg_name (i := 4) scTP.nd rfl (Or.inl rfl)) pgs_nil)))
      (pss_cons (ps_set (i := 5) scTP.nd rfl (Or.inl rfl) (pe_meth (pv 0) T.clS m1 G1 hr b1 .nil pass0 (pa_cons (pe_slice sl_tup (pv 1) (po_some pe_int) po_none) (pa_cons (pe_op op_and (pv 2) (pv 4)) pa_nil))))
      (pss_one (ps_if (pt_cmp (pc_notN (pv 5))) (pss_one (ps_ret (pe_op op_cat (pe_lst (pa_cons (pv 3) pa_nil)) (pv 5)))) pss_nil)))) (pss_one (ps_ret pe_non)), ?_⟩
    refine ⟨_, rfl, q, c.S, B.dx, _, _, rfl, SR.ins, T.clS, T.nS.2.2.2.2.1, rfl, _, rfl, ft, _, _, .int (k0 : Nat), rfl, rfl, SqT.of hft, (show atI (natL (k0 :: rest)) ((0 : Nat) : Int) = _ from atI_nat (natL_at rfl)), B.an, _, _, _, rfl, rfl, SqL.of hpl1, atI_nat (refs_at hpa), pa, rfl, ⟨_, SqL.of hq1⟩, ?_⟩
    refine for_list (K := K) (xs := ql.map V.ref) (fun i σ H' => Lv3 (fun v3 v4 v5 => [some (.ref q), some (.ref ft), some (.int (left : Nat)), v3, v4, v5]) (Keeps H H') ((∃ es', SrIs P w K c H' q B h cs wt es' ∧ MemNew H es es' ∧ ∀ k : PKey, (k0 :: rest).length ≤ k.1.length → look es' k = look es k) ∧ ∀ (j : Nat) (p : Nat × Nat), j < i → (MA.pcs h.rules h.tops k0)[j]? = some p → sr h wt rest (left &&& p.1) = none) σ)
      ⟨none, none, none, rfl, Keeps.refl H, ⟨es, SR, MemNew.refl _ _, fun _ _ => rfl⟩, fun j _ hj => absurd hj (Nat.not_lt_zero _)⟩ (fun i σ H' _ z => SqL.of (z.p _ _ hq1 rfl)) ?_ ?_
    · rintro i x σ H' hx ⟨v3, v4, v5, rfl, kp, ⟨es', SR', mn, fr⟩, no⟩
      obtain ⟨a, ha, rfl⟩ := refs_get hx
      obtain ⟨p, hp, hta⟩ := hq3 i a ha
      refine ⟨a, _, rfl, SqT.of (kp _ _ hta rfl), rfl, _, _, rfl, _, _, rfl, rfl, ?_⟩
      refine ⟨_, rfl, q, B.dx, _, rfl, SR'.ins, rfl, _, rfl, _, rfl, ft, _, rfl, SqT.of (kp _ _ hft rfl), not_whole k0 rest, fun ft2 hft2 => ?_⟩
      rw [cut_tail]
      have sm2 : Same H' (upd H' ft2 (.tup (natL rest))) := same_upd hft2
      have SR2 := SR'.same sm2
      refine ⟨_, rfl, _, rfl, _, _, rfl, rfl, q, ft2, B, h, cs, wt, es', rest, left &&& p.1, ?_, SR2, h10, hw, upd_same, hF', by simpa using hn, fun k hk' => hk k (List.mem_cons_of_mem _ hk'), Nat.lt_of_le_of_lt Nat.and_le_left hleft, fun H3 v es3 kp3 SR3 fr3 mn3 ov => ?_⟩
      · show [V.ref q, V.ref ft2, V.int (Builtin.bitAnd (left : Int) (p.1 : Int))] = _
        rw [nat_and]
      refine ⟨_, rfl, _, rfl, ?_⟩
      have KP := (kp.trans sm2.keeps).trans kp3
      have MN : MemNew H es es3 := mn.next (kp.trans sm2.keeps) mn3
      have FR : ∀ k : PKey, (k0 :: rest).length ≤ k.1.length → look es3 k = look es k := fun k hk => by
        rw [fr3 k (by rw [List.length_cons] at hk; omega), fr k hk]
      have fd := firstP_drop (g := fun b => sr h wt rest (left &&& b)) no hp
      cases hs : sr h wt rest (left &&& p.1) with
      | none =>
        rw [hs] at ov
        have ev : v = .non := ov
        subst ev
        refine iteF ⟨_, _, _, rfl, KP, ⟨es3, SR3, MN, FR⟩, fun j p' hj hp' => ?_⟩
        by_cases hji : j = i
        · subst hji
          rw [hp] at hp'
          cases hp'
          exact hs
        · exact no j p' (by omega) hp'
      | some ns =>
        rw [hs] at ov
        obtain ⟨pn, rfl, hpn⟩ := ov
        have hnl := srch_len hs
        have hrl := F16_len _ hF'
        refine iteT ⟨_, rfl, one_line, fun l1 hl1 => ?_⟩
        have sm4 : Same H3 (upd H3 l1 (.lst [.int (p.2 : Nat)])) := same_upd hl1
        refine ⟨_, rfl, l1, pn, _, _, rfl, rfl, upd_same, sm4 _ _ hpn, ?_, fun l2 hl2 => ?_⟩
        · rw [natL_len]
          exact few_line (by show 1 + _ ≤ _; omega)
        have sm5 := sm4.trans (same_upd (o := .lst ([V.int (p.2 : Nat)] ++ natL ns)) hl2)
        refine kk _ _ es3 (KP.trans sm5.keeps) (SR3.same sm5) FR MN (fun p e o h => ?_) ?_
        · cases e
          exact KP.free (sm4.free hl2) o h
        rw [esr, fd, hs]
        exact ⟨l2, rfl, upd_same⟩
    · rintro σ H' ⟨v3, v4, v5, rfl, kp, ⟨es', SR', mn, fr⟩, no⟩
      refine kk H' .non es' kp SR' fr mn (fun p e => nomatch e) ?_
      rw [esr, firstP_all fun j p hp => no j p (by rw [List.length_map, hq2]; exact (List.getElem?_eq_some_iff.mp hp).1) hp]
      rfl
theorem no_TP (fd : FuncData) (f : Addr) : FnOk P w K mg base CX0 (2 * 0) f fd ["self", "free", "left"] (spTP P w K c 0) := by
  have no : ∀ vs H Q E, ¬ spTP P w K c 0 vs H Q E := fun vs H Q E h => by
    obtain ⟨q, ft, B, h, cs, wt, es, fs, left, _, _, _, _, _, _, hn, hne, _⟩ := h
    exact hne (List.length_eq_zero_iff.mp (by omega))
  exact ⟨fun vs H Q E h => absurd h (no vs H Q E), fun A outer s H args us vs Q E _ _ _ _ h => absurd h (no vs H Q E)⟩
theorem ok_ENs {fE fT : Addr} {dE dT : FuncData} (FE : Fun K "earliest_numbers" "Search.earliest_numbers" sEN fE dE) (FT : Fun K "try_pieces" "Search.try_pieces" sTP fT dT) (bE : Binds K dE ["self", "free", "left"] []) (bT : Binds K dT ["self", "free", "left"] [])
    (mE : Meth K c.S "earliest_numbers" fE) (mT : Meth K c.S "try_pieces" fT) (T : Txt K mg c) : ∀ n, MOk P w K mg base c.S "earliest_numbers" (2 * n + 1) ["self", "free", "left"] (spEN P w K c n)
  | 0 => ⟨fE, dE, ok_EN 0 FE T ⟨fT, dT, no_TP dT fT, bT, mT⟩, bE, mE⟩
  | n + 1 => ⟨fE, dE, ok_EN (n + 1) FE T ⟨fT, dT, ok_TP n FT T (ok_ENs FE FT bE bT mE mT T n), bT, mT⟩, bE, mE⟩
end
end WD
end
section
set_option Elab.async false
set_option linter.all false
set_option maxRecDepth 100000
set_option maxHeartbeats 4000000
namespace WD
open PySem PySem.Spec PyProof.Rows L2 X3
open Kp205 (Bound Rule)
open PK (PKey)
theorem firstP_congr {g g' : Nat → Option (List Nat)} (h : ∀ b, g b = g' b) : ∀ l : List (Nat × Nat), MA.firstP g l = MA.firstP g' l
  | [] => rfl
  | x :: l => by
    show (match g x.1 with
      | some ns => some (x.2 :: ns)
      | none => MA.firstP g l) = (match g' x.1 with
      | some ns => some (x.2 :: ns)
      | none => MA.firstP g' l)
    rw [h x.1, firstP_congr h l]
theorem srch_congr {wf wg : Nat → Bool} {pc : Nat → List (Nat × Nat)} {m : Nat} (h : ∀ n, n ≤ m → wf n = wg n) : ∀ (fs : List Nat) (left : Nat), left < 2 ^ m → MA.srch wf pc fs left = MA.srch wg pc fs left
  | [], left, hl => by
    show (if wf (MA.place left) then some [] else none) = (if wg (MA.place left) then some [] else none)
    rw [h _ (place_le hl)]
  | k :: rest, left, hl => firstP_congr (fun b => srch_congr h rest (left &&& b) (Nat.lt_of_le_of_lt Nat.and_le_left hl)) _
theorem left_le (rs : List Rule) (fb : Nat) : ∀ (l : List Nat) (o acc : Nat), MA.leftFrom rs fb o acc l ≤ acc
  | [], _, _ => Nat.le_refl _
  | x :: l, o, acc => by
    refine Nat.le_trans (left_le rs fb l (o + 1) _) ?_
    split
    · exact Nat.le_refl _
    · exact Nat.and_le_left
theorem left_lt (rs : List Rule) (fb : Nat) (l : List Nat) : MA.leftFrom rs fb 0 (2 ^ rs.length - 1) l < 2 ^ rs.length := by
  have := left_le rs fb l 0 (2 ^ rs.length - 1)
  have := Nat.two_pow_pos rs.length
  omega
theorem free_F16 (fb : Nat) : ∀ cs : List Nat, cs.length ≤ 4 → MA.freeFrom fb 0 cs ∈ F16
  | [], _ => (by decide : ([] : List Nat) ∈ F16)
  | [_], _ => by unfold MA.freeFrom MA.freeFrom; split <;> decide
  | [_, _], _ => by unfold MA.freeFrom MA.freeFrom MA.freeFrom; split <;> split <;> decide
  | [_, _, _], _ => by unfold MA.freeFrom MA.freeFrom MA.freeFrom MA.freeFrom; split <;> split <;> split <;> decide
  | [_, _, _, _], _ => by unfold MA.freeFrom MA.freeFrom MA.freeFrom MA.freeFrom MA.freeFrom; split <;> split <;> split <;> split <;> decide
  | _ :: _ :: _ :: _ :: _ :: _, h => by simp at h
theorem bit_test (fb k : Nat) : (Builtin.bitAnd ((fb : Int) / 2 ^ ((k : Int)).toNat) 1 != 0) = Nat.testBit fb k := by
  have e1 : (fb : Int) / 2 ^ ((k : Int)).toNat = ((fb / 2 ^ k : Nat) : Int) := by
    rw [Int.toNat_natCast]
    norm_cast
  rw [e1]
  have e2 := nat_and (fb / 2 ^ k) 1
  rw [show ((1 : Nat) : Int) = 1 from rfl] at e2
  rw [e2, Nat.testBit_eq_decide_div_mod_eq, Nat.and_one_is_mod]
  have := Nat.mod_two_eq_zero_or_one (fb / 2 ^ k)
  rcases this with h | h <;> rw [h] <;> rfl
theorem ixN_nat {n k : Nat} (h : k < n) : ixN n (k : Int) = some k := by
  unfold ixN
  rw [if_pos (Int.natCast_nonneg k), if_pos (by omega), Int.toNat_natCast]
theorem natL_set (l : List Nat) (k n : Nat) : (natL l).set k (.int (n : Nat)) = natL (l.set k n) := by
  unfold natL
  rw [List.map_set]
theorem putO_len (o : Nat) : ∀ (ps : List (Nat × Nat)) (c : List Nat), (MA.putO o c ps).length = c.length
  | [], c => rfl
  | p :: ps, c => by
    have := putO_len o ps (c.set (p.1 - o) p.2)
    rw [List.length_set] at this
    exact this
theorem putO_snoc (c : List Nat) (ps : List (Nat × Nat)) (p : Nat × Nat) : MA.putO 0 c (ps ++ [p]) = (MA.putO 0 c ps).set p.1 p.2 := by
  unfold MA.putO
  rw [List.foldl_append]
  rfl
inductive REar (P : Program) (w : World) (K : PySem.W.Frag) (c : Ad) (vs : List V) (H : Hp) (Q : VK) : Prop
  | mk (q : Addr) (B : Sa) (h : Kp208.House) (cs : List Nat) (wt : List Bool) (es : List Ent) (fb : Nat) (wf : Nat → Bool) (h0 : vs = [.ref q, .int (fb : Nat)]) (h1 : SrIs P w K c H q B h cs wt es) (h2 : h.rules.length ≤ 10) (h3 : wt.length = h.rules.length + 1) (h4 : cs.length ≤ 4) (h5 : (∀ n, n ≤ h.rules.length → wB wt n = wf n)) (h6 : ∀ (H' : Hp) (v : V) (es' : List Ent), Keeps H H' → SrIs P w K c H' q B h cs wt es' → MemNew H es es' → OptL H' v (MA.earliest h.rules h.tops cs wf fb) → Q v H') : REar P w K c vs H Q
noncomputable def spEar (P : Program) (w : World) (K : PySem.W.Frag) (c : Ad) : Sp := fun vs H Q _ => REar P w K c vs H Q
section
variable {P : Program} {w : World} {K : PySem.W.Frag} {mg : Str → Option Value} {base : Heap} {c : Ad} {f : Addr} {fd : FuncData}
theorem scEar : FnScope ["self", "free_bits", "free", "left", "k", "bits", "numbers", "found", "number"] ["self", "free_bits"] (defScope sEar) := ⟨rfl, rfl, rfl, by decide +kernel, rfl, by decide +kernel, by decide +kernel⟩
theorem own_get {rs : List Rule} {cs : List Nat} {i : Nat} {v : V} (h : (natL (ownL rs cs))[i]? = some v) : ∃ n, cs[i]? = some n ∧ v = .int (MA.allow rs i n : Nat) := by
  obtain ⟨m, hm, rfl⟩ := natL_get h
  unfold ownL at hm
  rw [List.getElem?_map] at hm
  obtain ⟨j, hj, rfl⟩ := Option.map_eq_some_iff.mp hm
  obtain ⟨hi, e⟩ := List.getElem?_eq_some_iff.mp hj
  rw [List.length_range] at hi
  rw [List.getElem_range] at e
  subst e
  exact ⟨_, List.getElem?_eq_getElem hi, by rw [List.getD_eq_getElem?_getD, List.getElem?_eq_getElem hi]; rfl⟩
theorem ok_ear (F : Fun K "earliest" "Search.earliest" sEar f fd) (T : Txt K mg c) (M1 : MOk P w K mg base c.S "earliest_numbers" 9 ["self", "free", "left"] (spEN P w K c 4)) : FnOk P w K mg base CX0 10 f fd ["self", "free_bits"] (spEar P w K c) := by
  obtain ⟨f1, d1, G1, b1, m1⟩ := M1
  refine F.ok scEar (fun vs H Q E h => ?_) (fun cdv A outer s H vs Q E hr h => ?_)
  · obtain ⟨q, B, h, cs, wt, es, fb, wf, rfl, _⟩ := h
    rfl
  · obtain ⟨q, B, h, cs, wt, es, fb, wf, rfl, SR, h10, hw, hc4, hwf, kk⟩ := h
    refine ⟨_, pss_cons (ps_set (i := 2) scEar.nd rfl (Or.inl rfl) (pe_lst pa_nil)) (pss_cons (ps_set (i := 3) scEar.nd rfl (Or.inl rfl) (pe_fld (pv 0) rfl))
      (pss_cons (ps_for PassesOwn.never rfl (pi_enum rfl T.enum (pa_cons (pe_fld (pv 0) rfl) pa_nil)) (pg_tup rfl (pgs_cons (pg_name (i := 4) scEar.nd rfl (Or.inl rfl)) (pgs_cons (pg_name (i := 5) scEar.nd rfl (Or.inl rfl)) pgs_nil)))
        (pss_one (ps_if (pt_truth (pe_op op_and (pe_op op_shr (pv 1) (pv 4)) pe_int) (fun _ => rfl)) (pss_one (ps_expr (pe_bm PySem.F.plainAttrs_list PySem.F.slot_list_append PySem.F.type_list_append mt_append (pv 2) (pa_cons (pv 4) pa_nil))))
          (pss_one (ps_aug (i := 3) scEar.nd rfl (Or.inl rfl) (pv 5) ip_and)))))
      (pss_cons (ps_set (i := 6) scEar.nd rfl (Or.inl rfl) (pe_meth (pv 0) T.clS m1 G1 hr b1 .nil pass0 (pa_cons (pe_callTy call_tuple_of (by rfl) T.tuple PyProof.Rows.boot_tuple (pa_cons (pv 2) pa_nil)) (pa_cons (pv 3) pa_nil))))
      (pss_cons (ps_if (pt_cmp (pc_isN (pv 6))) (pss_one (ps_ret pe_non)) pss_nil)
      (pss_cons (ps_set (i := 7) scEar.nd rfl (Or.inl rfl) (pe_callTy call_list_of (by rfl) T.list PyProof.Rows.boot_list (pa_cons (pe_fld (pv 0) rfl) pa_nil)))
      (pss_cons (ps_for PassesOwn.never rfl (pi_zip rfl T.zip (pa_cons (pv 2) (pa_cons (pv 6) pa_nil))) (pg_tup rfl (pgs_cons (pg_name (i := 4) scEar.nd rfl (Or.inl rfl)) (pgs_cons (pg_name (i := 8) scEar.nd rfl (Or.inl rfl)) pgs_nil)))
        (pss_one (ps_asg (pv 8) (pg_sub (pv 7) (pv 4) set_list))))
      (pss_one (ps_ret (pv 7))))))))), ?_⟩
    refine ⟨Nat.zero_le _, fun D hD => ?_⟩
    have sm0 : Same H (upd H D (.lst [])) := same_upd hD
    refine ⟨_, rfl, q, c.S, B.dx, _, _, rfl, sm0 _ _ SR.ins, T.clS, T.nS.2.2.1, rfl, _, rfl, q, c.S, B.dx, _, _, rfl, sm0 _ _ SR.ins, T.clS, T.nS.2.2.2.1, rfl, B.ow, _, rfl, SqL.of (sm0 _ _ SR.own), ?_⟩
    refine for_enum (K := K) (xs := natL (ownL h.rules cs)) (fun i σ H' => Lv2 (fun v4 v5 => [some (.ref q), some (.int (fb : Nat)), some (.ref D), some (.int (MA.leftFrom h.rules fb 0 (2 ^ h.rules.length - 1) (cs.take i) : Nat)), v4, v5, none, none, none]) (Same H H') (H' D = some (.lst (natL (MA.freeFrom fb 0 (cs.take i))))) σ)
      ⟨none, none, rfl, sm0, upd_same⟩ (fun i σ H' _ z => SqL.of (z.p _ _ SR.own)) ?_ ?_
    · rintro i x σ H' U hx ⟨v4, v5, rfl, sm, hD'⟩ hU
      obtain ⟨n, hn, rfl⟩ := own_get hx
      have hi := (List.getElem?_eq_some_iff.mp hn).1
      have htl : (cs.take i).length = i := by rw [List.length_take]; omega
      have smU : Same H (upd H' U (.tup [.int (i : Nat), .int (MA.allow h.rules i n : Nat)])) := sm.trans (same_upd hU)
      have hDU : (upd H' U (.tup [.int (i : Nat), .int (MA.allow h.rules i n : Nat)])) D = some (.lst (natL (MA.freeFrom fb 0 (cs.take i)))) := same_upd hU _ _ hD'
      have hfr := MA.freeFrom_snoc fb n (cs.take i) 0
      have hlf := MA.leftFrom_snoc h.rules fb n (cs.take i) 0 (2 ^ h.rules.length - 1)
      rw [Nat.zero_add, htl] at hfr hlf
      rw [← take_snoc hn] at hfr hlf
      refine ⟨U, _, rfl, SqT.of upd_same, rfl, _, _, rfl, _, _, rfl, rfl, ?_⟩
      refine ⟨_, rfl, _, rfl, _, _, rfl, rfl, Int.natCast_nonneg i, _, _, rfl, rfl, Nat.testBit fb i, (bit_test fb i).symm, ?_⟩
      refine ite2 (fun h1 => ?_) (fun h1 => ?_)
      · rw [if_pos h1] at hfr hlf
        refine ⟨_, rfl, .inl ⟨rfl, _, SqL.of hDU⟩, _, rfl, D, _, _, rfl, rfl, hDU, ?_, some (.int (i : Nat)), some (.int (MA.allow h.rules i n : Nat)), ?_, same_set smU hD, ?_⟩
        · have := F16_len _ (free_F16 fb (cs.take i) (by rw [htl]; omega))
          rw [natL_len]
          exact few_lt (by omega)
        · rw [hlf]
          rfl
        · rw [upd_same, hfr]
          unfold natL
          rw [List.map_append]
          rfl
      · rw [if_neg h1] at hfr hlf
        rw [List.append_nil] at hfr
        refine ⟨_, rfl, _, rfl, _, _, rfl, rfl, some (.int (i : Nat)), some (.int (MA.allow h.rules i n : Nat)), ?_, smU, ?_⟩
        · rw [hlf, ← nat_and]
          rfl
        · rw [hfr]
          exact hDU
    · rintro σ H1 ⟨v4, v5, rfl, sm1, hD1⟩
      have hol : (natL (ownL h.rules cs)).length = cs.length := by
        rw [natL_len]
        unfold ownL
        rw [List.length_map, List.length_range]
      rw [hol, List.take_length] at hD1 ⊢
      have SR1 := SR.same sm1
      have hF := free_F16 fb cs hc4
      have hlf := left_lt h.rules fb cs
      refine ⟨_, rfl, q, B.dx, _, rfl, SR1.ins, rfl, _, rfl, D, _, rfl, .inl ⟨SqL.of hD1, fun ft hft => ?_⟩⟩
      have sm2 : Same H1 (upd H1 ft (.tup (natL (MA.freeFrom fb 0 cs)))) := same_upd hft
      refine ⟨_, rfl, q, ft, B, h, cs, wt, es, MA.freeFrom fb 0 cs, MA.leftFrom h.rules fb 0 (2 ^ h.rules.length - 1) cs, rfl, SR1.same sm2, h10, hw, upd_same, hF, F16_len _ hF, fun k hk => (by have := (MA.mem_freeFrom hk).2.1; omega), hlf, fun H3 v es3 kp3 SR3 _ mn3 ov => ?_⟩
      have KP : Keeps H H3 := (sm1.trans sm2).keeps.trans kp3
      have MN : MemNew H es es3 := (MemNew.refl H es).next (sm1.trans sm2).keeps mn3
      have esr : MA.earliest h.rules h.tops cs wf fb = (sr h wt (MA.freeFrom fb 0 cs) (MA.leftFrom h.rules fb 0 (2 ^ h.rules.length - 1) cs)).map (MA.merge fb 0 cs) := by
        unfold MA.earliest
        rw [← srch_congr hwf _ _ hlf]
      refine ⟨_, rfl, _, rfl, ?_⟩
      cases hs : sr h wt (MA.freeFrom fb 0 cs) (MA.leftFrom h.rules fb 0 (2 ^ h.rules.length - 1) cs) with
      | none =>
        rw [hs] at ov esr
        have ev : v = .non := ov
        subst ev
        refine iteT (kk H3 .non es3 KP SR3 MN ?_)
        rw [esr]
        rfl
      | some ns =>
        rw [hs] at ov esr
        obtain ⟨pn, rfl, hpn⟩ := ov
        have hnl := srch_len hs
        have hD3 : H3 D = some (.lst (natL (MA.freeFrom fb 0 cs))) := kp3 _ _ (sm2 _ _ hD1) rfl
        refine iteF ⟨_, rfl, q, c.S, B.dx, _, _, rfl, SR3.ins, T.clS, T.nS.1, rfl, B.ca, _, rfl, .inl SR3.case, fun E1 hE1 => ?_⟩
        have sm4 : Same H3 (upd H3 E1 (.lst (natL cs))) := same_upd hE1
        refine ⟨_, rfl, _, rfl, D, pn, natL (MA.freeFrom fb 0 cs), natL ns, rfl, SqL.of (sm4 _ _ hD3), SqL.of (sm4 _ _ hpn), ?_⟩
        refine for_zip (K := K) (xs := natL (MA.freeFrom fb 0 cs)) (ys := natL ns) (fun i σ H' => Lv5 (fun v2 v3 v4 v5 v8 => [some (.ref q), v2, some (.ref D), v3, v4, v5, some (.ref pn), some (.ref E1), v8]) (Same H3 H') (H' E1 = some (.lst (natL (MA.putO 0 cs (((MA.freeFrom fb 0 cs).zip ns).take i))))) σ)
          ⟨_, _, _, _, _, rfl, sm4, upd_same⟩ (fun i σ H' _ z => ⟨SqL.of (z.p _ _ hD3), SqL.of (z.p _ _ hpn)⟩) (by rw [natL_len, natL_len, hnl]) ?_ ?_
        · rintro i x y σ H' U hx hy ⟨v2, v3, v4, v5, v8, rfl, sm, hE⟩ hU
          obtain ⟨k, hk, rfl⟩ := natL_get hx
          obtain ⟨n, hn, rfl⟩ := natL_get hy
          have hkc : k < cs.length := by
            have := (MA.mem_freeFrom (List.mem_of_getElem? hk)).2.1
            omega
          have hz : ((MA.freeFrom fb 0 cs).zip ns)[i]? = some (k, n) := List.getElem?_zip_eq_some.mpr ⟨hk, hn⟩
          have hEU := same_upd (o := .tup [.int (k : Nat), .int (n : Nat)]) hU _ _ hE
          refine ⟨U, _, rfl, SqT.of upd_same, rfl, _, _, rfl, _, _, rfl, rfl, ?_⟩
          refine ⟨_, rfl, _, rfl, _, rfl, E1, _, _, k, rfl, rfl, hEU, ?_, _, _, _, _, _, rfl, same_set (sm.trans (same_upd hU)) hE1, ?_⟩
          · rw [natL_len, putO_len]
            exact ixN_nat hkc
          · rw [upd_same, take_snoc hz, putO_snoc, natL_set]
        · rintro σ H' ⟨v2, v3, v4, v5, v8, rfl, sm, hE⟩
          refine ⟨_, rfl, kk H' (.ref E1) es3 (KP.trans sm.keeps) (SR3.same sm) MN ?_⟩
          rw [esr]
          refine ⟨E1, rfl, ?_⟩
          have e : ((MA.freeFrom fb 0 cs).zip ns).take (natL (MA.freeFrom fb 0 cs)).length = (MA.freeFrom fb 0 cs).zip ns := by
            rw [natL_len]
            exact List.take_of_length_le (by rw [List.length_zip, hnl, Nat.min_self]; exact Nat.le_refl _)
          rw [e, MA.putO_merge fb cs ns 0 hnl] at hE
          exact hE
end
end WD
end
section
set_option Elab.async false
set_option linter.all false
set_option maxRecDepth 100000
set_option maxHeartbeats 4000000
namespace WD
open PySem PySem.Spec PyProof.Rows L2 X3
open Kp205 (Bound Rule)
noncomputable abbrev sAllIn : Stmt := top 31
noncomputable abbrev sSets : Stmt := top 32
noncomputable abbrev sSize : Stmt := top 33
noncomputable abbrev sLeast : Stmt := top 34
theorem size_all : ∀ s : Nat, s < 16 → ((List.range (Builtin.Int.intBits (s : Int))).map fun (k : Nat) => Builtin.bitAnd ((s : Int) / 2 ^ ((k : Int)).toNat) 1).sum = (Kp208.size s : Int) := by decide +kernel
theorem size_lt : ∀ s : Nat, s < 16 → Kp208.size s < 5 := by decide +kernel
theorem bits_lt : ∀ s : Nat, s < 16 → Builtin.Int.intBits (s : Int) ≤ 4 := by decide +kernel
theorem order_sets : ∀ n : Nat, n < 5 → orderK 5 (2 ^ n) (fun s => (Kp208.size s : Int)) = MA.setsN n := by decide +kernel
inductive RAllIn (K : PySem.W.Frag) (vs : List V) (H : Hp) (Q : VK) : Prop
  | mk (l : Addr) (cs : List Nat) (h0 : vs = [.ref l]) (h1 : SqL K H l (natL cs)) (h2 : cs.length ≤ 1000) (h3 : ∀ H' : Hp, Same H H' → Q (.int ((2 ^ cs.length - 1 : Nat) : Int)) H') : RAllIn K vs H Q
noncomputable def spAllIn (K : PySem.W.Frag) : Sp := fun vs H Q _ => RAllIn K vs H Q
inductive RSize  (vs : List V) (H : Hp) (Q : VK) : Prop
  | mk (s : Nat) (h0 : vs = [.int (s : Nat)]) (h1 : s < 16) (h2 : ∀ H' : Hp, Same H H' → Q (.int (Kp208.size s : Nat)) H') : RSize  vs H Q
noncomputable def spSize  : Sp := fun vs H Q _ => RSize  vs H Q
inductive RSets (K : PySem.W.Frag) (vs : List V) (H : Hp) (Q : VK) : Prop
  | mk (l : Addr) (cs : List Nat) (h0 : vs = [.ref l]) (h1 : SqL K H l (natL cs)) (h2 : cs.length ≤ 4) (h3 : ∀ (H' : Hp) (q : Addr), Same H H' → H q = none → H' q = some (.lst (natL (MA.setsN cs.length))) → Q (.ref q) H') : RSets K vs H Q
noncomputable def spSets (K : PySem.W.Frag) : Sp := fun vs H Q _ => RSets K vs H Q
inductive RLeast  (vs : List V) (H : Hp) (Q : VK) : Prop
  | mk (l : Addr) (ss : List Nat) (h0 : vs = [.ref l]) (h1 : H l = some (.lst (natL ss))) (h2 : ss.length ≤ 100) (h3 : ∀ (H' : Hp) (q : Addr), Same H H' → H q = none → H' q = some (.lst (natL (MA.leastOf ss))) → Q (.ref q) H') : RLeast  vs H Q
noncomputable def spLeast  : Sp := fun vs H Q _ => RLeast  vs H Q
section
variable {P : Program} {w : World} {K : PySem.W.Frag} {mg : Str → Option Value} {base : Heap} {c : Ad} {f : Addr} {fd : FuncData}
theorem scAllIn : FnScope ["case"] ["case"] (defScope sAllIn) := ⟨rfl, rfl, rfl, by decide +kernel, rfl, by decide +kernel, by decide +kernel⟩
theorem ok_allIn (F : Fun K "all_inputs" "all_inputs" sAllIn f fd) (T : Txt K mg c) : FnOk P w K mg base CX0 1 f fd ["case"] (spAllIn K) := by
  refine F.ok scAllIn (fun vs H Q E h => ?_) (fun cdv A outer s H vs Q E hr h => ?_)
  · obtain ⟨l, cs, rfl, _⟩ := h
    rfl
  · obtain ⟨l, cs, rfl, hl, h4, kk⟩ := h
    refine ⟨_, pss_one (ps_ret (pe_op op_sub (pe_op op_shl pe_int (pe_callB call_len_seq (by rfl) T.len PySem.boot_len (pa_cons (pv 0) pa_nil))) pe_int)), ?_⟩
    refine ⟨_, rfl, l, _, rfl, .inl hl, _, _, rfl, rfl, ?_, ?_⟩
    · rw [natL_len]
      exact ⟨by omega, by omega, by decide⟩
    rw [natL_len]
    refine ⟨_, _, rfl, rfl, ?_⟩
    show Q (.int (1 * 2 ^ ((cs.length : Int)).toNat - 1)) H
    rw [ones_nat]
    exact kk H (Same.refl H)
noncomputable abbrev nSize : List Str := ["inputs", "k"]
theorem scSize : FnScope nSize ["inputs"] (defScope sSize) := ⟨rfl, rfl, rfl, by decide +kernel, rfl, by decide +kernel, by decide +kernel⟩
theorem blkSize : BlkOk nSize (defScope sSize) (compSc [(".0", .local), ("k", .local), ("inputs", .free)]) [("k", 1)] := blkOk_by (by decide +kernel)
theorem ok_size (F : Fun K "size_of" "size_of" sSize f fd) (T : Txt K mg c) : FnOk P w K mg base CX0 1 f fd ["inputs"] spSize := by
  refine F.ok scSize (fun vs H Q E h => ?_) (fun cdv A outer s H vs Q E hr h => ?_)
  · obtain ⟨n, rfl, _⟩ := h
    rfl
  · obtain ⟨n, rfl, hn, kk⟩ := h
    have hb := bits_lt n hn
    refine ⟨_, pss_one (ps_ret (pe_callB (cr_sum rfl) (by rfl) T.sum PyProof.Rows.boot_sum (pa_cons (pe_lc rfl scSize.nd (pi_range1 rfl T.range (pa_cons (pe_bm0 PySem.F.plainAttrs_int PySem.F.slot_int_bit_length PySem.F.type_int_bit_length mt_bits (pv 0)) pa_nil)) blkSize
      (fun _ _ _ _ _ => pg_name (i := 1) scSize.nd rfl (Or.inl rfl)) (fun _ _ _ _ _ => pts_nil) (fun _ _ _ _ _ => pe_op op_and (pe_op op_shr (pv 0) (pv 1)) pe_int)) pa_nil))), ?_⟩
    refine ⟨_, rfl, rfl, _, rfl, rfl, _, rfl, by omega, by omega, fun D hD => ?_⟩
    rw [Int.toNat_natCast]
    refine lc_range (fun i H' => Same H H' ∧ H' D = some (.lst (((List.range i).map fun (k : Nat) => Builtin.bitAnd ((n : Int) / 2 ^ ((k : Int)).toNat) 1).map V.int))) ⟨same_upd hD, upd_same⟩ ?_ ?_
    · rintro i H' hi ⟨sm, hD'⟩
      refine ⟨rfl, yes_in ?_⟩
      refine ⟨_, rfl, _, rfl, _, _, rfl, rfl, by omega, _, _, rfl, rfl, _, hD', ?_, same_set sm hD, ?_⟩
      · rw [List.length_map, List.length_map, List.length_range]
        exact few_lt (by omega)
      · rw [upd_same, List.range_succ, List.map_append, List.map_append, Int.zero_add]
        rfl
    · rintro H' ⟨sm, hD'⟩
      refine ⟨D, _, rfl, SqL.of hD', ?_⟩
      rw [size_all n hn]
      exact kk H' sm
theorem scSets : FnScope ["case"] ["case"] (defScope sSets) := ⟨rfl, rfl, rfl, by decide +kernel, rfl, by decide +kernel, by decide +kernel⟩
theorem ok_sets (F : Fun K "sets_in_order" "sets_in_order" sSets f fd) (T : Txt K mg c) (F1 : FOk P w K mg base "all_inputs" 1 ["case"] (spAllIn K)) (F2 : FOk P w K mg base "size_of" 1 ["inputs"] spSize) : FnOk P w K mg base CX0 4 f fd ["case"] (spSets K) := by
  obtain ⟨f1, d1, G1, b1, k1, g1⟩ := F1
  obtain ⟨f2, d2, G2, b2, k2, g2⟩ := F2
  refine F.ok scSets (fun vs H Q E h => ?_) (fun cdv A outer s H vs Q E hr h => ?_)
  · obtain ⟨l, cs, rfl, _⟩ := h
    rfl
  · obtain ⟨l, cs, rfl, hl, h4, kk⟩ := h
    have hr1 : Room 1 _ := hr.mono (by decide)
    have hr3 : Room (1 + 2) _ := hr
    have hp : 2 ^ cs.length ≤ 16 := Nat.pow_le_pow_right (n := 2) (by decide) h4
    refine ⟨_, pss_one (ps_ret (pe_sortK 5 (fun s => (Kp208.size s : Int)) rfl G2 hr3 b2 rfl T.sorted rfl T.range rfl g2 (pa_cons (pe_op op_add (pe_call G1 hr1 rfl g1 k1 b1 .nil pass0 (pa_cons (pv 0) pa_nil)) pe_int) pa_nil))), ?_⟩
    refine ⟨_, rfl, l, cs, rfl, hl, by omega, fun H1 sm1 => ⟨_, _, rfl, rfl, 2 ^ cs.length, ?_, by omega, fun i hi => ⟨Int.natCast_nonneg _, ?_⟩, fun i H2 Q2 hi q2 => ⟨i, rfl, by omega, q2⟩, fun H2 q sm2 hq hq0 => ?_⟩⟩
    · have := Nat.two_pow_pos cs.length
      show [V.int (((2 ^ cs.length - 1 : Nat) : Int) + 1)] = [V.int ((2 ^ cs.length : Nat) : Int)]
      congr 2
      omega
    · have := size_lt i (by omega)
      show (Kp208.size i : Int) < ((5 : Nat) : Int)
      omega
    · refine kk H2 q (sm1.trans sm2) (sm1.free hq0) ?_
      rw [hq, order_sets _ (by omega)]
      rfl
noncomputable abbrev nLeast : List Str := ["sets", "kept", "inputs", "part"]
theorem scLeast : FnScope nLeast ["sets"] (defScope sLeast) := ⟨rfl, rfl, rfl, by decide +kernel, rfl, by decide +kernel, by decide +kernel⟩
theorem blkLeast : BlkOk nLeast (defScope sLeast) (compSc [(".0", .local), ("part", .local), ("inputs", .free)]) [("part", 3)] := blkOk_by (by decide +kernel)
noncomputable def accTo (ss : List Nat) (i : Nat) : List Nat := (ss.take i).foldl MA.leastAcc []
theorem acc_len (ss : List Nat) : ∀ i, (accTo ss i).length ≤ i
  | 0 => by simp [accTo]
  | i + 1 => by
    have ih := acc_len ss i
    by_cases h : i < ss.length
    · have e : accTo ss (i + 1) = MA.leastAcc (accTo ss i) ss[i] := by
        unfold accTo
        rw [take_snoc (List.getElem?_eq_getElem h), List.foldl_append]
        rfl
      rw [e]
      unfold MA.leastAcc
      split
      · omega
      · rw [List.length_append, List.length_singleton]
        omega
    · have e : accTo ss (i + 1) = accTo ss i := by
        unfold accTo
        rw [List.take_of_length_le (by omega), List.take_of_length_le (by omega)]
      rw [e]
      omega
theorem eq_nat (a b : Nat) : decide (V.int (a : Int) = V.int (b : Int)) = (a == b) := by
  by_cases h : a = b
  · subst h
    simp
  · rw [beq_eq_false_iff_ne.mpr h]
    exact decide_eq_false fun z => h (by injection z with z; omega)
theorem any_map (acc : List Nat) (s : Nat) : ((acc.map fun r => ((r &&& s) == r)).any id) = acc.any fun r => (r &&& s) == r := by
  rw [List.any_map]
  rfl
theorem ok_least (F : Fun K "least" "least" sLeast f fd) (T : Txt K mg c) : FnOk P w K mg base CX0 1 f fd ["sets"] spLeast := by
  refine F.ok scLeast (fun vs H Q E h => ?_) (fun cdv A outer s H vs Q E hr h => ?_)
  · obtain ⟨l, ss, rfl, _⟩ := h
    rfl
  · obtain ⟨l, ss, rfl, hl, h100, kk⟩ := h
    refine ⟨_, pss_cons (ps_set (i := 1) scLeast.nd rfl (Or.inl rfl) (pe_lst pa_nil)) (pss_cons (ps_for PassesOwn.never rfl (pi_list (pv 0)) (pg_name (i := 2) scLeast.nd rfl (Or.inr rfl))
      (pss_one (ps_if (pt_not (pt_val (pe_callB (cr_any rfl) (by rfl) T.any PyProof.Rows.boot_any (pa_cons (pe_lc rfl scLeast.nd (pi_list (pv 1)) blkLeast
        (fun _ _ _ _ _ => pg_name (i := 3) scLeast.nd rfl (Or.inl rfl)) (fun _ _ _ _ _ => pts_nil) (fun _ _ _ _ _ => pe_cmpR op_eq (pe_op op_and (pv 3) (pv 2)) (pv 3) (nomark _))) pa_nil))))
        (pss_one (ps_expr (pe_bm PySem.F.plainAttrs_list PySem.F.slot_list_append PySem.F.type_list_append mt_append (pv 1) (pa_cons (pv 2) pa_nil)))) pss_nil)))
      (pss_one (ps_ret (pv 1)))), ?_⟩
    refine ⟨Nat.zero_le _, fun D hD => ⟨_, rfl, l, rfl, ⟨_, SqL.of (same_upd hD _ _ hl)⟩, ?_⟩⟩
    refine for_list (K := K) (xs := natL ss) (fun i σ H' => Lv2 (fun v2 v3 => [some (.ref l), some (.ref D), v2, v3]) (Same H H') (H' D = some (.lst (natL (accTo ss i)))) σ) ⟨none, none, rfl, same_upd hD, upd_same⟩ (fun i σ H' _ z => SqL.of (z.p _ _ hl)) ?_ ?_
    · rintro i x σ H' hx ⟨v2, v3, rfl, sm, hD'⟩
      obtain ⟨n, hn, rfl⟩ := natL_get hx
      have hi := (List.getElem?_eq_some_iff.mp hn).1
      have hal := acc_len ss i
      have enx : accTo ss (i + 1) = MA.leastAcc (accTo ss i) n := by
        unfold accTo
        rw [take_snoc hn, List.foldl_append]
        rfl
      refine ⟨_, rfl, D, rfl, ⟨_, SqL.of hD'⟩, fun D2 hD2 => ?_⟩
      have n2 : D ≠ D2 := fun z => by rw [← z, hD'] at hD2; cases hD2
      refine lc_list (K := K) (xs := natL (accTo ss i)) (fun j H2 => Same H' H2 ∧ H2 D2 = some (.lst (((accTo ss i).take j).map fun r => V.bl ((r &&& n) == r)))) ⟨same_upd hD2, upd_same⟩ (fun j H2 _ z => SqL.of (z.1 _ _ hD')) ?_ ?_
      · rintro j y H2 hy ⟨sm2, h2⟩
        obtain ⟨m, hm, rfl⟩ := natL_get hy
        refine ⟨rfl, yes_in ?_⟩
        refine ⟨_, rfl, _, rfl, _, _, rfl, rfl, _, rfl, rfl, _, h2, ?_, same_set sm2 hD2, ?_⟩
        · rw [List.length_map, List.length_take]
          exact few_lt (by omega)
        · rw [upd_same, take_snoc hm, List.map_append]
          have e : decide (V.int (Builtin.bitAnd (m : Int) (n : Int)) = V.int (m : Int)) = ((m &&& n) == m) := by
            rw [nat_and]
            exact eq_nat _ _
          show some (HO.lst (_ ++ [V.bl (decide (V.int (Builtin.bitAnd (m : Int) (n : Int)) = V.int (m : Int)))])) = _
          rw [e]
          rfl
      · rintro H2 ⟨sm2, h2⟩
        rw [natL_len, List.take_length] at h2
        have h2' : H2 D2 = some (.lst (((accTo ss i).map fun r => ((r &&& n) == r)).map V.bl)) := by
          rw [h2, List.map_map]
          rfl
        refine ⟨D2, _, rfl, SqL.of h2', _, rfl, ?_⟩
        rw [any_map]
        have hD3 := sm2 _ _ hD'
        have e2 : MA.leastAcc (accTo ss i) n = if ((accTo ss i).any fun r => (r &&& n) == r) then accTo ss i else accTo ss i ++ [n] := rfl
        cases ha : (accTo ss i).any fun r => (r &&& n) == r with
        | true =>
          rw [ha, if_pos rfl] at e2
          refine iteF ⟨_, _, rfl, sm.trans sm2, ?_⟩
          rw [enx, e2]
          exact hD3
        | false =>
          rw [ha, if_neg Bool.false_ne_true] at e2
          refine iteT ⟨_, rfl, .inl ⟨rfl, _, SqL.of hD3⟩, _, rfl, D, _, _, rfl, rfl, hD3, ?_, _, _, rfl, same_set (sm.trans sm2) hD, ?_⟩
          · rw [natL_len]
            exact few_lt (by omega)
          · rw [upd_same, enx, e2]
            unfold natL
            rw [List.map_append]
            rfl
    · rintro σ H' ⟨v2, v3, rfl, sm, hD'⟩
      refine ⟨_, rfl, kk H' D sm hD ?_⟩
      rw [natL_len] at hD'
      unfold accTo at hD'
      rw [List.take_length] at hD'
      exact hD'
end
end WD
end
section
set_option Elab.async false
set_option linter.all false
set_option maxRecDepth 100000
set_option maxHeartbeats 4000000
namespace WD
open PySem PySem.Spec PyProof.Rows L2 X3
open Kp205 (Bound Rule)
noncomputable abbrev sForces : Stmt := top 26
noncomputable abbrev sReasons : Stmt := top 27
noncomputable abbrev sContrasts : Stmt := top 28
noncomputable abbrev sWay : Stmt := top 29
noncomputable abbrev sOther : Stmt := top 30
theorem ear_len {rs : List Rule} {tops cs : List Nat} {wf : Nat → Bool} {fb : Nat} {y : List Nat} (h : MA.earliest rs tops cs wf fb = some y) : y.length = cs.length := by
  unfold MA.earliest at h
  obtain ⟨ns, _, rfl⟩ := Option.map_eq_some_iff.mp h
  exact MA.merge_length fb cs ns 0
theorem I_natL (l : List Nat) : (MA.I l).map V.int = natL l := by
  unfold MA.I Kp208Neutral.outs natL
  rw [List.map_map]
  rfl
theorem want_of (rs : List Rule) (p : Nat → Bool) : ∀ n, n ≤ rs.length → wB ((MA.toldAll rs).map p) n = MA.wantOf rs p n := fun n hn => by
  have hl : n < (MA.toldAll rs).length := by
    unfold MA.toldAll
    rw [List.length_cons, List.length_map]
    omega
  unfold wB MA.wantOf
  rw [List.getD_eq_getElem?_getD, List.getD_eq_getElem?_getD, List.getElem?_map, List.getElem?_eq_getElem hl]
  rfl
theorem told_len (rs : List Rule) : (MA.toldAll rs).length = rs.length + 1 := by
  unfold MA.toldAll
  rw [List.length_cons, List.length_map]
noncomputable def ToldK (H H' : Hp) (q : Addr) (l : List Int) : Prop := (∀ o, H q = some o → nx o = false) ∧ H' q = some (.lst (l.map V.int))
inductive ROther (P : Program) (w : World) (K : PySem.W.Frag) (c : Ad) (vs : List V) (H : Hp) (Q : VK) : Prop
  | mk (S : Addr → Prop) (t ca : Addr) (h : Kp208.House) (cs : List Nat) (h0 : vs = [.ref t, .ref ca]) (h1 : TabAt c S H t h) (h2 : MA.OkH h) (h3 : Kp208.good h cs = true) (h4 : SqL K H ca (natL cs)) (h5 : ∀ (H' : Hp) (q : Addr) (B : Sa) (wt : List Bool), Same H H' → SrIs P w K c H' q B h cs wt [] → wt.length = h.rules.length + 1 → (∀ n, n ≤ h.rules.length → wB wt n = MA.otherW h cs n) → Q (.ref q) H') : ROther P w K c vs H Q
noncomputable def spOther (P : Program) (w : World) (K : PySem.W.Frag) (c : Ad) : Sp := fun vs H Q _ => ROther P w K c vs H Q
inductive RForces (K : PySem.W.Frag) (c : Ad) (vs : List V) (H : Hp) (Q : VK) : Prop
  | mk (S : Addr → Prop) (t ca : Addr) (h : Kp208.House) (cs : List Nat) (s : Nat) (h0 : vs = [.ref t, .int (s : Nat), .ref ca]) (h1 : TabAt c S H t h) (h2 : MA.OkH h) (h3 : SqL K H ca (natL cs)) (h4 : ∀ (H' : Hp) (q : Addr), Keeps H H' → ToldK H H' q (MA.ansForces h s cs) → Q (.ref q) H') : RForces K c vs H Q
noncomputable def spForces (K : PySem.W.Frag) (c : Ad) : Sp := fun vs H Q _ => RForces K c vs H Q
section
variable {P : Program} {w : World} {K : PySem.W.Frag} {mg : Str → Option Value} {base : Heap} {c : Ad} {f : Addr} {fd : FuncData}
noncomputable abbrev nOther : List Str := ["table", "case", "here", "told"]
theorem scOther : FnScope nOther ["table", "case"] (defScope sOther) := ⟨rfl, rfl, rfl, by decide +kernel, rfl, by decide +kernel, by decide +kernel⟩
theorem blkOther : BlkOk nOther (defScope sOther) (compSc [(".0", .local), ("told", .local), ("here", .free)]) [("told", 3)] := blkOk_by (by decide +kernel)
theorem ne_nat (a b : Nat) : (!decide (V.int (a : Int) = V.int (b : Int))) = (a != b) := by
  rw [eq_nat]
  rfl
theorem ok_other (F : Fun K "search_otherwise" "search_otherwise" sOther f fd) (T : Txt K mg c) (M1 : MOk P w K mg base c.T "told_in" 3 ["self", "case"] (spToldIn K c)) (M2 : MOk P w K mg base c.T "told_by_each" 1 ["self"] (spToldEach c)) (C1 : COk P w K mg base "Search" c.S 3 ["self", "table", "case", "wanted"] (spSI P w K c)) :
    FnOk P w K mg base CX0 5 f fd ["table", "case"] (spOther P w K c) := by
  obtain ⟨f1, d1, G1, b1, m1⟩ := M1
  obtain ⟨f2, d2, G2, b2, m2⟩ := M2
  obtain ⟨f3, d3, G3, b3, mk3, g3⟩ := C1
  refine F.ok scOther (fun vs H Q E h => ?_) (fun cdv A outer s H vs Q E hr h => ?_)
  · obtain ⟨S, t, ca, h, cs, rfl, _⟩ := h
    rfl
  · obtain ⟨S, t, ca, h, cs, rfl, TA, ok, hg, hca, kk⟩ := h
    obtain ⟨a, b, ra, TB⟩ := id TA
    obtain ⟨dt, ht⟩ := TB.ins
    have h10 := ok.ten
    have hr1 : Room 1 _ := hr.mono (by decide)
    have hr3 : Room 3 _ := hr.mono (by decide)
    refine ⟨_, pss_cons (ps_set (i := 2) scOther.nd rfl (Or.inr rfl) (pe_meth (pv 0) T.clT m1 G1 hr3 b1 .nil pass0 (pa_cons (pv 1) pa_nil)))
      (pss_one (ps_ret (pe_make mk3 G3 hr rfl g3 b3 .nil pass0 (pa_cons (pv 0) (pa_cons (pv 1) (pa_cons (pe_lc rfl scOther.nd (pi_list (pe_meth0 (pv 0) T.clT m2 G2 hr1 b2 .nil pass0)) blkOther
        (fun _ _ _ _ _ => pg_name (i := 3) scOther.nd rfl (Or.inl rfl)) (fun _ _ _ _ _ => pts_nil) (fun _ _ _ _ _ => pe_cmpR op_ne (pv 3) (pv 2) (nomark _))) pa_nil)))))), ?_⟩
    refine ⟨_, rfl, t, dt, _, rfl, ht, rfl, _, rfl, S, t, ca, h, cs, rfl, TA, hca, bounds_len ok hg, fun H1 sm1 => ?_⟩
    refine ⟨_, rfl, _, rfl, _, rfl, t, dt, _, rfl, sm1 _ _ ht, rfl, S, t, h, rfl, TA.keep sm1.keeps.kp, h10, fun H2 q2 hq2 hq2' sm2 => ?_⟩
    have sm12 := sm1.trans sm2
    refine ⟨q2, rfl, ⟨_, SqL.of hq2'⟩, fun D hD => ?_⟩
    refine lc_list (K := K) (xs := natL (MA.toldAll h.rules)) (fun i H' => Same H2 H' ∧ H' D = some (.lst (((MA.toldAll h.rules).take i).map fun n => V.bl (n != MA.here h cs)))) ⟨same_upd hD, upd_same⟩ (fun i H' _ z => SqL.of (z.1 _ _ hq2')) ?_ ?_
    · rintro i x H' hx ⟨sm, hD'⟩
      obtain ⟨n, hn, rfl⟩ := natL_get hx
      have hi := (List.getElem?_eq_some_iff.mp hn).1
      rw [told_len] at hi
      refine ⟨rfl, yes_in ?_⟩
      refine ⟨_, rfl, _, rfl, rfl, _, hD', ?_, same_set sm hD, ?_⟩
      · rw [List.length_map, List.length_take]
        exact few_lt (by omega)
      · rw [upd_same, take_snoc hn, List.map_append]
        have e := ne_nat n (Kp205.decided h.rules cs)
        show some (HO.lst (_ ++ [V.bl (!decide (V.int (n : Int) = V.int (Kp205.decided h.rules cs : Int)))])) = _
        rw [e]
        rfl
    · rintro H3 ⟨sm3, hD3⟩
      rw [natL_len, List.take_length] at hD3
      have hD4 : H3 D = some (.lst (((MA.toldAll h.rules).map fun n => n != MA.here h cs).map V.bl)) := by
        rw [hD3, List.map_map]
        rfl
      have SM := sm12.trans sm3
      intro x dx hx hdx hne
      have smx : Same H3 (upd (upd H3 dx (.own x)) x (.ins c.S dx [])) := fun b o e => by
        rw [upd_ne (ne_of_none e hx), upd_ne (ne_of_none e hdx)]
        exact e
      refine ⟨H3, S, x, dx, t, ca, D, h, cs, _, rfl, upd_same, smx, hx, TA.keep SM.keeps.kp, ok, hg, SM.seq hca, hD4, fun H4 B sm4 SR => ⟨rfl, ?_⟩⟩
      refine kk H4 x B _ (SM.trans sm4) SR ?_ (want_of h.rules _)
      rw [List.length_map, told_len]
theorem scForces : FnScope ["table", "inputs", "case", "found"] ["table", "inputs", "case"] (defScope sForces) := ⟨rfl, rfl, rfl, by decide +kernel, rfl, by decide +kernel, by decide +kernel⟩
theorem ok_forces (F : Fun K "forces" "forces" sForces f fd) (T : Txt K mg c) (M1 : MOk P w K mg base c.T "is_case" 1 ["self", "case"] (spCase K c)) (F1 : FOk P w K mg base "all_inputs" 1 ["case"] (spAllIn K)) (F2 : FOk P w K mg base "search_otherwise" 5 ["table", "case"] (spOther P w K c))
    (M2 : MOk P w K mg base c.S "earliest" 10 ["self", "free_bits"] (spEar P w K c)) : FnOk P w K mg base CX0 11 f fd ["table", "inputs", "case"] (spForces K c) := by
  obtain ⟨f1, d1, G1, b1, m1⟩ := M1
  obtain ⟨f2, d2, G2, b2, k2, g2⟩ := F1
  obtain ⟨f3, d3, G3, b3, k3, g3⟩ := F2
  obtain ⟨f4, d4, G4, b4, m4⟩ := M2
  refine F.ok scForces (fun vs H Q E h => ?_) (fun cdv A outer s H vs Q E hr h => ?_)
  · obtain ⟨S, t, ca, h, cs, s, rfl, _⟩ := h
    rfl
  · obtain ⟨S, t, ca, h, cs, s, rfl, TA, ok, hca, kk⟩ := h
    obtain ⟨a, b, ra, TB⟩ := id TA
    obtain ⟨dt, ht⟩ := TB.ins
    obtain ⟨t5, e5⟩ := T.i5
    have h10 := ok.ten
    have hr1 : Room 1 _ := hr.mono (by decide)
    have hr5 : Room 5 _ := hr.mono (by decide)
    refine ⟨_, pss_cons (ps_if (PW.pt (pw_or (pt_not (pt_val (pe_meth (pv 0) T.clT m1 G1 hr1 b1 .nil pass0 (pa_cons (pv 2) pa_nil)))) (pw_or1 (pt_cmpR op_gt (pv 1) (pe_call G2 hr1 rfl g2 k2 b2 .nil pass0 (pa_cons (pv 2) pa_nil)) (nomark _)))))
        (pss_one (ps_ret (pe_lst (pa_cons (pe_glob (v := .int (-22)) rfl e5 ⟨t5, rfl⟩) pa_nil)))) pss_nil)
      (pss_cons (ps_set (i := 3) scForces.nd rfl (Or.inl rfl) (pe_meth (pe_call G3 hr5 rfl g3 k3 b3 .nil pass0 (pa_cons (pv 0) (pa_cons (pv 2) pa_nil))) T.clS m4 G4 hr b4 .nil pass0 (pa_cons (pe_op op_sub (pe_call G2 hr1 rfl g2 k2 b2 .nil pass0 (pa_cons (pv 2) pa_nil)) (pv 1)) pa_nil)))
      (pss_cons (ps_if (pt_cmp (pc_isN (pv 3))) (pss_one (ps_ret (pe_lst (pa_cons pe_int pa_nil)))) pss_nil)
      (pss_one (ps_ret (pe_op op_cat (pe_lst (pa_cons pe_int pa_nil)) (pv 3)))))), ?_⟩
    have bad : (Kp208.good h cs = false ∨ 2 ^ h.tops.length - 1 < s) → ∀ H1, Same H H1 → 1 ≤ sizeLine ∧ ∀ p, H1 p = none → Q (.ref p) (upd H1 p (.lst [.int (-22)])) := fun z H1 sm => ⟨one_line, fun p hp => by
      refine kk _ p (sm.trans (same_upd hp)).keeps ⟨sm.keeps.free hp, ?_⟩
      unfold MA.ansForces
      rw [upd_same, if_pos z]
      rfl⟩
    refine ⟨_, rfl, t, dt, _, rfl, ht, rfl, _, rfl, S, t, ca, h, cs, rfl, TA, hca, fun H1 sm1 => ⟨_, rfl, ?_⟩⟩
    cases hg : Kp208.good h cs with
    | false => exact iteT (iteT (bad (.inl hg) H1 sm1))
    | true =>
      refine iteF ?_
      have hc := MA.good_iff.mp hg
      have hcl : cs.length ≤ 4 := by rw [hc.1]; exact ok.four
      refine ⟨_, rfl, _, rfl, ca, cs, rfl, sm1.seq hca, by omega, fun H2 sm2 => ⟨_, _, rfl, rfl, _, rfl, ?_⟩⟩
      have sm12 := sm1.trans sm2
      have hp := Nat.two_pow_pos cs.length
      refine ite2 (fun h1 => ?_) (fun h1 => ?_)
      · exact bad (.inr (by have z := of_decide_eq_true h1; rw [← hc.1]; omega)) H2 sm12
      have z1 : ¬ ((2 ^ cs.length - 1 : Nat) : Int) < (s : Int) := fun z => h1 (decide_eq_true z)
      refine ⟨_, rfl, _, rfl, S, t, ca, h, cs, rfl, TA.keep sm12.keeps.kp, ok, hg, sm12.seq hca, fun H3 q B wt sm3 SR hw hwf => ?_⟩
      have sm13 := sm12.trans sm3
      refine ⟨q, B.dx, _, rfl, SR.ins, rfl, _, rfl, ca, cs, rfl, sm13.seq hca, by omega, fun H4 sm4 => ⟨_, rfl, _, _, rfl, rfl, ?_⟩⟩
      have SR4 := SR.same sm4
      refine ⟨q, B, h, cs, wt, [], 2 ^ cs.length - 1 - s, MA.otherW h cs, ?_, SR4, h10, hw, hcl, hwf, fun H5 v es5 kp5 SR5 _ ov => ?_⟩
      · show [V.ref q, V.int (((2 ^ cs.length - 1 : Nat) : Int) - (s : Int))] = [V.ref q, V.int ((2 ^ cs.length - 1 - s : Nat) : Int)]
        rw [icast_sub (Int.ofNat_le.mp (Int.not_lt.mp z1))]
      have KP : Keeps H H5 := (sm13.trans sm4).keeps.trans kp5
      have ans : MA.ansForces h s cs = match MA.earliest h.rules h.tops cs (MA.otherW h cs) (2 ^ cs.length - 1 - s) with
          | none => [1]
          | some y => 0 :: MA.I y := by
        unfold MA.ansForces
        rw [if_neg (by rw [hg, ← hc.1]; rintro (z | z); cases z; omega), ← hc.1]
        all_goals (cases MA.earliest h.rules h.tops cs (MA.otherW h cs) (2 ^ cs.length - 1 - s) <;> rfl)
      refine ⟨_, rfl, _, rfl, ?_⟩
      cases hs : MA.earliest h.rules h.tops cs (MA.otherW h cs) (2 ^ cs.length - 1 - s) with
      | none =>
        rw [hs] at ov ans
        have ev : v = .non := ov
        subst ev
        refine iteT ⟨one_line, fun p hp => kk _ p (KP.trans (same_upd hp).keeps) ⟨KP.free hp, ?_⟩⟩
        rw [upd_same, ans]
        rfl
      | some y =>
        rw [hs] at ov ans
        obtain ⟨pn, rfl, hpn⟩ := ov
        have hyl := ear_len hs
        refine iteF ⟨one_line, fun l1 hl1 => ?_⟩
        have sm6 : Same H5 (upd H5 l1 (.lst [.int 0])) := same_upd hl1
        refine ⟨_, rfl, l1, pn, _, _, rfl, rfl, upd_same, sm6 _ _ hpn, ?_, fun l2 hl2 => ?_⟩
        · rw [natL_len]
          exact few_line (by show 1 + _ ≤ _; omega)
        have sm7 := sm6.trans (same_upd (o := .lst ([V.int 0] ++ natL y)) hl2)
        refine kk _ l2 (KP.trans sm7.keeps) ⟨KP.free (sm6.free hl2), ?_⟩
        rw [upd_same, ans]
        show _ = some (HO.lst (V.int 0 :: (MA.I y).map V.int))
        rw [I_natL]
        rfl
end
end WD
end
section
set_option Elab.async false
set_option linter.all false
set_option maxRecDepth 100000
set_option maxHeartbeats 4000000
namespace WD
open PySem PySem.Spec PyProof.Rows L2 X3
open Kp205 (Bound Rule)
open PK (PKey)
theorem sets_len : ∀ n : Nat, n < 5 → (MA.setsN n).length ≤ 16 := by decide +kernel
theorem least_len (ss : List Nat) : (MA.leastOf ss).length ≤ ss.length := by
  have := acc_len ss ss.length
  unfold accTo at this
  rw [List.take_length] at this
  exact this
theorem filter_snoc {l : List Nat} {i s : Nat} (p : Nat → Bool) (h : l[i]? = some s) : (l.take (i + 1)).filter p = (l.take i).filter p ++ if p s then [s] else [] := by
  rw [take_snoc h, List.filter_append]
  congr 1
  by_cases q : p s = true
  · simp [q]
  · simp [q]
theorem SrIs.put {P : Program} {w : World} {K : PySem.W.Frag} {c : Ad} {H4 H : Hp} {q D : Addr} {B : Sa} {h : Kp208.House} {cs : List Nat} {wt : List Bool} {es4 es : List Ent} {l l' : List V} (x4 : SrIs P w K c H4 q B h cs wt es4) (x : SrIs P w K c H q B h cs wt es) (hD4 : H4 D = none) (hD : H D = some (.lst l))
    (kp : Keeps H4 H) (n : ∀ y ∈ es, valW y.2.2 ≠ .ref D) : SrIs P w K c (upd H D (.lst l')) q B h cs wt es ∧ Keeps H4 (upd H D (.lst l')) := by
  have kp' : Keeps H4 (upd H D (.lst l')) := fun b o e no => by
    rw [upd_ne (ne_of_none e hD4)]
    exact kp b o e no
  refine ⟨x4.keep kp' ⟨?_, fun y hy => ?_⟩ ⟨x.mem.nd, fun y hy => ?_⟩, kp'⟩
  · rw [upd_ne (ne_of x.kno.obj hD (fun z => nomatch z))]
    exact x.kno.obj
  · obtain ⟨ft, e1, e2⟩ := x.kno.keys y hy
    exact ⟨ft, by rw [upd_ne (ne_of e1 hD (fun z => nomatch z))]; exact e1, by rw [upd_ne (ne_of e2 hD (fun z => nomatch z))]; exact e2⟩
  · obtain ⟨fs, left, e1, e2, e3, e4⟩ := x.mem.each y hy
    refine ⟨fs, left, e1, e2, e3, ?_⟩
    cases hr : sr h wt fs left with
    | none =>
      rw [hr] at e4
      exact e4
    | some ns =>
      rw [hr] at e4
      obtain ⟨p, e5, e6⟩ := e4
      refine ⟨p, e5, ?_⟩
      rw [upd_ne fun z => n y hy (by rw [e5, z])]
      exact e6
inductive RList (K : PySem.W.Frag) (c : Ad) (ans : Kp208.House → List Nat → List Int) (vs : List V) (H : Hp) (Q : VK) : Prop
  | mk (S : Addr → Prop) (t ca : Addr) (h : Kp208.House) (cs : List Nat) (h0 : vs = [.ref t, .ref ca]) (h1 : TabAt c S H t h) (h2 : MA.OkH h) (h3 : SqL K H ca (natL cs)) (h4 : ∀ (H' : Hp) (q : Addr), Keeps H H' → ToldK H H' q (ans h cs) → Q (.ref q) H') : RList K c ans vs H Q
noncomputable def spList (K : PySem.W.Frag) (c : Ad) (ans : Kp208.House → List Nat → List Int) : Sp := fun vs H Q _ => RList K c ans vs H Q
section
variable {P : Program} {w : World} {K : PySem.W.Frag} {mg : Str → Option Value} {base : Heap} {c : Ad} {f : Addr} {fd : FuncData}
noncomputable abbrev nReasons : List Str := ["table", "case", "search", "every", "inputs", "reasons"]
theorem scReasons : FnScope nReasons ["table", "case"] (defScope sReasons) := ⟨rfl, rfl, rfl, by decide +kernel, rfl, by decide +kernel, by decide +kernel⟩
theorem blkReasons : BlkOk nReasons (defScope sReasons) (compSc [(".0", .local), ("inputs", .local), ("every", .free), ("search", .free)]) [("inputs", 4)] := blkOk_by (by decide +kernel)
theorem ok_reasons (F : Fun K "all_reasons" "all_reasons" sReasons f fd) (T : Txt K mg c) (M1 : MOk P w K mg base c.T "is_case" 1 ["self", "case"] (spCase K c)) (F1 : FOk P w K mg base "all_inputs" 1 ["case"] (spAllIn K)) (F2 : FOk P w K mg base "search_otherwise" 5 ["table", "case"] (spOther P w K c))
    (M2 : MOk P w K mg base c.S "earliest" 10 ["self", "free_bits"] (spEar P w K c)) (F3 : FOk P w K mg base "sets_in_order" 4 ["case"] (spSets K)) (F4 : FOk P w K mg base "least" 1 ["sets"] spLeast) : FnOk P w K mg base CX0 11 f fd ["table", "case"] (spList K c MA.ansReasons) := by
  obtain ⟨f1, d1, G1, b1, m1⟩ := M1
  obtain ⟨f2, d2, G2, b2, k2, g2⟩ := F1
  obtain ⟨f3, d3, G3, b3, k3, g3⟩ := F2
  obtain ⟨f4, d4, G4, b4, m4⟩ := M2
  obtain ⟨f5, d5, G5, b5, k5, g5⟩ := F3
  obtain ⟨f6, d6, G6, b6, k6, g6⟩ := F4
  refine F.ok scReasons (fun vs H Q E h => ?_) (fun cdv A outer s H vs Q E hr h => ?_)
  · obtain ⟨S, t, ca, h, cs, rfl, _⟩ := h
    rfl
  · obtain ⟨S, t, ca, h, cs, rfl, TA, ok, hca, kk⟩ := h
    obtain ⟨a, b, ra, TB⟩ := id TA
    obtain ⟨dt, ht⟩ := TB.ins
    obtain ⟨t5, e5⟩ := T.i5
    have h10 := ok.ten
    have hr1 : Room 1 _ := hr.mono (by decide)
    have hr4 : Room 4 _ := hr.mono (by decide)
    have hr5 : Room 5 _ := hr.mono (by decide)
    refine ⟨_, pss_cons (ps_if (pt_not (pt_val (pe_meth (pv 0) T.clT m1 G1 hr1 b1 .nil pass0 (pa_cons (pv 1) pa_nil)))) (pss_one (ps_ret (pe_lst (pa_cons (pe_glob (v := .int (-22)) rfl e5 ⟨t5, rfl⟩) pa_nil)))) pss_nil)
      (pss_cons (ps_set (i := 2) scReasons.nd rfl (Or.inr rfl) (pe_call G3 hr5 rfl g3 k3 b3 .nil pass0 (pa_cons (pv 0) (pa_cons (pv 1) pa_nil))))
      (pss_cons (ps_set (i := 3) scReasons.nd rfl (Or.inr rfl) (pe_call G2 hr1 rfl g2 k2 b2 .nil pass0 (pa_cons (pv 1) pa_nil)))
      (pss_cons (ps_set (i := 5) scReasons.nd rfl (Or.inl rfl) (pe_call G6 hr1 rfl g6 k6 b6 .nil pass0 (pa_cons (pe_lc rfl scReasons.nd (pi_list (pe_call G5 hr4 rfl g5 k5 b5 .nil pass0 (pa_cons (pv 1) pa_nil))) blkReasons
        (fun _ _ _ _ _ => pg_name (i := 4) scReasons.nd rfl (Or.inl rfl)) (fun _ _ _ _ _ => pts_one (pt_cmp (pc_isN (pe_meth (pv 2) T.clS m4 G4 hr b4 .nil pass0 (pa_cons (pe_op op_sub (pv 3) (pv 4)) pa_nil))))) (fun _ _ _ _ _ => pv 4)) pa_nil)))
      (pss_one (ps_ret (pe_op op_cat (pe_lst (pa_cons (pe_callB call_len_seq (by rfl) T.len PySem.boot_len (pa_cons (pv 5) pa_nil)) pa_nil)) (pv 5))))))), ?_⟩
    refine ⟨_, rfl, t, dt, _, rfl, ht, rfl, _, rfl, S, t, ca, h, cs, rfl, TA, hca, fun H1 sm1 => ⟨_, rfl, ?_⟩⟩
    cases hg : Kp208.good h cs with
    | false =>
      refine iteT ⟨one_line, fun p hp => kk _ p (sm1.trans (same_upd hp)).keeps ⟨sm1.keeps.free hp, ?_⟩⟩
      unfold MA.ansReasons
      rw [upd_same, if_pos hg]
      rfl
    | true =>
      refine iteF ?_
      have hc := MA.good_iff.mp hg
      have hcl : cs.length ≤ 4 := by rw [hc.1]; exact ok.four
      have hsl := sets_len cs.length (by omega)
      have ans : MA.ansReasons h cs = ((MA.leastOf ((MA.setsN cs.length).filter fun s => (MA.earliest h.rules h.tops cs (MA.otherW h cs) (2 ^ cs.length - 1 - s)).isNone)).length : Int) :: MA.I (MA.leastOf ((MA.setsN cs.length).filter fun s => (MA.earliest h.rules h.tops cs (MA.otherW h cs) (2 ^ cs.length - 1 - s)).isNone)) := by
        unfold MA.ansReasons
        rw [if_neg (by rw [hg]; exact fun z => nomatch z), ← hc.1]
      generalize hpp : (fun s => (MA.earliest h.rules h.tops cs (MA.otherW h cs) (2 ^ cs.length - 1 - s)).isNone) = pp at ans
      refine ⟨_, rfl, _, rfl, S, t, ca, h, cs, rfl, TA.keep sm1.keeps.kp, ok, hg, sm1.seq hca, fun H2 q B wt sm2 SR hw hwf => ?_⟩
      have sm12 := sm1.trans sm2
      refine ⟨_, rfl, ca, cs, rfl, sm12.seq hca, by omega, fun H3 sm3 => ?_⟩
      have sm13 := sm12.trans sm3
      refine ⟨_, rfl, ca, cs, rfl, sm13.seq hca, hcl, fun H4 q4 sm4 hq4 hq4' => ?_⟩
      have sm14 := sm13.trans sm4
      have SR4 := (SR.same sm3).same sm4
      refine ⟨q4, rfl, ⟨_, SqL.of hq4'⟩, fun D hD => ?_⟩
      refine lc_list (K := K) (xs := natL (MA.setsN cs.length)) (fun i H' => Keeps H4 H' ∧ (∃ es', SrIs P w K c H' q B h cs wt es' ∧ ∀ y ∈ es', valW y.2.2 ≠ .ref D) ∧ H' D = some (.lst (natL (((MA.setsN cs.length).take i).filter pp)))) ⟨(same_upd hD).keeps, ⟨[], SR4.same (same_upd hD), fun y hy => by cases hy⟩, upd_same⟩ (fun i H' _ z => SqL.of (z.1 _ _ hq4' rfl)) ?_ ?_
      · rintro i x H' hx ⟨kp, ⟨es', SR', nD⟩, hD'⟩
        obtain ⟨n, hn, rfl⟩ := natL_get hx
        have hi := (List.getElem?_eq_some_iff.mp hn).1
        have hnl := MA.mem_setsN (List.mem_of_getElem? hn)
        have hfs := filter_snoc pp hn
        refine ⟨rfl, ?_⟩
        refine ⟨_, rfl, q, B.dx, _, rfl, SR'.ins, rfl, _, rfl, _, rfl, _, _, rfl, rfl, q, B, h, cs, wt, es', 2 ^ cs.length - 1 - n, MA.otherW h cs, ?_, SR', h10, hw, hcl, hwf, fun H5 v es5 kp5 SR5 mn5 ov => ⟨_, rfl, ?_⟩⟩
        · show [V.ref q, V.int (((2 ^ cs.length - 1 : Nat) : Int) - (n : Int))] = [V.ref q, V.int ((2 ^ cs.length - 1 - n : Nat) : Int)]
          rw [icast_sub (Nat.le_sub_one_of_lt hnl)]
        have hD5 := kp5 _ _ hD' rfl
        have nD5 : ∀ y ∈ es5, valW y.2.2 ≠ .ref D := fun y hy z => by
          rcases mn5 y hy with hy | hy
          · exact nD y hy z
          · have := hy D z _ hD'
            cases this
        have epp : pp n = (MA.earliest h.rules h.tops cs (MA.otherW h cs) (2 ^ cs.length - 1 - n)).isNone := by rw [← hpp]
        cases hs : MA.earliest h.rules h.tops cs (MA.otherW h cs) (2 ^ cs.length - 1 - n) with
        | none =>
          rw [hs] at ov epp
          have ev : v = .non := ov
          subst ev
          rw [epp, if_pos (by rfl)] at hfs
          have PU := SrIs.put (l' := natL (((MA.setsN cs.length).take i).filter pp) ++ [.int (n : Nat)]) SR4 SR5 hD hD5 (kp.trans kp5) nD5
          refine iteT ⟨_, rfl, _, hD5, ?_, PU.2, ⟨es5, PU.1, nD5⟩, ?_⟩
          · rw [natL_len]
            have := List.length_filter_le pp ((MA.setsN cs.length).take i)
            rw [List.length_take] at this
            exact few_lt (by omega)
          · rw [upd_same, hfs]
            unfold natL
            rw [List.map_append]
            rfl
        | some y =>
          rw [hs] at ov epp
          obtain ⟨pn, rfl, _⟩ := ov
          rw [epp, if_neg (by exact fun z => nomatch z), List.append_nil] at hfs
          refine iteF ⟨kp.trans kp5, ⟨es5, SR5, nD5⟩, ?_⟩
          rw [hfs]
          exact hD5
      · rintro H5 ⟨kp5, _, hD5⟩
        rw [natL_len, List.take_length] at hD5
        have hfl := List.length_filter_le pp (MA.setsN cs.length)
        refine ⟨D, _, rfl, hD5, by omega, fun H6 q6 sm6 hq6 hq6' => ?_⟩
        have KP : Keeps H H6 := (sm14.keeps.trans kp5).trans sm6.keeps
        have hll := least_len ((MA.setsN cs.length).filter pp)
        refine ⟨_, rfl, q6, _, rfl, .inl (SqL.of hq6'), one_line, fun l1 hl1 => ?_⟩
        have sm7 := same_upd (o := .lst [.int ((natL (MA.leastOf ((MA.setsN cs.length).filter pp))).length : Nat)]) hl1
        refine ⟨_, rfl, l1, q6, _, _, rfl, rfl, upd_same, sm7 _ _ hq6', ?_, fun l2 hl2 => ?_⟩
        · rw [natL_len]
          exact few_line (by show 1 + _ ≤ _; omega)
        refine kk _ l2 (KP.trans (sm7.trans (same_upd hl2)).keeps) ⟨KP.free (sm7.free hl2), ?_⟩
        rw [upd_same, ans, natL_len]
        show _ = some (HO.lst (V.int _ :: (MA.I (MA.leastOf ((MA.setsN cs.length).filter pp))).map V.int))
        rw [I_natL]
        rfl
end
end WD
end
section
set_option Elab.async false
set_option linter.all false
set_option maxRecDepth 100000
set_option maxHeartbeats 4000000
namespace WD
open PySem PySem.Spec PyProof.Rows L2 X3
open Kp205 (Bound Rule)
open PK (PKey)
section
variable {P : Program} {w : World} {K : PySem.W.Frag} {mg : Str → Option Value} {base : Heap} {c : Ad} {f : Addr} {fd : FuncData}
noncomputable abbrev nContrasts : List Str := ["table", "case", "search", "inputs", "contrasts"]
theorem scContrasts : FnScope nContrasts ["table", "case"] (defScope sContrasts) := ⟨rfl, rfl, rfl, by decide +kernel, rfl, by decide +kernel, by decide +kernel⟩
theorem blkContrasts : BlkOk nContrasts (defScope sContrasts) (compSc [(".0", .local), ("inputs", .local), ("search", .free)]) [("inputs", 3)] := blkOk_by (by decide +kernel)
theorem ok_contrasts (F : Fun K "all_contrasts" "all_contrasts" sContrasts f fd) (T : Txt K mg c) (M1 : MOk P w K mg base c.T "is_case" 1 ["self", "case"] (spCase K c)) (F2 : FOk P w K mg base "search_otherwise" 5 ["table", "case"] (spOther P w K c))
    (M2 : MOk P w K mg base c.S "earliest" 10 ["self", "free_bits"] (spEar P w K c)) (F3 : FOk P w K mg base "sets_in_order" 4 ["case"] (spSets K)) (F4 : FOk P w K mg base "least" 1 ["sets"] spLeast) : FnOk P w K mg base CX0 11 f fd ["table", "case"] (spList K c MA.ansContrasts) := by
  obtain ⟨f1, d1, G1, b1, m1⟩ := M1
  obtain ⟨f3, d3, G3, b3, k3, g3⟩ := F2
  obtain ⟨f4, d4, G4, b4, m4⟩ := M2
  obtain ⟨f5, d5, G5, b5, k5, g5⟩ := F3
  obtain ⟨f6, d6, G6, b6, k6, g6⟩ := F4
  refine F.ok scContrasts (fun vs H Q E h => ?_) (fun cdv A outer s H vs Q E hr h => ?_)
  · obtain ⟨S, t, ca, h, cs, rfl, _⟩ := h
    rfl
  · obtain ⟨S, t, ca, h, cs, rfl, TA, ok, hca, kk⟩ := h
    obtain ⟨a, b, ra, TB⟩ := id TA
    obtain ⟨dt, ht⟩ := TB.ins
    obtain ⟨t5, e5⟩ := T.i5
    have h10 := ok.ten
    have hr1 : Room 1 _ := hr.mono (by decide)
    have hr4 : Room 4 _ := hr.mono (by decide)
    have hr5 : Room 5 _ := hr.mono (by decide)
    refine ⟨_, pss_cons (ps_if (pt_not (pt_val (pe_meth (pv 0) T.clT m1 G1 hr1 b1 .nil pass0 (pa_cons (pv 1) pa_nil)))) (pss_one (ps_ret (pe_lst (pa_cons (pe_glob (v := .int (-22)) rfl e5 ⟨t5, rfl⟩) pa_nil)))) pss_nil)
      (pss_cons (ps_set (i := 2) scContrasts.nd rfl (Or.inr rfl) (pe_call G3 hr5 rfl g3 k3 b3 .nil pass0 (pa_cons (pv 0) (pa_cons (pv 1) pa_nil))))
      (pss_cons (ps_set (i := 4) scContrasts.nd rfl (Or.inl rfl) (pe_call G6 hr1 rfl g6 k6 b6 .nil pass0 (pa_cons (pe_lc rfl scContrasts.nd (pi_list (pe_call G5 hr4 rfl g5 k5 b5 .nil pass0 (pa_cons (pv 1) pa_nil))) blkContrasts
        (fun _ _ _ _ _ => pg_name (i := 3) scContrasts.nd rfl (Or.inl rfl)) (fun _ _ _ _ _ => pts_one (pt_cmp (pc_notN (pe_meth (pv 2) T.clS m4 G4 hr b4 .nil pass0 (pa_cons (pv 3) pa_nil))))) (fun _ _ _ _ _ => pv 3)) pa_nil)))
      (pss_one (ps_ret (pe_op op_cat (pe_lst (pa_cons (pe_callB call_len_seq (by rfl) T.len PySem.boot_len (pa_cons (pv 4) pa_nil)) pa_nil)) (pv 4)))))), ?_⟩
    refine ⟨_, rfl, t, dt, _, rfl, ht, rfl, _, rfl, S, t, ca, h, cs, rfl, TA, hca, fun H1 sm1 => ⟨_, rfl, ?_⟩⟩
    cases hg : Kp208.good h cs with
    | false =>
      refine iteT ⟨one_line, fun p hp => kk _ p (sm1.trans (same_upd hp)).keeps ⟨sm1.keeps.free hp, ?_⟩⟩
      unfold MA.ansContrasts
      rw [upd_same, if_pos hg]
      rfl
    | true =>
      refine iteF ?_
      have hc := MA.good_iff.mp hg
      have hcl : cs.length ≤ 4 := by rw [hc.1]; exact ok.four
      have hsl := sets_len cs.length (by omega)
      have ans : MA.ansContrasts h cs = ((MA.leastOf ((MA.setsN cs.length).filter fun s => (MA.earliest h.rules h.tops cs (MA.otherW h cs) s).isSome)).length : Int) :: MA.I (MA.leastOf ((MA.setsN cs.length).filter fun s => (MA.earliest h.rules h.tops cs (MA.otherW h cs) s).isSome)) := by
        unfold MA.ansContrasts
        rw [if_neg (by rw [hg]; exact fun z => nomatch z), ← hc.1]
      generalize hpp : (fun s => (MA.earliest h.rules h.tops cs (MA.otherW h cs) s).isSome) = pp at ans
      refine ⟨_, rfl, _, rfl, S, t, ca, h, cs, rfl, TA.keep sm1.keeps.kp, ok, hg, sm1.seq hca, fun H2 q B wt sm2 SR hw hwf => ?_⟩
      have sm12 := sm1.trans sm2
      refine ⟨_, rfl, ca, cs, rfl, sm12.seq hca, hcl, fun H4 q4 sm4 hq4 hq4' => ?_⟩
      have sm14 := sm12.trans sm4
      have SR4 := SR.same sm4
      refine ⟨q4, rfl, ⟨_, SqL.of hq4'⟩, fun D hD => ?_⟩
      refine lc_list (K := K) (xs := natL (MA.setsN cs.length)) (fun i H' => Keeps H4 H' ∧ (∃ es', SrIs P w K c H' q B h cs wt es' ∧ ∀ y ∈ es', valW y.2.2 ≠ .ref D) ∧ H' D = some (.lst (natL (((MA.setsN cs.length).take i).filter pp)))) ⟨(same_upd hD).keeps, ⟨[], SR4.same (same_upd hD), fun y hy => by cases hy⟩, upd_same⟩ (fun i H' _ z => SqL.of (z.1 _ _ hq4' rfl)) ?_ ?_
      · rintro i x H' hx ⟨kp, ⟨es', SR', nD⟩, hD'⟩
        obtain ⟨n, hn, rfl⟩ := natL_get hx
        have hi := (List.getElem?_eq_some_iff.mp hn).1
        have hnl := MA.mem_setsN (List.mem_of_getElem? hn)
        have hfs := filter_snoc pp hn
        refine ⟨rfl, ?_⟩
        refine ⟨_, rfl, q, B.dx, _, rfl, SR'.ins, rfl, _, rfl, q, B, h, cs, wt, es', n, MA.otherW h cs, rfl, SR', h10, hw, hcl, hwf, fun H5 v es5 kp5 SR5 mn5 ov => ⟨_, rfl, ?_⟩⟩
        have hD5 := kp5 _ _ hD' rfl
        have nD5 : ∀ y ∈ es5, valW y.2.2 ≠ .ref D := fun y hy z => by
          rcases mn5 y hy with hy | hy
          · exact nD y hy z
          · have := hy D z _ hD'
            cases this
        have epp : pp n = (MA.earliest h.rules h.tops cs (MA.otherW h cs) n).isSome := by rw [← hpp]
        cases hs : MA.earliest h.rules h.tops cs (MA.otherW h cs) n with
        | some y =>
          rw [hs] at ov epp
          obtain ⟨pn, rfl, _⟩ := ov
          rw [epp, if_pos (by rfl)] at hfs
          have PU := SrIs.put (l' := natL (((MA.setsN cs.length).take i).filter pp) ++ [.int (n : Nat)]) SR4 SR5 hD hD5 (kp.trans kp5) nD5
          refine iteT ⟨_, rfl, _, hD5, ?_, PU.2, ⟨es5, PU.1, nD5⟩, ?_⟩
          · rw [natL_len]
            have := List.length_filter_le pp ((MA.setsN cs.length).take i)
            rw [List.length_take] at this
            exact few_lt (by omega)
          · rw [upd_same, hfs]
            unfold natL
            rw [List.map_append]
            rfl
        | none =>
          rw [hs] at ov epp
          have ev : v = .non := ov
          subst ev
          rw [epp, if_neg (by exact fun z => nomatch z), List.append_nil] at hfs
          refine iteF ⟨kp.trans kp5, ⟨es5, SR5, nD5⟩, ?_⟩
          rw [hfs]
          exact hD5
      · rintro H5 ⟨kp5, _, hD5⟩
        rw [natL_len, List.take_length] at hD5
        have hfl := List.length_filter_le pp (MA.setsN cs.length)
        refine ⟨D, _, rfl, hD5, by omega, fun H6 q6 sm6 hq6 hq6' => ?_⟩
        have KP : Keeps H H6 := (sm14.keeps.trans kp5).trans sm6.keeps
        have hll := least_len ((MA.setsN cs.length).filter pp)
        refine ⟨_, rfl, q6, _, rfl, .inl (SqL.of hq6'), one_line, fun l1 hl1 => ?_⟩
        have sm7 := same_upd (o := .lst [.int ((natL (MA.leastOf ((MA.setsN cs.length).filter pp))).length : Nat)]) hl1
        refine ⟨_, rfl, l1, q6, _, _, rfl, rfl, upd_same, sm7 _ _ hq6', ?_, fun l2 hl2 => ?_⟩
        · rw [natL_len]
          exact few_line (by show 1 + _ ≤ _; omega)
        refine kk _ l2 (KP.trans (sm7.trans (same_upd hl2)).keeps) ⟨KP.free (sm7.free hl2), ?_⟩
        rw [upd_same, ans, natL_len]
        show _ = some (HO.lst (V.int _ :: (MA.I (MA.leastOf ((MA.setsN cs.length).filter pp))).map V.int))
        rw [I_natL]
        rfl
end
end WD
end
section
set_option Elab.async false
set_option linter.all false
set_option maxRecDepth 100000
set_option maxHeartbeats 4000000
namespace WD
open PySem PySem.Spec PyProof.Rows L2 X3
open Kp205 (Bound Rule)
open PK (PKey)
theorem some_at {α : Type} {g : Nat → Option α} {y : α} : ∀ {l : List Nat} {i s : Nat}, (∀ (j x : Nat), j < i → l[j]? = some x → g x = none) → l[i]? = some s → g s = some y → l.findSome? g = some y
  | [], _, _, _, h, _ => by simp at h
  | x :: l, 0, s, _, h, e => by
    have ex : x = s := by simpa using h
    rw [List.findSome?_cons, ex, e]
  | x :: l, i + 1, s, hn, h, e => by
    rw [List.findSome?_cons, hn 0 x (Nat.zero_lt_succ _) rfl]
    exact some_at (i := i) (fun j z hj hz => hn (j + 1) z (by omega) (by simpa using hz)) (by simpa using h) e
theorem some_not {α : Type} {g : Nat → Option α} {l : List Nat} (h : ∀ (j x : Nat), l[j]? = some x → g x = none) : l.findSome? g = none := by
  rw [List.findSome?_eq_none_iff]
  intro x hx
  obtain ⟨j, hj⟩ := List.mem_iff_getElem?.mp hx
  exact h j x hj
inductive RWay (K : PySem.W.Frag) (c : Ad) (vs : List V) (H : Hp) (Q : VK) : Prop
  | mk (S : Addr → Prop) (t ca : Addr) (h : Kp208.House) (cs : List Nat) (u : Nat) (h0 : vs = [.ref t, .int (u : Nat), .ref ca]) (h1 : TabAt c S H t h) (h2 : MA.OkH h) (h3 : SqL K H ca (natL cs)) (h4 : ∀ (H' : Hp) (q : Addr), Keeps H H' → ToldK H H' q (MA.ansWay h u cs) → Q (.ref q) H') : RWay K c vs H Q
noncomputable def spWay (K : PySem.W.Frag) (c : Ad) : Sp := fun vs H Q _ => RWay K c vs H Q
section
variable {P : Program} {w : World} {K : PySem.W.Frag} {mg : Str → Option Value} {base : Heap} {c : Ad} {f : Addr} {fd : FuncData}
noncomputable abbrev nWay : List Str := ["table", "t", "case", "told", "search", "inputs", "found"]
theorem scWay : FnScope nWay ["table", "t", "case"] (defScope sWay) := ⟨rfl, rfl, rfl, by decide +kernel, rfl, by decide +kernel, by decide +kernel⟩
theorem blkWay : BlkOk nWay (defScope sWay) (compSc [(".0", .local), ("told", .local), ("t", .free)]) [("told", 3)] := blkOk_by (by decide +kernel)
theorem ok_way (F : Fun K "way" "way" sWay f fd) (T : Txt K mg c) (M1 : MOk P w K mg base c.T "is_case" 1 ["self", "case"] (spCase K c)) (M3 : MOk P w K mg base c.T "told_by_each" 1 ["self"] (spToldEach c)) (C1 : COk P w K mg base "Search" c.S 3 ["self", "table", "case", "wanted"] (spSI P w K c))
    (M2 : MOk P w K mg base c.S "earliest" 10 ["self", "free_bits"] (spEar P w K c)) (F3 : FOk P w K mg base "sets_in_order" 4 ["case"] (spSets K)) (F4 : FOk P w K mg base "size_of" 1 ["inputs"] spSize) : FnOk P w K mg base CX0 11 f fd ["table", "t", "case"] (spWay K c) := by
  obtain ⟨f1, d1, G1, b1, m1⟩ := M1
  obtain ⟨f2, d2, G2, b2, m2⟩ := M3
  obtain ⟨f3, d3, G3, b3, mk3, g3⟩ := C1
  obtain ⟨f4, d4, G4, b4, m4⟩ := M2
  obtain ⟨f5, d5, G5, b5, k5, g5⟩ := F3
  obtain ⟨f6, d6, G6, b6, k6, g6⟩ := F4
  refine F.ok scWay (fun vs H Q E h => ?_) (fun cdv A outer s H vs Q E hr h => ?_)
  · obtain ⟨S, t, ca, h, cs, u, rfl, _⟩ := h
    rfl
  · obtain ⟨S, t, ca, h, cs, u, rfl, TA, ok, hca, kk⟩ := h
    obtain ⟨a, b, ra, TB⟩ := id TA
    obtain ⟨dt, ht⟩ := TB.ins
    obtain ⟨t5, e5⟩ := T.i5
    obtain ⟨t15, e15⟩ := T.i15
    obtain ⟨t16, e16⟩ := T.i16
    have h10 := ok.ten
    have hr1 : Room 1 _ := hr.mono (by decide)
    have hr4 : Room 4 _ := hr.mono (by decide)
    refine ⟨_, pss_cons (ps_if (PW.pt (pw_or (pt_not (pt_val (pe_meth (pv 0) T.clT m1 G1 hr1 b1 .nil pass0 (pa_cons (pv 2) pa_nil)))) (pw_or1 (pt_cmpR op_gt (pv 1) (pe_glob (v := .int 256) rfl e15 ⟨t15, rfl⟩) (nomark _)))))
        (pss_one (ps_ret (pe_lst (pa_cons (pe_glob (v := .int (-22)) rfl e5 ⟨t5, rfl⟩) pa_nil)))) pss_nil)
      (pss_cons (ps_set (i := 4) scWay.nd rfl (Or.inl rfl) (pe_make mk3 G3 hr4 rfl g3 b3 .nil pass0 (pa_cons (pv 0) (pa_cons (pv 2) (pa_cons (pe_lc rfl scWay.nd (pi_list (pe_meth0 (pv 0) T.clT m2 G2 hr1 b2 .nil pass0)) blkWay
        (fun _ _ _ _ _ => pg_name (i := 3) scWay.nd rfl (Or.inl rfl)) (fun _ _ _ _ _ => pts_nil) (fun _ _ _ _ _ => pe_cmpR op_eq (pv 3) (pv 1) (nomark _))) pa_nil)))))
      (pss_cons (ps_for PassesOwn.never rfl (pi_list (pe_call G5 hr4 rfl g5 k5 b5 .nil pass0 (pa_cons (pv 2) pa_nil))) (pg_name (i := 5) scWay.nd rfl (Or.inl rfl))
        (pss_cons (ps_set (i := 6) scWay.nd rfl (Or.inl rfl) (pe_meth (pv 4) T.clS m4 G4 hr b4 .nil pass0 (pa_cons (pv 5) pa_nil)))
        (pss_one (ps_if (pt_cmp (pc_notN (pv 6))) (pss_one (ps_ret (pe_op op_cat (pe_lst (pa_cons (pe_call G6 hr1 rfl g6 k6 b6 .nil pass0 (pa_cons (pv 5) pa_nil)) (pa_cons (pv 5) pa_nil))) (pv 6)))) pss_nil))))
      (pss_one (ps_ret (pe_lst (pa_cons (pe_glob (v := .int (-33)) rfl e16 ⟨t16, rfl⟩) pa_nil)))))), ?_⟩
    have bad : (Kp208.good h cs = false ∨ 256 < u) → ∀ H1, Same H H1 → 1 ≤ sizeLine ∧ ∀ p, H1 p = none → Q (.ref p) (upd H1 p (.lst [.int (-22)])) := fun z H1 sm => ⟨one_line, fun p hp => by
      refine kk _ p (sm.trans (same_upd hp)).keeps ⟨sm.keeps.free hp, ?_⟩
      unfold MA.ansWay
      rw [upd_same, if_pos z]
      rfl⟩
    refine ⟨_, rfl, t, dt, _, rfl, ht, rfl, _, rfl, S, t, ca, h, cs, rfl, TA, hca, fun H1 sm1 => ⟨_, rfl, ?_⟩⟩
    cases hg : Kp208.good h cs with
    | false => exact iteT (iteT (bad (.inl hg) H1 sm1))
    | true =>
      refine iteF ?_
      have hc := MA.good_iff.mp hg
      have hcl : cs.length ≤ 4 := by rw [hc.1]; exact ok.four
      have hp16 : 2 ^ cs.length ≤ 16 := Nat.pow_le_pow_right (n := 2) (by decide) hcl
      refine ⟨_, rfl, _, _, rfl, rfl, _, rfl, ?_⟩
      refine ite2 (fun h1 => ?_) (fun h1 => ?_)
      · exact bad (.inr (by have z := of_decide_eq_true h1; omega)) H1 sm1
      have z1 : ¬ (256 : Int) < (u : Int) := fun z => h1 (decide_eq_true z)
      have ans : MA.ansWay h u cs = match (MA.setsN cs.length).findSome? fun s => (MA.earliest h.rules h.tops cs (MA.wayW h u) s).map fun x => (s, x) with
          | none => [-33]
          | some y => (Kp208.size y.1 : Int) :: (y.1 : Int) :: MA.I y.2 := by
        unfold MA.ansWay
        rw [if_neg (by rw [hg]; rintro (z | z); cases z; omega), ← hc.1]
        all_goals (cases (MA.setsN cs.length).findSome? (fun s => (MA.earliest h.rules h.tops cs (MA.wayW h u) s).map fun x => (s, x)) <;> rfl)
      refine ⟨_, rfl, _, rfl, _, rfl, t, dt, _, rfl, sm1 _ _ ht, rfl, S, t, h, rfl, TA.keep sm1.keeps.kp, h10, fun H2 q2 hq2 hq2' sm2 => ?_⟩
      have sm12 := sm1.trans sm2
      refine ⟨q2, rfl, ⟨_, SqL.of hq2'⟩, fun D hD => ?_⟩
      refine lc_list (K := K) (xs := natL (MA.toldAll h.rules)) (fun i H' => Same H2 H' ∧ H' D = some (.lst (((MA.toldAll h.rules).take i).map fun n => V.bl (n == u)))) ⟨same_upd hD, upd_same⟩ (fun i H' _ z => SqL.of (z.1 _ _ hq2')) ?_ ?_
      · rintro i x H' hx ⟨sm, hD'⟩
        obtain ⟨n, hn, rfl⟩ := natL_get hx
        have hi := (List.getElem?_eq_some_iff.mp hn).1
        rw [told_len] at hi
        refine ⟨rfl, yes_in ?_⟩
        refine ⟨_, rfl, _, rfl, rfl, _, hD', ?_, same_set sm hD, ?_⟩
        · rw [List.length_map, List.length_take]
          exact few_lt (by omega)
        · rw [upd_same, take_snoc hn, List.map_append]
          have e := eq_nat n u
          show some (HO.lst (_ ++ [V.bl (decide (V.int (n : Int) = V.int (u : Int)))])) = _
          rw [e]
          rfl
      · rintro H3 ⟨sm3, hD3⟩
        rw [natL_len, List.take_length] at hD3
        have hD4 : H3 D = some (.lst (((MA.toldAll h.rules).map fun n => n == u).map V.bl)) := by
          rw [hD3, List.map_map]
          rfl
        have SM := sm12.trans sm3
        intro x dx hx hdx hne
        have smx : Same H3 (upd (upd H3 dx (.own x)) x (.ins c.S dx [])) := fun b o e => by
          rw [upd_ne (ne_of_none e hx), upd_ne (ne_of_none e hdx)]
          exact e
        refine ⟨H3, S, x, dx, t, ca, D, h, cs, _, rfl, upd_same, smx, hx, TA.keep SM.keeps.kp, ok, hg, SM.seq hca, hD4, fun H4 B sm4 SR => ⟨rfl, ?_⟩⟩
        have SM4 := SM.trans sm4
        have hwl : ((MA.toldAll h.rules).map fun n => n == u).length = h.rules.length + 1 := by rw [List.length_map, told_len]
        refine ⟨_, rfl, ca, cs, rfl, SM4.seq hca, hcl, fun H5 q5 sm5 hq5 hq5' => ⟨q5, rfl, ⟨_, SqL.of hq5'⟩, ?_⟩⟩
        have SM5 := SM4.trans sm5
        refine for_list (K := K) (xs := natL (MA.setsN cs.length)) (fun i σ H' => Lv3 (fun v3 v5 v6 => [some (.ref t), some (.int (u : Nat)), some (.ref ca), v3, some (.ref x), v5, v6]) (Keeps H5 H') ((∃ es', SrIs P w K c H' x B h cs ((MA.toldAll h.rules).map fun n => n == u) es') ∧
            ∀ j s, j < i → (MA.setsN cs.length)[j]? = some s → MA.earliest h.rules h.tops cs (MA.wayW h u) s = none) σ)
          ⟨_, _, _, rfl, Keeps.refl _, ⟨[], SR.same sm5⟩, fun j _ hj => absurd hj (Nat.not_lt_zero _)⟩ (fun i σ H' _ z => SqL.of (z.p _ _ hq5' rfl)) ?_ ?_
        · rintro i y σ H' hy ⟨v3, v5, v6, rfl, kp, ⟨es', SR'⟩, no⟩
          obtain ⟨n, hn, rfl⟩ := natL_get hy
          have hnl := MA.mem_setsN (List.mem_of_getElem? hn)
          refine ⟨_, rfl, x, B.dx, _, rfl, SR'.ins, rfl, _, rfl, x, B, h, cs, _, es', n, MA.wayW h u, rfl, SR', h10, hwl, hcl, want_of h.rules _, fun H6 v es6 kp6 SR6 _ ov => ?_⟩
          refine ⟨_, rfl, _, rfl, ?_⟩
          cases hs : MA.earliest h.rules h.tops cs (MA.wayW h u) n with
          | none =>
            rw [hs] at ov
            have ev : v = .non := ov
            subst ev
            refine iteF ⟨_, _, _, rfl, kp.trans kp6, ⟨es6, SR6⟩, fun j s hj hjs => ?_⟩
            by_cases hji : j = i
            · subst hji
              rw [hn] at hjs
              cases hjs
              exact hs
            · exact no j s (by omega) hjs
          | some yy =>
            rw [hs] at ov
            obtain ⟨pn, rfl, hpn⟩ := ov
            have hyl := ear_len hs
            have fs : ((MA.setsN cs.length).findSome? fun s => (MA.earliest h.rules h.tops cs (MA.wayW h u) s).map fun x => (s, x)) = some (n, yy) := some_at (fun j z hj hz => by rw [no j z hj hz]; rfl) hn (by rw [hs]; rfl)
            rw [fs] at ans
            refine iteT ⟨_, rfl, n, rfl, by omega, fun H7 sm7 => ⟨_, rfl, few_line (by show 2 ≤ 1000; decide), fun l1 hl1 => ?_⟩⟩
            have sm8 := sm7.trans (same_upd (o := .lst [.int (Kp208.size n : Nat), .int (n : Nat)]) hl1)
            have KP : Keeps H H7 := ((SM5.keeps.trans kp).trans kp6).trans sm7.keeps
            refine ⟨_, rfl, l1, pn, _, _, rfl, rfl, upd_same, sm8 _ _ hpn, ?_, fun l2 hl2 => ?_⟩
            · rw [natL_len]
              exact few_line (by show 2 + _ ≤ _; omega)
            refine kk _ l2 (KP.trans ((same_upd hl1).trans (same_upd hl2)).keeps) ⟨KP.free ((same_upd hl1).free hl2), ?_⟩
            rw [upd_same, ans]
            show _ = some (HO.lst (V.int (Kp208.size n : Int) :: V.int (n : Int) :: (MA.I yy).map V.int))
            rw [I_natL]
            rfl
        · rintro σ H' ⟨v3, v5, v6, rfl, kp, _, no⟩
          have fs : ((MA.setsN cs.length).findSome? fun s => (MA.earliest h.rules h.tops cs (MA.wayW h u) s).map fun x => (s, x)) = none := some_not fun j z hz => by
            rw [no j z (by rw [natL_len]; exact (List.getElem?_eq_some_iff.mp hz).1) hz]
            rfl
          rw [fs] at ans
          have KP : Keeps H H' := SM5.keeps.trans kp
          refine ⟨one_line, fun p hp => kk _ p (KP.trans (same_upd hp).keeps) ⟨KP.free hp, ?_⟩⟩
          rw [upd_same, ans]
          rfl
end
end WD
end
section
set_option Elab.async false
set_option linter.all false
set_option maxRecDepth 100000
set_option maxHeartbeats 4000000
namespace WD
open PySem PySem.Spec PyProof.Rows L2 X3
open Kp205 (Bound Rule)
noncomputable abbrev sDI : Stmt := inClass (top 22) 0
noncomputable abbrev sMore : Stmt := inClass (top 22) 1
noncomputable abbrev sTake : Stmt := inClass (top 22) 2
noncomputable abbrev sRow : Stmt := inClass (top 22) 3
noncomputable abbrev sBnds : Stmt := inClass (top 22) 4
noncomputable def Moved (H H' : Hp) (p : Addr) : Prop := ∀ b o, H b = some o → b ≠ p → H' b = some o
theorem Moved.trans {H H1 H2 : Hp} {p : Addr} (a : Moved H H1 p) (b : Moved H1 H2 p) : Moved H H2 p := fun x o e n => b x o (a x o e n) n
theorem _root_.L2.Same.moved {H H' : Hp} {p : Addr} (e : Same H H') : Moved H H' p := fun b o h _ => e b o h
theorem moved_upd {H : Hp} {p : Addr} {o : HO} : Moved H (upd H p o) p := fun b u e n => by rw [upd_ne n]; exact e
theorem Moved.seq {K : PySem.W.Frag} {H H' : Hp} {p a C dx : Addr} {fs : List (Str × V)} {xs : List V} (m : Moved H H' p) (hp : H p = some (.ins C dx fs)) (h : SqL K H a xs) : SqL K H' a xs := by
  rcases h with (h | ⟨o, h⟩) | h
  · exact .inl (.inl (m _ _ h (ne_of h hp (fun z => nomatch z))))
  · exact .inl (.inr ⟨o, m _ _ h (ne_of h hp (fun z => nomatch z))⟩)
  · exact .inr h
structure RdAt (K : PySem.W.Frag) (c : Ad) (H : Hp) (p dx a : Addr) (i : Nat) (l : List Int) : Prop where
  ins : H p = some (.ins c.D dx (fD a i))
  nums : SqL K H a (l.map V.int)
theorem RdAt.same {K : PySem.W.Frag} {c : Ad} {H H' : Hp} {p dx a : Addr} {i : Nat} {l : List Int} (x : RdAt K c H p dx a i l) (k : Keeps H H') : RdAt K c H' p dx a i l := ⟨k _ _ x.ins rfl, k.seq x.nums⟩
inductive RDI (c : Ad) (vs : List V) (H : Hp) (Q : VK) : Prop
  | mk (p dx a : Addr) (h0 : vs = [.ref p, .ref a]) (h1 : H p = some (.ins c.D dx [])) (h2 : ∀ H' : Hp, H' p = some (.ins c.D dx (fD a 0)) → Moved H H' p → Q .non H') : RDI c vs H Q
noncomputable def spDI (c : Ad) : Sp := fun vs H Q _ => RDI c vs H Q
inductive RMore (K : PySem.W.Frag) (c : Ad) (vs : List V) (H : Hp) (Q : VK) : Prop
  | mk (p dx a : Addr) (i : Nat) (l : List Int) (h0 : vs = [.ref p]) (h1 : RdAt K c H p dx a i l) (h2 : ∀ H' : Hp, Same H H' → Q (.bl (decide (i < l.length))) H') : RMore K c vs H Q
noncomputable def spMore (K : PySem.W.Frag) (c : Ad) : Sp := fun vs H Q _ => RMore K c vs H Q
inductive RTake (K : PySem.W.Frag) (c : Ad) (vs : List V) (H : Hp) (Q : VK) : Prop
  | mk (p dx a : Addr) (i : Nat) (l : List Int) (v : Int) (h0 : vs = [.ref p]) (h1 : RdAt K c H p dx a i l) (h2 : l[i]? = some v) (h3 : ∀ H' : Hp, Moved H H' p → RdAt K c H' p dx a (i + 1) l → Q (.int v) H') : RTake K c vs H Q
noncomputable def spTake (K : PySem.W.Frag) (c : Ad) : Sp := fun vs H Q _ => RTake K c vs H Q
inductive RRow (K : PySem.W.Frag) (c : Ad) (vs : List V) (H : Hp) (Q : VK) : Prop
  | mk (p dx a : Addr) (i n : Nat) (l : List Int) (h0 : vs = [.ref p]) (h1 : RdAt K c H p dx a i l) (h2 : l[i]? = some (n : Int)) (h3 : i + 1 + n ≤ l.length) (h4 : ∀ (H' : Hp) (q : Addr), Moved H H' p → RdAt K c H' p dx a (i + 1 + n) l → H q = none → H' q = some (.lst (((l.drop (i + 1)).take n).map V.int)) → Q (.ref q) H') : RRow K c vs H Q
noncomputable def spRow (K : PySem.W.Frag) (c : Ad) : Sp := fun vs H Q _ => RRow K c vs H Q
inductive RBnds (K : PySem.W.Frag) (c : Ad) (vs : List V) (H : Hp) (Q : VK) : Prop
  | mk (p dx a : Addr) (i n : Nat) (l : List Int) (h0 : vs = [.ref p]) (h1 : RdAt K c H p dx a i l) (h2 : l[i]? = some (n : Int)) (h3 : i + 1 + n ≤ l.length) (h4 : n ≤ 20) (h5 : n % 2 = 0) (h6 : (∀ z ∈ l, 0 ≤ z)) (h7 : ∀ (H' : Hp) (q : Addr), Moved H H' p → RdAt K c H' p dx a (i + 1 + n) l → BndsAt (fun x => H x = none) H' q (MA.pairsOf ((l.drop (i + 1)).take n)) → Q (.ref q) H') : RBnds K c vs H Q
noncomputable def spBnds (K : PySem.W.Frag) (c : Ad) : Sp := fun vs H Q _ => RBnds K c vs H Q
section
variable {P : Program} {w : World} {K : PySem.W.Frag} {mg : Str → Option Value} {base : Heap} {c : Ad} {f : Addr} {fd : FuncData}
theorem scDI : FnScope ["self", "numbers"] ["self", "numbers"] (defScope sDI) := ⟨rfl, rfl, rfl, by decide +kernel, rfl, by decide +kernel, by decide +kernel⟩
theorem ok_DI (F : Fun K "__init__" "Reader.__init__" sDI f fd) (T : Txt K mg c) : FnOk P w K mg base CX0 1 f fd ["self", "numbers"] (spDI c) := by
  refine F.ok scDI (fun vs H Q E h => ?_) (fun cdv A outer s H vs Q E hr h => ?_)
  · obtain ⟨p, dx, a, rfl, _⟩ := h
    rfl
  · obtain ⟨p, dx, a, rfl, hp, k⟩ := h
    refine ⟨_, pss_cons (ps_fld (pv 0) (pv 1) rfl) (pss_one (ps_fld (pv 0) pe_int rfl)), ?_⟩
    refine ⟨_, rfl, _, rfl, p, c.D, dx, [], rfl, hp, T.clD, T.nD.1, (by show 0 < 1000; decide), ?_⟩
    refine ⟨_, rfl, p, c.D, dx, _, rfl, upd_same, T.clD, T.nD.2, (by show 1 < 1000; decide), ?_⟩
    refine k _ ?_ (moved_upd.trans moved_upd)
    rw [upd_same]
    rfl
theorem scMore : FnScope ["self"] ["self"] (defScope sMore) := ⟨rfl, rfl, rfl, by decide +kernel, rfl, by decide +kernel, by decide +kernel⟩
theorem ok_more (F : Fun K "has_more" "Reader.has_more" sMore f fd) (T : Txt K mg c) : FnOk P w K mg base CX0 1 f fd ["self"] (spMore K c) := by
  refine F.ok scMore (fun vs H Q E h => ?_) (fun cdv A outer s H vs Q E hr h => ?_)
  · obtain ⟨p, dx, a, i, l, rfl, _⟩ := h
    rfl
  · obtain ⟨p, dx, a, i, l, rfl, R, k⟩ := h
    refine ⟨_, pss_one (ps_ret (pe_cmpR op_lt (pe_fld (pv 0) rfl) (pe_callB call_len_seq (by rfl) T.len PySem.boot_len (pa_cons (pe_fld (pv 0) rfl) pa_nil)) (nomark _))), ?_⟩
    refine ⟨_, rfl, p, c.D, dx, _, _, rfl, R.ins, T.clD, T.nD.2, rfl, _, rfl, p, c.D, dx, _, _, rfl, R.ins, T.clD, T.nD.1, rfl, a, _, rfl, .inl R.nums, _, _, rfl, rfl, ?_⟩
    have q := k H (Same.refl H)
    rw [List.length_map]
    have e : decide ((i : Int) < (l.length : Int)) = decide (i < l.length) := decide_eq_decide.mpr (by omega)
    rw [← e] at q
    exact q
theorem scTake : FnScope ["self", "number"] ["self"] (defScope sTake) := ⟨rfl, rfl, rfl, by decide +kernel, rfl, by decide +kernel, by decide +kernel⟩
theorem ints_get {l : List Int} {i : Nat} {v : Int} (h : l[i]? = some v) : (l.map V.int)[i]? = some (.int v) := by rw [List.getElem?_map, h]; rfl
theorem ok_take (F : Fun K "take_number" "Reader.take_number" sTake f fd) (T : Txt K mg c) : FnOk P w K mg base CX0 1 f fd ["self"] (spTake K c) := by
  refine F.ok scTake (fun vs H Q E h => ?_) (fun cdv A outer s H vs Q E hr h => ?_)
  · obtain ⟨p, dx, a, i, l, v, rfl, _⟩ := h
    rfl
  · obtain ⟨p, dx, a, i, l, v, rfl, R, hv, k⟩ := h
    refine ⟨_, pss_cons (ps_set (i := 1) scTake.nd rfl (Or.inl rfl) (pe_ix ix_list (pe_fld (pv 0) rfl) (pe_fld (pv 0) rfl) (fun _ _ => rfl))) (pss_cons (ps_fldaug (pv 0) pe_int in_add) (pss_one (ps_ret (pv 1)))), ?_⟩
    refine ⟨_, rfl, p, c.D, dx, _, _, rfl, R.ins, T.clD, T.nD.1, rfl, _, rfl, p, c.D, dx, _, _, rfl, R.ins, T.clD, T.nD.2, rfl, a, _, _, _, rfl, rfl, R.nums, atI_nat (ints_get hv), ?_⟩
    refine ⟨_, rfl, p, c.D, dx, _, _, rfl, R.ins, T.clD, T.nD.2, rfl, _, _, rfl, rfl, dx, _, R.ins, (by show 2 < 1000; decide), _, rfl, ?_⟩
    have m : Moved H (upd H p (.ins c.D dx (putF "place" (.int ((i : Int) + 1)) (fD a i)))) p := moved_upd
    exact k _ m ⟨by rw [upd_same]; rfl, m.seq R.ins R.nums⟩
theorem scRow : FnScope ["self", "size", "start"] ["self"] (defScope sRow) := ⟨rfl, rfl, rfl, by decide +kernel, rfl, by decide +kernel, by decide +kernel⟩
theorem cut_row {l : List Int} {i n : Nat} (h : i + n ≤ l.length) : cutV (l.map V.int) (some (i : Int)) (some ((i : Int) + (n : Int))) = ((l.drop i).take n).map V.int := by
  unfold cutV
  rw [show ((i : Int) + (n : Int)) = ((i + n : Nat) : Int) from rfl, HT.sIx_nat, HT.sIx_nat, List.length_map, Nat.min_eq_left (by omega), Nat.min_eq_left (by omega), List.map_take, List.map_drop]
  congr 1
  omega
theorem ok_row (F : Fun K "take_row" "Reader.take_row" sRow f fd) (T : Txt K mg c) (M1 : MOk P w K mg base c.D "take_number" 1 ["self"] (spTake K c)) : FnOk P w K mg base CX0 2 f fd ["self"] (spRow K c) := by
  obtain ⟨f1, d1, G1, b1, m1⟩ := M1
  refine F.ok scRow (fun vs H Q E h => ?_) (fun cdv A outer s H vs Q E hr h => ?_)
  · obtain ⟨p, dx, a, i, n, l, rfl, _⟩ := h
    rfl
  · obtain ⟨p, dx, a, i, n, l, rfl, R, hv, hn, k⟩ := h
    refine ⟨_, pss_cons (ps_set (i := 1) scRow.nd rfl (Or.inl rfl) (pe_meth0 (pv 0) T.clD m1 G1 hr b1 .nil pass0)) (pss_cons (ps_set (i := 2) scRow.nd rfl (Or.inl rfl) (pe_fld (pv 0) rfl)) (pss_cons (ps_fldaug (pv 0) (pv 1) in_add)
      (pss_one (ps_ret (pe_slice sl_list (pe_fld (pv 0) rfl) (po_some (pv 2)) (po_some (pe_fld (pv 0) rfl))))))), ?_⟩
    refine ⟨_, rfl, p, dx, _, rfl, R.ins, rfl, p, dx, a, i, l, (n : Int), rfl, R, hv, fun H1 mv1 R1 => ?_⟩
    refine ⟨_, rfl, p, c.D, dx, _, _, rfl, R1.ins, T.clD, T.nD.2, rfl, ?_⟩
    refine ⟨_, rfl, p, c.D, dx, _, _, rfl, R1.ins, T.clD, T.nD.2, rfl, _, rfl, _, _, rfl, rfl, dx, _, R1.ins, (by show 2 < 1000; decide), ?_⟩
    have mv2 : Moved H1 (upd H1 p (.ins c.D dx (putF "place" (.int (((i + 1 : Nat) : Int) + (n : Int))) (fD a (i + 1))))) p := moved_upd
    have R2 : RdAt K c (upd H1 p (.ins c.D dx (putF "place" (.int (((i + 1 : Nat) : Int) + (n : Int))) (fD a (i + 1))))) p dx a (i + 1 + n) l := ⟨by rw [upd_same]; rfl, mv2.seq R1.ins R1.nums⟩
    refine ⟨_, rfl, p, c.D, dx, _, _, rfl, R2.ins, T.clD, T.nD.1, rfl, _, rfl, _, rfl, _, rfl, p, c.D, dx, _, _, rfl, R2.ins, T.clD, T.nD.2, rfl, _, rfl, a, _, rfl, R2.nums, fun q hq => ?_⟩
    have hq1 : H q = none := by
      cases z : H q with
      | none => rfl
      | some o =>
        by_cases hqp : q = p
        · subst hqp
          rw [upd_same] at hq
          cases hq
        · rw [(mv1.trans mv2) q o z hqp] at hq
          cases hq
    have sm3 := same_upd (o := .lst (cutV (l.map V.int) (some ((i + 1 : Nat) : Int)) (some ((i + 1 + n : Nat) : Int)))) hq
    refine k _ q ((mv1.trans mv2).trans sm3.moved) (R2.same sm3.keeps) hq1 ?_
    rw [upd_same]
    have e := cut_row (l := l) (i := i + 1) (n := n) hn
    rw [← e]
    rfl
theorem scBnds : FnScope ["self", "row", "k"] ["self"] (defScope sBnds) := ⟨rfl, rfl, rfl, by decide +kernel, rfl, by decide +kernel, by decide +kernel⟩
theorem blkBnds : BlkOk ["self", "row", "k"] (defScope sBnds) (compSc [(".0", .local), ("k", .local), ("row", .free)]) [("k", 2)] := blkOk_by (by decide +kernel)
theorem step_two : ∀ m : Nat, m < 21 → m % 2 = 0 → RgC 0 (m : Int) 2 (m / 2) := by
  unfold RgC
  decide +kernel
theorem ok_bnds (F : Fun K "take_bounds" "Reader.take_bounds" sBnds f fd) (T : Txt K mg c) (M1 : MOk P w K mg base c.D "take_row" 2 ["self"] (spRow K c)) : FnOk P w K mg base CX0 3 f fd ["self"] (spBnds K c) := by
  obtain ⟨f1, d1, G1, b1, m1⟩ := M1
  refine F.ok scBnds (fun vs H Q E h => ?_) (fun cdv A outer s H vs Q E hr h => ?_)
  · obtain ⟨p, dx, a, i, n, l, rfl, _⟩ := h
    rfl
  · obtain ⟨p, dx, a, i, n, l, rfl, R, hv, hn, h20, h2, hz, k⟩ := h
    refine ⟨_, pss_cons (ps_set (i := 1) scBnds.nd rfl (Or.inr rfl) (pe_meth0 (pv 0) T.clD m1 G1 hr b1 .nil pass0)) (pss_one (ps_ret (pe_lc rfl scBnds.nd (pi_range3 rfl T.range (pa_cons pe_int (pa_cons (pe_callB call_len_seq (by rfl) T.len PySem.boot_len (pa_cons (pv 1) pa_nil)) (pa_cons pe_int pa_nil)))) blkBnds
      (fun _ _ _ _ _ => pg_name (i := 2) scBnds.nd rfl (Or.inl rfl)) (fun _ _ _ _ _ => pts_nil) (fun _ _ _ _ _ => pe_tup (pa_cons (pe_ix (ix_listB K) (pv 1) (pv 2) (fun _ _ => rfl)) (pa_cons (pe_ix (ix_listB K) (pv 1) (pe_op op_add (pv 2) pe_int) (fun _ _ => rfl)) pa_nil)))))), ?_⟩
    refine ⟨_, rfl, p, dx, _, rfl, R.ins, rfl, p, dx, a, i, n, l, rfl, R, hv, hn, fun H1 rw1 mv1 R1 hrw hrw1 => ?_⟩
    generalize hrow : (l.drop (i + 1)).take n = row at *
    have hrl : row.length = n := by
      rw [← hrow, List.length_take, List.length_drop]
      exact ntake hn
    have hpos : ∀ z ∈ row, 0 ≤ z := fun z hm => by
      rw [← hrow] at hm
      exact hz z (List.mem_of_mem_drop (List.mem_of_mem_take hm))
    refine ⟨_, rfl, rw1, _, rfl, .inl (SqL.of hrw1), _, _, _, n / 2, rfl, ?_, fun D hD => ?_⟩
    · rw [List.length_map, hrl]
      exact step_two n (by omega) h2
    refine lc_rangeC (fun j H' => Same H1 H' ∧ ∃ tl : List Addr, H' D = some (.lst (tl.map V.ref)) ∧ tl.length = j ∧ ∀ (m : Nat) (q : Addr), tl[m]? = some q → ∃ b, (MA.pairsOf row)[m]? = some b ∧ H1 q = none ∧ H' q = some (.tup [.int (b.lo : Nat), .int (b.hi : Nat)]))
      ⟨same_upd hD, [], upd_same, rfl, fun m q z => by simp at z⟩ ?_ ?_
    · rintro j H' hj ⟨sm, tl, hD', htl, hel⟩
      obtain ⟨x, hx⟩ : ∃ x, row[2 * j]? = some x := ⟨_, List.getElem?_eq_getElem (by omega)⟩
      obtain ⟨y, hy⟩ : ∃ y, row[2 * j + 1]? = some y := ⟨_, List.getElem?_eq_getElem (by omega)⟩
      have hx0 := hpos x (List.mem_of_getElem? hx)
      have hy0 := hpos y (List.mem_of_getElem? hy)
      have e1 : (0 : Int) + (j : Nat) * 2 = ((2 * j : Nat) : Int) := by omega
      have e2 : ((2 * j : Nat) : Int) + 1 = ((2 * j + 1 : Nat) : Int) := by omega
      refine ⟨rfl, yes_in ?_⟩
      rw [e1]
      refine ⟨_, rfl, _, rfl, rw1, _, _, _, rfl, rfl, SqL.of (sm _ _ hrw1), atI_nat (ints_get hx), _, rfl, _, rfl, _, _, rfl, rfl, rw1, _, _, .int y, rfl, rfl, SqL.of (sm _ _ hrw1), ?_, few_line (by show 2 ≤ 1000; decide), fun U hU => ?_⟩
      · rw [e2]
        exact atI_nat (ints_get hy)
      have nUD : U ≠ D := fun z => by rw [z, hD'] at hU; cases hU
      have hU1 : H1 U = none := sm.free hU
      refine ⟨_, same_upd hU _ _ hD', ?_, same_set (sm.trans (same_upd hU)) hD, tl ++ [U], ?_, ?_, ?_⟩
      · rw [List.length_map, htl]
        exact few_lt (by omega)
      · rw [upd_same, List.map_append]
        rfl
      · rw [List.length_append, htl]
        rfl
      · intro m q hm
        by_cases hmj : m < tl.length
        · rw [List.getElem?_append_left hmj] at hm
          obtain ⟨b, g1, g2, g3⟩ := hel m q hm
          refine ⟨b, g1, g2, ?_⟩
          rw [upd_ne (ne_of g3 hD' (fun z => nomatch z)), upd_ne (ne_of_none g3 hU)]
          exact g3
        · rw [List.getElem?_append_right (by omega)] at hm
          have em : m = j := by
            have := (List.getElem?_eq_some_iff.mp hm).1
            simp at this
            exact eq_at htl (by assumption) this
          subst em
          rw [htl, Nat.sub_self] at hm
          have eq : U = q := by simpa using hm
          subst eq
          refine ⟨_, MA.pairsOf_get row m x y hx hy, hU1, ?_⟩
          rw [upd_ne nUD, upd_same]
          show some (HO.tup [V.int x, V.int y]) = some (HO.tup [V.int ((x.toNat : Nat) : Int), V.int ((y.toNat : Nat) : Int)])
          rw [Int.toNat_of_nonneg hx0, Int.toNat_of_nonneg hy0]
    · rintro H' ⟨sm, tl, hD', htl, hel⟩
      have back : ∀ q, H1 q = none → H q = none := fun q hq => by
        cases z : H q with
        | none => rfl
        | some o =>
          by_cases hqp : q = p
          · subst hqp
            rw [R1.ins] at hq
            cases hq
          · rw [mv1 q o z hqp] at hq
            cases hq
      refine k H' D (mv1.trans sm.moved) (R1.same sm.keeps) ⟨tl, back D hD, hD', by rw [htl, MA.pairsOf_length, hrl], fun m q hm => ?_⟩
      obtain ⟨b, g1, g2, g3⟩ := hel m q hm
      exact ⟨b, g1, back q g2, g3⟩
end
end WD
end
section
set_option Elab.async false
set_option linter.all false
set_option maxRecDepth 100000
set_option maxHeartbeats 4000000
namespace WD
open PySem PySem.Spec PyProof.Rows L2 X3
open Kp205 (Bound Rule)
noncomputable abbrev sChange : Stmt := top 24
theorem row_natL {r : List Int} (h : ∀ z ∈ r, 0 ≤ z) : r.map V.int = natL (r.map Int.toNat) := by
  unfold natL
  rw [List.map_map]
  refine List.map_congr_left fun z hz => ?_
  show V.int z = V.int ((z.toNat : Nat) : Int)
  rw [Int.toNat_of_nonneg (h z hz)]
noncomputable def TabS (c : Ad) (S : Addr → Prop) (H : Hp) (t : Addr) : Option Kp208.House → Prop
  | none => ∃ dx a b, H t = some (.ins c.T dx (fT a b)) ∧ S t
  | some h => TabAt c S H t h ∧ MA.OkH h
theorem TabS.keep {c : Ad} {S : Addr → Prop} {H H' : Hp} {t : Addr} {st : Option Kp208.House} (x : TabS c S H t st) (k : Kp S H H') : TabS c S H' t st := by
  cases st with
  | none =>
    obtain ⟨dx, a, b, e, s⟩ := x
    exact ⟨dx, a, b, k _ _ s e rfl, s⟩
  | some h => exact ⟨x.1.keep k, x.2⟩
theorem TabS.ins {c : Ad} {S : Addr → Prop} {H : Hp} {t : Addr} {st : Option Kp208.House} (x : TabS c S H t st) : ∃ dx a b, H t = some (.ins c.T dx (fT a b)) ∧ S t := by
  cases st with
  | none => exact x
  | some h =>
    obtain ⟨⟨a, b, ra, y⟩, _⟩ := x
    obtain ⟨dx, e⟩ := y.ins
    exact ⟨dx, a, b, e, y.own.1⟩
structure Pre (K : PySem.W.Frag) (c : Ad) (S : Addr → Prop) (H : Hp) (rd dx a : Addr) (i : Nat) (l : List Int) (t : Addr) (st : Option Kp208.House) : Prop where
  rdr : RdAt K c H rd dx a i l
  tab : TabS c S H t st
  nrd : ¬ S rd
  na : (∀ H' : Hp, SqL K H' a (l.map V.int)) ∨ (¬ S a ∧ H a ≠ none)
  old : ∀ x, S x → H x ≠ none
  pos : ∀ z ∈ l, 0 ≤ z
noncomputable def After (K : PySem.W.Frag) (c : Ad) (S : Addr → Prop) (H : Hp) (rd dx a : Addr) (l : List Int) (t : Addr) (i' : Nat) (st' : Option Kp208.House) (ans : List Int) (Q : VK) : Prop :=
  ∀ (H' : Hp) (S' : Addr → Prop) (q : Addr), TabS c S' H' t st' → (∀ x, S' x → S x ∨ H x = none) → (∀ b o, H b = some o → nx o = true → ¬ S b → b ≠ rd → H' b = some o) → RdAt K c H' rd dx a i' l → ToldK H H' q ans → Q (.ref q) H'
section
variable {K : PySem.W.Frag} {c : Ad} {S : Addr → Prop} {H H1 : Hp} {rd dx a t : Addr} {i j i' : Nat} {l ans : List Int} {st st' : Option Kp208.House} {Q : VK}
theorem Moved.some (m : Moved H H1 rd) (r : RdAt K c H1 rd dx a j l) {b : Addr} (h : H b ≠ none) : H1 b ≠ none := by
  cases z : H b with
  | none => exact absurd z h
  | some o =>
    by_cases e : b = rd
    · rw [e, r.ins]
      exact fun q => nomatch q
    · rw [m b o z e]
      exact fun q => nomatch q
theorem Moved.none (m : Moved H H1 rd) (r : RdAt K c H1 rd dx a j l) {b : Addr} (h : H1 b = Option.none) : H b = Option.none := by
  cases z : H b with
  | none => rfl
  | some o => exact absurd h (m.some r (by rw [z]; exact fun q => nomatch q))
theorem Pre.move (x : Pre K c S H rd dx a i l t st) (m : Moved H H1 rd) (r : RdAt K c H1 rd dx a j l) : Pre K c S H1 rd dx a j l t st := by
  refine ⟨r, x.tab.keep fun b o s e _ => m b o e fun z => x.nrd (by rw [← z]; exact s), x.nrd, ?_, fun b s => ?_, x.pos⟩
  · rcases x.na with h | ⟨h1, h2⟩
    · exact .inl h
    · exact .inr ⟨h1, m.some r h2⟩
  cases z : H b with
  | none => exact absurd z (x.old b s)
  | some o =>
    rw [m b o z fun e => x.nrd (by rw [← e]; exact s)]
    exact fun q => nomatch q
theorem After.move (x : After K c S H rd dx a l t i' st' ans Q) (m : Moved H H1 rd) (r : RdAt K c H1 rd dx a j l) : After K c S H1 rd dx a l t i' st' ans Q := by
  intro H' S' q h1 h2 h3 h4 h5
  refine x H' S' q h1 (fun y hy => ?_) (fun b o e no ns nb => h3 b o (m b o e nb) no ns nb) h4 ⟨fun o e => ?_, h5.2⟩
  · rcases h2 y hy with h | h
    · exact .inl h
    · refine .inr ?_
      cases z : H y with
      | none => rfl
      | some o =>
        by_cases hy : y = rd
        · subst hy
          rw [r.ins] at h
          cases h
        · rw [m y o z hy] at h
          cases h
  · by_cases hq : q = rd
    · subst hq
      have := h5.1 _ r.ins
      cases this
    · exact h5.1 o (m q o e hq)
theorem After.same (x : After K c S H rd dx a l t i' st ans Q) (p : Pre K c S H rd dx a i' l t st) {H' : Hp} {q : Addr} (k : Keeps H H') (n : ToldK H H' q ans) : Q (.ref q) H' :=
  x H' S q (p.tab.keep k.kp) (fun _ h => .inl h) (fun b o e no _ _ => k b o e no) (p.rdr.same k) n
theorem After.chg {h h' : Kp208.House} (x : After K c S H rd dx a l t i' (some h') ans Q) (p : Pre K c S H rd dx a i' l t (some h)) (ok : MA.OkH h') : Chg c S H t h' ans Q := by
  intro H' S' q h1 h2 h3 h4 h5
  refine x H' S' q ⟨h1, ok⟩ h2 (fun b o e no ns _ => h3 b o e ns) ⟨h3 _ _ p.rdr.ins p.nrd, ?_⟩ ⟨fun o e => (by rw [h4.1] at e; cases e), h4.2⟩
  rcases p.na with h | ⟨n1, n2⟩
  · exact h H'
  · rcases p.rdr.nums with (e | ⟨o, e⟩) | e
    · exact .inl (.inl (h3 _ _ e n1))
    · exact .inl (.inr ⟨o, h3 _ _ e n1⟩)
    · exact .inr e
noncomputable def grown (S : Addr → Prop) (H H1 : Hp) (x : Addr) : Prop := S x ∨ (H x = none ∧ H1 x ≠ none)
theorem TabS.mono {S' : Addr → Prop} (x : TabS c S H t st) (m : ∀ y, S y → S' y) : TabS c S' H t st := by
  cases st with
  | none =>
    obtain ⟨dx, a, b, e, s⟩ := x
    exact ⟨dx, a, b, e, m _ s⟩
  | some h =>
    obtain ⟨⟨a, b, ra, y⟩, ok⟩ := x
    exact ⟨⟨a, b, ra, y.mono m⟩, ok⟩
theorem Pre.grow (x : Pre K c S H rd dx a i l t st) (m : Moved H H1 rd) (r : RdAt K c H1 rd dx a j l) : Pre K c (grown S H H1) H1 rd dx a j l t st := by
  have y := x.move m r
  refine ⟨r, y.tab.mono fun b s => .inl s, ?_, ?_, ?_, x.pos⟩
  · rintro (h | ⟨h, _⟩)
    · exact x.nrd h
    · rw [x.rdr.ins] at h
      cases h
  · rcases x.na with h | ⟨h1, h2⟩
    · exact .inl h
    · refine .inr ⟨?_, m.some r h2⟩
      rintro (h | ⟨h, _⟩)
      · exact h1 h
      · exact h2 h
  · rintro b (h | ⟨_, h⟩)
    · exact y.old b h
    · exact h
theorem After.grow (x : After K c S H rd dx a l t i' st' ans Q) (m : Moved H H1 rd) (r : RdAt K c H1 rd dx a j l) : After K c (grown S H H1) H1 rd dx a l t i' st' ans Q := by
  intro H' S' q h1 h2 h3 h4 h5
  refine x H' S' q h1 (fun y hy => ?_) (fun b o e no ns nb => h3 b o (m b o e nb) no ?_ nb) h4 ⟨fun o e => ?_, h5.2⟩
  · rcases h2 y hy with (h | ⟨h, _⟩) | h
    · exact .inl h
    · exact .inr h
    · exact .inr (m.none r h)
  · rintro (h | ⟨h, _⟩)
    · exact ns h
    · rw [e] at h
      cases h
  · by_cases hq : q = rd
    · subst hq
      have := h5.1 _ r.ins
      cases this
    · exact h5.1 o (m q o e hq)
theorem BndsAt.some {bs : List Bound} {q : Addr} (x : BndsAt (fun x => H x = none) H1 q bs) : BndsAt (grown S H H1) H1 q bs := by
  obtain ⟨tl, s, e, n, f⟩ := x
  refine ⟨tl, .inr ⟨s, by rw [e]; exact fun z => nomatch z⟩, e, n, fun j q hq => ?_⟩
  obtain ⟨b, h1, h2, h3⟩ := f j q hq
  exact ⟨b, h1, .inr ⟨h2, by rw [h3]; exact fun z => nomatch z⟩, h3⟩
end
inductive ChBr (K : PySem.W.Frag) (c : Ad) (S : Addr → Prop) (H : Hp) (rd dx a : Addr) (l : List Int) (t : Addr) (i : Nat) (st : Option Kp208.House) (Q : VK) (p : Int) : Prop
  | a (e : p = 0) (n : Nat) (h1 : l[i]? = some (n : Int)) (h2 : i + 1 + n ≤ l.length) (k : After K c S H rd dx a l t (i + 1 + n) (Kp208Neutral.step st [[0], (l.drop (i + 1)).take n]).1 (Kp208Neutral.step st [[0], (l.drop (i + 1)).take n]).2 Q)
  | b (e : p = 1) (o n : Nat) (h : Kp208.House) (es : st = some h) (h1 : l[i]? = some (o : Int)) (h2 : l[i + 1]? = some (n : Int)) (h3 : i + 2 + n ≤ l.length) (h4 : n ≤ 20) (h5 : n % 2 = 0) (k : After K c S H rd dx a l t (i + 2 + n) (some (MA.newRule h o (MA.pairsOf ((l.drop (i + 2)).take n))).1) (MA.newRule h o (MA.pairsOf ((l.drop (i + 2)).take n))).2 Q)
  | c (e : p = 2) (k : Nat) (h : Kp208.House) (es : st = some h) (h1 : l[i]? = some (k : Int)) (q : After K c S H rd dx a l t (i + 1) (some (MA.dropRule h k).1) (MA.dropRule h k).2 Q)
  | d (e : p = 3) (k u : Nat) (h : Kp208.House) (es : st = some h) (h1 : l[i]? = some (k : Int)) (h2 : l[i + 1]? = some (u : Int)) (q : After K c S H rd dx a l t (i + 2) (some (MA.moveRule h k u).1) (MA.moveRule h k u).2 Q)
inductive RChange (K : PySem.W.Frag) (c : Ad) (vs : List V) (H : Hp) (Q : VK) : Prop
  | mk (S : Addr → Prop) (p : Int) (rd dx a t : Addr) (i : Nat) (l : List Int) (st : Option Kp208.House) (h0 : vs = [.int p, .ref rd, .ref t]) (h1 : Pre K c S H rd dx a i l t st) (h2 : ChBr K c S H rd dx a l t i st Q p)
noncomputable def spChange (K : PySem.W.Frag) (c : Ad) : Sp := fun vs H Q _ => RChange K c vs H Q
section
variable {P : Program} {w : World} {K : PySem.W.Frag} {mg : Str → Option Value} {base : Heap} {c : Ad} {f : Addr} {fd : FuncData}
theorem scChange : FnScope ["call", "reader", "table", "outcome", "k", "to"] ["call", "reader", "table"] (defScope sChange) := ⟨rfl, rfl, rfl, by decide +kernel, rfl, by decide +kernel, by decide +kernel⟩
theorem ok_change (F : Fun K "answer_change" "answer_change" sChange f fd) (T : Txt K mg c) (R1 : MOk P w K mg base c.D "take_number" 1 ["self"] (spTake K c)) (R2 : MOk P w K mg base c.D "take_row" 2 ["self"] (spRow K c)) (R3 : MOk P w K mg base c.D "take_bounds" 3 ["self"] (spBnds K c))
    (M1 : MOk P w K mg base c.T "begin" 1 ["self", "tops"] (spBegin K c)) (M2 : MOk P w K mg base c.T "add_rule" 3 ["self", "outcome", "bounds"] (spAdd c)) (M3 : MOk P w K mg base c.T "drop_rule" 1 ["self", "k"] (spDrop c)) (M4 : MOk P w K mg base c.T "move_rule" 1 ["self", "k", "to"] (spMove c)) :
    FnOk P w K mg base CX0 4 f fd ["call", "reader", "table"] (spChange K c) := by
  obtain ⟨f1, d1, G1, b1, m1⟩ := R1
  obtain ⟨f2, d2, G2, b2, m2⟩ := R2
  obtain ⟨f3, d3, G3, b3, m3⟩ := R3
  obtain ⟨f4, d4, G4, b4, m4⟩ := M1
  obtain ⟨f5, d5, G5, b5, m5⟩ := M2
  obtain ⟨f6, d6, G6, b6, m6⟩ := M3
  obtain ⟨f7, d7, G7, b7, m7⟩ := M4
  refine F.ok scChange (fun vs H Q E h => ?_) (fun cdv A outer s H vs Q E hr h => ?_)
  · obtain ⟨S, p, rd, dx, a, t, i, l, st, rfl, _⟩ := h
    rfl
  · obtain ⟨S, p, rd, dx, a, t, i, l, st, rfl, PR, br⟩ := h
    obtain ⟨t7, e7⟩ := T.i7
    obtain ⟨t8, e8⟩ := T.i8
    obtain ⟨t9, e9⟩ := T.i9
    have hr1 : Room 1 _ := hr.mono (by decide)
    have hr2 : Room 2 _ := hr.mono (by decide)
    obtain ⟨dt, ta, tb, ht, hSt⟩ := PR.tab.ins
    have ntr : t ≠ rd := fun z => PR.nrd (by rw [← z]; exact hSt)
    refine ⟨_, pss_cons (ps_if (pt_cmpR op_eq (pv 0) (pe_glob (v := .int 0) rfl e7 ⟨t7, rfl⟩) (nomark _)) (pss_one (ps_ret (pe_meth (pv 2) T.clT m4 G4 hr1 b4 .nil pass0 (pa_cons (pe_meth0 (pv 1) T.clD m2 G2 hr2 b2 .nil pass0) pa_nil)))) pss_nil)
      (pss_cons (ps_if (pt_cmpR op_eq (pv 0) (pe_glob (v := .int 1) rfl e8 ⟨t8, rfl⟩) (nomark _)) (pss_cons (ps_set (i := 3) scChange.nd rfl (Or.inl rfl) (pe_meth0 (pv 1) T.clD m1 G1 hr1 b1 .nil pass0)) (pss_one (ps_ret (pe_meth (pv 2) T.clT m5 G5 hr b5 .nil pass0 (pa_cons (pv 3) (pa_cons (pe_meth0 (pv 1) T.clD m3 G3 hr b3 .nil pass0) pa_nil)))))) pss_nil)
      (pss_cons (ps_if (pt_cmpR op_eq (pv 0) (pe_glob (v := .int 2) rfl e9 ⟨t9, rfl⟩) (nomark _)) (pss_one (ps_ret (pe_meth (pv 2) T.clT m6 G6 hr1 b6 .nil pass0 (pa_cons (pe_meth0 (pv 1) T.clD m1 G1 hr1 b1 .nil pass0) pa_nil)))) pss_nil)
      (pss_cons (ps_set (i := 4) scChange.nd rfl (Or.inl rfl) (pe_meth0 (pv 1) T.clD m1 G1 hr1 b1 .nil pass0)) (pss_cons (ps_set (i := 5) scChange.nd rfl (Or.inl rfl) (pe_meth0 (pv 1) T.clD m1 G1 hr1 b1 .nil pass0))
      (pss_one (ps_ret (pe_meth (pv 2) T.clT m7 G7 hr1 b7 .nil pass0 (pa_cons (pv 4) (pa_cons (pv 5) pa_nil))))))))), ?_⟩
    rcases br with ⟨rfl, n, hn, hl, kk⟩ | ⟨rfl, o, n, h, rfl, ho, hn, hl, h20, h2, kk⟩ | ⟨rfl, k, h, rfl, hk, kk⟩ | ⟨rfl, k, u, h, rfl, hk, hu, kk⟩
    · refine ⟨_, rfl, rfl, _, rfl, ?_⟩
      refine ite2 (fun _ => ?_) (fun z => absurd (by decide) z)
      refine ⟨_, rfl, t, dt, _, rfl, ht, rfl, _, rfl, rd, dx, _, rfl, PR.rdr.ins, rfl, rd, dx, a, i, n, l, rfl, PR.rdr, hn, hl, fun H1 q1 mv1 rd1 hq1 hq1' => ?_⟩
      have PR1 := PR.move mv1 rd1
      have kk1 := kk.move mv1 rd1
      generalize hrow : (l.drop (i + 1)).take n = row at *
      have hpos : ∀ z ∈ row, 0 ≤ z := fun z hm => by
        rw [← hrow] at hm
        exact PR.pos z (List.mem_of_mem_drop (List.mem_of_mem_take hm))
      rw [row_natL hpos] at hq1'
      refine ⟨t, q1, dt, ta, tb, row.map Int.toNat, rfl, mv1 _ _ ht ntr, SqL.of hq1', fun hb H2 q2 hq2 sm2 => ?_, fun hb H2 q2 a' b' hq2 ha' hb' _ _ _ ht2 ha2 hb2 sm2 => ?_⟩
      · rw [List.length_map] at hb
        rw [MA.step_begin, if_pos hb] at kk1
        exact kk1.same PR1 sm2.keeps ⟨fun o e => (by rw [hq2.1] at e; cases e), hq2.2⟩
      · rw [List.length_map] at hb
        rw [MA.step_begin, if_neg hb] at kk1
        have ntS : ∀ b, ¬ S b → b ≠ t := fun b nb z => nb (by rw [z]; exact hSt)
        refine kk1 H2 (fun x => x = t ∨ x = a' ∨ x = b') q2 ⟨⟨a', b', [], ⟨dt, ht2⟩, ha2, hb2, ⟨.inl rfl, .inr (.inl rfl), .inr (.inr rfl)⟩, rfl, fun j p z => by simp at z⟩, MA.ok_begin hb⟩ (fun x hx => ?_) (fun b o e no ns _ => sm2 b o e (ntS b ns)) ⟨sm2 _ _ PR1.rdr.ins (Ne.symm ntr), ?_⟩ ⟨fun o e => (by rw [hq2.1] at e; cases e), hq2.2⟩
        · rcases hx with rfl | rfl | rfl
          · exact .inl hSt
          · exact .inr ha'
          · exact .inr hb'
        · rcases PR1.na with h | ⟨n1, n2⟩
          · exact h H2
          · rcases PR1.rdr.nums with (e | ⟨o, e⟩) | e
            · exact .inl (.inl (sm2 _ _ e (ntS _ n1)))
            · exact .inl (.inr ⟨o, sm2 _ _ e (ntS _ n1)⟩)
            · exact .inr e
    · refine ⟨_, rfl, rfl, _, rfl, ?_⟩
      refine ite2 (fun z => absurd z (by decide)) (fun _ => ?_)
      refine ⟨_, rfl, rfl, _, rfl, ?_⟩
      refine ite2 (fun _ => ?_) (fun z => absurd (by decide) z)
      refine ⟨_, rfl, rd, dx, _, rfl, PR.rdr.ins, rfl, rd, dx, a, i, l, _, rfl, PR.rdr, ho, fun H1 mv1 rd1 => ?_⟩
      have PR1 := PR.move mv1 rd1
      have kk1 := kk.move mv1 rd1
      refine ⟨_, rfl, t, dt, _, rfl, mv1 _ _ ht ntr, rfl, _, rfl, _, rfl, rd, dx, _, rfl, rd1.ins, rfl, rd, dx, a, i + 1, n, l, rfl, rd1, hn, by omega, h20, h2, PR.pos, fun H2 q2 mv2 rd2 bs2 => ?_⟩
      rw [show i + 1 + 1 + n = i + 2 + n by omega] at rd2
      have PR2 := PR1.grow mv2 rd2
      have kk2 := kk1.grow mv2 rd2
      exact ⟨grown S H1 H2, t, q2, h, o, _, rfl, PR2.tab.1, PR2.tab.2, bs2.some, PR2.old, kk2.chg PR2 (MA.ok_rule PR2.tab.2 o _)⟩
    · refine ⟨_, rfl, rfl, _, rfl, ?_⟩
      refine ite2 (fun z => absurd z (by decide)) (fun _ => ?_)
      refine ⟨_, rfl, rfl, _, rfl, ?_⟩
      refine ite2 (fun z => absurd z (by decide)) (fun _ => ?_)
      refine ⟨_, rfl, rfl, _, rfl, ?_⟩
      refine ite2 (fun _ => ?_) (fun z => absurd (by decide) z)
      refine ⟨_, rfl, t, dt, _, rfl, ht, rfl, _, rfl, rd, dx, _, rfl, PR.rdr.ins, rfl, rd, dx, a, i, l, _, rfl, PR.rdr, hk, fun H1 mv1 rd1 => ?_⟩
      have PR1 := PR.move mv1 rd1
      have kk1 := kk.move mv1 rd1
      exact ⟨S, t, h, k, rfl, PR1.tab.1, PR1.tab.2, PR1.old, kk1.chg PR1 (MA.ok_drop PR1.tab.2 k)⟩
    · refine ⟨_, rfl, rfl, _, rfl, ?_⟩
      refine ite2 (fun z => absurd z (by decide)) (fun _ => ?_)
      refine ⟨_, rfl, rfl, _, rfl, ?_⟩
      refine ite2 (fun z => absurd z (by decide)) (fun _ => ?_)
      refine ⟨_, rfl, rfl, _, rfl, ?_⟩
      refine ite2 (fun z => absurd z (by decide)) (fun _ => ?_)
      refine ⟨_, rfl, rd, dx, _, rfl, PR.rdr.ins, rfl, rd, dx, a, i, l, _, rfl, PR.rdr, hk, fun H1 mv1 rd1 => ?_⟩
      have PR1 := PR.move mv1 rd1
      have kk1 := kk.move mv1 rd1
      refine ⟨_, rfl, rd, dx, _, rfl, rd1.ins, rfl, rd, dx, a, i + 1, l, _, rfl, rd1, hu, fun H2 mv2 rd2 => ?_⟩
      have PR2 := PR1.move mv2 rd2
      have kk2 := kk1.move mv2 rd2
      obtain ⟨dt2, ta2, tb2, ht2, _⟩ := PR2.tab.ins
      refine ⟨_, rfl, t, dt2, _, rfl, ht2, rfl, _, rfl, _, rfl, ?_⟩
      exact ⟨S, t, h, k, u, rfl, PR2.tab.1, PR2.tab.2, PR2.old, kk2.chg PR2 (MA.ok_move PR2.tab.2 k u)⟩
end
end WD
end
section
set_option Elab.async false
set_option linter.all false
set_option maxRecDepth 100000
set_option maxHeartbeats 4000000
namespace WD
open PySem PySem.Spec PyProof.Rows L2 X3
open Kp205 (Bound Rule)
noncomputable abbrev sQuest : Stmt := top 25
noncomputable def rowN (l : List Int) (i n : Nat) : List Nat := ((l.drop i).take n).map Int.toNat
theorem row_at {l : List Int} {i n : Nat} (h : ∀ z ∈ l, 0 ≤ z) : ((l.drop i).take n).map V.int = natL (rowN l i n) := row_natL fun z hm => h z (List.mem_of_mem_drop (List.mem_of_mem_take hm))
inductive QuBr (K : PySem.W.Frag) (c : Ad) (S : Addr → Prop) (H : Hp) (rd dx a : Addr) (l : List Int) (t : Addr) (i : Nat) (h : Kp208.House) (Q : VK) (p : Int) : Prop
  | a (e : p = 4) (n : Nat) (h1 : l[i]? = some (n : Int)) (h2 : i + 1 + n ≤ l.length) (k : After K c S H rd dx a l t (i + 1 + n) (some h) (MA.ansDecide h (rowN l (i + 1) n)) Q)
  | b (e : p = 5) (s n : Nat) (h0 : l[i]? = some (s : Int)) (h1 : l[i + 1]? = some (n : Int)) (h2 : i + 2 + n ≤ l.length) (k : After K c S H rd dx a l t (i + 2 + n) (some h) (MA.ansForces h s (rowN l (i + 2) n)) Q)
  | c (e : p = 6) (n : Nat) (h1 : l[i]? = some (n : Int)) (h2 : i + 1 + n ≤ l.length) (k : After K c S H rd dx a l t (i + 1 + n) (some h) (MA.ansReasons h (rowN l (i + 1) n)) Q)
  | d (e : p = 7) (n : Nat) (h1 : l[i]? = some (n : Int)) (h2 : i + 1 + n ≤ l.length) (k : After K c S H rd dx a l t (i + 1 + n) (some h) (MA.ansContrasts h (rowN l (i + 1) n)) Q)
  | e (e : p = 8) (s n : Nat) (h0 : l[i]? = some (s : Int)) (h1 : l[i + 1]? = some (n : Int)) (h2 : i + 2 + n ≤ l.length) (k : After K c S H rd dx a l t (i + 2 + n) (some h) (MA.ansWay h s (rowN l (i + 2) n)) Q)
inductive RQuest (K : PySem.W.Frag) (c : Ad) (vs : List V) (H : Hp) (Q : VK) : Prop
  | mk (S : Addr → Prop) (p : Int) (rd dx a t : Addr) (i : Nat) (l : List Int) (h : Kp208.House) (h0 : vs = [.int p, .ref rd, .ref t]) (h1 : Pre K c S H rd dx a i l t (some h)) (h2 : QuBr K c S H rd dx a l t i h Q p)
noncomputable def spQuest (K : PySem.W.Frag) (c : Ad) : Sp := fun vs H Q _ => RQuest K c vs H Q
section
variable {P : Program} {w : World} {K : PySem.W.Frag} {mg : Str → Option Value} {base : Heap} {c : Ad} {f : Addr} {fd : FuncData}
theorem scQuest : FnScope ["call", "reader", "table", "inputs", "t"] ["call", "reader", "table"] (defScope sQuest) := ⟨rfl, rfl, rfl, by decide +kernel, rfl, by decide +kernel, by decide +kernel⟩
theorem ok_quest (F : Fun K "answer_question" "answer_question" sQuest f fd) (T : Txt K mg c) (R1 : MOk P w K mg base c.D "take_number" 1 ["self"] (spTake K c)) (R2 : MOk P w K mg base c.D "take_row" 2 ["self"] (spRow K c))
    (M1 : MOk P w K mg base c.T "decide" 3 ["self", "case"] (spDecide K c)) (F1 : FOk P w K mg base "forces" 11 ["table", "inputs", "case"] (spForces K c)) (F2 : FOk P w K mg base "all_reasons" 11 ["table", "case"] (spList K c MA.ansReasons))
    (F3 : FOk P w K mg base "all_contrasts" 11 ["table", "case"] (spList K c MA.ansContrasts)) (F4 : FOk P w K mg base "way" 11 ["table", "t", "case"] (spWay K c)) : FnOk P w K mg base CX0 12 f fd ["call", "reader", "table"] (spQuest K c) := by
  obtain ⟨f1, d1, G1, b1, m1⟩ := R1
  obtain ⟨f2, d2, G2, b2, m2⟩ := R2
  obtain ⟨f3, d3, G3, b3, m3⟩ := M1
  obtain ⟨f4, d4, G4, b4, k4, g4⟩ := F1
  obtain ⟨f5, d5, G5, b5, k5, g5⟩ := F2
  obtain ⟨f6, d6, G6, b6, k6, g6⟩ := F3
  obtain ⟨f7, d7, G7, b7, k7, g7⟩ := F4
  refine F.ok scQuest (fun vs H Q E h => ?_) (fun cdv A outer s H vs Q E hr h => ?_)
  · obtain ⟨S, p, rd, dx, a, t, i, l, h, rfl, _⟩ := h
    rfl
  · obtain ⟨S, p, rd, dx, a, t, i, l, h, rfl, PR, br⟩ := h
    obtain ⟨t10, e10⟩ := T.i10
    obtain ⟨t11, e11⟩ := T.i11
    obtain ⟨t12, e12⟩ := T.i12
    obtain ⟨t13, e13⟩ := T.i13
    obtain ⟨t14, e14⟩ := T.i14
    have hr1 : Room 1 _ := hr.mono (by decide)
    have hr2 : Room 2 _ := hr.mono (by decide)
    have hr3 : Room 3 _ := hr.mono (by decide)
    obtain ⟨dt, ta, tb, ht, hSt⟩ := PR.tab.ins
    have ntr : t ≠ rd := fun z => PR.nrd (by rw [← z]; exact hSt)
    refine ⟨_, pss_cons (ps_if (pt_cmpR op_eq (pv 0) (pe_glob (v := .int 4) rfl e10 ⟨t10, rfl⟩) (nomark _)) (pss_one (ps_ret (pe_meth (pv 2) T.clT m3 G3 hr3 b3 .nil pass0 (pa_cons (pe_meth0 (pv 1) T.clD m2 G2 hr2 b2 .nil pass0) pa_nil)))) pss_nil)
      (pss_cons (ps_if (pt_cmpR op_eq (pv 0) (pe_glob (v := .int 5) rfl e11 ⟨t11, rfl⟩) (nomark _)) (pss_cons (ps_set (i := 3) scQuest.nd rfl (Or.inl rfl) (pe_meth0 (pv 1) T.clD m1 G1 hr1 b1 .nil pass0))
        (pss_one (ps_ret (pe_call G4 hr rfl g4 k4 b4 .nil pass0 (pa_cons (pv 2) (pa_cons (pv 3) (pa_cons (pe_meth0 (pv 1) T.clD m2 G2 hr2 b2 .nil pass0) pa_nil))))))) pss_nil)
      (pss_cons (ps_if (pt_cmpR op_eq (pv 0) (pe_glob (v := .int 6) rfl e12 ⟨t12, rfl⟩) (nomark _)) (pss_one (ps_ret (pe_call G5 hr rfl g5 k5 b5 .nil pass0 (pa_cons (pv 2) (pa_cons (pe_meth0 (pv 1) T.clD m2 G2 hr2 b2 .nil pass0) pa_nil))))) pss_nil)
      (pss_cons (ps_if (pt_cmpR op_eq (pv 0) (pe_glob (v := .int 7) rfl e13 ⟨t13, rfl⟩) (nomark _)) (pss_one (ps_ret (pe_call G6 hr rfl g6 k6 b6 .nil pass0 (pa_cons (pv 2) (pa_cons (pe_meth0 (pv 1) T.clD m2 G2 hr2 b2 .nil pass0) pa_nil))))) pss_nil)
      (pss_cons (ps_if (pt_cmpR op_eq (pv 0) (pe_glob (v := .int 8) rfl e14 ⟨t14, rfl⟩) (nomark _)) (pss_cons (ps_set (i := 4) scQuest.nd rfl (Or.inl rfl) (pe_meth0 (pv 1) T.clD m1 G1 hr1 b1 .nil pass0))
        (pss_one (ps_ret (pe_call G7 hr rfl g7 k7 b7 .nil pass0 (pa_cons (pv 2) (pa_cons (pv 4) (pa_cons (pe_meth0 (pv 1) T.clD m2 G2 hr2 b2 .nil pass0) pa_nil))))))) pss_nil)
      (pss_one ps_never))))), ?_⟩
    have told : ∀ {H1 H2 : Hp} {q : Addr} {ans : List Int}, Told H1 H2 q ans → ToldK H1 H2 q ans := fun x => ⟨fun o e => (by rw [x.1] at e; cases e), x.2⟩
    rcases br with ⟨rfl, n, hn, hl, kk⟩ | ⟨rfl, s, n, hs, hn, hl, kk⟩ | ⟨rfl, n, hn, hl, kk⟩ | ⟨rfl, n, hn, hl, kk⟩ | ⟨rfl, s, n, hs, hn, hl, kk⟩
    · refine ⟨_, rfl, rfl, _, rfl, ?_⟩
      refine ite2 (fun _ => ?_) (fun z => absurd (by decide) z)
      refine ⟨_, rfl, t, dt, _, rfl, ht, rfl, _, rfl, rd, dx, _, rfl, PR.rdr.ins, rfl, rd, dx, a, i, n, l, rfl, PR.rdr, hn, hl, fun H1 q1 mv1 rd1 hq1 hq1' => ?_⟩
      have PR1 := PR.move mv1 rd1
      have kk1 := kk.move mv1 rd1
      rw [row_at PR.pos] at hq1'
      exact ⟨S, t, q1, h, _, rfl, PR1.tab.1, PR1.tab.2, SqL.of hq1', fun H2 q2 td sm => kk1.same PR1 sm.keeps (told td)⟩
    · refine ⟨_, rfl, rfl, _, rfl, ?_⟩
      refine ite2 (fun z => absurd z (by decide)) (fun _ => ?_)
      refine ⟨_, rfl, rfl, _, rfl, ?_⟩
      refine ite2 (fun _ => ?_) (fun z => absurd (by decide) z)
      refine ⟨_, rfl, rd, dx, _, rfl, PR.rdr.ins, rfl, rd, dx, a, i, l, _, rfl, PR.rdr, hs, fun H1 mv1 rd1 => ?_⟩
      have PR1 := PR.move mv1 rd1
      have kk1 := kk.move mv1 rd1
      refine ⟨_, rfl, _, rfl, _, rfl, rd, dx, _, rfl, rd1.ins, rfl, rd, dx, a, i + 1, n, l, rfl, rd1, hn, by omega, fun H2 q2 mv2 rd2 hq2 hq2' => ?_⟩
      rw [show i + 1 + 1 + n = i + 2 + n by omega] at rd2
      have PR2 := PR1.move mv2 rd2
      have kk2 := kk1.move mv2 rd2
      rw [row_at PR.pos] at hq2'
      exact ⟨S, t, q2, h, _, s, rfl, PR2.tab.1, PR2.tab.2, SqL.of hq2', fun H3 q3 kp td => kk2.same PR2 kp td⟩
    · refine ⟨_, rfl, rfl, _, rfl, ?_⟩
      refine ite2 (fun z => absurd z (by decide)) (fun _ => ?_)
      refine ⟨_, rfl, rfl, _, rfl, ?_⟩
      refine ite2 (fun z => absurd z (by decide)) (fun _ => ?_)
      refine ⟨_, rfl, rfl, _, rfl, ?_⟩
      refine ite2 (fun _ => ?_) (fun z => absurd (by decide) z)
      refine ⟨_, rfl, _, rfl, rd, dx, _, rfl, PR.rdr.ins, rfl, rd, dx, a, i, n, l, rfl, PR.rdr, hn, hl, fun H1 q1 mv1 rd1 hq1 hq1' => ?_⟩
      have PR1 := PR.move mv1 rd1
      have kk1 := kk.move mv1 rd1
      rw [row_at PR.pos] at hq1'
      exact ⟨S, t, q1, h, _, rfl, PR1.tab.1, PR1.tab.2, SqL.of hq1', fun H3 q3 kp td => kk1.same PR1 kp td⟩
    · refine ⟨_, rfl, rfl, _, rfl, ?_⟩
      refine ite2 (fun z => absurd z (by decide)) (fun _ => ?_)
      refine ⟨_, rfl, rfl, _, rfl, ?_⟩
      refine ite2 (fun z => absurd z (by decide)) (fun _ => ?_)
      refine ⟨_, rfl, rfl, _, rfl, ?_⟩
      refine ite2 (fun z => absurd z (by decide)) (fun _ => ?_)
      refine ⟨_, rfl, rfl, _, rfl, ?_⟩
      refine ite2 (fun _ => ?_) (fun z => absurd (by decide) z)
      refine ⟨_, rfl, _, rfl, rd, dx, _, rfl, PR.rdr.ins, rfl, rd, dx, a, i, n, l, rfl, PR.rdr, hn, hl, fun H1 q1 mv1 rd1 hq1 hq1' => ?_⟩
      have PR1 := PR.move mv1 rd1
      have kk1 := kk.move mv1 rd1
      rw [row_at PR.pos] at hq1'
      exact ⟨S, t, q1, h, _, rfl, PR1.tab.1, PR1.tab.2, SqL.of hq1', fun H3 q3 kp td => kk1.same PR1 kp td⟩
    · refine ⟨_, rfl, rfl, _, rfl, ?_⟩
      refine ite2 (fun z => absurd z (by decide)) (fun _ => ?_)
      refine ⟨_, rfl, rfl, _, rfl, ?_⟩
      refine ite2 (fun z => absurd z (by decide)) (fun _ => ?_)
      refine ⟨_, rfl, rfl, _, rfl, ?_⟩
      refine ite2 (fun z => absurd z (by decide)) (fun _ => ?_)
      refine ⟨_, rfl, rfl, _, rfl, ?_⟩
      refine ite2 (fun z => absurd z (by decide)) (fun _ => ?_)
      refine ⟨_, rfl, rfl, _, rfl, ?_⟩
      refine ite2 (fun _ => ?_) (fun z => absurd (by decide) z)
      refine ⟨_, rfl, rd, dx, _, rfl, PR.rdr.ins, rfl, rd, dx, a, i, l, _, rfl, PR.rdr, hs, fun H1 mv1 rd1 => ?_⟩
      have PR1 := PR.move mv1 rd1
      have kk1 := kk.move mv1 rd1
      refine ⟨_, rfl, _, rfl, _, rfl, rd, dx, _, rfl, rd1.ins, rfl, rd, dx, a, i + 1, n, l, rfl, rd1, hn, by omega, fun H2 q2 mv2 rd2 hq2 hq2' => ?_⟩
      rw [show i + 1 + 1 + n = i + 2 + n by omega] at rd2
      have PR2 := PR1.move mv2 rd2
      have kk2 := kk1.move mv2 rd2
      rw [row_at PR.pos] at hq2'
      exact ⟨S, t, q2, h, _, s, rfl, PR2.tab.1, PR2.tab.2, SqL.of hq2', fun H3 q3 kp td => kk2.same PR2 kp td⟩
end
end WD
end
section
set_option Elab.async false
set_option linter.all false
set_option maxRecDepth 100000
set_option maxHeartbeats 4000000
namespace WD
open PySem PySem.Spec PyProof.Rows L2 X3
open Kp205 (Bound Rule)
theorem drop_head {l : List Int} {i : Nat} {x : Int} {r : List Int} (h : l.drop i = x :: r) : l[i]? = some x ∧ l.drop (i + 1) = r := by
  constructor
  · have e : (l.drop i)[0]? = some x := by rw [h]; rfl
    rw [List.getElem?_drop] at e
    exact e
  · have e : (l.drop i).tail = r := by rw [h]; rfl
    rw [List.tail_drop] at e
    exact e
theorem row_some {r x t : List Int} (h : PyFlat.row r = some (x, t)) : ∃ (m : Int) (r' : List Int), r = m :: r' ∧ 0 ≤ m ∧ m.toNat ≤ r'.length ∧ x = r'.take m.toNat ∧ t = r'.drop m.toNat := by
  cases r with
  | nil => cases h
  | cons m r' =>
    have h' : (if 0 ≤ m ∧ m.toNat ≤ r'.length then some (r'.take m.toNat, r'.drop m.toNat) else none) = some (x, t) := h
    split at h'
    · rename_i z
      injection h' with h'
      injection h' with h1 h2
      exact ⟨m, r', rfl, z.1, z.2, h1.symm, h2.symm⟩
    · cases h'
theorem rows_one {r t : List Int} {xs : List (List Int)} (h : PyFlat.rows 1 r = some (xs, t)) : ∃ x, xs = [x] ∧ PyFlat.row r = some (x, t) := by
  have h' : (match PyFlat.row r with
    | none => none
    | some (x, s) => match PyFlat.rows 0 s with
      | none => none
      | some (xs, t) => some (x :: xs, t)) = some (xs, t) := h
  cases e : PyFlat.row r with
  | none => rw [e] at h'; cases h'
  | some y =>
    obtain ⟨x, s⟩ := y
    rw [e] at h'
    have h2 : some ([x], s) = some (xs, t) := h'
    injection h2 with h2
    injection h2 with h1 h2
    subst h1 h2
    exact ⟨x, rfl, rfl⟩
theorem call_inv {p : Int} {r t : List Int} {c : List (List Int)} (h : PyFlat.call PyKp208.shape (p :: r) = some (c, t)) : ∃ n k xs, PyKp208.shape p = some (n, k) ∧ n ≤ r.length ∧ PyFlat.rows k (r.drop n) = some (xs, t) ∧ c = (p :: r.take n) :: xs := by
  have h' : (match PyKp208.shape p with
    | none => none
    | some (n, k) => if r.length < n then none else match PyFlat.rows k (r.drop n) with
      | none => none
      | some (xs, t) => some ((p :: r.take n) :: xs, t)) = some (c, t) := h
  cases e : PyKp208.shape p with
  | none => rw [e] at h'; cases h'
  | some y =>
    obtain ⟨n, k⟩ := y
    rw [e] at h'
    have h2 : (if r.length < n then none else match PyFlat.rows k (r.drop n) with
      | none => none
      | some (xs, t) => some ((p :: r.take n) :: xs, t)) = some (c, t) := h'
    split at h2
    · cases h2
    · cases e2 : PyFlat.rows k (r.drop n) with
      | none => rw [e2] at h2; cases h2
      | some z =>
        obtain ⟨xs, s⟩ := z
        rw [e2] at h2
        injection h2 with h2
        injection h2 with h3 h4
        subst h4
        exact ⟨n, k, xs, rfl, by omega, e2, h3.symm⟩
inductive One (l : List Int) (i : Nat) (c : List (List Int)) (i' : Nat) : Prop
  | a (p : Int) (n : Nat) (h : p = 0 ∨ p = 4 ∨ p = 6 ∨ p = 7) (e : l[i]? = some p) (e1 : l[i + 1]? = some (n : Int)) (b : i + 2 + n ≤ l.length) (ec : c = [[p], (l.drop (i + 2)).take n]) (ei : i' = i + 2 + n)
  | b (p o : Int) (n : Nat) (h : p = 1 ∨ p = 5 ∨ p = 8) (e : l[i]? = some p) (e1 : l[i + 1]? = some o) (e2 : l[i + 2]? = some (n : Int)) (b : i + 3 + n ≤ l.length) (ec : c = [[p, o], (l.drop (i + 3)).take n]) (ei : i' = i + 3 + n)
  | c (k : Int) (e : l[i]? = some 2) (e1 : l[i + 1]? = some k) (ec : c = [[2, k]]) (ei : i' = i + 2)
  | d (k u : Int) (e : l[i]? = some 3) (e1 : l[i + 1]? = some k) (e2 : l[i + 2]? = some u) (ec : c = [[3, k, u]]) (ei : i' = i + 3)
theorem le_of_drop {l r : List Int} {i n : Nat} (h : l.drop i = r) (hn : n ≤ r.length) (hi : i ≤ l.length) : i + n ≤ l.length := by
  rw [← h, List.length_drop] at hn
  omega
theorem lt_of_at {l : List Int} {i : Nat} {x : Int} (h : l[i]? = some x) : i < l.length := (List.getElem?_eq_some_iff.mp h).1
theorem row_case {l r t x : List Int} {i : Nat} (h : l.drop i = r) (hr : PyFlat.row r = some (x, t)) : ∃ n : Nat, l[i]? = some (n : Int) ∧ i + 1 + n ≤ l.length ∧ x = (l.drop (i + 1)).take n ∧ t = l.drop (i + 1 + n) := by
  obtain ⟨m, r', rfl, h0, h1, h2, h3⟩ := row_some hr
  obtain ⟨e1, e2⟩ := drop_head h
  refine ⟨m.toNat, by rw [Int.toNat_of_nonneg h0]; exact e1, ?_, by rw [e2]; exact h2, ?_⟩
  · have := lt_of_at e1
    exact le_of_drop e2 h1 (by omega)
  · rw [h3, ← e2, List.drop_drop]
theorem shape_cases {p : Int} {n k : Nat} (h : PyKp208.shape p = some (n, k)) : ((p = 0 ∨ p = 4 ∨ p = 6 ∨ p = 7) ∧ n = 0 ∧ k = 1) ∨ ((p = 1 ∨ p = 5 ∨ p = 8) ∧ n = 1 ∧ k = 1) ∨ (p = 2 ∧ n = 1 ∧ k = 0) ∨ (p = 3 ∧ n = 2 ∧ k = 0) := by
  unfold PyKp208.shape at h
  repeat' split at h
  all_goals first
    | (cases h; done)
    | (injection h with h; injection h with h1 h2; subst h1 h2; simp_all)
theorem one_of {l t : List Int} {i : Nat} {p : Int} {r : List Int} {c : List (List Int)} (hd : l.drop i = p :: r) (h : PyFlat.call PyKp208.shape (p :: r) = some (c, t)) : ∃ i', One l i c i' ∧ t = l.drop i' := by
  obtain ⟨hp, hr⟩ := drop_head hd
  obtain ⟨n, k, xs, hs, hn, hrows, rfl⟩ := call_inv h
  rcases shape_cases hs with ⟨hp', rfl, rfl⟩ | ⟨hp', rfl, rfl⟩ | ⟨rfl, rfl, rfl⟩ | ⟨rfl, rfl, rfl⟩
  · obtain ⟨x, rfl, hrow⟩ := rows_one hrows
    obtain ⟨m, h1, h2, h3, h4⟩ := row_case (l := l) (i := i + 1) hr hrow
    subst h3
    exact ⟨_, .a p m hp' hp h1 (by omega) rfl rfl, by rw [h4, show i + 1 + 1 + m = i + 2 + m by omega]⟩
  · obtain ⟨x, rfl, hrow⟩ := rows_one hrows
    cases r with
    | nil => simp at hn
    | cons o r2 =>
      obtain ⟨ho, hr2⟩ := drop_head hr
      obtain ⟨m, h1, h2, h3, h4⟩ := row_case (l := l) (i := i + 1 + 1) hr2 hrow
      subst h3
      exact ⟨_, .b p o m hp' hp ho h1 (by omega) rfl rfl, by rw [h4, show i + 1 + 1 + 1 + m = i + 3 + m by omega]⟩
  · cases r with
    | nil => simp at hn
    | cons o r2 =>
      obtain ⟨ho, hr2⟩ := drop_head hr
      have e : (([] : List (List Int)), r2) = (xs, t) := Option.some.inj hrows
      injection e with e1 e2
      subst e1 e2
      exact ⟨_, .c o hp ho rfl rfl, hr2.symm⟩
  · cases r with
    | nil => simp at hn
    | cons o r2 =>
      cases r2 with
      | nil => simp at hn
      | cons u r3 =>
        obtain ⟨ho, hr2⟩ := drop_head hr
        obtain ⟨hu, hr3⟩ := drop_head hr2
        have e : (([] : List (List Int)), r3) = (xs, t) := Option.some.inj hrows
        injection e with e1 e2
        subst e1 e2
        exact ⟨_, .d o u hp ho hu rfl rfl, hr3.symm⟩
noncomputable def Calls (l : List Int) (i : Nat) (cs : List (List (List Int))) : Prop := ∃ f, PyFlat.calls PyKp208.shape f (l.drop i) = some cs
theorem calls_end {l : List Int} {i : Nat} {cs : List (List (List Int))} (h : Calls l i cs) (hi : l.length ≤ i) : cs = [] := by
  obtain ⟨f, h⟩ := h
  rw [List.drop_of_length_le hi] at h
  cases f with
  | zero => exact (Option.some.inj h).symm
  | succ f => exact (Option.some.inj h).symm
theorem calls_next {l : List Int} {i : Nat} {cs : List (List (List Int))} (h : Calls l i cs) (hi : i < l.length) : ∃ c cs' i', cs = c :: cs' ∧ One l i c i' ∧ Calls l i' cs' := by
  obtain ⟨f, h⟩ := h
  cases hd : l.drop i with
  | nil =>
    have := congrArg List.length hd
    rw [List.length_drop] at this
    simp at this
    omega
  | cons p r =>
    rw [hd] at h
    cases f with
    | zero => cases h
    | succ f =>
      have h' : (match PyFlat.call PyKp208.shape (p :: r) with
        | none => none
        | some (c, t) => match PyFlat.calls PyKp208.shape f t with
          | none => none
          | some cs => some (c :: cs)) = some cs := h
      cases e : PyFlat.call PyKp208.shape (p :: r) with
      | none => rw [e] at h'; cases h'
      | some y =>
        obtain ⟨c, t⟩ := y
        rw [e] at h'
        have h2 : (match PyFlat.calls PyKp208.shape f t with
          | none => none
          | some cs => some (c :: cs)) = some cs := h'
        cases e2 : PyFlat.calls PyKp208.shape f t with
        | none => rw [e2] at h2; cases h2
        | some cs' =>
          rw [e2] at h2
          obtain ⟨i', h3, h4⟩ := one_of hd e
          exact ⟨c, cs', i', (Option.some.inj h2).symm, h3, f, by rw [← h4]; exact e2⟩
theorem one_whole {l : List Int} {i i' : Nat} {c : List (List Int)} (h : One l i c i') : PyKp208.whole c = c := by
  rcases h with ⟨p, n, hp, _, _, _, rfl, _⟩ | ⟨p, o, n, hp, _, _, _, _, rfl, _⟩ | ⟨k, _, _, rfl, _⟩ | ⟨k, u, _, _, _, rfl, _⟩
  · rcases hp with rfl | rfl | rfl | rfl <;> rfl
  · rcases hp with rfl | rfl | rfl <;> rfl
  · rfl
  · rfl
theorem I_len (l : List Nat) : (MA.I l).length = l.length := by
  unfold MA.I Kp208Neutral.outs
  exact List.length_map _
theorem new_len (h : Kp208.House) (o : Nat) (bs : List Bound) : (MA.newRule h o bs).2.length ≤ 40 := by
  unfold MA.newRule
  split
  · exact (by decide : 1 ≤ 40)
  · split
    · exact (by decide : 1 ≤ 40)
    · exact (by decide : 1 ≤ 40)
theorem drop_len (h : Kp208.House) (k : Nat) : (MA.dropRule h k).2.length ≤ 40 := by
  unfold MA.dropRule
  split
  · exact (by decide : 1 ≤ 40)
  · exact (by decide : 1 ≤ 40)
theorem move_len (h : Kp208.House) (k u : Nat) : (MA.moveRule h k u).2.length ≤ 40 := by
  unfold MA.moveRule
  split
  · exact (by decide : 1 ≤ 40)
  · split
    · exact (by decide : 1 ≤ 40)
    · exact (by decide : 1 ≤ 40)
theorem decide_len (h : Kp208.House) (cs : List Nat) : (MA.ansDecide h cs).length ≤ 40 := by
  unfold MA.ansDecide
  split
  · exact (by decide : 1 ≤ 40)
  · split
    · exact (by decide : 3 ≤ 40)
    · exact (by decide : 1 ≤ 40)
theorem good_len {h : Kp208.House} {cs : List Nat} (ok : MA.OkH h) (g : ¬ Kp208.good h cs = false) : cs.length ≤ 4 := by
  have g' : Kp208.good h cs = true := by
    cases q : Kp208.good h cs with
    | true => rfl
    | false => exact absurd q g
  rw [(MA.good_iff.mp g').1]
  exact ok.four
theorem forces_len {h : Kp208.House} (ok : MA.OkH h) (s : Nat) (cs : List Nat) : (MA.ansForces h s cs).length ≤ 40 := by
  unfold MA.ansForces
  split
  · exact (by decide : 1 ≤ 40)
  · rename_i z
    have := good_len ok (fun q => z (.inl q))
    split
    · exact (by decide : 1 ≤ 40)
    · rename_i y e
      have := ear_len e
      rw [List.length_cons, I_len]
      omega
theorem reasons_len {h : Kp208.House} (ok : MA.OkH h) (cs : List Nat) : (MA.ansReasons h cs).length ≤ 40 := by
  unfold MA.ansReasons
  split
  · exact (by decide : 1 ≤ 40)
  · have h4 := ok.four
    have h1 := sets_len h.tops.length (by omega)
    have h2 := List.length_filter_le (fun s => (MA.earliest h.rules h.tops cs (MA.otherW h cs) (2 ^ h.tops.length - 1 - s)).isNone) (MA.setsN h.tops.length)
    have h3 := least_len ((MA.setsN h.tops.length).filter fun s => (MA.earliest h.rules h.tops cs (MA.otherW h cs) (2 ^ h.tops.length - 1 - s)).isNone)
    show (_ :: MA.I _).length ≤ 40
    rw [List.length_cons, I_len]
    omega
theorem contrasts_len {h : Kp208.House} (ok : MA.OkH h) (cs : List Nat) : (MA.ansContrasts h cs).length ≤ 40 := by
  unfold MA.ansContrasts
  split
  · exact (by decide : 1 ≤ 40)
  · have h4 := ok.four
    have h1 := sets_len h.tops.length (by omega)
    have h2 := List.length_filter_le (fun s => (MA.earliest h.rules h.tops cs (MA.otherW h cs) s).isSome) (MA.setsN h.tops.length)
    have h3 := least_len ((MA.setsN h.tops.length).filter fun s => (MA.earliest h.rules h.tops cs (MA.otherW h cs) s).isSome)
    show (_ :: MA.I _).length ≤ 40
    rw [List.length_cons, I_len]
    omega
theorem way_len {h : Kp208.House} (ok : MA.OkH h) (u : Nat) (cs : List Nat) : (MA.ansWay h u cs).length ≤ 40 := by
  unfold MA.ansWay
  split
  · exact (by decide : 1 ≤ 40)
  · rename_i z
    have := good_len ok (fun q => z (.inl q))
    split
    · exact (by decide : 1 ≤ 40)
    · rename_i y e
      obtain ⟨s, _, hs⟩ := List.exists_of_findSome?_eq_some e
      obtain ⟨x, hx, rfl⟩ := Option.map_eq_some_iff.mp hs
      have := ear_len hx
      rw [List.length_cons, List.length_cons, I_len]
      show x.length + 1 + 1 ≤ 40
      omega
noncomputable abbrev sAns : Stmt := top 23
inductive RAns (K : PySem.W.Frag) (vs : List V) (H : Hp) (Q : VK) : Prop
  | mk (a : Addr) (l : List Int) (h0 : vs = [.ref a]) (h1 : SqL K H a (l.map V.int)) (h2 : (∀ z ∈ l, 0 ≤ z)) (h3 : PyKp208.answers_asked l = true) (h4 : ∀ (H' : Hp) (q : Addr), H' q = some (.lst ((PyKp208.answers l).map V.int)) → Q (.ref q) H') : RAns K vs H Q
noncomputable def spAns (K : PySem.W.Frag) : Sp := fun vs H Q _ => RAns K vs H Q
structure Rest (l : List Int) (i : Nat) (st : Option Kp208.House) (tl : List Int) (cs : List (List (List Int))) : Prop where
  calls : Calls l i cs
  asked : Kp208Neutral.askedFrom st cs = true
  few : tl.length + 50 * cs.length ≤ 15000
  told : tl ++ PyFlat.told (PyFlat.played Kp208Neutral.step st cs) = PyKp208.answers l
theorem all_whole {l : List Int} : ∀ {cs : List (List (List Int))} {i : Nat}, Calls l i cs → cs.map PyKp208.whole = cs
  | [], _, _ => rfl
  | c :: cs, i, h => by
    by_cases hi : i < l.length
    · obtain ⟨c', cs', i', e, h1, h2⟩ := calls_next h hi
      injection e with e1 e2
      subst e1 e2
      rw [List.map_cons, one_whole h1, all_whole h2]
    · exact absurd (calls_end h (by omega)) (fun z => nomatch z)
theorem rest_start {l : List Int} (h : PyKp208.answers_asked l = true) : ∃ cs, Rest l 0 none [] cs := by
  unfold PyKp208.answers_asked at h
  cases e : PyKp208.calls l with
  | none => rw [e] at h; cases h
  | some ws =>
    rw [e] at h
    have h' : (PyFlat.atMost 300 ws && Kp208Neutral.asked ws) = true := h
    rw [Bool.and_eq_true] at h'
    obtain ⟨h1, h2⟩ := h'
    have e' := e
    unfold PyKp208.calls at e'
    cases e2 : PyFlat.calls PyKp208.shape l.length l with
    | none => rw [e2] at e'; cases e'
    | some cs =>
      rw [e2] at e'
      have e3 : cs.map PyKp208.whole = ws := Option.some.inj e'
      have hc : Calls l 0 cs := ⟨l.length, by rw [List.drop_zero]; exact e2⟩
      rw [all_whole hc] at e3
      subst e3
      unfold Kp208Neutral.asked at h2
      rw [Bool.and_eq_true, Bool.and_eq_true] at h2
      have h3 : cs.length ≤ 300 := of_decide_eq_true h1
      refine ⟨cs, hc, h2.2.2, by show 0 + _ ≤ _; omega, ?_⟩
      unfold PyKp208.answers
      rw [e]
      rfl
theorem rest_next {l : List Int} {i i' : Nat} {st : Option Kp208.House} {tl : List Int} {c : List (List Int)} {cs : List (List (List Int))} (r : Rest l i st tl (c :: cs)) (h : Calls l i' cs) (hl : (Kp208Neutral.step st c).2.length ≤ 40) :
    Rest l i' (Kp208Neutral.step st c).1 (tl ++ ((Kp208Neutral.step st c).2.length : Int) :: (Kp208Neutral.step st c).2) cs := by
  have ha := r.asked
  have ha' : (Kp208Neutral.asked1 c && ((st.isSome || Kp208Neutral.opens c) && Kp208Neutral.askedFrom (Kp208Neutral.step st c).1 cs)) = true := ha
  rw [Bool.and_eq_true, Bool.and_eq_true] at ha'
  refine ⟨h, ha'.2.2, ?_, ?_⟩
  · have := r.few
    rw [List.length_cons] at this
    rw [List.length_append, List.length_cons]
    omega
  · rw [← r.told, List.append_assoc]
    rfl
theorem rest_asked {l : List Int} {i : Nat} {st : Option Kp208.House} {tl : List Int} {c : List (List Int)} {cs : List (List (List Int))} (r : Rest l i st tl (c :: cs)) : Kp208Neutral.asked1 c = true ∧ (st.isSome = true ∨ Kp208Neutral.opens c = true) := by
  have ha : (Kp208Neutral.asked1 c && ((st.isSome || Kp208Neutral.opens c) && Kp208Neutral.askedFrom (Kp208Neutral.step st c).1 cs)) = true := r.asked
  rw [Bool.and_eq_true, Bool.and_eq_true, Bool.or_eq_true] at ha
  exact ⟨ha.1, ha.2.1⟩
end WD
end
section
set_option Elab.async false
set_option linter.all false
set_option maxRecDepth 100000
set_option maxHeartbeats 4000000
namespace WD
open PySem PySem.Spec PyProof.Rows L2 X3
open Kp205 (Bound Rule)
theorem many_line {n : Nat} (h : n ≤ 15000) : n ≤ sizeLine := by rw [sizeLine_eq]; omega
theorem many_lt {n : Nat} (h : n < 15000) : n < sizeLine := by rw [sizeLine_eq]; omega
theorem begin_len (st : Option Kp208.House) (r : List Int) : (Kp208Neutral.step st [[0], r]).2.length ≤ 40 := by
  rw [MA.step_begin]
  split
  · exact (by decide : 1 ≤ 40)
  · exact (by decide : 1 ≤ 40)
theorem not_none {H : Hp} {x : Addr} {o : HO} (e : H x = some o) : H x ≠ none := by
  rw [e]
  exact fun z => nomatch z
theorem TabS.tight {c : Ad} {S : Addr → Prop} {H : Hp} {t : Addr} {st : Option Kp208.House} (x : TabS c S H t st) : TabS c (fun y => S y ∧ H y ≠ none) H t st := by
  cases st with
  | none =>
    obtain ⟨dx, a, b, e, s⟩ := x
    exact ⟨dx, a, b, e, s, not_none e⟩
  | some h =>
    obtain ⟨⟨a, b, ra, ⟨dx, e⟩, e1, e2, ⟨s1, s2, s3⟩, n, f⟩, ok⟩ := x
    refine ⟨⟨a, b, ra, ⟨dx, e⟩, e1, e2, ⟨⟨s1, not_none e⟩, ⟨s2, not_none e1⟩, s3, not_none e2⟩, n, fun j p hp => ?_⟩, ok⟩
    obtain ⟨r, g1, dr, l, g2, g3, tl, g4, g5, g6, g7⟩ := f j p hp
    refine ⟨r, g1, dr, l, ⟨g2, not_none g3⟩, g3, tl, ⟨g4, not_none g5⟩, g5, g6, fun i q hq => ?_⟩
    obtain ⟨b, k1, k2, k3⟩ := g7 i q hq
    exact ⟨b, k1, ⟨k2, not_none k3⟩, k3⟩
theorem nat_of {l : List Int} (hpos : ∀ z ∈ l, 0 ≤ z) {i : Nat} {z : Int} (h : l[i]? = some z) : l[i]? = some ((z.toNat : Nat) : Int) := by
  rw [Int.toNat_of_nonneg (hpos z (List.mem_of_getElem? h))]
  exact h
theorem some_of {st : Option Kp208.House} (h : st.isSome = true ∨ false = true) : ∃ x, st = some x := by
  cases st with
  | none => rcases h with h | h <;> cases h
  | some x => exact ⟨x, rfl⟩
theorem one_spec {K : PySem.W.Frag} {c : Ad} {S : Addr → Prop} {H : Hp} {rd dx a t : Addr} {i i' : Nat} {l : List Int} {st : Option Kp208.House} {cl : List (List Int)} {p : Int} (PR : Pre K c S H rd dx a (i + 1) l t st) (o : One l i cl i') (ask : Kp208Neutral.asked1 cl = true)
    (op : st.isSome = true ∨ Kp208Neutral.opens cl = true) (hp : l[i]? = some p) : (Kp208Neutral.step st cl).2.length ≤ 40 ∧
    ((p < 4 ∧ ∀ (QQ : VK) (E : XK), After K c S H rd dx a l t i' (Kp208Neutral.step st cl).1 (Kp208Neutral.step st cl).2 QQ → spChange K c [.int p, .ref rd, .ref t] H QQ E) ∨
     (¬ p < 4 ∧ ∀ (QQ : VK) (E : XK), After K c S H rd dx a l t i' (Kp208Neutral.step st cl).1 (Kp208Neutral.step st cl).2 QQ → spQuest K c [.int p, .ref rd, .ref t] H QQ E)) := by
  have rl : ∀ {j n : Nat}, j + n ≤ l.length → ((l.drop j).take n).length = n := fun {j n} h => by
    rw [List.length_take, List.length_drop]
    exact ntake h
  rcases o with ⟨p', n, hp', h1, h2, h3, rfl, rfl⟩ | ⟨p', o, n, hp', h1, h2, h3, h4, rfl, rfl⟩ | ⟨k, h1, h2, rfl, rfl⟩ | ⟨k, u, h1, h2, h3, rfl, rfl⟩
  · rw [hp] at h1
    cases h1
    have e2 : i + 1 + 1 + n = i + 2 + n := by omega
    rcases hp' with rfl | rfl | rfl | rfl
    · refine ⟨begin_len st _, .inl ⟨by decide, fun QQ E af => ⟨S, _, rd, dx, a, t, i + 1, l, st, rfl, PR, .a rfl n h2 (by omega) ?_⟩⟩⟩
      rw [e2]
      exact af
    · obtain ⟨h, rfl⟩ := some_of op
      rw [MA.step_decide]
      refine ⟨decide_len h _, .inr ⟨by decide, fun QQ E af => ⟨S, _, rd, dx, a, t, i + 1, l, h, rfl, PR, .a rfl n h2 (by omega) ?_⟩⟩⟩
      rw [e2]
      exact af
    · obtain ⟨h, rfl⟩ := some_of op
      rw [MA.step_reasons PR.tab.2]
      refine ⟨reasons_len PR.tab.2 _, .inr ⟨by decide, fun QQ E af => ⟨S, _, rd, dx, a, t, i + 1, l, h, rfl, PR, .c rfl n h2 (by omega) ?_⟩⟩⟩
      rw [e2]
      exact af
    · obtain ⟨h, rfl⟩ := some_of op
      rw [MA.step_contrasts PR.tab.2]
      refine ⟨contrasts_len PR.tab.2 _, .inr ⟨by decide, fun QQ E af => ⟨S, _, rd, dx, a, t, i + 1, l, h, rfl, PR, .d rfl n h2 (by omega) ?_⟩⟩⟩
      rw [e2]
      exact af
  · rw [hp] at h1
    cases h1
    have e2 : i + 1 + 2 + n = i + 3 + n := by omega
    have ho := nat_of PR.pos h2
    rcases hp' with rfl | rfl | rfl
    · obtain ⟨h, rfl⟩ := some_of op
      have ask' : (Kp208Neutral.natural o 32 && (decide (((l.drop (i + 3)).take n).length % 2 = 0) && (decide (((l.drop (i + 3)).take n).length ≤ 20) && ((l.drop (i + 3)).take n).all fun z => Kp208Neutral.natural z 32))) = true := ask
      rw [rl h4, Bool.and_eq_true, Bool.and_eq_true, Bool.and_eq_true] at ask'
      have a1 : n % 2 = 0 := of_decide_eq_true ask'.2.1
      have a2 : n ≤ 20 := of_decide_eq_true ask'.2.2.1
      rw [MA.step_rule h o _ (by rw [rl h4]; exact a1)]
      refine ⟨new_len h _ _, .inl ⟨by decide, fun QQ E af => ⟨S, _, rd, dx, a, t, i + 1, l, some h, rfl, PR, .b rfl o.toNat n h rfl ho h3 (by omega) a2 a1 ?_⟩⟩⟩
      rw [e2]
      exact af
    · obtain ⟨h, rfl⟩ := some_of op
      rw [MA.step_forces PR.tab.2]
      refine ⟨forces_len PR.tab.2 _ _, .inr ⟨by decide, fun QQ E af => ⟨S, _, rd, dx, a, t, i + 1, l, h, rfl, PR, .b rfl o.toNat n ho h3 (by omega) ?_⟩⟩⟩
      rw [e2]
      exact af
    · obtain ⟨h, rfl⟩ := some_of op
      rw [MA.step_way PR.tab.2]
      refine ⟨way_len PR.tab.2 _ _, .inr ⟨by decide, fun QQ E af => ⟨S, _, rd, dx, a, t, i + 1, l, h, rfl, PR, .e rfl o.toNat n ho h3 (by omega) ?_⟩⟩⟩
      rw [e2]
      exact af
  · rw [hp] at h1
    cases h1
    obtain ⟨h, rfl⟩ := some_of op
    rw [MA.step_drop]
    exact ⟨drop_len h _, .inl ⟨by decide, fun QQ E af => ⟨S, _, rd, dx, a, t, i + 1, l, some h, rfl, PR, .c rfl k.toNat h rfl (nat_of PR.pos h2) af⟩⟩⟩
  · rw [hp] at h1
    cases h1
    obtain ⟨h, rfl⟩ := some_of op
    rw [MA.step_move]
    exact ⟨move_len h _ _, .inl ⟨by decide, fun QQ E af => ⟨S, _, rd, dx, a, t, i + 1, l, some h, rfl, PR, .d rfl k.toNat u.toNat h rfl (nat_of PR.pos h2) (nat_of PR.pos h3) af⟩⟩⟩
theorem told_pre {K : PySem.W.Frag} {c : Ad} {S S5 : Addr → Prop} {H H5 : Hp} {rd dx a t T0 q5 : Addr} {l ans tl : List Int} {j i' : Nat} {st st' : Option Kp208.House} (xs : List V) (PR : Pre K c S H rd dx a j l t st) (naT : (∀ H' : Hp, SqL K H' a (l.map V.int)) ∨ a ≠ T0) (nS : ¬ S T0) (nrd : T0 ≠ rd)
    (hT : H T0 = some (.lst (tl.map V.int))) (h1 : TabS c S5 H5 t st') (h2 : ∀ x, S5 x → S x ∨ H x = none) (h3 : ∀ b o, H b = some o → nx o = true → ¬ S b → b ≠ rd → H5 b = some o) (h4 : RdAt K c H5 rd dx a i' l) (h5 : ToldK H H5 q5 ans) :
    (H5 T0 = some (.lst (tl.map V.int)) ∧ q5 ≠ T0) ∧ ¬ S5 T0 ∧ Pre K c (fun x => S5 x ∧ H5 x ≠ none) (upd H5 T0 (.lst xs)) rd dx a i' l t st' := by
  have nS5 : ¬ S5 T0 := fun z => by
    rcases h2 T0 z with z | z
    · exact nS z
    · rw [hT] at z
      cases z
  have ne6 : ∀ b o, H5 b = some o → b ≠ T0 → upd H5 T0 (.lst xs) b = some o := fun b o e nb => by
    rw [upd_ne nb]
    exact e
  refine ⟨⟨h3 T0 _ hT rfl nS nrd, fun z => ?_⟩, nS5, ⟨ne6 _ _ h4.ins (Ne.symm nrd), ?_⟩, h1.tight.keep fun b o s e _ => ne6 b o e fun z => nS5 (by rw [← z]; exact s.1), fun z => ?_, ?_, fun x hx => ?_, PR.pos⟩
  · have := h5.1 _ (by rw [z]; exact hT)
    cases this
  · rcases naT with h | h
    · exact h _
    · rcases h4.nums with (e | ⟨o, e⟩) | e
      · exact .inl (.inl (ne6 _ _ e h))
      · exact .inl (.inr ⟨o, ne6 _ _ e h⟩)
      · exact .inr e
  · rcases h2 rd z.1 with z | z
    · exact PR.nrd z
    · rw [PR.rdr.ins] at z
      cases z
  · rcases PR.na with h | ⟨n1, n2⟩
    · exact .inl h
    · have nSa : ¬ (S5 a ∧ H5 a ≠ none) := fun z => by
        rcases h2 a z.1 with z | z
        · exact n1 z
        · exact n2 z
      rcases naT with h | h
      · exact .inl h
      · rcases h4.nums with (e | ⟨o, e⟩) | e
        · exact .inr ⟨nSa, not_none (ne6 _ _ e h)⟩
        · exact .inr ⟨nSa, not_none (ne6 _ _ e h)⟩
        · exact .inl fun H' => .inr e
  · by_cases z : x = T0
    · rw [z, upd_same]
      exact fun z => nomatch z
    · rw [upd_ne z]
      exact hx.2
theorem told_eq (tl ans : List Int) : tl.map V.int ++ [V.int (ans.length : Nat)] ++ ans.map V.int = (tl ++ (ans.length : Int) :: ans).map V.int := by
  rw [List.map_append, List.map_cons, List.append_assoc]
  rfl
inductive AnsW (K : PySem.W.Frag) (c : Ad) (rd dx a t T0 : Addr) (l : List Int) (m : Nat) (σ : L2.St) (H' : Hp) : Prop
  | mk (S : Addr → Prop) (st : Option Kp208.House) (i : Nat) (tl : List Int) (cs : List (List (List Int))) (v4 v5 : Option V) (es : σ = [some (.ref a), some (.ref rd), some (.ref t), some (.ref T0), v4, v5]) (p : Pre K c S H' rd dx a i l t st) (n : ¬ S T0) (nr : T0 ≠ rd) (h : H' T0 = some (.lst (tl.map V.int))) (r : Rest l i st tl cs) (em : m = cs.length)
section
variable {P : Program} {w : World} {K : PySem.W.Frag} {mg : Str → Option Value} {base : Heap} {c : Ad} {f : Addr} {fd : FuncData}
theorem scAns : FnScope ["calls", "reader", "table", "told", "call", "answer"] ["calls"] (defScope sAns) := ⟨rfl, rfl, rfl, by decide +kernel, rfl, by decide +kernel, by decide +kernel⟩
theorem ok_ans (F : Fun K "answers" "answers" sAns f fd) (T : Txt K mg c) (C1 : COk P w K mg base "Reader" c.D 1 ["self", "numbers"] (spDI c)) (C2 : COk P w K mg base "Table" c.T 1 ["self"] (spTI c)) (R1 : MOk P w K mg base c.D "has_more" 1 ["self"] (spMore K c))
    (R2 : MOk P w K mg base c.D "take_number" 1 ["self"] (spTake K c)) (F1 : FOk P w K mg base "answer_change" 4 ["call", "reader", "table"] (spChange K c)) (F2 : FOk P w K mg base "answer_question" 12 ["call", "reader", "table"] (spQuest K c)) : FnOk P w K mg base CX0 13 f fd ["calls"] (spAns K) := by
  obtain ⟨f1, d1, G1, b1, mk1, g1⟩ := C1
  obtain ⟨f2, d2, G2, b2, mk2, g2⟩ := C2
  obtain ⟨f3, d3, G3, b3, m3⟩ := R1
  obtain ⟨f4, d4, G4, b4, m4⟩ := R2
  obtain ⟨f5, d5, G5, b5, k5, g5⟩ := F1
  obtain ⟨f6, d6, G6, b6, k6, g6⟩ := F2
  refine F.ok scAns (fun vs H Q E h => ?_) (fun cdv A outer s H vs Q E hr h => ?_)
  · obtain ⟨a, l, rfl, _⟩ := h
    rfl
  · obtain ⟨a, l, rfl, hl, hpos, hask, kk⟩ := h
    obtain ⟨t10, e10⟩ := T.i10
    have hr1 : Room 1 _ := hr.mono (by decide)
    have hr2 : Room 2 _ := hr.mono (by decide)
    have hr4 : Room 4 _ := hr.mono (by decide)
    refine ⟨_, pss_cons (ps_set (i := 1) scAns.nd rfl (Or.inl rfl) (pe_make mk1 G1 hr2 rfl g1 b1 .nil pass0 (pa_cons (pv 0) pa_nil))) (pss_cons (ps_set (i := 2) scAns.nd rfl (Or.inl rfl) (pe_make0 mk2 G2 hr2 rfl g2 b2 .nil pass0)) (pss_cons (ps_set (i := 3) scAns.nd rfl (Or.inl rfl) (pe_lst pa_nil))
      (pss_cons (ps_while PassesOwn.never (pt_val (pe_meth0 (pv 1) T.clD m3 G3 hr1 b3 .nil pass0))
        (pss_cons (ps_set (i := 4) scAns.nd rfl (Or.inl rfl) (pe_meth0 (pv 1) T.clD m4 G4 hr1 b4 .nil pass0))
        (pss_cons (ps_set (i := 5) scAns.nd rfl (Or.inl rfl) (pe_ifExp (pt_cmpR op_lt (pv 4) (pe_glob (v := .int 4) rfl e10 ⟨t10, rfl⟩) (nomark _)) (pe_call G5 hr4 rfl g5 k5 b5 .nil pass0 (pa_cons (pv 4) (pa_cons (pv 1) (pa_cons (pv 2) pa_nil)))) (pe_call G6 hr rfl g6 k6 b6 .nil pass0 (pa_cons (pv 4) (pa_cons (pv 1) (pa_cons (pv 2) pa_nil))))))
        (pss_cons (ps_expr (pe_bm PySem.F.plainAttrs_list PySem.F.slot_list_append PySem.F.type_list_append mt_append (pv 3) (pa_cons (pe_callB call_len_seq (by rfl) T.len PySem.boot_len (pa_cons (pv 5) pa_nil)) pa_nil)))
        (pss_one (ps_expr (pe_bm PySem.F.plainAttrs_list PySem.F.slot_list_extend PySem.F.type_list_extend mt_extend (pv 3) (pa_cons (pv 5) pa_nil))))))))
      (pss_one (ps_ret (pv 3)))))), ?_⟩
    refine ⟨_, rfl, fun rd dx hrd hdx hne => ⟨rd, dx, a, rfl, upd_same, fun H1 hrd1 mv1 => ⟨rfl, ?_⟩⟩⟩
    have sm1 : Same H H1 := Same.made hrd hdx mv1
    refine fun t dt ht hdt hnt => ⟨t, dt, rfl, upd_same, fun H2 ta tb hta htb hab ht2 hta2 htb2 mv2 => ⟨rfl, ?_⟩⟩
    have sm2 : Same H1 H2 := Same.made ht hdt mv2
    refine ⟨Nat.zero_le _, fun T0 hT0 => ?_⟩
    have sm3 : Same H2 (upd H2 T0 (.lst [])) := same_upd hT0
    obtain ⟨cs0, RS0⟩ := rest_start hask
    have naT : (∀ H' : Hp, SqL K H' a (l.map V.int)) ∨ a ≠ T0 := by
      have far : ∀ o, H a = some o → a ≠ T0 := fun o e z => by
        have := (sm1.trans sm2) _ _ e
        rw [z, hT0] at this
        cases this
      rcases hl with (h | ⟨o, h⟩) | h
      · exact .inr (far _ h)
      · exact .inr (far _ h)
      · exact .inl fun H' => .inr h
    have ntrd : t ≠ rd := fun z => by rw [z, hrd1] at ht; cases ht
    have PR0 : Pre K c (fun x => x = t) (upd H2 T0 (.lst [])) rd dx a 0 l t none := by
      refine ⟨⟨sm3 _ _ (sm2 _ _ hrd1), (sm1.trans (sm2.trans sm3)).seq hl⟩, ⟨dt, ta, tb, sm3 _ _ ht2, rfl⟩, fun z => ntrd z.symm, ?_, fun x hx => (by rw [hx, sm3 _ _ ht2]; exact fun z => nomatch z), hpos⟩
      have far : ∀ o, H a = some o → ¬ a = t ∧ upd H2 T0 (.lst []) a ≠ none := fun o e => ⟨fun z => (by rw [z, sm1.free ht] at e; cases e), by rw [(sm1.trans (sm2.trans sm3)) _ _ e]; exact fun z => nomatch z⟩
      rcases hl with (h | ⟨o, h⟩) | h
      · exact .inr (far _ h)
      · exact .inr (far _ h)
      · exact .inl fun H' => .inr h
    refine ⟨AnsW K c rd dx a t T0 l,
      ⟨cs0.length, fun x => x = t, none, 0, [], cs0, none, none, rfl, PR0, (fun z => by rw [show T0 = t from z, ht2] at hT0; cases hT0), (fun z => by rw [z, sm2 _ _ hrd1] at hT0; cases hT0), upd_same, RS0, rfl⟩, ?_⟩
    rintro m σ H' ⟨S, st, i, tl, cs, v4, v5, rfl, PR, nS, nrd, hT, RS, rfl⟩
    refine ⟨_, rfl, rd, dx, _, rfl, PR.rdr.ins, rfl, rd, dx, a, i, l, rfl, PR.rdr, fun H3 smA => ⟨_, rfl, ?_⟩⟩
    have PRA := PR.move (H1 := H3) smA.moved (PR.rdr.same smA.keeps)
    have hTA := smA _ _ hT
    by_cases hi : i < l.length
    · rw [decide_eq_true hi]
      refine iteT ?_
      obtain ⟨cl, cs', i', rfl, one, nxt⟩ := calls_next RS.calls hi
      obtain ⟨p, hp⟩ : ∃ p, l[i]? = some p := ⟨_, List.getElem?_eq_getElem hi⟩
      refine ⟨fun σ' H' => ∃ m', m' < (cl :: cs').length ∧ AnsW K c rd dx a t T0 l m' σ' H', fun σ' H' z => z, ?_⟩
      refine ⟨_, rfl, rd, dx, _, rfl, PRA.rdr.ins, rfl, rd, dx, a, i, l, p, rfl, PRA.rdr, hp, fun H4 mv4 rd4 => ?_⟩
      have PR4 := PRA.move mv4 rd4
      have hT4 := mv4 _ _ hTA nrd
      obtain ⟨ask, op⟩ := rest_asked RS
      obtain ⟨hl40, os⟩ := one_spec PR4 one ask op hp
      have RS2 := rest_next RS nxt hl40
      have few := RS.few
      rw [List.length_cons] at few
      refine ⟨_, rfl, _, _, rfl, rfl, _, rfl, ?_⟩
      rcases os with ⟨hp4, os⟩ | ⟨hp4, os⟩
      · rw [decide_eq_true hp4]
        refine iteT ⟨_, rfl, _, rfl, _, rfl, os _ E0 ?_⟩
        intro H5 S5 q5 h1 h2 h3 h4 h5
        have z5 := told_pre ((tl ++ ((Kp208Neutral.step st cl).2.length : Int) :: (Kp208Neutral.step st cl).2).map V.int) PR4 naT nS nrd hT4 h1 h2 h3 h4 h5
        refine ⟨_, rfl, .inl ⟨rfl, _, SqL.of z5.1.1⟩, _, rfl, q5, _, rfl, .inl (SqL.of h5.2), T0, _, _, rfl, rfl, z5.1.1, ?_, ?_⟩
        · rw [List.length_map]
          exact many_lt (by omega)
        refine ⟨_, rfl, .inl ⟨rfl, _, SqL.of upd_same⟩, _, rfl, T0, q5, _, _, rfl, rfl, upd_same, (by rw [upd_ne z5.1.2]; exact h5.2), ?_, ?_⟩
        · rw [List.length_append, List.length_map, List.length_map, List.length_singleton]
          exact many_line (by omega)
        rw [List.length_map, upd_upd, told_eq]
        exact ⟨cs'.length, by rw [List.length_cons]; exact Nat.lt_succ_self _, fun x => S5 x ∧ H5 x ≠ none, (Kp208Neutral.step st cl).1, i', _, cs', _, _, rfl, z5.2.2, fun z => z5.2.1 z.1, nrd, upd_same, RS2, rfl⟩
      · rw [decide_eq_false hp4]
        refine iteF ⟨_, rfl, _, rfl, _, rfl, os _ E0 ?_⟩
        intro H5 S5 q5 h1 h2 h3 h4 h5
        have z5 := told_pre ((tl ++ ((Kp208Neutral.step st cl).2.length : Int) :: (Kp208Neutral.step st cl).2).map V.int) PR4 naT nS nrd hT4 h1 h2 h3 h4 h5
        refine ⟨_, rfl, .inl ⟨rfl, _, SqL.of z5.1.1⟩, _, rfl, q5, _, rfl, .inl (SqL.of h5.2), T0, _, _, rfl, rfl, z5.1.1, ?_, ?_⟩
        · rw [List.length_map]
          exact many_lt (by omega)
        refine ⟨_, rfl, .inl ⟨rfl, _, SqL.of upd_same⟩, _, rfl, T0, q5, _, _, rfl, rfl, upd_same, (by rw [upd_ne z5.1.2]; exact h5.2), ?_, ?_⟩
        · rw [List.length_append, List.length_map, List.length_map, List.length_singleton]
          exact many_line (by omega)
        rw [List.length_map, upd_upd, told_eq]
        exact ⟨cs'.length, by rw [List.length_cons]; exact Nat.lt_succ_self _, fun x => S5 x ∧ H5 x ≠ none, (Kp208Neutral.step st cl).1, i', _, cs', _, _, rfl, z5.2.2, fun z => z5.2.1 z.1, nrd, upd_same, RS2, rfl⟩
    · rw [decide_eq_false hi]
      refine iteF ⟨_, rfl, ?_⟩
      have e := calls_end RS.calls (by omega)
      subst e
      have e2 := RS.told
      refine kk H3 T0 ?_
      rw [hTA, ← e2]
      show _ = some (HO.lst ((tl ++ []).map V.int))
      rw [List.append_nil]
end
end WD
end
section
set_option Elab.async false
set_option linter.all false
set_option maxRecDepth 100000
set_option maxHeartbeats 4000000
namespace WD
open PySem PySem.Spec PyProof.Rows L2 X3
structure GIn (K : PySem.W.Frag) (x qual : Str) (st : Stmt) (ps : List Str) (f : Addr) : Prop where
  ex : ∃ fd, Fun K x qual st f fd ∧ Binds K fd ps [] ∧ ∀ (s : Shared) (us : List Value), us.length = ps.length → BindsTo s fd ⟨us, []⟩ (ps.zip us)
noncomputable def GIn.fd {K : PySem.W.Frag} {x qual : Str} {st : Stmt} {ps : List Str} {f : Addr} (g : GIn K x qual st ps f) : FuncData := Classical.choose g.ex
theorem GIn.F {K : PySem.W.Frag} {x qual : Str} {st : Stmt} {ps : List Str} {f : Addr} (g : GIn K x qual st ps f) : Fun K x qual st f g.fd := (Classical.choose_spec g.ex).1
theorem GIn.B {K : PySem.W.Frag} {x qual : Str} {st : Stmt} {ps : List Str} {f : Addr} (g : GIn K x qual st ps f) : Binds K g.fd ps [] := (Classical.choose_spec g.ex).2.1
theorem GIn.E {K : PySem.W.Frag} {x qual : Str} {st : Stmt} {ps : List Str} {f : Addr} (g : GIn K x qual st ps f) (s : Shared) (us : List Value) (h : us.length = ps.length) : BindsTo s g.fd ⟨us, []⟩ (ps.zip us) := (Classical.choose_spec g.ex).2.2 s us h
theorem gin_mk {K : PySem.W.Frag} {x qual : Str} {st : Stmt} {ps : List Str} {f : Addr} {oc : Value} {od an : Option Addr} {osl : Array (Option Value)} {kV doc pm cdv ct : Value} (l : K.lookup f = some ⟨oc, od, .func (PySem.W.fnOf x qual (defArgs st) (defBody st) (defScope st) .none kV doc pm an cdv ct), osl⟩)
    (c : PySem.W.codeIn K cdv qual = true) (k : PySem.W.keepIn K (.ref f) = true)
    (h : ∀ (kV doc pm : Value) (an : Option Addr) (cdv ct : Value) (us : List Value), us.length = ps.length → bindArgs (PySem.W.fnOf x qual (defArgs st) (defBody st) (defScope st) .none kV doc pm an cdv ct) ⟨us, []⟩ = pure (ps.zip us)) : GIn K x qual st ps f :=
  ⟨_, fun_mk l c k, (fun_mk l c k).binds h, fun s us hu => .of_eq (h _ _ _ _ _ _ us hu)⟩
theorem peel {us : List Value} {n : Nat} (h : us.length = n + 1) : ∃ v r, us = v :: r ∧ r.length = n := by
  cases us with
  | nil => cases h
  | cons v r => exact ⟨v, r, rfl, Nat.succ.inj h⟩
theorem gin1 {K : PySem.W.Frag} {x qual : Str} {st : Stmt} {p1 : Str} {f : Addr} {oc : Value} {od an : Option Addr} {osl : Array (Option Value)} {kV doc pm cdv ct : Value} (l : K.lookup f = some ⟨oc, od, .func (PySem.W.fnOf x qual (defArgs st) (defBody st) (defScope st) .none kV doc pm an cdv ct), osl⟩)
    (c : PySem.W.codeIn K cdv qual = true) (k : PySem.W.keepIn K (.ref f) = true)
    (h : ∀ (kV doc pm : Value) (an : Option Addr) (cdv ct : Value) (v1 : Value), bindArgs (PySem.W.fnOf x qual (defArgs st) (defBody st) (defScope st) .none kV doc pm an cdv ct) ⟨[v1], []⟩ = pure [(p1, v1)]) : GIn K x qual st [p1] f := by
  refine gin_mk l c k fun _ _ _ _ _ _ us hl => ?_
  obtain ⟨v1, u1, rfl, h1⟩ := peel hl
  obtain rfl := List.eq_nil_of_length_eq_zero h1
  exact h _ _ _ _ _ _ _
theorem gin2 {K : PySem.W.Frag} {x qual : Str} {st : Stmt} {p1 p2 : Str} {f : Addr} {oc : Value} {od an : Option Addr} {osl : Array (Option Value)} {kV doc pm cdv ct : Value} (l : K.lookup f = some ⟨oc, od, .func (PySem.W.fnOf x qual (defArgs st) (defBody st) (defScope st) .none kV doc pm an cdv ct), osl⟩)
    (c : PySem.W.codeIn K cdv qual = true) (k : PySem.W.keepIn K (.ref f) = true)
    (h : ∀ (kV doc pm : Value) (an : Option Addr) (cdv ct : Value) (v1 v2 : Value), bindArgs (PySem.W.fnOf x qual (defArgs st) (defBody st) (defScope st) .none kV doc pm an cdv ct) ⟨[v1, v2], []⟩ = pure [(p1, v1), (p2, v2)]) : GIn K x qual st [p1, p2] f := by
  refine gin_mk l c k fun _ _ _ _ _ _ us hl => ?_
  obtain ⟨v1, u1, rfl, h1⟩ := peel hl
  obtain ⟨v2, u2, rfl, h2⟩ := peel h1
  obtain rfl := List.eq_nil_of_length_eq_zero h2
  exact h _ _ _ _ _ _ _ _
theorem gin3 {K : PySem.W.Frag} {x qual : Str} {st : Stmt} {p1 p2 p3 : Str} {f : Addr} {oc : Value} {od an : Option Addr} {osl : Array (Option Value)} {kV doc pm cdv ct : Value} (l : K.lookup f = some ⟨oc, od, .func (PySem.W.fnOf x qual (defArgs st) (defBody st) (defScope st) .none kV doc pm an cdv ct), osl⟩)
    (c : PySem.W.codeIn K cdv qual = true) (k : PySem.W.keepIn K (.ref f) = true)
    (h : ∀ (kV doc pm : Value) (an : Option Addr) (cdv ct : Value) (v1 v2 v3 : Value), bindArgs (PySem.W.fnOf x qual (defArgs st) (defBody st) (defScope st) .none kV doc pm an cdv ct) ⟨[v1, v2, v3], []⟩ = pure [(p1, v1), (p2, v2), (p3, v3)]) : GIn K x qual st [p1, p2, p3] f := by
  refine gin_mk l c k fun _ _ _ _ _ _ us hl => ?_
  obtain ⟨v1, u1, rfl, h1⟩ := peel hl
  obtain ⟨v2, u2, rfl, h2⟩ := peel h1
  obtain ⟨v3, u3, rfl, h3⟩ := peel h2
  obtain rfl := List.eq_nil_of_length_eq_zero h3
  exact h _ _ _ _ _ _ _ _ _
theorem gin4 {K : PySem.W.Frag} {x qual : Str} {st : Stmt} {p1 p2 p3 p4 : Str} {f : Addr} {oc : Value} {od an : Option Addr} {osl : Array (Option Value)} {kV doc pm cdv ct : Value} (l : K.lookup f = some ⟨oc, od, .func (PySem.W.fnOf x qual (defArgs st) (defBody st) (defScope st) .none kV doc pm an cdv ct), osl⟩)
    (c : PySem.W.codeIn K cdv qual = true) (k : PySem.W.keepIn K (.ref f) = true)
    (h : ∀ (kV doc pm : Value) (an : Option Addr) (cdv ct : Value) (v1 v2 v3 v4 : Value), bindArgs (PySem.W.fnOf x qual (defArgs st) (defBody st) (defScope st) .none kV doc pm an cdv ct) ⟨[v1, v2, v3, v4], []⟩ = pure [(p1, v1), (p2, v2), (p3, v3), (p4, v4)]) : GIn K x qual st [p1, p2, p3, p4] f := by
  refine gin_mk l c k fun _ _ _ _ _ _ us hl => ?_
  obtain ⟨v1, u1, rfl, h1⟩ := peel hl
  obtain ⟨v2, u2, rfl, h2⟩ := peel h1
  obtain ⟨v3, u3, rfl, h3⟩ := peel h2
  obtain ⟨v4, u4, rfl, h4⟩ := peel h3
  obtain rfl := List.eq_nil_of_length_eq_zero h4
  exact h _ _ _ _ _ _ _ _ _ _
theorem all_mk {P : Program} {w : World} {K : PySem.W.Frag} {h : Heap} {mg : Str → Option Value} {fa R T S D x_rI x_rHolds x_tI x_tBegin x_tAdd x_tFit x_tDrop x_tMove x_tDecide x_tCase x_tFirst x_tToldIn x_tToldEach x_tAllow x_tTurns x_tPieces x_sI x_sEarl x_sNum x_sTry x_dI x_dMore x_dTake x_dRow x_dBnds x_fAns x_fChange x_fQuest x_fForces x_fReasons x_fContrasts x_fWay x_fOther x_fAllIn x_fSets x_fSize x_fLeast : Addr} {t_i1 t_i2 t_i3 t_i4 t_i5 t_i6 t_i7 t_i8 t_i9 t_i10 t_i11 t_i12 t_i13 t_i14 t_i15 t_i16 : Tok} (X : K.In h) (G : h.Ns mainGlobals mg) (hfa : mg "answers" = some (.ref fa))
    (aR : PySem.W.nsIn K mainGlobals "Rule" = some (some (.ref R)))
    (aT : PySem.W.nsIn K mainGlobals "Table" = some (some (.ref T)))
    (aS : PySem.W.nsIn K mainGlobals "Search" = some (some (.ref S)))
    (aD : PySem.W.nsIn K mainGlobals "Reader" = some (some (.ref D)))
    (a_rI : PySem.W.findIn K (.ref R) "__init__" = some (some (.ref x_rI)))
    (i_rI : PySem.W.isFn K (.ref x_rI) = true)
    (g_rI : GIn K "__init__" "Rule.__init__" sRI ["self", "outcome", "bounds"] x_rI)
    (a_rHolds : PySem.W.findIn K (.ref R) "holds" = some (some (.ref x_rHolds)))
    (i_rHolds : PySem.W.isFn K (.ref x_rHolds) = true)
    (g_rHolds : GIn K "holds" "Rule.holds" sHolds ["self", "case"] x_rHolds)
    (a_tI : PySem.W.findIn K (.ref T) "__init__" = some (some (.ref x_tI)))
    (i_tI : PySem.W.isFn K (.ref x_tI) = true)
    (g_tI : GIn K "__init__" "Table.__init__" sTI ["self"] x_tI)
    (a_tBegin : PySem.W.findIn K (.ref T) "begin" = some (some (.ref x_tBegin)))
    (i_tBegin : PySem.W.isFn K (.ref x_tBegin) = true)
    (g_tBegin : GIn K "begin" "Table.begin" sBegin ["self", "tops"] x_tBegin)
    (a_tAdd : PySem.W.findIn K (.ref T) "add_rule" = some (some (.ref x_tAdd)))
    (i_tAdd : PySem.W.isFn K (.ref x_tAdd) = true)
    (g_tAdd : GIn K "add_rule" "Table.add_rule" sAdd ["self", "outcome", "bounds"] x_tAdd)
    (a_tFit : PySem.W.findIn K (.ref T) "bounds_fit" = some (some (.ref x_tFit)))
    (i_tFit : PySem.W.isFn K (.ref x_tFit) = true)
    (g_tFit : GIn K "bounds_fit" "Table.bounds_fit" sFit ["self", "bounds"] x_tFit)
    (a_tDrop : PySem.W.findIn K (.ref T) "drop_rule" = some (some (.ref x_tDrop)))
    (i_tDrop : PySem.W.isFn K (.ref x_tDrop) = true)
    (g_tDrop : GIn K "drop_rule" "Table.drop_rule" sDrop ["self", "k"] x_tDrop)
    (a_tMove : PySem.W.findIn K (.ref T) "move_rule" = some (some (.ref x_tMove)))
    (i_tMove : PySem.W.isFn K (.ref x_tMove) = true)
    (g_tMove : GIn K "move_rule" "Table.move_rule" sMove ["self", "k", "to"] x_tMove)
    (a_tDecide : PySem.W.findIn K (.ref T) "decide" = some (some (.ref x_tDecide)))
    (i_tDecide : PySem.W.isFn K (.ref x_tDecide) = true)
    (g_tDecide : GIn K "decide" "Table.decide" sDecide ["self", "case"] x_tDecide)
    (a_tCase : PySem.W.findIn K (.ref T) "is_case" = some (some (.ref x_tCase)))
    (i_tCase : PySem.W.isFn K (.ref x_tCase) = true)
    (g_tCase : GIn K "is_case" "Table.is_case" sCase ["self", "case"] x_tCase)
    (a_tFirst : PySem.W.findIn K (.ref T) "first_that_holds" = some (some (.ref x_tFirst)))
    (i_tFirst : PySem.W.isFn K (.ref x_tFirst) = true)
    (g_tFirst : GIn K "first_that_holds" "Table.first_that_holds" sFirst ["self", "case"] x_tFirst)
    (a_tToldIn : PySem.W.findIn K (.ref T) "told_in" = some (some (.ref x_tToldIn)))
    (i_tToldIn : PySem.W.isFn K (.ref x_tToldIn) = true)
    (g_tToldIn : GIn K "told_in" "Table.told_in" sToldIn ["self", "case"] x_tToldIn)
    (a_tToldEach : PySem.W.findIn K (.ref T) "told_by_each" = some (some (.ref x_tToldEach)))
    (i_tToldEach : PySem.W.isFn K (.ref x_tToldEach) = true)
    (g_tToldEach : GIn K "told_by_each" "Table.told_by_each" sToldEach ["self"] x_tToldEach)
    (a_tAllow : PySem.W.findIn K (.ref T) "allowing" = some (some (.ref x_tAllow)))
    (i_tAllow : PySem.W.isFn K (.ref x_tAllow) = true)
    (g_tAllow : GIn K "allowing" "Table.allowing" sAllow ["self", "k", "number"] x_tAllow)
    (a_tTurns : PySem.W.findIn K (.ref T) "turns" = some (some (.ref x_tTurns)))
    (i_tTurns : PySem.W.isFn K (.ref x_tTurns) = true)
    (g_tTurns : GIn K "turns" "Table.turns" sTurns ["self", "k"] x_tTurns)
    (a_tPieces : PySem.W.findIn K (.ref T) "pieces" = some (some (.ref x_tPieces)))
    (i_tPieces : PySem.W.isFn K (.ref x_tPieces) = true)
    (g_tPieces : GIn K "pieces" "Table.pieces" sPieces ["self", "k"] x_tPieces)
    (a_sI : PySem.W.findIn K (.ref S) "__init__" = some (some (.ref x_sI)))
    (i_sI : PySem.W.isFn K (.ref x_sI) = true)
    (g_sI : GIn K "__init__" "Search.__init__" sSI ["self", "table", "case", "wanted"] x_sI)
    (a_sEarl : PySem.W.findIn K (.ref S) "earliest" = some (some (.ref x_sEarl)))
    (i_sEarl : PySem.W.isFn K (.ref x_sEarl) = true)
    (g_sEarl : GIn K "earliest" "Search.earliest" sEar ["self", "free_bits"] x_sEarl)
    (a_sNum : PySem.W.findIn K (.ref S) "earliest_numbers" = some (some (.ref x_sNum)))
    (i_sNum : PySem.W.isFn K (.ref x_sNum) = true)
    (g_sNum : GIn K "earliest_numbers" "Search.earliest_numbers" sEN ["self", "free", "left"] x_sNum)
    (a_sTry : PySem.W.findIn K (.ref S) "try_pieces" = some (some (.ref x_sTry)))
    (i_sTry : PySem.W.isFn K (.ref x_sTry) = true)
    (g_sTry : GIn K "try_pieces" "Search.try_pieces" sTP ["self", "free", "left"] x_sTry)
    (a_dI : PySem.W.findIn K (.ref D) "__init__" = some (some (.ref x_dI)))
    (i_dI : PySem.W.isFn K (.ref x_dI) = true)
    (g_dI : GIn K "__init__" "Reader.__init__" sDI ["self", "numbers"] x_dI)
    (a_dMore : PySem.W.findIn K (.ref D) "has_more" = some (some (.ref x_dMore)))
    (i_dMore : PySem.W.isFn K (.ref x_dMore) = true)
    (g_dMore : GIn K "has_more" "Reader.has_more" sMore ["self"] x_dMore)
    (a_dTake : PySem.W.findIn K (.ref D) "take_number" = some (some (.ref x_dTake)))
    (i_dTake : PySem.W.isFn K (.ref x_dTake) = true)
    (g_dTake : GIn K "take_number" "Reader.take_number" sTake ["self"] x_dTake)
    (a_dRow : PySem.W.findIn K (.ref D) "take_row" = some (some (.ref x_dRow)))
    (i_dRow : PySem.W.isFn K (.ref x_dRow) = true)
    (g_dRow : GIn K "take_row" "Reader.take_row" sRow ["self"] x_dRow)
    (a_dBnds : PySem.W.findIn K (.ref D) "take_bounds" = some (some (.ref x_dBnds)))
    (i_dBnds : PySem.W.isFn K (.ref x_dBnds) = true)
    (g_dBnds : GIn K "take_bounds" "Reader.take_bounds" sBnds ["self"] x_dBnds)
    (a_fAns : PySem.W.nsIn K mainGlobals "answers" = some (some (.ref x_fAns)))
    (g_fAns : GIn K "answers" "answers" sAns ["calls"] x_fAns)
    (a_fChange : PySem.W.nsIn K mainGlobals "answer_change" = some (some (.ref x_fChange)))
    (g_fChange : GIn K "answer_change" "answer_change" sChange ["call", "reader", "table"] x_fChange)
    (a_fQuest : PySem.W.nsIn K mainGlobals "answer_question" = some (some (.ref x_fQuest)))
    (g_fQuest : GIn K "answer_question" "answer_question" sQuest ["call", "reader", "table"] x_fQuest)
    (a_fForces : PySem.W.nsIn K mainGlobals "forces" = some (some (.ref x_fForces)))
    (g_fForces : GIn K "forces" "forces" sForces ["table", "inputs", "case"] x_fForces)
    (a_fReasons : PySem.W.nsIn K mainGlobals "all_reasons" = some (some (.ref x_fReasons)))
    (g_fReasons : GIn K "all_reasons" "all_reasons" sReasons ["table", "case"] x_fReasons)
    (a_fContrasts : PySem.W.nsIn K mainGlobals "all_contrasts" = some (some (.ref x_fContrasts)))
    (g_fContrasts : GIn K "all_contrasts" "all_contrasts" sContrasts ["table", "case"] x_fContrasts)
    (a_fWay : PySem.W.nsIn K mainGlobals "way" = some (some (.ref x_fWay)))
    (g_fWay : GIn K "way" "way" sWay ["table", "t", "case"] x_fWay)
    (a_fOther : PySem.W.nsIn K mainGlobals "search_otherwise" = some (some (.ref x_fOther)))
    (g_fOther : GIn K "search_otherwise" "search_otherwise" sOther ["table", "case"] x_fOther)
    (a_fAllIn : PySem.W.nsIn K mainGlobals "all_inputs" = some (some (.ref x_fAllIn)))
    (g_fAllIn : GIn K "all_inputs" "all_inputs" sAllIn ["case"] x_fAllIn)
    (a_fSets : PySem.W.nsIn K mainGlobals "sets_in_order" = some (some (.ref x_fSets)))
    (g_fSets : GIn K "sets_in_order" "sets_in_order" sSets ["case"] x_fSets)
    (a_fSize : PySem.W.nsIn K mainGlobals "size_of" = some (some (.ref x_fSize)))
    (g_fSize : GIn K "size_of" "size_of" sSize ["inputs"] x_fSize)
    (a_fLeast : PySem.W.nsIn K mainGlobals "least" = some (some (.ref x_fLeast)))
    (g_fLeast : GIn K "least" "least" sLeast ["sets"] x_fLeast)
    (pgR : PySem.W.plainGet K R Str.empty = true)
    (hdR : PySem.W.hasDictIn K R = true)
    (poR : PySem.W.plainOver K R = true)
    (saR : PySem.W.findIn K (.ref R) "__setattr__" = some (some (.builtin "object.__setattr__")))
    (mkR : PySem.W.makesIn K R = true)
    (kcR : PySem.W.keepIn K (.ref R) = true)
    (nR0 : PySem.W.findIn K (.ref R) "outcome" = some none)
    (nR1 : PySem.W.findIn K (.ref R) "bounds" = some none)
    (pgT : PySem.W.plainGet K T Str.empty = true)
    (hdT : PySem.W.hasDictIn K T = true)
    (poT : PySem.W.plainOver K T = true)
    (saT : PySem.W.findIn K (.ref T) "__setattr__" = some (some (.builtin "object.__setattr__")))
    (mkT : PySem.W.makesIn K T = true)
    (kcT : PySem.W.keepIn K (.ref T) = true)
    (nT0 : PySem.W.findIn K (.ref T) "tops" = some none)
    (nT1 : PySem.W.findIn K (.ref T) "rules" = some none)
    (pgS : PySem.W.plainGet K S Str.empty = true)
    (hdS : PySem.W.hasDictIn K S = true)
    (poS : PySem.W.plainOver K S = true)
    (saS : PySem.W.findIn K (.ref S) "__setattr__" = some (some (.builtin "object.__setattr__")))
    (mkS : PySem.W.makesIn K S = true)
    (kcS : PySem.W.keepIn K (.ref S) = true)
    (nS0 : PySem.W.findIn K (.ref S) "case" = some none)
    (nS1 : PySem.W.findIn K (.ref S) "wanted" = some none)
    (nS2 : PySem.W.findIn K (.ref S) "all_rules" = some none)
    (nS3 : PySem.W.findIn K (.ref S) "allowing_own" = some none)
    (nS4 : PySem.W.findIn K (.ref S) "allowing_any" = some none)
    (nS5 : PySem.W.findIn K (.ref S) "known" = some none)
    (pgD : PySem.W.plainGet K D Str.empty = true)
    (hdD : PySem.W.hasDictIn K D = true)
    (poD : PySem.W.plainOver K D = true)
    (saD : PySem.W.findIn K (.ref D) "__setattr__" = some (some (.builtin "object.__setattr__")))
    (mkD : PySem.W.makesIn K D = true)
    (kcD : PySem.W.keepIn K (.ref D) = true)
    (nD0 : PySem.W.findIn K (.ref D) "numbers" = some none)
    (nD1 : PySem.W.findIn K (.ref D) "place" = some none)
    (zi1 : PySem.W.nsIn K mainGlobals "MOST_INPUTS" = some (some (.int 4 t_i1)))
    (zi2 : PySem.W.nsIn K mainGlobals "MOST_RULES" = some (some (.int 10 t_i2)))
    (zi3 : PySem.W.nsIn K mainGlobals "MOST_OUTCOME" = some (some (.int 255 t_i3)))
    (zi4 : PySem.W.nsIn K mainGlobals "NOT_THERE" = some (some (.int (-2) t_i4)))
    (zi5 : PySem.W.nsIn K mainGlobals "WRONG" = some (some (.int (-22) t_i5)))
    (zi6 : PySem.W.nsIn K mainGlobals "FULL" = some (some (.int (-28) t_i6)))
    (zi7 : PySem.W.nsIn K mainGlobals "BEGIN" = some (some (.int 0 t_i7)))
    (zi8 : PySem.W.nsIn K mainGlobals "RULE" = some (some (.int 1 t_i8)))
    (zi9 : PySem.W.nsIn K mainGlobals "DROP" = some (some (.int 2 t_i9)))
    (zi10 : PySem.W.nsIn K mainGlobals "DECIDE" = some (some (.int 4 t_i10)))
    (zi11 : PySem.W.nsIn K mainGlobals "FORCES" = some (some (.int 5 t_i11)))
    (zi12 : PySem.W.nsIn K mainGlobals "REASONS" = some (some (.int 6 t_i12)))
    (zi13 : PySem.W.nsIn K mainGlobals "CONTRASTS" = some (some (.int 7 t_i13)))
    (zi14 : PySem.W.nsIn K mainGlobals "WAY" = some (some (.int 8 t_i14)))
    (zi15 : PySem.W.nsIn K mainGlobals "MOST_TOLD" = some (some (.int 256 t_i15)))
    (zi16 : PySem.W.nsIn K mainGlobals "NEVER" = some (some (.int (-33) t_i16)))
    (b_len : PySem.W.nsIn K mainGlobals "len" = some none)
    (b_zip : PySem.W.nsIn K mainGlobals "zip" = some none)
    (b_enumerate : PySem.W.nsIn K mainGlobals "enumerate" = some none)
    (b_range : PySem.W.nsIn K mainGlobals "range" = some none)
    (b_list : PySem.W.nsIn K mainGlobals "list" = some none)
    (b_tuple : PySem.W.nsIn K mainGlobals "tuple" = some none)
    (b_set : PySem.W.nsIn K mainGlobals "set" = some none)
    (b_sorted : PySem.W.nsIn K mainGlobals "sorted" = some none)
    (b_sum : PySem.W.nsIn K mainGlobals "sum" = some none)
    (b_any : PySem.W.nsIn K mainGlobals "any" = some none) :
    ∃ fd : FuncData, (∀ (s : Shared) (us : List Value), us.length = (["calls"] : List Str).length → BindsTo s fd ⟨us, []⟩ ((["calls"] : List Str).zip us)) ∧ ∀ base : Heap, K.In base → base.Ns mainGlobals mg → FnOk P w K mg base CX0 13 fa fd ["calls"] (spAns K) := by
  have e := hfa.symm.trans (PySem.W.mg_of X G a_fAns)
  cases e
  have TX : Txt K mg ⟨R, T, S, D⟩ := ⟨⟨pgR, hdR, poR, saR⟩, ⟨pgT, hdT, poT, saT⟩, ⟨pgS, hdS, poS, saS⟩, ⟨pgD, hdD, poD, saD⟩, ⟨nR0, nR1⟩, ⟨nT0, nT1⟩, ⟨nS0, nS1, nS2, nS3, nS4, nS5⟩, ⟨nD0, nD1⟩, ⟨_, PySem.W.mg_of X G zi1⟩, ⟨_, PySem.W.mg_of X G zi2⟩, ⟨_, PySem.W.mg_of X G zi3⟩, ⟨_, PySem.W.mg_of X G zi4⟩, ⟨_, PySem.W.mg_of X G zi5⟩, ⟨_, PySem.W.mg_of X G zi6⟩, ⟨_, PySem.W.mg_of X G zi7⟩, ⟨_, PySem.W.mg_of X G zi8⟩, ⟨_, PySem.W.mg_of X G zi9⟩, ⟨_, PySem.W.mg_of X G zi10⟩, ⟨_, PySem.W.mg_of X G zi11⟩, ⟨_, PySem.W.mg_of X G zi12⟩, ⟨_, PySem.W.mg_of X G zi13⟩, ⟨_, PySem.W.mg_of X G zi14⟩, ⟨_, PySem.W.mg_of X G zi15⟩, ⟨_, PySem.W.mg_of X G zi16⟩, PySem.W.mg_none_of X G b_len, PySem.W.mg_none_of X G b_zip, PySem.W.mg_none_of X G b_enumerate, PySem.W.mg_none_of X G b_range, PySem.W.mg_none_of X G b_list, PySem.W.mg_none_of X G b_tuple, PySem.W.mg_none_of X G b_set, PySem.W.mg_none_of X G b_sorted, PySem.W.mg_none_of X G b_sum, PySem.W.mg_none_of X G b_any⟩
  refine ⟨g_fAns.fd, fun s us hu => ?_, fun base _ _ => ?_⟩
  · exact g_fAns.E s us hu
  have m_rHolds : MOk P w K mg base R "holds" 1 ["self", "case"] (spHolds K ⟨R, T, S, D⟩) := ⟨x_rHolds, g_rHolds.fd, ok_holds g_rHolds.F TX, g_rHolds.B, ⟨a_rHolds, i_rHolds, g_rHolds.F.kp⟩⟩
  have c_rI : COk P w K mg base "Rule" R 1 ["self", "outcome", "bounds"] (spRI ⟨R, T, S, D⟩) := ⟨x_rI, g_rI.fd, ok_RI g_rI.F TX, g_rI.B, ⟨mkR, a_rI, i_rI, kcR⟩, PySem.W.mg_of X G aR⟩
  have c_tI : COk P w K mg base "Table" T 1 ["self"] (spTI ⟨R, T, S, D⟩) := ⟨x_tI, g_tI.fd, ok_TI g_tI.F TX, g_tI.B, ⟨mkT, a_tI, i_tI, kcT⟩, PySem.W.mg_of X G aT⟩
  have m_tFit : MOk P w K mg base T "bounds_fit" 1 ["self", "bounds"] (spFit ⟨R, T, S, D⟩) := ⟨x_tFit, g_tFit.fd, ok_fit g_tFit.F TX, g_tFit.B, ⟨a_tFit, i_tFit, g_tFit.F.kp⟩⟩
  have m_tCase : MOk P w K mg base T "is_case" 1 ["self", "case"] (spCase K ⟨R, T, S, D⟩) := ⟨x_tCase, g_tCase.fd, ok_case g_tCase.F TX, g_tCase.B, ⟨a_tCase, i_tCase, g_tCase.F.kp⟩⟩
  have m_tFirst : MOk P w K mg base T "first_that_holds" 2 ["self", "case"] (spFirst K ⟨R, T, S, D⟩) := ⟨x_tFirst, g_tFirst.fd, ok_first g_tFirst.F TX m_rHolds, g_tFirst.B, ⟨a_tFirst, i_tFirst, g_tFirst.F.kp⟩⟩
  have m_tBegin : MOk P w K mg base T "begin" 1 ["self", "tops"] (spBegin K ⟨R, T, S, D⟩) := ⟨x_tBegin, g_tBegin.fd, ok_begin g_tBegin.F TX, g_tBegin.B, ⟨a_tBegin, i_tBegin, g_tBegin.F.kp⟩⟩
  have m_tAdd : MOk P w K mg base T "add_rule" 3 ["self", "outcome", "bounds"] (spAdd ⟨R, T, S, D⟩) := ⟨x_tAdd, g_tAdd.fd, ok_add g_tAdd.F TX m_tFit c_rI, g_tAdd.B, ⟨a_tAdd, i_tAdd, g_tAdd.F.kp⟩⟩
  have m_tDrop : MOk P w K mg base T "drop_rule" 1 ["self", "k"] (spDrop ⟨R, T, S, D⟩) := ⟨x_tDrop, g_tDrop.fd, ok_drop g_tDrop.F TX, g_tDrop.B, ⟨a_tDrop, i_tDrop, g_tDrop.F.kp⟩⟩
  have m_tMove : MOk P w K mg base T "move_rule" 1 ["self", "k", "to"] (spMove ⟨R, T, S, D⟩) := ⟨x_tMove, g_tMove.fd, ok_move g_tMove.F TX, g_tMove.B, ⟨a_tMove, i_tMove, g_tMove.F.kp⟩⟩
  have m_tDecide : MOk P w K mg base T "decide" 3 ["self", "case"] (spDecide K ⟨R, T, S, D⟩) := ⟨x_tDecide, g_tDecide.fd, ok_decide g_tDecide.F TX m_tCase m_tFirst, g_tDecide.B, ⟨a_tDecide, i_tDecide, g_tDecide.F.kp⟩⟩
  have m_tToldIn : MOk P w K mg base T "told_in" 3 ["self", "case"] (spToldIn K ⟨R, T, S, D⟩) := ⟨x_tToldIn, g_tToldIn.fd, ok_toldIn g_tToldIn.F TX m_tFirst, g_tToldIn.B, ⟨a_tToldIn, i_tToldIn, g_tToldIn.F.kp⟩⟩
  have m_tToldEach : MOk P w K mg base T "told_by_each" 1 ["self"] (spToldEach ⟨R, T, S, D⟩) := ⟨x_tToldEach, g_tToldEach.fd, ok_toldEach g_tToldEach.F TX, g_tToldEach.B, ⟨a_tToldEach, i_tToldEach, g_tToldEach.F.kp⟩⟩
  have m_tAllow : MOk P w K mg base T "allowing" 1 ["self", "k", "number"] (spAllow ⟨R, T, S, D⟩) := ⟨x_tAllow, g_tAllow.fd, ok_allow g_tAllow.F TX, g_tAllow.B, ⟨a_tAllow, i_tAllow, g_tAllow.F.kp⟩⟩
  have m_tTurns : MOk P w K mg base T "turns" 1 ["self", "k"] (spTurns ⟨R, T, S, D⟩) := ⟨x_tTurns, g_tTurns.fd, ok_turns g_tTurns.F TX, g_tTurns.B, ⟨a_tTurns, i_tTurns, g_tTurns.F.kp⟩⟩
  have m_tPieces : MOk P w K mg base T "pieces" 2 ["self", "k"] (spPieces ⟨R, T, S, D⟩) := ⟨x_tPieces, g_tPieces.fd, ok_pieces g_tPieces.F TX m_tTurns m_tAllow, g_tPieces.B, ⟨a_tPieces, i_tPieces, g_tPieces.F.kp⟩⟩
  have c_sI : COk P w K mg base "Search" S 3 ["self", "table", "case", "wanted"] (spSI P w K ⟨R, T, S, D⟩) := ⟨x_sI, g_sI.fd, ok_SI g_sI.F TX m_tAllow m_tPieces, g_sI.B, ⟨mkS, a_sI, i_sI, kcS⟩, PySem.W.mg_of X G aS⟩
  have m_sNum : MOk P w K mg base S "earliest_numbers" 9 ["self", "free", "left"] (spEN P w K ⟨R, T, S, D⟩ 4) := ok_ENs (c := ⟨R, T, S, D⟩) g_sNum.F g_sTry.F g_sNum.B g_sTry.B ⟨a_sNum, i_sNum, g_sNum.F.kp⟩ ⟨a_sTry, i_sTry, g_sTry.F.kp⟩ TX 4
  have m_sEarl : MOk P w K mg base S "earliest" 10 ["self", "free_bits"] (spEar P w K ⟨R, T, S, D⟩) := ⟨x_sEarl, g_sEarl.fd, ok_ear g_sEarl.F TX m_sNum, g_sEarl.B, ⟨a_sEarl, i_sEarl, g_sEarl.F.kp⟩⟩
  have f_fAllIn : FOk P w K mg base "all_inputs" 1 ["case"] (spAllIn K) := ⟨x_fAllIn, g_fAllIn.fd, ok_allIn g_fAllIn.F TX, g_fAllIn.B, g_fAllIn.F.kp, PySem.W.mg_of X G a_fAllIn⟩
  have f_fSize : FOk P w K mg base "size_of" 1 ["inputs"] (spSize) := ⟨x_fSize, g_fSize.fd, ok_size g_fSize.F TX, g_fSize.B, g_fSize.F.kp, PySem.W.mg_of X G a_fSize⟩
  have f_fSets : FOk P w K mg base "sets_in_order" 4 ["case"] (spSets K) := ⟨x_fSets, g_fSets.fd, ok_sets g_fSets.F TX f_fAllIn f_fSize, g_fSets.B, g_fSets.F.kp, PySem.W.mg_of X G a_fSets⟩
  have f_fLeast : FOk P w K mg base "least" 1 ["sets"] (spLeast) := ⟨x_fLeast, g_fLeast.fd, ok_least g_fLeast.F TX, g_fLeast.B, g_fLeast.F.kp, PySem.W.mg_of X G a_fLeast⟩
  have f_fOther : FOk P w K mg base "search_otherwise" 5 ["table", "case"] (spOther P w K ⟨R, T, S, D⟩) := ⟨x_fOther, g_fOther.fd, ok_other g_fOther.F TX m_tToldIn m_tToldEach c_sI, g_fOther.B, g_fOther.F.kp, PySem.W.mg_of X G a_fOther⟩
  have f_fForces : FOk P w K mg base "forces" 11 ["table", "inputs", "case"] (spForces K ⟨R, T, S, D⟩) := ⟨x_fForces, g_fForces.fd, ok_forces g_fForces.F TX m_tCase f_fAllIn f_fOther m_sEarl, g_fForces.B, g_fForces.F.kp, PySem.W.mg_of X G a_fForces⟩
  have f_fReasons : FOk P w K mg base "all_reasons" 11 ["table", "case"] (spList K ⟨R, T, S, D⟩ MA.ansReasons) := ⟨x_fReasons, g_fReasons.fd, ok_reasons g_fReasons.F TX m_tCase f_fAllIn f_fOther m_sEarl f_fSets f_fLeast, g_fReasons.B, g_fReasons.F.kp, PySem.W.mg_of X G a_fReasons⟩
  have f_fContrasts : FOk P w K mg base "all_contrasts" 11 ["table", "case"] (spList K ⟨R, T, S, D⟩ MA.ansContrasts) := ⟨x_fContrasts, g_fContrasts.fd, ok_contrasts g_fContrasts.F TX m_tCase f_fOther m_sEarl f_fSets f_fLeast, g_fContrasts.B, g_fContrasts.F.kp, PySem.W.mg_of X G a_fContrasts⟩
  have f_fWay : FOk P w K mg base "way" 11 ["table", "t", "case"] (spWay K ⟨R, T, S, D⟩) := ⟨x_fWay, g_fWay.fd, ok_way g_fWay.F TX m_tCase m_tToldEach c_sI m_sEarl f_fSets f_fSize, g_fWay.B, g_fWay.F.kp, PySem.W.mg_of X G a_fWay⟩
  have c_dI : COk P w K mg base "Reader" D 1 ["self", "numbers"] (spDI ⟨R, T, S, D⟩) := ⟨x_dI, g_dI.fd, ok_DI g_dI.F TX, g_dI.B, ⟨mkD, a_dI, i_dI, kcD⟩, PySem.W.mg_of X G aD⟩
  have m_dMore : MOk P w K mg base D "has_more" 1 ["self"] (spMore K ⟨R, T, S, D⟩) := ⟨x_dMore, g_dMore.fd, ok_more g_dMore.F TX, g_dMore.B, ⟨a_dMore, i_dMore, g_dMore.F.kp⟩⟩
  have m_dTake : MOk P w K mg base D "take_number" 1 ["self"] (spTake K ⟨R, T, S, D⟩) := ⟨x_dTake, g_dTake.fd, ok_take g_dTake.F TX, g_dTake.B, ⟨a_dTake, i_dTake, g_dTake.F.kp⟩⟩
  have m_dRow : MOk P w K mg base D "take_row" 2 ["self"] (spRow K ⟨R, T, S, D⟩) := ⟨x_dRow, g_dRow.fd, ok_row g_dRow.F TX m_dTake, g_dRow.B, ⟨a_dRow, i_dRow, g_dRow.F.kp⟩⟩
  have m_dBnds : MOk P w K mg base D "take_bounds" 3 ["self"] (spBnds K ⟨R, T, S, D⟩) := ⟨x_dBnds, g_dBnds.fd, ok_bnds g_dBnds.F TX m_dRow, g_dBnds.B, ⟨a_dBnds, i_dBnds, g_dBnds.F.kp⟩⟩
  have f_fChange : FOk P w K mg base "answer_change" 4 ["call", "reader", "table"] (spChange K ⟨R, T, S, D⟩) := ⟨x_fChange, g_fChange.fd, ok_change g_fChange.F TX m_dTake m_dRow m_dBnds m_tBegin m_tAdd m_tDrop m_tMove, g_fChange.B, g_fChange.F.kp, PySem.W.mg_of X G a_fChange⟩
  have f_fQuest : FOk P w K mg base "answer_question" 12 ["call", "reader", "table"] (spQuest K ⟨R, T, S, D⟩) := ⟨x_fQuest, g_fQuest.fd, ok_quest g_fQuest.F TX m_dTake m_dRow m_tDecide f_fForces f_fReasons f_fContrasts f_fWay, g_fQuest.B, g_fQuest.F.kp, PySem.W.mg_of X G a_fQuest⟩
  exact ok_ans g_fAns.F TX c_dI c_tI m_dMore m_dTake f_fChange f_fQuest
end WD
end
set_option Elab.async false
set_option maxRecDepth 100000
open PySem PySem.W PyProof.Rows
set_option maxHeartbeats 0 in
theorem PySem.Challenge.cw_whydecided_s01_answers_holds : PySem.Challenge.rw_whydecided_s01_answers.Holds := by
  w_on; k_headS; (case hw => exact ⟨[.list [.int 0, .int 0]], by decide +kernel, by decide +kernel⟩)
  k_fillS
  refine L2.walk_ints (r := PySem.Challenge.rw_whydecided_s01_answers) (k := 13) (x := "calls") (sp := WD.spAns) (by decide +kernel) ⟨rfl, by decide, by decide⟩ (fun w h Y => PySem.W.kIn_of Y) ?F ?S
  case F =>
    intro w mg fa h Y KX G hmg
    refine' WD.all_mk KX G hmg ?aR ?aT ?aS ?aD ?a_rI ?i_rI ?g_rI ?a_rHolds ?i_rHolds ?g_rHolds ?a_tI ?i_tI ?g_tI ?a_tBegin ?i_tBegin ?g_tBegin ?a_tAdd ?i_tAdd ?g_tAdd ?a_tFit ?i_tFit ?g_tFit ?a_tDrop ?i_tDrop ?g_tDrop ?a_tMove ?i_tMove ?g_tMove ?a_tDecide ?i_tDecide ?g_tDecide ?a_tCase ?i_tCase ?g_tCase ?a_tFirst ?i_tFirst ?g_tFirst ?a_tToldIn ?i_tToldIn ?g_tToldIn ?a_tToldEach ?i_tToldEach ?g_tToldEach ?a_tAllow ?i_tAllow ?g_tAllow ?a_tTurns ?i_tTurns ?g_tTurns ?a_tPieces ?i_tPieces ?g_tPieces ?a_sI ?i_sI ?g_sI ?a_sEarl ?i_sEarl ?g_sEarl ?a_sNum ?i_sNum ?g_sNum ?a_sTry ?i_sTry ?g_sTry ?a_dI ?i_dI ?g_dI ?a_dMore ?i_dMore ?g_dMore ?a_dTake ?i_dTake ?g_dTake ?a_dRow ?i_dRow ?g_dRow ?a_dBnds ?i_dBnds ?g_dBnds ?a_fAns ?g_fAns ?a_fChange ?g_fChange ?a_fQuest ?g_fQuest ?a_fForces ?g_fForces ?a_fReasons ?g_fReasons ?a_fContrasts ?g_fContrasts ?a_fWay ?g_fWay ?a_fOther ?g_fOther ?a_fAllIn ?g_fAllIn ?a_fSets ?g_fSets ?a_fSize ?g_fSize ?a_fLeast ?g_fLeast ?pgR ?hdR ?poR ?saR ?mkR ?kcR ?nR0 ?nR1 ?pgT ?hdT ?poT ?saT ?mkT ?kcT ?nT0 ?nT1 ?pgS ?hdS ?poS ?saS ?mkS ?kcS ?nS0 ?nS1 ?nS2 ?nS3 ?nS4 ?nS5 ?pgD ?hdD ?poD ?saD ?mkD ?kcD ?nD0 ?nD1 ?zi1 ?zi2 ?zi3 ?zi4 ?zi5 ?zi6 ?zi7 ?zi8 ?zi9 ?zi10 ?zi11 ?zi12 ?zi13 ?zi14 ?zi15 ?zi16 ?b_len ?b_zip ?b_enumerate ?b_range ?b_list ?b_tuple ?b_set ?b_sorted ?b_sum ?b_any
    (case aR => k_is)
    (case aT => k_is)
    (case aS => k_is)
    (case aD => k_is)
    (case a_rI => k_is)
    (case i_rI => k_is)
    (case g_rI => refine' WD.gin3 ?l ?c ?k (fun _ _ _ _ _ _ _ _ _ => rfl); (case l => k_is); (case c => k_is); (case k => k_is))
    (case a_rHolds => k_is)
    (case i_rHolds => k_is)
    (case g_rHolds => refine' WD.gin2 ?l ?c ?k (fun _ _ _ _ _ _ _ _ => rfl); (case l => k_is); (case c => k_is); (case k => k_is))
    (case a_tI => k_is)
    (case i_tI => k_is)
    (case g_tI => refine' WD.gin1 ?l ?c ?k (fun _ _ _ _ _ _ _ => rfl); (case l => k_is); (case c => k_is); (case k => k_is))
    (case a_tBegin => k_is)
    (case i_tBegin => k_is)
    (case g_tBegin => refine' WD.gin2 ?l ?c ?k (fun _ _ _ _ _ _ _ _ => rfl); (case l => k_is); (case c => k_is); (case k => k_is))
    (case a_tAdd => k_is)
    (case i_tAdd => k_is)
    (case g_tAdd => refine' WD.gin3 ?l ?c ?k (fun _ _ _ _ _ _ _ _ _ => rfl); (case l => k_is); (case c => k_is); (case k => k_is))
    (case a_tFit => k_is)
    (case i_tFit => k_is)
    (case g_tFit => refine' WD.gin2 ?l ?c ?k (fun _ _ _ _ _ _ _ _ => rfl); (case l => k_is); (case c => k_is); (case k => k_is))
    (case a_tDrop => k_is)
    (case i_tDrop => k_is)
    (case g_tDrop => refine' WD.gin2 ?l ?c ?k (fun _ _ _ _ _ _ _ _ => rfl); (case l => k_is); (case c => k_is); (case k => k_is))
    (case a_tMove => k_is)
    (case i_tMove => k_is)
    (case g_tMove => refine' WD.gin3 ?l ?c ?k (fun _ _ _ _ _ _ _ _ _ => rfl); (case l => k_is); (case c => k_is); (case k => k_is))
    (case a_tDecide => k_is)
    (case i_tDecide => k_is)
    (case g_tDecide => refine' WD.gin2 ?l ?c ?k (fun _ _ _ _ _ _ _ _ => rfl); (case l => k_is); (case c => k_is); (case k => k_is))
    (case a_tCase => k_is)
    (case i_tCase => k_is)
    (case g_tCase => refine' WD.gin2 ?l ?c ?k (fun _ _ _ _ _ _ _ _ => rfl); (case l => k_is); (case c => k_is); (case k => k_is))
    (case a_tFirst => k_is)
    (case i_tFirst => k_is)
    (case g_tFirst => refine' WD.gin2 ?l ?c ?k (fun _ _ _ _ _ _ _ _ => rfl); (case l => k_is); (case c => k_is); (case k => k_is))
    (case a_tToldIn => k_is)
    (case i_tToldIn => k_is)
    (case g_tToldIn => refine' WD.gin2 ?l ?c ?k (fun _ _ _ _ _ _ _ _ => rfl); (case l => k_is); (case c => k_is); (case k => k_is))
    (case a_tToldEach => k_is)
    (case i_tToldEach => k_is)
    (case g_tToldEach => refine' WD.gin1 ?l ?c ?k (fun _ _ _ _ _ _ _ => rfl); (case l => k_is); (case c => k_is); (case k => k_is))
    (case a_tAllow => k_is)
    (case i_tAllow => k_is)
    (case g_tAllow => refine' WD.gin3 ?l ?c ?k (fun _ _ _ _ _ _ _ _ _ => rfl); (case l => k_is); (case c => k_is); (case k => k_is))
    (case a_tTurns => k_is)
    (case i_tTurns => k_is)
    (case g_tTurns => refine' WD.gin2 ?l ?c ?k (fun _ _ _ _ _ _ _ _ => rfl); (case l => k_is); (case c => k_is); (case k => k_is))
    (case a_tPieces => k_is)
    (case i_tPieces => k_is)
    (case g_tPieces => refine' WD.gin2 ?l ?c ?k (fun _ _ _ _ _ _ _ _ => rfl); (case l => k_is); (case c => k_is); (case k => k_is))
    (case a_sI => k_is)
    (case i_sI => k_is)
    (case g_sI => refine' WD.gin4 ?l ?c ?k (fun _ _ _ _ _ _ _ _ _ _ => rfl); (case l => k_is); (case c => k_is); (case k => k_is))
    (case a_sEarl => k_is)
    (case i_sEarl => k_is)
    (case g_sEarl => refine' WD.gin2 ?l ?c ?k (fun _ _ _ _ _ _ _ _ => rfl); (case l => k_is); (case c => k_is); (case k => k_is))
    (case a_sNum => k_is)
    (case i_sNum => k_is)
    (case g_sNum => refine' WD.gin3 ?l ?c ?k (fun _ _ _ _ _ _ _ _ _ => rfl); (case l => k_is); (case c => k_is); (case k => k_is))
    (case a_sTry => k_is)
    (case i_sTry => k_is)
    (case g_sTry => refine' WD.gin3 ?l ?c ?k (fun _ _ _ _ _ _ _ _ _ => rfl); (case l => k_is); (case c => k_is); (case k => k_is))
    (case a_dI => k_is)
    (case i_dI => k_is)
    (case g_dI => refine' WD.gin2 ?l ?c ?k (fun _ _ _ _ _ _ _ _ => rfl); (case l => k_is); (case c => k_is); (case k => k_is))
    (case a_dMore => k_is)
    (case i_dMore => k_is)
    (case g_dMore => refine' WD.gin1 ?l ?c ?k (fun _ _ _ _ _ _ _ => rfl); (case l => k_is); (case c => k_is); (case k => k_is))
    (case a_dTake => k_is)
    (case i_dTake => k_is)
    (case g_dTake => refine' WD.gin1 ?l ?c ?k (fun _ _ _ _ _ _ _ => rfl); (case l => k_is); (case c => k_is); (case k => k_is))
    (case a_dRow => k_is)
    (case i_dRow => k_is)
    (case g_dRow => refine' WD.gin1 ?l ?c ?k (fun _ _ _ _ _ _ _ => rfl); (case l => k_is); (case c => k_is); (case k => k_is))
    (case a_dBnds => k_is)
    (case i_dBnds => k_is)
    (case g_dBnds => refine' WD.gin1 ?l ?c ?k (fun _ _ _ _ _ _ _ => rfl); (case l => k_is); (case c => k_is); (case k => k_is))
    (case a_fAns => k_is)
    (case g_fAns => refine' WD.gin1 ?l ?c ?k (fun _ _ _ _ _ _ _ => rfl); (case l => k_is); (case c => k_is); (case k => k_is))
    (case a_fChange => k_is)
    (case g_fChange => refine' WD.gin3 ?l ?c ?k (fun _ _ _ _ _ _ _ _ _ => rfl); (case l => k_is); (case c => k_is); (case k => k_is))
    (case a_fQuest => k_is)
    (case g_fQuest => refine' WD.gin3 ?l ?c ?k (fun _ _ _ _ _ _ _ _ _ => rfl); (case l => k_is); (case c => k_is); (case k => k_is))
    (case a_fForces => k_is)
    (case g_fForces => refine' WD.gin3 ?l ?c ?k (fun _ _ _ _ _ _ _ _ _ => rfl); (case l => k_is); (case c => k_is); (case k => k_is))
    (case a_fReasons => k_is)
    (case g_fReasons => refine' WD.gin2 ?l ?c ?k (fun _ _ _ _ _ _ _ _ => rfl); (case l => k_is); (case c => k_is); (case k => k_is))
    (case a_fContrasts => k_is)
    (case g_fContrasts => refine' WD.gin2 ?l ?c ?k (fun _ _ _ _ _ _ _ _ => rfl); (case l => k_is); (case c => k_is); (case k => k_is))
    (case a_fWay => k_is)
    (case g_fWay => refine' WD.gin3 ?l ?c ?k (fun _ _ _ _ _ _ _ _ _ => rfl); (case l => k_is); (case c => k_is); (case k => k_is))
    (case a_fOther => k_is)
    (case g_fOther => refine' WD.gin2 ?l ?c ?k (fun _ _ _ _ _ _ _ _ => rfl); (case l => k_is); (case c => k_is); (case k => k_is))
    (case a_fAllIn => k_is)
    (case g_fAllIn => refine' WD.gin1 ?l ?c ?k (fun _ _ _ _ _ _ _ => rfl); (case l => k_is); (case c => k_is); (case k => k_is))
    (case a_fSets => k_is)
    (case g_fSets => refine' WD.gin1 ?l ?c ?k (fun _ _ _ _ _ _ _ => rfl); (case l => k_is); (case c => k_is); (case k => k_is))
    (case a_fSize => k_is)
    (case g_fSize => refine' WD.gin1 ?l ?c ?k (fun _ _ _ _ _ _ _ => rfl); (case l => k_is); (case c => k_is); (case k => k_is))
    (case a_fLeast => k_is)
    (case g_fLeast => refine' WD.gin1 ?l ?c ?k (fun _ _ _ _ _ _ _ => rfl); (case l => k_is); (case c => k_is); (case k => k_is))
    (case pgR => k_is)
    (case hdR => k_is)
    (case poR => k_is)
    (case saR => k_is)
    (case mkR => k_is)
    (case kcR => k_is)
    (case nR0 => k_is)
    (case nR1 => k_is)
    (case pgT => k_is)
    (case hdT => k_is)
    (case poT => k_is)
    (case saT => k_is)
    (case mkT => k_is)
    (case kcT => k_is)
    (case nT0 => k_is)
    (case nT1 => k_is)
    (case pgS => k_is)
    (case hdS => k_is)
    (case poS => k_is)
    (case saS => k_is)
    (case mkS => k_is)
    (case kcS => k_is)
    (case nS0 => k_is)
    (case nS1 => k_is)
    (case nS2 => k_is)
    (case nS3 => k_is)
    (case nS4 => k_is)
    (case nS5 => k_is)
    (case pgD => k_is)
    (case hdD => k_is)
    (case poD => k_is)
    (case saD => k_is)
    (case mkD => k_is)
    (case kcD => k_is)
    (case nD0 => k_is)
    (case nD1 => k_is)
    (case zi1 => k_is)
    (case zi2 => k_is)
    (case zi3 => k_is)
    (case zi4 => k_is)
    (case zi5 => k_is)
    (case zi6 => k_is)
    (case zi7 => k_is)
    (case zi8 => k_is)
    (case zi9 => k_is)
    (case zi10 => k_is)
    (case zi11 => k_is)
    (case zi12 => k_is)
    (case zi13 => k_is)
    (case zi14 => k_is)
    (case zi15 => k_is)
    (case zi16 => k_is)
    (case b_len => k_is)
    (case b_zip => k_is)
    (case b_enumerate => k_is)
    (case b_range => k_is)
    (case b_list => k_is)
    (case b_tuple => k_is)
    (case b_set => k_is)
    (case b_sorted => k_is)
    (case b_sum => k_is)
    (case b_any => k_is)
  case S =>
    intro a hwi hask
    have q : ((Codec.inLen 0 30000 a.1 && a.1.all (Codec.inInt (Int.ofNat 0) (Int.ofNat 4294967295))) && true) = true := hwi
    rw [Bool.and_eq_true, Bool.and_eq_true] at q
    refine ⟨a.1, _, rfl, rfl, fun K H p hs => ⟨_, a.1, rfl, hs, fun z hz => ?_, hask, fun H' p hp => ⟨p, rfl, L2.SqL.of hp⟩⟩⟩
    have := List.all_eq_true.mp q.1.2 z hz
    exact (Codec.inInt_iff.mp this).1
#print axioms PySem.Challenge.cw_whydecided_s01_answers_holds
