import PyProof.Rows.All
import Wide.All
import OpenK.AllK
import Wide.FinOn
import PyProof.EqAt
import PyProof.EqKinds
import PyProof.TupleCall
import KE.BitLaws
import Open.SpecLaws
import KE.OsHead
import KE.OsGo
import PyProof.P3Eq
import PyProof.EqLayable
import PyProof.Rows.SortG.SortRunsSt
import KE.KSortTupG
import KE.KDictList
import KE.KDictSum
import PyProof.MinMaxWalk
import PyProof.Rows.CallKwBuiltin
import KE.KItemsList
import PySem.Challenge.RW_ferryways_s01_answers
set_option Elab.async false
set_option linter.all false
set_option maxRecDepth 100000
set_option maxHeartbeats 4000000
section
namespace L2
open PySem PySem.Spec PyProof.Rows
noncomputable abbrev Key := Sum Int Str
noncomputable def keyIs : Key → Value → Bool
  | .inl k, v => Value.isInt k v
  | .inr x, v => Value.isStrOf x v
noncomputable def keyH (w : World) : Key → Int
  | .inl k => hashInt k
  | .inr x => hashStr w x
theorem keyIs_shape : ∀ {k : Key} {v : Value}, keyIs k v = true → (∃ i t, k = Sum.inl i ∧ v = Value.int i t) ∨ (∃ x t, k = Sum.inr x ∧ v = Value.str x t)
  | .inl i, v, h => by
    obtain ⟨t, e⟩ := Value.isInt_shape (k := i) (v := v) h
    exact .inl ⟨i, t, rfl, e⟩
  | .inr x, v, h => by
    obtain ⟨t, e⟩ := Value.isStrOf_shape (x := x) (v := v) h
    exact .inr ⟨x, t, rfl, e⟩
theorem keyIs_int (i : Int) (t : Tok) : keyIs (.inl i) (.int i t) = true := by simp [keyIs, Value.isInt]
theorem keyIs_str (x : Str) (t : Tok) : keyIs (.inr x) (.str x t) = true := by simp [keyIs, Value.isStrOf]
theorem key_ll (a b : Int) : decide ((Sum.inl a : Key) = Sum.inl b) = (a == b) := by
  by_cases e : a = b
  · subst e; simp
  · have h : ¬ (Sum.inl a : Key) = Sum.inl b := fun q => e (Sum.inl.inj q)
    rw [decide_eq_false h]
    exact (beq_eq_false_iff_ne.mpr e).symm
theorem key_rr (a b : Str) : decide ((Sum.inr a : Key) = Sum.inr b) = decide (a = b) := by
  by_cases e : a = b
  · subst e; simp
  · have h : ¬ (Sum.inr a : Key) = Sum.inr b := fun q => e (Sum.inr.inj q)
    rw [decide_eq_false h, decide_eq_false e]
theorem key_lr (a : Int) (b : Str) : decide ((Sum.inl a : Key) = Sum.inr b) = false := decide_eq_false (fun q => nomatch q)
theorem key_rl (a : Str) (b : Int) : decide ((Sum.inr a : Key) = Sum.inl b) = false := decide_eq_false (fun q => nomatch q)
noncomputable def mixKind (prog : Program) (w : World) : PySem.KeyKind prog w Key where
  is := keyIs
  hash := keyH w
  inj := fun v a b ha hb => by
    rcases keyIs_shape ha with ⟨i, t, rfl, rfl⟩ | ⟨x, t, rfl, rfl⟩
    · rcases keyIs_shape hb with ⟨j, u, rfl, e⟩ | ⟨y, u, rfl, e⟩
      · injection e with e1 _; rw [e1]
      · exact nomatch e
    · rcases keyIs_shape hb with ⟨j, u, rfl, e⟩ | ⟨y, u, rfl, e⟩
      · exact nomatch e
      · injection e with e1 _; rw [e1]
  byValue := fun k v h => by
    rcases keyIs_shape h with ⟨i, t, rfl, rfl⟩ | ⟨x, t, rfl, rfl⟩ <;> rfl
  pyHash := fun hv h => by
    rcases keyIs_shape hv with ⟨i, t, rfl, rfl⟩ | ⟨x, t, rfl, rfl⟩
    · exact wpAny_pyHash_int h
    · exact wpAny_pyHash_str h
  eqBool := fun hu hv h => by
    rcases keyIs_shape hu with ⟨i, t, rfl, rfl⟩ | ⟨x, t, rfl, rfl⟩
    · rcases keyIs_shape hv with ⟨j, u, rfl, rfl⟩ | ⟨y, u, rfl, rfl⟩
      · rw [key_ll] at h; exact wpAny_eqBool_int h
      · rw [key_lr] at h; exact SeqAt.EqAt.int_str i t y u _ _ _ _ h
    · rcases keyIs_shape hv with ⟨j, u, rfl, rfl⟩ | ⟨y, u, rfl, rfl⟩
      · rw [key_rl] at h; exact SeqAt.EqAt.str_int x t j u _ _ _ _ h
      · rw [key_rr] at h; exact wpAny_eqBool_str h
  «strs» := fun k x t v h => by
    rcases keyIs_shape h with ⟨i, u, rfl, e⟩ | ⟨y, u, rfl, e⟩
    · exact nomatch e
    · injection e with e1 _
      subst e1
      cases v <;> rfl
theorem mixKind_int (prog : Program) (w : World) (i : Int) (t : Tok) : (mixKind prog w).is (.inl i) (.int i t) = true := keyIs_int i t
theorem mixKind_str (prog : Program) (w : World) (x : Str) (t : Tok) : (mixKind prog w).is (.inr x) (.str x t) = true := keyIs_str x t
end L2
namespace L2
open PySem PySem.Spec PyProof.Rows
inductive V where
  | non | bl (b : Bool) | int (i : Int) | str (x : Str) | byt (b : Array UInt8) | flt (b : UInt64) | ref (a : Addr) | ty (n : String)
  deriving DecidableEq
noncomputable def RelV : V → Value → Prop
  | .non, u => u = Value.none
  | .bl b, u => u = Value.bool b
  | .int i, u => ∃ t, u = Value.int i t
  | .str x, u => ∃ t, u = Value.str x t
  | .byt b, u => ∃ t, u = Value.bytes b t
  | .flt b, u => ∃ t, u = Value.float b t
  | .ref a, u => u = Value.ref a
  | .ty n, u => u = Value.type n
noncomputable abbrev Vals : List V → List Value → Prop := Paired RelV
theorem Vals.length {xs : List V} {us : List Value} (r : Vals xs us) : xs.length = us.length := Paired.length r
theorem Vals.get : ∀ {xs : List V} {us : List Value} {i : Nat} {x : V}, Vals xs us → xs[i]? = some x → ∃ u, us[i]? = some u ∧ RelV x u
  | _, _, _, _, .nil, e => by simp at e
  | _, _, 0, _, .cons r _, e => by simp at e; subst e; exact ⟨_, rfl, r⟩
  | _, _, i + 1, x, .cons _ t, e => by
    obtain ⟨u, h1, h2⟩ := Vals.get (i := i) (x := x) t (by simpa using e)
    exact ⟨u, by simpa using h1, h2⟩
theorem Vals.set {x : V} {u : Value} (r : RelV x u) : ∀ {xs : List V} {us : List Value} (i : Nat), Vals xs us → Vals (xs.set i x) (us.set i u)
  | _, _, _, .nil => .nil
  | _, _, 0, .cons _ t => .cons r t
  | _, _, i + 1, .cons q t => .cons q (Vals.set r i t)
theorem Vals.append : ∀ {xs ys : List V} {us ws : List Value}, Vals xs us → Vals ys ws → Vals (xs ++ ys) (us ++ ws)
  | _, _, _, _, .nil, s => s
  | _, _, _, _, .cons r t, s => .cons r (Vals.append t s)
theorem Vals.take : ∀ {xs : List V} {us : List Value} (n : Nat), Vals xs us → Vals (xs.take n) (us.take n)
  | _, _, 0, _ => .nil
  | _, _, _ + 1, .nil => .nil
  | _, _, n + 1, .cons r t => .cons r (Vals.take n t)
theorem Vals.drop : ∀ {xs : List V} {us : List Value} (n : Nat), Vals xs us → Vals (xs.drop n) (us.drop n)
  | _, _, 0, r => r
  | _, _, _ + 1, .nil => .nil
  | _, _, n + 1, .cons _ t => Vals.drop n t
noncomputable def RelO : Option V → Option Value → Prop
  | some v, some u => RelV v u
  | none, none => True
  | _, _ => False
noncomputable def KV {κ : Type} : List (κ × V) → List (κ × Value) → Prop := Paired fun (p : κ × V) (q : κ × Value) => p.1 = q.1 ∧ RelV p.2 q.2
noncomputable def kV : Key → V
  | .inl i => .int i
  | .inr x => .str x
inductive HO where
  | lst (xs : List V)
  | tup (xs : List V)
  | dK (kvs : List (Key × V)) | dT (kvs : List (List Key × V))
  | set (S : Int → Bool) (n : Nat)
  | ins (C dx : Addr) (fs : List (Str × V))
  | own (x : Addr)
  | xd (fs : List (Str × V))
  | met (f x : Addr)
  | rng (lo hi : Int)
  | frz (o : Obj) (u : HO)
  | tbl (ps : Array Value)
  | ext (φ : Heap → Prop)
noncomputable abbrev Hp := Addr → Option HO
noncomputable def upd (H : Hp) (a : Addr) (o : HO) : Hp := fun b => if b = a then some o else H b
theorem zB {H : Hp} {a : Addr} {o : HO} : upd H a o a = some o := by unfold upd; rw [if_pos rfl]
theorem zE {H : Hp} {a b : Addr} {o : HO} (h : b ≠ a) : upd H a o b = H b := by unfold upd; rw [if_neg h]
theorem upd_upd {H : Hp} {a : Addr} {o u : HO} : upd (upd H a o) a u = upd H a u := by
  funext b; unfold upd; split <;> rfl
theorem ne_of {H : Hp} {a b : Addr} {o u : HO} (h : H a = some o) (h' : H b = some u) (d : o ≠ u) : a ≠ b := by
  intro e; subst e; rw [h] at h'; exact d (Option.some.inj h')
theorem zG {H : Hp} {a b : Addr} {o : HO} (h : H a = some o) (h' : H b = none) : a ≠ b := by
  intro e; subst e; rw [h] at h'; cases h'
section
variable (P : Program) (w : World)
noncomputable def ObjOk (H : Hp) (h : Heap) (a : Addr) : HO → Prop
  | .lst xs => xs.length ≤ sizeLine ∧ ∃ (its : List Value) (n : Nat), Vals xs its ∧ h.get? a = some { cls := .type "list", data := .seq its.toArray n }
  | .tup xs => xs.length ≤ sizeLine ∧ ∃ its : List Value, Vals xs its ∧ IsTup h a its.toArray
  | .dK kvs => kvs.length ≤ sizeLine ∧ (a == sysModules) = false ∧ ∃ vs, KV kvs vs ∧ h.DictOf (mixKind P w) a vs
  | .dT kvs => kvs.length ≤ sizeLine ∧ (a == sysModules) = false ∧ ∃ xs : List (List Key × Addr × Value),
      Paired (fun (p : List Key × V) (q : List Key × Addr × Value) => p.1 = q.1 ∧ H q.2.1 = some (.tup (p.1.map kV)) ∧ RelV p.2 q.2.2) kvs xs ∧
      ∃ o es ep, h.get? a = some o ∧ o.ExactDict ∧ o.data = .dict es ep ∧ es.toList = xs.map (entryOfKey (tupleKind (mixKind P w))) ∧ (xs.map (·.1)).Nodup
  | .set S n => h.SetOf (intKind P w) a S n
  | .ins C dx fs => H dx = some (.own a) ∧ fs.length ≤ 1000 ∧ dx ≠ a ∧ h.get? a = some (PySem.W.instObj C dx) ∧
      ∃ mA, h.Ns1 dx mA ∧ (∀ f, RelO (fs.lookup f) (mA f)) ∧ PySem.Within mA (fs.map (·.1))
  | .own _ => ∃ o, h.get? a = some o
  | .xd fs => ∃ mA, h.Ns1 a mA ∧ ∀ f, RelO (fs.lookup f) (mA f)
  | .rng lo hi => ∃ t u v, h.get? a = some { cls := .type "range", data := .fields #[.int lo t, .int hi u, .int 1 v] }
  | .frz o u => h.get? a = some o ∧ ObjOk H h a u
  | .tbl ps => h.get? a = some { cls := .none, data := .fields ps }
  | .met f x => h.get? a = some (PySem.W.methodObj (.ref f) (.ref x))
  | .ext φ => φ h ∧ (∃ o, h.get? a = some o) ∧ ∀ h1 h2 : Heap, φ h1 → (∀ o, h1.get? a = some o → h2.get? a = some o) → φ h2
noncomputable def HOk (H : Hp) (h : Heap) : Prop := ∀ a o, H a = some o → ObjOk P w H h a o
end
section
variable {P : Program} {w : World} {H H' : Hp} {h h' : Heap} {a : Addr} {o : HO}
theorem ObjOk.lt (x : ObjOk P w H h a o) : a < h.objs.size := by
  cases o with
  | lst xs => obtain ⟨_, _, _, _, e⟩ := x; exact Heap.lt_size e
  | tup xs => obtain ⟨_, _, _, p⟩ := x; exact p.lt
  | dK kvs => obtain ⟨_, _, _, _, o, _, _, e, _⟩ := x; exact Heap.lt_size e
  | dT kvs => obtain ⟨_, _, _, _, o, _, _, e, _⟩ := x; exact Heap.lt_size e
  | set S n => obtain ⟨o, _, _, _, e, _⟩ := x; exact Heap.lt_size e
  | ins C dx fs => obtain ⟨_, _, _, e, _⟩ := x; exact Heap.lt_size e
  | own y => obtain ⟨_, e⟩ := x; exact Heap.lt_size e
  | xd fs => obtain ⟨_, ⟨_, _, _, e, _⟩, _⟩ := x; exact Heap.lt_size e
  | rng lo hi => obtain ⟨_, _, _, e⟩ := x; exact Heap.lt_size e
  | frz ob u => obtain ⟨e, _⟩ := x; exact Heap.lt_size e
  | tbl ps => exact Heap.lt_size (show h.get? a = some _ from x)
  | met f y => exact Heap.lt_size (show h.get? a = some _ from x)
  | ext φ => obtain ⟨_, ⟨_, e⟩, _⟩ := x; exact Heap.lt_size e
theorem Paired.mapP {α β : Type} {F G : α → β → Prop} : ∀ {l₁ : List α} {l₂ : List β}, Paired F l₁ l₂ → (∀ a b, F a b → G a b) → Paired G l₁ l₂
  | _, _, .nil, _ => .nil
  | _, _, .cons r t, f => .cons (f _ _ r) (Paired.mapP t f)
theorem ObjOk.stay (x : ObjOk P w H h a o) (k : ∀ b u, (b = a ∨ H b = some (.own a)) → h.get? b = some u → h'.get? b = some u)
    (ho : ∀ b, H b = some (.own a) → H' b = some (.own a)) (ht : ∀ b xs, H b = some (.tup xs) → H' b = some (.tup xs)) : ObjOk P w H' h' a o := by
  induction o with
  | lst xs => obtain ⟨z, its, n, r, e⟩ := x; exact ⟨z, its, n, r, k _ _ (.inl rfl) e⟩
  | tup xs => obtain ⟨z, its, r, ob, e, c⟩ := x; exact ⟨z, its, r, ob, k _ _ (.inl rfl) e, c⟩
  | dK kvs => obtain ⟨z, y, vs, r, ob, es, ep, e, c⟩ := x; exact ⟨z, y, vs, r, ob, es, ep, k _ _ (.inl rfl) e, c⟩
  | dT kvs =>
    obtain ⟨z, y, xs, r, ob, es, ep, e, c⟩ := x
    exact ⟨z, y, xs, Paired.mapP r fun p q z => ⟨z.1, ht _ _ z.2.1, z.2.2⟩, ob, es, ep, k _ _ (.inl rfl) e, c⟩
  | set S n => obtain ⟨ob, es, ep, t, e, c⟩ := x; exact ⟨ob, es, ep, t, k _ _ (.inl rfl) e, c⟩
  | ins C dx fs =>
    obtain ⟨d, z, ne, e, mA, ⟨od, es, ep, e2, c⟩, r⟩ := x
    exact ⟨ho _ d, z, ne, k _ _ (.inl rfl) e, mA, ⟨od, es, ep, k _ _ (.inr d) e2, c⟩, r⟩
  | own y => obtain ⟨ob, e⟩ := x; exact ⟨ob, k _ _ (.inl rfl) e⟩
  | xd fs => obtain ⟨mA, ⟨od, es, ep, e, c⟩, r⟩ := x; exact ⟨mA, ⟨od, es, ep, k _ _ (.inl rfl) e, c⟩, r⟩
  | rng lo hi => obtain ⟨t, u, v, e⟩ := x; exact ⟨t, u, v, k _ _ (.inl rfl) e⟩
  | frz ob u ih => obtain ⟨e, q⟩ := x; exact ⟨k _ _ (.inl rfl) e, ih q⟩
  | tbl ps =>
    have e : h.get? a = some { cls := .none, data := .fields ps } := x
    show h'.get? a = some { cls := .none, data := .fields ps }
    exact k a _ (.inl rfl) e
  | met f y =>
    have e : h.get? a = some (PySem.W.methodObj (.ref f) (.ref y)) := x
    show h'.get? a = some (PySem.W.methodObj (.ref f) (.ref y))
    exact k a _ (.inl rfl) e
  | ext φ => obtain ⟨p, ⟨o, e⟩, st⟩ := x; exact ⟨st _ _ p fun o q => k _ _ (.inl rfl) q, ⟨o, k _ _ (.inl rfl) e⟩, st⟩
theorem HOk.lt (x : HOk P w H h) (e : H a = some o) : a < h.objs.size := (x a o e).lt
theorem HOk.fresh (x : HOk P w H h) (e : h.objs.size ≤ a) : H a = none := by
  cases q : H a with
  | none => rfl
  | some u => exact absurd (Nat.lt_of_lt_of_le (x.lt q) e) (Nat.lt_irrefl _)
theorem HOk.kept (x : HOk P w H h) (k : ∀ b u, h.get? b = some u → h'.get? b = some u) : HOk P w H h' := fun a o e =>
  (x a o e).stay (fun b u _ q => k b u q) (fun _ q => q) fun _ _ q => q
theorem HOk.laid (x : HOk P w H h) (k : ∀ b u, h.get? b = some u → h'.get? b = some u) (hp : h.objs.size ≤ a) (new : ObjOk P w (upd H a o) h' a o) : HOk P w (upd H a o) h' := fun b u e => by
  have hn := x.fresh hp
  by_cases hb : b = a
  · subst hb; rw [zB] at e; cases e; exact new
  · rw [zE hb] at e
    exact (x b u e).stay (fun c v _ q => k c v q) (fun c q => by rw [zE (zG q hn)]; exact q) fun c xs q => by rw [zE (zG q hn)]; exact q
end
noncomputable def Rd (H : Hp) (a : Addr) (u : HO) : Prop := H a = some u ∨ ∃ o, H a = some (.frz o u)
theorem Rd.ok {P : Program} {w : World} {H : Hp} {h : Heap} {a : Addr} {u : HO} (r : Rd H a u) (x : HOk P w H h) : ObjOk P w H h a u := by
  rcases r with r | ⟨o, r⟩
  · exact x a u r
  · obtain ⟨_, q⟩ := x a _ r
    exact q
noncomputable def Mut : Option HO → Prop
  | some (.lst _) => True
  | some (.dK _) => True
  | some (.dT _) => True
  | some (.set _ _) => True
  | some (.ins _ _ _) => True
  | some (.ext _) => True
  | _ => False
section
variable {P : Program} {w : World} {H : Hp} {h h' : Heap} {x e : Addr} {o' : HO}
theorem HOk.write (ok : HOk P w H h) (mu : Mut (H x)) (he : e = x ∨ H e = some (.own x)) (k : ∀ b u, b ≠ e → h.get? b = some u → h'.get? b = some u) (heo : ∃ u, h'.get? e = some u)
    (new : ObjOk P w (upd H x o') h' x o') : HOk P w (upd H x o') h' := fun b u q => by
  have nown : ∀ c y, H c = some (.own y) → c ≠ x := fun c y r z => by subst z; rw [r] at mu; exact mu
  have ntup : ∀ c xs, H c = some (.tup xs) → c ≠ x := fun c xs r z => by subst z; rw [r] at mu; exact mu
  by_cases hb : b = x
  · subst hb; rw [zB] at q; cases q; exact new
  · rw [zE hb] at q
    by_cases hbe : b = e
    · have q' : H b = some (.own x) := by
        rcases he with z | z
        · exact absurd (hbe.trans z) hb
        · rw [hbe]; exact z
      rw [q] at q'; cases q'
      obtain ⟨v, hv⟩ := heo
      exact ⟨v, by rw [hbe]; exact hv⟩
    · refine (ok b u q).stay (fun c v hc r => k c v ?_ r) (fun c r => by rw [zE (nown c b r)]; exact r) fun c xs r => by rw [zE (ntup c xs r)]; exact r
      rcases hc with rfl | hc
      · exact hbe
      · rintro rfl
        rcases he with z | z
        · exact nown c b hc z
        · rw [hc] at z; cases z; exact hb rfl
end
structure Un (fs ex : List Addr) (H H' : Hp) (h h' : Heap) : Prop where
  keep : ∀ b o, h.get? b = some o → H b = none → b ∉ fs → b ∉ ex → h'.get? b = some o
  slot : ∀ b o, h.get? b = some o → H b = none → b ∈ fs → b ∉ ex → ∃ sl, h'.get? b = some { o with slots := sl }
  free : ∀ b o, h.get? b = some o → H b = none → b ∉ ex → H' b = none
  there : ∀ b o, h.get? b = some o → b ∉ ex → ∃ o', h'.get? b = some o'
  tups : ∀ b xs, H b = some (.tup xs) → H' b = some (.tup xs)
  frzs : ∀ b o u, H b = some (.frz o u) → H' b = some (.frz o u)
  tbls : ∀ b ps, H b = some (.tbl ps) → ∃ more, H' b = some (.tbl (ps ++ more))
section
variable {fs fs' ex ex' : List Addr} {H H1 H2 : Hp} {h h1 h2 h' : Heap} {a x e : Addr} {o : HO}
theorem Un.any (u : Un fs ex H H1 h h1) {b : Addr} {ob : Obj} (q : h.get? b = some ob) (n : H b = none) (hx : b ∉ ex) : ∃ sl, h1.get? b = some { ob with slots := sl } := by
  by_cases hb : b ∈ fs
  · exact u.slot b ob q n hb hx
  · exact ⟨ob.slots, u.keep b ob q n hb hx⟩
theorem Un.kept (k : ∀ b u, h.get? b = some u → h'.get? b = some u) : Un fs ex H H h h' :=
  ⟨fun b ob q _ _ _ => k b ob q, fun b ob q _ _ _ => ⟨ob.slots, k b ob q⟩, fun _ _ _ n _ => n, fun b ob q _ => ⟨ob, k b ob q⟩, fun _ _ q => q, fun _ _ _ q => q, fun _ ps q => ⟨#[], by rw [q]; simp⟩⟩
theorem Un.refl : Un fs ex H H h h := Un.kept fun _ _ q => q
theorem Un.laid (k : ∀ b u, h.get? b = some u → h'.get? b = some u) (hp : h.objs.size ≤ a) (hn : H a = none) : Un fs ex H (upd H a o) h h' where
  keep := fun b u q _ _ _ => k b u q
  slot := fun b u q _ _ _ => ⟨u.slots, k b u q⟩
  free := fun b u q n _ => by rw [zE (Nat.ne_of_lt (Nat.lt_of_lt_of_le (Heap.lt_size q) hp))]; exact n
  there := fun b u q _ => ⟨u, k b u q⟩
  tups := fun b xs q => by rw [zE (zG q hn)]; exact q
  frzs := fun b u xs q => by rw [zE (zG q hn)]; exact q
  tbls := fun b ps q => ⟨#[], by rw [zE (zG q hn), q]; simp⟩
theorem Un.write (mu : Mut (H x)) (he : e = x ∨ H e = some (.own x)) (k : ∀ b u, b ≠ e → h.get? b = some u → h'.get? b = some u) (heo : ∃ u, h'.get? e = some u) : Un fs ex H (upd H x o) h h' := by
  have hx : ∀ b, H b = none → b ≠ x := fun b n z => by subst z; rw [n] at mu; exact mu
  have hb : ∀ b, H b = none → b ≠ e := fun b n z => by
    subst z
    rcases he with r | r
    · exact hx b n r
    · rw [n] at r; cases r
  have hm : ∀ b u, H b = some u → ¬ Mut (some u) → b ≠ x := fun b u q nm z => by subst z; rw [q] at mu; exact nm mu
  refine ⟨fun b u q n _ _ => k b u (hb b n) q, fun b u q n _ _ => ⟨u.slots, k b u (hb b n) q⟩, fun b u q n _ => by rw [zE (hx b n)]; exact n, fun b u q _ => ?_,
    fun b xs q => by rw [zE (hm b _ q fun z => z)]; exact q, fun b u xs q => by rw [zE (hm b _ q fun z => z)]; exact q, fun b ps q => ⟨#[], by rw [zE (hm b _ q fun z => z), q]; simp⟩⟩
  by_cases hbe : b = e
  · subst hbe; exact heo
  · exact ⟨u, k b u hbe q⟩
end
noncomputable def trk (h : Heap) (H : Hp) : List Addr := (List.range h.objs.size).filter fun a => (H a).isSome
noncomputable def hidT (h : Heap) (H : Hp) : Heap := PySem.W.hideAll h (trk h H)
theorem hidT_size (h : Heap) (H : Hp) : (hidT h H).objs.size = h.objs.size := PySem.W.hideAll_size _ _
theorem hidT_get {h : Heap} {H : Hp} {b : Addr} {o : Obj} (e : h.get? b = some o) (n : H b = none) : (hidT h H).get? b = some o :=
  PySem.W.hideAll_get _ e fun hm => by
    have q : (H b).isSome = true := (List.mem_filter.mp hm).2
    rw [n] at q; simp at q
theorem of_hidT {h : Heap} {H : Hp} {b : Addr} {o : Obj} (e : (hidT h H).get? b = some o) : h.get? b = some o ∧ H b = none := by
  have e' : h.get? b = some o := PySem.W.of_hideAll (trk h H) e
  refine ⟨e', ?_⟩
  cases q : H b with
  | none => rfl
  | some x =>
    have hm : b ∈ trk h H := List.mem_filter.mpr ⟨List.mem_range.mpr (Heap.lt_size e'), by simp [q]⟩
    have z : (hidT h H).get? b = none := PySem.W.hideAll_none (trk h H) hm
    rw [z] at e; cases e
end L2
namespace L2
open PySem PySem.Spec PyProof.Rows
structure Mod (K : PySem.W.Frag) (mg : Str → Option Value) (base : Heap) : Prop where
  kin : K.In base
  glob : base.Ns mainGlobals mg
  blt : ∃ mb, base.Ns builtinsNs mb ∧ ∀ x : Str, x ≠ "__name__" → mb x = bootBuiltins x
  nolimit : base.NoLimit
structure Cx where
  prog : Program
  w : World
  K : PySem.W.Frag
  mg : Str → Option Value
  base : Heap
  A : Around
  N : List Str
  s_0 : Shared
  H_0 : Hp
  env : Env
  outer : List Env
  stack : List Env
  ex : List Addr
  fn : Str → Bool
  calm : Bool
  pn : List (Addr × Obj)
  xe : Value → Shared → Prop
noncomputable def frs (l : List Env) : List Addr := l.filterMap (·.frame)
noncomputable abbrev Cx.fs (X : Cx) : List Addr := frs X.outer
noncomputable def Vis (sc : Scope) (x : Str) : Prop := sc.names.lookup x = some .local ∨ sc.names.lookup x = some .cell ∨ sc.names.lookup x = some .free
noncomputable def Loc (sc : Scope) (x : Str) : Prop := sc.names.lookup x = some .local ∨ sc.names.lookup x = some .cell
noncomputable def Look (env : Env) (h : Heap) (m : Str → Option Value) (x : Str) (u : Value) : Prop :=
  (env.kindOf x = some .local ∧ m x = some u) ∨ ((env.kindOf x = some .cell ∨ env.kindOf x = some .free) ∧ ∃ c, env.cells.lookup x = some c ∧ h.IsCell c (some u))
structure Cx.Ok (X : Cx) : Prop where
  mod : Mod X.K X.mg X.base
  kind : X.env.scope.kind = .function
  glob : X.env.globals = mainGlobals
  blt : X.env.builtins = builtinsNs
  above : X.s_0.heap.objs.size ≤ X.env.locals
  inj : ∀ x y c, X.env.cells.lookup x = some c → X.env.cells.lookup y = some c → x = y
  has : ∀ x, (X.env.kindOf x = some .cell ∨ X.env.kindOf x = some .free) → ∃ c, X.env.cells.lookup x = some c
  cab : ∀ x c, X.fn x = true → X.env.cells.lookup x = some c → X.s_0.heap.objs.size ≤ c
  hd : X.calm = true → X.A.handled = none
  frames : X.A.frames = some X.stack
  stk : X.stack = X.outer ∨ (X.stack = X.env :: X.outer ∧ X.env.frame = some X.env.locals)
  exf : ∀ b ∈ X.ex, b ≠ X.env.locals ∧ ∀ x c, X.env.cells.lookup x = some c → c ≠ b
  bs : ∀ b o, X.base.get? b = some o → X.s_0.heap.get? b = some o ∧ X.H_0 b = none
  bsz : X.base.objs.size ≤ X.s_0.heap.objs.size
  noex : ∀ b o, X.base.get? b = some o → b ∉ X.ex
  exfs : ∀ b ∈ X.ex, b ∉ X.fs
  funs : X.s_0.heap.FunFrames X.base X.outer
  frf : ∀ b ∈ X.fs, X.H_0 b = none
structure Inv (X : Cx) (pins : List (Addr × Obj)) (σ : List (Option V)) (H : Hp) (s : Shared) : Prop where
  ok : X.Ok
  os : s.os = X.s_0.os
  bare : AllBare s.gens
  base : Un X.fs X.ex X.H_0 H X.s_0.heap s.heap
  loc : ∃ m, s.heap.Ns X.env.locals m ∧ ∀ (i : Nat) (x : Str) (v : V), X.N[i]? = some x → σ[i]? = some (some v) → Vis X.env.scope x → ∃ u, RelV v u ∧ Look X.env s.heap m x u
  cell : ∀ x c, X.env.cells.lookup x = some c → ∃ v, s.heap.IsCell c v
  free : H X.env.locals = none
  freeC : ∀ x c, X.env.cells.lookup x = some c → H c = none
  pin : ∀ p ∈ X.pn ++ pins, s.heap.get? p.1 = some p.2 ∧ H p.1 = none ∧ p.1 ≠ X.env.locals ∧ p.1 ∉ X.fs ∧ ∀ v, p.2.data ≠ .cell v
  hok : HOk X.prog X.w H s.heap
  len : σ.length = X.N.length
section
variable {X : Cx} {pins : List (Addr × Obj)} {σ : List (Option V)} {H H' : Hp} {s : Shared} {h' : Heap}
theorem Cx.Ok.nofr (ok : X.Ok) {b : Addr} {o : Obj} (e : X.base.get? b = some o) : b ∉ X.fs := fun hb => by
  have := (ok.funs.mem hb).1
  rw [e] at this; cases this
theorem Inv.bs (I : Inv X pins σ H s) : ∀ b o, X.base.get? b = some o → s.heap.get? b = some o ∧ H b = none := fun b o e =>
  ⟨I.base.keep b o (I.ok.bs b o e).1 (I.ok.bs b o e).2 (I.ok.nofr e) (I.ok.noex b o e), I.base.free b o (I.ok.bs b o e).1 (I.ok.bs b o e).2 (I.ok.noex b o e)⟩
theorem Inv.bk (I : Inv X pins σ H s) : ∀ b o, X.base.get? b = some o → s.heap.get? b = some o := fun b o e => (I.bs b o e).1
theorem Inv.mod (I : Inv X pins σ H s) : Mod X.K X.mg X.base := I.ok.mod
theorem Inv.kIn (I : Inv X pins σ H s) : X.K.In s.heap := I.ok.mod.kin.keeps I.bk
theorem Inv.fr (I : Inv X pins σ H s) : ∃ m, Fr X.base X.env.locals s.heap m :=
  let ⟨m, hn, _⟩ := I.loc
  ⟨m, hn, I.bk, Nat.le_trans I.ok.bsz I.ok.above⟩
theorem Inv.lt (I : Inv X pins σ H s) : X.env.locals < s.heap.objs.size := let ⟨_, hn, _⟩ := I.loc; hn.lt
theorem Inv.sz (I : Inv X pins σ H s) : X.s_0.heap.objs.size ≤ s.heap.objs.size := Nat.le_trans I.ok.above (Nat.le_of_lt I.lt)
theorem Inv.nofs (I : Inv X pins σ H s) {a : Addr} (h : s.heap.objs.size ≤ a) : a ∉ X.fs := fun hb => by
  obtain ⟨_, o, ho, _⟩ := I.ok.funs.mem hb
  exact absurd (Nat.lt_of_lt_of_le (Heap.lt_size ho) (Nat.le_trans I.sz h)) (Nat.lt_irrefl _)
theorem Inv.cne (I : Inv X pins σ H s) : ∀ x c, X.env.cells.lookup x = some c → c ≠ X.env.locals := fun x c e z => by
  obtain ⟨v, o, ho, hd⟩ := I.cell x c e
  obtain ⟨m, ⟨o', es, ep, ho', hd', _⟩, _⟩ := I.loc
  rw [z, ho'] at ho; cases ho; rw [hd'] at hd; cases hd
theorem Inv.funs (I : Inv X pins σ H s) : s.heap.FunFrames X.base X.outer := by
  have all : ∀ (l : List Env), (∀ b ∈ frs l, b ∈ X.fs) → X.s_0.heap.FunFrames X.base l → s.heap.FunFrames X.base l := by
    intro l
    induction l with
    | nil => intro _ _; trivial
    | cons env r ih =>
      intro hs hl
      obtain ⟨hk, ⟨L, o, hf, hn, ho, hd⟩, hr⟩ := hl
      have hL : L ∈ X.fs := hs L (by unfold frs; rw [List.filterMap_cons, hf]; exact List.mem_cons_self)
      obtain ⟨sl, e⟩ := I.base.slot L o ho (I.ok.frf L hL) hL fun z => I.ok.exfs L z hL
      exact ⟨hk, ⟨L, _, hf, hn, e, hd⟩, ih (fun b hb => hs b (by unfold frs; rw [List.filterMap_cons, hf]; exact List.mem_cons_of_mem _ hb)) hr⟩
  exact all X.outer (fun _ hb => hb) I.ok.funs
theorem Inv.stack (I : Inv X pins σ H s) : s.heap.FunFrames X.base X.stack := by
  rcases I.ok.stk with e | ⟨e, hf⟩
  · rw [e]; exact I.funs
  · rw [e]
    obtain ⟨m, hn, _⟩ := I.loc
    refine .cons (by rw [I.ok.kind]; decide) hf hn ?_ I.funs
    exact Heap.get?_none_of_le (Nat.le_trans I.ok.bsz I.ok.above)
theorem Inv.stkSub (I : Inv X pins σ H s) : ∀ b ∈ frs X.stack, b ∈ X.env.locals :: X.fs := fun b hb => by
  rcases I.ok.stk with e | ⟨e, hf⟩
  · rw [e] at hb; exact List.mem_cons_of_mem _ hb
  · rw [e] at hb
    unfold frs at hb
    rw [List.filterMap_cons, hf] at hb
    exact hb
theorem Inv.stkFree (I : Inv X pins σ H s) : ∀ b ∈ frs X.stack, H b = none := fun b hb => by
  rcases List.mem_cons.mp (I.stkSub b hb) with e | hb
  · rw [e]; exact I.free
  · obtain ⟨_, o, ho, _⟩ := I.ok.funs.mem hb
    exact I.base.free b o ho (I.ok.frf b hb) fun z => I.ok.exfs b z hb
theorem Inv.step {g' : Array GenState} {t' : Nat} {d' : Drawn} {ch : List Addr} (I : Inv X pins σ H s)
    (hch : ∀ b ∈ ch, (b ∈ X.ex ∨ X.s_0.heap.objs.size ≤ b) ∧ b ≠ X.env.locals ∧ (∀ x c, X.env.cells.lookup x = some c → c ≠ b) ∧ ∀ p ∈ X.pn ++ pins, p.1 ≠ b)
    (keep : ∀ b o, b ≠ X.env.locals → b ∉ X.fs → b ∉ ch → s.heap.get? b = some o → H b = none → h'.get? b = some o)
    (slot : ∀ b o, b ≠ X.env.locals → b ∈ X.fs → b ∉ ch → s.heap.get? b = some o → H b = none → ∃ sl, h'.get? b = some { o with slots := sl }) (free : ∀ b o, b ∉ ch → s.heap.get? b = some o → H b = none → H' b = none)
    (there : ∀ b o, b ∉ ch → s.heap.get? b = some o → ∃ o', h'.get? b = some o')
    (tups : ∀ b xs, H b = some (.tup xs) → H' b = some (.tup xs)) (frzs : ∀ b o u, H b = some (.frz o u) → H' b = some (.frz o u)) (tbls : ∀ b ps, H b = some (.tbl ps) → ∃ more, H' b = some (.tbl (ps ++ more)))
    (ns : ∀ m, s.heap.Ns X.env.locals m → h'.Ns X.env.locals m) (hok : HOk X.prog X.w H' h') (hg : AllBare g') :
    Inv X pins σ H' { s with heap := h', gens := g', drawn := d', toks := t' } := by
  have neL : ∀ b o, X.s_0.heap.get? b = some o → b ≠ X.env.locals := fun b o e => Nat.ne_of_lt (Nat.lt_of_lt_of_le (Heap.lt_size e) I.ok.above)
  have neC : ∀ b o, X.s_0.heap.get? b = some o → b ∉ X.ex → b ∉ ch := fun b o e hx hb => by
    rcases (hch b hb).1 with z | z
    · exact hx z
    · exact absurd (Nat.lt_of_lt_of_le (Heap.lt_size e) z) (Nat.lt_irrefl _)
  have cellK : ∀ x c, X.env.cells.lookup x = some c → ∀ v, s.heap.IsCell c v → h'.IsCell c v := fun x c e v ⟨o, ho, hd⟩ => by
    have nch : c ∉ ch := fun z => (hch c z).2.2.1 x c e rfl
    by_cases hc : c ∈ X.fs
    · obtain ⟨sl, q⟩ := slot c o (I.cne x c e) hc nch ho (I.freeC x c e)
      exact ⟨_, q, hd⟩
    · exact ⟨o, keep c o (I.cne x c e) hc nch ho (I.freeC x c e), hd⟩
  refine ⟨I.ok, I.os, hg, ⟨fun b o e n hb hx => ?_, fun b o e n hb hx => ?_, fun b o e n hx => ?_, fun b o e hx => ?_, fun b xs e => tups b xs (I.base.tups b xs e), fun b o xs e => frzs b o xs (I.base.frzs b o xs e), fun b ps e => ?_⟩, ?_, fun x c e => ?_, ?_, fun x c e => ?_, fun p hp => ?_, hok, I.len⟩
  · exact keep b o (neL b o e) hb (neC b o e hx) (I.base.keep b o e n hb hx) (I.base.free b o e n hx)
  · obtain ⟨sl, e1⟩ := I.base.slot b o e n hb hx
    obtain ⟨sl', e2⟩ := slot b _ (neL b o e) hb (neC b o e hx) e1 (I.base.free b o e n hx)
    exact ⟨sl', e2⟩
  · obtain ⟨o', e1⟩ := I.base.there b o e hx
    exact free b o' (neC b o e hx) e1 (I.base.free b o e n hx)
  · obtain ⟨o', e1⟩ := I.base.there b o e hx
    exact there b o' (neC b o e hx) e1
  · obtain ⟨m1, e1⟩ := I.base.tbls b ps e
    obtain ⟨m2, e2⟩ := tbls b _ e1
    exact ⟨m1 ++ m2, by rw [e2, Array.append_assoc]⟩
  · obtain ⟨m, hn, hl⟩ := I.loc
    refine ⟨m, ns m hn, fun i x v e1 e2 e3 => ?_⟩
    obtain ⟨u, r, l⟩ := hl i x v e1 e2 e3
    refine ⟨u, r, ?_⟩
    rcases l with l | ⟨k, c, e, z⟩
    · exact .inl l
    · exact .inr ⟨k, c, e, cellK x c e _ z⟩
  · obtain ⟨v, z⟩ := I.cell x c e
    exact ⟨v, cellK x c e v z⟩
  · obtain ⟨m, ⟨o, _, _, ho, _⟩, _⟩ := I.loc
    exact free _ o (fun z => (hch _ z).2.1 rfl) ho I.free
  · obtain ⟨v, o, ho, hd⟩ := I.cell x c e
    exact free c o (fun z => (hch c z).2.2.1 x c e rfl) ho (I.freeC x c e)
  · obtain ⟨e, n, ne, nf, d⟩ := I.pin p hp
    have nch : p.1 ∉ ch := fun z => (hch p.1 z).2.2.2 p hp rfl
    exact ⟨keep p.1 p.2 ne nf nch e n, free p.1 p.2 nch e n, ne, nf, d⟩
theorem Inv.un {t' : Nat} (I : Inv X pins σ H s) (u : Un X.fs [] H H' s.heap h') (hok : HOk X.prog X.w H' h') : Inv X pins σ H' { s with heap := h', toks := t' } := by
  obtain ⟨m, ⟨o, es, ep, ho, r⟩, _⟩ := id I.loc
  obtain ⟨sl, hL⟩ := u.any ho I.free (by simp)
  exact I.step (g' := s.gens) (d' := s.drawn) (ch := []) (fun _ z => nomatch z) (fun b o _ hb _ e n => u.keep b o e n hb (by simp)) (fun b o _ hb _ e n => u.slot b o e n hb (by simp)) (fun b o _ e n => u.free b o e n (by simp)) (fun b o _ e => u.there b o e (by simp)) u.tups u.frzs u.tbls (fun m' hm => by
    obtain ⟨o', es', ep', ho', r'⟩ := hm
    rw [ho] at ho'; cases ho'
    exact ⟨_, es', ep', hL, r'⟩) hok I.bare
theorem Inv.call {g' : Array GenState} {t' : Nat} {d' : Drawn} {ch : List Addr} (I : Inv X pins σ H s) (u : Un (frs X.stack) ch H H' s.heap h') (hok : HOk X.prog X.w H' h') (hg : AllBare g')
    (hch : ∀ b ∈ ch, (b ∈ X.ex ∨ X.s_0.heap.objs.size ≤ b) ∧ b ≠ X.env.locals ∧ (∀ x c, X.env.cells.lookup x = some c → c ≠ b) ∧ ∀ p ∈ X.pn ++ pins, p.1 ≠ b) :
    Inv X pins σ H' { s with heap := h', gens := g', drawn := d', toks := t' } := by
  obtain ⟨m, ⟨o, es, ep, ho, r⟩, _⟩ := id I.loc
  obtain ⟨sl, hL⟩ := u.any ho I.free fun z => (hch _ z).2.1 rfl
  exact I.step (ch := ch) hch (fun b o hL hb hc e n => u.keep b o e n (fun z => (List.mem_cons.mp (I.stkSub b z)).elim hL hb) hc) (fun b o _ _ hc e n => u.any e n hc) (fun b o hc e n => u.free b o e n hc) (fun b o hc e => u.there b o e hc) u.tups u.frzs u.tbls (fun m' hm => by
    obtain ⟨o', es', ep', ho', r'⟩ := hm
    rw [ho] at ho'; cases ho'
    exact ⟨_, es', ep', hL, r'⟩) hok hg
theorem Inv.turned {t' : Nat} {it : Addr} (I : Inv X pins σ H s) (k : ∀ b o, b ≠ it → s.heap.get? b = some o → h'.get? b = some o) (hn : H it = none) (hL : it ≠ X.env.locals)
    (h1 : it ∈ X.ex ∨ X.s_0.heap.objs.size ≤ it) (h2 : ∀ x c, X.env.cells.lookup x = some c → c ≠ it) (h3 : ∀ p ∈ X.pn ++ pins, p.1 ≠ it) : Inv X pins σ H { s with heap := h', toks := t' } := by
  have nit : ∀ b u, H b = some u → b ≠ it := fun b u e z => by rw [z, hn] at e; cases e
  refine I.step (g' := s.gens) (d' := s.drawn) (ch := [it]) (fun b hb => ?_) (fun b o _ _ hc e _ => k b o (fun z => hc (by simp [z])) e) (fun b o _ _ hc e _ => ⟨o.slots, k b o (fun z => hc (by simp [z])) e⟩) (fun _ _ _ _ n => n)
    (fun b o hc e => ⟨o, k b o (fun z => hc (by simp [z])) e⟩) (fun _ _ e => e) (fun _ _ _ e => e) (fun b ps e => ⟨#[], by rw [e]; simp⟩) (fun m hm => ?_) (fun b u e => ?_) I.bare
  · have e : b = it := by simpa using hb
    subst e
    exact ⟨h1, hL, h2, h3⟩
  · obtain ⟨o, es, ep, ho, r⟩ := hm
    exact ⟨o, es, ep, k _ o (Ne.symm hL) ho, r⟩
  · refine (I.hok b u e).stay (fun c v hc q => k c v ?_ q) (fun _ q => q) fun _ _ q => q
    rcases hc with z | z
    · rw [z]; exact nit b u e
    · exact nit c _ z
theorem Inv.tok (I : Inv X pins σ H s) (t : Nat) : Inv X pins σ H { s with toks := t } := I.un (h' := s.heap) (t' := t) Un.refl I.hok
theorem Inv.kept {t' : Nat} (I : Inv X pins σ H s) (k : ∀ b u, s.heap.get? b = some u → h'.get? b = some u) : Inv X pins σ H { s with heap := h', toks := t' } := I.un (Un.kept k) (I.hok.kept k)
theorem Inv.laid {a : Addr} {o : HO} {t' : Nat} (I : Inv X pins σ H s) (k : ∀ b u, s.heap.get? b = some u → h'.get? b = some u) (hp : s.heap.objs.size ≤ a) (new : ObjOk X.prog X.w (upd H a o) h' a o) :
    Inv X pins σ (upd H a o) { s with heap := h', toks := t' } := I.un (Un.laid k hp (I.hok.fresh hp)) (I.hok.laid k hp new)
theorem Inv.write {x e : Addr} {o : HO} {t' : Nat} (I : Inv X pins σ H s) (mu : Mut (H x)) (he : e = x ∨ H e = some (.own x)) (k : ∀ b u, b ≠ e → s.heap.get? b = some u → h'.get? b = some u) (heo : ∃ u, h'.get? e = some u)
    (new : ObjOk X.prog X.w (upd H x o) h' x o) : Inv X pins σ (upd H x o) { s with heap := h', toks := t' } := I.un (Un.write mu he k heo) (I.hok.write mu he k heo new)
theorem Inv.weak {σ' : List (Option V)} (I : Inv X pins σ H s) (hl : σ'.length = σ.length) (w : ∀ (i : Nat) v, σ'[i]? = some (some v) → σ[i]? = some (some v)) : Inv X pins σ' H s :=
  ⟨I.ok, I.os, I.bare, I.base, let ⟨m, hn, hl'⟩ := I.loc; ⟨m, hn, fun i x v e1 e2 e3 => hl' i x v e1 (w i v e2) e3⟩, I.cell, I.free, I.freeC, I.pin, I.hok, hl.trans I.len⟩
theorem Inv.pins_of {pins' : List (Addr × Obj)} (I : Inv X pins σ H s) (h : ∀ p ∈ pins', s.heap.get? p.1 = some p.2 ∧ H p.1 = none ∧ p.1 ≠ X.env.locals ∧ p.1 ∉ X.fs ∧ ∀ v, p.2.data ≠ .cell v) : Inv X pins' σ H s :=
  ⟨I.ok, I.os, I.bare, I.base, I.loc, I.cell, I.free, I.freeC, fun p hp => (List.mem_append.mp hp).elim (fun z => I.pin p (List.mem_append_left _ z)) (h p), I.hok, I.len⟩
theorem nodup_ix {N : List Str} (hN : N.Nodup) {i j : Nat} {x : Str} (a : N[i]? = some x) (b : N[j]? = some x) : i = j := by
  obtain ⟨h1, e1⟩ := List.getElem?_eq_some_iff.mp a
  obtain ⟨h2, e2⟩ := List.getElem?_eq_some_iff.mp b
  exact (List.getElem_inj hN).mp (e1.trans e2.symm)
theorem store_ok2 {M : Model} {A : Around} {E : Value → Shared → Prop} {i : Nat} {x : Str} {v : V} {u : Value} {Q : Unit → Shared → Prop} (I : Inv X pins σ H s) (hN : X.N.Nodup) (hi : X.N[i]? = some x) (hx : Loc X.env.scope x) (r : RelV v u)
    (h : ∀ s', Inv X pins (σ.set i (some v)) H s' → (∃ a, Heap.SameBut a s.heap s'.heap ∧ (a = X.env.locals ∨ X.env.cells.lookup x = some a)) → Q () s') (hf : X.fn x = true ∨ X.env.scope.names.lookup x = some .local := by first | exact .inl rfl | exact .inr rfl | assumption) : wpAny M A (storeName X.env x u) Q E s := by
  obtain ⟨m, hn, hl⟩ := id I.loc
  have hcls : (X.env.scope.kind == .class || (X.env.scope.kind == .module && X.env.locals != X.env.globals)) = false := by rw [I.ok.kind]; rfl
  have hiσ : i < σ.length := by rw [I.len]; exact (List.getElem?_eq_some_iff.mp hi).1
  have cne := I.cne
  have tracked : ∀ {a : Addr} {h' : Heap}, (∃ o, s.heap.get? a = some o ∧ H a = none) → Heap.SameBut a s.heap h' → HOk X.prog X.w H h' := fun {a h'} ha hs b ob e => by
    obtain ⟨_, _, hfree⟩ := ha
    refine (I.hok b ob e).stay (fun c w' hc q => (hs.2 c ?_).trans q) (fun _ q => q) fun _ _ q => q
    rintro rfl
    rcases hc with rfl | hc
    · rw [hfree] at e; cases e
    · rw [hfree] at hc; cases hc
  rcases hx with hk | hk
  · refine wpAny_storeName_local hk hn (fun h' hn' hs => ?_) hcls
    obtain ⟨oL, _, _, hoL, _⟩ := id hn
    refine h _ ⟨I.ok, I.os, I.bare, ⟨fun b o e n hb hx => ?_, fun b o e n hb hx => ?_, I.base.free, fun b o e hx => ?_, I.base.tups, I.base.frzs, I.base.tbls⟩, ⟨_, hn', fun j y v' e1 e2 e3 => ?_⟩, fun y c e => ?_, I.free, I.freeC, fun p hp => ?_, tracked ⟨oL, hoL, I.free⟩ hs, by simpa using I.len⟩ ⟨_, hs, .inl rfl⟩
    · exact (hs.2 b (Nat.ne_of_lt (Nat.lt_of_lt_of_le (Heap.lt_size e) I.ok.above))).trans (I.base.keep b o e n hb hx)
    · obtain ⟨sl, e1⟩ := I.base.slot b o e n hb hx
      exact ⟨sl, (hs.2 b (Nat.ne_of_lt (Nat.lt_of_lt_of_le (Heap.lt_size e) I.ok.above))).trans e1⟩
    · obtain ⟨o', e1⟩ := I.base.there b o e hx
      exact ⟨o', (hs.2 b (Nat.ne_of_lt (Nat.lt_of_lt_of_le (Heap.lt_size e) I.ok.above))).trans e1⟩
    · by_cases hj : j = i
      · subst hj
        rw [hi] at e1; cases e1
        rw [List.getElem?_set_self hiσ] at e2
        cases e2
        exact ⟨u, r, .inl ⟨hk, by simp⟩⟩
      · rw [List.getElem?_set_ne (Ne.symm hj)] at e2
        obtain ⟨u', r', q⟩ := hl j y v' e1 e2 e3
        refine ⟨u', r', ?_⟩
        rcases q with ⟨k, e⟩ | ⟨k, c, e, z⟩
        · refine .inl ⟨k, ?_⟩
          have : y ≠ x := fun e => hj (nodup_ix hN e1 (e ▸ hi))
          simp [this, e]
        · exact .inr ⟨k, c, e, z.sameBut hs (cne y c e)⟩
    · obtain ⟨w', z⟩ := I.cell y c e
      exact ⟨w', z.sameBut hs (cne y c e)⟩
    · obtain ⟨e, n, ne, nf, d⟩ := I.pin p hp
      exact ⟨(hs.2 p.1 ne).trans e, n, ne, nf, d⟩
  · have hfn : X.fn x = true := by
      rcases hf with z | z
      · exact z
      · rw [z] at hk; cases hk
    obtain ⟨c, hc⟩ := I.ok.has x (.inl hk)
    obtain ⟨w', z⟩ := I.cell x c hc
    refine wpAny_storeName_cell I.ok.kind hk hc z (fun h' hc' hs => ?_)
    obtain ⟨oc, hoc, hocd⟩ := id z
    refine h { s with heap := h' } ⟨I.ok, I.os, I.bare, ⟨fun b o e n hb hx => ?_, fun b o e n hb hx => ?_, I.base.free, fun b o e hx => ?_, I.base.tups, I.base.frzs, I.base.tbls⟩, ⟨m, hn.sameBut hs (Ne.symm (cne x c hc)), fun j y v' e1 e2 e3 => ?_⟩, fun y c' e => ?_, I.free, I.freeC, fun p hp => ?_, tracked ⟨oc, hoc, I.freeC x c hc⟩ hs, by simpa using I.len⟩ ⟨c, hs, .inr hc⟩
    · exact (hs.2 b (Nat.ne_of_lt (Nat.lt_of_lt_of_le (Heap.lt_size e) (I.ok.cab x c hfn hc)))).trans (I.base.keep b o e n hb hx)
    · obtain ⟨sl, e1⟩ := I.base.slot b o e n hb hx
      exact ⟨sl, (hs.2 b (Nat.ne_of_lt (Nat.lt_of_lt_of_le (Heap.lt_size e) (I.ok.cab x c hfn hc)))).trans e1⟩
    · obtain ⟨o', e1⟩ := I.base.there b o e hx
      exact ⟨o', (hs.2 b (Nat.ne_of_lt (Nat.lt_of_lt_of_le (Heap.lt_size e) (I.ok.cab x c hfn hc)))).trans e1⟩
    · by_cases hj : j = i
      · subst hj
        rw [hi] at e1; cases e1
        rw [List.getElem?_set_self hiσ] at e2
        cases e2
        exact ⟨u, r, .inr ⟨.inl hk, c, hc, hc'⟩⟩
      · rw [List.getElem?_set_ne (Ne.symm hj)] at e2
        obtain ⟨u', r', q⟩ := hl j y v' e1 e2 e3
        refine ⟨u', r', ?_⟩
        rcases q with q | ⟨k, c', e, z'⟩
        · exact .inl q
        · refine .inr ⟨k, c', e, z'.sameBut hs ?_⟩
          rintro rfl
          exact hj (nodup_ix hN e1 (I.ok.inj _ _ _ e hc ▸ hi))
    · by_cases hcc : c' = c
      · subst hcc; exact ⟨_, hc'⟩
      · obtain ⟨w2, z2⟩ := I.cell y c' e
        exact ⟨w2, z2.sameBut hs hcc⟩
    · obtain ⟨e, n, ne, nf, d⟩ := I.pin p hp
      refine ⟨(hs.2 p.1 ?_).trans e, n, ne, nf, d⟩
      intro q
      rw [q, hoc] at e
      have q' : oc = p.2 := Option.some.inj e
      exact d w' (by rw [← q']; exact hocd)
theorem store_ok {M : Model} {A : Around} {E : Value → Shared → Prop} {i : Nat} {x : Str} {v : V} {u : Value} {Q : Unit → Shared → Prop} (I : Inv X pins σ H s) (hN : X.N.Nodup) (hi : X.N[i]? = some x) (hx : Loc X.env.scope x) (r : RelV v u)
    (h : ∀ s', Inv X pins (σ.set i (some v)) H s' → Q () s') (hf : X.fn x = true ∨ X.env.scope.names.lookup x = some .local := by first | exact .inl rfl | exact .inr rfl | assumption) : wpAny M A (storeName X.env x u) Q E s :=
  store_ok2 I hN hi hx r (fun s' I' _ => h s' I') hf
theorem Inv.call' {s' : Shared} {ch : List Addr} (I : Inv X pins σ H s) (ho : s'.os = s.os) (u : Un (frs X.stack) ch H H' s.heap s'.heap) (hok : HOk X.prog X.w H' s'.heap) (hg : AllBare s'.gens)
    (hch : ∀ b ∈ ch, (b ∈ X.ex ∨ X.s_0.heap.objs.size ≤ b) ∧ b ≠ X.env.locals ∧ (∀ x c, X.env.cells.lookup x = some c → c ≠ b) ∧ ∀ p ∈ X.pn ++ pins, p.1 ≠ b) : Inv X pins σ H' s' := by
  obtain ⟨h', g', d', t', o'⟩ := s'
  have e : o' = s.os := ho
  subst e
  exact I.call (g' := g') (t' := t') (d' := d') u hok hg hch
end
noncomputable abbrev XK := Value → Option Addr → Hp → Prop
noncomputable abbrev St := List (Option V)
noncomputable abbrev VK := V → Hp → Prop
noncomputable abbrev TE := St → Hp → VK → Prop
noncomputable abbrev TT := St → Hp → (Bool → Hp → Prop) → Prop
noncomputable abbrev TA := St → Hp → (List V → Hp → Prop) → Prop
structure Ends where
  nx : St → Hp → Prop
  rt : VK
  bk : St → Hp → Prop := fun _ _ => False
  ct : St → Hp → Prop := fun _ _ => False
noncomputable abbrev TS := Ends → St → Hp → Prop
noncomputable def EP (X : Cx) (pins : List (Addr × Obj)) (σ : St) (Q : VK) (u : Value) (s' : Shared) : Prop := ∃ v H', Inv X pins σ H' s' ∧ RelV v u ∧ Q v H'
noncomputable def TP (X : Cx) (pins : List (Addr × Obj)) (σ : St) (Q : Bool → Hp → Prop) (b : Bool) (s' : Shared) : Prop := ∃ H', Inv X pins σ H' s' ∧ Q b H'
noncomputable def AP (X : Cx) (pins : List (Addr × Obj)) (σ : St) (Q : List V → Hp → Prop) (us : List Value) (s' : Shared) : Prop := ∃ vs H', Inv X pins σ H' s' ∧ Vals vs us ∧ Q vs H'
noncomputable def SP (X : Cx) (pins : List (Addr × Obj)) (D : Ends) (f : Flow) (s' : Shared) : Prop :=
  match f with
  | .next => ∃ σ' H', Inv X pins σ' H' s' ∧ D.nx σ' H'
  | .brk => ∃ σ' H', Inv X pins σ' H' s' ∧ D.bk σ' H'
  | .cont => ∃ σ' H', Inv X pins σ' H' s' ∧ D.ct σ' H'
  | .ret u => ∃ v σ' H', Inv X pins σ' H' s' ∧ RelV v u ∧ D.rt v H'
noncomputable def PE (X : Cx) (e : Expr) (t : TE) : Prop :=
  ∀ (pins : List (Addr × Obj)) (s : Shared) (σ : St) (H : Hp) (Q : VK), Inv X pins σ H s → t σ H Q → wpAny (model X.prog X.w) X.A (eval e X.env) (EP X pins σ Q) X.xe s
noncomputable def PT (X : Cx) (e : Expr) (t : TT) : Prop :=
  ∀ (pins : List (Addr × Obj)) (s : Shared) (σ : St) (H : Hp) (Q : Bool → Hp → Prop), Inv X pins σ H s → t σ H Q → wpAny (model X.prog X.w) X.A (isTrue e X.env (eval e X.env)) (TP X pins σ Q) X.xe s
noncomputable def PW (X : Cx) (e : Expr) (t : TT) : Prop :=
  ∀ (whole : Sem Value) (pins : List (Addr × Obj)) (s : Shared) (σ : St) (H : Hp) (Q : Bool → Hp → Prop), Inv X pins σ H s → t σ H Q → wpAny (model X.prog X.w) X.A (isTrue e X.env whole) (TP X pins σ Q) X.xe s
theorem PW.pt {X : Cx} {e : Expr} {t : TT} (h : PW X e t) : PT X e t := h _
noncomputable def PA (X : Cx) (es : List Expr) (t : TA) : Prop :=
  ∀ (pos : Pos) (pins : List (Addr × Obj)) (s : Shared) (σ : St) (H : Hp) (Q : List V → Hp → Prop), Inv X pins σ H s → t σ H Q → wpAny (model X.prog X.w) X.A (spliced (backTo pos (starEach es X.env))) (AP X pins σ Q) X.xe s
noncomputable def PS (X : Cx) (st : Stmt) (t : TS) : Prop :=
  ∀ (pins : List (Addr × Obj)) (s : Shared) (σ : St) (H : Hp) (D : Ends), Inv X pins σ H s → t D σ H → wpAny (model X.prog X.w) X.A (exec st X.env) (SP X pins D) X.xe s
noncomputable def PSs (X : Cx) (st : List Stmt) (t : TS) : Prop :=
  ∀ (pins : List (Addr × Obj)) (s : Shared) (σ : St) (H : Hp) (D : Ends), Inv X pins σ H s → t D σ H → wpAny (model X.prog X.w) X.A (execs st X.env) (SP X pins D) X.xe s
theorem thn {α : Type} {t : Sem α} {Q Q' : α → Shared → Prop} {M : Model} {A : Around} {E : Value → Shared → Prop} {s : Shared} (h : wpAny M A t Q E s) (hQ : ∀ a s, Q a s → Q' a s) : wpAny M A t Q' E s := wpAny_mono h hQ fun _ _ x => x
theorem thn5 {α β γ : Type} {t : Sem α} {P1 P2 P3 : β → γ → α → Shared → Prop} {Q' : α → Shared → Prop} {M : Model} {A : Around} {E : Value → Shared → Prop} {s : Shared} (h : wpAny M A t (fun a s => ∃ x y, P1 x y a s ∧ P2 x y a s ∧ P3 x y a s) E s) (k : ∀ a s x y, P1 x y a s → P2 x y a s → P3 x y a s → Q' a s) : wpAny M A t Q' E s := thn h fun a s ⟨x, y, p, q, r⟩ => k a s x y p q r
theorem thn4 {α β γ : Type} {t : Sem α} {P1 P2 : β → γ → α → Shared → Prop} {Q' : α → Shared → Prop} {M : Model} {A : Around} {E : Value → Shared → Prop} {s : Shared} (h : wpAny M A t (fun a s => ∃ x y, P1 x y a s ∧ P2 x y a s) E s) (k : ∀ a s x y, P1 x y a s → P2 x y a s → Q' a s) : wpAny M A t Q' E s := thn h fun a s ⟨x, y, p, q⟩ => k a s x y p q
theorem thn3 {α β : Type} {t : Sem α} {P1 P2 : β → α → Shared → Prop} {Q' : α → Shared → Prop} {M : Model} {A : Around} {E : Value → Shared → Prop} {s : Shared} (h : wpAny M A t (fun a s => ∃ x, P1 x a s ∧ P2 x a s) E s) (k : ∀ a s x, P1 x a s → P2 x a s → Q' a s) : wpAny M A t Q' E s := thn h fun a s ⟨x, p, q⟩ => k a s x p q
end L2
namespace L2
open PySem PySem.Spec PyProof.Rows
section
variable {X : Cx}
inductive IVar (i : Nat) (σ : St) (H : Hp) (Q : VK) : Prop
  | mk (v : V) (_1 : σ[i]? = some (some v)) (_2 : Q v H) : IVar i σ H Q
noncomputable def tVar (i : Nat) : TE := fun σ H Q => IVar i σ H Q
noncomputable def tC (v : V) : TE := fun _ H Q => Q v H
theorem pe_var {i : Nat} {x : Str} {pos : Pos} (hN : X.N[i]? = some x) (hv : Vis X.env.scope x) (hd : (x == ("__debug__" : Str)) = false := by decide) (hcd : (x == ("__classdict__" : Str)) = false := by decide) : PE X (.Name x pos) (tVar i) := by
  intro pins s σ H Q I h
  obtain ⟨v, e, h⟩ := h
  obtain ⟨m, hn, hl⟩ := I.loc
  obtain ⟨u, r, l⟩ := hl i x v hN e hv
  have fin : EP X pins σ Q u s := ⟨v, H, I, r, h⟩
  rcases l with ⟨hk, hm⟩ | ⟨hk, c, hc, hcell⟩
  · exact wpAny_Name (wpAny_loadName_local I.ok.kind hk hn hm fin) hd
  · rcases hk with hk | hk
    · exact wpAny_Name (wpAny_loadName_cell I.ok.kind hk hc hcell fin) hd
    · exact wpAny_Name (wpAny_loadName_free I.ok.kind hk hc hcell fin hcd) hd
theorem zN {i j pos} : PE X (.Constant (.int i) j pos) (tC (.int i)) := fun _ _ _ H _ I h => wpAny_Constant_int ⟨.int i, H, I.tok _, ⟨_, rfl⟩, h⟩
theorem pe_bl {b j pos} : PE X (.Constant (.bool b) j pos) (tC (.bl b)) := fun _ _ _ H _ I h => Constant_bool ⟨.bl b, H, I, rfl, h⟩
theorem pe_non {j pos} : PE X (.Constant .none j pos) (tC .non) := fun _ _ _ H _ I h => Constant_none ⟨.non, H, I, rfl, h⟩
noncomputable def Gl (X : Cx) (x : Str) : Prop := X.env.kindOf x = some .globalImplicit
theorem ld_glob {E : Value → Shared → Prop} {pins : List (Addr × Obj)} {s : Shared} {σ : St} {H : Hp} {x : Str} {u : Value} {pos : Pos} {Q : Value → Shared → Prop} (I : Inv X pins σ H s) (hg : Gl X x) (hm : X.mg x = some u) (h : Q u s)
    (hd : (x == ("__debug__" : Str)) = false := by decide) : wpAny (model X.prog X.w) X.A (eval (.Name x pos) X.env) Q E s :=
  Calls.Name_function_global I.ok.kind hg (Calls.loadGlobal_global (by rw [I.ok.glob]; exact I.mod.glob.keeps I.bk) hm h) hd
theorem ld_blt {E : Value → Shared → Prop} {pins : List (Addr × Obj)} {s : Shared} {σ : St} {H : Hp} {x : Str} {u : Value} {pos : Pos} {Q : Value → Shared → Prop} (I : Inv X pins σ H s) (hg : Gl X x) (hm : X.mg x = none) (hv : bootBuiltins x = some u) (h : Q u s)
    (hn : x ≠ "__name__" := by decide) (hd : (x == ("__debug__" : Str)) = false := by decide) : wpAny (model X.prog X.w) X.A (eval (.Name x pos) X.env) Q E s := by
  obtain ⟨mb, h1, h2⟩ := I.mod.blt
  exact Calls.Name_function_global I.ok.kind hg (Calls.loadGlobal_builtin (by rw [I.ok.glob]; exact I.mod.glob.keeps I.bk) hm (by rw [I.ok.blt]; exact h1.keeps I.bk) ((h2 x hn).trans hv) h) hd
theorem pe_glob {x : Str} {v : V} {u : Value} {pos : Pos} (hg : Gl X x) (hm : X.mg x = some u) (r : RelV v u) (hd : (x == ("__debug__" : Str)) = false := by decide) : PE X (.Name x pos) (tC v) :=
  fun _ _ _ H _ I h => ld_glob I hg hm ⟨v, H, I, r, h⟩ hd
variable {a b : Expr} {ta tb : TE} {pos : Pos}
noncomputable def PC (X : Cx) (op : CmpOp) (a b : Expr) (t : TE) : Prop :=
  ∀ (pins : List (Addr × Obj)) (s : Shared) (σ : St) (H : Hp) (Q : VK), Inv X pins σ H s → t σ H Q →
    wpAny (model X.prog X.w) X.A (eval a X.env) (fun v s₁ => wpAny (model X.prog X.w) X.A (eval b X.env) (fun u s₂ => wpAny (model X.prog X.w) X.A (compareOp op v u) (EP X pins σ Q) X.xe s₂) X.xe s₁) X.xe s
theorem nobehind (b : Expr) {op : CmpOp} (h : op ≠ .In) (h2 : op ≠ .NotIn) : behindInMarks op b = false := by
  have e1 : (op == CmpOp.In) = false := by cases op <;> first | rfl | exact absurd rfl h
  have e2 : (op == CmpOp.NotIn) = false := by cases op <;> first | rfl | exact absurd rfl h2
  cases b <;> simp [behindInMarks, e1, e2]
noncomputable def tIsN (ta : TE) : TE := fun σ H Q => ta σ H fun x H1 => Q (.bl (decide (x = .non))) H1
theorem RelV.none_iff {x : V} {v : Value} (r : RelV x v) : (v == Value.none) = decide (x = .non) := by
  cases x with
  | non => cases r; rfl
  | bl _ => cases r; rfl
  | int _ => obtain ⟨t, rfl⟩ := r; rfl
  | str _ => obtain ⟨t, rfl⟩ := r; rfl
  | byt _ => obtain ⟨t, rfl⟩ := r; rfl
  | flt _ => obtain ⟨t, rfl⟩ := r; rfl
  | ref _ => cases r; rfl
  | ty _ => cases r; rfl
theorem pc_isN {j pos'} (ha : PE X a ta) : PC X .Is a (.Constant .none j pos') (tIsN ta) := by
  intro pins s σ H Q I h
  refine thn5 (ha pins s σ H _ I h) fun v s1 x H1 I1 r1 q1 => ?_
  exact Constant_none (is_none_gen ⟨.bl _, H1, I1, by rw [r1.none_iff]; rfl, q1⟩)
inductive IBl (Q : Bool → Hp → Prop) (x : V) (H : Hp) : Prop
  | mk (c : Bool) (_1 : x = .bl c) (_2 : Q c H) : IBl Q x H
noncomputable def tB (t : TE) : TT := fun σ H Q => t σ H fun x H1 => IBl Q x H1
theorem pt_cmp {op : CmpOp} {t : TE} (h : PC X op a b t) (h1 : behindInMarks op b = false := by first | exact nobehind _ (by decide) (by decide) | rfl) : PT X (.Compare a [op] [b] pos) (tB t) := by
  intro pins s σ H Q I hw
  refine wpAny_isTrue_Compare1 (thn (h pins s σ H _ I hw) fun v s1 h1 => thn h1 fun u s2 h2 => thn5 h2 fun c s3 x H1 I1 r1 q1 => ?_) h1
  obtain ⟨d, rfl, q⟩ := q1
  cases r1
  exact wpAny_truthy_bool ⟨H1, I1, q⟩
theorem pt_val {e : Expr} {t : TE} (h : PE X e t) (he : ∀ whole, isTrue e X.env whole = (do let v ← whole; standAt e.pos; holding [v] (truthy v)) := by intro _; rfl) : PT X e (tB t) := by
  intro pins s σ H Q I hw
  refine isTrue_plain (thn5 (h pins s σ H _ I hw) fun v s1 x H1 I1 r1 q1 => ?_) (he _)
  obtain ⟨d, rfl, q⟩ := q1
  cases r1
  exact wpAny_truthy_bool ⟨H1, I1, q⟩
variable {tA tB' : TT} {rest : List Expr}
noncomputable def tAnd (t u : TT) : TT := fun σ H Q => t σ H fun c H1 => if c = true then u σ H1 Q else Q false H1
noncomputable def tOr (t u : TT) : TT := fun σ H Q => t σ H fun c H1 => if c = true then Q true H1 else u σ H1 Q
noncomputable def tNot (t : TT) : TT := fun σ H Q => t σ H fun c H1 => Q (!c) H1
theorem pw_and1 (ha : PT X a tA) : PW X (.BoolOp .And [a] pos) tA := by
  intro wh pins s σ H Q I h
  refine isTrue_and (thn (ha pins s σ H Q I h) fun c s1 e => ?_)
  cases c with
  | true => exact isTrue_and_nil e
  | false => exact e
theorem pw_or1 (ha : PT X a tA) : PW X (.BoolOp .Or [a] pos) tA := by
  intro wh pins s σ H Q I h
  refine isTrue_or (thn (ha pins s σ H Q I h) fun c s1 e => ?_)
  cases c with
  | false => exact isTrue_or_nil e
  | true => exact e
theorem pw_and (ha : PT X a tA) (hb : PW X (.BoolOp .And (b :: rest) pos) tB') : PW X (.BoolOp .And (a :: b :: rest) pos) (tAnd tA tB') := by
  intro wh pins s σ H Q I h
  refine isTrue_and (thn3 (ha pins s σ H _ I h) fun c s1 H1 I1 q1 => ?_)
  cases c with
  | true => exact hb wh pins s1 σ H1 Q I1 q1
  | false => exact ⟨H1, I1, q1⟩
theorem pw_or (ha : PT X a tA) (hb : PW X (.BoolOp .Or (b :: rest) pos) tB') : PW X (.BoolOp .Or (a :: b :: rest) pos) (tOr tA tB') := by
  intro wh pins s σ H Q I h
  refine isTrue_or (thn3 (ha pins s σ H _ I h) fun c s1 H1 I1 q1 => ?_)
  cases c with
  | true => exact ⟨H1, I1, q1⟩
  | false => exact hb wh pins s1 σ H1 Q I1 q1
theorem pt_not (ha : PT X a tA) : PT X (.UnaryOp .Not a pos) (tNot tA) := by
  intro pins s σ H Q I h
  exact isTrue_not (ha pins s σ H (fun c H1 => Q (!c) H1) I h)
noncomputable def tAndV (ta tb : TE) : TE := fun σ H Q => ta σ H fun x H1 => ∃ c, x = .bl c ∧ if c = true then tb σ H1 Q else Q (.bl false) H1
theorem pe_one {op} {t : TE} (h : PE X a t) : PE X (.BoolOp op [a] pos) t := fun pins s σ H Q I hw => BoolOp_one (h pins s σ H Q I hw)
theorem pe_and (ha : PE X a ta) (hb : PE X (.BoolOp .And (b :: rest) pos) tb) : PE X (.BoolOp .And (a :: b :: rest) pos) (tAndV ta tb) := by
  intro pins s σ H Q I h
  refine BoolOp_and (thn5 (ha pins s σ H _ I h) fun v s1 x H1 I1 r1 q1 => ?_)
  obtain ⟨c, rfl, q1⟩ := q1
  cases r1
  refine wpAny_truthy_bool ?_
  cases c with
  | true => exact hb pins s1 σ H1 Q I1 q1
  | false => exact ⟨.bl false, H1, I1, rfl, q1⟩
noncomputable def tIf (t : TT) (ta tb : TE) : TE := fun σ H Q => t σ H fun c H1 => if c = true then ta σ H1 Q else tb σ H1 Q
theorem pe_ifExp {c : Expr} (hc : PT X c tA) (ha : PE X a ta) (hb : PE X b tb) : PE X (.IfExp c a b pos) (tIf tA ta tb) := by
  intro pins s σ H Q I h
  refine wpAny_IfExp (thn3 (hc pins s σ H _ I h) fun d s1 H1 I1 q1 => ?_)
  cases d with
  | true => exact ha pins s1 σ H1 Q I1 q1
  | false => exact hb pins s1 σ H1 Q I1 q1
end
end L2
namespace L2
open PySem PySem.Spec PyProof.Rows
noncomputable def SqL (K : PySem.W.Frag) (H : Hp) (a : Addr) (xs : List V) : Prop :=
  Rd H a (.lst xs) ∨
    ∃ (o : Obj) (its : Array Value) (n : Nat), K.lookup a = some o ∧ o.cls = .type "list" ∧ o.dict = none ∧ o.data = .seq its n ∧ its.size ≤ sizeLine ∧ Vals xs its.toList
noncomputable def SqT (K : PySem.W.Frag) (H : Hp) (a : Addr) (xs : List V) : Prop :=
  Rd H a (.tup xs) ∨
    ∃ (o : Obj) (its : Array Value) (n : Nat), K.lookup a = some o ∧ o.cls = .type "tuple" ∧ o.data = .seq its n ∧ its.size ≤ sizeLine ∧ Vals xs its.toList
noncomputable def absV : Value → Option V
  | .none => some .non
  | .bool b => some (.bl b)
  | .int i _ => some (.int i)
  | .str x _ => some (.str x)
  | .bytes b _ => some (.byt b)
  | .float b _ => some (.flt b)
  | .ref a => some (.ref a)
  | .type n => some (.ty n)
  | _ => none
theorem RelV.abs {x : V} {u : Value} (r : RelV x u) : absV u = some x := by
  cases x with
  | non => cases r; rfl
  | bl _ => cases r; rfl
  | int _ => obtain ⟨t, rfl⟩ := r; rfl
  | str _ => obtain ⟨t, rfl⟩ := r; rfl
  | byt _ => obtain ⟨t, rfl⟩ := r; rfl
  | flt _ => obtain ⟨t, rfl⟩ := r; rfl
  | ref _ => cases r; rfl
  | ty _ => cases r; rfl
theorem RelV.inj {x y : V} {u : Value} (r : RelV x u) (q : RelV y u) : x = y := Option.some.inj (r.abs.symm.trans q.abs)
theorem Vals.inj {xs ys : List V} {us : List Value} (h : Vals xs us) (h' : Vals ys us) : xs = ys := by
  induction h generalizing ys with
  | nil => cases h'; rfl
  | cons r t ih => cases h' with | cons r' t' => rw [RelV.inj r r', ih t']
section
variable {X : Cx} {pins : List (Addr × Obj)} {σ : St} {H : Hp} {s : Shared} {a : Addr} {xs ys : List V}
theorem SqL.of {K : PySem.W.Frag} (h : H a = some (.lst xs)) : SqL K H a xs := .inl (.inl h)
theorem SqT.of {K : PySem.W.Frag} (h : H a = some (.tup xs)) : SqT K H a xs := .inl (.inl h)
theorem Inv.list (I : Inv X pins σ H s) (h : SqL X.K H a xs) : ∃ its : List Value, Vals xs its ∧ PlainL s.heap a its.toArray ∧ xs.length ≤ sizeLine := by
  rcases h with h | ⟨o, its, n, hk, hc, hd, hs, hz, r⟩
  · obtain ⟨z, its, n, r, e⟩ := h.ok I.hok
    exact ⟨its, r, ⟨_, n, e, rfl, rfl, rfl⟩, z⟩
  · refine ⟨its.toList, r, ⟨o, n, I.kIn a o hk, hc, hd, by simpa using hs⟩, ?_⟩
    have e := r.length
    simp only [Array.length_toList] at e
    lia
theorem Inv.tuple (I : Inv X pins σ H s) (h : SqT X.K H a xs) : ∃ its : List Value, Vals xs its ∧ IsTup s.heap a its.toArray ∧ xs.length ≤ sizeLine := by
  rcases h with h | ⟨o, its, n, hk, hc, hs, hz, r⟩
  · obtain ⟨z, its, r, p⟩ := h.ok I.hok
    exact ⟨its, r, p, z⟩
  · refine ⟨its.toList, r, ⟨o, I.kIn a o hk, hc, n, by simpa using hs⟩, ?_⟩
    have e := r.length
    simp only [Array.length_toList] at e
    lia
theorem Inv.list_inj (I : Inv X pins σ H s) (h : SqL X.K H a xs) (h' : SqL X.K H a ys) : xs = ys := by
  obtain ⟨its, r, ⟨o, n, e, _, _, d⟩, _⟩ := I.list h
  obtain ⟨its', r', ⟨o', n', e', _, _, d'⟩, _⟩ := I.list h'
  rw [e] at e'; cases e'
  rw [d] at d'
  injection d' with d1 _
  have : its = its' := by simpa using congrArg Array.toList d1
  subst this
  exact r.inj r'
end
noncomputable abbrev Cx.wish (X : Cx) (E : Value → Shared → Prop) : Cx := { X with xe := E }
noncomputable abbrev Cx.nox (X : Cx) : Cx := X.wish fun _ _ => False
theorem Cx.Ok.wish {X : Cx} (ok : X.Ok) (E : Value → Shared → Prop) : (X.wish E).Ok :=
  ⟨ok.mod, ok.kind, ok.glob, ok.blt, ok.above, ok.inj, ok.has, ok.cab, ok.hd, ok.frames, ok.stk, ok.exf, ok.bs, ok.bsz, ok.noex, ok.exfs, ok.funs, ok.frf⟩
theorem Cx.Ok.unwish {X : Cx} {E : Value → Shared → Prop} (ok : (X.wish E).Ok) : X.Ok :=
  ⟨ok.mod, ok.kind, ok.glob, ok.blt, ok.above, ok.inj, ok.has, ok.cab, ok.hd, ok.frames, ok.stk, ok.exf, ok.bs, ok.bsz, ok.noex, ok.exfs, ok.funs, ok.frf⟩
section
variable {X : Cx} {pins : List (Addr × Obj)} {σ : St} {H : Hp} {s : Shared} {E : Value → Shared → Prop}
theorem Inv.wish (I : Inv X pins σ H s) (E : Value → Shared → Prop) : Inv (X.wish E) pins σ H s := ⟨I.ok.wish E, I.os, I.bare, I.base, I.loc, I.cell, I.free, I.freeC, I.pin, I.hok, I.len⟩
theorem Inv.unwish (I : Inv (X.wish E) pins σ H s) : Inv X pins σ H s := ⟨I.ok.unwish, I.os, I.bare, I.base, I.loc, I.cell, I.free, I.freeC, I.pin, I.hok, I.len⟩
theorem SP.unwish {D : Ends} {f : Flow} {s' : Shared} (h : SP (X.wish E) pins D f s') : SP X pins D f s' := by
  cases f with
  | next => obtain ⟨σ', H', I, q⟩ := h; exact ⟨σ', H', I.unwish, q⟩
  | brk => obtain ⟨σ', H', I, q⟩ := h; exact ⟨σ', H', I.unwish, q⟩
  | cont => obtain ⟨σ', H', I, q⟩ := h; exact ⟨σ', H', I.unwish, q⟩
  | ret u => obtain ⟨v, σ', H', I, r, q⟩ := h; exact ⟨v, σ', H', I.unwish, r, q⟩
theorem PSs.nox {st : List Stmt} {t : TS} (h : PSs X.nox st t) : PSs X st t := fun pins s σ H D I hw =>
  wpAny_mono (h pins s σ H D (I.wish _) hw) (fun _ _ q => q.unwish) fun _ _ z => False.elim z
end
section
variable {X : Cx} {st : Stmt} {rest : List Stmt} {t u : TS} {e : Expr} {te : TE} {pos : Pos}
noncomputable def tNext : TS := fun D σ H => D.nx σ H
noncomputable def tSeq (t u : TS) : TS := fun D σ H => t { D with nx := u D } σ H
theorem zM : PSs X [] tNext := fun _ _ σ H _ I h => wpAny_execs_nil ⟨σ, H, I, h⟩
theorem zC (h1 : PS X st t) (h2 : PSs X rest u) : PSs X (st :: rest) (tSeq t u) := by
  intro pins s σ H D I h
  refine wpAny_execs_cons (thn (h1 pins s σ H { D with nx := u D } I h) fun f s1 q => ?_)
  cases f with
  | next =>
    obtain ⟨σ', H', I', q⟩ := q
    exact h2 pins s1 σ' H' D I' q
  | ret v => exact q
  | brk => exact q
  | cont => exact q
theorem zD (h1 : PS X st t) : PSs X [st] t := by
  intro pins s σ H D I h
  refine wpAny_execs_cons (thn (h1 pins s σ H D I h) fun f s1 q => ?_)
  cases f with
  | next => exact wpAny_execs_nil q
  | ret v => exact q
  | brk => exact q
  | cont => exact q
theorem Inv.quiet {pins : List (Addr × Obj)} {σ : St} {H : Hp} {s : Shared} (I : Inv X pins σ H s) : interactive X.env = false := by simp [interactive, I.ok.kind]
noncomputable def tDrop (te : TE) : TS := fun D σ H => te σ H fun _ H1 => D.nx σ H1
theorem ps_expr (he : PE X e te) (hs : swapsWith e none pos.line X.env = pure false := by rfl) : PS X (.Expr e pos) (tDrop te) := by
  intro pins s σ H D I h
  exact wpAny_Expr_any (thn5 (he pins s σ H _ I h) fun v s1 x H1 I1 r1 q1 => ⟨σ, H1, I1, q1⟩) I.quiet hs
noncomputable def tRet (te : TE) : TS := fun D σ H => te σ H D.rt
theorem zL (he : PE X e te) : PS X (.Return (some e) pos) (tRet te) := by
  intro pins s σ H D I h
  exact wpAny_Return_some (thn5 (he pins s σ H _ I h) fun v s1 x H1 I1 r1 q1 => ⟨x, σ, H1, I1, r1, q1⟩)
noncomputable def tIfS (c : TT) (t u : TS) : TS := fun D σ H => c σ H fun b H1 => if b = true then t D σ H1 else u D σ H1
theorem ps_if {c : Expr} {a b : List Stmt} {tc : TT} (hc : PT X c tc) (ha : PSs X a t) (hb : PSs X b u) : PS X (.If c a b pos) (tIfS tc t u) := by
  intro pins s σ H D I h
  refine wpAny_If (thn3 (hc pins s σ H _ I h) fun d s1 H1 I1 q1 => ?_)
  cases d with
  | true => exact ha pins s1 σ H1 D I1 q1
  | false => exact hb pins s1 σ H1 D I1 q1
end
noncomputable abbrev TG := V → St → Hp → (St → Hp → Prop) → Prop
noncomputable abbrev TGs := List V → St → Hp → (St → Hp → Prop) → Prop
noncomputable def PG (X : Cx) (target : Expr) (t : TG) : Prop :=
  ∀ (pins : List (Addr × Obj)) (s : Shared) (σ : St) (H : Hp) (v : V) (u : Value) (Q : St → Hp → Prop), Inv X pins σ H s → RelV v u → t v σ H Q →
    wpAny (model X.prog X.w) X.A (assign target X.env u) (fun _ s' => ∃ σ' H', Inv X pins σ' H' s' ∧ Q σ' H') X.xe s
noncomputable def PGs (X : Cx) (ts : List Expr) (t : TGs) : Prop :=
  ∀ (pins : List (Addr × Obj)) (s : Shared) (σ : St) (H : Hp) (vs : List V) (us : List Value) (Q : St → Hp → Prop), Inv X pins σ H s → Vals vs us → t vs σ H Q →
    wpAny (model X.prog X.w) X.A (assignInOrder ((assignEach ts X.env).map (·.2)) us) (fun _ s' => ∃ σ' H', Inv X pins σ' H' s' ∧ Q σ' H') X.xe s
noncomputable abbrev TSet := V → V → V → Hp → (Hp → Prop) → Prop
noncomputable def PSet (X : Cx) (t : TSet) : Prop :=
  ∀ (pins : List (Addr × Obj)) (s : Shared) (σ : St) (H : Hp) (o i v : V) (ov iv u : Value) (Q : Hp → Prop), Inv X pins σ H s → RelV o ov → RelV i iv → RelV v u → t o i v H Q →
    wpAny (model X.prog X.w) X.A (setItem ov iv u) (fun _ s' => ∃ H', Inv X pins σ H' s' ∧ Q H') X.xe s
noncomputable abbrev TIp := V → V → Hp → VK → Prop
noncomputable def PIp (X : Cx) (op : Operator) (t : TIp) : Prop :=
  ∀ (pins : List (Addr × Obj)) (s : Shared) (σ : St) (H : Hp) (x y : V) (v u : Value) (Q : VK), Inv X pins σ H s → RelV x v → RelV y u → t x y H Q →
    wpAny (model X.prog X.w) X.A (inplaceOp op v u) (EP X pins σ Q) X.xe s
section
variable {X : Cx} {pos : Pos}
noncomputable def gName (i : Nat) : TG := fun v σ H Q => Q (σ.set i (some v)) H
theorem yA {i : Nat} {x : Str} (hN : X.N.Nodup) (hi : X.N[i]? = some x) (hx : Loc X.env.scope x) (hf : X.fn x = true ∨ X.env.scope.names.lookup x = some .local := by first | exact .inl rfl | exact .inr rfl | assumption) : PG X (.Name x pos) (gName i) := by
  intro pins s σ H v u Q I r h
  exact wpAny_assign_Name (store_ok I hN hi hx r (fun s' I' => ⟨_, H, I', h⟩) hf)
noncomputable def gNil : TGs := fun vs σ H Q => vs = [] ∧ Q σ H
inductive IgCons (t : TG) (u : TGs) (vs : List V) (σ : St) (H : Hp) (Q : St → Hp → Prop) : Prop
  | mk (v : V) (r : List V) (_1 : vs = v :: r) (_2 : t v σ H fun σ' H' => u r σ' H' Q) : IgCons t u vs σ H Q
noncomputable def gCons (t : TG) (u : TGs) : TGs := fun vs σ H Q => IgCons t u vs σ H Q
theorem pgs_nil : PGs X [] gNil := by
  intro pins s σ H vs us Q I r h
  obtain ⟨e, h⟩ := h
  subst e
  cases r
  exact assignInOrder_nil ⟨σ, H, I, h⟩
theorem yE {e : Expr} {es : List Expr} {t : TG} {u : TGs} (h1 : PG X e t) (h2 : PGs X es u)
    (hs : (assignEach (e :: es) X.env).map (·.2) = assign e X.env :: (assignEach es X.env).map (·.2) := by rfl) : PGs X (e :: es) (gCons t u) := by
  intro pins s σ H vs us Q I r h
  obtain ⟨v, vr, e1, h⟩ := h
  subst e1
  cases r with
  | cons r rr =>
    rw [hs]
    refine assignInOrder_cons (thn4 (h1 pins s σ H _ _ _ I r h) fun _ s1 σ1 H1 I1 q1 => ?_)
    exact h2 pins s1 σ1 H1 _ _ Q I1 rr q1
inductive IgTup (K : PySem.W.Frag) (n : Nat) (t : TGs) (v : V) (σ : St) (H : Hp) (Q : St → Hp → Prop) : Prop
  | mk (a : Addr) (xs : List V) (_1 : v = .ref a) (_2 : SqT K H a xs) (_3 : xs.length = n) (_4 : t xs σ H Q) : IgTup K n t v σ H Q
noncomputable def gTup (K : PySem.W.Frag) (n : Nat) (t : TGs) : TG := fun v σ H Q => IgTup K n t v σ H Q
theorem pg_tup {es : List Expr} {k : Nat} {t : TGs} {n : Nat} (hc : X.calm = true) (h : PGs X es t)
    (hn : (assignEach es X.env).length = n := by rfl) (hst : (assignEach es X.env).findIdx? (·.1) = none := by rfl) : PG X (.Tuple es k pos) (gTup X.K n t) := by
  intro pins s σ H v u Q I r hw
  obtain ⟨a, xs, e1, hq, hl, hw⟩ := hw
  subst e1
  cases r
  obtain ⟨its, rv, ht, hz⟩ := I.tuple hq
  refine assign_Tuple_tuple (I.ok.hd hc) ht (by simp [hn, ← hl, rv.length]) hst fun h' hx => ?_
  have I1 : Inv X pins σ H { s with heap := h' } := I.kept (t' := s.toks) fun b o e => hx b o (Nat.ne_of_lt (Heap.lt_size e)) e
  exact h pins _ σ H xs _ Q I1 (by simpa using rv) hw
noncomputable def gSub (to ti : TE) (t : TSet) : TG := fun v σ H Q => to σ H fun o H1 => ti σ H1 fun i H2 => t o i v H2 fun H3 => Q σ H3
theorem pg_sub {o i : Expr} {to ti : TE} {t : TSet} (ho : PE X o to) (hi : PE X i ti) (hs : PSet X t)
    (ha : ∀ v, assign (.Subscript o i pos) X.env v = (do
      let ov ← holding [v] (eval o X.env)
      let iv ← holding [v, ov] (eval i X.env)
      standAt pos
      holding [v, ov, iv] (setItem ov iv v)
      release [v, ov, iv] []) := by intro _; rfl) : PG X (.Subscript o i pos) (gSub to ti t) := by
  intro pins s σ H v u Q I r h
  rw [ha]
  refine wpAny_bind (wpAny_holding (thn5 (ho pins s σ H _ I h) fun ov s1 x H1 I1 r1 q1 => ?_))
  refine wpAny_bind (wpAny_holding (thn5 (hi pins s1 σ H1 _ I1 q1) fun iv s2 y H2 I2 r2 q2 => ?_))
  refine wpAny_bind (wpAny_standAt (wpAny_bind (wpAny_holding (thn3 (hs pins s2 σ H2 x y v ov iv u _ I2 r1 r2 r q2) fun _ s3 H3 I3 q3 => ?_))))
  exact wpAny_release ⟨σ, H3, I3, q3⟩
noncomputable def tAsg (te : TE) (g : TG) : TS := fun D σ H => te σ H fun x H1 => g x σ H1 D.nx
theorem ps_asg {tg e : Expr} {te : TE} {g : TG} (he : PE X e te) (hg : PG X tg g) (hs : swapsWithSole [tg] e pos.line X.env = pure false := by rfl) (hw : swappedStores [tg] e X.env = pure none := by rfl)
    (h1 : (assignEach [tg] X.env).map (·.2) = [assign tg X.env] := by rfl) : PS X (.Assign [tg] e pos) (tAsg te g) := by
  intro pins s σ H D I h
  refine wpAny_Assign_stores (thn5 (he pins s σ H _ I h) fun v s1 x H1 I1 r1 q1 => ?_) hs hw
  rw [h1]
  exact thn (hg pins s1 σ H1 x v _ I1 r1 q1) fun _ s2 q => q
theorem ps_set {i : Nat} {x : Str} {e : Expr} {te : TE} {pos' : Pos} (hN : X.N.Nodup) (hi : X.N[i]? = some x) (hx : Loc X.env.scope x) (he : PE X e te) (hs : swapsWith e (some (.Name x pos')) pos.line X.env = pure false := by rfl) (hf : X.fn x = true ∨ X.env.scope.names.lookup x = some .local := by first | exact .inl rfl | exact .inr rfl | assumption) :
    PS X (.Assign [.Name x pos'] e pos) (tAsg te (gName i)) := by
  intro pins s σ H D I h
  refine wpAny_Assign_Name (thn5 (he pins s σ H _ I h) fun v s1 y H1 I1 r1 q1 => ?_) hs
  exact store_ok I1 hN hi hx r1 (fun s2 I2 => ⟨_, H1, I2, q1⟩) hf
noncomputable def tAug (i : Nat) (te : TE) (ti : TIp) : TS := fun D σ H => ∃ x, σ[i]? = some (some x) ∧ te σ H fun y H1 => ti x y H1 fun z H2 => D.nx (σ.set i (some z)) H2
theorem ps_aug {i : Nat} {x : Str} {e : Expr} {te : TE} {op : Operator} {ti : TIp} {pos' : Pos} (hN : X.N.Nodup) (hi : X.N[i]? = some x) (hx : Loc X.env.scope x) (he : PE X e te) (ho : PIp X op ti) (hf : X.fn x = true ∨ X.env.scope.names.lookup x = some .local := by first | exact .inl rfl | exact .inr rfl | assumption) :
    PS X (.AugAssign (.Name x pos') op e pos) (tAug i te ti) := by
  intro pins s σ H D I h
  obtain ⟨v, e1, h⟩ := h
  obtain ⟨m, hn, hl⟩ := I.loc
  have vis : Vis X.env.scope x := by rcases hx with k | k; exact .inl k; exact .inr (.inl k)
  obtain ⟨u, r, l⟩ := hl i x v hi e1 vis
  refine wpAny_AugAssign_Name ?_
  have go : wpAny (model X.prog X.w) X.A (eval e X.env) (fun w s₂ => wpAny (model X.prog X.w) X.A (inplaceOp op u w) (fun r s₃ => wpAny (model X.prog X.w) X.A (storeName X.env x r) (fun _ => SP X pins D .next) X.xe s₃) X.xe s₂) X.xe s := by
    refine thn5 (he pins s σ H _ I h) fun w s1 y H1 I1 r1 q1 => ?_
    refine thn5 (ho pins s1 σ H1 v y u w _ I1 r r1 q1) fun z s2 zv H2 I2 r2 q2 => ?_
    exact store_ok I2 hN hi hx r2 (fun s3 I3 => ⟨_, H2, I3, q2⟩) hf
  rcases l with ⟨hk, hm⟩ | ⟨hk, c, hc, hcell⟩
  · exact wpAny_loadName_local I.ok.kind hk hn hm go
  · rcases hk with hk | hk
    · exact wpAny_loadName_cell I.ok.kind hk hc hcell go
    · rcases hx with k | k
      · have : X.env.scope.names.lookup x = some .free := hk
        rw [k] at this; cases this
      · have : X.env.scope.names.lookup x = some .free := hk
        rw [k] at this; cases this
noncomputable def ipI (f : Int → Int → Int) : TIp := fun x y H Q => ∃ i j, x = .int i ∧ y = .int j ∧ Q (.int (f i j)) H
theorem ip_add : PIp X .Add (ipI fun i j => i + j) := by
  intro pins s σ H x y v u Q I r1 r2 h
  obtain ⟨i, j, e1, e2, q⟩ := h
  subst e1; subst e2
  obtain ⟨t, rfl⟩ := r1
  obtain ⟨t', rfl⟩ := r2
  exact iadd_int ⟨.int _, H, I.tok _, ⟨_, rfl⟩, q⟩
end
section
variable {X : Cx} {pos : Pos}
noncomputable def tWhile (c : TT) (tb : TS) : TS := fun D σ H => ∃ W : Nat → St → Hp → Prop, (∃ m, W m σ H) ∧ ∀ m σ H, W m σ H →
  c σ H fun b H1 => if b = true then ∃ N : St → Hp → Prop, (∀ σ' H', N σ' H' → ∃ m', m' < m ∧ W m' σ' H') ∧ tb { D with nx := N, ct := N, bk := D.nx } σ H1 else D.nx σ H1
theorem ps_while {c : Expr} {body : List Stmt} {tc : TT} {tb : TS} (hp : PassesOwn (model X.prog X.w) X.A X.env X.xe) (hc : PT X c tc) (hb : PSs X body tb) : PS X (.While c body [] pos) (tWhile tc tb) := by
  intro pins s σ H D I h
  obtain ⟨W, ⟨m0, w0⟩, turn⟩ := h
  refine wpAny_While (codeAny_whileLoop (fun n s' => ∃ σ' H', Inv X pins σ' H' s' ∧ W n σ' H') ?_ m0 ⟨σ, H, I, w0⟩)
  rintro n s1 ⟨σ1, H1, I1, w1⟩
  refine wpAny_passesOwn hp (thn3 (hc pins s1 σ1 H1 _ I1 (turn n σ1 H1 w1)) fun b s2 H2 I2 q2 => ?_)
  cases b with
  | true =>
    obtain ⟨N, hN, q2⟩ := q2
    rw [if_pos rfl]
    refine wpAny_passesOwn hp (thn (hb pins s2 σ1 H2 _ I2 q2) fun f s3 q3 => ?_)
    cases f with
    | next =>
      obtain ⟨σ3, H3, I3, n3⟩ := q3
      obtain ⟨m', hm, w3⟩ := hN σ3 H3 n3
      exact ⟨m', hm, σ3, H3, I3, w3⟩
    | cont =>
      obtain ⟨σ3, H3, I3, n3⟩ := q3
      obtain ⟨m', hm, w3⟩ := hN σ3 H3 n3
      exact ⟨m', hm, σ3, H3, I3, w3⟩
    | brk => exact q3
    | ret v => exact q3
  | false =>
    rw [if_neg Bool.false_ne_true]
    exact wpAny_execs_nil ⟨σ1, H2, I2, q2⟩
end
structure It where
  go : Nat → Hp → Prop
  yld : Nat → Hp → V → Hp → Prop
  stop : Nat → Hp → Prop
noncomputable def FpOk (X : Cx) (pins : List (Addr × Obj)) (H : Hp) (b : Addr) : Prop :=
  H b = none ∧ b ≠ X.env.locals ∧ b ∉ X.fs ∧ (b ∈ X.ex ∨ X.s_0.heap.objs.size ≤ b) ∧ (∀ x c, X.env.cells.lookup x = some c → c ≠ b) ∧ ∀ p ∈ X.pn ++ pins, p.1 ≠ b
theorem Inv.fpOk {X : Cx} {pins : List (Addr × Obj)} {σ : St} {H H' : Hp} {s : Shared} {b : Addr} (I : Inv X pins σ H s) (hb : s.heap.objs.size ≤ b) (hn : H' b = none) : FpOk X pins H' b := by
  refine ⟨hn, Nat.ne_of_gt (Nat.lt_of_lt_of_le I.lt hb), I.nofs hb, .inr (Nat.le_trans I.sz hb), fun x c e z => ?_, fun p hp z => ?_⟩
  · obtain ⟨v, q⟩ := I.cell x c e
    exact absurd (Nat.lt_of_lt_of_le q.lt (by rw [z]; exact hb)) (Nat.lt_irrefl _)
  · exact absurd (Nat.lt_of_lt_of_le (Heap.lt_size (I.pin p hp).1) (by rw [z]; exact hb)) (Nat.lt_irrefl _)
structure Turn (P : Program) (w : World) (K : PySem.W.Frag) (tg : Expr) (J : It) (fp : List Addr) (it : Addr) (tn : Nat → Heap → Prop) : Prop where
  mem : it ∈ fp
  obj : ∀ i h, tn i h → ∀ b ∈ fp, ∃ o, h.get? b = some o ∧ ∀ v, o.data ≠ .cell v
  keep : ∀ i h h', tn i h → (∀ b ∈ fp, ∀ o, h.get? b = some o → h'.get? b = some o) → tn i h'
  item : ∀ (X : Cx), X.prog = P → X.w = w → X.K = K → X.calm = true → ∀ (i : Nat) (pins : List (Addr × Obj)) (s : Shared) (σ : St) (H : Hp) (E : Value → Shared → Prop), Inv X pins σ H s → (∀ b ∈ fp, FpOk X pins H b) → tn i s.heap → J.go i H →
    wpAny (model P w) X.A (pyNext (.ref it)) (fun r s1 => ∃ u, r = some u ∧
      wpAny (model P w) X.A (letOwnedTupleGo tg (.ref it) u) (fun _ s2 => ∃ x H', Inv X pins σ H' s2 ∧ RelV x u ∧ J.yld i H x H' ∧ tn (i + 1) s2.heap ∧ ∀ b ∈ fp, H' b = none) E s1) E s
  done : ∀ (X : Cx), X.prog = P → X.w = w → X.K = K → X.calm = true → ∀ (i : Nat) (pins : List (Addr × Obj)) (s : Shared) (σ : St) (H : Hp) (E : Value → Shared → Prop), Inv X pins σ H s → (∀ b ∈ fp, FpOk X pins H b) → tn i s.heap → J.stop i H →
    wpAny (model P w) X.A (pyNext (.ref it)) (fun r s1 => r = none ∧ Inv X pins σ H s1) E s
  self : ∀ (A : Around) (i : Nat) (s : Shared) (Q : Value → Shared → Prop) (E : Value → Shared → Prop), tn i s.heap → Q (.ref it) s → wpAny (model P w) A (pyIter (.ref it)) Q E s
noncomputable abbrev TI := St → Hp → (It → Hp → Prop) → Prop
noncomputable def PIE (X : Cx) (pins : List (Addr × Obj)) (σ : St) (tg : Expr) (R : It → Hp → Prop) (itv : Value) (s2 : Shared) : Prop :=
  ∃ (it : Addr) (fp : List Addr) (tn : Nat → Heap → Prop) (J : It) (H' : Hp), itv = .ref it ∧ Inv X pins σ H' s2 ∧ Turn X.prog X.w X.K tg J fp it tn ∧ tn 0 s2.heap ∧ (∀ b ∈ fp, FpOk X pins H' b) ∧ R J H'
noncomputable def PI (X : Cx) (tg iter : Expr) (wi : TI) : Prop :=
  ∀ (pins : List (Addr × Obj)) (s : Shared) (σ : St) (H : Hp) (R : It → Hp → Prop), Inv X pins σ H s → wi σ H R →
    wpAny (model X.prog X.w) X.A (eval iter X.env) (fun v s1 => wpAny (model X.prog X.w) X.A (pyIter v) (PIE X pins σ tg R) X.xe s1) X.xe s
theorem go_of {M : Model} {A : Around} {E : Value → Shared → Prop} {s : Shared} {tg : Expr} {it : Addr} {u : Value} {o : Obj} {n : String} {vs : Array Value} {Q : Unit → Shared → Prop} (ho : s.heap.get? it = some o) (hc : o.cls = .type n) (hd : o.data = .fields vs)
    (hn : ["enumerate", "zip", "dict_itemiterator", "dict_reverseitemiterator", "odict_iterator", "itertools.zip_longest", "itertools.pairwise"].contains n = false) (hQ : Q () s) : wpAny M A (letOwnedTupleGo tg (.ref it) u) Q E s := by
  unfold letOwnedTupleGo
  cases tg <;> first
    | exact wpAny_pure hQ
    | (cases u <;> first
        | exact wpAny_pure hQ
        | (refine wpAny_bind (wpAny_load ho ?_)
           rw [hc, hd]
           show wpAny M A (if (["enumerate", "zip", "dict_itemiterator", "dict_reverseitemiterator", "odict_iterator", "itertools.zip_longest", "itertools.pairwise"].contains n && vs[0]? == some (rawInt _)) = true then _ else _) Q E s
           rw [if_neg (by intro h; rw [hn, Bool.false_and] at h; cases h)]
           exact wpAny_pure hQ))
noncomputable def Itl (K : PySem.W.Frag) (a : Addr) : It :=
  ⟨fun i H => ∃ xs x, SqL K H a xs ∧ xs[i]? = some x, fun i H x H' => H' = H ∧ ∀ xs, SqL K H a xs → xs[i]? = some x, fun i H => ∃ xs, SqL K H a xs ∧ xs.length ≤ i⟩
noncomputable def Itr (lo : Int) (n : Nat) : It := ⟨fun i _ => i < n, fun i H x H' => H' = H ∧ x = .int (lo + i), fun i _ => n ≤ i⟩
theorem turn_list {P : Program} {w : World} {K : PySem.W.Frag} {tg : Expr} (a it : Addr) : Turn P w K tg (Itl K a) [it] it (fun i h => h.IsListIter it a i) where
  mem := by simp
  obj := fun i h st b hb => by
    have e : b = it := by simpa using hb
    subst e
    obtain ⟨o, e, c, d⟩ := st
    exact ⟨o, e, fun v z => by rw [d] at z; cases z⟩
  keep := fun i h h' st k => st.at fun o e => k it (by simp) o e
  item := by
    intro X hP hw hK hc i pins s σ H E I hf st hg
    subst hP hw hK
    obtain ⟨xs, x, hq, hx⟩ := hg
    obtain ⟨its, rv, p, hz⟩ := I.list hq
    obtain ⟨u, hu, ru⟩ := rv.get hx
    obtain ⟨f0, f1, f2, f3, f4, f5⟩ := hf it (by simp)
    refine wpAny_pyNext_list_item st p.isList (x := u) (by simpa using hu) fun h' st' sb => ?_
    have I1 : Inv X pins σ H { s with heap := h' } := I.turned (t' := s.toks) (fun b o hb e => (sb.2 b hb).trans e) f0 f1 f3 f4 f5
    obtain ⟨o, e, c, d⟩ := id st'
    exact ⟨u, rfl, go_of (s := { s with heap := h' }) e c d (by decide) ⟨x, H, I1, ru, ⟨rfl, fun ys hy => by rw [I.list_inj hy hq]; exact hx⟩, st', fun b hb => (hf b hb).1⟩⟩
  done := by
    intro X hP hw hK hc i pins s σ H E I hf st hg
    subst hP hw hK
    obtain ⟨xs, hq, hx⟩ := hg
    obtain ⟨its, rv, p, hz⟩ := I.list hq
    obtain ⟨f0, f1, f2, f3, f4, f5⟩ := hf it (by simp)
    have hl := rv.length
    exact wpAny_pyNext_list_end (I.ok.hd hc) st p.isList (by simp; lia) fun h' eb => ⟨rfl, I.turned (t' := s.toks) (fun b o hb e => eb b o hb e) f0 f1 f3 f4 f5⟩
  self := fun _ _ _ _ _ st h => wpAny_pyIter_listiter st h
theorem turn_range {P : Program} {w : World} {K : PySem.W.Frag} {tg : Expr} (it : Addr) (lo : Int) (n : Nat) : Turn P w K tg (Itr lo n) [it] it (fun i h => IsRangeIter h it (lo + (i : Nat) * 1) ((n : Int) - (i : Nat)) 1) where
  mem := by simp
  obj := fun i h st b hb => by
    have e : b = it := by simpa using hb
    subst e
    exact ⟨_, st, fun v z => by
      have z' : Data.fields _ = Data.cell v := z
      cases z'⟩
  keep := fun i h h' st k => k it (by simp) _ st
  item := by
    intro X hP hw hK hc i pins s σ H E I hf st hg
    subst hP hw hK
    obtain ⟨f0, f1, f2, f3, f4, f5⟩ := hf it (by simp)
    have W := Walks.range (prog := X.prog) (w := X.w) (I.ok.hd hc) it lo 1 n
    refine W.item i s _ _ hg st fun v h' tk hv st' kk => ?_
    obtain ⟨t, rfl⟩ := hv
    have I1 : Inv X pins σ H { s with heap := h', toks := tk } := I.turned (fun b o hb e => kk b o (by simpa using hb) e) f0 f1 f3 f4 f5
    refine ⟨_, rfl, go_of (s := { s with heap := h', toks := tk }) (n := "range_iterator") st' rfl rfl (by decide) ⟨.int (lo + i), H, I1, ⟨t, ?_⟩, ⟨rfl, rfl⟩, st', fun b hb => (hf b hb).1⟩⟩
    rw [Int.mul_one]
  done := by
    intro X hP hw hK hc i pins s σ H E I hf st hg
    subst hP hw hK
    obtain ⟨f0, f1, f2, f3, f4, f5⟩ := hf it (by simp)
    exact wpAny_pyNext_range_end (I.ok.hd hc) st (by have : n ≤ i := hg; lia) fun h' eb => ⟨rfl, I.turned (t' := s.toks) (fun b o hb e => eb b o hb e) f0 f1 f3 f4 f5⟩
  self := fun _ _ _ _ _ st h => wpAny_pyIter_rangeiter st h
end L2
namespace L2
open PySem PySem.Spec PyProof.Rows
section
variable {X : Cx} {tg : Expr}
noncomputable def iList (K : PySem.W.Frag) (tl : TE) : TI := fun σ H R => tl σ H fun x H1 => ∃ a, x = .ref a ∧ (∃ xs, SqL K H1 a xs) ∧ R (Itl K a) H1
theorem pi_list {l : Expr} {tl : TE} (hl : PE X l tl) : PI X tg l (iList X.K tl) := by
  intro pins s σ H R I h
  refine thn5 (hl pins s σ H _ I h) fun v s1 x H1 I1 r1 q1 => ?_
  obtain ⟨a, e, ⟨xs, hq⟩, q⟩ := q1
  subst e
  cases r1
  obtain ⟨its, rv, p, hz⟩ := I1.list hq
  refine wpAny_pyIter_list p.isList ?_
  refine ⟨s1.heap.objs.size, [s1.heap.objs.size], _, _, H1, rfl, I1.kept (t' := s1.toks) fun b o e => Heap.get?_push_of_some _ e, turn_list a _, ⟨_, Heap.get?_push_size _ rfl, rfl, rfl⟩, fun b hb => ?_, q⟩
  have e : b = s1.heap.objs.size := by simpa using hb
  subst e
  exact I1.fpOk (Nat.le_refl _) (I1.hok.fresh (Nat.le_refl _))
theorem range_it {pins : List (Addr × Obj)} {σ : St} {H : Hp} {s : Shared} {R : It → Hp → Prop} {E : Value → Shared → Prop} {lo hi : Int} {t u v : Tok} {tk : Nat} (I : Inv X pins σ H s) (h1 : -(2 ^ 62) ≤ lo) (h2 : lo < 2 ^ 62) (h3 : -(2 ^ 62) ≤ hi) (h4 : hi < 2 ^ 62)
    (q : R (Itr lo (hi - lo).toNat) H) : wpAny (model X.prog X.w) X.A (pyIter (.ref s.heap.objs.size)) (PIE X pins σ tg R) E { s with heap := s.heap.push { cls := .type "range", data := .fields #[.int lo t, .int hi u, .int 1 v] }, toks := tk } := by
  refine wpAny_pyIter_range (IsRange.new ..) (small_one h1 h2 h3 h4) ?_
  have I1 : Inv X pins σ H { s with heap := s.heap.push { cls := .type "range", data := .fields #[.int lo t, .int hi u, .int 1 v] }, toks := tk } := I.kept fun b o e => Heap.get?_push_of_some _ e
  refine ⟨(s.heap.push { cls := .type "range", data := .fields #[.int lo t, .int hi u, .int 1 v] }).objs.size, [(s.heap.push { cls := .type "range", data := .fields #[.int lo t, .int hi u, .int 1 v] }).objs.size], _, _, H, rfl,
    I1.kept (t' := tk) fun b o e => Heap.get?_push_of_some _ e, turn_range _ lo (hi - lo).toNat, ?_, fun b hb => ?_, q⟩
  · have e1 : lo + ((0 : Nat) : Int) * 1 = lo := by simp
    have e2 : (((hi - lo).toNat : Nat) : Int) - ((0 : Nat) : Int) = Builtin.Range.rangeSize lo hi 1 := by rw [rangeSize_one]; split <;> lia
    show IsRangeIter _ _ (lo + ((0 : Nat) : Int) * 1) ((((hi - lo).toNat : Nat) : Int) - ((0 : Nat) : Int)) 1
    rw [e1, e2]
    exact Heap.get?_push_size _ rfl
  · have e : b = (s.heap.push { cls := .type "range", data := .fields #[.int lo t, .int hi u, .int 1 v] }).objs.size := by simpa using hb
    subst e
    exact I1.fpOk (Nat.le_refl _) (I1.hok.fresh (Nat.le_refl _))
noncomputable def iRng1 (ta : TA) : TI := fun σ H R => ta σ H fun vs H1 => ∃ j : Int, vs = [.int j] ∧ -(2 ^ 62) ≤ j ∧ j < 2 ^ 62 ∧ R (Itr 0 j.toNat) H1
theorem pi_range1 {a : Expr} {ta : TA} {p pos : Pos} (hg : Gl X "range") (hm : X.mg "range" = none) (ha : PA X [a] ta) (hs : starEach [a] X.env = [(false, eval a X.env)] := by rfl) : PI X tg (.Call (.Name "range" p) [a] [] pos) (iRng1 ta) := by
  intro pins s σ H R I h
  refine Call_ (ld_blt I hg hm boot_range (PyProof.Rows.callWith_type1 (thn5 (ha pos pins s σ H _ I h) fun us s1 vs H1 I1 r1 q1 => ?_) hs rfl))
  obtain ⟨j, e, q1, q2, q⟩ := q1
  subst e
  cases r1 with
  | cons r rr =>
    cases rr
    obtain ⟨t, rfl⟩ := r
    exact call_range_1 (range_it I1 (by lia) (by lia) q1 q2 (by simpa using q))
noncomputable def tFor (wi : TI) (g : TG) (tb : TS) : TS := fun D σ H => wi σ H fun J H1 => ∃ W : Nat → Nat → St → Hp → Prop, (∃ m, W 0 m σ H1) ∧ ∀ i m σ H, W i m σ H →
  (J.stop i H ∧ D.nx σ H) ∨ (J.go i H ∧ ∃ N : St → Hp → Prop, (∀ σ' H', N σ' H' → ∃ m', m' < m ∧ W (i + 1) m' σ' H') ∧ ∀ x H', J.yld i H x H' → g x σ H' fun σ2 H2 => tb { D with nx := N, ct := N, bk := D.nx } σ2 H2)
noncomputable def pinsAt (fp : List Addr) (h : Heap) : List (Addr × Obj) := fp.filterMap fun b => (h.get? b).map fun o => (b, o)
theorem mem_pinsAt {fp : List Addr} {h : Heap} {b : Addr} {o : Obj} (hb : b ∈ fp) (e : h.get? b = some o) : (b, o) ∈ pinsAt fp h := List.mem_filterMap.mpr ⟨b, hb, by rw [e]; rfl⟩
theorem of_pinsAt {fp : List Addr} {h : Heap} {p : Addr × Obj} (hp : p ∈ pinsAt fp h) : p.1 ∈ fp ∧ h.get? p.1 = some p.2 := by
  obtain ⟨b, hb, e⟩ := List.mem_filterMap.mp hp
  cases q : h.get? b with
  | none => rw [q] at e; cases e
  | some o =>
    rw [q] at e
    have e' : (b, o) = p := Option.some.inj e
    subst e'
    exact ⟨hb, q⟩
theorem Inv.pinned {pins : List (Addr × Obj)} {σ : St} {H : Hp} {s : Shared} {fp : List Addr} (I : Inv X pins σ H s) (hf : ∀ b ∈ fp, FpOk X pins H b) (ho : ∀ b ∈ fp, ∃ o, s.heap.get? b = some o ∧ ∀ v, o.data ≠ .cell v) : Inv X (pins ++ pinsAt fp s.heap) σ H s :=
  I.pins_of fun p hp => (List.mem_append.mp hp).elim (fun z => I.pin p (List.mem_append_right _ z)) fun z => by
    obtain ⟨hb, e⟩ := of_pinsAt z
    obtain ⟨f0, f1, f2, _⟩ := hf p.1 hb
    obtain ⟨o, e', d⟩ := ho p.1 hb
    rw [e] at e'; cases e'
    exact ⟨e, f0, f1, f2, d⟩
theorem Inv.unpinned {pins pl : List (Addr × Obj)} {σ : St} {H : Hp} {s : Shared} (I : Inv X (pins ++ pl) σ H s) : Inv X pins σ H s := I.pins_of fun p hp => I.pin p (List.mem_append_right _ (List.mem_append_left _ hp))
theorem ps_for {iter : Expr} {body : List Stmt} {wi : TI} {g : TG} {tb : TS} {pos : Pos} (hp : PassesOwn (model X.prog X.w) X.A X.env X.xe) (hc : X.calm = true) (hi : PI X tg iter wi) (hg : PG X tg g) (hb : PSs X body tb)
    (hs : ∀ x, foldedSetIterable iter X.env x = pure x := by intro _; rfl) : PS X (.For tg iter body [] pos) (tFor wi g tb) := by
  intro pins s σ H D I h
  refine wpAny_For (thn (hi pins s σ H _ I h) fun v s1 h1 => thn h1 fun itv s2 h2 => ?_) hs
  obtain ⟨it, fp, tn, J, H2, e, I2, T, st2, f2, W, ⟨m0, w0⟩, turn⟩ := h2
  subst e
  have stat : ∀ {H' : Hp}, (∀ b ∈ fp, H' b = none) → ∀ b ∈ fp, FpOk X pins H' b := fun hn b hb => ⟨hn b hb, (f2 b hb).2⟩
  refine codeAny_forLoop_any (fun n s' => ∃ i σ' H', Inv X pins σ' H' s' ∧ tn i s'.heap ∧ (∀ b ∈ fp, H' b = none) ∧ W i n σ' H') ?_ m0 ⟨0, σ, H2, I2, st2, fun b hb => (f2 b hb).1, w0⟩
  rintro n s3 ⟨i, σ3, H3, I3, st3, fr3, w3⟩
  rcases turn i n σ3 H3 w3 with ⟨stop, qn⟩ | ⟨go, N, hN, step⟩
  · refine wpAny_passesOwn hp (thn (T.done X rfl rfl rfl hc i pins s3 σ3 H3 X.xe I3 (stat fr3) st3 stop) fun r s4 ⟨hr, I4⟩ => ?_)
    subst hr
    exact wpAny_execs_nil ⟨σ3, H3, I4, qn⟩
  · refine wpAny_passesOwn hp (thn (T.item X rfl rfl rfl hc i pins s3 σ3 H3 X.xe I3 (stat fr3) st3 go) fun r s4 ⟨u, hr, h4⟩ => ?_)
    subst hr
    refine wpAny_passesOwn hp (thn5 h4 fun _ s5 x H5 I5 r5 hq_ => ?_)
    obtain ⟨y5, st5, fr5⟩ := hq_
    have I5' := I5.pinned (stat fr5) (T.obj _ _ st5)
    refine wpAny_passesOwn hp (thn4 (hg _ s5 σ3 H5 x u _ I5' r5 (step x H5 y5)) fun _ s6 σ6 H6 I6 q6 => ?_)
    refine wpAny_passesOwn hp (thn (hb _ s6 σ6 H6 _ I6 q6) fun f s7 q7 => ?_)
    have again : ∀ {σ7 : St} {H7 : Hp}, Inv X (pins ++ pinsAt fp s5.heap) σ7 H7 s7 → N σ7 H7 → ∃ m, m < n ∧ ∃ i σ' H', Inv X pins σ' H' s7 ∧ tn i s7.heap ∧ (∀ b ∈ fp, H' b = none) ∧ W i m σ' H' := fun {σ7 H7} I7 n7 => by
      obtain ⟨m', hm, w7⟩ := hN σ7 H7 n7
      refine ⟨m', hm, i + 1, σ7, H7, I7.unpinned, T.keep _ _ _ st5 fun b hb o e => (I7.pin (b, o) (List.mem_append_right _ (List.mem_append_right _ (mem_pinsAt hb e)))).1, fun b hb => ?_, w7⟩
      obtain ⟨o, e, d⟩ := T.obj _ _ st5 b hb
      exact (I7.pin (b, o) (List.mem_append_right _ (List.mem_append_right _ (mem_pinsAt hb e)))).2.1
    cases f with
    | next => obtain ⟨σ7, H7, I7, n7⟩ := q7; exact again I7 n7
    | cont => obtain ⟨σ7, H7, I7, n7⟩ := q7; exact again I7 n7
    | brk => obtain ⟨σ7, H7, I7, q7⟩ := q7; exact ⟨σ7, H7, I7.unpinned, q7⟩
    | ret v => obtain ⟨x7, σ7, H7, I7, r7, q7⟩ := q7; exact ⟨x7, σ7, H7, I7.unpinned, r7, q7⟩
end
theorem for_list {K : PySem.W.Frag} {a : Addr} {xs : List V} {g : TG} {tb : TS} {D : Ends} {σ : St} {H : Hp} (Pv : Nat → St → Hp → Prop) (h0 : Pv 0 σ H) (hl : ∀ i σ H, i ≤ xs.length → Pv i σ H → SqL K H a xs)
    (hs : ∀ i x σ H, xs[i]? = some x → Pv i σ H → g x σ H fun σ2 H2 => tb { D with nx := Pv (i + 1), ct := Pv (i + 1), bk := D.nx } σ2 H2) (hd : ∀ σ H, Pv xs.length σ H → D.nx σ H) :
    ∃ W : Nat → Nat → St → Hp → Prop, (∃ m, W 0 m σ H) ∧ ∀ i m σ H, W i m σ H →
      ((Itl K a).stop i H ∧ D.nx σ H) ∨ ((Itl K a).go i H ∧ ∃ N : St → Hp → Prop, (∀ σ' H', N σ' H' → ∃ m', m' < m ∧ W (i + 1) m' σ' H') ∧ ∀ x H', (Itl K a).yld i H x H' → g x σ H' fun σ2 H2 => tb { D with nx := N, ct := N, bk := D.nx } σ2 H2) := by
  refine ⟨fun i m σ H => m = xs.length - i ∧ i ≤ xs.length ∧ Pv i σ H, ⟨xs.length, by simp, Nat.zero_le _, h0⟩, ?_⟩
  rintro i m σ H ⟨rfl, hi, p⟩
  have q := hl i σ H hi p
  by_cases hlt : i < xs.length
  · refine .inr ⟨⟨xs, xs[i], q, by simp [hlt]⟩, Pv (i + 1), fun σ' H' p' => ⟨xs.length - (i + 1), by lia, rfl, hlt, p'⟩, fun x H' y => ?_⟩
    obtain ⟨e, y⟩ := y
    subst e
    exact hs i x σ _ (y xs q) p
  · have e : i = xs.length := by lia
    subst e
    exact .inl ⟨⟨xs, q, Nat.le_refl _⟩, hd σ H p⟩
theorem for_range {lo : Int} {n : Nat} {g : TG} {tb : TS} {D : Ends} {σ : St} {H : Hp} (Pv : Nat → St → Hp → Prop) (h0 : Pv 0 σ H)
    (hs : ∀ i σ H, i < n → Pv i σ H → g (.int (lo + i)) σ H fun σ2 H2 => tb { D with nx := Pv (i + 1), ct := Pv (i + 1), bk := D.nx } σ2 H2) (hd : ∀ σ H, Pv n σ H → D.nx σ H) :
    ∃ W : Nat → Nat → St → Hp → Prop, (∃ m, W 0 m σ H) ∧ ∀ i m σ H, W i m σ H →
      ((Itr lo n).stop i H ∧ D.nx σ H) ∨ ((Itr lo n).go i H ∧ ∃ N : St → Hp → Prop, (∀ σ' H', N σ' H' → ∃ m', m' < m ∧ W (i + 1) m' σ' H') ∧ ∀ x H', (Itr lo n).yld i H x H' → g x σ H' fun σ2 H2 => tb { D with nx := N, ct := N, bk := D.nx } σ2 H2) := by
  refine ⟨fun i m σ H => m = n - i ∧ i ≤ n ∧ Pv i σ H, ⟨n, by simp, Nat.zero_le _, h0⟩, ?_⟩
  rintro i m σ H ⟨rfl, hi, p⟩
  by_cases hlt : i < n
  · refine .inr ⟨hlt, Pv (i + 1), fun σ' H' p' => ⟨n - (i + 1), by lia, rfl, hlt, p'⟩, fun x H' y => ?_⟩
    obtain ⟨e, y⟩ := y
    subst e y
    exact hs i σ _ hlt p
  · have e : i = n := by lia
    subst e
    exact .inl ⟨Nat.le_refl _, hd σ H p⟩
end L2
namespace L2
open PySem PySem.Spec PyProof.Rows
noncomputable abbrev R2 := V → V → Hp → VK → Prop
noncomputable def OpR (X : Cx) (f : Value → Value → Sem Value) (r : R2) : Prop :=
  ∀ (pins : List (Addr × Obj)) (s : Shared) (σ : St) (H : Hp) (x y : V) (v u : Value) (Q : VK), Inv X pins σ H s → RelV x v → RelV y u → r x y H Q →
    wpAny (model X.prog X.w) X.A (f v u) (EP X pins σ Q) X.xe s
noncomputable def UnR (X : Cx) (f : Value → Sem Value) (r : V → Hp → VK → Prop) : Prop :=
  ∀ (pins : List (Addr × Obj)) (s : Shared) (σ : St) (H : Hp) (x : V) (v : Value) (Q : VK), Inv X pins σ H s → RelV x v → r x H Q →
    wpAny (model X.prog X.w) X.A (f v) (EP X pins σ Q) X.xe s
noncomputable def CallR (X : Cx) (f : Value) (r : List V → Hp → VK → Prop) : Prop :=
  ∀ (pins : List (Addr × Obj)) (s : Shared) (σ : St) (H : Hp) (xs : List V) (us : List Value) (Q : VK), Inv X pins σ H s → Vals xs us → r xs H Q →
    wpAny (model X.prog X.w) X.A (call f us) (EP X pins σ Q) X.xe s
noncomputable def tOp (r : R2) (ta tb : TE) : TE := fun σ H Q => ta σ H fun x H1 => tb σ H1 fun y H2 => r x y H2 Q
noncomputable def tUn (r : V → Hp → VK → Prop) (ta : TE) : TE := fun σ H Q => ta σ H fun x H1 => r x H1 Q
inductive IInt2 (g : Int → Int → V) (x y : V) (H : Hp) (Q : VK) : Prop
  | mk (i j : Int) (_1 : x = .int i) (_2 : y = .int j) (_3 : Q (g i j) H) : IInt2 g x y H Q
noncomputable def rI0 (g : Int → Int → V) : R2 := fun x y H Q => IInt2 g x y H Q
noncomputable def rU (g : Int → V) : V → Hp → VK → Prop := fun x H Q => ∃ i, x = .int i ∧ Q (g i) H
section
variable {X : Cx} {a b c : Expr} {ta tb tc : TE} {pos : Pos}
theorem binT (ha : PE X a ta) (hb : PE X b tb) {pins : List (Addr × Obj)} {s : Shared} {σ : St} {H : Hp} {R : V → V → Hp → Prop} (I : Inv X pins σ H s)
    (h : ta σ H fun x H1 => tb σ H1 fun y H2 => R x y H2) {Q : Value → Shared → Prop} {f : Value → Value → Sem Value}
    (hf : ∀ v u s2 x y H2, Inv X pins σ H2 s2 → RelV x v → RelV y u → R x y H2 → wpAny (model X.prog X.w) X.A (f v u) Q X.xe s2) :
    wpAny (model X.prog X.w) X.A (eval a X.env) (fun v s₁ => wpAny (model X.prog X.w) X.A (eval b X.env) (fun u s₂ => wpAny (model X.prog X.w) X.A (f v u) Q X.xe s₂) X.xe s₁) X.xe s := by
  refine thn5 (ha pins s σ H _ I h) fun v s1 x H1 I1 r1 q1 => ?_
  refine thn5 (hb pins s1 σ H1 _ I1 q1) fun u s2 y H2 I2 r2 q2 => ?_
  exact hf v u s2 x y H2 I2 r1 r2 q2
theorem pe_op {op : Operator} {r : R2} (ho : OpR X (binaryOp op) r) (ha : PE X a ta) (hb : PE X b tb) : PE X (.BinOp a op b pos) (tOp r ta tb) := by
  intro pins s σ H Q I h
  exact wpAny_BinOp (binT ha hb I h fun v u s2 x y H2 I2 rx ry q => ho pins s2 σ H2 x y v u Q I2 rx ry q)
theorem pe_un {op : UnaryOp} {r : V → Hp → VK → Prop} (ho : UnR X (unaryOp op) r) (ha : PE X a ta) : PE X (.UnaryOp op a pos) (tUn r ta) := by
  intro pins s σ H Q I h
  exact UnaryOp_ (thn5 (ha pins s σ H _ I h) fun v s1 x H1 I1 r1 q1 => ho pins s1 σ H1 x v Q I1 r1 q1)
theorem opI0 {f : Value → Value → Sem Value} {g : Int → Int → Int}
    (rule : ∀ (i j : Int) (t u : Tok) (s : Shared) (Q : Value → Shared → Prop) (E : Value → Shared → Prop), Q (.int (g i j) s.toks) { s with toks := s.toks + 1 } → wpAny (model X.prog X.w) X.A (f (.int i t) (.int j u)) Q E s) :
    OpR X f (rI0 fun i j => .int (g i j)) := by
  intro pins s σ H x y v u Q I rx ry h
  obtain ⟨i, j, rfl, rfl, q⟩ := h
  obtain ⟨t, rfl⟩ := rx
  obtain ⟨t', rfl⟩ := ry
  exact rule i j t t' s _ _ ⟨.int (g i j), H, I.tok _, ⟨_, rfl⟩, q⟩
theorem opB0 {f : Value → Value → Sem Value} {g : Int → Int → Bool}
    (rule : ∀ (i j : Int) (t u : Tok) (s : Shared) (Q : Value → Shared → Prop) (E : Value → Shared → Prop), Q (.bool (g i j)) s → wpAny (model X.prog X.w) X.A (f (.int i t) (.int j u)) Q E s) :
    OpR X f (rI0 fun i j => .bl (g i j)) := by
  intro pins s σ H x y v u Q I rx ry h
  obtain ⟨i, j, rfl, rfl, q⟩ := h
  obtain ⟨t, rfl⟩ := rx
  obtain ⟨t', rfl⟩ := ry
  exact rule i j t t' s _ _ ⟨.bl (g i j), H, I, rfl, q⟩
theorem op_add : OpR X (binaryOp .Add) (rI0 fun i j => .int (i + j)) := opI0 fun _ _ _ _ _ _ _ q => add_int q
theorem op_sub : OpR X (binaryOp .Sub) (rI0 fun i j => .int (i - j)) := opI0 fun _ _ _ _ _ _ _ q => sub_int q
theorem unI {f : Value → Sem Value} {g : Int → Int}
    (rule : ∀ (i : Int) (t : Tok) (s : Shared) (Q : Value → Shared → Prop) (E : Value → Shared → Prop), Q (.int (g i) s.toks) { s with toks := s.toks + 1 } → wpAny (model X.prog X.w) X.A (f (.int i t)) Q E s) :
    UnR X f (rU fun i => .int (g i)) := by
  intro pins s σ H x v Q I rx h
  obtain ⟨i, rfl, q⟩ := h
  obtain ⟨t, rfl⟩ := rx
  exact rule i t s _ _ ⟨.int (g i), H, I.tok _, ⟨_, rfl⟩, q⟩
theorem un_neg : UnR X (unaryOp .USub) (rU fun i => .int (-i)) := unI fun _ _ _ _ _ q => neg_int q
end
noncomputable def scal : V → V → Bool
  | .non, .non => true | .non, .int _ => true | .int _, .non => true | .non, .bl _ => true | .bl _, .non => true | .non, .str _ => true | .str _, .non => true
  | .int _, .int _ => true | .bl _, .bl _ => true | .str _, .str _ => true | .byt _, .byt _ => true
  | .int _, .str _ => true | .str _, .int _ => true | .bl _, .str _ => true | .str _, .bl _ => true
  | _, _ => false
noncomputable def rEq : R2 := fun x y H Q => scal x y = true ∧ Q (.bl (decide (x = y))) H
noncomputable def rNe : R2 := fun x y H Q => scal x y = true ∧ Q (.bl (!decide (x = y))) H
theorem dec_int {i j : Int} : decide (V.int i = V.int j) = (i == j) := by
  rw [Bool.eq_iff_iff]
  simp
theorem dec_bl {i j : Bool} : decide (V.bl i = V.bl j) = (i == j) := by
  rw [Bool.eq_iff_iff]
  simp
theorem dec_str {i j : Str} : decide (V.str i = V.str j) = (i == j) := by
  rw [Bool.eq_iff_iff]
  simp
theorem dec_byt {i j : Array UInt8} : decide (V.byt i = V.byt j) = (i.toList == j.toList) := by
  rw [Bool.eq_iff_iff]
  cases i
  cases j
  simp
section
variable {X : Cx} {a b c : Expr} {ta tb tc : TE} {pos : Pos}
theorem fin_bl {pins : List (Addr × Obj)} {σ : St} {H : Hp} {s : Shared} {Q : VK} {k k' : Bool} (I : Inv X pins σ H s) (q : Q (.bl k) H) (e : k = k') : EP X pins σ Q (.bool k') s := by
  subst e
  exact ⟨.bl k, H, I, rfl, q⟩
theorem op_eq : OpR X (compareOp .Eq) rEq := by
  intro pins s σ H x y v u Q I rx ry h
  obtain ⟨hs, q⟩ := h
  cases x with
  | non =>
    cases rx
    cases y with
    | non => cases ry; exact PySem.EqNone.eq_none_none (fin_bl I q (by simp))
    | bl j => cases ry; exact PySem.EqNone.eq_none_bool (fin_bl I q (by simp))
    | int j => obtain ⟨t', rfl⟩ := ry; exact PySem.EqNone.eq_none_int (fin_bl I q (by simp))
    | str j => obtain ⟨t', rfl⟩ := ry; exact PySem.EqNone.eq_none_str (fin_bl I q (by simp))
    | _ => exact absurd (show false = true from hs) Bool.false_ne_true
  | bl i =>
    cases rx
    cases y with
    | non => cases ry; exact PySem.EqNone.eq_bool_none (fin_bl I q (by simp))
    | bl j => cases ry; exact eq_bool (fin_bl I q dec_bl)
    | str j => obtain ⟨t', rfl⟩ := ry; exact PySem.EqMixed.eq_bool_str (fin_bl I q (by simp))
    | _ => exact absurd (show false = true from hs) Bool.false_ne_true
  | int i =>
    obtain ⟨t, rfl⟩ := rx
    cases y with
    | non => cases ry; exact PySem.EqNone.eq_int_none (fin_bl I q (by simp))
    | int j => obtain ⟨t', rfl⟩ := ry; exact eq_int (fin_bl I q dec_int)
    | str j => obtain ⟨t', rfl⟩ := ry; exact PySem.EqMixed.eq_int_str (fin_bl I q (by simp))
    | _ => exact absurd (show false = true from hs) Bool.false_ne_true
  | str i =>
    obtain ⟨t, rfl⟩ := rx
    cases y with
    | non => cases ry; exact PySem.EqNone.eq_str_none (fin_bl I q (by simp))
    | bl j => cases ry; exact PySem.EqMixed.eq_str_bool (fin_bl I q (by simp))
    | int j => obtain ⟨t', rfl⟩ := ry; exact PySem.EqMixed.eq_str_int (fin_bl I q (by simp))
    | str j => obtain ⟨t', rfl⟩ := ry; exact eq_str (fin_bl I q dec_str)
    | _ => exact absurd (show false = true from hs) Bool.false_ne_true
  | byt i =>
    obtain ⟨t, rfl⟩ := rx
    cases y with
    | byt j => obtain ⟨t', rfl⟩ := ry; exact PySem.W.eq_bytes (fin_bl I q dec_byt)
    | _ => exact absurd (show false = true from hs) Bool.false_ne_true
  | _ => cases y <;> exact absurd (show false = true from hs) Bool.false_ne_true
theorem op_ne : OpR X (compareOp .NotEq) rNe := by
  intro pins s σ H x y v u Q I rx ry h
  obtain ⟨hs, q⟩ := h
  cases x with
  | non =>
    cases rx
    cases y with
    | non => cases ry; exact PySem.EqNone.ne_none_none (fin_bl I q (by simp))
    | bl j => cases ry; exact PySem.EqNone.ne_none_bool (fin_bl I q (by simp))
    | int j => obtain ⟨t', rfl⟩ := ry; exact PySem.EqNone.ne_none_int (fin_bl I q (by simp))
    | str j => obtain ⟨t', rfl⟩ := ry; exact PySem.EqNone.ne_none_str (fin_bl I q (by simp))
    | _ => exact absurd (show false = true from hs) Bool.false_ne_true
  | bl i =>
    cases rx
    cases y with
    | non => cases ry; exact PySem.EqNone.ne_bool_none (fin_bl I q (by simp))
    | bl j => cases ry; exact ne_bool (fin_bl I q (congrArg not dec_bl))
    | str j => obtain ⟨t', rfl⟩ := ry; exact PySem.EqMixed.ne_bool_str (fin_bl I q (by simp))
    | _ => exact absurd (show false = true from hs) Bool.false_ne_true
  | int i =>
    obtain ⟨t, rfl⟩ := rx
    cases y with
    | non => cases ry; exact PySem.EqNone.ne_int_none (fin_bl I q (by simp))
    | int j => obtain ⟨t', rfl⟩ := ry; exact ne_int (fin_bl I q (congrArg not dec_int))
    | str j => obtain ⟨t', rfl⟩ := ry; exact PySem.EqMixed.ne_int_str (fin_bl I q (by simp))
    | _ => exact absurd (show false = true from hs) Bool.false_ne_true
  | str i =>
    obtain ⟨t, rfl⟩ := rx
    cases y with
    | non => cases ry; exact PySem.EqNone.ne_str_none (fin_bl I q (by simp))
    | bl j => cases ry; exact PySem.EqMixed.ne_str_bool (fin_bl I q (by simp))
    | int j => obtain ⟨t', rfl⟩ := ry; exact PySem.EqMixed.ne_str_int (fin_bl I q (by simp))
    | str j => obtain ⟨t', rfl⟩ := ry; exact ne_str (fin_bl I q (congrArg not dec_str))
    | _ => exact absurd (show false = true from hs) Bool.false_ne_true
  | byt i =>
    obtain ⟨t, rfl⟩ := rx
    cases y with
    | byt j => obtain ⟨t', rfl⟩ := ry; exact PySem.W.ne_bytes (fin_bl I q (congrArg not dec_byt))
    | _ => exact absurd (show false = true from hs) Bool.false_ne_true
  | _ => cases y <;> exact absurd (show false = true from hs) Bool.false_ne_true
theorem op_lt : OpR X (compareOp .Lt) (rI0 fun i j => .bl (decide (i < j))) := opB0 fun _ _ _ _ _ _ _ q => lt_int q
theorem op_le : OpR X (compareOp .LtE) (rI0 fun i j => .bl (decide (i ≤ j))) := opB0 fun _ _ _ _ _ _ _ q => le_int q
theorem op_gt : OpR X (compareOp .Gt) (rI0 fun i j => .bl (decide (j < i))) := opB0 fun _ _ _ _ _ _ _ q => gt_int q
theorem op_ge : OpR X (compareOp .GtE) (rI0 fun i j => .bl (decide (j ≤ i))) := opB0 fun _ _ _ _ _ _ _ q => ge_int q
theorem yC (b : Expr) {op : CmpOp} (h : op ≠ .In := by decide) (h2 : op ≠ .NotIn := by decide) : behindInMarks op b = false := by
  have e1 : (op == CmpOp.In) = false := by cases op <;> first | rfl | exact absurd rfl h
  have e2 : (op == CmpOp.NotIn) = false := by cases op <;> first | rfl | exact absurd rfl h2
  cases b <;> simp [behindInMarks, e1, e2]
theorem pe_cmpR {op : CmpOp} {r : R2} (ho : OpR X (compareOp op) r) (ha : PE X a ta) (hb : PE X b tb) (hm : behindInMarks op b = false) : PE X (.Compare a [op] [b] pos) (tOp r ta tb) := by
  intro pins s σ H Q I h
  exact wpAny_Compare1 (binT ha hb I h fun v u s2 x y H2 I2 rx ry q => ho pins s2 σ H2 x y v u Q I2 rx ry q) hm
noncomputable def tTest (t : TE) : TT := fun σ H Q => t σ H fun x H' => IBl Q x H'
theorem zQ {op : CmpOp} {r : R2} (ho : OpR X (compareOp op) r) (ha : PE X a ta) (hb : PE X b tb) (hm : behindInMarks op b = false) : PT X (.Compare a [op] [b] pos) (tTest (tOp r ta tb)) := by
  intro pins s σ H Q I h
  refine wpAny_isTrue_Compare1 (thn5 (ha pins s σ H _ I h) fun v s1 x H1 I1 r1 q1 => thn5 (hb pins s1 σ H1 _ I1 q1) fun u s2 y H2 I2 r2 q2 =>
    thn (ho pins s2 σ H2 x y v u _ I2 r1 r2 q2) fun c s3 ⟨z, H3, I3, r3, k, e, q3⟩ => ?_) hm
  subst e
  cases r3
  exact wpAny_truthy_bool ⟨H3, I3, q3⟩
theorem line63 : (sizeLine : Nat) < 2 ^ 63 := by rw [sizeLine_eq]; decide
theorem vals1 {x : V} {us : List Value} (r : Vals [x] us) : ∃ u, us = [u] ∧ RelV x u := by
  cases r with
  | cons r1 r2 => cases r2; exact ⟨_, rfl, r1⟩
end
end L2
namespace L2
open PySem PySem.Spec PyProof.Rows
structure ObjM (h : Heap) (x dx C : Addr) (mA : Str → Option Value) : Prop where
  obj : h.get? x = some (PySem.W.instObj C dx)
  ns : h.Ns1 dx mA
  ne : dx ≠ x
theorem lookIn_ns {h : Heap} {dx : Addr} {mA : Str → Option Value} (n : h.Ns1 dx mA) : ∃ od, h.get? dx = some od ∧ ∀ name, PySem.W.lookIn name od = some (mA name) := by
  obtain ⟨o, es, ep, ho, hd, hk, _, hm⟩ := n
  refine ⟨o, ho, fun name => ?_⟩
  have e := hm name
  unfold nsFind findBy at e
  rw [← Array.find?_toList] at e
  unfold PySem.W.lookIn
  rw [hd]
  dsimp only
  split
  · rename_i y q
    rw [q] at e
    exact congrArg some e
  · rename_i q
    rw [q] at e
    have a : es.toList.any (·.refKey) = false := by
      rw [List.any_eq_false]
      intro y hy
      obtain ⟨z, t, hkey⟩ := hk y (Array.mem_toList_iff.mp hy)
      simp [DictEntry.refKey, hkey]
    have a' : ¬ es.toList.any (·.refKey) = true := by rw [a]; exact Bool.false_ne_true
    rw [if_neg a']
    exact congrArg some e
theorem ObjM.look {h : Heap} {x dx C : Addr} {mA : Str → Option Value} (I : ObjM h x dx C mA) : ∃ od, PySem.W.InstAt h x (PySem.W.instObj C dx) C (some od) ∧ ∀ name, PySem.W.lookIn name od = some (mA name) :=
  let ⟨od, ho, hl⟩ := lookIn_ns I.ns
  ⟨od, ⟨I.obj, rfl, rfl, ho⟩, hl⟩
section
variable {prog : Program} {w : World} {A : Around} {E : Value → Shared → Prop} {s : Shared} {K : PySem.W.Frag} {x dx C f : Addr} {mA : Str → Option Value} {name : Str} {v : Value}
theorem get_map {expr : Bool} {Q : Value → Shared → Prop} (X : K.In s.heap) (I : ObjM s.heap x dx C mA) (hg : PySem.W.plainGet K C name = true) (hh : PySem.W.hasDictIn K C = true)
    (ha : PySem.W.findIn K (.ref C) name = some none) (hv : mA name = some v) (hv' : PySem.W.handedIn v = true) (h : Q v { s with toks := s.toks + 1 }) :
    wpAny (model prog w) A (getAttr (.ref x) name expr) Q E s := by
  obtain ⟨od, J, hl⟩ := I.look
  exact PySem.W.get_value X J (PySem.W.plainGet_of hg).1 (PySem.W.findObj_own hh ha rfl (by rw [hl, hv])) hv' h
theorem get_meth {pl : Sem Bool} {Q : Value × List Value → Shared → Prop} (X : K.In s.heap) (I : ObjM s.heap x dx C mA) (hg : PySem.W.plainGet K C name = true)
    (hf : PySem.W.findIn K (.ref C) name = some (some (.ref f))) (ht : PySem.W.isFn K (.ref f) = true) (hv : mA name = none) (h : Q (.ref f, [.ref x]) s) :
    wpAny (model prog w) A (getMethod (.ref x) name pl) Q E s := by
  obtain ⟨od, J, hl⟩ := I.look
  exact PySem.W.method_fn X J (PySem.W.plainGet_of hg).1 (PySem.W.plainGet_of hg).2 hf (beq_iff_eq.mp ht) (by show (PySem.W.lookIn name od).map (·.isSome) = some false; rw [hl, hv]; rfl) h
theorem set_map {ns : List Str} {Q : Unit → Shared → Prop} (X : K.In s.heap) (I : ObjM s.heap x dx C mA)
    (hs : PySem.W.findIn K (.ref C) "__setattr__" = some (some (.builtin "object.__setattr__"))) (hp : PySem.W.plainOver K C = true) (ht : PySem.W.takerIn K C name = some none) (hh : PySem.W.hasDictIn K C = true)
    (hw : PySem.Within mA ns) (hsz : ns.length ≤ sizeLine)
    (h : ∀ h', ObjM h' x dx C (fun y => if y = name then some v else mA y) → Heap.SameBut dx s.heap h' → Q () { s with heap := h', toks := s.toks + 2 }) :
    wpAny (model prog w) A (setAttr (.ref x) name v) Q E s := by
  obtain ⟨od, J, hl⟩ := I.look
  refine PySem.W.set_plain X J hs (PySem.W.osa_open (s := { s with toks := s.toks + 1 }) (r := none) X J hp ht fun b => ?_)
  obtain ⟨cd, hc, hd'⟩ := PySem.W.any_some hh
  have hx : s.heap.get? x = some ⟨.ref C, some dx, .plain, #[]⟩ := I.obj
  refine wpAny_bind (wpAny_pure (wpAny_bind (wpAny_bind (wpAny_loadPart hx (wpAny_bind (PySem.W.Looks.here (s := { s with toks := s.toks + 1 }) (PySem.W.looks_clsIn X hc) ?_))))))
  rw [hd']
  refine wpAny_pure (a := some dx) (wpAny_bind (wpAny_pure (wpAny_bind ?_)))
  refine wpAny_nsSet1 (s := { s with toks := s.toks + 1 }) I.ns fun h' hn2 hs2 => ?_
  obtain ⟨oD, esD, epD, hoD, hdD, hcD⟩ := hn2.count (PySem.Within.cons name v hw)
  refine wpAny_bind (wpAny_lookBehind hoD (by rw [hdD]; exact pastItsLine_dict (Nat.le_trans hcD (by rw [List.length_cons]; lia))) ?_)
  exact wpAny_pure (h _ ⟨(hs2.2 _ (Ne.symm I.ne)).trans I.obj, hn2, I.ne⟩ hs2)
theorem make_map {R : Result → Shared → Prop} {vs : List Value} {kw : List (Str × Value)} (X : K.In s.heap) (hm : PySem.W.makesIn K C = true)
    (hi : PySem.W.findIn K (.ref C) "__init__" = some (some (.ref f))) (hf : PySem.W.typeIn K (.ref f) = some (.type "function"))
    (h : codeAny (model prog w) (A.under (.builtin "type.__call__" ⟨.ref C :: vs, kw⟩)) (.call (.ref f) ⟨.ref (s.heap.objs.size + 1) :: vs, kw⟩) (PySem.W.InitBack (s.heap.objs.size + 1) R)
      { s with heap := (s.heap.push PySem.W.emptyDict).push (PySem.W.instObj C s.heap.objs.size) }) :
    codeAny (model prog w) A (.call (.ref C) ⟨vs, kw⟩) R s := by
  obtain ⟨hh, g, d, t, os⟩ := s
  exact PySem.W.make_core (PySem.W.makes_of X hm) (PySem.W.looks_findIn X hi) (fun self => PySem.W.bind_fn X self hf) (.inl rfl) h
end
noncomputable def putF (f : Str) (v : V) : List (Str × V) → List (Str × V)
  | [] => [(f, v)]
  | (g, x) :: r => if g = f then (g, v) :: r else (g, x) :: putF f v r
theorem lookup_putF (f g : Str) (v : V) : ∀ fs : List (Str × V), (putF f v fs).lookup g = if g = f then some v else fs.lookup g
  | [] => by
    show List.lookup g [(f, v)] = _
    by_cases h : g = f
    · have hb : (g == f) = true := beq_iff_eq.mpr h
      simp only [List.lookup, hb, if_pos h]
    · have hb : (g == f) = false := beq_eq_false_iff_ne.mpr h
      simp only [List.lookup, hb, if_neg h]
  | (k, x) :: r => by
    have ih := lookup_putF f g v r
    rw [show putF f v ((k, x) :: r) = (if k = f then (k, v) :: r else (k, x) :: putF f v r) from rfl]
    by_cases hk : k = f
    · rw [if_pos hk]
      by_cases h : g = k
      · have hb : (g == k) = true := beq_iff_eq.mpr h
        simp only [List.lookup, hb, if_pos (h.trans hk)]
      · have hb : (g == k) = false := beq_eq_false_iff_ne.mpr h
        simp only [List.lookup, hb, if_neg (fun e : g = f => h (e.trans hk.symm))]
    · rw [if_neg hk]
      by_cases h : g = k
      · have hb : (g == k) = true := beq_iff_eq.mpr h
        simp only [List.lookup, hb, if_neg (fun e : g = f => hk (h.symm.trans e))]
      · have hb : (g == k) = false := beq_eq_false_iff_ne.mpr h
        simp only [List.lookup, hb]
        exact ih
theorem keys_putF (f : Str) (v : V) : ∀ fs : List (Str × V), f ∈ (putF f v fs).map (·.1) ∧ ∀ g, g ∈ fs.map (·.1) → g ∈ (putF f v fs).map (·.1)
  | [] => ⟨by simp [putF], fun g h => by simp at h⟩
  | (k, x) :: r => by
    obtain ⟨i1, i2⟩ := keys_putF f v r
    rw [show putF f v ((k, x) :: r) = (if k = f then (k, v) :: r else (k, x) :: putF f v r) from rfl]
    by_cases hk : k = f
    · rw [if_pos hk]
      subst hk
      exact ⟨by simp, fun g h => by simpa using h⟩
    · rw [if_neg hk]
      refine ⟨?_, fun g h => ?_⟩
      · rw [List.map_cons]
        exact List.mem_cons_of_mem _ i1
      · rw [List.map_cons] at h ⊢
        rcases List.mem_cons.mp h with e | e
        · exact List.mem_cons.mpr (.inl e)
        · exact List.mem_cons_of_mem _ (i2 g e)
theorem length_putF (f : Str) (v : V) : ∀ fs : List (Str × V), (putF f v fs).length ≤ fs.length + 1
  | [] => by simp [putF]
  | (k, x) :: r => by
    have ih := length_putF f v r
    rw [show putF f v ((k, x) :: r) = (if k = f then (k, v) :: r else (k, x) :: putF f v r) from rfl]
    by_cases hk : k = f
    · rw [if_pos hk, List.length_cons, List.length_cons]; lia
    · rw [if_neg hk, List.length_cons, List.length_cons]; lia
theorem RelO.some_of {v : V} {o : Option Value} (r : RelO (some v) o) : ∃ u, o = some u ∧ RelV v u := by
  cases o with
  | none => exact (show False from r).elim
  | some u => exact ⟨u, rfl, r⟩
theorem RelO.none_of {o : Option Value} (r : RelO none o) : o = none := by
  cases o with
  | none => rfl
  | some u => exact (show False from r).elim
theorem handed_of {v : V} {u : Value} (r : RelV v u) : PySem.W.handedIn u = true := by
  cases v with
  | non => cases (show u = Value.none from r); rfl
  | bl b => cases (show u = Value.bool b from r); rfl
  | int i => obtain ⟨t, e⟩ := (show ∃ t, u = Value.int i t from r); cases e; rfl
  | str x => obtain ⟨t, e⟩ := (show ∃ t, u = Value.str x t from r); cases e; rfl
  | byt b => obtain ⟨t, e⟩ := (show ∃ t, u = Value.bytes b t from r); cases e; rfl
  | flt b => obtain ⟨t, e⟩ := (show ∃ t, u = Value.float b t from r); cases e; rfl
  | ref a => cases (show u = Value.ref a from r); rfl
  | ty n => cases (show u = Value.type n from r); rfl
section
variable {P : Program} {w : World} {H H' : Hp} {h h' : Heap} {a C dx : Addr} {fs fs' : List (Str × V)}
theorem ins_get (hok : HOk P w H h) (e : H a = some (.ins C dx fs)) : ∃ mA, ObjM h a dx C mA ∧ (∀ f, RelO (fs.lookup f) (mA f)) ∧ PySem.Within mA (fs.map (·.1)) ∧ fs.length ≤ 1000 ∧ H dx = some (.own a) := by
  obtain ⟨d, z, ne, ob, mA, n, r, q⟩ := (show ObjOk P w H h a (.ins C dx fs) from hok a _ e)
  exact ⟨mA, ⟨ob, n, ne⟩, r, q, z, d⟩
end
structure Cls (K : PySem.W.Frag) (C : Addr) : Prop where
  pg : PySem.W.plainGet K C Str.empty = true
  hd : PySem.W.hasDictIn K C = true
  po : PySem.W.plainOver K C = true
  sa : PySem.W.findIn K (.ref C) "__setattr__" = some (some (.builtin "object.__setattr__"))
theorem Cls.get {K : PySem.W.Frag} {C : Addr} (c : Cls K C) (f : Str) : PySem.W.plainGet K C f = true := c.pg
noncomputable def NoAttr (K : PySem.W.Frag) (C : Addr) (f : Str) : Prop := PySem.W.findIn K (.ref C) f = some none
theorem NoAttr.taker {K : PySem.W.Frag} {C : Addr} {f : Str} (n : NoAttr K C f) : PySem.W.takerIn K C f = some none := by
  unfold PySem.W.takerIn
  rw [show PySem.W.findIn K (.ref C) f = some none from n]
  rfl
structure Meth (K : PySem.W.Frag) (C : Addr) (m : Str) (f : Addr) : Prop where
  at_ : PySem.W.findIn K (.ref C) m = some (some (.ref f))
  fn : PySem.W.isFn K (.ref f) = true
  kp : PySem.W.keepIn K (.ref f) = true
section
variable {X : Cx} {pins : List (Addr × Obj)} {σ : St} {H : Hp} {s : Shared} {a C dx : Addr} {fs : List (Str × V)} {f : Str} {v : V} {A : Around} {E : Value → Shared → Prop}
theorem getattr_ok {b : Bool} {Q : Value → Shared → Prop} (I : Inv X pins σ H s) (e : H a = some (.ins C dx fs)) (c : Cls X.K C) (n : NoAttr X.K C f) (l : fs.lookup f = some v)
    (h : ∀ u s', Inv X pins σ H s' → RelV v u → Q u s') : wpAny (model X.prog X.w) A (getAttr (.ref a) f b) Q E s := by
  obtain ⟨mA, O, r, _, _, _⟩ := ins_get I.hok e
  obtain ⟨u, hu, ru⟩ := RelO.some_of (v := v) (o := mA f) (by rw [← l]; exact r f)
  exact get_map I.kIn O (c.get f) c.hd n hu (handed_of ru) (h u _ (I.tok _) ru)
theorem getmeth_ok {m : Str} {g : Addr} {pl : Sem Bool} {Q : Value × List Value → Shared → Prop} (I : Inv X pins σ H s) (e : H a = some (.ins C dx fs)) (c : Cls X.K C) (k : Meth X.K C m g) (l : fs.lookup m = none)
    (h : Q (.ref g, [.ref a]) s) : wpAny (model X.prog X.w) A (getMethod (.ref a) m pl) Q E s := by
  obtain ⟨mA, O, r, _, _, _⟩ := ins_get I.hok e
  have hn : mA m = none := RelO.none_of (by rw [← l]; exact r m)
  exact get_meth I.kIn O (c.get m) k.at_ k.fn hn h
theorem setattr_ok {y : V} {u : Value} {Q : Unit → Shared → Prop} (I : Inv X pins σ H s) (e : H a = some (.ins C dx fs)) (c : Cls X.K C) (n : NoAttr X.K C f) (hl : fs.length < 1000) (ry : RelV y u)
    (h : ∀ s', Inv X pins σ (upd H a (.ins C dx (putF f y fs))) s' → Q () s') : wpAny (model X.prog X.w) A (setAttr (.ref a) f u) Q E s := by
  obtain ⟨mA, O, r, wi, _, ho⟩ := ins_get I.hok e
  have hz : (fs.map (·.1)).length ≤ sizeLine := by rw [List.length_map, sizeLine_eq]; lia
  refine set_map I.kIn O c.sa c.po n.taker c.hd wi hz fun h' O' sb => h _ ?_
  have hd : ∃ o, h'.get? dx = some o := let ⟨o, _, _, e', _⟩ := O'.ns; ⟨o, e'⟩
  refine I.write (x := a) (e := dx) (by rw [e]; exact True.intro) (.inr ho) (fun b q hb z => (sb.2 b hb).trans z) hd ?_
  refine ⟨by rw [zE O.ne]; exact ho, ?_, O.ne, O'.obj, _, O'.ns, fun g => ?_, fun g hg => ?_⟩
  · have := length_putF f y fs; lia
  · show RelO ((putF f y fs).lookup g) (if g = f then some u else mA g)
    rw [lookup_putF]
    by_cases q : g = f
    · rw [if_pos q, if_pos q]; exact ry
    · rw [if_neg q, if_neg q]; exact r g
  · by_cases q : g = f
    · rw [q]; exact (keys_putF f y fs).1
    · refine (keys_putF f y fs).2 g (wi g fun z => hg ?_)
      show (if g = f then some u else mA g) = none
      rw [if_neg q]; exact z
theorem Inv.made (I : Inv X pins σ H s) : Inv X pins σ (upd (upd H s.heap.objs.size (.own (s.heap.objs.size + 1))) (s.heap.objs.size + 1) (.ins C s.heap.objs.size []))
    { s with heap := (s.heap.push PySem.W.emptyDict).push (PySem.W.instObj C s.heap.objs.size) } := by
  have e1 : (s.heap.push PySem.W.emptyDict).get? s.heap.objs.size = some PySem.W.emptyDict := Heap.get?_push_size s.heap rfl
  have e2 : ((s.heap.push PySem.W.emptyDict).push (PySem.W.instObj C s.heap.objs.size)).get? (s.heap.objs.size + 1) = some (PySem.W.instObj C s.heap.objs.size) := by
    have := Heap.get?_push_size (s.heap.push PySem.W.emptyDict) (o := PySem.W.instObj C s.heap.objs.size) rfl
    rwa [Heap.size_push] at this
  have e3 : (s.heap.push PySem.W.emptyDict).Ns s.heap.objs.size (fun _ => none) := ⟨PySem.W.emptyDict, #[], _, e1, rfl, (fun e he => absurd he (by simp)), fun _ => rfl⟩
  have I1 := I.laid (a := s.heap.objs.size) (o := .own (s.heap.objs.size + 1)) (h' := s.heap.push PySem.W.emptyDict) (t' := s.toks) (fun b u q => Heap.get?_push_of_some _ q) (Nat.le_refl _) ⟨_, e1⟩
  refine I1.laid (a := s.heap.objs.size + 1) (o := .ins C s.heap.objs.size []) (t' := s.toks) (fun b u q => Heap.get?_push_of_some _ q) (Nat.le_of_eq (Heap.size_push _ _)) ?_
  have ne : s.heap.objs.size ≠ s.heap.objs.size + 1 := Nat.ne_of_lt (Nat.lt_succ_self _)
  refine ⟨by rw [zE ne, zB], Nat.zero_le _, ne, e2, fun _ => none, (Heap.Ns1.of_empty e3).at fun o q => Heap.get?_push_of_some _ q, fun _ => True.intro, fun y hy => absurd rfl hy⟩
theorem attr_of {prog : Program} {w : World} {env : Env} {e : Expr} {f : Str} {pos : Pos} {s : Shared} {Q : Value → Shared → Prop} (hb : attributeBase e f env (eval e env) = eval e env)
    (h : wpAny (model prog w) A (eval e env) (fun o s₁ => wpAny (model prog w) A (getAttr o f true) Q E s₁) E s) : wpAny (model prog w) A (eval (.Attribute e f pos) env) Q E s :=
  Attribute_any_ h (by rw [arm_eval_Attribute, hb])
end
inductive IFld (K : PySem.W.Frag) (f : Str) (Q : VK) (x : V) (H1 : Hp) : Prop
  | mk (a C dx : Addr) (fs : List (Str × V)) (v : V) (_1 : x = .ref a) (_2 : H1 a = some (.ins C dx fs)) (_3 : Cls K C) (_4 : NoAttr K C f) (_5 : fs.lookup f = some v) (_6 : Q v H1) : IFld K f Q x H1
noncomputable def tFld (K : PySem.W.Frag) (ta : TE) (f : Str) : TE := fun σ H Q => ta σ H fun x H1 => IFld K f Q x H1
noncomputable def sFld (K : PySem.W.Frag) (ta tv : TE) (f : Str) : TS := fun D σ H => tv σ H fun y H1 => ta σ H1 fun x H2 => ∃ a C dx fs, x = .ref a ∧ H2 a = some (.ins C dx fs) ∧ Cls K C ∧ NoAttr K C f ∧ fs.length < 1000 ∧
  D.nx σ (upd H2 a (.ins C dx (putF f y fs)))
noncomputable def InOp (X : Cx) (op : Operator) (rd : V → V → Hp → VK → Prop) : Prop :=
  ∀ (pins : List (Addr × Obj)) (s : Shared) (σ : St) (H : Hp) (x y : V) (u v : Value) (Q : VK), Inv X pins σ H s → RelV x u → RelV y v → rd x y H Q → wpAny (model X.prog X.w) X.A (inplaceOp op u v) (EP X pins σ Q) X.xe s
noncomputable def sFldAug (K : PySem.W.Frag) (ta tv : TE) (rd : V → V → Hp → VK → Prop) (f : Str) : TS := fun D σ H => ta σ H fun x H1 => ∃ a C dx fs v, x = .ref a ∧ H1 a = some (.ins C dx fs) ∧ Cls K C ∧ NoAttr K C f ∧ fs.lookup f = some v ∧
  tv σ H1 fun y H2 => rd v y H2 fun z H3 => ∃ dx' fs', H3 a = some (.ins C dx' fs') ∧ fs'.length < 1000 ∧ D.nx σ (upd H3 a (.ins C dx' (putF f z fs')))
section
variable {X : Cx} {o e value : Expr} {f : Str} {pos pos' tpos : Pos} {ta tv : TE}
theorem yF (he : PE X e ta) (hb : attributeBase e f X.env (eval e X.env) = eval e X.env) : PE X (.Attribute e f pos) (tFld X.K ta f) := by
  intro pins s σ H Q I h
  refine attr_of hb (thn5 (he pins s σ H _ I h) fun u s1 x H1 I1 rx hq_ => ?_)
  obtain ⟨a, C, dx, fs, v, ex, ea, c, n, l, q⟩ := hq_
  subst ex
  obtain rfl : u = Value.ref a := rx
  exact getattr_ok I1 ea c n l fun u' s2 I2 ru => ⟨v, H1, I2, ru, q⟩
theorem ps_fld (ha : PE X o ta) (hv : PE X value tv) (hs : swapsWith value (some (.Attribute o f pos')) pos.line X.env = pure false) : PS X (.Assign [.Attribute o f pos'] value pos) (sFld X.K ta tv f) := by
  intro pins s σ H D I h
  refine plainObj_wpAny_Assign_Attribute (thn5 (hv pins s σ H _ I h) fun u s1 y H1 I1 ry q => thn5 (ha pins s1 σ H1 _ I1 q) fun ov s2 x H2 I2 rx hq_ => ?_) hs
  obtain ⟨a, C, dx, fs, ex, ea, c, n, l, q2⟩ := hq_
  subst ex
  obtain rfl : ov = Value.ref a := rx
  exact setattr_ok I2 ea c n l ry fun s3 I3 => ⟨σ, _, I3, q2⟩
theorem ps_fldaug {op : Operator} {rd : V → V → Hp → VK → Prop} (ha : PE X o ta) (hv : PE X value tv) (hop : InOp X op rd) : PS X (.AugAssign (.Attribute o f tpos) op value pos) (sFldAug X.K ta tv rd f) := by
  intro pins s σ H D I h
  refine wpAny_AugAssign_AttributeAny (thn5 (ha pins s σ H _ I h) fun ov s1 x H1 I1 rx hq_ => ?_)
  obtain ⟨a, C, dx, fs, v, ex, ea, c, n, l, q⟩ := hq_
  subst ex
  obtain rfl : ov = Value.ref a := rx
  refine getattr_ok I1 ea c n l fun u s2 I2 ru => thn5 (hv pins s2 σ H1 _ I2 q) fun w3 s3 y H2 I3 ry q3 => thn5 (hop pins s3 σ H2 v y u w3 _ I3 ru ry q3) fun w4 s4 z H3 I4 rz hq_ => ?_
  obtain ⟨dx', fs', ea', l', q4⟩ := hq_
  exact setattr_ok I4 ea' c n l' rz fun s5 I5 => ⟨σ, _, I5, q4⟩
noncomputable def rAdd : V → V → Hp → VK → Prop := fun x y H Q => ∃ i j, x = .int i ∧ y = .int j ∧ Q (.int (i + j)) H
theorem in_add : InOp X .Add rAdd := by
  rintro pins s σ H x y u v Q I rx ry ⟨i, j, rfl, rfl, q⟩
  obtain ⟨t, rfl⟩ := (show ∃ t, u = Value.int i t from rx)
  obtain ⟨t', rfl⟩ := (show ∃ t', v = Value.int j t' from ry)
  exact PyProof.Rows.iadd_int ⟨.int (i + j), H, I.tok _, ⟨_, rfl⟩, q⟩
theorem methcall_of {pl : Sem Bool} {m : Str} {apos : Pos} {args : List Expr} {pins : List (Addr × Obj)} {s : Shared} {σ : St} {H : Hp} {Q : Value → Shared → Prop} {te : TE} (he : PE X e te) (I : Inv X pins σ H s)
    (h : te σ H fun x H1 => ∃ a C dx fs g, x = .ref a ∧ H1 a = some (.ins C dx fs) ∧ Cls X.K C ∧ Meth X.K C m g ∧ fs.lookup m = none ∧
      ∀ s1, Inv X pins σ H1 s1 → wpAny (model X.prog X.w) X.A (callWith pos (.ref g) [.ref a] (backTo pos (starEach args X.env)) (backToKw pos (keywordEach [] X.env))) Q X.xe s1)
    (ht : eval (.Call (.Attribute e m apos) args [] pos) X.env = (do
      let ov ← eval e X.env
      standAt apos.atName
      let (f, first) ← holding [ov] (getMethod ov m pl)
      callWith pos f first (backTo pos (starEach args X.env)) (backToKw pos (keywordEach [] X.env)))) :
    wpAny (model X.prog X.w) X.A (eval (.Call (.Attribute e m apos) args [] pos) X.env) Q X.xe s := by
  refine PySem.W.methodCall_KW (pl := pl) (thn5 (he pins s σ H _ I h) fun u s1 x H1 I1 rx hq_ => ?_) ht
  obtain ⟨a, C, dx, fs, g, ex, ea, c, k, l, q⟩ := hq_
  subst ex
  obtain rfl : u = Value.ref a := rx
  exact getmeth_ok I1 ea c k l (q s1 I1)
end
end L2
namespace L2
open PySem PySem.Spec PyProof.Rows
structure Room (k : Nat) (A : Around) : Prop where
  hd : A.handled = none
  dp : A.depth + 3 * k + 5 < recursionLimit
  un : A.units + 16 * k + 200 < cLine
theorem Room.mono {j k : Nat} {A : Around} (r : Room k A) (h : j ≤ k) : Room j A := ⟨r.hd, Nat.lt_of_le_of_lt (Nat.add_le_add_right (Nat.add_le_add_left (Nat.mul_le_mul_left 3 h) _) 5) r.dp, Nat.lt_of_le_of_lt (Nat.add_le_add_right (Nat.add_le_add_left (Nat.mul_le_mul_left 16 h) _) 200) r.un⟩
theorem Room.deeper {k : Nat} {A : Around} (r : Room (k + 1) A) (env : Env) : Room k (A.deeper env) :=
  ⟨r.hd, by have := r.dp; show A.depth + 1 + 3 * k + 5 < _; lia, by have := r.un; show A.units + 3 + 16 * k + 200 < _; lia⟩
theorem Room.in1 {k : Nat} {A : Around} (r : Room (k + 1) A) : Room k A.in1 :=
  ⟨r.hd, by have := r.dp; show A.depth + 3 * k + 5 < _; lia, by have := r.un; show A.units + 1 + 16 * k + 200 < _; lia⟩
theorem make_depth {A : Around} {C : Addr} {us : List Value} {kw : List (Str × Value)} : (A.under (.builtin "type.__call__" ⟨.ref C :: us, kw⟩)).depth = A.depth + 1 := by
  first | rfl | simp [Around.under, Code.weight, Code.isCreation, Code.isGuard, Code.isCaller, Code.frames, Code.isFrame, guardIds]
theorem make_units {A : Around} {C : Addr} {us : List Value} {kw : List (Str × Value)} : (A.under (.builtin "type.__call__" ⟨.ref C :: us, kw⟩)).units = A.units + 1 := by
  first | rfl | simp [Around.under, Code.cUnits, Code.frames, Code.isFrame]
theorem Room.make {k : Nat} {A : Around} (r : Room (k + 1) A) (C : Addr) (us : List Value) (kw : List (Str × Value)) : Room k (A.under (.builtin "type.__call__" ⟨.ref C :: us, kw⟩)) :=
  ⟨r.hd, by have := r.dp; rw [make_depth]; lia, by have := r.un; rw [make_units]; lia⟩
theorem Room.depth {k : Nat} {A : Around} (r : Room k A) : A.depth < recursionLimit := Nat.lt_of_le_of_lt (Nat.le_add_right_of_le (Nat.le_add_right _ _)) r.dp
theorem Room.units {k : Nat} {A : Around} (r : Room k A) : A.units + 64 < cLine := Nat.lt_of_le_of_lt (Nat.le_trans (Nat.add_le_add_left (by decide : 64 ≤ 200) _) (Nat.add_le_add_right (Nat.le_add_right _ _) 200)) r.un
noncomputable def tNil : TA := fun _ H Q => Q [] H
noncomputable def tCons (ta : TE) (tr : TA) : TA := fun σ H Q => ta σ H fun x H1 => tr σ H1 fun xs H2 => Q (x :: xs) H2
section
variable {X : Cx} {e : Expr} {es : List Expr} {te : TE} {t : TA} {pos : Pos}
theorem zF : PA X [] tNil := fun _ _ _ _ H Q I h => Calls.spliced_nil ⟨[], H, I, .nil, h⟩
theorem zA (ha : PE X e te) (hr : PA X es t) (hs : starEach (e :: es) X.env = (false, eval e X.env) :: starEach es X.env := by rfl) : PA X (e :: es) (tCons te t) := by
  intro pos pins s σ H Q I h
  rw [hs]
  show wpAny _ _ (spliced ((false, eval e X.env) :: backTo pos (starEach es X.env))) _ _ s
  refine Calls.spliced_cons (thn5 (ha pins s σ H _ I h) fun u s1 x H1 I1 r1 q1 => ?_)
  exact thn5 (hr pos pins s1 σ H1 _ I1 q1) fun us s2 xs H2 I2 r2 q2 => ⟨x :: xs, H2, I2, .cons r1 r2, q2⟩
noncomputable def tTup (t : TA) : TE := fun σ H Q => t σ H fun xs H1 => xs.length ≤ sizeLine ∧ ∀ p, H1 p = none → Q (.ref p) (upd H1 p (.tup xs))
noncomputable def tLst (t : TA) : TE := fun σ H Q => t σ H fun xs H1 => xs.length ≤ sizeLine ∧ ∀ p, H1 p = none → Q (.ref p) (upd H1 p (.lst xs))
theorem pe_tup {x1} (h : PA X es t) : PE X (.Tuple es x1 pos) (tTup t) := by
  intro pins s σ H Q I hq
  refine wpAny_Tuple_spliced (thn (h pos pins s σ H _ I hq) fun us s1 ⟨xs, H1, I1, r, z, q⟩ => ⟨by rw [← r.length]; exact z, ?_⟩)
  have hf : H1 s1.heap.objs.size = none := I1.hok.fresh (Nat.le_refl _)
  refine ⟨.ref s1.heap.objs.size, upd H1 s1.heap.objs.size (.tup xs), I1.laid (t' := s1.toks) (fun b u e => Heap.get?_push_of_some _ e) (Nat.le_refl _) ?_, rfl, q _ hf⟩
  exact ⟨z, us, r, ⟨_, Heap.get?_push_size _ rfl, rfl, _, rfl⟩⟩
theorem pe_lst (h : PA X es t) : PE X (.List es pos) (tLst t) := by
  intro pins s σ H Q I hq
  refine wpAny_List_spliced (thn (h pos pins s σ H _ I hq) fun us s1 ⟨xs, H1, I1, r, z, q⟩ => ⟨by rw [← r.length]; exact z, ?_⟩)
  have hf : H1 s1.heap.objs.size = none := I1.hok.fresh (Nat.le_refl _)
  refine ⟨.ref s1.heap.objs.size, upd H1 s1.heap.objs.size (.lst xs), I1.laid (t' := s1.toks) (fun b u e => Heap.get?_push_of_some _ e) (Nat.le_refl _) ?_, rfl, q _ hf⟩
  exact ⟨z, us, 0, r, Heap.get?_push_size _ rfl⟩
end
noncomputable abbrev Sp := List V → Hp → VK → XK → Prop
noncomputable abbrev CXT := List Env → Hp → Shared → XK → Value → Shared → Prop
structure Env0 (P : Program) (w : World) (K : PySem.W.Frag) (mg : Str → Option Value) (base : Heap) (A : Around) (outer : List Env) (s : Shared) (H : Hp) : Prop where
  frames : A.frames = some outer
  mod : Mod K mg base
  bs : ∀ b o, base.get? b = some o → s.heap.get? b = some o ∧ H b = none
  bsz : base.objs.size ≤ s.heap.objs.size
  funs : s.heap.FunFrames base outer
  frf : ∀ b ∈ frs outer, H b = none
  hok : HOk P w H s.heap
  bare : AllBare s.gens
noncomputable def CE (outer : List Env) (P : Program) (w : World) (H : Hp) (s : Shared) (Q : VK) (u : Value) (s' : Shared) : Prop :=
  ∃ v H', s'.os = s.os ∧ AllBare s'.gens ∧ Un (frs outer) [] H H' s.heap s'.heap ∧ HOk P w H' s'.heap ∧ RelV v u ∧ Q v H'
noncomputable def CR (CX : CXT) (outer : List Env) (P : Program) (w : World) (H : Hp) (s : Shared) (Q : VK) (E : XK) (r : Result) (s' : Shared) : Prop :=
  match r with
  | .ok (.ret u) => CE outer P w H s Q u s'
  | .ok _ => False
  | .error e => CX outer H s E e s'
structure FnOk (P : Program) (w : World) (K : PySem.W.Frag) (mg : Str → Option Value) (base : Heap) (CX : CXT) (k : Nat) (f : Addr) (fd : FuncData) (ps : List Str) (sp : Sp) : Prop where
  len : ∀ vs H Q E, sp vs H Q E → vs.length = ps.length
  run : ∀ (A : Around) (outer : List Env) (s : Shared) (H : Hp) (args : Args) (us : List Value) (vs : List V) (Q : VK) (E : XK), Room k A → Env0 P w K mg base A outer s H → BindsTo s fd args (ps.zip us) → Vals vs us → sp vs H Q E →
    codeAny (model P w) A (.call (.ref f) args) (CR CX outer P w H s Q E) s
theorem Env0.make {P : Program} {w : World} {K : PySem.W.Frag} {mg : Str → Option Value} {base : Heap} {A : Around} {outer : List Env} {s : Shared} {H : Hp} (e : Env0 P w K mg base A outer s H) (C : Addr) (us : List Value) (kw : List (Str × Value)) :
    Env0 P w K mg base (A.under (.builtin "type.__call__" ⟨.ref C :: us, kw⟩)) outer s H := ⟨by first | exact e.frames | (simpa [Around.under, Code.envs, Code.isFrame, pushEnvs] using e.frames), e.mod, e.bs, e.bsz, e.funs, e.frf, e.hok, e.bare⟩
theorem Env0.in1 {P : Program} {w : World} {K : PySem.W.Frag} {mg : Str → Option Value} {base : Heap} {A : Around} {outer : List Env} {s : Shared} {H : Hp} (e : Env0 P w K mg base A outer s H) :
    Env0 P w K mg base A.in1 outer s H := ⟨e.frames, e.mod, e.bs, e.bsz, e.funs, e.frf, e.hok, e.bare⟩
section
variable {X : Cx} {pins : List (Addr × Obj)} {σ : St} {H : Hp} {s s' : Shared}
theorem Inv.env0 (I : Inv X pins σ H s) : Env0 X.prog X.w X.K X.mg X.base X.A X.stack s H :=
  ⟨I.ok.frames, I.ok.mod, I.bs, Nat.le_trans I.ok.bsz I.sz, I.stack, I.stkFree, I.hok, I.bare⟩
theorem Inv.after {Q : VK} {u : Value} (I : Inv X pins σ H s) (h : CE X.stack X.prog X.w H s Q u s') : EP X pins σ Q u s' := by
  obtain ⟨v, H', os, bare, un, hok, r, q⟩ := h
  obtain ⟨hh, g, d, t, os'⟩ := s'
  obtain rfl : os' = s.os := os
  exact ⟨v, H', I.call (h' := hh) (g' := g) (d' := d) (t' := t) (ch := []) un hok bare (fun b z => absurd z (by simp)), r, q⟩
end
noncomputable def tCall (sp : Sp) (dvs : List V) (E : XK) (t : TA) : TE := fun σ H Q => t σ H fun vs H1 => sp (vs ++ dvs) H1 Q E
inductive IMeth (C : Addr) (m : Str) (R : Prop) (x : V) (H1 : Hp) : Prop
  | mk (a dx : Addr) (fs : List (Str × V)) (_1 : x = .ref a) (_2 : H1 a = some (.ins C dx fs)) (_3 : fs.lookup m = none) (_4 : R) : IMeth C m R x H1
noncomputable def tMeth (C : Addr) (m : Str) (sp : Sp) (dvs : List V) (E : XK) (ta : TE) (t : TA) : TE := fun σ H Q => ta σ H fun x H1 => IMeth C m (t σ H1 fun vs H2 => sp (x :: (vs ++ dvs)) H2 Q E) x H1
noncomputable def tMake (C : Addr) (sp : Sp) (dvs : List V) (E : XK) (t : TA) : TE := fun σ H Q => t σ H fun vs H1 => ∀ x dx, H1 x = none → H1 dx = none → dx ≠ x →
  sp (.ref x :: (vs ++ dvs)) (upd (upd H1 dx (.own x)) x (.ins C dx [])) (fun v H2 => v = .non ∧ Q (.ref x) H2) E
noncomputable def Binds (K : PySem.W.Frag) (fd : FuncData) (ps : List Str) (ds : List Value) : Prop :=
  ∀ (s : Shared) (us : List Value), K.In s.heap → (us ++ ds).length = ps.length → BindsTo s fd ⟨us, []⟩ (ps.zip (us ++ ds))
theorem Binds.all {K : PySem.W.Frag} {fd : FuncData} {ps : List Str} (h : ∀ us : List Value, us.length = ps.length → bindArgs fd ⟨us, []⟩ = pure (ps.zip us)) : Binds K fd ps [] := fun s us _ hl => by
  rw [List.append_nil] at hl ⊢
  exact .of_eq (h us hl)
noncomputable def Passes (CX : CXT) (X : Cx) (E : XK) : Prop := ∀ (pins : List (Addr × Obj)) (σ : St) (H : Hp) (s : Shared) (e : Value) (s' : Shared), Inv X pins σ H s → CX X.stack H s E e s' → X.xe e s'
section
variable {X : Cx} {CX : CXT} {k : Nat} {f C : Addr} {fd : FuncData} {ps : List Str} {sp : Sp} {dvs : List V} {ds : List Value} {E : XK} {x m : Str} {p pos apos : Pos} {e o : Expr} {es : List Expr} {ta : TE} {t : TA}
theorem run_fn {pins : List (Addr × Obj)} {σ : St} {H : Hp} {s : Shared} {Q : VK} {us : List Value} {vs : List V} (F : FnOk X.prog X.w X.K X.mg X.base CX k f fd ps sp) (hr : Room k X.A) (hb : Binds X.K fd ps ds) (hd : Vals dvs ds) (hx : Passes CX X E)
    (I : Inv X pins σ H s) (r : Vals vs us) (h : sp (vs ++ dvs) H Q E) : wpAny (model X.prog X.w) X.A (call (.ref f) us) (EP X pins σ Q) X.xe s := by
  have r2 : Vals (vs ++ dvs) (us ++ ds) := r.append hd
  have hl : (us ++ ds).length = ps.length := by rw [← r2.length]; exact F.len _ _ _ _ h
  refine wpAny_call (codeAny_mono (F.run X.A X.stack s H ⟨us, []⟩ (us ++ ds) (vs ++ dvs) Q E hr I.env0 (hb s us I.kIn hl) r2 h) fun r s' hq => ?_)
  cases r with
  | error e => exact hx pins σ H s e s' I hq
  | ok fl =>
    cases fl with
    | ret u => exact I.after hq
    | next => exact False.elim hq
    | brk => exact False.elim hq
    | cont => exact False.elim hq
theorem pe_call (F : FnOk X.prog X.w X.K X.mg X.base CX k f fd ps sp) (hr : Room k X.A) (hg : Gl X x) (hm : X.mg x = some (.ref f)) (hk : PySem.W.keepIn X.K (.ref f) = true) (hb : Binds X.K fd ps ds) (hd : Vals dvs ds) (hx : Passes CX X E)
    (ha : PA X (e :: es) t) (hdb : (x == ("__debug__" : Str)) = false := by decide) (he : starEach (e :: es) X.env = (false, eval e X.env) :: starEach es X.env := by rfl) (hpl : (backTo pos (starEach es X.env)).any (·.1) = false := by rfl) :
    PE X (.Call (.Name x p) (e :: es) [] pos) (tCall sp dvs E t) := by
  intro pins s σ H Q I h
  refine wpAny_Call_Name_kw (ld_glob I hg hm ?_ hdb)
  refine PySem.W.callWith_K (h₀ := X.base) I.ok.mod.kin hk (thn5 (ha pos pins s σ H _ I h) fun us s1 vs H1 I1 r q => ⟨I1.kIn, ?_⟩) he hpl
  exact run_fn F hr hb hd hx I1 r q
theorem zW {pl : Sem Bool} (he : PE X o ta) (c : Cls X.K C) (hm : Meth X.K C m f) (F : FnOk X.prog X.w X.K X.mg X.base CX k f fd ps sp) (hr : Room k X.A) (hb : Binds X.K fd ps ds) (hd : Vals dvs ds) (hx : Passes CX X E) (ha : PA X (e :: es) t)
    (hst : starEach (e :: es) X.env = (false, eval e X.env) :: starEach es X.env := by rfl) (hpl : (backTo pos (starEach es X.env)).any (·.1) = false := by rfl)
    (ht : eval (.Call (.Attribute o m apos) (e :: es) [] pos) X.env = (do
      let ov ← eval o X.env
      standAt apos.atName
      let (f, first) ← holding [ov] (getMethod ov m pl)
      callWith pos f first (backTo pos (starEach (e :: es) X.env)) (backToKw pos (keywordEach [] X.env))) := by rfl) :
    PE X (.Call (.Attribute o m apos) (e :: es) [] pos) (tMeth C m sp dvs E ta t) := by
  intro pins s σ H Q I h
  refine PySem.W.methodCall_KW (pl := pl) (thn5 (he pins s σ H _ I h) fun u s1 x H1 I1 rx hq_ => ?_) ht
  obtain ⟨a, dx, fs, ex, ea, l, q⟩ := hq_
  subst ex
  obtain rfl : u = Value.ref a := rx
  refine getmeth_ok I1 ea c hm l ?_
  refine PySem.W.callWith_K (first := [.ref a]) (h₀ := X.base) I.ok.mod.kin hm.kp (thn5 (ha pos pins s1 σ H1 _ I1 q) fun us s2 vs H2 I2 r q2 => ⟨I2.kIn, ?_⟩) hst hpl
  exact run_fn (us := .ref a :: us) (vs := .ref a :: vs) F hr hb hd hx I2 (.cons rfl r) q2
theorem pe_meth0 {pl : Sem Bool} (he : PE X o ta) (c : Cls X.K C) (hm : Meth X.K C m f) (F : FnOk X.prog X.w X.K X.mg X.base CX k f fd ps sp) (hr : Room k X.A) (hb : Binds X.K fd ps ds) (hd : Vals dvs ds) (hx : Passes CX X E)
    (ht : eval (.Call (.Attribute o m apos) [] [] pos) X.env = (do
      let ov ← eval o X.env
      standAt apos.atName
      let (f, first) ← holding [ov] (getMethod ov m pl)
      callWith pos f first (backTo pos (starEach [] X.env)) (backToKw pos (keywordEach [] X.env))) := by rfl) :
    PE X (.Call (.Attribute o m apos) [] [] pos) (tMeth C m sp dvs E ta tNil) := by
  intro pins s σ H Q I h
  refine PySem.W.methodCall_KW (pl := pl) (thn5 (he pins s σ H _ I h) fun u s1 x H1 I1 rx hq_ => ?_) ht
  obtain ⟨a, dx, fs, ex, ea, l, q⟩ := hq_
  subst ex
  obtain rfl : u = Value.ref a := rx
  refine getmeth_ok I1 ea c hm l ?_
  exact PySem.W.callWith_K0 (first := [.ref a]) I1.kIn hm.kp (run_fn (us := [.ref a]) (vs := [.ref a]) F hr hb hd hx I1 (.cons rfl .nil) q)
structure Mk (K : PySem.W.Frag) (C f : Addr) : Prop where
  makes : PySem.W.makesIn K C = true
  init : PySem.W.findIn K (.ref C) "__init__" = some (some (.ref f))
  fn : PySem.W.isFn K (.ref f) = true
  kp : PySem.W.keepIn K (.ref C) = true
theorem run_make {pins : List (Addr × Obj)} {σ : St} {H : Hp} {s : Shared} {Q : VK} {us : List Value} {vs : List V} (M : Mk X.K C f) (F : FnOk X.prog X.w X.K X.mg X.base CX k f fd ps sp) (hr : Room (k + 1) X.A) (hb : Binds X.K fd ps ds) (hd : Vals dvs ds)
    (hx : Passes CX X E) (I : Inv X pins σ H s) (r : Vals vs us)
    (h : ∀ x dx, H x = none → H dx = none → dx ≠ x → sp (.ref x :: (vs ++ dvs)) (upd (upd H dx (.own x)) x (.ins C dx [])) (fun v H2 => v = .non ∧ Q (.ref x) H2) E) :
    wpAny (model X.prog X.w) X.A (call (.ref C) us) (EP X pins σ Q) X.xe s := by
  have hq := h (s.heap.objs.size + 1) s.heap.objs.size (I.hok.fresh (Nat.le_succ _)) (I.hok.fresh (Nat.le_refl _)) (Nat.ne_of_lt (Nat.lt_succ_self _))
  have I2 := Inv.made (C := C) I
  have r2 : Vals (V.ref (s.heap.objs.size + 1) :: (vs ++ dvs)) (Value.ref (s.heap.objs.size + 1) :: (us ++ ds)) := .cons rfl (r.append hd)
  have hl : (Value.ref (s.heap.objs.size + 1) :: us ++ ds).length = ps.length := by
    have e := r2.length
    rw [F.len _ _ _ _ hq] at e
    exact e.symm
  refine wpAny_call (make_map (f := f) I.kIn M.makes M.init (beq_iff_eq.mp M.fn) (codeAny_mono (F.run _ X.stack _ _ ⟨Value.ref (s.heap.objs.size + 1) :: us, []⟩ (Value.ref (s.heap.objs.size + 1) :: (us ++ ds)) _ _ E (hr.make C us [])
    (I2.env0.make C us []) (hb _ (Value.ref (s.heap.objs.size + 1) :: us) I2.kIn hl) r2 hq) fun r s' hq' => ?_))
  cases r with
  | error e => exact hx pins σ _ _ e s' I2 hq'
  | ok fl =>
    cases fl with
    | ret u =>
      obtain ⟨v, H', I3, rv, ev, q3⟩ := I2.after hq'
      subst ev
      exact ⟨rv, ⟨V.ref (s.heap.objs.size + 1), H', I3, rfl, q3⟩⟩
    | next => exact False.elim hq'
    | brk => exact False.elim hq'
    | cont => exact False.elim hq'
theorem pe_make0 (M : Mk X.K C f) (F : FnOk X.prog X.w X.K X.mg X.base CX k f fd ps sp) (hr : Room (k + 1) X.A) (hg : Gl X x) (hm : X.mg x = some (.ref C)) (hb : Binds X.K fd ps ds) (hd : Vals dvs ds) (hx : Passes CX X E)
    (hdb : (x == ("__debug__" : Str)) = false := by decide) : PE X (.Call (.Name x p) [] [] pos) (tMake C sp dvs E tNil) := by
  intro pins s σ H Q I h
  refine wpAny_Call_Name_kw (ld_glob I hg hm ?_ hdb)
  exact PySem.W.callWith_K0 I.kIn M.kp (run_make (us := []) M F hr hb hd hx I .nil h)
end
noncomputable def PK (X : Cx) (kws : List Keyword) (t : TA) : Prop :=
  ∀ (pos : Pos) (pins : List (Addr × Obj)) (s : Shared) (σ : St) (H : Hp) (Q : List V → Hp → Prop), Inv X pins σ H s → t σ H Q → wpAny (model X.prog X.w) X.A (evalAll ((backToKw pos (keywordEach kws X.env)).map (·.2))) (AP X pins σ Q) X.xe s
section
variable {X : Cx} {CX : CXT} {k : Nat} {f C : Addr} {fd : FuncData} {ps ks : List Str} {sp : Sp} {E : XK} {x m : Str} {p pos apos kpos : Pos} {e o : Expr} {es : List Expr} {kws : List Keyword} {te ta : TE} {t tk : TA} {nm : Option Str}
theorem pk_nil : PK X [] tNil := fun _ _ _ _ H Q I h => wpAny_evalAll_nil ⟨[], H, I, .nil, h⟩
theorem pk_cons (ha : PE X e te) (hr : PK X kws t) : PK X (⟨nm, e, kpos⟩ :: kws) (tCons te t) := by
  intro pos pins s σ H Q I h
  show wpAny _ _ (evalAll ((do let v ← eval e X.env; standAt pos; pure v) :: (backToKw pos (keywordEach kws X.env)).map (·.2))) _ _ s
  refine wpAny_evalAll_cons (wpAny_bind (thn5 (ha pins s σ H _ I h) fun u s1 x H1 I1 r1 q1 => wpAny_bind (wpAny_standAt (wpAny_pure ?_))))
  exact thn5 (hr pos pins s1 σ H1 _ I1 q1) fun us s2 xs H2 I2 r2 q2 => ⟨x :: xs, H2, I2, .cons r1 r2, q2⟩
variable {g : List Value → List Value → List Value} {gV : List V → List V → List V}
end
structure zR (N P : List Str) (sc : Scope) : Prop where
  kind : sc.kind = .function
  co : sc.isCoroutine = false
  gen : sc.isGenerator = false
  nd : N.Nodup
  pre : N.take P.length = P
  par : ∀ x ∈ P, sc.names.lookup x = some .local ∨ sc.names.lookup x = some .cell
  nofree : ∀ y ∈ sc.names, y.2 ≠ .free
theorem bindL_out {kindOf : Str → Option NameKind} {x : Str} : ∀ {binds : List (Str × Value)} {m : Str → Option Value}, (∀ v, (x, v) ∉ binds) → bindL kindOf binds m x = m x
  | [], _, _ => rfl
  | (n, v) :: r, m, h => by
    unfold bindL
    rw [bindL_out fun w hw => h w (List.mem_cons_of_mem _ hw)]
    split
    · have : x ≠ n := by rintro rfl; exact h v List.mem_cons_self
      simp [this]
    · rfl
theorem bindC_out {kindOf : Str → Option NameKind} {x : Str} : ∀ {binds : List (Str × Value)} {m : Str → Option Value}, (∀ v, (x, v) ∉ binds) → bindC kindOf binds m x = m x
  | [], _, _ => rfl
  | (n, v) :: r, m, h => by
    unfold bindC
    rw [bindC_out fun w hw => h w (List.mem_cons_of_mem _ hw)]
    split
    · rfl
    · have : x ≠ n := by rintro rfl; exact h v List.mem_cons_self
      simp [this]
theorem bindL_get {kindOf : Str → Option NameKind} {x : Str} {v : Value} : ∀ {P : List Str} {vs : List Value} {i : Nat} {m : Str → Option Value}, P.Nodup → P[i]? = some x → vs[i]? = some v → kindOf x = some .local →
    bindL kindOf (P.zip vs) m x = some v
  | [], _, _, _, _, h, _, _ => by simp at h
  | _ :: _, [], _, _, _, _, h, _ => by simp at h
  | p :: P, w :: vs, 0, m, nd, h1, h2, hk => by
    simp at h1 h2; subst h1; subst h2
    show bindL kindOf ((p, w) :: P.zip vs) m p = _
    unfold bindL
    rw [bindL_out fun v hv => (List.nodup_cons.mp nd).1 (List.of_mem_zip hv).1, if_pos hk]
    simp
  | p :: P, w :: vs, i + 1, m, nd, h1, h2, hk => by
    show bindL kindOf ((p, w) :: P.zip vs) m x = _
    unfold bindL
    exact bindL_get (i := i) (List.nodup_cons.mp nd).2 (by simpa using h1) (by simpa using h2) hk
theorem bindC_get {kindOf : Str → Option NameKind} {x : Str} {v : Value} : ∀ {P : List Str} {vs : List Value} {i : Nat} {m : Str → Option Value}, P.Nodup → P[i]? = some x → vs[i]? = some v → kindOf x ≠ some .local →
    bindC kindOf (P.zip vs) m x = some v
  | [], _, _, _, _, h, _, _ => by simp at h
  | _ :: _, [], _, _, _, _, h, _ => by simp at h
  | p :: P, w :: vs, 0, m, nd, h1, h2, hk => by
    simp at h1 h2; subst h1; subst h2
    show bindC kindOf ((p, w) :: P.zip vs) m p = _
    unfold bindC
    rw [bindC_out fun v hv => (List.nodup_cons.mp nd).1 (List.of_mem_zip hv).1, if_neg hk]
    simp
  | p :: P, w :: vs, i + 1, m, nd, h1, h2, hk => by
    show bindC kindOf ((p, w) :: P.zip vs) m x = _
    unfold bindC
    exact bindC_get (i := i) (List.nodup_cons.mp nd).2 (by simpa using h1) (by simpa using h2) hk
noncomputable def start (N : List Str) (vs : List V) : St := vs.map some ++ List.replicate (N.length - vs.length) none
noncomputable def cxOf (CX : CXT) (P : Program) (w : World) (K : PySem.W.Frag) (mg : Str → Option Value) (base : Heap) (N : List Str) (qual : Str) (scope : Scope) (f : Addr) (cd : Value) (A : Around) (outer : List Env) (s : Shared) (H : Hp) (E : XK) : Cx where
  prog := P
  w := w
  K := K
  mg := mg
  base := base
  A := A.deeper (envOfC qual scope s.heap.objs.size f cd)
  N := N
  s_0 := s
  H_0 := H
  env := envOfC qual scope s.heap.objs.size f cd
  outer := outer
  stack := envOfC qual scope s.heap.objs.size f cd :: outer
  ex := []
  calm := true
  fn := fun _ => true
  pn := []
  xe := fun e s' => wpAny (model P w) (A.deeper (envOfC qual scope s.heap.objs.size f cd)) (leaving (envOfC qual scope s.heap.objs.size f cd) e) (fun _ s'' => CX outer H s E e s'') (fun e' s'' => CX outer H s E e' s'') s'
theorem cell_has {sc : Scope} {n : Nat} {x : Str} (h : sc.names.lookup x = some .cell) : ∃ c, (cellsFrom n sc.names []).lookup x = some c := by
  have q := PySem.W.cellsFrom_some sc.names n [] (.inl h)
  exact Option.isSome_iff_exists.mp q
theorem inv_start {CX : CXT} {P : Program} {w : World} {K : PySem.W.Frag} {mg : Str → Option Value} {base : Heap} {N ps : List Str} {qual : Str} {scope : Scope} {f : Addr} {cd : Value} {A : Around} {outer : List Env} {s s1 : Shared} {H : Hp} {E : XK} {us : List Value} {vs : List V}
    (S : zR N ps scope) (hd : A.handled = none) (e0 : Env0 P w K mg base A outer s H) (hl : vs.length = ps.length) (r : Vals vs us)
    (x : InCallC s s.heap.objs.size (bindL (envOfC qual scope s.heap.objs.size f cd).kindOf (ps.zip us) fun _ => none) (cellsFrom (s.heap.objs.size + 1) scope.names []) (bindC (envOfC qual scope s.heap.objs.size f cd).kindOf (ps.zip us) fun _ => none) s1) :
    Inv (cxOf CX P w K mg base N qual scope f cd A outer s H E) [] (start N vs) H s1 := by
  have hpl : ps.length ≤ N.length := by have := congrArg List.length S.pre; rw [List.length_take] at this; lia
  obtain ⟨h1, tk, rfl, hk⟩ := x.done
  have noA : ∀ b : Addr, b ∉ (cxOf CX P w K mg base N qual scope f cd A outer s H E).ex := fun b z => absurd (show b ∈ ([] : List Addr) from z) (by simp)
  refine ⟨⟨e0.mod, S.kind, rfl, rfl, Nat.le_refl _, fun y z c h1 h2 => ?_, fun y hy => ?_, fun y c _ h => ?_, fun _ => hd, Around.frames_deeper e0.frames, .inr ⟨rfl, rfl⟩, fun b z => absurd z (noA b), e0.bs, e0.bsz, fun b _ _ => noA b, fun b z => absurd z (noA b), e0.funs, e0.frf⟩,
    rfl, e0.bare, Un.kept hk, ⟨_, x.toInCall.ns, fun i y v h1 h2 h3 => ?_⟩, fun y c h => ⟨_, x.cell y c h⟩, e0.hok.fresh (Nat.le_refl _), fun y c h => ?_, fun p hp => absurd (show p ∈ ([] : List (Addr × Obj)) from hp) (by simp), e0.hok.kept hk, ?_⟩
  · exact name_of_addr x.apart (PySem.mem_of_lookup h1) (PySem.mem_of_lookup h2)
  · have hy : scope.names.lookup y = some .cell ∨ scope.names.lookup y = some .free := hy
    rcases hy with hy | hy
    · exact cell_has hy
    · exact absurd rfl (S.nofree _ (PySem.mem_of_lookup hy))
  · exact Nat.le_of_lt (x.above y c (PySem.mem_of_lookup h))
  · have hi : i < vs.length := by
      unfold start at h2
      by_cases hi : i < vs.length
      · exact hi
      · rw [List.getElem?_append_right (by simpa using hi)] at h2
        rw [List.getElem?_replicate] at h2
        split at h2 <;> cases h2
    have ha : vs[i]? = some v := by
      unfold start at h2
      rw [List.getElem?_append_left (by simpa using hi), List.getElem?_map] at h2
      cases e : vs[i]? with
      | none => rw [e] at h2; cases h2
      | some a => rw [e] at h2; cases h2; rfl
    obtain ⟨u, hu, rv⟩ := r.get ha
    have hp : ps[i]? = some y := by
      rw [← S.pre, List.getElem?_take_of_lt (by lia)]; exact h1
    have ndP : ps.Nodup := by rw [← S.pre]; exact S.nd.sublist (List.take_sublist _ _)
    refine ⟨u, rv, ?_⟩
    rcases S.par y (List.mem_of_getElem? hp) with k | k
    · exact .inl ⟨k, bindL_get ndP hp hu k⟩
    · obtain ⟨c, e⟩ := cell_has (n := s.heap.objs.size + 1) k
      refine .inr ⟨.inl k, c, e, ?_⟩
      have q := x.cell y c e
      rw [bindC_get ndP hp hu (by show scope.names.lookup y ≠ _; rw [k]; decide)] at q
      exact q
  · exact e0.hok.fresh (Nat.le_of_lt (x.above y c (PySem.mem_of_lookup h)))
  · unfold start
    show _ = N.length
    rw [List.length_append, List.length_map, List.length_replicate]
    lia
theorem fn_of {CX : CXT} {P : Program} {w : World} {K : PySem.W.Frag} {mg : Str → Option Value} {base : Heap} {k : Nat} {f : Addr} {name qual : Str} {params : Arguments} {body : List Stmt} {scope : Scope} {dV kV doc pm cdv ct oc : Value} {an od : Option Addr}
    {osl : Array (Option Value)} {N ps : List Str} {sp : Sp} (lk : K.lookup f = some ⟨oc, od, .func (PySem.W.fnOf name qual params body scope dV kV doc pm an cdv ct), osl⟩) (hcd : PySem.W.codeIn K cdv qual = true) (S : zR N ps scope)
    (len : ∀ vs H Q E, sp vs H Q E → vs.length = ps.length)
    (hbody : ∀ (A : Around) (outer : List Env) (s : Shared) (H : Hp) (vs : List V) (Q : VK) (E : XK), Room k (A.deeper (envOfC qual scope s.heap.objs.size f cdv)) → sp vs H Q E →
      ∃ t, PSs (cxOf CX P w K mg base N qual scope f cdv A outer s H E) body t ∧ t { nx := fun _ H' => Q .non H', rt := Q } (start N vs) H) :
    FnOk P w K mg base CX (k + 1) f (PySem.W.fnOf name qual params body scope dV kV doc pm an cdv ct) ps sp := by
  refine ⟨len, fun A outer s H args us vs Q E hr e0 hb r hsp => ?_⟩
  have hl := len _ _ _ _ hsp
  have KX : K.In s.heap := e0.mod.kin.keeps fun b o e => (e0.bs b o e).1
  have lim : s.heap.NoLimit := e0.mod.nolimit.keeps fun b o e => (e0.bs b o e).1
  have hkind : ∀ y ∈ ps.zip us, scope.names.lookup y.1 = some .local ∨ (scope.names.lookup y.1 = some .cell ∧ ((cellsFrom (s.heap.objs.size + 1) scope.names []).lookup y.1).isSome = true) := fun ⟨n, v⟩ hy => by
    rcases S.par n (List.of_mem_zip hy).1 with q | q
    · exact .inl q
    · exact .inr ⟨q, PySem.W.cellsFrom_some _ _ _ (.inl q)⟩
  refine codeAny_call_function hr.depth (KX _ _ lk) rfl S.co S.gen rfl (PySem.W.codeRec_of KX hcd) (hb _ _ _ _ ?_)
  refine wpAny_newFunctionEnv_cells S.kind hkind fun env he s1 x => ?_
  subst he
  refine ⟨lim.keeps x.toInCall.keep, codeAny_func ?_⟩
  obtain ⟨t, ht, hq⟩ := hbody A outer s H vs Q E (hr.deeper _) hsp
  have I : Inv (cxOf CX P w K mg base N qual scope f cdv A outer s H E) [] (start N vs) H s1 := inv_start S hr.hd e0 hl r x
  refine wpAny_mono (ht [] s1 (start N vs) H _ I hq) (fun fl s' hs => ?_) fun e s' hs => hs
  have fin : ∀ {σ' : St} {H' : Hp} {v : V} {u : Value}, Inv (cxOf CX P w K mg base N qual scope f cdv A outer s H E) [] σ' H' s' → RelV v u → Q v H' → CE outer P w H s Q u s' :=
    fun {σ' H' v u} J rv q => ⟨v, H', J.os, J.bare, J.base, J.hok, rv, q⟩
  cases fl with
  | ret u =>
    obtain ⟨v, σ', H', J, rv, q⟩ := hs
    exact fin J rv q
  | next =>
    obtain ⟨σ', H', J, q⟩ := hs
    exact fin (v := V.non) (u := Value.none) J rfl q
  | brk =>
    obtain ⟨_, _, _, q⟩ := hs
    exact False.elim q
  | cont =>
    obtain ⟨_, _, _, q⟩ := hs
    exact False.elim q
end L2
namespace L2
open PySem PySem.Spec PyProof.Rows
section
variable {X : Cx} {x : Str} {p pos : Pos} {e : Expr} {es : List Expr} {t : TA} {id T : String} {r : List V → Hp → VK → Prop}
noncomputable def tCB (r : List V → Hp → VK → Prop) (t : TA) : TE := fun σ H Q => t σ H fun vs H1 => r vs H1 Q
theorem yG (hc : CallR X (.builtin id) r) (hg : Gl X x) (hm : X.mg x = none) (hv : bootBuiltins x = some (.builtin id)) (ha : PA X (e :: es) t) (hn : x ≠ "__name__" := by decide) (hdb : (x == ("__debug__" : Str)) = false := by decide)
    (he : starEach (e :: es) X.env = (false, eval e X.env) :: starEach es X.env := by rfl) (hpl : (backTo pos (starEach es X.env)).any (·.1) = false := by rfl) : PE X (.Call (.Name x p) (e :: es) [] pos) (tCB r t) := by
  intro pins s σ H Q I h
  refine wpAny_Call_Name_kw (ld_blt I hg hm hv ?_ hn hdb)
  exact PyProof.Rows.callWith_builtin1 (thn5 (ha pos pins s σ H _ I h) fun us s1 vs H1 I1 r1 q1 => hc pins s1 σ H1 vs us Q I1 r1 q1) he hpl
end
end L2
namespace HT
open PySem PyProof.Rows
section
open PySem.SeqAt
open PySem.AutoSeq1 (wpAny_loadPart')
open PySem.MeetsSeq PySem.MeetsSeq2 PySem.MeetsSeq3
end
section
variable {prog : Program} {w : World} {A : Around} {E : Value → Shared → Prop} {s : Shared}
noncomputable def sIx (n d : Nat) : Option Int → Nat
  | none => d
  | some v => if v < 0 then (v + (n : Int)).toNat else min v.toNat n
theorem sIx_nat (n d k : Nat) : sIx n d (some (k : Int)) = min k n := by
  show (if (k : Int) < 0 then ((k : Int) + (n : Int)).toNat else min (k : Int).toNat n) = min k n
  rw [if_neg (by lia), Int.toNat_natCast]
end
end HT
namespace L2
open PySem PySem.Spec PyProof.Rows
noncomputable abbrev TO := St → Hp → (Option Int → Hp → Prop) → Prop
noncomputable def PO (X : Cx) (e : Option Expr) (t : TO) : Prop :=
  ∀ (pins : List (Addr × Obj)) (s : Shared) (σ : St) (H : Hp) (Q : Option Int → Hp → Prop), Inv X pins σ H s → t σ H Q →
    wpAny (model X.prog X.w) X.A (evalPart e X.env) (fun u s' => ∃ o H', Inv X pins σ H' s' ∧ IsPart u o ∧ Q o H') X.xe s
noncomputable def tNoPart : TO := fun _ H Q => Q none H
noncomputable def tPart (t : TE) : TO := fun σ H Q => t σ H fun x H1 => ∃ i, x = .int i ∧ Q (some i) H1
section
variable {X : Cx} {e : Expr} {te : TE} {lo hi : Option Expr} {tl th : TO} {pos p2 : Pos}
theorem po_none : PO X none tNoPart := by
  intro pins s σ H Q I h
  rw [evalPart_none]
  exact wpAny_pure ⟨none, H, I, .none, h⟩
theorem po_some (h : PE X e te) : PO X (some e) (tPart te) := by
  intro pins s σ H Q I hw
  rw [evalPart_some]
  refine thn5 (h pins s σ H _ I hw) fun u s1 x H1 I1 r1 q1 => ?_
  obtain ⟨i, rfl, q⟩ := q1
  obtain ⟨t, rfl⟩ := r1
  exact ⟨some i, H1, I1, .int i t, q⟩
noncomputable def SlR (X : Cx) (r : V → Option Int → Option Int → Hp → VK → Prop) : Prop :=
  ∀ (pins : List (Addr × Obj)) (s : Shared) (σ : St) (H : Hp) (x : V) (v vl vu : Value) (lo hi : Option Int) (sl : Addr) (Q : VK), Inv X pins σ H s → RelV x v → s.heap.IsSliceOf sl vl vu .none → IsPart vl lo → IsPart vu hi → r x lo hi H Q →
    ∃ T id, typeLookup (.type T) "__getitem__" = pure (some (.builtin id)) ∧ s.TypeIs v T ∧ wpAny (model X.prog X.w) X.A (getItem v (.ref sl)) (EP X pins σ Q) X.xe s
noncomputable def tSl (r : V → Option Int → Option Int → Hp → VK → Prop) (te : TE) (tl th : TO) : TE := fun σ H Q => te σ H fun x H1 => tl σ H1 fun l H2 => th σ H2 fun u H3 => r x l u H3 Q
theorem pe_slice {r : V → Option Int → Option Int → Hp → VK → Prop} (hr : SlR X r) (he : PE X e te) (hl : PO X lo tl) (hu : PO X hi th) : PE X (.Subscript e (.Slice lo hi none p2) pos) (tSl r te tl th) := by
  intro pins s σ H Q I h
  refine Subscript_ (thn5 (he pins s σ H _ I h) fun v s1 x H1 I1 r1 q1 => ?_)
  refine wpAny_Slice (thn (hl pins s1 σ H1 _ I1 q1) fun vl s2 ⟨l, H2, I2, pl, q2⟩ => thn (hu pins s2 σ H2 _ I2 q2) fun vu s3 ⟨u, H3, I3, pu, q3⟩ => ?_)
  rw [evalPart_none]
  refine wpAny_pure ?_
  have I4 : Inv X pins σ H3 { s3 with heap := s3.heap.push { cls := .type "slice", data := .fields #[vl, vu, .none] } } := I3.kept (t' := s3.toks) fun b ob q => Heap.get?_push_of_some _ q
  obtain ⟨T, id, hT, ht, hg⟩ := hr pins { s3 with heap := s3.heap.push { cls := .type "slice", data := .fields #[vl, vu, .none] } } σ H3 x v vl vu l u s3.heap.objs.size Q I4 r1 (Heap.IsSliceOf.new ..) pl pu q3
  show wpAny (model X.prog X.w) X.A (subscriptTail e (.Slice lo hi none p2) v (.ref s3.heap.objs.size)) (EP X pins σ Q) X.xe { s3 with heap := s3.heap.push { cls := .type "slice", data := .fields #[vl, vu, .none] } }
  exact tail_any (ops := [.ref s3.heap.objs.size, v]) ht hT hg (by with_unfolding_all rfl)
noncomputable def cutV (xs : List V) (lo hi : Option Int) : List V := (xs.drop (HT.sIx xs.length 0 lo)).take (HT.sIx xs.length xs.length hi - HT.sIx xs.length 0 lo)
theorem cutV_length (xs : List V) (lo hi : Option Int) : (cutV xs lo hi).length ≤ xs.length := by
  unfold cutV
  rw [List.length_take, List.length_drop]
  exact Nat.le_trans (Nat.min_le_right _ _) (Nat.sub_le _ _)
end
end L2
namespace L2
open PySem PySem.Spec PyProof.Rows
noncomputable def ixN (n : Nat) (i : Int) : Option Nat := if 0 ≤ i then (if i < n then some i.toNat else none) else if -(n : Int) ≤ i then some (i + n).toNat else none
noncomputable def atI {α : Type} (xs : List α) (i : Int) : Option α := (ixN xs.length i).bind fun j => xs[j]?
theorem ixN_seq {n : Nat} {i : Int} {j : Nat} (h : ixN n i = some j) : seqIndex? i n = some j ∧ j < n ∧ -(n : Int) ≤ i ∧ i < n := by
  unfold ixN at h
  by_cases h0 : 0 ≤ i
  · rw [if_pos h0] at h
    by_cases h1 : i < n
    · rw [if_pos h1] at h
      have e : i.toNat = j := Option.some.inj h
      exact ⟨by rw [seqIndex_of h0 h1, e], by lia, by lia, h1⟩
    · rw [if_neg h1] at h; cases h
  · rw [if_neg h0] at h
    by_cases h1 : -(n : Int) ≤ i
    · rw [if_pos h1] at h
      have e : (i + n).toNat = j := Option.some.inj h
      exact ⟨by rw [seqIndex_neg (by lia) h1, e], by lia, h1, by lia⟩
    · rw [if_neg h1] at h; cases h
theorem atI_get {α : Type} {xs : List α} {i : Int} {v : α} (h : atI xs i = some v) : ∃ j, seqIndex? i xs.length = some j ∧ xs[j]? = some v ∧ j < xs.length ∧ -(xs.length : Int) ≤ i ∧ i < xs.length := by
  unfold atI at h
  cases e : ixN xs.length i with
  | none => rw [e] at h; cases h
  | some j =>
    rw [e] at h
    obtain ⟨h1, h2, h3, h4⟩ := ixN_seq e
    exact ⟨j, h1, h, h2, h3, h4⟩
theorem atI_nat {α : Type} {xs : List α} {j : Nat} {v : α} (h : xs[j]? = some v) : atI xs (j : Int) = some v := by
  have hj : j < xs.length := (List.getElem?_eq_some_iff.mp h).1
  have e : ixN xs.length (j : Int) = some j := by
    unfold ixN
    rw [if_pos (by lia), if_pos (by lia)]; simp
  unfold atI; rw [e]; exact h
theorem atI_last {α : Type} (xs : List α) (v : α) : atI (xs ++ [v]) (-1) = some v := by
  have hl : (xs ++ [v]).length = xs.length + 1 := by simp
  have e : ixN (xs ++ [v]).length (-1) = some xs.length := by
    unfold ixN
    rw [hl, if_neg (by decide), if_pos (by lia)]
    congr 1
    lia
  unfold atI
  rw [e]
  show (xs ++ [v])[xs.length]? = some v
  simp
noncomputable def PlainIx (b : Expr) : Prop := ∀ o i, subscripted b false o i = operate [o, i] (getItem o i)
noncomputable def IxR (X : Cx) (r : R2) : Prop :=
  ∀ (value slice : Expr) (pins : List (Addr × Obj)) (s : Shared) (σ : St) (H : Hp) (x y : V) (v u : Value) (Q : VK), Inv X pins σ H s → RelV x v → RelV y u → r x y H Q →
    subscripted slice false v u = operate [v, u] (getItem v u) → wpAny (model X.prog X.w) X.A (subscriptTail value slice v u) (EP X pins σ Q) X.xe s
noncomputable def MtR (X : Cx) (id : String) (r : V → List V → Hp → VK → Prop) : Prop :=
  ∀ (pins : List (Addr × Obj)) (s : Shared) (σ : St) (H : Hp) (x : V) (xs : List V) (v : Value) (us : List Value) (Q : VK), Inv X pins σ H s → RelV x v → Vals xs us → r x xs H Q →
    wpAny (model X.prog X.w) X.A (call (.builtin id) (v :: us)) (EP X pins σ Q) X.xe s
section
variable {X : Cx} {a b : Expr} {ta tb : TE} {pos : Pos}
theorem pe_ix {r : R2} (hr : IxR X r) (ha : PE X a ta) (hb : PE X b tb) (hs : PlainIx b) : PE X (.Subscript a b pos) (tOp r ta tb) := by
  intro pins s σ H Q I h
  exact Subscript_ (binT ha hb I h fun v u s2 x y H2 I2 rx ry q => hr a b pins s2 σ H2 x y v u Q I2 rx ry q (hs _ _))
inductive ISqL (K : PySem.W.Frag) (x y : V) (H : Hp) (Q : VK) : Prop
  | mk (p : Addr) (xs : List V) (i : Int) (v : V) (_1 : x = .ref p) (_2 : y = .int i) (_3 : SqL K H p xs) (_4 : atI xs i = some v) (_5 : Q v H) : ISqL K x y H Q
noncomputable def rIxL (K : PySem.W.Frag) : R2 := fun x y H Q => ISqL K x y H Q
inductive ISqT (K : PySem.W.Frag) (x y : V) (H : Hp) (Q : VK) : Prop
  | mk (p : Addr) (xs : List V) (i : Int) (v : V) (_1 : x = .ref p) (_2 : y = .int i) (_3 : SqT K H p xs) (_4 : atI xs i = some v) (_5 : Q v H) : ISqT K x y H Q
noncomputable def rIxT (K : PySem.W.Frag) : R2 := fun x y H Q => ISqT K x y H Q
theorem zP : IxR X (rIxL X.K) := by
  intro value slice pins s σ H x y v u Q I rx ry h hs
  obtain ⟨p, xs, i, z, rfl, rfl, hq, he, q⟩ := h
  cases rx
  obtain ⟨t, rfl⟩ := ry
  obtain ⟨its, r, pl, hz⟩ := I.list hq
  obtain ⟨j, h1, h2, h3, h4, h5⟩ := atI_get he
  obtain ⟨w, ew, rw'⟩ := r.get h2
  have hl := r.length
  have hn := line63
  have fin : EP X pins σ Q w s := ⟨z, H, I, rw', q⟩
  by_cases h0 : 0 ≤ i
  · have hj : i.toNat = j := by
      rw [seqIndex_of h0 h5] at h1
      exact Option.some.inj h1
    exact item_listR pl.isList h0 (by lia) (by rw [hj]; simpa using ew) fin hs
  · have hj : (i + (its.toArray.size : Int)).toNat = j := by
      rw [seqIndex_neg (by lia) h4] at h1
      rw [List.size_toArray, ← hl]
      exact Option.some.inj h1
    exact subscriptTail_builtinR (x := w) pl.isList.typeIs slot_list_getitem.lookup
      (wpAny_getItem_list_neg (Q := fun r s' => r = w ∧ EP X pins σ Q r s') pl.isList (by lia) (by rw [List.size_toArray] <;> lia) (by lia) (by rw [hj]; simpa using ew) ⟨rfl, fin⟩) hs
theorem ix_tup : IxR X (rIxT X.K) := by
  intro value slice pins s σ H x y v u Q I rx ry h hs
  obtain ⟨p, xs, i, z, rfl, rfl, hq, he, q⟩ := h
  cases rx
  obtain ⟨t, rfl⟩ := ry
  obtain ⟨its, r, pl, hz⟩ := I.tuple hq
  obtain ⟨j, h1, h2, h3, h4, h5⟩ := atI_get he
  obtain ⟨w, ew, rw'⟩ := r.get h2
  have hl := r.length
  have hn := line63
  have fin : EP X pins σ Q w s := ⟨z, H, I, rw', q⟩
  exact subscriptTail_builtinR (x := w) pl.typeIs slot_tuple_getitem.lookup
    (getItem_tuple (j := j) (Q := fun r s' => r = w ∧ EP X pins σ Q r s') pl (by lia) (by lia) (by rw [List.size_toArray, ← hl]; exact h1) (by simpa using ew) ⟨rfl, fin⟩) hs
theorem mapSeq_set (its : List Value) (n j : Nat) (u : Value) : Obj.mapSeq (·.setIfInBounds j u) { cls := .type "list", data := .seq its.toArray n } = { cls := .type "list", data := .seq (its.set j u).toArray n } := by
  simp [Obj.mapSeq]
theorem Inv.lst {pins : List (Addr × Obj)} {σ : St} {H : Hp} {s : Shared} {p : Addr} {xs : List V} (I : Inv X pins σ H s) (h : H p = some (.lst xs)) :
    ∃ (its : List Value) (n : Nat), Vals xs its ∧ s.heap.get? p = some { cls := .type "list", data := .seq its.toArray n } ∧ xs.length ≤ sizeLine := by
  obtain ⟨z, its, n, r, e⟩ := I.hok p _ h
  exact ⟨its, n, r, e, z⟩
theorem Inv.lstUpd {pins : List (Addr × Obj)} {σ : St} {H : Hp} {s : Shared} {p : Addr} {xs ys : List V} {its its' : List Value} {n n' : Nat} {f : Obj → Obj} (I : Inv X pins σ H s) (h : H p = some (.lst xs))
    (ho : s.heap.get? p = some { cls := .type "list", data := .seq its.toArray n }) (hf : f { cls := .type "list", data := .seq its.toArray n } = { cls := .type "list", data := .seq its'.toArray n' }) (r : Vals ys its') (hz : ys.length ≤ sizeLine) (t : Nat) :
    Inv X pins σ (upd H p (.lst ys)) { s with heap := s.heap.update p f, toks := t } := by
  have e : (s.heap.update p f).get? p = some { cls := .type "list", data := .seq its'.toArray n' } := by
    rw [Heap.get?_update_self f ho (by rw [hf] <;> rfl), hf]
  refine I.write (x := p) (e := p) (by rw [h]; trivial) (.inl rfl) (fun b u hb q => (Heap.get?_update_other _ _ (Ne.symm hb)).trans q) ⟨_, e⟩ ?_
  exact ⟨hz, its', n', r, e⟩
noncomputable def rSetL : V → V → V → Hp → (Hp → Prop) → Prop := fun o i v H Q => ∃ p xs k j, o = .ref p ∧ i = .int k ∧ H p = some (.lst xs) ∧ ixN xs.length k = some j ∧ Q (upd H p (.lst (xs.set j v)))
theorem set_list : PSet X rSetL := by
  intro pins s σ H o i v ov iv u Q I ro ri rv h
  obtain ⟨p, xs, k, j, rfl, rfl, hp, hj, q⟩ := h
  cases ro
  obtain ⟨t, rfl⟩ := ri
  obtain ⟨its, n, r, ho, hz⟩ := I.lst hp
  obtain ⟨h1, h2, h3, h4⟩ := ixN_seq hj
  have hl := r.length
  have hn := line63
  have I' : Inv X pins σ (upd H p (.lst (xs.set j v))) { s with heap := s.heap.update p (Obj.mapSeq (·.setIfInBounds j u)) } :=
    I.lstUpd hp ho (mapSeq_set its n j u) (r.set rv j) (by rw [List.length_set]; exact hz) s.toks
  by_cases h0 : 0 ≤ k
  · have hk : k.toNat = j := by
      rw [seqIndex_of h0 h4] at h1
      exact Option.some.inj h1
    exact PySem.W.ki_setAt ho h0 (by lia) (by rw [List.size_toArray, ← hl]; exact h4) (by rw [hk]; exact ⟨_, I', q⟩)
  · have hk : (k + (its.toArray.size : Int)).toNat = j := by
      rw [seqIndex_neg (by lia) h3] at h1
      rw [List.size_toArray, ← hl]
      exact Option.some.inj h1
    exact PySem.W.ki_setBack ho (by lia) (by rw [List.size_toArray, ← hl]; exact h3) (by lia) (by rw [hk]; exact ⟨_, I', q⟩)
theorem slice_bounds (lo hi : Option Int) (n : Nat) : (sliceBounds lo hi none n).1 = ((HT.sIx n 0 lo : Nat) : Int) ∧ (sliceBounds lo hi none n).2.1 = ((HT.sIx n n hi : Nat) : Int) ∧ (sliceBounds lo hi none n).2.2 = 1 := by
  refine ⟨?_, ?_, rfl⟩
  · cases lo with
    | none => simp [sliceBounds, HT.sIx]
    | some i =>
      simp only [sliceBounds, HT.sIx, Option.getD_none, show (1 : Int) > 0 by decide, if_true]
      by_cases h : i < 0
      · simp only [h, if_true] <;> lia
      · simp only [h, if_false] <;> lia
  · cases hi with
    | none => simp [sliceBounds, HT.sIx]
    | some i =>
      simp only [sliceBounds, HT.sIx, Option.getD_none, show (1 : Int) > 0 by decide, if_true]
      by_cases h : i < 0
      · simp only [h, if_true] <;> lia
      · simp only [h, if_false] <;> lia
theorem slicePick_cut (its : List Value) (lo hi : Option Int) : slicePick its.toArray lo hi none = ((its.drop (HT.sIx its.length 0 lo)).take (HT.sIx its.length its.length hi - HT.sIx its.length 0 lo)).toArray := by
  obtain ⟨h1, h2, h3⟩ := slice_bounds lo hi its.toArray.size
  unfold slicePick
  rw [h1, h2, h3]
  simp only [sliceRange_one, pick_run, List.size_toArray] <;> rfl
noncomputable def rSlL (K : PySem.W.Frag) : V → Option Int → Option Int → Hp → VK → Prop := fun x lo hi H Q => ∃ a xs, x = .ref a ∧ SqL K H a xs ∧ ∀ p, H p = none → Q (.ref p) (upd H p (.lst (cutV xs lo hi)))
theorem sl_list : SlR X (rSlL X.K) := by
  intro pins s σ H x v vl vu lo hi sl Q I rx hs pl pu h
  obtain ⟨a, xs, rfl, hx, q⟩ := h
  cases rx
  obtain ⟨its, r, ht, hz⟩ := I.list hx
  have hlen := r.length
  refine ⟨"list", _, slot_list_getitem.lookup, ht.isList.typeIs, ?_⟩
  refine wpAny_getItem_list_slice ht.isList hs pl pu .none (by simp) ?_ (by rw [List.size_toArray] <;> lia)
  rw [slicePick_cut, ← hlen]
  refine ⟨.ref s.heap.objs.size, _, I.laid (t' := s.toks) (o := .lst (cutV xs lo hi)) (fun b ob q => Heap.get?_push_of_some _ q) (Nat.le_refl _) ?_, rfl, q _ (I.hok.fresh (Nat.le_refl _))⟩
  exact ⟨Nat.le_trans (cutV_length xs lo hi) hz, _, 0, (r.drop (HT.sIx xs.length 0 lo)).take (HT.sIx xs.length xs.length hi - HT.sIx xs.length 0 lo), Heap.get?_push_size _ rfl⟩
noncomputable def flatV : V → Bool
  | .non => true
  | .bl _ => true
  | .int _ => true
  | .str _ => true
  | _ => false
noncomputable def eqV : V → V → Bool
  | .non, .non => true
  | .bl a, .bl b => a == b
  | .bl a, .int b => (if a then 1 else 0) == b
  | .int a, .bl b => a == (if b then 1 else 0)
  | .int a, .int b => a == b
  | .str a, .str b => a == b
  | _, _ => false
theorem eqAt_V {A : Around} {s : Shared} {y x : V} {u v : Value} (ry : RelV y u) (rx : RelV x v) (fy : flatV y = true) (fx : flatV x = true) : SeqAt.EqAt A s u v (eqV y x) := by
  cases y with
  | non =>
    cases ry
    cases x with
    | non => cases rx; exact SeqAt.EqAt.same _
    | bl b => cases rx; exact SeqAt.EqAt.none_bool b
    | int b => obtain ⟨t, rfl⟩ := rx; exact SeqAt.EqAt.none_int b t
    | str b => obtain ⟨t, rfl⟩ := rx; exact SeqAt.EqAt.none_str b t
    | _ => exact absurd (show false = true from fx) Bool.false_ne_true
  | bl a =>
    cases ry
    cases x with
    | non => cases rx; exact SeqAt.EqAt.bool_none a
    | bl b => cases rx; exact SeqAt.EqAt.bool_bool a b
    | int b => obtain ⟨t, rfl⟩ := rx; exact SeqAt.EqAt.bool_int a b t
    | str b => obtain ⟨t, rfl⟩ := rx; exact SeqAt.EqAt.bool_str a b t
    | _ => exact absurd (show false = true from fx) Bool.false_ne_true
  | int a =>
    obtain ⟨t', rfl⟩ := ry
    cases x with
    | non => cases rx; exact SeqAt.EqAt.int_none a t'
    | bl b => cases rx; exact SeqAt.EqAt.int_bool a t' b
    | int b => obtain ⟨t, rfl⟩ := rx; exact SeqAt.EqAt.int_int a t' b t
    | str b => obtain ⟨t, rfl⟩ := rx; exact SeqAt.EqAt.int_str a t' b t
    | _ => exact absurd (show false = true from fx) Bool.false_ne_true
  | str a =>
    obtain ⟨t', rfl⟩ := ry
    cases x with
    | non => cases rx; exact SeqAt.EqAt.str_none a t'
    | bl b => cases rx; exact SeqAt.EqAt.str_bool a t' b
    | int b => obtain ⟨t, rfl⟩ := rx; exact SeqAt.EqAt.str_int a t' b t
    | str b => obtain ⟨t, rfl⟩ := rx; exact SeqAt.EqAt.str_str a t' b t
    | _ => exact absurd (show false = true from fx) Bool.false_ne_true
  | _ => exact absurd (show false = true from fy) Bool.false_ne_true
noncomputable def eqU (x : V) (u : Value) : Bool := match u with
  | .none => eqV .non x
  | .bool b => eqV (.bl b) x
  | .int i _ => eqV (.int i) x
  | .str z _ => eqV (.str z) x
  | _ => false
theorem eqU_of {x y : V} {u : Value} (r : RelV y u) (f : flatV y = true) : eqU x u = eqV y x := by
  cases y with
  | non => cases r; rfl
  | bl b => cases r; rfl
  | int i => obtain ⟨t, rfl⟩ := r; rfl
  | str z => obtain ⟨t, rfl⟩ := r; rfl
  | _ => exact absurd (show false = true from f) Bool.false_ne_true
theorem any_eqU {x : V} : ∀ {xs : List V} {us : List Value}, Vals xs us → xs.all flatV = true → us.any (eqU x) = xs.any fun y => eqV y x
  | _, _, .nil, _ => rfl
  | y :: xs, u :: us, .cons r t, f => by
    rw [List.all_cons, Bool.and_eq_true] at f
    rw [List.any_cons, List.any_cons, eqU_of r f.1, any_eqU t f.2]
theorem mem_eqAt {A : Around} {s : Shared} {x : V} {v : Value} (rx : RelV x v) (fx : flatV x = true) : ∀ {xs : List V} {us : List Value}, Vals xs us → xs.all flatV = true → ∀ u ∈ us, SeqAt.EqAt A s u v (eqU x u)
  | _, _, .nil, _ => fun u hu => by cases hu
  | y :: xs, u :: us, .cons r t, f => fun u' hu => by
    rw [List.all_cons, Bool.and_eq_true] at f
    rcases List.mem_cons.mp hu with rfl | hu
    · rw [eqU_of r f.1]; exact eqAt_V r rx f.1 fx
    · exact mem_eqAt rx fx t f.2 u' hu
noncomputable def inV (x : V) (xs : List V) : Bool := xs.any fun y => eqV y x
noncomputable def rIn (K : PySem.W.Frag) (neg : Bool) : R2 := fun x y H Q => ∃ p xs, y = .ref p ∧ (SqL K H p xs ∨ SqT K H p xs) ∧ flatV x = true ∧ xs.all flatV = true ∧ Q (.bl (if neg then !inV x xs else inV x xs)) H
theorem op_in_seq : OpR X (compareOp .In) (rIn X.K false) := by
  intro pins s σ H x y v u Q I rx ry h
  obtain ⟨p, xs, rfl, hq, fx, fs, q⟩ := h
  cases ry
  rcases hq with hq | hq
  · obtain ⟨its, r, pl, hz⟩ := I.list hq
    refine SeqAt.in_listAt (eqU x) pl.isList (fun w hw => mem_eqAt rx fx r fs w (by simpa using hw)) ⟨.bl _, H, I, rfl, ?_⟩
    rw [show its.toArray.any (eqU x) = its.any (eqU x) by simp, any_eqU r fs]
    exact q
  · obtain ⟨its, r, pl, hz⟩ := I.tuple hq
    refine SeqAt.in_tupleAt (eqU x) pl (fun w hw => mem_eqAt rx fx r fs w (by simpa using hw)) ⟨.bl _, H, I, rfl, ?_⟩
    rw [show its.toArray.any (eqU x) = its.any (eqU x) by simp, any_eqU r fs]
    exact q
theorem op_notIn_seq : OpR X (compareOp .NotIn) (rIn X.K true) := by
  intro pins s σ H x y v u Q I rx ry h
  obtain ⟨p, xs, rfl, hq, fx, fs, q⟩ := h
  cases ry
  rcases hq with hq | hq
  · obtain ⟨its, r, pl, hz⟩ := I.list hq
    refine SeqAt.notIn_listAt (eqU x) pl.isList (fun w hw => mem_eqAt rx fx r fs w (by simpa using hw)) ⟨.bl _, H, I, rfl, ?_⟩
    rw [show its.toArray.any (eqU x) = its.any (eqU x) by simp, any_eqU r fs]
    exact q
  · obtain ⟨its, r, pl, hz⟩ := I.tuple hq
    refine SeqAt.notIn_tupleAt (eqU x) pl (fun w hw => mem_eqAt rx fx r fs w (by simpa using hw)) ⟨.bl _, H, I, rfl, ?_⟩
    rw [show its.toArray.any (eqU x) = its.any (eqU x) by simp, any_eqU r fs]
    exact q
theorem zS : CallR X (.builtin "len") (fun xs H Q => ∃ p ys, xs = [.ref p] ∧ (SqL X.K H p ys ∨ SqT X.K H p ys) ∧ Q (.int ys.length) H) := by
  intro pins s σ H xs us Q I r h
  obtain ⟨p, ys, rfl, hq, q⟩ := h
  obtain ⟨u, rfl, rx⟩ := vals1 r
  cases rx
  have hn := line63
  rcases hq with hq | hq
  · obtain ⟨its, r', pl, hz⟩ := I.list hq
    have hlen := r'.length
    exact Calls.call_len_list pl.isList (by simp only [List.size_toArray] <;> lia) ⟨.int ys.length, H, I.tok _, ⟨s.toks + 1, by rw [List.size_toArray, hlen]⟩, q⟩
  · obtain ⟨its, r', pl, hz⟩ := I.tuple hq
    have hlen := r'.length
    exact len_tuple pl (by simp only [List.size_toArray] <;> lia) ⟨.int ys.length, H, I.tok _, ⟨s.toks + 1, by rw [List.size_toArray, hlen]⟩, q⟩
noncomputable def tyV (K : PySem.W.Frag) (T : String) (x : V) (H : Hp) : Prop := match x with
  | .str _ => T = "str"
  | .int _ => T = "int"
  | .ref p => (T = "list" ∧ ∃ xs, SqL K H p xs) ∨ (T = "tuple" ∧ ∃ o, K.lookup p = some o ∧ o.cls = .type "tuple" ∧ o.dict = none) ∨
      (T = "dict" ∧ ((∃ kvs, H p = some (.dK kvs)) ∨ ∃ kvs, H p = some (.dT kvs))) ∨ (T = "set" ∧ ∃ S n, H p = some (.set S n))
  | _ => False
theorem tyV_is {pins : List (Addr × Obj)} {σ : St} {H : Hp} {s : Shared} {T : String} {x : V} {v : Value} (I : Inv X pins σ H s) (r : RelV x v) (ty : tyV X.K T x H) :
    s.TypeIs v T ∧ ∀ a, v = .ref a → ∃ ob, s.heap.get? a = some ob ∧ ob.dict = none := by
  cases x with
  | str z =>
    obtain ⟨t, rfl⟩ := r
    cases (show T = "str" from ty)
    exact ⟨typeIs_str s z t, fun _ e => nomatch e⟩
  | int i =>
    obtain ⟨t, rfl⟩ := r
    cases (show T = "int" from ty)
    exact ⟨typeIs_int s i t, fun _ e => nomatch e⟩
  | ref p =>
    cases r
    rcases ty with ⟨rfl, xs, hq⟩ | ⟨rfl, o, hk, hc, hd⟩ | ⟨rfl, hk⟩ | ⟨rfl, S, n, hk⟩
    · obtain ⟨its, _, pl, _⟩ := I.list hq
      refine ⟨pl.isList.typeIs, fun a e => ?_⟩
      cases e
      obtain ⟨o, n, e, c, hd, _⟩ := pl
      exact ⟨o, e, hd⟩
    · refine ⟨⟨o, I.kIn p o hk, hc⟩, fun a e => ?_⟩
      cases e
      exact ⟨o, I.kIn _ o hk, hd⟩
    · have z : ∃ o, s.heap.get? p = some o ∧ o.ExactDict := by
        rcases hk with ⟨kvs, hk⟩ | ⟨kvs, hk⟩
        · obtain ⟨_, _, _, _, o, _, _, e, ex, _⟩ := I.hok p _ hk
          exact ⟨o, e, ex⟩
        · obtain ⟨_, _, _, _, o, _, _, e, ex, _⟩ := I.hok p _ hk
          exact ⟨o, e, ex⟩
      obtain ⟨o, e, ex⟩ := z
      refine ⟨⟨o, e, ex.1⟩, fun a e2 => ?_⟩
      cases e2
      exact ⟨o, e, ex.2.1⟩
    · obtain ⟨o, _, _, _, e, ex, _⟩ := I.hok p _ hk
      refine ⟨⟨o, e, ex.1⟩, fun a e2 => ?_⟩
      cases e2
      exact ⟨o, e, ex.2.1⟩
  | _ => exact False.elim ty
noncomputable def tBM (K : PySem.W.Frag) (T : String) (r : V → List V → Hp → VK → Prop) (to : TE) (t : TA) : TE := fun σ H Q => to σ H fun x H1 => tyV K T x H1 ∧ t σ H1 fun xs H2 => r x xs H2 Q
variable {o e : Expr} {es : List Expr} {to : TE} {t : TA} {name : Str} {apos cpos : Pos} {T id : String} {r : V → List V → Hp → VK → Prop}
theorem pe_bm (pa : PlainAttrs T) (slot : Slot T name id) (hty : typeOf (.builtin id) = pure (.type "method_descriptor")) (hm : MtR X id r) (ho : PE X o to) (ha : PA X (e :: es) t)
    (hbase : attributeBase o name X.env (eval o X.env) = eval o X.env := by rfl)
    (hfew : ((backTo cpos (starEach (e :: es) X.env)).all (fun x => !x.1) && (backToKw cpos (keywordEach [] X.env)).all (fun x => x.1.isSome)
      && decide ((e :: es).length + ([] : List Keyword).length + (if ([] : List Keyword).isEmpty then 0 else 1) < 30)) = true := by rfl)
    (hline : (apos.endLine == cpos.line) = true := by rfl) (hs : starEach (e :: es) X.env = (false, eval e X.env) :: starEach es X.env := by rfl) (hplain : (backTo cpos (starEach es X.env)).any (·.1) = false := by rfl) :
    PE X (.Call (.Attribute o name apos) (e :: es) [] cpos) (tBM X.K T r to t) := by
  intro pins s σ H Q I h
  refine wpAny_Call_method_late hbase hfew hline rfl (thn5 (ho pins s σ H _ I h) fun v s1 x H1 I1 r1 hq_ => ?_)
  obtain ⟨ty, q1⟩ := hq_
  obtain ⟨h1, h2⟩ := tyV_is I1 r1 ty
  refine ⟨T, id, pa, slot, hty, h1, h2, ?_⟩
  have hA := ha cpos pins s1 σ H1 _ I1 q1
  rw [hs] at hA ⊢
  refine Calls.callWith_builtin (by show (false || (backTo cpos (starEach es X.env)).any (·.1)) = false; rw [hplain] <;> rfl) (Calls.evalArgs_plain ?_)
  exact thn5 hA fun us s2 vs H2 I2 r2 q2 => hm pins s2 σ H2 x vs v us Q I2 r1 r2 q2
end
end L2
namespace L2
open PySem PySem.Spec PyProof.Rows
noncomputable def MtM (X : Cx) (id : String) (r : V → List V → Hp → VK → Prop) : Prop :=
  ∀ (pins : List (Addr × Obj)) (s : Shared) (σ : St) (H : Hp) (x : V) (xs : List V) (v : Value) (us : List Value) (Q : VK), Inv X pins σ H s → RelV x v → Vals xs us → r x xs H Q →
    wpAny (model X.prog X.w) X.A (call (.builtin id) (v :: us)) (EP X pins σ Q) X.xe s
theorem Vals.one {x : V} {us : List Value} (h : Vals [x] us) : ∃ u, us = [u] ∧ RelV x u := by
  cases h with
  | cons r t => cases t; exact ⟨_, rfl, r⟩
theorem Vals.rep {xs : List V} {us : List Value} (h : Vals xs us) : ∀ k : Nat, Vals (List.replicate k xs).flatten (List.replicate k us).flatten
  | 0 => .nil
  | k + 1 => by
    rw [List.replicate_succ, List.replicate_succ, List.flatten_cons, List.flatten_cons]
    exact Vals.append h (Vals.rep h k)
theorem foldl_rep (its : List Value) : ∀ (k : Nat) (acc : List Value),
    List.foldl (fun x1 x2 => x1 ++ x2) acc.toArray (List.replicate k its.toArray) = (acc ++ (List.replicate k its).flatten).toArray
  | 0, acc => by simp
  | k + 1, acc => by
    have e : acc.toArray ++ its.toArray = (acc ++ its).toArray := by simp
    have e2 : (acc ++ its) ++ (List.replicate k its).flatten = acc ++ (List.replicate (k + 1) its).flatten := by
      rw [List.replicate_succ, List.flatten_cons, List.append_assoc]
    rw [← e2, ← foldl_rep its k (acc ++ its), ← e, List.replicate_succ, List.foldl_cons]
section
variable {X : Cx} {pins : List (Addr × Obj)} {σ : St} {H : Hp} {s : Shared} {l b : Addr} {xs ys zs : List V}
theorem Inv.lset {its its' : List Value} {n : Nat} {f : Array Value → Array Value} {t' : Nat} (I : Inv X pins σ H s) (hH : H l = some (.lst xs))
    (e : s.heap.get? l = some { cls := .type "list", data := .seq its.toArray n }) (hf : f its.toArray = its'.toArray) (hv : Vals ys its') (hz : ys.length ≤ sizeLine) :
    Inv X pins σ (upd H l (.lst ys)) { s with heap := s.heap.update l (Obj.mapSeq f), toks := t' } := by
  have q := PySem.IsL.update e f
  rw [hf] at q
  refine I.write (x := l) (e := l) (by rw [hH]; exact trivial) (.inl rfl) (fun b' u hb hu => (Heap.get?_update_other s.heap (Obj.mapSeq f) (Ne.symm hb)).trans hu) ⟨_, q⟩ ?_
  exact ⟨hz, its', _, hv, q⟩
theorem Inv.lnew {its : List Value} {t' : Nat} (I : Inv X pins σ H s) (hv : Vals ys its) (hz : ys.length ≤ sizeLine) :
    Inv X pins σ (upd H s.heap.objs.size (.lst ys)) { s with heap := s.heap.push { cls := .type "list", data := .seq its.toArray }, toks := t' } :=
  I.laid (fun _ _ q => Heap.get?_push_of_some _ q) (Nat.le_refl _) ⟨hz, its, 0, hv, Heap.get?_push_size _ rfl⟩
theorem Inv.fresh (I : Inv X pins σ H s) : H s.heap.objs.size = none := I.hok.fresh (Nat.le_refl _)
theorem Inv.lstM (I : Inv X pins σ H s) (hH : H l = some (.lst xs)) : xs.length ≤ sizeLine ∧ ∃ (its : List Value) (n : Nat), Vals xs its ∧ xs.length = its.length ∧ s.heap.get? l = some { cls := .type "list", data := .seq its.toArray n } := by
  obtain ⟨z, its, n, r, e⟩ := I.hok l _ hH
  exact ⟨z, its, n, r, r.length, e⟩
theorem notLongL {n : Nat} (h : n ≤ sizeLine) : Builtin.List.listTooLong n = false := by
  unfold Builtin.List.listTooLong
  exact decide_eq_false (by lia)
end
section
variable {X : Cx}
inductive IApp (x : V) (vs : List V) (H : Hp) (Q : VK) : Prop
  | mk (l : Addr) (xs : List V) (y : V) (_1 : x = .ref l) (_2 : vs = [y]) (_3 : H l = some (.lst xs)) (_4 : xs.length < sizeLine) (_5 : Q .non (upd H l (.lst (xs ++ [y])))) : IApp x vs H Q
noncomputable def rAppend : V → List V → Hp → VK → Prop := fun x vs H Q => IApp x vs H Q
theorem mt_append : MtM X "list.append" rAppend := by
  intro pins s σ H x vs v us Q I rx rv h
  obtain ⟨l, xs, y, rfl, rfl, hH, hz, q⟩ := h
  cases rx
  obtain ⟨u, rfl, ru⟩ := rv.one
  obtain ⟨z, its, n, r, hl, e⟩ := I.lstM hH
  refine call_meets F.slot_list_append ⟨_, e, rfl⟩ F.entry_list_append (F.args_list_append_2 _ _) (PySem.list_append l its.toArray n u (by rw [List.size_toArray]; lia)) ⟨e, ?_⟩
  refine ⟨.non, _, I.lset (its' := its ++ [u]) hH e (by simp) (r.append (.cons ru .nil)) ?_, rfl, q⟩
  rw [List.length_append, List.length_singleton]
  lia
noncomputable def rExtend : V → List V → Hp → VK → Prop := fun x vs H Q => ∃ l b xs zs, x = .ref l ∧ vs = [.ref b] ∧ H l = some (.lst xs) ∧ H b = some (.lst zs) ∧ xs.length + zs.length ≤ sizeLine ∧ Q .non (upd H l (.lst (xs ++ zs)))
theorem mt_extend : MtM X "list.extend" rExtend := by
  intro pins s σ H x vs v us Q I rx rv h
  obtain ⟨l, b, xs, zs, rfl, rfl, hH, hB, hz, q⟩ := h
  cases rx
  obtain ⟨u, rfl, ru⟩ := rv.one
  cases ru
  obtain ⟨z, its, n, r, hl, e⟩ := I.lstM hH
  obtain ⟨z2, its2, n2, r2, hl2, e2⟩ := I.lstM hB
  have hsz : its.toArray.size + its2.toArray.size ≤ sizeLine := by rw [List.size_toArray, List.size_toArray]; lia
  have hlong : ¬ (!its.toArray.isEmpty && Builtin.List.listTooLong (its.toArray.size + its2.toArray.size)) = true := by
    rw [notLongL hsz, Bool.and_false]
    exact Bool.false_ne_true
  refine call_meets F.slot_list_extend ⟨_, e, rfl⟩ F.entry_list_extend (F.args_list_extend_2 _ _)
    (AutoSeq1.list_extend_list_list_0 l its.toArray n b its2.toArray n2 hlong (by rw [List.size_toArray]; lia) (by lia)) ⟨e, e2, ?_⟩
  refine ⟨.non, _, I.lset (its' := its ++ its2) hH e (by simp) (r.append r2) ?_, rfl, q⟩
  rw [List.length_append]
  lia
noncomputable def rCat : R2 := fun x y H Q => ∃ l b xs zs, x = .ref l ∧ y = .ref b ∧ H l = some (.lst xs) ∧ H b = some (.lst zs) ∧ xs.length + zs.length ≤ sizeLine ∧ ∀ p, H p = none → Q (.ref p) (upd H p (.lst (xs ++ zs)))
theorem op_cat : OpR X (binaryOp .Add) rCat := by
  intro pins s σ H x y v u Q I rx ry h
  obtain ⟨l, b, xs, zs, rfl, rfl, hH, hB, hz, q⟩ := h
  cases rx
  cases ry
  obtain ⟨z, its, n, r, hl, e⟩ := I.lstM hH
  obtain ⟨z2, its2, n2, r2, hl2, e2⟩ := I.lstM hB
  refine PySem.P.add_list e e2 ?_ (by rw [List.size_toArray, List.size_toArray]; lia)
  have ea : its.toArray ++ its2.toArray = (its ++ its2).toArray := by simp
  rw [ea]
  exact ⟨.ref _, _, I.lnew (t' := s.toks) (r.append r2) (by rw [List.length_append]; lia), rfl, q _ I.fresh⟩
noncomputable def rRep : R2 := fun x y H Q => ∃ l k xs, x = .ref l ∧ y = .int k ∧ H l = some (.lst xs) ∧ -(2 ^ 63) ≤ k ∧ k < 2 ^ 63 ∧ xs.length * k.toNat ≤ sizeLine ∧
  ∀ p, H p = none → Q (.ref p) (upd H p (.lst (List.replicate k.toNat xs).flatten))
theorem len_rep {α : Type} (xs : List α) (k : Nat) : (List.replicate k xs).flatten.length = k * xs.length := by
  induction k with
  | zero => simp
  | succ k ih => rw [List.replicate_succ, List.flatten_cons, List.length_append, ih, Nat.succ_mul, Nat.add_comm]
theorem op_rep : OpR X (binaryOp .Mult) rRep := by
  intro pins s σ H x y v u Q I rx ry h
  obtain ⟨l, k, xs, rfl, rfl, hH, h1, h2, hz, q⟩ := h
  cases rx
  obtain ⟨t, rfl⟩ := ry
  obtain ⟨z, its, n, r, hl, e⟩ := I.lstM hH
  have hlen : its.toArray.size * k.toNat ≤ sizeLine := by rw [List.size_toArray, ← hl]; exact hz
  have hcap : ¬ its.toArray.size * k.toNat > (2 ^ 63 - 1) / 8 := by
    have : (sizeLine : Nat) ≤ (2 ^ 63 - 1) / 8 := by decide
    lia
  have hfit : ¬ (!Builtin.List.listFitsIndex k) = true := by
    rw [fitsIndex_both h1 h2]
    exact Bool.false_ne_true
  have hlong : ¬ Builtin.List.listTooLong (its.toArray.size * k.toNat) = true := by
    rw [notLongL hlen]
    exact Bool.false_ne_true
  have hnew : List.foldl (fun x1 x2 => x1 ++ x2) #[] (List.replicate (if its.toArray.isEmpty = true then 0 else k.toNat) its.toArray) = (List.replicate k.toNat its).flatten.toArray := by
    have f0 : ∀ m : Nat, List.foldl (fun x1 x2 => x1 ++ x2) #[] (List.replicate m its.toArray) = (List.replicate m its).flatten.toArray := fun m => by
      have := foldl_rep its m []
      rw [List.nil_append] at this
      exact this
    rw [f0]
    cases its with
    | nil => simp
    | cons a r' => rw [if_neg (by simp)]
  refine wpAny_binaryOp_repeat_ref (T := "list") (U := "int") (by decide) ⟨_, e, rfl⟩ (fun s' => typeIs_int s' k t) noFill_list_mul F.fills_int_mul F.slot_int_rmul repeat_list F.slot_int_index.lookup
    (call_meets F.slot_int_rmul (typeIs_int s k t) F.entry_int_rmul (F.args_int_rmul_2 _ _) (int___rmul___int_list k t l its.toArray n)
      ⟨e, rfl, ⟨_, e, rfl⟩, call_meets F.slot_list_mul ⟨_, e, rfl⟩ F.entry_list_mul (F.args_list_mul_2 _ _) (AutoListH.list___mul___list_int_3 l its.toArray n k t hfit hcap hlong) ⟨e, ?_⟩⟩)
  rw [hnew]
  exact ⟨.ref _, _, I.lnew (t' := s.toks) (r.rep k.toNat) (by rw [len_rep, Nat.mul_comm]; exact hz), rfl, q _ I.fresh⟩
end
section
variable {prog : Program} {w : World} {A : Around} {E : Value → Shared → Prop} {s : Shared}
set_option maxRecDepth 100000 in
end
end L2
namespace L2
open PySem PySem.Spec PyProof.Rows
theorem Vals.ref1 {a : Addr} {us : List Value} (r : Vals [V.ref a] us) : us = [Value.ref a] := by
  cases r with
  | cons r t =>
    cases t
    cases r
    rfl
mutual
inductive Dp (K : PySem.W.Frag) (H : Hp) : V → PyData → Prop
  | non : Dp K H .non .none
  | bl (b : Bool) : Dp K H (.bl b) (.bool b)
  | int (i : Int) : Dp K H (.int i) (.int i)
  | str (x : Str) : Dp K H (.str x) (.str x)
  | lst {a : Addr} {xs : List V} {ds : List PyData} : SqL K H a xs → DpAll K H xs ds → Dp K H (.ref a) (.list ds)
  | tup {a : Addr} {xs : List V} {ds : List PyData} : SqT K H a xs → DpAll K H xs ds → Dp K H (.ref a) (.tuple ds)
inductive DpAll (K : PySem.W.Frag) (H : Hp) : List V → List PyData → Prop
  | nil : DpAll K H [] []
  | cons {v : V} {vs : List V} {d : PyData} {ds : List PyData} : Dp K H v d → DpAll K H vs ds → DpAll K H (v :: vs) (d :: ds)
end
section
variable {X : Cx} {pins : List (Addr × Obj)} {σ : St} {H : Hp} {s : Shared}
mutual
theorem Dp.reads (I : Inv X pins σ H s) : ∀ (d : PyData) (v : V) (u : Value), Dp X.K H v d → RelV v u → ∃ as, Reads s.heap u d as
  | .none, _, _, h, r => by
    cases h
    cases r
    exact ⟨_, Reads.none⟩
  | .bool b, _, _, h, r => by
    cases h
    cases r
    exact ⟨_, Reads.bool b⟩
  | .int i, _, _, h, r => by
    cases h
    obtain ⟨t, rfl⟩ := r
    exact ⟨_, Reads.int i t⟩
  | .str x, _, _, h, r => by
    cases h
    obtain ⟨t, rfl⟩ := r
    exact ⟨_, Reads.str x t⟩
  | .list ds, _, _, h, r => by
    cases h with
    | lst hs ha =>
      cases r
      obtain ⟨its, rv, ⟨o, n, ho, hc, _, hd⟩, _⟩ := I.list hs
      obtain ⟨as, hr⟩ := Dp.readsAll I ds _ its ha rv
      exact ⟨_, Reads.list ho hc hd hr⟩
  | .tuple ds, _, _, h, r => by
    cases h with
    | tup hs ha =>
      cases r
      obtain ⟨its, rv, ⟨o, ho, hc, n, hd⟩, _⟩ := I.tuple hs
      obtain ⟨as, hr⟩ := Dp.readsAll I ds _ its ha rv
      exact ⟨_, Reads.tuple ho hc hd hr⟩
  | .dict _, _, _, h, _ => by cases h
theorem Dp.readsAll (I : Inv X pins σ H s) : ∀ (ds : List PyData) (vs : List V) (us : List Value), DpAll X.K H vs ds → Vals vs us → ∃ as, ReadsAll s.heap us ds as
  | [], _, _, h, r => by
    cases h
    cases r
    exact ⟨_, ReadsAll.nil⟩
  | d :: ds, _, _, h, r => by
    cases h with
    | cons h1 h2 =>
      cases r with
      | cons r1 r2 =>
        obtain ⟨as, q1⟩ := Dp.reads I d _ _ h1 r1
        obtain ⟨bs, q2⟩ := Dp.readsAll I ds _ _ h2 r2
        exact ⟨_, ReadsAll.cons q1 q2⟩
end
end
end L2
namespace L2
open PySem PySem.Spec PyProof.Rows
noncomputable abbrev CellAt (h : Heap) (c : Addr) (v : Option Value) : Prop := h.IsCell c v
noncomputable def relS (scope sc : Scope) : Scope :=
  { scope with names := scope.names.map fun (n, k) => if (k == .free && sc.kind == .function && sc.names.lookup n == some .cell) then (n, .cell) else (n, k) }
noncomputable def cloFrom (cells : List (Str × Addr)) : List (Str × NameKind) → List (Str × Addr) → List (Str × Addr)
  | [], acc => acc
  | (n, k) :: r, acc => if k == .free then cloFrom cells r ((n, (cells.lookup n).getD 0) :: acc) else cloFrom cells r acc
theorem closure_loop (env : Env) (f : Str × NameKind → List (Str × Addr) → Sem (ForInStep (List (Str × Addr))))
    (hf : ∀ n k c, f (n, k) c = if k == .free then (do let a ← cellOf env n; pure (.yield ((n, a) :: c))) else pure (.yield c)) :
    ∀ (names : List (Str × NameKind)) (acc : List (Str × Addr)), (∀ y ∈ names, y.2 = .free → ∃ c, env.cells.lookup y.1 = some c) → forIn names acc f = pure (cloFrom env.cells names acc)
  | [], acc, _ => by rw [List.forIn_nil]; rfl
  | (n, k) :: r, acc, h => by
    rw [List.forIn_cons, hf]
    have ih := fun acc => closure_loop env f hf r acc fun y hy => h y (List.mem_cons_of_mem _ hy)
    unfold cloFrom
    by_cases hk : (k == NameKind.free) = true
    · rw [if_pos hk, if_pos hk]
      obtain ⟨c, hc⟩ := h (n, k) List.mem_cons_self (by simpa using hk)
      have e : cellOf env n = pure c := by unfold cellOf; rw [hc]
      rw [e]
      have e2 : (env.cells.lookup n).getD 0 = c := by rw [hc]; rfl
      rw [e2]
      exact ih _
    · rw [if_neg hk, if_neg hk]
      exact ih _
theorem closure_ok {scope : Scope} {env : Env} (h : ∀ y ∈ scope.names, y.2 = .free → ∃ c, env.cells.lookup y.1 = some c) : closureFor scope env = pure (cloFrom env.cells scope.names []) := by
  simp only [closureFor]
  rw [closure_loop env _ (fun n k c => rfl) scope.names [] h]
  rfl
theorem mem_lookup {α : Type} : ∀ {l : List (Str × α)} {n : Str} {c : α}, (n, c) ∈ l → ∃ c', l.lookup n = some c'
  | (k, v) :: r, n, c, h => by
    rw [List.lookup_cons]
    cases hb : n == k with
    | true => exact ⟨_, rfl⟩
    | false =>
      rcases List.mem_cons.mp h with e | h
      · cases e; simp at hb
      · exact mem_lookup h
theorem cloFrom_mem {cells : List (Str × Addr)} : ∀ {names : List (Str × NameKind)} {acc : List (Str × Addr)} {n : Str} {c : Addr}, (n, c) ∈ cloFrom cells names acc → (n, c) ∈ acc ∨ ((n, .free) ∈ names ∧ c = (cells.lookup n).getD 0)
  | [], _, _, _, h => .inl h
  | (m, k) :: r, acc, n, c, h => by
    unfold cloFrom at h
    split at h
    · rename_i hk
      have hk : k = .free := by simpa using hk
      rcases cloFrom_mem h with h | ⟨h1, h2⟩
      · rcases List.mem_cons.mp h with e | h
        · cases e; exact .inr ⟨hk ▸ List.mem_cons_self, rfl⟩
        · exact .inl h
      · exact .inr ⟨List.mem_cons_of_mem _ h1, h2⟩
    · rcases cloFrom_mem h with h | ⟨h1, h2⟩
      · exact .inl h
      · exact .inr ⟨List.mem_cons_of_mem _ h1, h2⟩
theorem cloFrom_acc {cells : List (Str × Addr)} : ∀ {names : List (Str × NameKind)} {acc : List (Str × Addr)} {p : Str × Addr}, p ∈ acc → p ∈ cloFrom cells names acc
  | [], _, _, h => h
  | (m, k) :: r, acc, p, h => by
    unfold cloFrom
    split
    · exact cloFrom_acc (List.mem_cons_of_mem _ h)
    · exact cloFrom_acc h
theorem cloFrom_has {cells : List (Str × Addr)} : ∀ {names : List (Str × NameKind)} {acc : List (Str × Addr)} {n : Str}, (n, .free) ∈ names → (n, (cells.lookup n).getD 0) ∈ cloFrom cells names acc
  | (m, k) :: r, acc, n, h => by
    unfold cloFrom
    rcases List.mem_cons.mp h with e | h
    · cases e
      exact cloFrom_acc List.mem_cons_self
    · split
      · exact cloFrom_has h
      · exact cloFrom_has h
theorem cells_mem : ∀ {names : List (Str × NameKind)} {h : Heap} {acc : List (Str × Addr)} {x : Str} {c : Addr}, (x, c) ∈ cellsFrom h.objs.size names acc →
    (x, c) ∈ acc ∨ ((x, .cell) ∈ names ∧ h.objs.size ≤ c ∧ CellAt (pushCells h names) c none)
  | [], _, _, _, _, h => .inl h
  | (n, k) :: r, h, acc, x, c, hm => by
    unfold cellsFrom at hm
    unfold pushCells
    split at hm
    · rename_i hk
      rw [if_pos hk]
      have hk : k = .cell := by simpa using hk
      rw [← Heap.size_push h { cls := .type "cell", data := .cell none }] at hm
      rcases cells_mem hm with hm | ⟨h1, h2, h3⟩
      · rcases List.mem_cons.mp hm with e | hm
        · cases e
          exact .inr ⟨hk ▸ List.mem_cons_self, Nat.le_refl _, _, pushCells_keeps r _ _ _ (Heap.get?_push_size _ rfl), rfl⟩
        · exact .inl hm
      · rw [Heap.size_push] at h2
        exact .inr ⟨List.mem_cons_of_mem _ h1, Nat.le_of_succ_le h2, h3⟩
    · rename_i hk
      rw [if_neg hk]
      rcases cells_mem hm with hm | ⟨h1, h2, h3⟩
      · exact .inl hm
      · exact .inr ⟨List.mem_cons_of_mem _ h1, h2, h3⟩
theorem cells_acc : ∀ {names : List (Str × NameKind)} {n : Nat} {acc : List (Str × Addr)} {p : Str × Addr}, p ∈ acc → p ∈ cellsFrom n names acc
  | [], _, _, _, h => h
  | (m, k) :: r, n, acc, p, h => by
    unfold cellsFrom
    split
    · exact cells_acc (List.mem_cons_of_mem _ h)
    · exact cells_acc h
theorem cells_has : ∀ {names : List (Str × NameKind)} {n : Nat} {acc : List (Str × Addr)} {x : Str}, (x, .cell) ∈ names → ∃ c, (x, c) ∈ cellsFrom n names acc
  | (m, k) :: r, n, acc, x, h => by
    unfold cellsFrom
    rcases List.mem_cons.mp h with e | h
    · cases e
      exact ⟨n, cells_acc List.mem_cons_self⟩
    · split
      · exact cells_has h
      · exact cells_has h
theorem cells_inj : ∀ {names : List (Str × NameKind)} {h : Heap} {acc : List (Str × Addr)} {x y : Str} {c : Addr}, (∀ p ∈ acc, p.2 < h.objs.size) → (∀ x y c, (x, c) ∈ acc → (y, c) ∈ acc → x = y) →
    (x, c) ∈ cellsFrom h.objs.size names acc → (y, c) ∈ cellsFrom h.objs.size names acc → x = y
  | [], _, _, _, _, _, _, hi, h1, h2 => hi _ _ _ h1 h2
  | (n, k) :: r, h, acc, x, y, c, hl, hi, h1, h2 => by
    unfold cellsFrom at h1 h2
    split at h1
    · rename_i hk
      rw [if_pos hk] at h2
      rw [← Heap.size_push h { cls := .type "cell", data := .cell none }] at h1 h2
      refine cells_inj (h := h.push _) (fun p hp => ?_) (fun x y c a b => ?_) h1 h2
      · rw [Heap.size_push]
        rcases List.mem_cons.mp hp with rfl | hp
        · exact Nat.lt_succ_self _
        · exact Nat.lt_succ_of_lt (hl p hp)
      · rcases List.mem_cons.mp a with e | a <;> rcases List.mem_cons.mp b with e' | b
        · cases e; cases e'; rfl
        · cases e; exact absurd (hl _ b) (Nat.lt_irrefl _)
        · cases e'; exact absurd (hl _ a) (Nat.lt_irrefl _)
        · exact hi _ _ _ a b
    · rename_i hk
      rw [if_neg hk] at h2
      exact cells_inj hl hi h1 h2
theorem newEnv_comp {M : Model} {A : Around} {E : Value → Shared → Prop} {s : Shared} {scope : Scope} {globals : Addr} {closure : List (Str × Addr)} {qual : Str} {func : Option Addr} {code : Value} {around : Env} {builtins : Addr} {Q : Env → Shared → Prop}
    (h : Q (newEnv scope s.heap.objs.size globals (cellsFrom (s.heap.objs.size + 1) scope.names closure) qual func code (some around) builtins)
      { s with heap := pushCells (s.heap.push { cls := .type "dict", data := .dict #[] }) scope.names }) :
    wpAny M A (newFunctionEnv scope globals closure [] qual func code (some around) builtins) Q E s := by
  simp only [newFunctionEnv, Option.isSome_some, if_true]
  refine wpAny_bind (wpAny_alloc ?_)
  refine wpAny_bind (wpAny_layCells _ (fun n k c => rfl) scope.names closure _ _ ?_)
  rw [show ({ s with heap := s.heap.push { cls := .type "dict", data := .dict #[] } } : Shared).heap.objs.size = s.heap.objs.size + 1 from Heap.size_push ..]
  rw [List.forIn_nil]
  exact wpAny_bind (wpAny_pure (wpAny_pure h))
theorem lookup_relS {sc : Scope} : ∀ {names : List (Str × NameKind)} {x : Str} {k : NameKind},
    (names.map fun (n, k) => if (k == NameKind.free && sc.kind == .function && sc.names.lookup n == some .cell) then (n, NameKind.cell) else (n, k)).lookup x = some k →
    ∃ k', names.lookup x = some k' ∧ (k = k' ∨ (k' = .free ∧ k = .cell))
  | [], _, _, h => by simp at h
  | (n, k₀) :: r, x, k, h => by
    have ih := @lookup_relS sc r x k
    have h' : List.lookup x ((if (k₀ == NameKind.free && sc.kind == .function && sc.names.lookup n == some .cell) = true then (n, NameKind.cell) else (n, k₀)) :: (r.map _)) = some k := h
    cases hx : x == n with
    | true =>
      simp only [List.lookup_cons, hx]
      by_cases hc : (k₀ == NameKind.free && sc.kind == .function && sc.names.lookup n == some .cell) = true
      · rw [if_pos hc] at h'
        simp only [List.lookup_cons, hx] at h'
        cases h'
        simp only [Bool.and_eq_true, beq_iff_eq] at hc
        exact ⟨k₀, rfl, .inr ⟨hc.1.1, rfl⟩⟩
      · rw [if_neg hc] at h'
        simp only [List.lookup_cons, hx] at h'
        cases h'
        exact ⟨_, rfl, .inl rfl⟩
    | false =>
      simp only [List.lookup_cons, hx]
      by_cases hc : (k₀ == NameKind.free && sc.kind == .function && sc.names.lookup n == some .cell) = true
      · rw [if_pos hc] at h'
        simp only [List.lookup_cons, hx] at h'
        exact ih h'
      · rw [if_neg hc] at h'
        simp only [List.lookup_cons, hx] at h'
        exact ih h'
structure BlkOk (N : List Str) (sc scope : Scope) (own : List (Str × Nat)) : Prop where
  kind : scope.kind = .function
  uniq : ∀ y ∈ scope.names, scope.names.lookup y.1 = some y.2
  ix : ∀ p ∈ own, N[p.2]? = some p.1
  free : ∀ y ∈ scope.names, y.2 = .free → sc.names.lookup y.1 = some .cell ∨ sc.names.lookup y.1 = some .free
  own : ∀ y ∈ scope.names, y.2 = .local ∨ y.2 = .cell → y.1 ∈ own.map (·.1) ∨ y.1 ∉ N
noncomputable def wipe (σ : St) : List Nat → St
  | [] => σ
  | v :: vs => (wipe σ vs).set v none
theorem wipe_length (σ : St) : ∀ vs : List Nat, (wipe σ vs).length = σ.length
  | [] => rfl
  | v :: vs => by unfold wipe; rw [List.length_set, wipe_length σ vs]
theorem wipe_some {σ : St} {i : Nat} {x : V} : ∀ {vs : List Nat}, (wipe σ vs)[i]? = some (some x) → σ[i]? = some (some x) ∧ i ∉ vs
  | [], h => ⟨h, by simp⟩
  | v :: vs, h => by
    unfold wipe at h
    by_cases hi : v = i
    · subst hi
      by_cases hv : v < (wipe σ vs).length
      · rw [List.getElem?_set_self hv] at h; cases h
      · rw [List.getElem?_eq_none (by simpa using hv)] at h; cases h
    · rw [List.getElem?_set_ne hi] at h
      obtain ⟨h1, h2⟩ := wipe_some h
      exact ⟨h1, by simp only [List.mem_cons, not_or]; exact ⟨fun e => hi e.symm, h2⟩⟩
noncomputable abbrev Cx.blk (X : Cx) (s : Shared) (H : Hp) (scope : Scope) (cenv : Env) (fp : List Addr) : Cx := { X with s_0 := s, H_0 := H, env := cenv, outer := X.stack, ex := fp, fn := fun x => scope.names.lookup x == some .cell, pn := [], xe := fun _ _ => False }
section
variable {X : Cx} {pins : List (Addr × Obj)} {σ : St} {H : Hp} {s : Shared}
theorem block_start {scope : Scope} {own : List (Str × Nat)} {fp : List Addr} (I : Inv X pins σ H s) (ok : BlkOk X.N X.env.scope scope own) (hN : X.N.Nodup) (hfp : ∀ b ∈ fp, FpOk X pins H b ∧ b < s.heap.objs.size) :
    Inv (X.blk s H scope (compEnvC scope (cellsFrom (s.heap.objs.size + 1) scope.names (cloFrom X.env.cells scope.names [])) s.heap.objs.size X.env) fp) [] (wipe σ (own.map (·.2))) H { s with heap := pushCells (s.heap.push { cls := .type "dict", data := .dict #[] }) scope.names } := by
  have hfree : ∀ y ∈ scope.names, y.2 = .free → ∃ c, X.env.cells.lookup y.1 = some c := fun y hy e => by
    rcases ok.free y hy e with k | k
    · exact I.ok.has _ (.inl k)
    · exact I.ok.has _ (.inr k)
  generalize hcenv : compEnvC scope (cellsFrom (s.heap.objs.size + 1) scope.names (cloFrom X.env.cells scope.names [])) s.heap.objs.size X.env = cenv
  have kp : ∀ b o, s.heap.get? b = some o → (pushCells (s.heap.push { cls := .type "dict", data := .dict #[] }) scope.names).get? b = some o := fun b o e => pushCells_keeps _ _ _ _ (Heap.get?_push_of_some _ e)
  have hL : cenv.locals = s.heap.objs.size := by rw [← hcenv]; rfl
  have hcl : cenv.cells = cellsFrom (s.heap.objs.size + 1) scope.names (cloFrom X.env.cells scope.names []) := by rw [← hcenv]; rfl
  have hsc : cenv.scope = relS scope X.env.scope := by rw [← hcenv]; rfl
  rw [← Heap.size_push s.heap { cls := .type "dict", data := .dict #[] }] at hcl
  have cm : ∀ {y c}, (y, c) ∈ cloFrom X.env.cells scope.names [] → X.env.cells.lookup y = some c ∧ c < s.heap.objs.size := fun {y c} hm => by
    rcases cloFrom_mem hm with hm | ⟨h1, rfl⟩
    · cases hm
    · obtain ⟨c, hc⟩ := hfree _ h1 rfl
      rw [hc]
      obtain ⟨w, z⟩ := I.cell _ _ hc
      exact ⟨rfl, z.lt⟩
  have mem : ∀ {y c}, cenv.cells.lookup y = some c → (X.env.cells.lookup y = some c ∧ c < s.heap.objs.size) ∨ (s.heap.objs.size + 1 ≤ c ∧ CellAt (pushCells (s.heap.push { cls := .type "dict", data := .dict #[] }) scope.names) c none) := fun {y c} e => by
    rw [hcl] at e
    rcases cells_mem (PySem.mem_of_lookup e) with hm | ⟨_, h2, h3⟩
    · exact .inl (cm hm)
    · rw [Heap.size_push] at h2; exact .inr ⟨h2, h3⟩
  have look : ∀ {y}, scope.names.lookup y = some .free → ∃ c, cenv.cells.lookup y = some c ∧ X.env.cells.lookup y = some c := fun {y} hl => by
    have hy : (y, NameKind.free) ∈ scope.names := PySem.mem_of_lookup hl
    obtain ⟨c', e'⟩ := mem_lookup (cells_acc (names := scope.names) (n := (s.heap.push { cls := .type "dict", data := .dict #[] }).objs.size) (cloFrom_has (cells := X.env.cells) (acc := []) hy))
    rw [← hcl] at e'
    refine ⟨c', e', ?_⟩
    rw [hcl] at e'
    rcases cells_mem (PySem.mem_of_lookup e') with hm | ⟨h1, _, _⟩
    · exact (cm hm).1
    · have := ok.uniq _ h1
      rw [hl] at this; cases this
  have okB : (X.blk s H scope cenv fp).Ok := by
    refine ⟨I.ok.mod, by show cenv.scope.kind = _; rw [hsc]; exact ok.kind, by show cenv.globals = _; rw [← hcenv]; exact I.ok.glob, by show cenv.builtins = _; rw [← hcenv]; exact I.ok.blt, by show s.heap.objs.size ≤ cenv.locals; rw [hL]; exact Nat.le_refl _,
      fun y z c e1 e2 => ?_, fun y hy => ?_, fun y c z e => ?_, I.ok.hd, I.ok.frames, .inl rfl, fun b hb => ⟨?_, fun y c e z => ?_⟩, I.bs, Nat.le_trans I.ok.bsz I.sz, fun b o e hb => ?_, fun b hb z => ?_, I.stack, I.stkFree⟩
    · have e1 : cenv.cells.lookup y = some c := e1
      have e2 : cenv.cells.lookup z = some c := e2
      rw [hcl] at e1 e2
      refine cells_inj (fun p hp => ?_) (fun y z c a b => I.ok.inj y z c (cm a).1 (cm b).1) (PySem.mem_of_lookup e1) (PySem.mem_of_lookup e2)
      rw [Heap.size_push]
      exact Nat.lt_succ_of_lt (cm (y := p.1) (c := p.2) hp).2
    · show ∃ c, cenv.cells.lookup y = some c
      have key : ∀ k, cenv.kindOf y = some k → (k = .cell ∨ k = .free) → ∃ c, cenv.cells.lookup y = some c := fun k hk hk' => by
        unfold Env.kindOf at hk
        rw [hsc] at hk
        obtain ⟨k', e, r⟩ := lookup_relS hk
        have : k' = .cell ∨ k' = .free := by
          rcases r with rfl | ⟨rfl, _⟩
          · exact hk'
          · exact .inr rfl
        rcases this with rfl | rfl
        · obtain ⟨c, hm⟩ := cells_has (n := (s.heap.push { cls := .type "dict", data := .dict #[] }).objs.size) (acc := cloFrom X.env.cells scope.names []) (PySem.mem_of_lookup e)
          obtain ⟨c', e'⟩ := mem_lookup hm
          exact ⟨c', by rw [hcl]; exact e'⟩
        · obtain ⟨c, h1, _⟩ := look e
          exact ⟨c, h1⟩
      rcases hy with hy | hy
      · exact key _ hy (.inl rfl)
      · exact key _ hy (.inr rfl)
    · have z : (scope.names.lookup y == some NameKind.cell) = true := z
      have z : scope.names.lookup y = some .cell := by simpa using z
      have e : cenv.cells.lookup y = some c := e
      rw [hcl] at e
      rcases cells_mem (PySem.mem_of_lookup e) with hm | ⟨_, h2, _⟩
      · rcases cloFrom_mem hm with hm | ⟨h1, _⟩
        · cases hm
        · have q := ok.uniq _ h1
          rw [z] at q; cases q
      · rw [Heap.size_push] at h2
        exact Nat.le_of_succ_le h2
    · show b ≠ cenv.locals
      rw [hL]; exact Nat.ne_of_lt (hfp b hb).2
    · have e : cenv.cells.lookup y = some c := e
      rcases mem e with ⟨h1, _⟩ | ⟨h1, _⟩
      · exact (hfp b hb).1.2.2.2.2.1 y c h1 z
      · have h2 : s.heap.objs.size + 1 ≤ b := by rw [← z]; exact h1
        exact absurd (Nat.lt_of_lt_of_le (hfp b hb).2 (Nat.le_of_succ_le h2)) (Nat.lt_irrefl _)
    · rcases (hfp b hb).1.2.2.2.1 with z | z
      · exact I.ok.noex b o e z
      · exact absurd (Nat.lt_of_lt_of_le (Heap.lt_size e) (Nat.le_trans I.ok.bsz z)) (Nat.lt_irrefl _)
    · rcases List.mem_cons.mp (I.stkSub b z) with z | z
      · exact (hfp b hb).1.2.1 z
      · exact (hfp b hb).1.2.2.1 z
  refine ⟨okB, rfl, I.bare, Un.kept kp, ⟨fun _ => none, ?_, fun i y av e1 e2 e3 => ?_⟩, fun y c e => ?_, ?_, fun y c e => ?_, fun p hp => ?_, I.hok.kept kp, by rw [wipe_length]; exact I.len⟩
  · show Heap.Ns _ cenv.locals _
    rw [hL]
    exact Heap.Ns.keeps (Heap.Ns.new ..) fun b o e => pushCells_keeps _ _ _ _ e
  · obtain ⟨e2, hne⟩ := wipe_some e2
    have hfr : scope.names.lookup y = some .free ∧ (cenv.kindOf y = some .cell ∨ cenv.kindOf y = some .free) := by
      have key : ∀ k, cenv.scope.names.lookup y = some k → k = .local ∨ k = .cell ∨ k = .free → scope.names.lookup y = some .free ∧ (cenv.kindOf y = some .cell ∨ cenv.kindOf y = some .free) := fun k hk hk' => by
        have hk0 := hk
        rw [hsc] at hk
        obtain ⟨k', e, r⟩ := lookup_relS hk
        have no : ¬ (k' = .local ∨ k' = .cell) := fun hh => by
          rcases ok.own _ (PySem.mem_of_lookup e) hh with e' | e'
          · obtain ⟨p, hp, hpy⟩ := List.mem_map.mp e'
            have e3 := ok.ix p hp
            have : p.1 = y := hpy
            rw [this] at e3
            exact hne (List.mem_map.mpr ⟨p, hp, nodup_ix hN e3 e1⟩)
          · exact e' (List.mem_of_getElem? e1)
        rcases r with rfl | ⟨rfl, rfl⟩
        · rcases hk' with rfl | rfl | rfl
          · exact absurd (.inl rfl) no
          · exact absurd (.inr rfl) no
          · exact ⟨e, .inr hk0⟩
        · exact ⟨e, .inl hk0⟩
      have e3 : Vis cenv.scope y := e3
      rcases e3 with e3 | e3 | e3
      · exact key _ e3 (.inl rfl)
      · exact key _ e3 (.inr (.inl rfl))
      · exact key _ e3 (.inr (.inr rfl))
    obtain ⟨m, hn, hl⟩ := I.loc
    have hvis : Vis X.env.scope y := (ok.free _ (PySem.mem_of_lookup hfr.1) rfl).elim (fun k => .inr (.inl k)) (fun k => .inr (.inr k))
    obtain ⟨w, r, q⟩ := hl i y av e1 e2 hvis
    refine ⟨w, r, .inr ⟨hfr.2, ?_⟩⟩
    obtain ⟨c, h1, h2⟩ := look hfr.1
    rcases q with ⟨k, _⟩ | ⟨_, c', e', z⟩
    · have k : X.env.scope.names.lookup y = some .local := k
      rcases ok.free _ (PySem.mem_of_lookup hfr.1) rfl with k' | k' <;> rw [show X.env.scope.names.lookup y = _ from k'] at k <;> cases k
    · rw [h2] at e'; cases e'
      exact ⟨c, h1, z.keeps kp⟩
  · have e : cenv.cells.lookup y = some c := e
    rcases mem e with ⟨h1, _⟩ | ⟨_, z⟩
    · obtain ⟨w, z⟩ := I.cell y c h1
      exact ⟨w, z.keeps kp⟩
    · exact ⟨_, z⟩
  · show H cenv.locals = none
    rw [hL]; exact I.hok.fresh (Nat.le_refl _)
  · have e : cenv.cells.lookup y = some c := e
    rcases mem e with ⟨h1, _⟩ | ⟨h1, _⟩
    · exact I.freeC y c h1
    · exact I.hok.fresh (Nat.le_of_succ_le h1)
  · exact absurd (show p ∈ ([] : List (Addr × Obj)) ++ [] from hp) (by simp)
theorem app_ok {E : Value → Shared → Prop} {D : Addr} {xs : List V} {y : V} {v : Value} {Q : Value → Shared → Prop} (I : Inv X pins σ H s) (hD : H D = some (.lst xs)) (hz : xs.length < sizeLine) (r : RelV y v)
    (h : ∀ s', Inv X pins σ (upd H D (.lst (xs ++ [y]))) s' → Q .none s') : wpAny (model X.prog X.w) X.A (call (.builtin "list.append") [.ref D, v]) Q E s := by
  obtain ⟨hz', its, n, ri, e⟩ := I.hok D _ hD
  have hl := ri.length
  refine append_at (hsz := by rw [List.size_toArray]; lia) e fun h' sb ho' => ?_
  refine h { s with heap := h' } (I.write (t' := s.toks) (by rw [hD]; trivial) (.inl rfl) (fun b u hb q => (sb.2 b hb).trans q) ⟨_, ho'⟩ ⟨by rw [List.length_append]; exact hz, its ++ [v], n + 1, ri.append (.cons r .nil), ?_⟩)
  rw [ho']
  simp
noncomputable def PTs (X : Cx) (ifs : List Expr) (t : TT) : Prop :=
  ∀ (pins : List (Addr × Obj)) (s : Shared) (σ : St) (H : Hp) (Q : Bool → Hp → Prop), Inv X pins σ H s → t σ H Q →
    wpAny (model X.prog X.w) X.A (forIn ifs true fun c r => if r = true then do let ok ← isTrue c X.env (eval c X.env); pure (ForInStep.yield ok) else pure (ForInStep.yield r)) (TP X pins σ Q) X.xe s
noncomputable def tYes : TT := fun _ H Q => Q true H
theorem pts_nil : PTs X [] tYes := fun _ _ _ H _ I h => wpAny_tests_nil ⟨H, I, h⟩
theorem pts_one {c : Expr} {t : TT} (h : PT X c t) : PTs X [c] t := fun pins s σ H Q I hw => wpAny_tests_one (h pins s σ H Q I hw)
end
theorem thnF {α : Type} {t : Sem α} {Q Q' : α → Shared → Prop} {M : Model} {A : Around} {E : Value → Shared → Prop} {s : Shared} (h : wpAny M A t Q (fun _ _ => False) s) (hQ : ∀ a s, Q a s → Q' a s) : wpAny M A t Q' E s := wpAny_mono h hQ fun _ _ z => False.elim z
theorem compLoop_any {prog : Program} {w : World} {A : Around} {R : Result → Shared → Prop} {s : Shared} {elt target iter : Expr} {ifs : List Expr} {scope : Scope} {pos : Pos} {it acc : Value} {env : Env} (I : Nat → Shared → Prop)
    (turn : ∀ n s, I n s → wpAny (model prog w) A (pyNext it) (fun r s₁ => match r with
      | none => R (.ok .next) s₁
      | some v => wpAny (model prog w) A (letOwnedTupleGo target it v) (fun _ s₁' => wpAny (model prog w) A (assign target env v) (fun _ s₂ =>
          wpAny (model prog w) A (forIn ifs true fun c r => if r = true then do let ok ← isTrue c env (eval c env); pure (ForInStep.yield ok) else pure (ForInStep.yield r)) (fun ok s₃ =>
            if ok = true then wpAny (model prog w) A (eval elt env) (fun x s₄ =>
              wpAny (model prog w) A (call (.builtin "list.append") [acc, x]) (fun _ s₅ => ∃ m, m < n ∧ I m s₅) (notedBy (model prog w) A env fun e s' => R (.error e) s') s₄) (notedBy (model prog w) A env fun e s' => R (.error e) s') s₃
            else ∃ m, m < n ∧ I m s₃) (notedBy (model prog w) A env fun e s' => R (.error e) s') s₂) (notedBy (model prog w) A env fun e s' => R (.error e) s') s₁') (notedBy (model prog w) A env fun e s' => R (.error e) s') s₁) (notedBy (model prog w) A env fun e s' => R (.error e) s') s)
    (n : Nat) (h : I n s) :
    codeAny (model prog w) A (.compLoop (.ListComp elt [⟨target, iter, ifs, 0⟩] scope pos) 0 it acc env) R s := by
  refine codeAny_loop rfl I (fun n s hI => ?_) n h
  show wpAny _ A ((compTurn (.ListComp elt [⟨target, iter, ifs, 0⟩] scope pos) 0 it acc env).onRaise (fun x => do noteFrame x env; theTreesLotGoes x)) _ _ s
  refine wpAny_noted ?_
  rw [compTurn_list]
  refine wpAny_bind (wpAny_standAt (wpAny_bind (wpAny_mono (turn n s hI) (fun r s₁ h₁ => ?_) fun _ _ h' => h')))
  cases r with
  | none => exact wpAny_pure h₁
  | some v =>
    refine wpAny_bind (wpAny_mono h₁ (fun _ s₁' h₁' => ?_) fun _ _ h' => h')
    refine wpAny_bind (wpAny_mono h₁' (fun _ s₂ h₂ => wpAny_bind (wpAny_mono h₂ (fun ok s₃ h₃ => ?_) fun _ _ h' => h')) fun _ _ h' => h')
    cases ok with
    | false => exact wpAny_pure ⟨rfl, h₃⟩
    | true =>
      exact wpAny_bind (wpAny_bind (wpAny_mono h₃ (fun x s₄ h₄ => wpAny_bind (wpAny_mono h₄ (fun _ s₅ h₅ => wpAny_pure (wpAny_pure ⟨rfl, h₅⟩)) fun _ _ h' => h')) fun _ _ h' => h'))
section
variable {X : Cx}
noncomputable def tLc (wi : TI) (g : TG) (tt : TT) (te : TE) (vs : List Nat) : TE := fun σ H Q => wi σ H fun J H1 => ∀ D, H1 D = none → ∃ W : Nat → Nat → Hp → Prop, (∃ m, W 0 m (upd H1 D (.lst []))) ∧ ∀ i m H, W i m H →
  (J.stop i H ∧ Q (.ref D) H) ∨ (J.go i H ∧ ∃ Nx : Hp → Prop, (∀ H', Nx H' → ∃ m', m' < m ∧ W (i + 1) m' H') ∧ ∀ x H', J.yld i H x H' → g x (wipe σ vs) H' fun σ2 H2 => wipe σ2 vs = wipe σ vs ∧ tt σ2 H2 fun b H3 =>
    if b = true then te σ2 H3 fun y H4 => ∃ acc, H4 D = some (.lst acc) ∧ acc.length < sizeLine ∧ Nx (upd H4 D (.lst (acc ++ [y]))) else Nx H3)
theorem lc_core {pins : List (Addr × Obj)} {s : Shared} {σ : St} {H : Hp} {Q : VK} {elt tg iter : Expr} {ifs : List Expr} {scope : Scope} {own : List (Str × Nat)} {pos pos' : Pos} {wi : TI} {g : TG} {tt : TT} {te : TE} {use : Option (Value → Sem Unit)} {Qf : Value → Shared → Prop}
    (hc : X.calm = true) (hN : X.N.Nodup) (I : Inv X pins σ H s) (hi : PI X tg iter wi) (ok : BlkOk X.N X.env.scope scope own)
    (hg : ∀ (s : Shared) (H : Hp) (C : Addr) (cl : List (Str × Addr)) (fp : List Addr), PG (X.blk s H scope (compEnvC scope cl C X.env) fp) tg g) (ht : ∀ (s : Shared) (H : Hp) (C : Addr) (cl : List (Str × Addr)) (fp : List Addr), PTs (X.blk s H scope (compEnvC scope cl C X.env) fp) ifs tt)
    (he : ∀ (s : Shared) (H : Hp) (C : Addr) (cl : List (Str × Addr)) (fp : List Addr), PE (X.blk s H scope (compEnvC scope cl C X.env) fp) elt te) (hs : ∀ x, foldedSetIterable iter X.env x = pure x)
    (h : tLc wi g tt te (own.map (·.2)) σ H Q)
    (hRR : ∀ D C s' m H', Inv X pins σ H' s' → Q (.ref D) H' → s'.heap.Ns C m → FpOk X pins H' C → compPost (model X.prog X.w) X.A X.xe use Qf (.ref D) C (.ok .next) s') :
    wpAny (model X.prog X.w) X.A (comprehension (.ListComp elt [⟨tg, iter, ifs, 0⟩] scope pos) scope X.env pos' (newList []) false (eval iter X.env) use) Qf X.xe s := by
  have hfree : ∀ y ∈ scope.names, y.2 = .free → ∃ c, X.env.cells.lookup y.1 = some c := fun y hy e => by
    rcases ok.free y hy e with k | k
    · exact I.ok.has _ (.inl k)
    · exact I.ok.has _ (.inr k)
  refine wpAny_comprehension_free (use := use) rfl hs (closure_ok hfree) ok.kind (fun y hy e => by rw [ok.uniq y hy, e])
    (thn (hi pins s σ H _ I h) fun xv s1 hx => thn hx fun itv s2 h2 => ?_)
  obtain ⟨it, fp, tn, J, H2, e, I2, T, st2, f2, q⟩ := h2
  subst e
  refine wpAny_newObj_type (newEnv_comp ?_) (by show 0 ≤ sizeLine; decide)
  generalize hD : s2.heap.objs.size = D
  have hDn : H2 D = none := I2.hok.fresh (Nat.le_of_eq hD)
  obtain ⟨W, ⟨m0, w0⟩, turn⟩ := q D hDn
  generalize hs3 : ({ s2 with heap := s2.heap.push { cls := .type "list", data := .seq ([] : List Value).toArray } } : Shared) = s3
  have I3 : Inv X pins σ (upd H2 D (.lst [])) s3 := by
    rw [← hs3]
    refine I2.laid (t' := s2.toks) (fun b o e => Heap.get?_push_of_some _ e) (Nat.le_of_eq hD) ⟨Nat.zero_le _, [], 0, .nil, ?_⟩
    rw [← hD]
    exact Heap.get?_push_size _ rfl
  have h3 : s3.heap = s2.heap.push { cls := .type "list", data := .seq ([] : List Value).toArray } := by rw [← hs3]
  have sz : ∀ b ∈ fp, b < s2.heap.objs.size := fun b hb => by
    obtain ⟨o, e, _⟩ := T.obj _ _ st2 b hb
    exact Heap.lt_size e
  have f3 : ∀ b ∈ fp, FpOk X pins (upd H2 D (.lst [])) b ∧ b < s3.heap.objs.size := fun b hb => by
    have hlt := sz b hb
    refine ⟨⟨?_, (f2 b hb).2⟩, by rw [h3, Heap.size_push]; exact Nat.lt_succ_of_lt hlt⟩
    rw [zE (by rw [← hD]; exact Nat.ne_of_lt hlt)]
    exact (f2 b hb).1
  have st3 : tn 0 s3.heap := T.keep _ _ _ st2 fun b _ o e => by rw [h3]; exact Heap.get?_push_of_some _ e
  have I4 := block_start I3 ok hN f3
  have pg := hg s3 (upd H2 D (.lst [])) s3.heap.objs.size (cellsFrom (s3.heap.objs.size + 1) scope.names (cloFrom X.env.cells scope.names [])) fp
  have pt := ht s3 (upd H2 D (.lst [])) s3.heap.objs.size (cellsFrom (s3.heap.objs.size + 1) scope.names (cloFrom X.env.cells scope.names [])) fp
  have pe := he s3 (upd H2 D (.lst [])) s3.heap.objs.size (cellsFrom (s3.heap.objs.size + 1) scope.names (cloFrom X.env.cells scope.names [])) fp
  show codeAny _ _ (.compStart (.ListComp elt [⟨tg, iter, ifs, 0⟩] scope pos) 0 (.ref it) (.ref D) (compEnvC scope (cellsFrom (s3.heap.objs.size + 1) scope.names (cloFrom X.env.cells scope.names [])) s3.heap.objs.size X.env)) (compPost (model X.prog X.w) X.A X.xe use Qf (.ref D) s3.heap.objs.size) { s3 with heap := pushCells (s3.heap.push { cls := .type "dict", data := .dict #[] }) scope.names }
  have nfp : ∀ b ∈ fp, (upd H2 D (.lst [])) b = none := fun b hb => (f3 b hb).1.1
  generalize hce : compEnvC scope (cellsFrom (s3.heap.objs.size + 1) scope.names (cloFrom X.env.cells scope.names [])) s3.heap.objs.size X.env = ce at I4 pg pt pe ⊢
  have cL : ce.locals = s3.heap.objs.size := by subst hce; rfl
  generalize hH3 : upd H2 D (.lst []) = H3 at I3 I4 pg pt pe w0 nfp f3
  generalize hs4 : ({ s3 with heap := pushCells (s3.heap.push { cls := .type "dict", data := .dict #[] }) scope.names } : Shared) = s4 at I4 ⊢
  have st4 : tn 0 s4.heap := T.keep _ _ _ st3 fun b _ o e => by rw [← hs4]; exact pushCells_keeps _ _ _ _ (Heap.get?_push_of_some _ e)
  have stat : ∀ {σ' : St} {H' : Hp} {s' : Shared}, Inv (X.blk s3 H3 scope ce fp) [] σ' H' s' → (∀ b ∈ fp, H' b = none) → ∀ b ∈ fp, FpOk (X.blk s3 H3 scope ce fp) [] H' b := fun {σ' H' s'} I' hn b hb =>
    ⟨hn b hb, (I'.ok.exf b hb).1, I'.ok.exfs b hb, .inl hb, fun x c e => (I'.ok.exf b hb).2 x c e, fun p hp => absurd (show p ∈ ([] : List (Addr × Obj)) ++ [] from hp) (by simp)⟩
  have loop : codeAny (model X.prog X.w) X.A (.compLoop (.ListComp elt [⟨tg, iter, ifs, 0⟩] scope pos) 0 (.ref it) (.ref D) ce) (compPost (model X.prog X.w) X.A X.xe use Qf (.ref D) s3.heap.objs.size) s4 := by
    refine compLoop_any (fun n s' => ∃ i H', Inv (X.blk s3 H3 scope ce fp) [] (wipe σ (own.map (·.2))) H' s' ∧ tn i s'.heap ∧ (∀ b ∈ fp, H' b = none) ∧ W i n H') ?_ m0 ⟨0, H3, I4, st4, nfp, w0⟩
    rintro n s5 ⟨i, H5, I5, st5, n5, w5⟩
    rcases turn i n H5 w5 with ⟨stop, qq⟩ | ⟨go, Nx, hNx, step⟩
    · have td := T.done (X.blk s3 H3 scope ce fp) rfl rfl rfl hc i [] s5 _ H5 (fun _ _ => False) I5 (stat I5 n5) st5 stop
      refine thnF td fun r s6 ⟨hr, I6⟩ => ?_
      subst hr
      have I7 : Inv X pins σ H5 s6 := I3.call' (ch := fp) I6.os I6.base I6.hok I6.bare fun b hb => ⟨(f3 b hb).1.2.2.2.1, (f3 b hb).1.2.1, (f3 b hb).1.2.2.2.2.1, (f3 b hb).1.2.2.2.2.2⟩
      have nC : H5 s3.heap.objs.size = none := by
        have z : H5 ce.locals = none := I6.free
        rw [cL] at z
        exact z
      obtain ⟨m, hn, _⟩ := I6.loc
      have hn : s6.heap.Ns ce.locals m := hn
      rw [cL] at hn
      exact hRR D s3.heap.objs.size s6 m H5 I7 qq hn (I3.fpOk (Nat.le_refl _) nC)
    · have ti := T.item (X.blk s3 H3 scope ce fp) rfl rfl rfl hc i [] s5 _ H5 (fun _ _ => False) I5 (stat I5 n5) st5 go
      refine thnF ti fun r s6 ⟨u, hr, h6⟩ => ?_
      subst hr
      refine thnF h6 fun _ s7 ⟨x, H7, I7, r7, y7, st7, n7⟩ => ?_
      have I7' := I7.pinned (stat I7 n7) (T.obj _ _ st7)
      refine thnF (pg _ s7 _ H7 x u _ I7' r7 (step x H7 y7)) fun _ s8 ⟨σ8, H8, I8, hw8, q8⟩ => ?_
      refine thnF (pt _ s8 σ8 H8 _ I8 q8) fun b s9 ⟨H9, I9, q9⟩ => ?_
      have fin : ∀ {s' : Shared} {H' : Hp}, Inv (X.blk s3 H3 scope ce fp) ([] ++ pinsAt fp s7.heap) σ8 H' s' → Nx H' → ∃ m, m < n ∧ ∃ i H', Inv (X.blk s3 H3 scope ce fp) [] (wipe σ (own.map (·.2))) H' s' ∧ tn i s'.heap ∧ (∀ b ∈ fp, H' b = none) ∧ W i m H' := fun {s' H'} I' nx => by
        obtain ⟨m', hm, w'⟩ := hNx H' nx
        have pin' : ∀ b ∈ fp, ∀ o, s7.heap.get? b = some o → s'.heap.get? b = some o ∧ H' b = none := fun b hb o e =>
          let z := I'.pin (b, o) (List.mem_append_right _ (List.mem_append_right _ (mem_pinsAt hb e)))
          ⟨z.1, z.2.1⟩
        have hl : (wipe σ (own.map (·.2))).length = σ8.length := by rw [← hw8, wipe_length]
        refine ⟨m', hm, i + 1, H', (I'.unpinned (pins := [])).weak hl (fun j v e => ?_), T.keep _ _ _ st7 fun b hb o e => (pin' b hb o e).1, fun b hb => ?_, w'⟩
        · rw [← hw8] at e
          exact (wipe_some e).1
        · obtain ⟨o, e, _⟩ := T.obj _ _ st7 b hb
          exact (pin' b hb o e).2
      cases b with
      | false =>
        simp only [Bool.false_eq_true, if_false] at q9 ⊢
        exact fin I9 q9
      | true =>
        simp only [if_true] at q9 ⊢
        refine thnF (pe _ s9 σ8 H9 _ I9 q9) fun z s10 ⟨yv, H10, I10, r10, acc, hD10, hz10, nx⟩ => ?_
        exact app_ok (X := X.blk s3 H3 scope ce fp) I10 hD10 hz10 r10 fun s11 I11 => fin I11 nx
  exact codeAny_compStart_list loop (T.self X.A 0 _ _ _ st4 loop)
theorem pe_lc {elt tg iter : Expr} {ifs : List Expr} {scope : Scope} {own : List (Str × Nat)} {pos : Pos} {wi : TI} {g : TG} {tt : TT} {te : TE} (hc : X.calm = true) (hN : X.N.Nodup) (hi : PI X tg iter wi) (ok : BlkOk X.N X.env.scope scope own)
    (hg : ∀ (s : Shared) (H : Hp) (C : Addr) (cl : List (Str × Addr)) (fp : List Addr), PG (X.blk s H scope (compEnvC scope cl C X.env) fp) tg g) (ht : ∀ (s : Shared) (H : Hp) (C : Addr) (cl : List (Str × Addr)) (fp : List Addr), PTs (X.blk s H scope (compEnvC scope cl C X.env) fp) ifs tt)
    (he : ∀ (s : Shared) (H : Hp) (C : Addr) (cl : List (Str × Addr)) (fp : List Addr), PE (X.blk s H scope (compEnvC scope cl C X.env) fp) elt te) (hs : ∀ x, foldedSetIterable iter X.env x = pure x := by intro _; rfl) :
    PE X (.ListComp elt [⟨tg, iter, ifs, 0⟩] scope pos) (tLc wi g tt te (own.map (·.2))) := by
  intro pins s σ H Q I h
  rw [eval_ListComp]
  refine lc_core hc hN I hi ok hg ht he hs h fun D C s' m H' I' q hn f => ⟨m, hn, fun h'' sb => ?_⟩
  obtain ⟨f0, f1, f2, f3, f4, f5⟩ := f
  exact ⟨.ref D, H', I'.turned (t' := s'.toks) (fun b o hb e => (sb.2 b hb).trans e) f0 f1 f3 f4 f5, rfl, q⟩
theorem ps_setLc {i : Nat} {y : Str} {py : Pos} {elt tg iter : Expr} {ifs : List Expr} {scope : Scope} {own : List (Str × Nat)} {pos spos : Pos} {wi : TI} {g : TG} {tt : TT} {te : TE} (hc : X.calm = true) (hN : X.N.Nodup) (hy : X.N[i]? = some y) (hyl : X.env.scope.names.lookup y = some .local)
    (hsw : swapsWith (.ListComp elt [⟨tg, iter, ifs, 0⟩] scope pos) (some (.Name y py)) spos.line X.env = pure true) (hi : PI X tg iter wi) (ok : BlkOk X.N X.env.scope scope own)
    (hg : ∀ (s : Shared) (H : Hp) (C : Addr) (cl : List (Str × Addr)) (fp : List Addr), PG (X.blk s H scope (compEnvC scope cl C X.env) fp) tg g) (ht : ∀ (s : Shared) (H : Hp) (C : Addr) (cl : List (Str × Addr)) (fp : List Addr), PTs (X.blk s H scope (compEnvC scope cl C X.env) fp) ifs tt)
    (he : ∀ (s : Shared) (H : Hp) (C : Addr) (cl : List (Str × Addr)) (fp : List Addr), PE (X.blk s H scope (compEnvC scope cl C X.env) fp) elt te) (hs : ∀ x, foldedSetIterable iter X.env x = pure x := by intro _; rfl) :
    PS X (.Assign [.Name y py] (.ListComp elt [⟨tg, iter, ifs, 0⟩] scope pos) spos) (tAsg (tLc wi g tt te (own.map (·.2))) (gName i)) := by
  intro pins s σ H D I h
  rw [exec_Assign_Name_used _ _ _ _ hsw]
  refine wpAny_bind (wpAny_standAt (wpAny_bind ?_))
  show wpAny _ X.A (do let _ ← comprehension (.ListComp elt [⟨tg, iter, ifs, 0⟩] scope pos) scope X.env (firstIterPos [⟨tg, iter, ifs, 0⟩] pos) (newList []) false (eval iter X.env) (some (assign (.Name y py) X.env))) _ _ s
  have h : tLc wi g tt te (own.map (·.2)) σ H (fun x H1 => gName i x σ H1 D.nx) := h
  refine wpAny_bind (thn (lc_core (Qf := fun _ s' => SP X pins D .next s') hc hN I hi ok hg ht he hs h fun L C s' m H' I' q hn f => ?_) fun _ s' hq => wpAny_pure (wpAny_pure hq))
  show wpAny _ _ (assign (.Name y py) X.env (.ref L)) _ _ _
  refine wpAny_assign_Name (store_ok2 (v := V.ref L) I' hN hy (.inl hyl) rfl (fun s2 I2 ⟨a, sb, ha⟩ => ?_) (.inr hyl))
  obtain ⟨f0, f1, f2, f3, f4, f5⟩ := f
  have haC : C ≠ a := by
    rcases ha with z | z
    · rw [z]; exact f1
    · exact fun e => f4 y a z e.symm
  refine ⟨m, hn.sameBut sb haC, fun h3 sb3 => ?_⟩
  exact ⟨_, H', I2.turned (t' := s2.toks) (fun b o hb e => (sb3.2 b hb).trans e) f0 f1 f3 f4 f5, q⟩
theorem sw_true {elt : Expr} {gs : List Comprehension} {scope : Scope} {pos py : Pos} {y : Str} {l : Nat} {env : Env} (hk : env.scope.kind = .function) (hy : env.scope.names.lookup y = some .local) (hl : (py.line == pos.line) = true)
    (ha : (scope.names.any fun (n, k) => n == y && (k == .local || k == .cell)) = false) : swapsWith (.ListComp elt gs scope pos) (some (.Name y py)) l env = pure true := by
  have ky : env.kindOf y = some .local := hy
  have hb : env.blockKind = .function := by unfold Env.blockKind; rw [hk]; rfl
  unfold swapsWith
  simp only [hb, ky, ha, Expr.pos, hl]
  rfl
end
theorem lc_list {K : PySem.W.Frag} {a : Addr} {xs : List V} {g : TG} {tt : TT} {te : TE} {vs : List Nat} {σ : St} {H1 : Hp} {D : Addr} {Qd : Hp → Prop} (Pv : Nat → Hp → Prop) (h0 : Pv 0 (upd H1 D (.lst []))) (hl : ∀ i H, i ≤ xs.length → Pv i H → SqL K H a xs)
    (hs : ∀ i x H, xs[i]? = some x → Pv i H → g x (wipe σ vs) H fun σ2 H2 => wipe σ2 vs = wipe σ vs ∧ tt σ2 H2 fun b H3 =>
      if b = true then te σ2 H3 fun y H4 => ∃ acc, H4 D = some (.lst acc) ∧ acc.length < sizeLine ∧ Pv (i + 1) (upd H4 D (.lst (acc ++ [y]))) else Pv (i + 1) H3) (hd : ∀ H, Pv xs.length H → Qd H) :
    ∃ W : Nat → Nat → Hp → Prop, (∃ m, W 0 m (upd H1 D (.lst []))) ∧ ∀ i m H, W i m H →
      ((Itl K a).stop i H ∧ Qd H) ∨ ((Itl K a).go i H ∧ ∃ Nx : Hp → Prop, (∀ H', Nx H' → ∃ m', m' < m ∧ W (i + 1) m' H') ∧ ∀ x H', (Itl K a).yld i H x H' → g x (wipe σ vs) H' fun σ2 H2 => wipe σ2 vs = wipe σ vs ∧ tt σ2 H2 fun b H3 =>
        if b = true then te σ2 H3 fun y H4 => ∃ acc, H4 D = some (.lst acc) ∧ acc.length < sizeLine ∧ Nx (upd H4 D (.lst (acc ++ [y]))) else Nx H3) := by
  refine ⟨fun i m H => m = xs.length - i ∧ i ≤ xs.length ∧ Pv i H, ⟨xs.length, by simp, Nat.zero_le _, h0⟩, ?_⟩
  rintro i m H ⟨rfl, hi, p⟩
  have q := hl i H hi p
  by_cases hlt : i < xs.length
  · refine .inr ⟨⟨xs, xs[i], q, by simp [hlt]⟩, Pv (i + 1), fun H' p' => ⟨xs.length - (i + 1), by lia, rfl, hlt, p'⟩, fun x H' y => ?_⟩
    obtain ⟨e, y⟩ := y
    subst e
    exact hs i x _ (y xs q) p
  · have e : i = xs.length := by lia
    subst e
    exact .inl ⟨⟨xs, q, Nat.le_refl _⟩, hd H p⟩
end L2
namespace L2
open PySem PySem.Spec PyProof.Rows
end L2
namespace L2
open PySem PySem.Spec PyProof.Rows
section
variable {κ : Type} [DecidableEq κ]
noncomputable def valV (kvs : List (κ × V)) (k : κ) : Option V := (kvs.find? fun kv => decide (kv.1 = k)).map (·.2)
noncomputable def putK (kvs : List (κ × V)) (k : κ) (v : V) : List (κ × V) :=
  if (kvs.any fun kv => decide (kv.1 = k)) = true then kvs.map (fun kv => if kv.1 = k then (kv.1, v) else kv) else kvs ++ [(k, v)]
noncomputable def dropK (kvs : List (κ × V)) (k : κ) : List (κ × V) := kvs.filter fun kv => decide (kv.1 ≠ k)
theorem valV_pos {p : κ × V} {r : List (κ × V)} {k : κ} (e : p.1 = k) : valV (p :: r) k = some p.2 := by simp [valV, List.find?_cons, e]
theorem valV_neg {p : κ × V} {r : List (κ × V)} {k : κ} (e : ¬ p.1 = k) : valV (p :: r) k = valV r k := by simp [valV, List.find?_cons, e]
theorem valV_any (k : κ) : ∀ kvs : List (κ × V), (kvs.any fun kv => decide (kv.1 = k)) = (valV kvs k).isSome
  | [] => rfl
  | p :: r => by
    rw [List.any_cons]
    by_cases e : p.1 = k
    · simp only [valV_pos e, decide_eq_true e, Bool.true_or, Option.isSome_some]
    · rw [valV_neg e, decide_eq_false e, Bool.false_or]; exact valV_any k r
theorem valV_map (k j : κ) (y : V) : ∀ kvs : List (κ × V), valV (kvs.map fun kv => if kv.1 = k then (kv.1, y) else kv) j = (valV kvs j).map fun x => if j = k then y else x
  | [] => rfl
  | p :: r => by
    have ih := valV_map k j y r
    rw [List.map_cons]
    by_cases h : p.1 = k
    · rw [if_pos h]
      by_cases e : p.1 = j
      · rw [valV_pos (p := (p.1, y)) e, valV_pos e, Option.map_some, if_pos (e.symm.trans h)]
      · rw [valV_neg (p := (p.1, y)) e, valV_neg e, ih]
    · rw [if_neg h]
      by_cases e : p.1 = j
      · rw [valV_pos (p := p) e, valV_pos e, Option.map_some, if_neg (fun z => h (e.trans z))]
      · rw [valV_neg (p := p) e, valV_neg e, ih]
theorem valV_snoc (k j : κ) (y : V) : ∀ kvs : List (κ × V), valV kvs k = none → valV (kvs ++ [(k, y)]) j = if j = k then some y else valV kvs j
  | [], _ => by
    by_cases e : k = j
    · rw [if_pos e.symm]; exact valV_pos (p := (k, y)) e
    · rw [if_neg (fun z => e z.symm)]; exact valV_neg (p := (k, y)) e
  | p :: r, hn => by
    rw [List.cons_append]
    have hk : ¬ p.1 = k := fun z => by rw [valV_pos z] at hn; cases hn
    rw [valV_neg hk] at hn
    have ih := valV_snoc k j y r hn
    by_cases e : p.1 = j
    · rw [valV_pos e, valV_pos e, if_neg (fun z => hk (e.trans z))]
    · rw [valV_neg e, valV_neg e, ih]
theorem valV_put (kvs : List (κ × V)) (k j : κ) (y : V) : valV (putK kvs k y) j = if j = k then some y else valV kvs j := by
  unfold putK
  by_cases a : (kvs.any fun kv => decide (kv.1 = k)) = true
  · rw [if_pos a, valV_map]
    rw [valV_any] at a
    by_cases e : j = k
    · obtain ⟨x, hx⟩ := Option.isSome_iff_exists.mp a
      rw [if_pos e, e, hx, Option.map_some, if_pos rfl]
    · rw [if_neg e]
      cases valV kvs j with
      | none => rfl
      | some x => rw [Option.map_some, if_neg e]
  · rw [if_neg a]
    refine valV_snoc k j y kvs ?_
    rw [valV_any] at a
    cases q : valV kvs k with
    | none => rfl
    | some x => rw [q] at a; exact (a rfl).elim
theorem length_putK (kvs : List (κ × V)) (k : κ) (v : V) : (putK kvs k v).length ≤ kvs.length + 1 := by
  unfold putK
  split
  · rw [List.length_map]; lia
  · rw [List.length_append, List.length_cons, List.length_nil]; lia
theorem putK_new {kvs : List (κ × V)} {k : κ} (v : V) (h : valV kvs k = none) : putK kvs k v = kvs ++ [(k, v)] := by
  unfold putK
  rw [valV_any, h]
  exact if_neg (by decide)
theorem RelO.isSome_eq {o : Option V} {u : Option Value} (r : RelO o u) : o.isSome = u.isSome := by
  cases o with
  | none => cases u with
    | none => rfl
    | some _ => exact (show False from r).elim
  | some _ => cases u with
    | none => exact (show False from r).elim
    | some _ => rfl
theorem RelO.getD {o : Option V} {u : Option Value} {d : V} {d' : Value} (r : RelO o u) (rd : RelV d d') : RelV (o.getD d) (u.getD d') := by
  cases o with
  | none => cases u with
    | none => exact rd
    | some _ => exact (show False from r).elim
  | some _ => cases u with
    | none => exact (show False from r).elim
    | some _ => exact r
theorem KV.val {kvs : List (κ × V)} {vs : List (κ × Value)} (r : KV kvs vs) (k : κ) : RelO (valV kvs k) (valueAt vs k) := by
  unfold KV at r
  induction r with
  | nil => exact True.intro
  | @cons p q ps qs h t ih =>
    obtain ⟨h1, h2⟩ := h
    by_cases e : p.1 = k
    · have e' : q.1 = k := h1.symm.trans e
      have b : valueAt (q :: qs) k = some q.2 := by simp [valueAt, List.find?_cons, e']
      rw [valV_pos e, b]; exact h2
    · have e' : ¬ q.1 = k := fun z => e (h1.trans z)
      have b : valueAt (q :: qs) k = valueAt qs k := by simp [valueAt, List.find?_cons, e']
      rw [valV_neg e, b]; exact ih
theorem KV.any {kvs : List (κ × V)} {vs : List (κ × Value)} (r : KV kvs vs) (k : κ) : (kvs.any fun kv => decide (kv.1 = k)) = vs.any fun kv => decide (kv.1 = k) := by
  unfold KV at r
  induction r with
  | nil => rfl
  | cons h t ih => rw [List.any_cons, List.any_cons, ih, h.1]
theorem KV.repl {kvs : List (κ × V)} {vs : List (κ × Value)} (r : KV kvs vs) (k : κ) {y : V} {u : Value} (ry : RelV y u) :
    KV (kvs.map fun kv => if kv.1 = k then (kv.1, y) else kv) (vs.map fun kv => if kv.1 = k then (kv.1, u) else kv) := by
  unfold KV at r ⊢
  induction r with
  | nil => exact .nil
  | @cons p q ps qs h t ih =>
    rw [List.map_cons, List.map_cons]
    refine .cons ?_ ih
    obtain ⟨h1, h2⟩ := h
    by_cases e : p.1 = k
    · rw [if_pos e, if_pos (h1.symm.trans e)]; exact ⟨h1, ry⟩
    · rw [if_neg e, if_neg (fun z => e (h1.trans z))]; exact ⟨h1, h2⟩
theorem KV.put {kvs : List (κ × V)} {vs : List (κ × Value)} (r : KV kvs vs) (k : κ) {y : V} {u : Value} (ry : RelV y u) : KV (putK kvs k y) (stored vs k u) := by
  unfold putK stored
  rw [r.any k]
  by_cases e : (vs.any fun kv => decide (kv.1 = k)) = true
  · rw [if_pos e, if_pos e]; exact r.repl k ry
  · rw [if_neg e, if_neg e]; exact Paired.snoc r ⟨rfl, ry⟩
theorem KV.length {kvs : List (κ × V)} {vs : List (κ × Value)} (r : KV kvs vs) : kvs.length = vs.length := Paired.length r
theorem dropK_le (kvs : List (κ × V)) (k : κ) : (dropK kvs k).length ≤ kvs.length := List.length_filter_le _ _
end
theorem kV_is {P : Program} {w : World} {k : Key} {u : Value} (r : RelV (kV k) u) : (mixKind P w).is k u = true := by
  cases k with
  | inl i => obtain ⟨t, e⟩ := (show ∃ t, u = Value.int i t from r); subst e; exact mixKind_int P w i t
  | inr x => obtain ⟨t, e⟩ := (show ∃ t, u = Value.str x t from r); subst e; exact mixKind_str P w x t
theorem items_are {P : Program} {w : World} : ∀ {ks : List Key} {us : List Value}, Vals (ks.map kV) us → ItemsAre (mixKind P w) ks us
  | [], _, r => by rw [List.map_nil] at r; cases r; exact .nil
  | k :: ks, _, r => by
    rw [List.map_cons] at r
    cases r with
    | cons h t => exact .cons (kV_is h) (items_are t)
noncomputable abbrev KT (H : Hp) : List (List Key × V) → List (List Key × Addr × Value) → Prop := Paired fun p q => p.1 = q.1 ∧ H q.2.1 = some (.tup (p.1.map kV)) ∧ RelV p.2 q.2.2
theorem KT.val {H : Hp} {kvs : List (List Key × V)} {xs : List (List Key × Addr × Value)} (r : KT H kvs xs) (k : List Key) : RelO (valV kvs k) ((atKey xs k).map (·.2)) := by
  induction r with
  | nil => exact True.intro
  | @cons p q ps qs h t ih =>
    obtain ⟨h1, _, h2⟩ := h
    by_cases e : p.1 = k
    · have e' : q.1 = k := h1.symm.trans e
      have b : atKey (q :: qs) k = some q.2 := by simp [atKey, List.find?_cons, e']
      rw [valV_pos e, b]; exact h2
    · have e' : ¬ q.1 = k := fun z => e (h1.trans z)
      have b : atKey (q :: qs) k = atKey qs k := by simp [atKey, List.find?_cons, e']
      rw [valV_neg e, b]; exact ih
theorem KT.repl {H : Hp} {kvs : List (List Key × V)} {xs : List (List Key × Addr × Value)} (r : KT H kvs xs) (k : List Key) {y : V} {u : Value} (ry : RelV y u) :
    KT H (kvs.map fun kv => if kv.1 = k then (kv.1, y) else kv) (xs.map (putAt k u)) := by
  induction r with
  | nil => exact .nil
  | @cons p q ps qs h t ih =>
    rw [List.map_cons, List.map_cons]
    refine .cons ?_ ih
    obtain ⟨h1, h2, h3⟩ := h
    unfold putAt
    by_cases e : p.1 = k
    · rw [if_pos e, if_pos (h1.symm.trans e)]; exact ⟨h1, h2, ry⟩
    · rw [if_neg e, if_neg (fun z => e (h1.trans z))]; exact ⟨h1, h2, h3⟩
theorem KT.put {H : Hp} {kvs : List (List Key × V)} {xs : List (List Key × Addr × Value)} (r : KT H kvs xs) (k : List Key) {b : Addr} {y : V} {u : Value} (hb : H b = some (.tup (k.map kV))) (ry : RelV y u) :
    KT H (putK kvs k y) (storedH xs k b u) := by
  have e : (kvs.any fun kv => decide (kv.1 = k)) = (atKey xs k).isSome := by
    rw [valV_any, (r.val k).isSome_eq, Option.isSome_map]
  unfold putK storedH
  rw [e]
  by_cases q : (atKey xs k).isSome = true
  · rw [if_pos q, if_pos q]; exact r.repl k ry
  · rw [if_neg q, if_neg q]; exact Paired.snoc r ⟨rfl, hb, ry⟩
theorem KT.keeps {H H' : Hp} {kvs : List (List Key × V)} {xs : List (List Key × Addr × Value)} (r : KT H kvs xs) (ht : ∀ b ys, H b = some (.tup ys) → H' b = some (.tup ys)) : KT H' kvs xs :=
  Paired.mapP r fun _ _ z => ⟨z.1, ht _ _ z.2.1, z.2.2⟩
section
variable {P : Program} {w : World} {H : Hp} {h : Heap} {a : Addr}
theorem rd_of {u : HO} (ok : HOk P w H h) (e : Rd H a u) : ObjOk P w H h a u := e.ok ok
theorem dk_rd {kvs : List (Key × V)} (ok : HOk P w H h) (e : Rd H a (.dK kvs)) : kvs.length ≤ sizeLine ∧ (a == sysModules) = false ∧ ∃ vs, KV kvs vs ∧ h.DictOf (mixKind P w) a vs :=
  show ObjOk P w H h a (.dK kvs) from rd_of ok e
theorem dk_of {kvs : List (Key × V)} (ok : HOk P w H h) (e : H a = some (.dK kvs)) : kvs.length ≤ sizeLine ∧ (a == sysModules) = false ∧ ∃ vs, KV kvs vs ∧ h.DictOf (mixKind P w) a vs := dk_rd ok (.inl e)
theorem key_of {ks : List Key} (ok : HOk P w H h) (e : H a = some (.tup (ks.map kV))) : (tupleKind (mixKind P w)).is h ks a := by
  obtain ⟨_, its, r, o, h1, h2, n, h3⟩ := (show ObjOk P w H h a (.tup (ks.map kV)) from ok a _ e)
  exact ⟨o, its.toArray, n, h1, h2, h3, by simpa using items_are r⟩
theorem dt_rd {kvs : List (List Key × V)} (ok : HOk P w H h) (e : Rd H a (.dT kvs)) : kvs.length ≤ sizeLine ∧ (a == sysModules) = false ∧
    ∃ xs, KT H kvs xs ∧ h.DictOfH (tupleKind (mixKind P w)) a xs := by
  obtain ⟨z, y, xs, r, o, es, ep, h1, h2, h3, h4, h5⟩ := (show ObjOk P w H h a (.dT kvs) from rd_of ok e)
  refine ⟨z, y, xs, r, o, es, ep, h1, h2, h3, h4, fun x hx => ?_, h5⟩
  have all : ∀ {l : List (List Key × V)} {m : List (List Key × Addr × Value)}, KT H l m → ∀ x ∈ m, (tupleKind (mixKind P w)).is h x.1 x.2.1 := by
    intro l m q
    induction q with
    | nil => intro x hx; exact nomatch hx
    | @cons p q ps qs hq t ih =>
      intro x hx
      rcases List.mem_cons.mp hx with e | hx
      · subst e
        exact key_of ok (by rw [← hq.1]; exact hq.2.1)
      · exact ih x hx
  exact all r x hx
theorem dt_of {kvs : List (List Key × V)} (ok : HOk P w H h) (e : H a = some (.dT kvs)) : kvs.length ≤ sizeLine ∧ (a == sysModules) = false ∧
    ∃ xs, KT H kvs xs ∧ h.DictOfH (tupleKind (mixKind P w)) a xs := dt_rd ok (.inl e)
end
noncomputable def DGet (H : Hp) (a : Addr) (y : V) (r : Option V) : Prop :=
  (∃ kvs k, Rd H a (.dK kvs) ∧ y = kV k ∧ r = valV kvs k) ∨ ∃ kvs k b, Rd H a (.dT kvs) ∧ y = .ref b ∧ H b = some (.tup (k.map kV)) ∧ r = valV kvs k
noncomputable def DPut (H : Hp) (a : Addr) (y v : V) (H' : Hp) : Prop :=
  (∃ kvs k, H a = some (.dK kvs) ∧ y = kV k ∧ kvs.length < sizeLine ∧ H' = upd H a (.dK (putK kvs k v))) ∨
  ∃ kvs k b, H a = some (.dT kvs) ∧ y = .ref b ∧ H b = some (.tup (k.map kV)) ∧ kvs.length < sizeLine ∧ H' = upd H a (.dT (putK kvs k v))
theorem DGet.k {H : Hp} {a : Addr} {kvs : List (Key × V)} {k : Key} (e : H a = some (.dK kvs)) : DGet H a (kV k) (valV kvs k) := .inl ⟨kvs, k, .inl e, rfl, rfl⟩
theorem DGet.t {H : Hp} {a b : Addr} {kvs : List (List Key × V)} {k : List Key} (e : H a = some (.dT kvs)) (eb : H b = some (.tup (k.map kV))) : DGet H a (.ref b) (valV kvs k) := .inr ⟨kvs, k, b, .inl e, rfl, eb, rfl⟩
theorem DPut.k {H : Hp} {a : Addr} {kvs : List (Key × V)} {k : Key} {v : V} (e : H a = some (.dK kvs)) (hl : kvs.length < sizeLine) : DPut H a (kV k) v (upd H a (.dK (putK kvs k v))) := .inl ⟨kvs, k, e, rfl, hl, rfl⟩
theorem DPut.t {H : Hp} {a b : Addr} {kvs : List (List Key × V)} {k : List Key} {v : V} (e : H a = some (.dT kvs)) (eb : H b = some (.tup (k.map kV))) (hl : kvs.length < sizeLine) :
    DPut H a (.ref b) v (upd H a (.dT (putK kvs k v))) := .inr ⟨kvs, k, b, e, rfl, eb, hl, rfl⟩
section
variable {X : Cx} {pins : List (Addr × Obj)} {σ : St} {H : Hp} {s : Shared} {a : Addr} {y v : V} {u r : Value} {o : Option V} {A : Around} {E : Value → Shared → Prop}
theorem Inv.big (I : Inv X pins σ H s) : sysModules < s.heap.objs.size := by
  have h : mainGlobals < s.heap.objs.size := (I.mod.glob.keeps I.bk).lt
  exact Nat.lt_trans (by decide) h
theorem d_getItem {Q : Value → Shared → Prop} (hu : A.units + 1 < cLine) (I : Inv X pins σ H s) (g : DGet H a y (some v)) (ry : RelV y u) (h : ∀ w' s', Inv X pins σ H s' → RelV v w' → Q w' s') :
    wpAny (model X.prog X.w) A (getItem (.ref a) u) Q E s := by
  rcases g with ⟨kvs, k, e, ey, l⟩ | ⟨kvs, k, b, e, ey, eb, l⟩
  · subst ey
    obtain ⟨z, hd, vs, rel, dd⟩ := dk_rd I.hok e
    obtain ⟨w', hw, rw'⟩ := RelO.some_of (v := v) (o := valueAt vs k) (by rw [l]; exact rel.val k)
    exact wpAny_getItem_of (kV_is ry) dd.mapOf hw (h w' _ (I.tok _) rw')
  · subst ey
    cases (show u = Value.ref b from ry)
    obtain ⟨z, hd, xs, rel, dd⟩ := dt_rd I.hok e
    obtain ⟨w', hw, rw'⟩ := RelO.some_of (v := v) (o := (atKey xs k).map (·.2)) (by rw [l]; exact rel.val k)
    obtain ⟨p, hp, hp2⟩ := Option.map_eq_some_iff.mp hw
    refine wpAny_getItem_heap (tupleKind_room_in1 hu) (key_of I.hok eb) dd hp ?_
    rw [hp2]
    exact h w' _ (I.tok _) rw'
theorem d_in {Q : Value → Shared → Prop} (hu : A.units + 1 < cLine) (I : Inv X pins σ H s) (g : DGet H a y o) (ry : RelV y u) (h : ∀ s', Inv X pins σ H s' → Q (.bool o.isSome) s') :
    wpAny (model X.prog X.w) A (compareOp .In u (.ref a)) Q E s := by
  rcases g with ⟨kvs, k, e, ey, l⟩ | ⟨kvs, k, b, e, ey, eb, l⟩
  · subst ey
    obtain ⟨z, hd, vs, rel, dd⟩ := dk_rd I.hok e
    refine wpAny_in_of (kV_is ry) hd dd.mapOf ?_
    rw [← (rel.val k).isSome_eq, ← l]
    exact h _ (I.tok _)
  · subst ey
    cases (show u = Value.ref b from ry)
    obtain ⟨z, hd, xs, rel, dd⟩ := dt_rd I.hok e
    refine wpAny_in_heap (tupleKind_room_in1 hu) (key_of I.hok eb) hd dd ?_
    have q := (rel.val k).isSome_eq
    rw [Option.isSome_map] at q
    rw [← q, ← l]
    exact h _ (I.tok _)
theorem d_notIn {Q : Value → Shared → Prop} (hu : A.units + 1 < cLine) (I : Inv X pins σ H s) (g : DGet H a y o) (ry : RelV y u) (h : ∀ s', Inv X pins σ H s' → Q (.bool (!o.isSome)) s') :
    wpAny (model X.prog X.w) A (compareOp .NotIn u (.ref a)) Q E s := by
  rcases g with ⟨kvs, k, e, ey, l⟩ | ⟨kvs, k, b, e, ey, eb, l⟩
  · subst ey
    obtain ⟨z, hd, vs, rel, dd⟩ := dk_rd I.hok e
    refine wpAny_notIn_of (kV_is ry) hd dd.mapOf ?_
    rw [← (rel.val k).isSome_eq, ← l]
    exact h _ (I.tok _)
  · subst ey
    cases (show u = Value.ref b from ry)
    obtain ⟨z, hd, xs, rel, dd⟩ := dt_rd I.hok e
    refine wpAny_notIn_heap (tupleKind_room_in1 hu) (key_of I.hok eb) hd dd ?_
    have q := (rel.val k).isSome_eq
    rw [Option.isSome_map] at q
    rw [← q, ← l]
    exact h _ (I.tok _)
theorem d_write {h' : Heap} {t' : Nat} {ob : HO} (I : Inv X pins σ H s) (mu : Mut (H a)) (hs : Heap.SameBut a s.heap h') (he : ∃ q, h'.get? a = some q) (new : ObjOk X.prog X.w (upd H a ob) h' a ob) :
    Inv X pins σ (upd H a ob) { s with heap := h', toks := t' } :=
  I.write (x := a) (e := a) mu (.inl rfl) (fun b q hb z => (hs.2 b hb).trans z) he new
theorem dk_new {P : Program} {w : World} {H' : Hp} {h' : Heap} {kvs : List (Key × V)} {vs : List (Key × Value)} (z : kvs.length ≤ sizeLine) (hd : (a == sysModules) = false) (rel : KV kvs vs) (dd : h'.DictOf (mixKind P w) a vs) :
    ObjOk P w H' h' a (.dK kvs) := ⟨z, hd, vs, rel, dd⟩
theorem d_setItem {H' : Hp} {Q : Unit → Shared → Prop} (hu : A.units + 1 < cLine) (I : Inv X pins σ H s) (g : DPut H a y v H') (ry : RelV y u) (rv : RelV v r) (h : ∀ s', Inv X pins σ H' s' → Q () s') :
    wpAny (model X.prog X.w) A (setItem (.ref a) u r) Q E s := by
  rcases g with ⟨kvs, k, e, ey, l, eH⟩ | ⟨kvs, k, b, e, ey, eb, l, eH⟩
  · subst ey eH
    obtain ⟨z, hd, vs, rel, dd⟩ := dk_of I.hok e
    have hz : vs.length ≤ sizeLine := by rw [← rel.length]; exact z
    have hl : (putK kvs k v).length ≤ sizeLine := by have := length_putK kvs k v; lia
    refine wpAny_setItem_pairs (hsz := hz) (kV_is ry) dd fun h' dd' hs => h _ ?_
    have he : ∃ q, h'.get? a = some q := let ⟨q, _, _, hq, _⟩ := dd'; ⟨q, hq⟩
    exact d_write I (by rw [e]; exact True.intro) hs he (dk_new hl hd (rel.put k rv) dd')
  · subst ey eH
    cases (show u = Value.ref b from ry)
    obtain ⟨z, hd, xs, rel, dd⟩ := dt_of I.hok e
    have hz : xs.length ≤ sizeLine := by rw [← Paired.length rel]; exact z
    have hl : (putK kvs k v).length ≤ sizeLine := by have := length_putK kvs k v; lia
    refine wpAny_setItem_heap (hsz := hz) (tupleKind_room_in1 hu) (key_of I.hok eb) dd fun h' dd' hs => h _ ?_
    obtain ⟨q, es, ep, hq, h2, h3, h4, _, h5⟩ := dd'
    refine d_write I (by rw [e]; exact True.intro) hs ⟨q, hq⟩ ⟨hl, hd, _, (rel.put k eb rv).keeps fun c ys ec => ?_, q, es, ep, hq, h2, h3, h4, h5⟩
    rw [zE (ne_of ec e (fun z => nomatch z))]
    exact ec
end
noncomputable def NoSl (i : Expr) : Prop := ∀ ov iv, subscripted i false ov iv = operate [ov, iv] (getItem ov iv)
theorem subD_of {prog : Program} {w : World} {A : Around} {E : Value → Shared → Prop} {s : Shared} {env : Env} {value slice : Expr} {pos : Pos} {T id : String} {Q : Value → Shared → Prop}
    (hl : typeLookup (.type T) "__getitem__" = pure (some (.builtin id))) (hs : NoSl slice)
    (h : wpAny (model prog w) A (eval value env) (fun o s₁ => wpAny (model prog w) A (eval slice env) (fun i s₂ => s₂.TypeIs o T ∧ wpAny (model prog w) A (getItem o i) Q E s₂) E s₁) E s) :
    wpAny (model prog w) A (eval (.Subscript value slice pos) env) Q E s := by
  refine Subscript_ (wpAny_mono h (fun o s₁ h₁ => wpAny_mono h₁ (fun i s₂ h₂ => ?_) fun _ _ x => x) fun _ _ x => x)
  obtain ⟨hT, h₂⟩ := h₂
  unfold subscriptTail
  refine wpAny_bind ?_
  rw [getitemInPython_of_ne hT.not_modules]
  refine wpAny_bind (wpAny_specialOf hT hl ?_)
  have fin : wpAny (model prog w) A (subscripted slice false o i) (fun r s₃ => wpAny (model prog w) A (letTemporaryGo value o r >>= fun _ => pure r) Q E s₃) E s₂ := by
    rw [hs o i]
    exact wpAny_operating (wpAny_mono h₂ (fun r s₃ h₃ => wpAny_bind (wpAny_letTemporaryGo (wpAny_pure h₃))) fun _ _ x => x)
  first
    | exact wpAny_pure (wpAny_bind fin)
    | exact wpAny_bind (wpAny_pure (wpAny_bind fin))
    | exact wpAny_bind fin
theorem dict_typeIs {X : Cx} {pins : List (Addr × Obj)} {σ : St} {H : Hp} {s : Shared} {a : Addr} {y : V} {o : Option V} (I : Inv X pins σ H s) (g : DGet H a y o) : s.TypeIs (.ref a) "dict" := by
  rcases g with ⟨kvs, k, e, _, _⟩ | ⟨kvs, k, b, e, _, _, _⟩
  · obtain ⟨_, _, vs, _, dd⟩ := dk_rd I.hok e
    exact dd.typeIs
  · obtain ⟨_, _, xs, _, dd⟩ := dt_rd I.hok e
    exact dd.typeIs
inductive IDGet (Q : VK) (x y : V) (H : Hp) : Prop
  | mk (a : Addr) (v : V) (_1 : x = .ref a) (_2 : DGet H a y (some v)) (_3 : Q v H) : IDGet Q x y H
noncomputable def tDGet (td ty : TE) : TE := fun σ H Q => td σ H fun x H1 => ty σ H1 fun y H2 => IDGet Q x y H2
inductive IDIn (Q : Bool → Prop) (x y : V) (H : Hp) : Prop
  | mk (a : Addr) (o : Option V) (_1 : x = .ref a) (_2 : DGet H a y o) (_3 : Q o.isSome) : IDIn Q x y H
noncomputable def tDIn (ty td : TE) : TE := fun σ H Q => ty σ H fun y H1 => td σ H1 fun x H2 => IDIn (fun b => Q (.bl b) H2) x y H2
noncomputable def tDNotIn (ty td : TE) : TE := fun σ H Q => ty σ H fun y H1 => td σ H1 fun x H2 => IDIn (fun b => Q (.bl (!b)) H2) x y H2
noncomputable def sDPut (td ty tv : TE) : TS := fun D σ H => tv σ H fun v H1 => td σ H1 fun x H2 => ty σ H2 fun y H3 => ∃ a H4, x = .ref a ∧ DPut H3 a y v H4 ∧ D.nx σ H4
section
variable {X : Cx} {o i e value : Expr} {pos pos' tpos : Pos} {td ty tv : TE}
theorem pe_dget (hu : X.A.units + 1 < cLine) (ho : PE X o td) (hi : PE X i ty) (hs : NoSl i) : PE X (.Subscript o i pos) (tDGet td ty) := by
  intro pins s σ H Q I h
  refine subD_of PySem.F.slot_dict_getitem.lookup hs (thn5 (ho pins s σ H _ I h) fun u s1 x H1 I1 rx q1 => thn5 (hi pins s1 σ H1 _ I1 q1) fun iv s2 y H2 I2 ry hq_ => ?_)
  obtain ⟨a, v, ex, g, q2⟩ := hq_
  subst ex
  obtain rfl : u = Value.ref a := rx
  exact ⟨dict_typeIs I2 g, d_getItem hu I2 g ry fun w' s3 I3 rw' => ⟨v, H2, I3, rw', q2⟩⟩
theorem pc_din (hu : X.A.units + 1 < cLine) (hi : PE X i ty) (ho : PE X o td) : PC X .In i o (tDIn ty td) := by
  intro pins s σ H Q I h
  refine thn5 (hi pins s σ H _ I h) fun iv s1 y H1 I1 ry q1 => thn5 (ho pins s1 σ H1 _ I1 q1) fun u s2 x H2 I2 rx hq_ => ?_
  obtain ⟨a, ov, ex, g, q2⟩ := hq_
  subst ex
  obtain rfl : u = Value.ref a := rx
  exact d_in hu I2 g ry fun s3 I3 => ⟨.bl ov.isSome, H2, I3, rfl, q2⟩
theorem pc_dnotin (hu : X.A.units + 1 < cLine) (hi : PE X i ty) (ho : PE X o td) : PC X .NotIn i o (tDNotIn ty td) := by
  intro pins s σ H Q I h
  refine thn5 (hi pins s σ H _ I h) fun iv s1 y H1 I1 ry q1 => thn5 (ho pins s1 σ H1 _ I1 q1) fun u s2 x H2 I2 rx hq_ => ?_
  obtain ⟨a, ov, ex, g, q2⟩ := hq_
  subst ex
  obtain rfl : u = Value.ref a := rx
  exact d_notIn hu I2 g ry fun s3 I3 => ⟨.bl (!ov.isSome), H2, I3, rfl, q2⟩
theorem ps_dput (hu : X.A.units + 1 < cLine) (ho : PE X o td) (hi : PE X i ty) (hv : PE X value tv) (hs : swapsWith value (some (.Subscript o i pos')) pos.line X.env = pure false) :
    PS X (.Assign [.Subscript o i pos'] value pos) (sDPut td ty tv) := by
  intro pins s σ H D I h
  refine wpAny_Assign_Subscript (thn5 (hv pins s σ H _ I h) fun r s1 v H1 I1 rv q1 => thn5 (ho pins s1 σ H1 _ I1 q1) fun u s2 x H2 I2 rx q2 => thn5 (hi pins s2 σ H2 _ I2 q2) fun iv s3 y H3 I3 ry hq_ => ?_) hs
  obtain ⟨a, H4, ex, g, q3⟩ := hq_
  subst ex
  obtain rfl : u = Value.ref a := rx
  exact d_setItem hu I3 g ry rv fun s4 I4 => ⟨σ, H4, I4, q3⟩
end
theorem dk_empty {P : Program} {w : World} {H : Hp} (h : Heap) (hb : sysModules < h.objs.size) : ObjOk P w H (h.push { cls := .type "dict", data := .dict #[] }) h.objs.size (.dK []) :=
  ⟨Nat.zero_le _, beq_eq_false_iff_ne.mpr (Ne.symm (Nat.ne_of_lt hb)), [], .nil, Heap.DictOf.new h⟩
theorem dt_empty {P : Program} {w : World} {H : Hp} (h : Heap) (hb : sysModules < h.objs.size) : ObjOk P w H (h.push { cls := .type "dict", data := .dict #[] }) h.objs.size (.dT []) :=
  ⟨Nat.zero_le _, beq_eq_false_iff_ne.mpr (Ne.symm (Nat.ne_of_lt hb)), [], .nil, _, #[], 0, Heap.get?_push_size _ rfl, ⟨rfl, rfl, rfl⟩, rfl, rfl, List.nodup_nil⟩
noncomputable def tDNewK : TE := fun _ H Q => ∀ p, H p = none → Q (.ref p) (upd H p (.dK []))
noncomputable def tDNewT : TE := fun _ H Q => ∀ p, H p = none → Q (.ref p) (upd H p (.dT []))
section
variable {X : Cx} {pos : Pos}
theorem pe_dnewK : PE X (.Dict [] [] pos) tDNewK := fun pins s σ H Q I h =>
  wpAny_Dict_empty ⟨.ref s.heap.objs.size, _, I.laid (a := s.heap.objs.size) (o := .dK []) (t' := s.toks) (fun _ _ q => Heap.get?_push_of_some _ q) (Nat.le_refl _) (dk_empty s.heap I.big), rfl, h _ (I.hok.fresh (Nat.le_refl _))⟩
theorem pe_dnewT : PE X (.Dict [] [] pos) tDNewT := fun pins s σ H Q I h =>
  wpAny_Dict_empty ⟨.ref s.heap.objs.size, _, I.laid (a := s.heap.objs.size) (o := .dT []) (t' := s.toks) (fun _ _ q => Heap.get?_push_of_some _ q) (Nat.le_refl _) (dt_empty s.heap I.big), rfl, h _ (I.hok.fresh (Nat.le_refl _))⟩
end
noncomputable def tPairs : List (TE × TE) → St → Hp → (List (V × V) → Hp → Prop) → Prop
  | [], _, H, Q => Q [] H
  | (tk, tv) :: r, σ, H, Q => tk σ H fun x H1 => tv σ H1 fun y H2 => tPairs r σ H2 fun ps H3 => Q ((x, y) :: ps) H3
noncomputable abbrev VV : List (V × V) → List (Value × Value) → Prop := Paired fun p q => RelV p.1 q.1 ∧ RelV p.2 q.2
noncomputable def PPs (X : Cx) (pos : Pos) (keys : List (Option Expr)) (values : List Expr) (trs : List (TE × TE)) : Prop :=
  ∀ (pins : List (Addr × Obj)) (s : Shared) (σ : St) (H : Hp) (Q : List (V × V) → Hp → Prop), Inv X pins σ H s → tPairs trs σ H Q →
    wpAny (model X.prog X.w) X.A (evalPairs (pairTrees keys values X.env pos)) (fun vs s' => ∃ ps H', Inv X pins σ H' s' ∧ VV ps vs ∧ Q ps H') X.xe s
theorem pps_nil {X : Cx} {pos : Pos} : PPs X pos [] [] [] := fun pins s σ H Q I h => pairTrees_nil_walk ⟨[], H, I, .nil, h⟩
theorem pps_cons {X : Cx} {pos : Pos} {k v : Expr} {ks : List (Option Expr)} {vs : List Expr} {tk tv : TE} {trs : List (TE × TE)} (hk : PE X k tk) (hv : PE X v tv) (hr : PPs X pos ks vs trs) :
    PPs X pos (some k :: ks) (v :: vs) ((tk, tv) :: trs) := fun pins s σ H Q I h =>
  pairTrees_cons_walk (thn5 (hk pins s σ H _ I h) fun u s1 x H1 I1 rx q1 => thn5 (hv pins s1 σ H1 _ I1 q1) fun w2 s2 y H2 I2 ry q2 =>
    thn5 (hr pins s2 σ H2 _ I2 q2) fun ws s3 ps H3 I3 rel q3 => ⟨(x, y) :: ps, H3, I3, .cons ⟨rx, ry⟩ rel, q3⟩)
noncomputable def mergeK (kvs more : List (Key × V)) : List (Key × V) := more.foldl (fun acc kv => putK acc kv.1 kv.2) kvs
theorem KV.merge : ∀ {more : List (Key × V)} {rs : List (Key × Value)} {kvs : List (Key × V)} {vs : List (Key × Value)}, KV more rs → KV kvs vs → KV (mergeK kvs more) (merged vs rs) := by
  intro more rs kvs vs r
  unfold KV at r
  induction r generalizing kvs vs with
  | nil => intro q; exact q
  | @cons p q ps qs h t ih =>
    intro r0
    have e : KV (putK kvs p.1 p.2) (stored vs q.1 q.2) := by
      have := r0.put p.1 h.2
      rw [← h.1]; exact this
    exact ih e
theorem length_mergeK : ∀ (more kvs : List (Key × V)), (mergeK kvs more).length ≤ kvs.length + more.length
  | [], kvs => by show kvs.length ≤ kvs.length + 0; lia
  | p :: r, kvs => by
    have h1 := length_mergeK r (putK kvs p.1 p.2)
    have h2 := length_putK kvs p.1 p.2
    show (mergeK (putK kvs p.1 p.2) r).length ≤ _
    rw [List.length_cons]; lia
theorem carries_of {P : Program} {w : World} : ∀ {kvs : List (Key × V)} {ws : List (Value × Value)}, VV (kvs.map fun kv => (kV kv.1, kv.2)) ws → ∃ rs, Carries (mixKind P w) ws rs ∧ KV kvs rs
  | [], _, r => by rw [List.map_nil] at r; cases r; exact ⟨[], True.intro, .nil⟩
  | p :: kvs, _, r => by
    rw [List.map_cons] at r
    cases r with
    | @cons a b as bs h t =>
      obtain ⟨rs, c, q⟩ := carries_of (P := P) (w := w) t
      obtain ⟨b1, b2⟩ := b
      exact ⟨(p.1, b2) :: rs, ⟨kV_is h.1, rfl, c⟩, .cons ⟨rfl, h.2⟩ q⟩
noncomputable def tDisp (trs : List (TE × TE)) : TE := fun σ H Q => ∀ p, H p = none → tPairs trs σ (upd H p (.dK [])) fun ps H2 => H2 p = some (.dK []) ∧ ∃ kvs : List (Key × V), ps = kvs.map (fun kv => (kV kv.1, kv.2)) ∧ kvs.length ≤ 15 ∧ Q (.ref p) (upd H2 p (.dK (mergeK [] kvs)))
theorem pe_disp {X : Cx} {pos : Pos} {keys : List (Option Expr)} {values : List Expr} {trs : List (TE × TE)} (h : PPs X pos keys values trs) (hall : keys.all (·.isSome) = true) (hl : keys.length = values.length) (h0 : keys ≠ [])
    (h15 : keys.length ≤ 15) : PE X (.Dict keys values pos) (tDisp trs) := by
  intro pins s σ H Q I q
  have hn := I.hok.fresh (Nat.le_refl s.heap.objs.size)
  have I1 := I.laid (a := s.heap.objs.size) (o := .dK []) (h' := s.heap.push { cls := .type "dict", data := .dict #[] }) (t' := s.toks) (fun _ _ q => Heap.get?_push_of_some _ q) (Nat.le_refl _) (dk_empty s.heap I.big)
  refine wpAny_Dict_walk (knd := mixKind X.prog X.w) hall hl h0 h15 (thn5 (h pins _ σ _ _ I1 (q _ hn)) fun ws s2 ps H2 I2 rel hq_ => ?_)
  obtain ⟨e, kvs, ep, lk, q2⟩ := hq_
  subst ep
  obtain ⟨rs, c, rk⟩ := carries_of (P := X.prog) (w := X.w) rel
  obtain ⟨z, hd, vs0, r0, dd⟩ := dk_of I2.hok e
  cases r0
  refine ⟨rs, c, dd, fun h' dd' hs => ⟨.ref s.heap.objs.size, _, ?_, rfl, q2⟩⟩
  have hz : (mergeK [] kvs).length ≤ sizeLine := by
    have h1 := length_mergeK kvs []
    rw [List.length_nil] at h1
    rw [sizeLine_eq]; lia
  have he : ∃ q, h'.get? s.heap.objs.size = some q := let ⟨q, _, _, hq, _⟩ := dd'; ⟨q, hq⟩
  exact d_write I2 (by rw [e]; exact True.intro) hs he (dk_new hz hd (rk.merge .nil) dd')
structure M1 (X : Cx) (o : Expr) (m : Str) (apos : Pos) (e : Expr) (cpos : Pos) : Prop where
  base : attributeBase o m X.env (eval o X.env) = eval o X.env
  few : ((backTo cpos (starEach [e] X.env)).all (fun x => !x.1) && (backToKw cpos (keywordEach [] X.env)).all (fun x => x.1.isSome)
    && decide (([e] : List Expr).length + ([] : List Keyword).length + (if ([] : List Keyword).isEmpty then 0 else 1) < 30)) = true
  line : (apos.endLine == cpos.line) = true
  trees : backTo cpos (starEach [e] X.env) = [(false, eval e X.env)]
structure M2 (X : Cx) (o : Expr) (m : Str) (apos : Pos) (e f : Expr) (cpos : Pos) : Prop where
  base : attributeBase o m X.env (eval o X.env) = eval o X.env
  few : ((backTo cpos (starEach [e, f] X.env)).all (fun x => !x.1) && (backToKw cpos (keywordEach [] X.env)).all (fun x => x.1.isSome)
    && decide (([e, f] : List Expr).length + ([] : List Keyword).length + (if ([] : List Keyword).isEmpty then 0 else 1) < 30)) = true
  line : (apos.endLine == cpos.line) = true
  trees : backTo cpos (starEach [e, f] X.env) = [(false, eval e X.env), (false, eval f X.env)]
noncomputable def IsD (H : Hp) (a : Addr) : Prop := (∃ kvs, Rd H a (.dK kvs)) ∨ ∃ kvs, Rd H a (.dT kvs)
theorem isD_at {X : Cx} {pins : List (Addr × Obj)} {σ : St} {H : Hp} {s : Shared} {a : Addr} (I : Inv X pins σ H s) (d : IsD H a) :
    s.TypeIs (.ref a) "dict" ∧ (∀ b, Value.ref a = .ref b → ∃ ob, s.heap.get? b = some ob ∧ ob.dict = none) ∧ (a == sysModules) = false := by
  rcases d with ⟨kvs, e⟩ | ⟨kvs, e⟩
  · obtain ⟨_, hd, vs, _, dd⟩ := dk_rd I.hok e
    refine ⟨dd.typeIs, fun b q => ?_, hd⟩
    cases q
    obtain ⟨ob, _, _, h1, h2, _⟩ := dd
    exact ⟨ob, h1, h2.2.1⟩
  · obtain ⟨_, hd, xs, _, dd⟩ := dt_rd I.hok e
    refine ⟨dd.typeIs, fun b q => ?_, hd⟩
    cases q
    obtain ⟨ob, _, _, h1, h2, _⟩ := dd
    exact ⟨ob, h1, h2.2.1⟩
section
variable {X : Cx} {pins : List (Addr × Obj)} {σ : St} {H : Hp} {s : Shared} {a : Addr} {y d : V} {u r : Value} {o : Option V} {A : Around} {E : Value → Shared → Prop}
theorem d_get2 {Q : Value → Shared → Prop} (hu : A.units + 1 < cLine) (I : Inv X pins σ H s) (g : DGet H a y o) (ry : RelV y u) (rd : RelV d r) (h : ∀ w' s', Inv X pins σ H s' → RelV (o.getD d) w' → Q w' s') :
    wpAny (model X.prog X.w) A (call (.builtin "dict.get") [.ref a, u, r]) Q E s := by
  rcases g with ⟨kvs, k, e, ey, l⟩ | ⟨kvs, k, b, e, ey, eb, l⟩
  · subst ey
    obtain ⟨z, hd, vs, rel, dd⟩ := dk_rd I.hok e
    refine call_meetsIn PySem.F.slot_dict_get dd.typeIs PySem.F.entry_dict_get (PySem.F.args_dict_get_3 _ _ _) (meets_dict_get_default (mixKind X.prog X.w) a (kV_is ry) hd r) ⟨_, dd.mapOf, h _ _ (I.tok _) ?_⟩
    rw [l]
    exact (rel.val k).getD rd
  · subst ey
    cases (show u = Value.ref b from ry)
    obtain ⟨z, hd, xs, rel, dd⟩ := dt_rd I.hok e
    refine call_meetsIn PySem.F.slot_dict_get dd.typeIs PySem.F.entry_dict_get (PySem.F.args_dict_get_3 _ _ _) (meetsH_dict_get_default (tupleKind (mixKind X.prog X.w)) a b hd r) ⟨tupleKind_room_in1 hu, k, xs, key_of I.hok eb, dd, h _ _ (I.tok _) ?_⟩
    rw [l]
    exact (rel.val k).getD rd
end
noncomputable def tDGet2 (td ty tx : TE) : TE := fun σ H Q => td σ H fun x H1 => ∃ a, x = .ref a ∧ IsD H1 a ∧ ty σ H1 fun y H2 => tx σ H2 fun z H3 => ∃ o, DGet H3 a y o ∧ Q (o.getD z) H3
section
variable {X : Cx} {o e f : Expr} {apos cpos : Pos} {td ty tx : TE}
theorem pe_dget2 (hu : X.A.units + 1 < cLine) (ho : PE X o td) (he : PE X e ty) (hf : PE X f tx) (m : M2 X o "get" apos e f cpos) : PE X (.Call (.Attribute o "get" apos) [e, f] [] cpos) (tDGet2 td ty tx) := by
  intro pins s σ H Q I h
  refine wpAny_Call_method m.base m.few m.line PySem.F.plainAttrs_dict PySem.F.slot_dict_get PySem.F.type_dict_get (thn5 (ho pins s σ H _ I h) fun u s1 x H1 I1 rx hq_ => ?_)
  obtain ⟨a, ex, d, q1⟩ := hq_
  subst ex
  obtain rfl : u = Value.ref a := rx
  obtain ⟨t1, t2, _⟩ := isD_at I1 d
  refine ⟨t1, t2, ?_⟩
  rw [m.trees]
  refine Calls.callWith_builtin rfl (Calls.evalArgs_plain (Calls.spliced_cons (thn5 (he pins s1 σ H1 _ I1 q1) fun iv s2 y H2 I2 ry q2 =>
    Calls.spliced_cons (thn (hf pins s2 σ H2 _ I2 q2) fun fv s3 ⟨z, H3, I3, rz, ov, g, q3⟩ => Calls.spliced_nil ?_))))
  exact d_get2 hu I3 g ry rz fun w' s4 I4 rw' => ⟨_, H3, I4, rw', q3⟩
end
end L2
namespace L2
open PySem PySem.Spec PyProof.Rows
end L2
namespace L2
open PySem PySem.Spec PyProof.Rows
section
variable {X : Cx} {pins : List (Addr × Obj)} {σ : St} {H : Hp} {s : Shared} {h' : Heap}
theorem Inv.turnedL {t' : Nat} {ch : List Addr} (I : Inv X pins σ H s) (k : ∀ b o, b ∉ ch → s.heap.get? b = some o → h'.get? b = some o) (hf : ∀ b ∈ ch, FpOk X pins H b) : Inv X pins σ H { s with heap := h', toks := t' } := by
  have nit : ∀ b u, H b = some u → b ∉ ch := fun b u e z => by
    have q := (hf b z).1
    rw [q] at e; cases e
  refine I.step (g' := s.gens) (d' := s.drawn) (ch := ch) (fun b hb => ⟨(hf b hb).2.2.2.1, (hf b hb).2.1, (hf b hb).2.2.2.2.1, (hf b hb).2.2.2.2.2⟩) (fun b o _ _ hc e _ => k b o hc e) (fun b o _ _ hc e _ => ⟨o.slots, k b o hc e⟩)
    (fun _ _ _ _ n => n) (fun b o hc e => ⟨o, k b o hc e⟩) (fun _ _ e => e) (fun _ _ _ e => e) (fun b ps e => ⟨#[], by rw [e]; simp⟩) (fun m hm => ?_) (fun b u e => ?_) I.bare
  · obtain ⟨o, es, ep, ho, r⟩ := hm
    exact ⟨o, es, ep, k _ o (fun z => (hf _ z).2.1 rfl) ho, r⟩
  · refine (I.hok b u e).stay (fun c v hc q => k c v ?_ q) (fun _ q => q) fun _ _ q => q
    rcases hc with z | z
    · rw [z]; exact nit b u e
    · exact nit c _ z
theorem Inv.turnedNew {t' : Nat} {ch : List Addr} {T : Addr} {ob : HO} (I : Inv X pins σ H s) (k : ∀ b o, b ∉ ch → s.heap.get? b = some o → h'.get? b = some o) (hf : ∀ b ∈ ch, FpOk X pins H b) (hT : s.heap.objs.size ≤ T)
    (new : ObjOk X.prog X.w (upd H T ob) h' T ob) : Inv X pins σ (upd H T ob) { s with heap := h', toks := t' } := by
  have hn : H T = none := I.hok.fresh hT
  have nit : ∀ b u, H b = some u → b ∉ ch := fun b u e z => by
    have q := (hf b z).1
    rw [q] at e; cases e
  refine I.step (g' := s.gens) (d' := s.drawn) (ch := ch) (fun b hb => ⟨(hf b hb).2.2.2.1, (hf b hb).2.1, (hf b hb).2.2.2.2.1, (hf b hb).2.2.2.2.2⟩) (fun b o _ _ hc e _ => k b o hc e) (fun b o _ _ hc e _ => ⟨o.slots, k b o hc e⟩)
    (fun b o _ e n => ?_) (fun b o hc e => ⟨o, k b o hc e⟩) (fun b xs e => ?_) (fun b o u e => ?_) (fun b ps e => ⟨#[], ?_⟩) (fun m hm => ?_) (fun b u e => ?_) I.bare
  · rw [zE (Nat.ne_of_lt (Nat.lt_of_lt_of_le (Heap.lt_size e) hT))]; exact n
  · rw [zE (zG e hn)]; exact e
  · rw [zE (zG e hn)]; exact e
  · rw [zE (zG e hn), e]; simp
  · obtain ⟨o, es, ep, ho, r⟩ := hm
    exact ⟨o, es, ep, k _ o (fun z => (hf _ z).2.1 rfl) ho, r⟩
  · by_cases hb : b = T
    · subst hb
      rw [zB] at e
      cases e
      exact new
    · rw [zE hb] at e
      refine (I.hok b u e).stay (fun c v hc q => k c v ?_ q) (fun c q => by rw [zE (zG q hn)]; exact q) fun c xs q => by rw [zE (zG q hn)]; exact q
      rcases hc with z | z
      · rw [z]; exact nit b u e
      · exact nit c _ z
theorem Inv.lock {d : Addr} {u : HO} (I : Inv X pins σ H s) (h : H d = some u) (mu : Mut (some u)) : ∃ od, Inv X pins σ (upd H d (.frz od u)) s := by
  have x := I.hok d u h
  have ex : ∃ od, s.heap.get? d = some od := by
    cases u with
    | lst xs => obtain ⟨_, _, _, _, e⟩ := x; exact ⟨_, e⟩
    | dK kvs => obtain ⟨_, _, _, _, o, _, _, e, _⟩ := x; exact ⟨o, e⟩
    | dT kvs => obtain ⟨_, _, _, _, o, _, _, e, _⟩ := x; exact ⟨o, e⟩
    | set S n => obtain ⟨o, _, _, _, e, _⟩ := x; exact ⟨o, e⟩
    | ins C dx fs => obtain ⟨_, _, _, e, _⟩ := x; exact ⟨_, e⟩
    | ext φ => obtain ⟨_, ⟨_, e⟩, _⟩ := x; exact ⟨_, e⟩
    | _ => exact False.elim mu
  obtain ⟨od, e⟩ := ex
  have new : ObjOk X.prog X.w (upd H d (.frz od u)) s.heap d (.frz od u) := by
    refine ⟨e, x.stay (fun b v _ q => q) (fun b q => ?_) fun b xs q => ?_⟩
    · rw [zE (fun z => by rw [z, h] at q; cases q; exact mu)]; exact q
    · rw [zE (fun z => by rw [z, h] at q; cases q; exact mu)]; exact q
  exact ⟨od, I.write (x := d) (e := d) (t' := s.toks) (h' := s.heap) (by rw [h]; exact mu) (.inl rfl) (fun b v _ q => q) ⟨od, e⟩ new⟩
theorem Inv.nofrz {d : Addr} {u : HO} (I : Inv X pins σ H s) (h : H d = some u) (mu : Mut (some u)) : ∀ o' u', X.H_0 d ≠ some (.frz o' u') := fun o' u' e => by
  have q := I.base.frzs d o' u' e
  rw [h] at q
  cases q
  exact mu
theorem Inv.unlock {d : Addr} {od : Obj} {u : HO} (I : Inv X pins σ H s) (h : H d = some (.frz od u)) (hn : ∀ o' u', X.H_0 d ≠ some (.frz o' u')) : Inv X pins σ (upd H d u) s := by
  have neH : ∀ b o, H b = some o → (∀ o' u', o ≠ .frz o' u') → b ≠ d := fun b o e hne z => by
    rw [z, h] at e
    cases e
    exact hne _ _ rfl
  have neN : ∀ b, H b = none → b ≠ d := fun b e z => by rw [z, h] at e; cases e
  refine ⟨I.ok, I.os, I.bare, ⟨I.base.keep, I.base.slot, fun b o e n hx => ?_, I.base.there, fun b xs e => ?_, fun b o x e => ?_, fun b ps e => ?_⟩, I.loc, I.cell, ?_, fun x c e => ?_, fun p hp => ?_, fun b o e => ?_, I.len⟩
  · rw [zE (neN b (I.base.free b o e n hx))]; exact I.base.free b o e n hx
  · have q := I.base.tups b xs e
    rw [zE (neH b _ q (fun _ _ z => nomatch z))]; exact q
  · have q := I.base.frzs b o x e
    rw [zE (fun z => by rw [z] at e; exact hn _ _ e)]; exact q
  · obtain ⟨m, q⟩ := I.base.tbls b ps e
    exact ⟨m, by rw [zE (neH b _ q (fun _ _ z => nomatch z))]; exact q⟩
  · rw [zE (neN _ I.free)]; exact I.free
  · rw [zE (neN c (I.freeC x c e))]; exact I.freeC x c e
  · obtain ⟨e, n, r⟩ := I.pin p hp
    exact ⟨e, by rw [zE (neN _ n)]; exact n, r⟩
  · by_cases hb : b = d
    · rw [hb, zB] at e
      cases e
      rw [hb]
      obtain ⟨_, x⟩ := I.hok d _ h
      exact x.stay (fun c v _ q => q) (fun c q => by rw [zE (neH c _ q (fun _ _ z => nomatch z))]; exact q) fun c xs q => by rw [zE (neH c _ q (fun _ _ z => nomatch z))]; exact q
    · rw [zE hb] at e
      exact (I.hok b o e).stay (fun c v _ q => q) (fun c q => by rw [zE (neH c _ q (fun _ _ z => nomatch z))]; exact q) fun c xs q => by rw [zE (neH c _ q (fun _ _ z => nomatch z))]; exact q
end
noncomputable def tLock (t : TS) : TS := fun D σ H => ∃ d u, H d = some u ∧ Mut (some u) ∧ ∀ od, t ⟨fun σ' H' => H' d = some (.frz od u) ∧ D.nx σ' (upd H' d u), fun v H' => H' d = some (.frz od u) ∧ D.rt v (upd H' d u), fun σ' H' => H' d = some (.frz od u) ∧ D.bk σ' (upd H' d u), fun σ' H' => H' d = some (.frz od u) ∧ D.ct σ' (upd H' d u)⟩ σ (upd H d (.frz od u))
noncomputable def tLockE (t : TE) : TE := fun σ H Q => ∃ d u, H d = some u ∧ Mut (some u) ∧ ∀ od, t σ (upd H d (.frz od u)) fun v H' => H' d = some (.frz od u) ∧ Q v (upd H' d u)
section
variable {X : Cx}
theorem ps_lock {st : Stmt} {t : TS} (h : PS X st t) : PS X st (tLock t) := by
  intro pins s σ H D I hw
  obtain ⟨d, u, hd, mu, hw⟩ := hw
  obtain ⟨od, I1⟩ := I.lock hd mu
  refine thn (h pins s σ _ _ I1 (hw od)) fun f s1 q => ?_
  cases f with
  | next => obtain ⟨σ', H', I2, e, q⟩ := q; exact ⟨σ', _, I2.unlock e (I.nofrz hd mu), q⟩
  | brk => obtain ⟨σ', H', I2, e, q⟩ := q; exact ⟨σ', _, I2.unlock e (I.nofrz hd mu), q⟩
  | cont => obtain ⟨σ', H', I2, e, q⟩ := q; exact ⟨σ', _, I2.unlock e (I.nofrz hd mu), q⟩
  | ret v => obtain ⟨x, σ', H', I2, r, e, q⟩ := q; exact ⟨x, σ', _, I2.unlock e (I.nofrz hd mu), r, q⟩
theorem pe_lock {e : Expr} {t : TE} (h : PE X e t) : PE X e (tLockE t) := by
  intro pins s σ H Q I hw
  obtain ⟨d, u, hd, mu, hw⟩ := hw
  obtain ⟨od, I1⟩ := I.lock hd mu
  refine thn5 (h pins s σ _ _ I1 (hw od)) fun v s1 x H1 I2 r hq_ => ?_
  obtain ⟨e2, q⟩ := hq_
  exact ⟨x, _, I2.unlock e2 (I.nofrz hd mu), r, q⟩
theorem pi_one {tg : Expr} {pins : List (Addr × Obj)} {σ : St} {H : Hp} {s : Shared} {R : It → Hp → Prop} {J : It} {tn : Nat → Heap → Prop} {tk : Nat} (I : Inv X pins σ H s) (o : Obj)
    (T : Turn X.prog X.w X.K tg J [s.heap.objs.size] s.heap.objs.size tn) (st : tn 0 (s.heap.push o)) (q : R J H) : PIE X pins σ tg R (.ref s.heap.objs.size) { s with heap := s.heap.push o, toks := tk } := by
  refine ⟨s.heap.objs.size, [s.heap.objs.size], tn, J, H, rfl, I.kept fun b ob e => Heap.get?_push_of_some _ e, T, st, fun b hb => ?_, q⟩
  have e : b = s.heap.objs.size := by simpa using hb
  subst e
  exact I.fpOk (Nat.le_refl _) (I.hok.fresh (Nat.le_refl _))
end
section
variable {prog : Program} {w : World} {A : Around} {E : Value → Shared → Prop} {s : Shared}
theorem iter_keys {d : Addr} {o : Obj} {es : Array DictEntry} {ep : Nat} {Q : Value → Shared → Prop} (hd : (d == sysModules) = false) (ho : s.heap.get? d = some o) (hc : o.ExactDict) (hdat : o.data = .dict es ep)
    (hQ : Q (.ref s.heap.objs.size) { s with heap := s.heap.push { cls := .type "dict_keyiterator", data := .fields #[.ref d, .int 0 0, .int es.size 0, .int ep 0] } }) :
    wpAny (model prog w) A (pyIter (.ref d)) Q E s := by
  have hT : s.TypeIs (.ref d) "dict" := ⟨o, ho, hc.1⟩
  refine wpAny_pyIter_slot hT F.slot_dict_iter (wpAny_call_entry F.slot_dict_iter hT F.entry_dict_iter ?_ (F.args_dict_iter_1 _))
  unfold Builtin.«dict.__iter__»
  refine wpAny_bind ?_
  unfold Builtin.Dict.dictSlotNone
  refine wpAny_bind (wpAny_notOrdered_dict hT ?_)
  show wpAny _ _ (pure (Value.ref d)) _ _ s
  refine wpAny_pure ?_
  show wpAny _ _ (Builtin.Dict.showsAll d >>= _) _ _ s
  unfold Builtin.Dict.showsAll
  rw [if_neg (by rw [hd]; exact Bool.false_ne_true)]
  refine wpAny_bind (wpAny_pure ?_)
  refine wpAny_bind (wpAny_dictEntries ho hdat ?_)
  refine wpAny_bind (wpAny_dictEpoch ho hdat ?_)
  refine wpAny_bind (wpAny_newObj_type (wpAny_pure ⟨_, rfl, "dict_keyiterator", _, ⟨_, Heap.get?_push_size _ rfl, rfl⟩, F.slot_dict_keyiterator_next.lookup, ?_⟩))
  simpa [rawInt] using hQ
theorem next_key_item {it d : Addr} {i n ep : Nat} {od : Obj} {es : Array DictEntry} {en : DictEntry} {Q : Option Value → Shared → Prop} (hit : s.heap.IsKeyIter it d i n ep) (hod : s.heap.get? d = some od) (hdd : od.data = .dict es ep)
    (hsz : es.size = n) (hx : es[i]? = some en) (hQ : ∀ h', h'.IsKeyIter it d (i + 1) n ep → Heap.SameBut it s.heap h' → Q (some en.key) { s with heap := h' }) : wpAny (model prog w) A (pyNext (.ref it)) Q E s := by
  obtain ⟨o, ho, hc, hd⟩ := id hit
  unfold pyNext
  refine wpAny_bind (wpAny_attempt (wpAny_callSpecial?_slot (name := Str.ofString "__next__") hit.typeIs F.slot_dict_keyiterator_next
    (wpAny_call_entry F.slot_dict_keyiterator_next hit.typeIs F.entry_dict_keyiterator_next ?_ (F.args_dict_keyiterator_next_1 _))))
  refine wpAny_bind (wpAny_pure ?_)
  refine wpAny_bind ?_
  refine wpAny_bind ?_
  first | refine wpAny_bind (wpAny_typeNameOfWhole_keyiter hit.typeIs (wpAny_pure ?_)) | refine wpAny_bind (wpAny_typeNameOf_keyiter hit.typeIs (wpAny_pure ?_))
  refine wpAny_bind (wpAny_fieldsOf ho hd ?_)
  have hown : Builtin.Dict_items.ownsTuple "dict_keyiterator" = false := by decide
  simp only [hown, Bool.false_eq_true, if_false]
  show wpAny _ _ (if (Value.ref d == Value.none) = true then _ else _) _ _ s
  rw [if_neg (show ¬ ((Value.ref d == Value.none) = true) from Bool.false_ne_true)]
  refine wpAny_bind (wpAny_pure ?_)
  refine wpAny_bind (wpAny_dictEntries hod hdd ?_)
  rw [if_neg (by rw [hsz]; simp)]
  refine wpAny_bind (wpAny_pure ?_)
  refine wpAny_bind (wpAny_dictEpoch hod hdd ?_)
  rw [if_neg (by simp)]
  refine wpAny_pure ?_
  obtain ⟨hlt', hen⟩ := Array.getElem?_eq_some_iff.mp hx
  simp only [show ¬ ((i : Int) < 0) from by lia, if_false, Int.toNat_natCast, Array.getElem?_eq_getElem hlt']
  refine wpAny_bind ?_
  first | refine wpAny_bind (wpAny_typeNameOfWhole_keyiter hit.typeIs (wpAny_pure ?_)) | refine wpAny_bind (wpAny_typeNameOf_keyiter hit.typeIs (wpAny_pure ?_))
  refine wpAny_bind (wpAny_isOneOf_keyiter hit.typeIs ?_)
  show wpAny _ _ (setField (.ref it) 1 (rawInt ((i : Int) + 1)) >>= _) _ _ s
  refine wpAny_bind (wpAny_setField ho hd (by simp) ?_)
  have hit' : (s.heap.update it (Obj.mapFields (·.setIfInBounds 1 (rawInt ((i : Int) + 1))))).IsKeyIter it d (i + 1) n ep :=
    ⟨_, Heap.get?_update_self _ ho (Obj.isFreed_of_fields (Obj.data_mapFields hd _)), (Obj.cls_mapFields ..).trans hc, by rw [Obj.data_mapFields hd]; simp [rawInt]⟩
  refine wpAny_bind (wpAny_holding ?_)
  refine wpAny_bind (wpAny_isOneOf_keyiter (s := { s with heap := s.heap.update it (Obj.mapFields (·.setIfInBounds 1 (rawInt ((i : Int) + 1)))) }) hit'.typeIs ?_)
  show wpAny _ _ (pure es[i].key) _ _ _
  rw [hen]
  exact wpAny_pure (wpAny_pure ⟨_, rfl, wpAny_pure (hQ _ hit' (Heap.SameBut.update ..))⟩)
theorem next_key_end {it d : Addr} {i n ep : Nat} {od : Obj} {es : Array DictEntry} {Q : Option Value → Shared → Prop} (hh : A.handled = none) (hit : s.heap.IsKeyIter it d i n ep) (hod : s.heap.get? d = some od) (hdd : od.data = .dict es ep)
    (hsz : es.size = n) (hge : n ≤ i) (hQ : ∀ h', Heap.ExtBut it s.heap h' → Q none { s with heap := h' }) : wpAny (model prog w) A (pyNext (.ref it)) Q E s := by
  obtain ⟨o, ho, hc, hd⟩ := id hit
  unfold pyNext
  refine wpAny_bind (wpAny_attempt (wpAny_callSpecial?_slot (name := Str.ofString "__next__") hit.typeIs F.slot_dict_keyiterator_next
    (wpAny_call_entry F.slot_dict_keyiterator_next hit.typeIs F.entry_dict_keyiterator_next ?_ (F.args_dict_keyiterator_next_1 _))))
  refine wpAny_bind (wpAny_pure ?_)
  refine wpAny_bind ?_
  refine wpAny_bind ?_
  first | refine wpAny_bind (wpAny_typeNameOfWhole_keyiter hit.typeIs (wpAny_pure ?_)) | refine wpAny_bind (wpAny_typeNameOf_keyiter hit.typeIs (wpAny_pure ?_))
  refine wpAny_bind (wpAny_fieldsOf ho hd ?_)
  have hown : Builtin.Dict_items.ownsTuple "dict_keyiterator" = false := by decide
  simp only [hown, Bool.false_eq_true, if_false]
  show wpAny _ _ (if (Value.ref d == Value.none) = true then _ else _) _ _ s
  rw [if_neg (show ¬ ((Value.ref d == Value.none) = true) from Bool.false_ne_true)]
  refine wpAny_bind (wpAny_pure ?_)
  refine wpAny_bind (wpAny_dictEntries hod hdd ?_)
  rw [if_neg (by rw [hsz]; simp)]
  refine wpAny_bind (wpAny_pure ?_)
  refine wpAny_bind (wpAny_dictEpoch hod hdd ?_)
  rw [if_neg (by simp)]
  refine wpAny_pure ?_
  have hge' : es.size ≤ i := by rw [hsz]; exact hge
  simp only [show ¬ ((i : Int) < 0) from by lia, if_false, Int.toNat_natCast, Array.getElem?_eq_none hge']
  refine wpAny_bind ?_
  first | refine wpAny_bind (wpAny_typeNameOfWhole_keyiter hit.typeIs (wpAny_pure ?_)) | refine wpAny_bind (wpAny_typeNameOf_keyiter hit.typeIs (wpAny_pure ?_))
  show wpAny _ _ (setField (.ref it) 0 .none >>= _) _ _ s
  refine wpAny_bind (wpAny_setField ho hd (by simp) ?_)
  show wpAny _ _ (newExc (.type "StopIteration") [] >>= _) _ _ _
  refine wpAny_bind ?_
  simp only [newExc, newTuple]
  refine wpAny_bind (wpAny_newObj_type ?_ (by size_fits))
  refine wpAny_bind (m := firstArgMember _ _) (wpAny_of_eq (a := Value.none) (by first | rfl | (simp only [firstArgMember]; rfl)) ?_)
  refine wpAny_newObj_type ?_ (by size_fits)
  simp only [raiseNew]
  refine wpAny_bind (wpAny_handled ?_)
  rw [show A.in1.handled = none from hh]
  refine wpAny_bind (wpAny_pure (wpAny_throw ?_))
  refine wpAny_bind (wpAny_isInstance (T := "StopIteration") (b := true) ⟨_, Heap.get?_push_size _ rfl, rfl⟩ isSubtype_stop ?_)
  exact wpAny_pure (hQ _ (((Heap.SameBut.update ..).extBut.push _).push _))
end
theorem kv_get {κ : Type} {kvs : List (κ × V)} {vs : List (κ × Value)} (h : KV kvs vs) : ∀ {i : Nat} {k : κ} {v : V}, kvs[i]? = some (k, v) → ∃ u, vs[i]? = some (k, u) ∧ RelV v u := by
  unfold KV at h
  induction h with
  | nil => intro i k v e; simp at e
  | @cons a b l₁ l₂ r t ih =>
    intro i k v e
    cases i with
    | zero =>
      simp only [List.getElem?_cons_zero, Option.some.injEq] at e
      subst e
      refine ⟨b.2, ?_, r.2⟩
      simp only [List.getElem?_cons_zero]
      exact congrArg some (Prod.ext r.1.symm rfl)
    | succ j =>
      simp only [List.getElem?_cons_succ] at e ⊢
      exact ih e
theorem zX {α β : Type} {G : α → β → Prop} {l₁ : List α} {l₂ : List β} (h : Paired G l₁ l₂) : ∀ {i : Nat} {a : α}, l₁[i]? = some a → ∃ b, l₂[i]? = some b ∧ G a b := by
  induction h with
  | nil => intro i a e; simp at e
  | @cons a b l₁ l₂ r t ih =>
    intro i a' e
    cases i with
    | zero =>
      simp only [List.getElem?_cons_zero, Option.some.injEq] at e
      subst e
      exact ⟨b, rfl, r⟩
    | succ j =>
      simp only [List.getElem?_cons_succ] at e ⊢
      exact ih e
theorem relV_key {k : Key} {u : Value} (h : keyIs k u = true) : RelV (kV k) u := by
  rcases keyIs_shape h with ⟨i, t, rfl, rfl⟩ | ⟨x, t, rfl, rfl⟩
  · exact ⟨t, rfl⟩
  · exact ⟨t, rfl⟩
section
variable {X : Cx} {pins : List (Addr × Obj)} {σ : St} {H : Hp} {s : Shared} {d : Addr} {o : Obj}
theorem Inv.frzK {kvs : List (Key × V)} (I : Inv X pins σ H s) (h : H d = some (.frz o (.dK kvs))) :
    (d == sysModules) = false ∧ s.heap.get? d = some o ∧ o.ExactDict ∧ ∃ (es : Array DictEntry) (ep : Nat) (vs : List (Key × Value)), o.data = .dict es ep ∧ es.size = kvs.length ∧ KV kvs vs ∧ s.heap.DictAt (mixKind X.prog X.w) d vs ep := by
  obtain ⟨hd, z, hs, vs, kv, o', es, ep, ho, hx, hdt, r⟩ := I.hok d _ h
  rw [hd] at ho
  cases ho
  refine ⟨hs, hd, hx, es, ep, vs, hdt, ?_, kv, o, es, hd, hx, hdt, r⟩
  have l1 := r.2.1.length
  have l2 : kvs.length = vs.length := Paired.length kv
  rw [Array.length_toList] at l1
  lia
theorem Inv.frzT {kvs : List (List Key × V)} (I : Inv X pins σ H s) (h : H d = some (.frz o (.dT kvs))) :
    (d == sysModules) = false ∧ s.heap.get? d = some o ∧ o.ExactDict ∧ ∃ (es : Array DictEntry) (ep : Nat), o.data = .dict es ep ∧ es.size = kvs.length ∧
      ∀ (i : Nat) (k : List Key) (v : V), kvs[i]? = some (k, v) → ∃ (en : DictEntry) (q : Addr), es[i]? = some en ∧ en.key = .ref q ∧ H q = some (.tup (k.map kV)) := by
  obtain ⟨hd, z, hs, xs, pr, o', es, ep, ho, hx, hdt, he, _⟩ := I.hok d _ h
  rw [hd] at ho
  cases ho
  refine ⟨hs, hd, hx, es, ep, hdt, ?_, fun i k v e => ?_⟩
  · have l1 : es.size = xs.length := size_of_entries he
    have l2 : kvs.length = xs.length := Paired.length pr
    lia
  · obtain ⟨b, hb, e1, e2, _⟩ := zX pr e
    have q := entry_at he i
    rw [hb] at q
    exact ⟨_, b.2.1, q, rfl, e2⟩
end
noncomputable def Itk (d : Addr) (o : Obj) (kvs : List (Key × V)) : It :=
  ⟨fun i H => H d = some (.frz o (.dK kvs)) ∧ i < kvs.length, fun i H x H' => H' = H ∧ ∃ k v, kvs[i]? = some (k, v) ∧ x = kV k, fun i H => H d = some (.frz o (.dK kvs)) ∧ kvs.length ≤ i⟩
noncomputable def Itkt (d : Addr) (o : Obj) (kvs : List (List Key × V)) : It :=
  ⟨fun i H => H d = some (.frz o (.dT kvs)) ∧ i < kvs.length, fun i H x H' => H' = H ∧ ∃ (k : List Key) (v : V) (q : Addr), kvs[i]? = some (k, v) ∧ x = .ref q ∧ H q = some (.tup (k.map kV)), fun i H => H d = some (.frz o (.dT kvs)) ∧ kvs.length ≤ i⟩
theorem dict_ep {o : Obj} {es es' : Array DictEntry} {ep ep' : Nat} (h : o.data = .dict es ep) (h' : o.data = .dict es' ep') : es' = es ∧ ep' = ep := by
  rw [h] at h'
  cases h'
  exact ⟨rfl, rfl⟩
section
variable {P : Program} {w : World} {K : PySem.W.Frag} {tg : Expr} {d : Addr} {o : Obj} {es : Array DictEntry} {ep : Nat}
theorem turn_keys {kvs : List (Key × V)} (it : Addr) (hod : o.data = .dict es ep) : Turn P w K tg (Itk d o kvs) [it] it (fun i h => h.IsKeyIter it d i kvs.length ep) where
  mem := by simp
  obj := fun i h st b hb => by
    have e : b = it := by simpa using hb
    subst e
    obtain ⟨oi, e, c, dd⟩ := st
    exact ⟨oi, e, fun v z => by rw [dd] at z; cases z⟩
  keep := fun i h h' st k => st.at fun oi e => k it (by simp) oi e
  item := by
    intro X hP hw hK hc i pins s σ H E I hf st hg
    subst hP hw hK
    obtain ⟨hd, hi⟩ := hg
    obtain ⟨f0, f1, f2, f3, f4, f5⟩ := hf it (by simp)
    obtain ⟨hs, hgd, hx, es', ep', vs, hdt, hsz, kv, hm⟩ := I.frzK hd
    obtain ⟨rfl, rfl⟩ := dict_ep hod hdt
    obtain ⟨⟨k, v⟩, hkv⟩ : ∃ p, kvs[i]? = some p := ⟨kvs[i], List.getElem?_eq_getElem hi⟩
    obtain ⟨u, hu, ru⟩ := kv_get kv hkv
    have hl : kvs.length = vs.length := Paired.length kv
    rw [hl] at st
    refine wpAny_pyNext_dict_item st hm hu fun key h' hkey st' sb => ?_
    have I1 : Inv X pins σ H { s with heap := h' } := I.turned (t' := s.toks) (fun b ob hb e => (sb.2 b hb).trans e) f0 f1 f3 f4 f5
    obtain ⟨oi, e, c, dd⟩ := id st'
    refine ⟨key, rfl, go_of (s := { s with heap := h' }) e c dd (by decide) ⟨kV k, H, I1, relV_key (show keyIs k key = true from hkey), ⟨rfl, k, v, hkv, rfl⟩, ?_, fun b hb => (hf b hb).1⟩⟩
    show h'.IsKeyIter it d (i + 1) kvs.length _
    rw [hl]
    exact st'
  done := by
    intro X hP hw hK hc i pins s σ H E I hf st hg
    subst hP hw hK
    obtain ⟨hd, hi⟩ := hg
    obtain ⟨f0, f1, f2, f3, f4, f5⟩ := hf it (by simp)
    obtain ⟨hs, hgd, hx, es', ep', vs, hdt, hsz, kv, hm⟩ := I.frzK hd
    obtain ⟨rfl, rfl⟩ := dict_ep hod hdt
    exact next_key_end (I.ok.hd hc) st hgd hdt hsz hi fun h' eb => ⟨rfl, I.turned (t' := s.toks) (fun b ob hb e => eb b ob hb e) f0 f1 f3 f4 f5⟩
  self := fun A i s Q E st h => wpAny_pyIter_keyiter st h
theorem turn_keysT {kvs : List (List Key × V)} (it : Addr) (hod : o.data = .dict es ep) : Turn P w K tg (Itkt d o kvs) [it] it (fun i h => h.IsKeyIter it d i kvs.length ep) where
  mem := by simp
  obj := fun i h st b hb => by
    have e : b = it := by simpa using hb
    subst e
    obtain ⟨oi, e, c, dd⟩ := st
    exact ⟨oi, e, fun v z => by rw [dd] at z; cases z⟩
  keep := fun i h h' st k => st.at fun oi e => k it (by simp) oi e
  item := by
    intro X hP hw hK hc i pins s σ H E I hf st hg
    subst hP hw hK
    obtain ⟨hd, hi⟩ := hg
    obtain ⟨f0, f1, f2, f3, f4, f5⟩ := hf it (by simp)
    obtain ⟨hs, hgd, hx, es', ep', hdt, hsz, ent⟩ := I.frzT hd
    obtain ⟨rfl, rfl⟩ := dict_ep hod hdt
    obtain ⟨⟨k, v⟩, hkv⟩ : ∃ p, kvs[i]? = some p := ⟨kvs[i], List.getElem?_eq_getElem hi⟩
    obtain ⟨en, q, hen, hkey, hq⟩ := ent i k v hkv
    refine next_key_item st hgd hdt hsz hen fun h' st' sb => ?_
    have I1 : Inv X pins σ H { s with heap := h' } := I.turned (t' := s.toks) (fun b ob hb e => (sb.2 b hb).trans e) f0 f1 f3 f4 f5
    obtain ⟨oi, e, c, dd⟩ := id st'
    exact ⟨en.key, rfl, go_of (s := { s with heap := h' }) e c dd (by decide) ⟨.ref q, H, I1, hkey, ⟨rfl, k, v, q, hkv, rfl, hq⟩, st', fun b hb => (hf b hb).1⟩⟩
  done := by
    intro X hP hw hK hc i pins s σ H E I hf st hg
    subst hP hw hK
    obtain ⟨hd, hi⟩ := hg
    obtain ⟨f0, f1, f2, f3, f4, f5⟩ := hf it (by simp)
    obtain ⟨hs, hgd, hx, es', ep', hdt, hsz, ent⟩ := I.frzT hd
    obtain ⟨rfl, rfl⟩ := dict_ep hod hdt
    exact next_key_end (I.ok.hd hc) st hgd hdt hsz hi fun h' eb => ⟨rfl, I.turned (t' := s.toks) (fun b ob hb e => eb b ob hb e) f0 f1 f3 f4 f5⟩
  self := fun A i s Q E st h => by
    refine wpAny_pyIter_slot st.typeIs F.slot_dict_keyiterator_iter (wpAny_call_entry F.slot_dict_keyiterator_iter st.typeIs F.entry_dict_keyiterator_iter ?_ (F.args_dict_keyiterator_iter_1 _))
    show wpAny _ _ (ret (.ref it)) _ _ s
    exact wpAny_pure ⟨_, rfl, "dict_keyiterator", _, st.typeIs, F.slot_dict_keyiterator_next.lookup, h⟩
end
noncomputable def iKeys (td : TE) : TI := fun σ H R => td σ H fun x H1 => ∃ d o, x = .ref d ∧ ((∃ kvs, H1 d = some (.frz o (.dK kvs)) ∧ R (Itk d o kvs) H1) ∨ ∃ kvs, H1 d = some (.frz o (.dT kvs)) ∧ R (Itkt d o kvs) H1)
section
variable {X : Cx} {tg e : Expr} {td : TE} {apos cpos : Pos}
theorem pi_keys (he : PE X e td) : PI X tg e (iKeys td) := by
  intro pins s σ H R I h
  refine thn5 (he pins s σ H _ I h) fun u s1 x H1 I1 rx hq_ => ?_
  obtain ⟨d, o, ex, q⟩ := hq_
  subst ex
  obtain rfl : u = Value.ref d := rx
  rcases q with ⟨kvs, hd, q⟩ | ⟨kvs, hd, q⟩
  · obtain ⟨hs, hgd, hx, es, ep, vs, hdt, hsz, kv, hm⟩ := I1.frzK hd
    refine iter_keys hs hgd hx hdt (pi_one (tk := s1.toks) I1 _ (turn_keys _ hdt) ⟨_, Heap.get?_push_size _ rfl, rfl, ?_⟩ q)
    rw [hsz] <;> rfl
  · obtain ⟨hs, hgd, hx, es, ep, hdt, hsz, ent⟩ := I1.frzT hd
    refine iter_keys hs hgd hx hdt (pi_one (tk := s1.toks) I1 _ (turn_keysT _ hdt) ⟨_, Heap.get?_push_size _ rfl, rfl, ?_⟩ q)
    rw [hsz] <;> rfl
end
noncomputable def Ite (K : PySem.W.Frag) (a : Addr) : It :=
  ⟨fun i H => ∃ (xs : List V) (x : V), SqL K H a xs ∧ xs[i]? = some x, fun i H v H' => ∃ T x, v = .ref T ∧ H T = none ∧ H' = upd H T (.tup [.int (i : Nat), x]) ∧ ∀ xs, SqL K H a xs → xs[i]? = some x, fun i H => ∃ xs : List V, SqL K H a xs ∧ xs.length ≤ i⟩
theorem turn_enum {P : Program} {w : World} {K : PySem.W.Frag} {elts : List Expr} {kk : Nat} {tpos : Pos} (a e it : Addr) :
    Turn P w K (.Tuple elts kk tpos) (Ite K a) [e, it] e (fun i h => (∃ old, IsEnum h e it ((i : Nat) : Int) old) ∧ h.IsListIter it a i ∧ e ≠ it) where
  mem := by simp
  obj := fun i h st b hb => by
    obtain ⟨⟨old, he⟩, ⟨o, ho, hc, hd⟩, _⟩ := st
    have e' : b = e ∨ b = it := by simpa using hb
    rcases e' with z | z
    · rw [z]; exact ⟨_, he, fun v q => nomatch q⟩
    · rw [z]; exact ⟨o, ho, fun v q => by rw [hd] at q; cases q⟩
  keep := fun i h h' st k => let ⟨⟨old, he⟩, hi, hne⟩ := st; ⟨⟨old, k e (by simp) _ he⟩, hi.at fun o q => k it (by simp) o q, hne⟩
  item := by
    intro X hP hw hK hc i pins s σ H E I hf st hg
    subst hP hw hK
    obtain ⟨⟨old, he⟩, hit, hne⟩ := st
    obtain ⟨xs, x, hq, hx⟩ := hg
    obtain ⟨its, rv, p, hz⟩ := I.list hq
    obtain ⟨u, hu, ru⟩ := rv.get hx
    have hel : e < s.heap.objs.size := Heap.lt_size he
    have hil : it < s.heap.objs.size := by obtain ⟨_, q, _⟩ := hit; exact Heap.lt_size q
    refine wpAny_pyNext_enum_item he hit p.isList (x := u) (by simpa using hu) hne fun h' ho hit' hT hsz hk => ?_
    refine ⟨_, rfl, wpAny_letOwnedTupleGo_enum (s := { s with heap := h', toks := s.toks + 1 }) ho fun h'' he' sb => ?_⟩
    have hT2 : h''.get? s.heap.objs.size = some { cls := .type "tuple", data := .seq #[.int i s.toks, u] } := (sb.2 _ (Nat.ne_of_gt hel)).trans hT
    have new : ObjOk X.prog X.w (upd H s.heap.objs.size (.tup [.int (i : Nat), x])) h'' s.heap.objs.size (.tup [.int (i : Nat), x]) :=
      ⟨by show 2 ≤ sizeLine; decide, [.int i s.toks, u], .cons ⟨_, rfl⟩ (.cons ru .nil), ⟨_, hT2, rfl, _, rfl⟩⟩
    have I1 : Inv X pins σ (upd H s.heap.objs.size (.tup [.int (i : Nat), x])) { s with heap := h'', toks := s.toks + 1 } :=
      I.turnedNew (ch := [e, it]) (fun b ob hb q => (sb.2 b (fun z => hb (by simp [z]))).trans (hk b ob (fun z => hb (by simp [z])) (fun z => hb (by simp [z])) q)) hf (Nat.le_refl _) new
    refine ⟨.ref s.heap.objs.size, _, I1, rfl, ⟨_, x, rfl, I.hok.fresh (Nat.le_refl _), rfl, fun ys hy => by rw [I.list_inj hy hq]; exact hx⟩, ⟨⟨u, ?_⟩, hit'.at fun o q => (sb.2 it (Ne.symm hne)).trans q, hne⟩, fun b hb => ?_⟩
    · have e1 : ((i + 1 : Nat) : Int) = (i : Int) + 1 := by lia
      rw [e1]; exact he'
    · have hb' : b < s.heap.objs.size := by
        have e' : b = e ∨ b = it := by simpa using hb
        rcases e' with z | z
        · rw [z]; exact hel
        · rw [z]; exact hil
      rw [zE (Nat.ne_of_lt hb')]
      exact (hf b hb).1
  done := by
    intro X hP hw hK hc i pins s σ H E I hf st hg
    subst hP hw hK
    obtain ⟨⟨old, he⟩, hit, hne⟩ := st
    obtain ⟨xs, hq, hx⟩ := hg
    obtain ⟨its, rv, p, hz⟩ := I.list hq
    obtain ⟨f0, f1, f2, f3, f4, f5⟩ := hf it (by simp)
    have hl := rv.length
    exact wpAny_pyNext_enum_end (I.ok.hd hc) he hit p.isList (by simp; lia) fun h' eb => ⟨rfl, I.turned (t' := s.toks) (fun b o hb q => eb b o hb q) f0 f1 f3 f4 f5⟩
  self := fun A i s Q E st h => let ⟨⟨_, he⟩, _⟩ := st; wpAny_pyIter_enum he h
noncomputable def iEnum (K : PySem.W.Frag) (ta : TA) : TI := fun σ H R => ta σ H fun vs H1 => ∃ a xs, vs = [.ref a] ∧ SqL K H1 a xs ∧ R (Ite K a) H1
theorem pi_enum {X : Cx} {e : Expr} {ta : TA} {p pos tpos : Pos} {elts : List Expr} {kk : Nat} (hg : Gl X "enumerate") (hm : X.mg "enumerate" = none) (ha : PA X [e] ta) (hs : starEach [e] X.env = [(false, eval e X.env)] := by rfl) :
    PI X (.Tuple elts kk tpos) (.Call (.Name "enumerate" p) [e] [] pos) (iEnum X.K ta) := by
  intro pins s σ H R I h
  refine Call_ (ld_blt I hg hm boot_enumerate (PyProof.Rows.callWith_type1 (thn5 (ha pos pins s σ H _ I h) fun us s1 vs H1 I1 r1 q1 => ?_) hs rfl))
  obtain ⟨a, xs, ex, hq, q⟩ := q1
  subst ex
  cases r1 with
  | cons r rr =>
    cases rr
    cases r
    obtain ⟨its, rv, p', hz⟩ := I1.list hq
    refine call_enumerate_list p'.isList fun h' he hit hsz hk => wpAny_pyIter_enum he ?_
    have I2 : Inv X pins σ H1 { s1 with heap := h' } := I1.kept (t' := s1.toks) hk
    refine ⟨s1.heap.objs.size + 1, [s1.heap.objs.size + 1, s1.heap.objs.size], _, _, H1, rfl, I2, turn_enum a (s1.heap.objs.size + 1) s1.heap.objs.size, ⟨⟨.none, he⟩, hit, Nat.succ_ne_self _⟩, fun b hb => ?_, q⟩
    have e' : b = s1.heap.objs.size + 1 ∨ b = s1.heap.objs.size := by simpa using hb
    have hle : s1.heap.objs.size ≤ b := by
      rcases e' with z | z
      · rw [z]; exact Nat.le_add_right _ _
      · rw [z]; exact Nat.le_refl _
    exact I1.fpOk hle (I1.hok.fresh hle)
theorem boot_zip5 : bootBuiltins "zip" = some (.type "zip") := by decide +kernel
end L2
section
namespace Bits
open PySem PyProof.Rows
end Bits
end
section
namespace TL
open PySem PySem.Builtin PySem.Builtin.Str PySem.StrLaws
end TL
end
namespace L2
open PySem PySem.Spec PyProof.Rows
end L2
namespace L2
open PySem PySem.Spec PyProof.Rows
end L2
namespace Att
open PySem PySem.W PySem.Calls PyProof.Rows
end Att
namespace L2
open PySem PySem.Spec PyProof.Rows
end L2
namespace L2
open PySem PySem.Spec PyProof.Rows
end L2
namespace L2
open PySem PySem.Spec PyProof.Rows
noncomputable def yH (s : Stmt) (j : Nat) : Stmt := match s with
  | .ClassDef _ _ _ body _ _ _ _ _ _ _ => body.getD j (.Pass ⟨0, 0, 0, 0⟩)
  | _ => .Pass ⟨0, 0, 0, 0⟩
noncomputable def defArgs (s : Stmt) : Arguments := match s with
  | .FunctionDef _ a _ _ _ _ _ _ _ _ => a
  | _ => { posonlyargs := [], args := [], vararg := none, kwonlyargs := [], kw_defaults := [], kwarg := none, defaults := [] }
noncomputable def defBody (s : Stmt) : List Stmt := match s with
  | .FunctionDef _ _ b _ _ _ _ _ _ _ => b
  | _ => []
noncomputable def zH (s : Stmt) : Scope := match s with
  | .FunctionDef _ _ _ _ _ _ sc _ _ _ => sc
  | _ => { kind := .function, names := [], isGenerator := false, isCoroutine := false }
noncomputable abbrev CX0 : CXT := fun _ _ _ _ _ _ => False
noncomputable abbrev E0 : XK := fun _ _ _ => False
theorem pass0 {X : Cx} : Passes CX0 X E0 := fun _ _ _ _ _ _ _ h => h.elim
structure Fun (K : PySem.W.Frag) (x qual : Str) (st : Stmt) (f : Addr) (fd : FuncData) : Prop where
  ex : ∃ (oc : Value) (od : Option Addr) (kV doc pm : Value) (an : Option Addr) (cdv ct : Value) (osl : Array (Option Value)),
    fd = PySem.W.fnOf x qual (defArgs st) (defBody st) (zH st) .none kV doc pm an cdv ct ∧ K.lookup f = some ⟨oc, od, .func fd, osl⟩ ∧ PySem.W.codeIn K cdv qual = true
  kp : PySem.W.keepIn K (.ref f) = true
section
variable {P : Program} {w : World} {K : PySem.W.Frag} {mg : Str → Option Value} {base : Heap}
theorem Fun.ok {x qual : Str} {st : Stmt} {f : Addr} {fd : FuncData} {N ps : List Str} {k : Nat} {sp : Sp} (F : Fun K x qual st f fd) (S : zR N ps (zH st)) (len : ∀ vs H Q E, sp vs H Q E → vs.length = ps.length)
    (hbody : ∀ (cdv : Value) (A : Around) (outer : List Env) (s : Shared) (H : Hp) (vs : List V) (Q : VK) (E : XK), Room k (A.deeper (envOfC qual (zH st) s.heap.objs.size f cdv)) → sp vs H Q E →
      ∃ t, PSs (cxOf CX0 P w K mg base N qual (zH st) f cdv A outer s H E).nox (defBody st) t ∧ t { nx := fun _ H' => Q .non H', rt := Q } (start N vs) H) : FnOk P w K mg base CX0 (k + 1) f fd ps sp := by
  obtain ⟨oc, od, kV, doc, pm, an, cdv, ct, osl, rfl, lk, hcd⟩ := F.ex
  refine fn_of lk hcd S len fun A outer s H vs Q E hr hsp => ?_
  obtain ⟨t, h, q⟩ := hbody cdv A outer s H vs Q E hr hsp
  exact ⟨t, h.nox, q⟩
theorem Fun.binds {x qual : Str} {st : Stmt} {f : Addr} {fd : FuncData} {ps : List Str} (F : Fun K x qual st f fd)
    (h : ∀ (kV doc pm : Value) (an : Option Addr) (cdv ct : Value) (us : List Value), us.length = ps.length → bindArgs (PySem.W.fnOf x qual (defArgs st) (defBody st) (zH st) .none kV doc pm an cdv ct) ⟨us, []⟩ = pure (ps.zip us)) : Binds K fd ps [] := by
  obtain ⟨oc, od, kV, doc, pm, an, cdv, ct, osl, rfl, lk, hcd⟩ := F.ex
  exact .all (h kV doc pm an cdv ct)
theorem fun_mk {x qual : Str} {st : Stmt} {f : Addr} {oc : Value} {od an : Option Addr} {osl : Array (Option Value)} {kV doc pm cdv ct : Value} (l : K.lookup f = some ⟨oc, od, .func (PySem.W.fnOf x qual (defArgs st) (defBody st) (zH st) .none kV doc pm an cdv ct), osl⟩)
    (c : PySem.W.codeIn K cdv qual = true) (k : PySem.W.keepIn K (.ref f) = true) : Fun K x qual st f (PySem.W.fnOf x qual (defArgs st) (defBody st) (zH st) .none kV doc pm an cdv ct) := ⟨⟨oc, od, kV, doc, pm, an, cdv, ct, osl, rfl, l, c⟩, k⟩
end
theorem hu_of {A : Around} {k : Nat} (hr : Room k A) : A.units + 1 < cLine := Nat.lt_of_le_of_lt (Nat.add_le_add_left (by decide : 1 ≤ 64) _) hr.units
section
variable {X : Cx}
theorem pv (i : Nat) {x : Str} {pos : Pos} (hN : X.N[i]? = some x := by rfl) (hv : Vis X.env.scope x := by first | exact Or.inl rfl | exact Or.inr (Or.inl rfl) | exact Or.inr (Or.inr rfl)) (hd : (x == ("__debug__" : Str)) = false := by decide)
    (hcd : (x == ("__classdict__" : Str)) = false := by decide) : PE X (.Name x pos) (tVar i) := pe_var hN hv hd hcd
end
theorem iteF {A B : Prop} (h : B) : if false = true then A else B := by
  rw [if_neg Bool.false_ne_true]
  exact h
theorem iteT {A B : Prop} (h : A) : if true = true then A else B := by
  rw [if_pos rfl]
  exact h
theorem ite2 {c A B : Prop} [Decidable c] (h1 : c → A) (h2 : ¬ c → B) : if c then A else B := by
  by_cases h : c
  · rw [if_pos h]
    exact h1 h
  · rw [if_neg h]
    exact h2 h
noncomputable def Same (H H' : Hp) : Prop := ∀ b o, H b = some o → H' b = some o
theorem Same.refl (H : Hp) : Same H H := fun _ _ h => h
theorem Same.trans {H H1 H2 : Hp} (a : Same H H1) (b : Same H1 H2) : Same H H2 := fun c o h => b c o (a c o h)
theorem Same.free {H H' : Hp} (e : Same H H') {l : Addr} (h : H' l = Option.none) : H l = Option.none := by
  cases q : H l with
  | none => rfl
  | some o =>
    rw [e l o q] at h
    cases h
theorem Same.seq {K : PySem.W.Frag} {H H' : Hp} {a : Addr} {xs : List V} (e : Same H H') (h : SqL K H a xs) : SqL K H' a xs := by
  rcases h with (h | ⟨o, h⟩) | h
  · exact .inl (.inl (e _ _ h))
  · exact .inl (.inr ⟨o, e _ _ h⟩)
  · exact .inr h
section
variable {κ : Type} [DecidableEq κ]
theorem valV_not {kvs : List (κ × V)} {k : κ} (h : valV kvs k = none) : ¬ k ∈ kvs.map (·.1) := by
  intro m
  obtain ⟨p, hp, e⟩ := List.mem_map.mp m
  have q : (kvs.any fun kv => decide (kv.1 = k)) = true := List.any_eq_true.mpr ⟨p, hp, decide_eq_true e⟩
  rw [valV_any, h] at q
  exact absurd q (by simp)
theorem valV_in {kvs : List (κ × V)} {k : κ} {v : V} (h : valV kvs k = some v) : k ∈ kvs.map (·.1) := by
  have q : (kvs.any fun kv => decide (kv.1 = k)) = true := by
    rw [valV_any, h]
    all_goals rfl
  obtain ⟨p, hp, e⟩ := List.any_eq_true.mp q
  exact List.mem_map.mpr ⟨p, hp, of_decide_eq_true e⟩
theorem nd_snoc : ∀ {l : List κ} {k : κ}, l.Nodup → ¬ k ∈ l → (l ++ [k]).Nodup
  | [], k, _, _ => by simp
  | a :: r, k, h, hk => by
    obtain ⟨h1, h2⟩ := List.nodup_cons.mp h
    show (a :: (r ++ [k])).Nodup
    refine List.nodup_cons.mpr ⟨fun m => ?_, nd_snoc h2 fun m => hk (List.mem_cons.mpr (Or.inr m))⟩
    rcases List.mem_append.mp m with q | q
    · exact h1 q
    · exact hk (List.mem_cons.mpr (Or.inl (List.mem_singleton.mp q).symm))
theorem nd_putK {kvs : List (κ × V)} {k : κ} (v : V) (hn : (kvs.map (·.1)).Nodup) (h : valV kvs k = none) : ((putK kvs k v).map (·.1)).Nodup := by
  rw [putK_new v h, List.map_append]
  exact nd_snoc hn (valV_not h)
theorem dropK_pos {p : κ × V} {r : List (κ × V)} {k : κ} (e : p.1 = k) : dropK (p :: r) k = dropK r k := by
  unfold dropK
  rw [List.filter_cons, if_neg (by simp [e])]
theorem dropK_neg {p : κ × V} {r : List (κ × V)} {k : κ} (e : ¬ p.1 = k) : dropK (p :: r) k = p :: dropK r k := by
  unfold dropK
  rw [List.filter_cons, if_pos (by simp [e])]
theorem dropK_mem {kvs : List (κ × V)} {k : κ} {p : κ × V} (h : p ∈ dropK kvs k) : p ∈ kvs := (List.mem_filter.mp h).1
theorem nd_dropK : ∀ {kvs : List (κ × V)} {k : κ}, (kvs.map (·.1)).Nodup → ((dropK kvs k).map (·.1)).Nodup
  | [], _, _ => List.nodup_nil
  | p :: r, k, h => by
    have h : (p.1 :: r.map (·.1)).Nodup := h
    obtain ⟨h1, h2⟩ := List.nodup_cons.mp h
    by_cases e : p.1 = k
    · rw [dropK_pos e]
      exact nd_dropK h2
    · rw [dropK_neg e]
      show (p.1 :: (dropK r k).map (·.1)).Nodup
      refine List.nodup_cons.mpr ⟨fun m => h1 ?_, nd_dropK h2⟩
      obtain ⟨q, hq, eq⟩ := List.mem_map.mp m
      exact List.mem_map.mpr ⟨q, dropK_mem hq, eq⟩
end
theorem Same.made {H H1 : Hp} {x dx C : Addr} (nx : H x = Option.none) (nd : H dx = Option.none) (k : ∀ b o, (upd (upd H dx (.own x)) x (.ins C dx [])) b = some o → b ≠ x → H1 b = some o) : Same H H1 := fun b o e =>
  k b o (by rw [zE (zG e nx), zE (zG e nd)]; exact e) (zG e nx)
end L2
end
section
section
namespace L2
open PySem PySem.Spec PyProof.Rows
open PySem.W (WData Codec OpenSpec Well WellAll ReadsW ReadsAllW)
mutual
inductive Dw (K : PySem.W.Frag) (H : Hp) : V → WData → Prop
  | non : Dw K H .non .none
  | bl (b : Bool) : Dw K H (.bl b) (.bool b)
  | int (i : Int) : Dw K H (.int i) (.int i)
  | str (x : Str) : Dw K H (.str x) (.str x)
  | byt (b : Array UInt8) : Dw K H (.byt b) (.bytes b.toList)
  | lst {a : Addr} {xs : List V} {ds : List WData} : SqL K H a xs → DwAll K H xs ds → Dw K H (.ref a) (.list ds)
  | tup {a : Addr} {xs : List V} {ds : List WData} : SqT K H a xs → DwAll K H xs ds → Dw K H (.ref a) (.tuple ds)
inductive DwAll (K : PySem.W.Frag) (H : Hp) : List V → List WData → Prop
  | nil : DwAll K H [] []
  | cons {v : V} {vs : List V} {d : WData} {ds : List WData} : Dw K H v d → DwAll K H vs ds → DwAll K H (v :: vs) (d :: ds)
end
theorem dw_ints {K : PySem.W.Frag} {H : Hp} : ∀ ns : List Int, DwAll K H (ns.map V.int) (ns.map WData.int)
  | [] => .nil
  | n :: r => .cons (.int n) (dw_ints r)
theorem ints_dw {K : PySem.W.Frag} {H : Hp} : ∀ (ns : List Int) (xs : List V), DwAll K H xs (ns.map WData.int) → xs = ns.map V.int
  | [], xs, h => by
    cases h
    rfl
  | n :: r, xs, h => by
    cases h with
    | cons h1 h2 =>
      cases h1
      rw [ints_dw r _ h2] <;> rfl
section
variable {P : Program} {w : World} {K : PySem.W.Frag} {H : Hp} {h : Heap} {R : PySem.W.WRecords} {cl : Str → Option Addr}
theorem sqL_at {a : Addr} {xs : List V} (hok : HOk P w H h) (KX : K.In h) (q : SqL K H a xs) : ∃ (its : List Value) (o : Obj) (n : Nat), Vals xs its ∧ h.get? a = some o ∧ o.cls = .type "list" ∧ o.data = .seq its.toArray n := by
  rcases q with q | ⟨o, its, n, e, hc, _, hd, _, hv⟩
  · obtain ⟨_, its, n, hv, e⟩ := (show ObjOk P w H h a (.lst xs) from q.ok hok)
    exact ⟨its, _, n, hv, e, rfl, rfl⟩
  · exact ⟨its.toList, o, n, hv, KX _ _ e, hc, by simp [hd]⟩
theorem sqT_at {a : Addr} {xs : List V} (hok : HOk P w H h) (KX : K.In h) (q : SqT K H a xs) : ∃ (its : List Value) (o : Obj) (n : Nat), Vals xs its ∧ h.get? a = some o ∧ o.cls = .type "tuple" ∧ o.data = .seq its.toArray n := by
  rcases q with q | ⟨o, its, n, e, hc, hd, _, hv⟩
  · obtain ⟨_, its, hv, o, e, hc, n, hd⟩ := (show ObjOk P w H h a (.tup xs) from q.ok hok)
    exact ⟨its, o, n, hv, e, hc, hd⟩
  · exact ⟨its.toList, o, n, hv, KX _ _ e, hc, by simp [hd]⟩
mutual
theorem Dw.reads (hok : HOk P w H h) (KX : K.In h) : ∀ (d : WData) (v : V) (u : Value), Dw K H v d → RelV v u → ∃ as, ReadsW R cl h u d as
  | .none, _, _, x, r => by
    cases x
    cases r
    exact ⟨_, ReadsW.none⟩
  | .bool b, _, _, x, r => by
    cases x
    cases r
    exact ⟨_, ReadsW.bool b⟩
  | .int i, _, _, x, r => by
    cases x
    obtain ⟨t, rfl⟩ := r
    exact ⟨_, ReadsW.int i t⟩
  | .str s, _, _, x, r => by
    cases x
    obtain ⟨t, rfl⟩ := r
    exact ⟨_, ReadsW.str s t⟩
  | .bytes b, _, _, x, r => by
    cases x
    obtain ⟨t, rfl⟩ := r
    exact ⟨_, ReadsW.bytes _ t⟩
  | .list ds, _, _, x, r => by
    cases x with
    | lst hs ha =>
      cases r
      obtain ⟨its, o, n, rv, ho, hc, hd⟩ := sqL_at hok KX hs
      obtain ⟨as, hr⟩ := Dw.readsAll hok KX ds _ its ha rv
      exact ⟨_, ReadsW.list ho hc hd hr⟩
  | .tuple ds, _, _, x, r => by
    cases x with
    | tup hs ha =>
      cases r
      obtain ⟨its, o, n, rv, ho, hc, hd⟩ := sqT_at hok KX hs
      obtain ⟨as, hr⟩ := Dw.readsAll hok KX ds _ its ha rv
      exact ⟨_, ReadsW.tuple ho hc hd hr⟩
  | .float _, _, _, x, _ => by cases x
  | .dict _, _, _, x, _ => by cases x
  | .bytearray _, _, _, x, _ => by cases x
  | .set _, _, _, x, _ => by cases x
  | .frozenset _, _, _, x, _ => by cases x
  | .obj _ _, _, _, x, _ => by cases x
theorem Dw.readsAll (hok : HOk P w H h) (KX : K.In h) : ∀ (ds : List WData) (vs : List V) (us : List Value), DwAll K H vs ds → Vals vs us → ∃ as, ReadsAllW R cl h us ds as
  | [], _, _, x, r => by
    cases x
    cases r
    exact ⟨_, ReadsAllW.nil⟩
  | d :: ds, _, _, x, r => by
    cases x with
    | cons h1 h2 =>
      cases r with
      | cons r1 r2 =>
        obtain ⟨as, q1⟩ := Dw.reads hok KX d _ _ h1 r1
        obtain ⟨bs, q2⟩ := Dw.readsAll hok KX ds _ _ h2 r2
        exact ⟨_, ReadsAllW.cons q1 q2⟩
end
end
mutual
noncomputable def plW : WData → Bool
  | .none => true
  | .bool _ => true
  | .int _ => true
  | .str _ => true
  | .bytes _ => true
  | .list xs => plWs xs
  | .tuple xs => plWs xs
  | _ => false
noncomputable def plWs : List WData → Bool
  | [] => true
  | x :: r => plW x && plWs r
end
theorem plWs_map {α : Type} {f : α → WData} (h : ∀ a, plW (f a) = true) : ∀ l : List α, plWs (l.map f) = true
  | [] => rfl
  | x :: r => by
    show (plW (f x) && plWs (r.map f)) = true
    rw [h x, plWs_map h r] <;> rfl
theorem pl_enc : ∀ (c : Codec) (a : c.denote), plW (c.enc a) = true
  | .unit, _ => rfl
  | .bool, _ => rfl
  | .int _ _, _ => rfl
  | .nat _ _, _ => rfl
  | .u8, _ => rfl
  | .bytes _ _, _ => rfl
  | .text _ _ _ _, _ => rfl
  | .list _ _ c, a => plWs_map (fun x => pl_enc c x) a
  | .pair c d, a => by
    show (plW (c.enc a.1) && (plW (d.enc a.2) && true)) = true
    rw [pl_enc c a.1, pl_enc d a.2] <;> rfl
  | .triple c d e, a => by
    show (plW (c.enc a.1) && (plW (d.enc a.2.1) && (plW (e.enc a.2.2) && true))) = true
    rw [pl_enc c a.1, pl_enc d a.2.1, pl_enc e a.2.2] <;> rfl
  | .option c, none => rfl
  | .option c, some x => pl_enc c x
theorem pl_encAll : ∀ (cs : List Codec) (a : Codec.denoteAll cs), plWs (Codec.encAll cs a) = true
  | [], _ => rfl
  | c :: cs, a => by
    show (plW (c.enc a.1) && plWs (Codec.encAll cs a.2)) = true
    rw [pl_enc c a.1, pl_encAll cs a.2] <;> rfl
theorem weight_mem : ∀ {xs : List WData} {d : WData}, d ∈ xs → d.weight ≤ WData.weightAll xs
  | [], d, h => absurd h (by simp)
  | x :: r, d, h => by
    show d.weight ≤ x.weight + 1 + WData.weightAll r
    rcases List.mem_cons.mp h with e | m
    · rw [e]
      omega
    · have z := weight_mem m
      omega
noncomputable def toV : Value → V
  | .none => .non
  | .bool b => .bl b
  | .int i _ => .int i
  | .str x _ => .str x
  | .bytes b _ => .byt b
  | .ref a => .ref a
  | _ => .non
noncomputable def OkU (A : List Addr) : Value → Prop
  | .none => True
  | .bool _ => True
  | .int _ _ => True
  | .str _ _ => True
  | .bytes _ _ => True
  | .ref a => a ∈ A
  | _ => False
theorem OkU.mono {A B : List Addr} (h : ∀ a ∈ A, a ∈ B) : ∀ {u : Value}, OkU A u → OkU B u := fun {u} x => by
  cases u with
  | ref a => exact h a x
  | none => trivial
  | bool b => trivial
  | int i t => trivial
  | str s t => trivial
  | bytes b t => trivial
  | _ => exact False.elim x
theorem relV_toV {A : List Addr} {u : Value} (x : OkU A u) : RelV (toV u) u := by
  cases u with
  | ref a => rfl
  | none => rfl
  | bool b => rfl
  | int i t => exact ⟨t, rfl⟩
  | str s t => exact ⟨t, rfl⟩
  | bytes b t => exact ⟨t, rfl⟩
  | _ => exact False.elim x
theorem vals_toV {A : List Addr} : ∀ {vs : List Value}, (∀ u ∈ vs, OkU A u) → Vals (vs.map toV) vs
  | [], _ => .nil
  | u :: r, h => .cons (relV_toV (h u (List.mem_cons_self ..))) (vals_toV fun x hx => h x (List.mem_cons_of_mem _ hx))
noncomputable def ArgOb (h : Heap) (A : List Addr) (a : Addr) : Prop := ∃ vs : List Value, vs.length ≤ sizeLine ∧ (∀ u ∈ vs, OkU A u) ∧
  (h.get? a = some { cls := .type "list", data := .seq vs.toArray } ∨ h.get? a = some { cls := .type "tuple", data := .seq vs.toArray })
theorem ArgOb.mono {h : Heap} {A B : List Addr} {a : Addr} (k : ∀ a ∈ A, a ∈ B) (x : ArgOb h A a) : ArgOb h B a := by
  obtain ⟨vs, h1, h2, h3⟩ := x
  exact ⟨vs, h1, fun u hu => (h2 u hu).mono k, h3⟩
theorem wellAll_len {P : Params} {h : Heap} : ∀ {vs : List Value} {ds : List WData}, WellAll P h vs ds → vs.length = ds.length
  | _, _, .nil => rfl
  | _, _, .cons _ b => by
    show _ + 1 = _ + 1
    rw [wellAll_len b]
theorem well_list {P : Params} {h : Heap} {v : Value} {ds : List WData} (x : Well P h v (.list ds)) : ∃ (a : Addr) (vs : List Value), v = .ref a ∧ h.get? a = some { cls := .type "list", data := .seq vs.toArray } ∧ WellAll P h vs ds := by
  cases x with
  | list ho hall => exact ⟨_, _, rfl, ho, hall⟩
theorem well_tuple {P : Params} {h : Heap} {v : Value} {ds : List WData} (x : Well P h v (.tuple ds)) : ∃ (a : Addr) (vs : List Value), v = .ref a ∧ h.get? a = some { cls := .type "tuple", data := .seq vs.toArray } ∧ WellAll P h vs ds := by
  cases x with
  | tuple ho hall => exact ⟨_, _, rfl, ho, hall⟩
theorem well_cons {P : Params} {h : Heap} {us : List Value} {d : WData} {ds : List WData} (x : WellAll P h us (d :: ds)) : ∃ (v : Value) (vs : List Value), us = v :: vs ∧ Well P h v d ∧ WellAll P h vs ds := by
  cases x with
  | cons a b => exact ⟨_, _, rfl, a, b⟩
theorem line_of {n : Nat} (h : n ≤ 1048576) : n ≤ sizeLine := Nat.le_trans h (by decide)
section
variable {P : Params} {h : Heap}
mutual
theorem area_one : ∀ (d : WData) (v : Value), Well P h v d → plW d = true → d.weight ≤ 1048576 → ∃ A : List Addr, OkU A v ∧ ∀ a ∈ A, ArgOb h A a
  | .none, _, x, _, _ => by
    cases x
    exact ⟨[], trivial, fun a m => absurd m (by simp)⟩
  | .bool b, _, x, _, _ => by
    cases x
    exact ⟨[], trivial, fun a m => absurd m (by simp)⟩
  | .int i, _, x, _, _ => by
    cases x
    exact ⟨[], trivial, fun a m => absurd m (by simp)⟩
  | .str s, _, x, _, _ => by
    cases x
    exact ⟨[], trivial, fun a m => absurd m (by simp)⟩
  | .bytes b, _, x, _, _ => by
    cases x
    exact ⟨[], trivial, fun a m => absurd m (by simp)⟩
  | .list ds, _, x, p, z => by
    obtain ⟨a, vs, rfl, ho, hall⟩ := well_list x
    have z2 : WData.weightAll ds ≤ 1048576 := z
    obtain ⟨A, h1, h2⟩ := area_all ds _ hall p fun d hd => Nat.le_trans (weight_mem hd) z2
    have k : ∀ b ∈ A, b ∈ a :: A := fun b hb => List.mem_cons_of_mem _ hb
    refine ⟨a :: A, List.mem_cons_self .., fun b hb => ?_⟩
    rcases List.mem_cons.mp hb with e | m
    · rw [e]
      exact ⟨vs, line_of (by rw [wellAll_len hall]; exact Nat.le_trans (PySem.W.length_le_weightAllW ds) z2), fun u hu => (h1 u hu).mono k, .inl ho⟩
    · exact (h2 b m).mono k
  | .tuple ds, _, x, p, z => by
    obtain ⟨a, vs, rfl, ho, hall⟩ := well_tuple x
    have z2 : WData.weightAll ds ≤ 1048576 := z
    obtain ⟨A, h1, h2⟩ := area_all ds _ hall p fun d hd => Nat.le_trans (weight_mem hd) z2
    have k : ∀ b ∈ A, b ∈ a :: A := fun b hb => List.mem_cons_of_mem _ hb
    refine ⟨a :: A, List.mem_cons_self .., fun b hb => ?_⟩
    rcases List.mem_cons.mp hb with e | m
    · rw [e]
      exact ⟨vs, line_of (by rw [wellAll_len hall]; exact Nat.le_trans (PySem.W.length_le_weightAllW ds) z2), fun u hu => (h1 u hu).mono k, .inr ho⟩
    · exact (h2 b m).mono k
  | .float _, _, _, p, _ => Bool.noConfusion (show false = true from p)
  | .dict _, _, _, p, _ => Bool.noConfusion (show false = true from p)
  | .bytearray _, _, _, p, _ => Bool.noConfusion (show false = true from p)
  | .set _, _, _, p, _ => Bool.noConfusion (show false = true from p)
  | .frozenset _, _, _, p, _ => Bool.noConfusion (show false = true from p)
  | .obj _ _, _, _, p, _ => Bool.noConfusion (show false = true from p)
theorem area_all : ∀ (ds : List WData) (vs : List Value), WellAll P h vs ds → plWs ds = true → (∀ d ∈ ds, d.weight ≤ 1048576) → ∃ A : List Addr, (∀ u ∈ vs, OkU A u) ∧ ∀ a ∈ A, ArgOb h A a
  | [], _, x, _, _ => by
    cases x
    exact ⟨[], fun u m => absurd m (by simp), fun a m => absurd m (by simp)⟩
  | d :: ds, _, x, p, z => by
    obtain ⟨v, vs, rfl, x1, x2⟩ := well_cons x
    have q : plW d = true ∧ plWs ds = true := Bool.and_eq_true_iff.mp p
    obtain ⟨A, a1, a2⟩ := area_one d v x1 q.1 (z d (List.mem_cons_self ..))
    obtain ⟨B, b1, b2⟩ := area_all ds vs x2 q.2 fun e he => z e (List.mem_cons_of_mem _ he)
    have kA : ∀ b ∈ A, b ∈ A ++ B := fun b hb => List.mem_append.mpr (.inl hb)
    have kB : ∀ b ∈ B, b ∈ A ++ B := fun b hb => List.mem_append.mpr (.inr hb)
    refine ⟨A ++ B, fun u hu => ?_, fun b hb => ?_⟩
    · rcases List.mem_cons.mp hu with e | m
      · rw [e]
        exact a1.mono kA
      · exact (b1 u m).mono kB
    · rcases List.mem_append.mp hb with m | m
      · exact (a2 b m).mono kA
      · exact (b2 b m).mono kB
end
end
noncomputable def hoOf (o : Obj) : Option HO := match o.data with
  | .seq vs _ => if (o.cls == Value.type "list") = true then some (.frz o (.lst (vs.toList.map toV))) else some (.frz o (.tup (vs.toList.map toV)))
  | _ => none
noncomputable def argH (K : PySem.W.Frag) (h : Heap) (A : List Addr) : Hp := fun b => if b ∈ A then (if (K.lookup b).isNone = true then (h.get? b).bind hoOf else none) else none
noncomputable def OnlyF (H : Hp) : Prop := ∀ b, H b = none ∨ ∃ o u, H b = some (.frz o u)
theorem hoOf_lst (vs : List Value) : hoOf { cls := .type "list", data := .seq vs.toArray } = some (.frz { cls := .type "list", data := .seq vs.toArray } (.lst (vs.map toV))) := by
  show (if (Value.type "list" == Value.type "list") = true then some (HO.frz { cls := .type "list", data := .seq vs.toArray } (.lst (vs.toArray.toList.map toV))) else some (HO.frz { cls := .type "list", data := .seq vs.toArray } (.tup (vs.toArray.toList.map toV)))) = _
  rw [if_pos (beq_self_eq_true _)]
theorem hoOf_tup (vs : List Value) : hoOf { cls := .type "tuple", data := .seq vs.toArray } = some (.frz { cls := .type "tuple", data := .seq vs.toArray } (.tup (vs.map toV))) := by
  show (if (Value.type "tuple" == Value.type "list") = true then some (HO.frz { cls := .type "tuple", data := .seq vs.toArray } (.lst (vs.toArray.toList.map toV))) else some (HO.frz { cls := .type "tuple", data := .seq vs.toArray } (.tup (vs.toArray.toList.map toV)))) = _
  rw [if_neg (by decide)]
section
variable {P : Program} {w : World} {K : PySem.W.Frag} {h : Heap} {A : List Addr}
theorem argH_at {b : Addr} {o : Obj} (hb : b ∈ A) (hk : K.lookup b = none) (e : h.get? b = some o) : argH K h A b = hoOf o := by
  unfold argH
  rw [if_pos hb, hk, if_pos (show (none : Option Obj).isNone = true from rfl), e] <;> rfl
theorem of_argH {b : Addr} {u : HO} (q : argH K h A b = some u) : b ∈ A ∧ K.lookup b = none := by
  unfold argH at q
  by_cases hb : b ∈ A
  · rw [if_pos hb] at q
    cases hk : K.lookup b with
    | none => exact ⟨hb, rfl⟩
    | some o =>
      rw [hk, if_neg (by simp)] at q
      cases q
  · rw [if_neg hb] at q
    cases q
theorem argH_is (ar : ∀ a ∈ A, ArgOb h A a) {b : Addr} {u : HO} (q : argH K h A b = some u) : K.lookup b = none ∧ ∃ vs : List Value, vs.length ≤ sizeLine ∧ (∀ u ∈ vs, OkU A u) ∧
    ((h.get? b = some { cls := .type "list", data := .seq vs.toArray } ∧ u = .frz { cls := .type "list", data := .seq vs.toArray } (.lst (vs.map toV))) ∨
     (h.get? b = some { cls := .type "tuple", data := .seq vs.toArray } ∧ u = .frz { cls := .type "tuple", data := .seq vs.toArray } (.tup (vs.map toV)))) := by
  obtain ⟨hb, hk⟩ := of_argH q
  obtain ⟨vs, h1, h2, h3⟩ := ar b hb
  refine ⟨hk, vs, h1, h2, ?_⟩
  rcases h3 with e | e
  · rw [argH_at hb hk e, hoOf_lst] at q
    exact .inl ⟨e, (Option.some.inj q).symm⟩
  · rw [argH_at hb hk e, hoOf_tup] at q
    exact .inr ⟨e, (Option.some.inj q).symm⟩
theorem argH_only (ar : ∀ a ∈ A, ArgOb h A a) : OnlyF (argH K h A) := fun b => by
  cases q : argH K h A b with
  | none => exact .inl rfl
  | some u =>
    obtain ⟨_, vs, _, _, ⟨_, e⟩ | ⟨_, e⟩⟩ := argH_is ar q
    · exact .inr ⟨_, _, by rw [e]⟩
    · exact .inr ⟨_, _, by rw [e]⟩
theorem argH_ok (ar : ∀ a ∈ A, ArgOb h A a) : HOk P w (argH K h A) h := fun b u q => by
  obtain ⟨_, vs, h1, h2, ⟨e, rfl⟩ | ⟨e, rfl⟩⟩ := argH_is ar q
  · exact ⟨e, by rw [List.length_map]; exact h1, vs, _, vals_toV h2, e⟩
  · exact ⟨e, by rw [List.length_map]; exact h1, vs, vals_toV h2, _, e, rfl, _, rfl⟩
theorem seq_inj {c c' : Value} {vs us : List Value} (e : (some { cls := c, data := .seq vs.toArray } : Option Obj) = some { cls := c', data := .seq us.toArray }) : c = c' ∧ vs = us := by
  have e1 := Option.some.inj e
  have e2 : c = c' := congrArg Obj.cls e1
  have e3 : Data.seq vs.toArray = Data.seq us.toArray := congrArg Obj.data e1
  injection e3 with e4
  refine ⟨e2, ?_⟩
  have e5 := congrArg Array.toList e4
  simpa using e5
theorem argL (KX : K.In h) (ar : ∀ a ∈ A, ArgOb h A a) {a : Addr} {vs : List Value} (ha : a ∈ A) (e : h.get? a = some { cls := .type "list", data := .seq vs.toArray }) : (∀ u ∈ vs, OkU A u) ∧ SqL K (argH K h A) a (vs.map toV) := by
  obtain ⟨us, h1, h2, h3⟩ := ar a ha
  have hu : us = vs := by
    rcases h3 with q | q
    · rw [e] at q
      exact (seq_inj q).2.symm
    · rw [e] at q
      exact absurd (Value.type.inj (seq_inj q).1) (by decide)
  subst hu
  refine ⟨h2, ?_⟩
  cases hk : K.lookup a with
  | none => exact .inl (.inr ⟨_, by rw [argH_at ha hk e, hoOf_lst]⟩)
  | some o =>
    have e2 := KX a o hk
    rw [e] at e2
    obtain rfl := Option.some.inj e2
    exact .inr ⟨_, us.toArray, _, hk, rfl, rfl, rfl, by rw [List.size_toArray]; exact h1, by simpa using vals_toV h2⟩
theorem argT (KX : K.In h) (ar : ∀ a ∈ A, ArgOb h A a) {a : Addr} {vs : List Value} (ha : a ∈ A) (e : h.get? a = some { cls := .type "tuple", data := .seq vs.toArray }) : (∀ u ∈ vs, OkU A u) ∧ SqT K (argH K h A) a (vs.map toV) := by
  obtain ⟨us, h1, h2, h3⟩ := ar a ha
  have hu : us = vs := by
    rcases h3 with q | q
    · rw [e] at q
      exact absurd (Value.type.inj (seq_inj q).1) (by decide)
    · rw [e] at q
      exact (seq_inj q).2.symm
  subst hu
  refine ⟨h2, ?_⟩
  cases hk : K.lookup a with
  | none => exact .inl (.inr ⟨_, by rw [argH_at ha hk e, hoOf_tup]⟩)
  | some o =>
    have e2 := KX a o hk
    rw [e] at e2
    obtain rfl := Option.some.inj e2
    exact .inr ⟨_, us.toArray, _, hk, rfl, rfl, by rw [List.size_toArray]; exact h1, by simpa using vals_toV h2⟩
mutual
theorem dw_one {Pm : Params} (KX : K.In h) (ar : ∀ a ∈ A, ArgOb h A a) : ∀ (d : WData) (v : Value), Well Pm h v d → plW d = true → OkU A v → Dw K (argH K h A) (toV v) d
  | .none, _, x, _, _ => by
    cases x
    exact .non
  | .bool b, _, x, _, _ => by
    cases x
    exact .bl b
  | .int i, _, x, _, _ => by
    cases x
    exact .int i
  | .str s, _, x, _, _ => by
    cases x
    exact .str s
  | .bytes b, _, x, _, _ => by
    cases x
    have z := Dw.byt (K := K) (H := argH K h A) b.toArray
    exact z
  | .list ds, _, x, p, hu => by
    obtain ⟨a, vs, rfl, ho, hall⟩ := well_list x
    obtain ⟨h2, hs⟩ := argL KX ar hu ho
    exact .lst hs (dw_all KX ar ds _ hall p h2)
  | .tuple ds, _, x, p, hu => by
    obtain ⟨a, vs, rfl, ho, hall⟩ := well_tuple x
    obtain ⟨h2, hs⟩ := argT KX ar hu ho
    exact .tup hs (dw_all KX ar ds _ hall p h2)
  | .float _, _, _, p, _ => Bool.noConfusion (show false = true from p)
  | .dict _, _, _, p, _ => Bool.noConfusion (show false = true from p)
  | .bytearray _, _, _, p, _ => Bool.noConfusion (show false = true from p)
  | .set _, _, _, p, _ => Bool.noConfusion (show false = true from p)
  | .frozenset _, _, _, p, _ => Bool.noConfusion (show false = true from p)
  | .obj _ _, _, _, p, _ => Bool.noConfusion (show false = true from p)
theorem dw_all {Pm : Params} (KX : K.In h) (ar : ∀ a ∈ A, ArgOb h A a) : ∀ (ds : List WData) (vs : List Value), WellAll Pm h vs ds → plWs ds = true → (∀ u ∈ vs, OkU A u) → DwAll K (argH K h A) (vs.map toV) ds
  | [], _, x, _, _ => by
    cases x
    exact .nil
  | d :: ds, _, x, p, hu => by
    obtain ⟨v, vs, rfl, x1, x2⟩ := well_cons x
    have q : plW d = true ∧ plWs ds = true := Bool.and_eq_true_iff.mp p
    exact .cons (dw_one KX ar d v x1 q.1 (hu _ (List.mem_cons_self ..))) (dw_all KX ar ds vs x2 q.2 fun u m => hu u (List.mem_cons_of_mem _ m))
end
end
theorem spec_call {P : Program} {w : World} {K : PySem.W.Frag} {mg mb : Str → Option Value} {CX : CXT} {k : Nat} {fa : Addr} {fd : FuncData} {ps : List Str} {sp : Sp} {s₁ : Shared} {vals : List Value} {ds : List WData} {R : PySem.W.WRecords} {cl : Str → Option Addr} {d0 : WData}
    (KX : K.In s₁.heap) (hns : s₁.heap.Ns mainGlobals mg) (hb : s₁.heap.Ns builtinsNs mb) (hbb : ∀ x : Str, x ≠ "__name__" → mb x = bootBuiltins x) (hlim : s₁.heap.NoLimit) (hg : s₁.gens = #[])
    (hwl : WellAll w.params s₁.heap vals ds) (hpl : plWs ds = true) (hwt : ∀ d ∈ ds, d.weight ≤ 1048576) (hr : Room k callerA)
    (F : ∀ base : Heap, K.In base → base.Ns mainGlobals mg → FnOk P w K mg base CX k fa fd ps sp) (hbind : ∀ (s : Shared) (us : List Value), us.length = ps.length → BindsTo s fd ⟨us, []⟩ (ps.zip us)) (hlen : ds.length = ps.length)
    (hsp : ∀ (H : Hp) (xs : List V), OnlyF H → DwAll K H xs ds → sp xs H (fun v H' => Dw K H' v d0) fun _ _ _ => False)
    (hCX : ∀ H e s', CX [] H s₁ (fun _ _ _ => False) e s' → False) :
    codeAny (model P w) callerA (.call (.ref fa) ⟨vals, []⟩) (fun r s' => ∃ u as, r = .ok (.ret u) ∧ ReadsW R cl s'.heap u d0 as ∧ OldK s₁.heap s'.heap ∧ s'.os = s₁.os ∧ AllBare s'.gens) s₁ := by
  obtain ⟨A, ho, ar⟩ := area_all ds vals hwl hpl hwt
  have hO : OnlyF (argH K s₁.heap A) := argH_only ar
  have hok : HOk P w (argH K s₁.heap A) s₁.heap := argH_ok ar
  have hS := dw_all KX ar ds vals hwl hpl ho
  have hV := vals_toV ho
  have hK : ∀ b u, argH K s₁.heap A b = some u → K.lookup b = none := fun b u q => (argH_is ar q).1
  have noA : ∀ {b : Addr} {o : Obj} {es : Array DictEntry} {ep : Nat}, s₁.heap.get? b = some o → o.data = .dict es ep → argH K s₁.heap A b = none := fun {b o es ep} e d => by
    cases q : argH K s₁.heap A b with
    | none => rfl
    | some u =>
      obtain ⟨_, vs, _, _, ⟨e2, _⟩ | ⟨e2, _⟩⟩ := argH_is ar q
      · rw [e2] at e
        cases e
        have d' : Data.seq vs.toArray _ = Data.dict es ep := d
        cases d'
      · rw [e2] at e
        cases e
        have d' : Data.seq vs.toArray _ = Data.dict es ep := d
        cases d'
  generalize argH K s₁.heap A = H at hO hok hS hK noA
  have base_of : ∀ {b : Addr} {o : Obj}, s₁.heap.get? b = some o → H b = none → (hidT s₁.heap H).get? b = some o := fun e n => hidT_get e n
  have nsK : ∀ {b : Addr} {m : Str → Option Value}, s₁.heap.Ns b m → (hidT s₁.heap H).Ns b m := fun {b m} ⟨o, es, ep, e, d, r⟩ => ⟨o, es, ep, base_of e (noA e d), d, r⟩
  have nK : ∀ b o, K.lookup b = some o → H b = none := fun b o e => by
    cases q : H b with
    | none => rfl
    | some u =>
      rw [hK b u q] at e
      cases e
  have hKb : K.In (hidT s₁.heap H) := fun b o e => base_of (KX b o e) (nK b o e)
  have hM : Mod K mg (hidT s₁.heap H) := ⟨hKb, nsK hns, ⟨mb, nsK hb, hbb⟩, let ⟨mc, h1, h2⟩ := hlim; ⟨mc, nsK h1, h2⟩⟩
  have e0 : Env0 P w K mg (hidT s₁.heap H) callerA [] s₁ H := ⟨rfl, hM, fun b o e => of_hidT e, Nat.le_of_eq (hidT_size _ _), trivial, fun b hb => absurd (show b ∈ ([] : List Addr) from hb) (by simp), hok, .of_eq hg⟩
  have hl : vals.length = ps.length := by rw [wellAll_len hwl]; exact hlen
  refine codeAny_mono ((F _ hKb (nsK hns)).run callerA [] s₁ H ⟨vals, []⟩ vals (vals.map toV) _ _ hr e0 (hbind s₁ vals hl) hV (hsp H _ hO hS)) fun r s' x => ?_
  cases r with
  | error e => exact (hCX H e s' x).elim
  | ok fl =>
    cases fl with
    | next => exact False.elim x
    | brk => exact False.elim x
    | cont => exact False.elim x
    | ret u =>
      obtain ⟨v, H', os, bare, un, hok', r', q⟩ := x
      have kept : ∀ b o, s₁.heap.get? b = some o → s'.heap.get? b = some o := fun b o e => by
        cases q2 : H b with
        | none => exact un.keep b o e q2 (by intro z; exact absurd (show b ∈ ([] : List Addr) from z) (by simp)) (by simp)
        | some u2 =>
          rcases hO b with z | ⟨ob, u3, z⟩
          · rw [q2] at z
            cases z
          · have z2 := un.frzs b ob _ z
            obtain ⟨e1, _⟩ := hok b _ z
            obtain ⟨e2, _⟩ := hok' b _ z2
            rw [e] at e1
            cases e1
            exact e2
      have KX' : K.In s'.heap := fun b o e => kept b o (KX b o e)
      obtain ⟨as, hrd⟩ := Dw.reads (R := R) (cl := cl) hok' KX' d0 v u q r'
      exact ⟨u, as, rfl, hrd, OldK.of_keep kept, os, bare⟩
theorem layable_weight {ds : List WData} (h : WData.layableAll ds = true) : ∀ d ∈ ds, d.weight ≤ 1048576 := fun d hd =>
  (PySem.W.layableW_iff.mp (List.all_eq_true.mp h d hd)).2.2
theorem encAll_len : ∀ (cs : List Codec) (a : Codec.denoteAll cs), (Codec.encAll cs a).length = cs.length
  | [], _ => rfl
  | c :: cs, a => by
    show (Codec.encAll cs a.2).length + 1 = cs.length + 1
    rw [encAll_len cs a.2]
theorem walk_spec {r : OpenSpec} {k : Nat} {q : Program} {loose : List Str} {XP : (Str → Option Value) → Heap → Prop} {YP : World → Heap → Prop} {d : DefRec} {K : Params → PySem.W.Frag} {CX : World → CXT} {ps : List Str} {sp : World → Sp}
    (hwell : r.wellSaid = true) (hdf : d.params.defaults = []) (hlen : r.args.length = ps.length) (hr : Room k callerA)
    (hY : ∀ (w : World) (h : Heap), YP w h → (K w.params).In h)
    (F : ∀ (w : World) (mg : Str → Option Value) (fa : Addr) (h : Heap), YP w h → (K w.params).In h → h.Ns mainGlobals mg → mg d.name = some (.ref fa) →
      ∃ fd : FuncData, (∀ (s : Shared) (us : List Value), us.length = ps.length → BindsTo s fd ⟨us, []⟩ (ps.zip us)) ∧
        ∀ base : Heap, (K w.params).In base → base.Ns mainGlobals mg → FnOk r.prog w (K w.params) mg base (CX w) k fa fd ps (sp w))
    (hsp : ∀ (w : World) (H : Hp) (xs : List V) (a : Codec.denoteAll r.args), OnlyF H → Codec.withinAll r.args a = true → Codec.app r.args r.asked a = true → DwAll (K w.params) H xs (Codec.encAll r.args a) →
      sp w xs H (fun v H' => Dw (K w.params) H' v (r.ret.enc (Codec.app r.args r.f a))) fun _ _ _ => False)
    (hCX : ∀ (w : World) (H : Hp) (s : Shared) (e : Value) (s' : Shared), CX w [] H s (fun _ _ _ => False) e s' → False) :
    PySem.W.WalkOS q loose XP YP r d [] (fun f vs => PySem.call f vs) := by
  intro w s_0 s₁ mg mb G Y fa o pm cd doc dV kV ho hd hcd hD hmg hg args vals as hpre hlay hrd hwl hlo
  obtain ⟨a, e1, e2⟩ := PySem.W.os_pre_some hpre
  obtain ⟨e3, hwi⟩ := Codec.encAll_of_decAll r.args args a e1
  subst e3
  have KX := hY w _ Y
  obtain ⟨fd, hb, hF⟩ := F w mg fa _ Y KX G.T.g hmg
  refine PySem.W.enter_call (codeAny_mono (spec_call (R := []) (cl := classAt s_0.heap) (d0 := r.ret.enc (Codec.app r.args r.f a)) KX G.T.g G.T.b G.T.builtins G.T.nolimit hg hwl (pl_encAll _ _) (layable_weight hlay) hr hF hb (by rw [encAll_len]; exact hlen)
    (fun H xs hO hS => hsp w H xs a hO hwi e2 hS) fun H e s' => hCX w H s₁ e s') fun r' s' hq => ?_)
  obtain ⟨u, as', rfl, h1, h2, h3, h4⟩ := hq
  exact ⟨.inl ⟨u, _, as', rfl, fun _ => rfl, h1, (OpenSpec.post_iff hwell hwi _ _).mpr rfl, fun z => Bool.noConfusion (show false = true from z)⟩, h2, h3, h4⟩
theorem walk_specK {r : OpenSpec} {k : Nat} {q : Program} {loose : List Str} {XP : (Str → Option Value) → Heap → Prop} {YP : World → Heap → Prop} {d : DefRec} {K : Params → PySem.W.Frag} {CX : CXT} {ps : List Str} {sp : PySem.W.Frag → Sp}
    (hwell : r.wellSaid = true) (hdf : d.params.defaults = []) (hlen : r.args.length = ps.length) (hr : Room k callerA)
    (hY : ∀ (w : World) (h : Heap), YP w h → (K w.params).In h)
    (F : ∀ (w : World) (mg : Str → Option Value) (fa : Addr) (h : Heap), YP w h → (K w.params).In h → h.Ns mainGlobals mg → mg d.name = some (.ref fa) →
      ∃ fd : FuncData, (∀ (s : Shared) (us : List Value), us.length = ps.length → BindsTo s fd ⟨us, []⟩ (ps.zip us)) ∧
        ∀ base : Heap, (K w.params).In base → base.Ns mainGlobals mg → FnOk r.prog w (K w.params) mg base CX k fa fd ps (sp (K w.params)))
    (hsp : ∀ (K : PySem.W.Frag) (H : Hp) (xs : List V) (a : Codec.denoteAll r.args), OnlyF H → Codec.withinAll r.args a = true → Codec.app r.args r.asked a = true → DwAll K H xs (Codec.encAll r.args a) →
      sp K xs H (fun v H' => Dw K H' v (r.ret.enc (Codec.app r.args r.f a))) fun _ _ _ => False)
    (hCX : ∀ (H : Hp) (s : Shared) (e : Value) (s' : Shared), CX [] H s (fun _ _ _ => False) e s' → False) :
    PySem.W.WalkOS q loose XP YP r d [] (fun f vs => PySem.call f vs) :=
  walk_spec (K := K) (CX := fun _ => CX) (sp := fun w => sp (K w.params)) hwell hdf hlen hr hY F (fun w H xs a h1 h2 h3 h4 => hsp (K w.params) H xs a h1 h2 h3 h4) fun _ H s e s' => hCX H s e s'
end L2
end
end
section
namespace PySem
section
variable {prog : Program} {w : World} {K : Type} [DecidableEq K] {knd : HeapKind prog w K} {A : Around} {E : Value → Shared → Prop} {s : Shared}
theorem erase_filter {β : Type} (f : K × Addr × Value → β) (k : K) : ∀ {xs : List (K × Addr × Value)} {j : Nat} {p : Addr × Value}, (xs.map (·.1)).Nodup → xs[j]? = some (k, p) →
    (xs.map f).eraseIdx j = (xs.filter fun x => decide (x.1 ≠ k)).map f := by
  intro xs
  induction xs with
  | nil => intro j p _ hj; simp at hj
  | cons x rest ih =>
    intro j p hn hj
    rw [List.map_cons, List.nodup_cons] at hn
    cases j with
    | zero =>
      simp only [List.getElem?_cons_zero, Option.some.injEq] at hj
      subst hj
      rw [List.map_cons, List.eraseIdx_cons_zero, List.filter_cons, if_neg (by simp)]
      have : rest.filter (fun x => decide (x.1 ≠ k)) = rest := List.filter_eq_self.mpr fun y hy => decide_eq_true fun e => hn.1 (List.mem_map.mpr ⟨y, hy, e⟩)
      rw [this]
    | succ j =>
      simp only [List.getElem?_cons_succ] at hj
      have hmem : k ∈ rest.map (·.1) := List.mem_map.mpr ⟨(k, p), List.mem_of_getElem? hj, rfl⟩
      have hne : x.1 ≠ k := fun e => hn.1 (e ▸ hmem)
      rw [List.map_cons, List.eraseIdx_cons_succ, List.filter_cons, if_pos (decide_eq_true hne), List.map_cons, ih hn.2 hj]
theorem wpAny_takeOut_heap {d a : Addr} {xs : List (K × Addr × Value)} {k : K} {p : Addr × Value} {Q : Option DictEntry → Shared → Prop} (hu : knd.room A) (hkey : knd.is s.heap k a) (hm : s.heap.DictOfH knd d xs)
    (hp : atKey xs k = some p) (hQ : ∀ e h', e.val = p.2 → h'.DictOfH knd d (xs.filter fun x => decide (x.1 ≠ k)) → Heap.SameBut d s.heap h' → Q (some e) { s with heap := h', toks := s.toks + knd.draws k })
    (hsz : xs.length ≤ sizeLine) : wpAny (model prog w) A (Builtin.Dict.takeOut d (.ref a)) Q E s := by
  obtain ⟨o, es, ep, ho, hc, hd, he, his, hn⟩ := hm
  unfold Builtin.Dict.takeOut
  try with_reducible refine wpAny_holding ?_
  refine wpAny_bind (knd.pyHash hu hkey ?_)
  refine wpAny_bind (wpAny_dictFind_heap (s := { s with toks := s.toks + knd.draws k }) hu hkey ho hd he his hn ?_ ?_)
  · intro hno
    rw [atKey_none_of_get hno] at hp
    cases hp
  · intro j q hj
    have eq : p = q := by
      rw [atKey_of_get hn hj] at hp
      exact (Option.some.inj hp).symm
    subst eq
    refine wpAny_bind (wpAny_dictEntries (s := { s with toks := s.toks + knd.draws k }) ho hd ?_)
    have hej : es[j]? = some (entryOfKey knd (k, p)) := by rw [entry_at he j, hj]; rfl
    rw [hej]
    refine wpAny_bind (wpAny_updateDictKeys (hz := by have e := size_of_entries he; lia) (s := { s with toks := s.toks + knd.draws k }) ho hd (wpAny_pure (hQ _ _ rfl ⟨_, _, ep + 1, Heap.get?_update_self _ ho (Obj.isFreed_of_dict (Obj.data_mapDictKeys hd _)),
      hc.mapDictKeys _, Obj.data_mapDictKeys hd _, ?_, ?_, ?_⟩ (Heap.SameBut.update ..))))
    · have := erase_filter (entryOfKey knd) k hn hj
      rw [← this, ← he]
      obtain ⟨l⟩ := es
      simp
    · intro x hx
      exact knd.keeps (his x (List.mem_filter.mp hx).1) ho hd (Heap.SameBut.update ..)
    · exact hn.sublist (List.filter_sublist.map _)
theorem meetsH_dict_pop (d a : Addr) (hpart : keyPart (.ref a) = none) :
    MeetsIn prog w (Builtin.«dict.pop» ⟨[.ref d, .ref a], []⟩) (fun A R s => knd.room A.in1 ∧ ∃ k xs p, knd.is s.heap k a ∧ s.heap.DictOfH knd d xs ∧ atKey xs k = some p ∧ xs.length ≤ sizeLine ∧
      ∀ h', h'.DictOfH knd d (xs.filter fun x => decide (x.1 ≠ k)) → Heap.SameBut d s.heap h' → R (.ok (.ret p.2)) { s with heap := h', toks := s.toks + knd.draws k }) :=
  .of_wp fun A R s ⟨hu, k, xs, p, hkey, hm, hp, hsz, h⟩ => by
    unfold Builtin.«dict.pop»
    refine wpAny_bind ?_
    unfold Builtin.Dict.keyAndDefault
    refine wpAny_bind (wpAny_notOrdered_dict hm.typeIs ?_)
    show wpAny _ _ (pure (d, Value.ref a, none)) _ _ s
    refine wpAny_pure ?_
    simp only [hpart, Option.isSome_none, Bool.false_eq_true, if_false]
    obtain ⟨o, es, ep, ho, hc, hd, he, his, hn⟩ := id hm
    refine wpAny_bind (wpAny_dictEntries ho hd (wpAny_bind (wpAny_pure ?_)))
    have hne : es.isEmpty = false := by
      have e := size_of_entries he
      cases xs with
      | nil => cases hp
      | cons x xs =>
        rw [List.length_cons] at e
        simp [Array.isEmpty, e]
    rw [hne]
    simp only [Bool.false_eq_true, if_false]
    refine wpAny_bind (wpAny_takeOut_heap hu hkey hm hp (fun e h' ev hm' hs' => ?_) hsz)
    simp only [Option.isNone_some, Bool.false_eq_true, if_false]
    exact wpAny_bind (wpAny_letGo (wpAny_pure ⟨e.val, rfl, by rw [ev]; exact h h' hm' hs'⟩))
end
end PySem
namespace L2
open PySem PySem.Spec PyProof.Rows
theorem KT.drop {H : Hp} (k : List Key) : ∀ {kvs : List (List Key × V)} {xs : List (List Key × Addr × Value)}, KT H kvs xs → KT H (dropK kvs k) (xs.filter fun x => decide (x.1 ≠ k))
  | _, _, .nil => .nil
  | _, _, .cons (a := p) (b := q) r t => by
    by_cases e : p.1 = k
    · rw [dropK_pos e, List.filter_cons, if_neg (by rw [← r.1]; simp [e])]
      exact KT.drop k t
    · rw [dropK_neg e, List.filter_cons, if_pos (by rw [← r.1]; simp [e])]
      exact .cons r (KT.drop k t)
section
variable {X : Cx} {pins : List (Addr × Obj)} {σ : St} {H : Hp} {s : Shared} {a b : Addr} {kvs : List (List Key × V)} {k : List Key} {A : Around} {E : Value → Shared → Prop}
theorem d_popT {v : V} {Q : Value → Shared → Prop} (hu : A.units + 1 < cLine) (I : Inv X pins σ H s) (e : H a = some (.dT kvs)) (eb : H b = some (.tup (k.map kV))) (l : valV kvs k = some v)
    (h : ∀ w' s', Inv X pins σ (upd H a (.dT (dropK kvs k))) s' → RelV v w' → Q w' s') : wpAny (model X.prog X.w) A (call (.builtin "dict.pop") [.ref a, .ref b]) Q E s := by
  obtain ⟨z, hd, xs, rel, dd⟩ := dt_of I.hok e
  have hz : xs.length ≤ sizeLine := by rw [← Paired.length rel]; exact z
  obtain ⟨w', hw, rw'⟩ := RelO.some_of (v := v) (o := (atKey xs k).map (·.2)) (by rw [← l]; exact rel.val k)
  obtain ⟨p, hp, hp2⟩ := Option.map_eq_some_iff.mp hw
  refine call_meetsIn PySem.F.slot_dict_pop dd.typeIs PySem.F.entry_dict_pop (PySem.F.args_dict_pop_2 _ _) (meetsH_dict_pop (knd := tupleKind (mixKind X.prog X.w)) a b rfl)
    ⟨tupleKind_room_in1 hu, k, xs, p, key_of I.hok eb, dd, hp, hz, fun h' dd' hs => ?_⟩
  rw [hp2]
  refine h w' _ ?_ rw'
  obtain ⟨q, es, ep, hq, h2, h3, h4, _, h5⟩ := dd'
  refine d_write I (by rw [e]; exact True.intro) hs ⟨q, hq⟩ ⟨Nat.le_trans (dropK_le kvs k) z, hd, _, (rel.drop k).keeps fun c ys ec => ?_, q, es, ep, hq, h2, h3, h4, h5⟩
  rw [zE (ne_of ec e (fun z => nomatch z))]
  exact ec
end
noncomputable def tDPopT (td ty : TE) : TE := fun σ H Q => td σ H fun x H1 => ∃ a, x = .ref a ∧ IsD H1 a ∧ ty σ H1 fun y H2 => ∃ kvs k v b, H2 a = some (.dT kvs) ∧ y = .ref b ∧ H2 b = some (.tup (k.map kV)) ∧ valV kvs k = some v ∧ Q v (upd H2 a (.dT (dropK kvs k)))
section
variable {X : Cx} {o e f : Expr} {apos cpos : Pos} {td ty tx : TE}
theorem pe_dpopT (hu : X.A.units + 1 < cLine) (ho : PE X o td) (he : PE X e ty) (m : M1 X o "pop" apos e cpos) : PE X (.Call (.Attribute o "pop" apos) [e] [] cpos) (tDPopT td ty) := by
  intro pins s σ H Q I h
  refine wpAny_Call_method m.base m.few m.line PySem.F.plainAttrs_dict PySem.F.slot_dict_pop PySem.F.type_dict_pop (thn5 (ho pins s σ H _ I h) fun u s1 x H1 I1 rx hq_ => ?_)
  obtain ⟨a, ex, d, q1⟩ := hq_
  subst ex
  obtain rfl : u = Value.ref a := rx
  obtain ⟨t1, t2, _⟩ := isD_at I1 d
  refine ⟨t1, t2, ?_⟩
  rw [m.trees]
  refine Calls.callWith_builtin rfl (Calls.evalArgs_plain (Calls.spliced_cons (thn (he pins s1 σ H1 _ I1 q1) fun iv s2 ⟨y, H2, I2, ry, kvs, k, v, b, ea, ey, eb, l, q2⟩ => Calls.spliced_nil ?_)))
  subst ey
  cases (show iv = Value.ref b from ry)
  exact d_popT hu I2 ea eb l fun w' s3 I3 rw' => ⟨v, _, I3, rw', q2⟩
end
end L2
end
namespace PZ
open PySem PySem.SeqAt PyProof.Rows
open PySem.AutoSeq1 (wpAny_loadPart')
open PySem.MeetsSeq PySem.MeetsSeq2 PySem.MeetsSeq3
noncomputable def LtOf (A : Around) (s : Shared) (y x : Value) (b : Bool) : Prop :=
  ∀ (prog : Program) (w : World) (E : Value → Shared → Prop) (Q : Value → Shared → Prop), Q (.bool b) s → wpAny (model prog w) A (richCompare .Lt y x) Q E s
noncomputable def lexA {α : Type} (eqf ltf : α → α → Bool) : List α → List α → Bool
  | [], [] => false
  | [], _ :: _ => true
  | _ :: _, [] => false
  | x :: xs, y :: ys => if eqf x y = true then lexA eqf ltf xs ys else ltf x y
noncomputable def CmpAll {α : Type} (A : Around) (s : Shared) (eqf ltf : α → α → Bool) (its its2 : Array Value) (xs ys : List α) : Prop :=
  its.size = xs.length ∧ its2.size = ys.length ∧ ∀ (j : Nat) (h1 : j < its.size) (h2 : j < its2.size) (x y : α), xs[j]? = some x → ys[j]? = some y →
    EqAt A s its[j] its2[j] (eqf x y) ∧ (eqf x y = false → LtOf A s its[j] its2[j] (ltf x y))
theorem lex_end {α : Type} (eqf ltf : α → α → Bool) {xs ys : List α} {i : Nat} (h1 : i ≤ xs.length) (h2 : i ≤ ys.length) (h : i = xs.length ∨ i = ys.length) : lexA eqf ltf (xs.drop i) (ys.drop i) = decide (xs.length < ys.length) := by
  cases e1 : xs.drop i with
  | nil =>
    have z1 : xs.length ≤ i := by simpa using e1
    cases e2 : ys.drop i with
    | nil =>
      have z2 : ys.length ≤ i := by simpa using e2
      exact (decide_eq_false (by lia)).symm
    | cons y t =>
      have z2 : ¬ ys.length ≤ i := fun z => by rw [List.drop_of_length_le z] at e2; cases e2
      exact (decide_eq_true (by lia)).symm
  | cons x r =>
    have z1 : ¬ xs.length ≤ i := fun z => by rw [List.drop_of_length_le z] at e1; cases e1
    have z2 : i = ys.length := by lia
    rw [z2, List.drop_length]
    exact (decide_eq_false (by lia)).symm
theorem lt_loop {α : Type} (eqf ltf : α → α → Bool) (xs ys : List α) (l b : Addr) (its its2 : Array Value) (n n2 : Nat) (dd dd2 : Option Addr) (sl sl2 : Array (Option Value)) (k : Nat) :
    ∀ i : Nat, its.size - i = k → i ≤ its.size → i ≤ its2.size → Meets (Builtin.«list.__eq__.loop» ⟨[.ref l, .ref b, rawInt i, rawInt 0], []⟩)
      (fun A R s => s.heap.get? l = some { cls := .type "list", dict := dd, data := .seq its n, slots := sl } ∧ s.heap.get? b = some { cls := .type "list", dict := dd2, data := .seq its2 n2, slots := sl2 } ∧
        CmpAll A.in1 s eqf ltf its its2 xs ys ∧ R (.ok (.ret (.bool (lexA eqf ltf (xs.drop i) (ys.drop i))))) s) := by
  induction k with
  | zero =>
    intro i hk hi1 hi2 prog w A R s h
    obtain ⟨hp, g, d, tk, os⟩ := s
    obtain ⟨hl, hb, he, h⟩ := h
    rw [lex_end eqf ltf (by rw [← he.1]; exact hi1) (by rw [← he.2.1]; exact hi2) (.inl (by have := he.1; lia)), ← he.1, ← he.2.1] at h
    wp_walk using wpAny_loadPart' hl, wpAny_loadPart' hb
    have q1 : its[((i : Nat) : Int).toNat]? = none := by simp; lia
    rw [q1]
    wp_walk using wpAny_loadPart' hl, wpAny_loadPart' hb
    exact h
  | succ k ih =>
    intro i hk hi1 hi2 prog w A R s h
    obtain ⟨hp, g, d, tk, os⟩ := s
    obtain ⟨hl, hb, he, h⟩ := h
    have hlt : i < its.size := by lia
    have q1 : its[((i : Nat) : Int).toNat]? = some its[i] := by simp [hlt]
    rcases Nat.lt_or_ge i its2.size with hlt2 | hge
    · have q2 : its2[((i : Nat) : Int).toNat]? = some its2[i] := by simp [hlt2]
      have hc : ((i : Int) + 1) = ((i + 1 : Nat) : Int) := by push_cast; rfl
      have hx : i < xs.length := by rw [← he.1]; exact hlt
      have hy : i < ys.length := by rw [← he.2.1]; exact hlt2
      rw [List.drop_eq_getElem_cons hx, List.drop_eq_getElem_cons hy] at h
      unfold lexA at h
      obtain ⟨e1, e2⟩ := he.2.2 i hlt hlt2 _ _ (List.getElem?_eq_getElem hx) (List.getElem?_eq_getElem hy)
      wp_walk using wpAny_loadPart' hl, wpAny_loadPart' hb
      rw [q1, q2]
      refine wpAny_bind (e1 prog w _ _ ?_)
      cases hb' : eqf xs[i] ys[i] with
      | true =>
        rw [hb', if_pos rfl] at h
        wp_walk
        rw [hc]
        exact ⟨plainId_quiet plain_eq_loop _, codeAny_builtin entry_eq_loop (by
          rw [Around.under_plainId plain_eq_loop _]
          exact ih (i + 1) (by lia) (by lia) (by lia) prog w A R _ ⟨hl, hb, he, h⟩)⟩
      | false =>
        rw [hb', if_neg Bool.false_ne_true] at h
        have e3 := e2 hb' prog w
        wp_walk using wpAny_loadPart' hl, wpAny_loadPart' hb
        rw [q1, q2]
        wp_walk using e3
        exact h
    · rw [lex_end eqf ltf (by rw [← he.1]; exact hi1) (by rw [← he.2.1]; exact hi2) (.inr (by have := he.2.1; lia)), ← he.1, ← he.2.1] at h
      have q2 : its2[((i : Nat) : Int).toNat]? = none := by simp; lia
      wp_walk using wpAny_loadPart' hl, wpAny_loadPart' hb
      rw [q1, q2]
      wp_walk using wpAny_loadPart' hl, wpAny_loadPart' hb
      exact h
theorem list_lt {α : Type} (eqf ltf : α → α → Bool) (xs ys : List α) (l b : Addr) (its its2 : Array Value) (n n2 : Nat) (dd dd2 : Option Addr) (sl sl2 : Array (Option Value)) :
    Meets (Builtin.«list.__lt__» ⟨[.ref l, .ref b], []⟩)
      (fun A R s => s.heap.get? l = some { cls := .type "list", dict := dd, data := .seq its n, slots := sl } ∧ s.heap.get? b = some { cls := .type "list", dict := dd2, data := .seq its2 n2, slots := sl2 } ∧
        CmpAll A.in1 s eqf ltf its its2 xs ys ∧ R (.ok (.ret (.bool (lexA eqf ltf xs ys)))) s) := by
  intro prog w A R s h
  obtain ⟨hp, g, d, tk, os⟩ := s
  obtain ⟨hl, hb, he, h⟩ := h
  have f3 := AutoSeq1.sub_list_list
  wp_walk using wpAny_loadPart' hl, wpAny_loadPart' hb
  exact ⟨plainId_quiet plain_eq_loop _, codeAny_builtin entry_eq_loop (by
    rw [Around.under_plainId plain_eq_loop _]
    exact lt_loop eqf ltf xs ys l b its its2 n n2 dd dd2 sl sl2 _ 0 rfl (Nat.zero_le _) (Nat.zero_le _) prog w A R _ ⟨hl, hb, he, h⟩)⟩
theorem tuple_lt {α : Type} (eqf ltf : α → α → Bool) (xs ys : List α) (l b : Addr) (its its2 : Array Value) (n n2 : Nat) (dd dd2 : Option Addr) (sl sl2 : Array (Option Value)) :
    Meets (Builtin.«tuple.__lt__» ⟨[.ref l, .ref b], []⟩)
      (fun A R s => s.heap.get? l = some { cls := .type "tuple", dict := dd, data := .seq its n, slots := sl } ∧ s.heap.get? b = some { cls := .type "tuple", dict := dd2, data := .seq its2 n2, slots := sl2 } ∧
        CmpAll A.in1 s eqf ltf its its2 xs ys ∧ R (.ok (.ret (.bool (lexA eqf ltf xs ys)))) s) :=
  .of_wp fun prog w A R s h => by
    obtain ⟨hp, g, d, tk, os⟩ := s
    obtain ⟨hl, hb, he, h⟩ := h
    have f2 := AutoSeq1.sub_tuple_tuple
    have hZ : (its.toList.zip its2.toList).length = min its.size its2.size := by simp
    wp_walk using wpAny_loadPart' hl, wpAny_loadPart' hb, wpAny_forIn_list _ (fun rest b s' => b.1 = none ∧ s' = ⟨hp, g, d, tk, os⟩ ∧ ∃ i, i ≤ its.size ∧ i ≤ its2.size ∧ rest = (its.toList.zip its2.toList).drop i ∧
      R (.ok (.ret (.bool (lexA eqf ltf (xs.drop i) (ys.drop i))))) ⟨hp, g, d, tk, os⟩) _
    case turn =>
      rintro ⟨y, x⟩ rest b s' ⟨hb', rfl, i, j1, j2, hz, hR⟩
      have hlt : i < (its.toList.zip its2.toList).length := by
        rcases Nat.lt_or_ge i (its.toList.zip its2.toList).length with h' | h'
        · exact h'
        · rw [List.drop_of_length_le h'] at hz; cases hz
      have h1 : i < its.size := by lia
      have h2 : i < its2.size := by lia
      rw [List.drop_eq_getElem_cons hlt] at hz
      injection hz with hyx hrest
      have hy : y = its[i] := by have := congrArg Prod.fst hyx; simpa using this
      have hx : x = its2[i] := by have := congrArg Prod.snd hyx; simpa using this
      subst hy hx
      have g1 : i < xs.length := by rw [← he.1]; exact h1
      have g2 : i < ys.length := by rw [← he.2.1]; exact h2
      rw [List.drop_eq_getElem_cons g1, List.drop_eq_getElem_cons g2] at hR
      unfold lexA at hR
      obtain ⟨e1, e2⟩ := he.2.2 i h1 h2 _ _ (List.getElem?_eq_getElem g1) (List.getElem?_eq_getElem g2)
      refine wpAny_bind (e1 prog w _ _ ?_)
      cases hb2 : eqf xs[i] ys[i] with
      | true =>
        rw [hb2, if_pos rfl] at hR
        wp_walk
        exact ⟨rfl, rfl, i + 1, h1, h2, hrest, hR⟩
      | false =>
        rw [hb2, if_neg Bool.false_ne_true] at hR
        have e3 := e2 hb2 prog w
        wp_walk using e3
        exact ⟨_, rfl, by simpa using hR⟩
    case fin =>
      rintro ⟨b1, b2⟩ s' ⟨hb', rfl, i, j1, j2, hz, hR⟩
      simp only at hb'
      subst hb'
      have hge : min its.size its2.size ≤ i := by
        rcases Nat.lt_or_ge i (its.toList.zip its2.toList).length with h' | h'
        · rw [List.drop_eq_getElem_cons h'] at hz; cases hz
        · exact hZ ▸ h'
      rw [lex_end eqf ltf (by rw [← he.1]; exact j1) (by rw [← he.2.1]; exact j2) (by have := he.1; have := he.2.1; lia), ← he.1, ← he.2.1] at hR
      wp_walk
      exact ⟨_, rfl, by simpa [Builtin.Tuple.tupleCompareSizes] using hR⟩
    case h =>
      exact ⟨rfl, rfl, 0, Nat.zero_le _, Nat.zero_le _, rfl, h⟩
section
variable {A : Around} {s : Shared} {α : Type} {eqf ltf : α → α → Bool} {xs ys : List α} {l b : Addr} {its its2 : Array Value}
theorem LtOf.int (a : Int) (t : Tok) (c : Int) (u : Tok) : LtOf A s (.int a t) (.int c u) (decide (a < c)) := fun prog w E Q h =>
  (PyProof.Rows.lt_int h : wpAny (model prog w) A (compareOp .Lt (.int a t) (.int c u)) Q E s)
theorem LtOf.list (hl : s.heap.IsList l its) (hb : s.heap.IsList b its2) (hu : A.units < cLine) (h : CmpAll A.in1 s eqf ltf its its2 xs ys) : LtOf A s (.ref l) (.ref b) (lexA eqf ltf xs ys) := fun prog w E Q hq => by
  obtain ⟨⟨cls, dd, data, sl⟩, ho, hc, n, hd⟩ := hl
  obtain ⟨⟨cls2, dd2, data2, sl2⟩, ho2, hc2, n2, hd2⟩ := hb
  simp only at hc hd hc2 hd2
  subst hc hd hc2 hd2
  exact richCompare_meets_room (op := .Lt) ⟨_, ho, rfl⟩ ⟨_, ho2, rfl⟩ PySem.F.slot_list_lt PySem.F.entry_list_lt (PySem.F.args_list_lt_2 _ _) (list_lt eqf ltf xs ys l b its its2 n n2 dd dd2 sl sl2)
    ⟨ho, ho2, h, show Value.bool _ ≠ Value.notImplemented ∧ Q (.bool _) s from ⟨(fun x => nomatch x), hq⟩⟩ hu
theorem LtOf.tuple (hl : s.heap.IsTuple l its) (hb : s.heap.IsTuple b its2) (hu : A.units < cLine) (h : CmpAll A.in1 s eqf ltf its its2 xs ys) : LtOf A s (.ref l) (.ref b) (lexA eqf ltf xs ys) := fun prog w E Q hq => by
  obtain ⟨⟨cls, dd, data, sl⟩, ho, hc, n, hd⟩ := hl
  obtain ⟨⟨cls2, dd2, data2, sl2⟩, ho2, hc2, n2, hd2⟩ := hb
  simp only at hc hd hc2 hd2
  subst hc hd hc2 hd2
  exact richCompare_meets_room (op := .Lt) ⟨_, ho, rfl⟩ ⟨_, ho2, rfl⟩ PySem.F.slot_tuple_lt PySem.F.entry_tuple_lt (PySem.F.args_tuple_lt_2 _ _) (tuple_lt eqf ltf xs ys l b its its2 n n2 dd dd2 sl sl2)
    ⟨ho, ho2, h, show Value.bool _ ≠ Value.notImplemented ∧ Q (.bool _) s from ⟨(fun x => nomatch x), hq⟩⟩ hu
end
end PZ
namespace PZ
open PySem PyProof.Rows
structure Two where
  M : Model
  C : Ctx
  s1 : Shared
  s2 : Shared
  kd : SortKind
  f1 : Nat → Keyed
  f2 : Nat → Keyed
  less : Nat → Nat → Bool
  c1 : ∀ i j p, Sem.wp M C (keyLt' kd (f1 i).1 (f1 j).1) (fun b _ s' => s' = s1 ∧ b = less i j) (fun _ _ _ => False) p s1
  c2 : ∀ i j (K : Bool → Pos → Shared → Prop) (E : Value → Pos → Shared → Prop) p, Sem.wp M C (keyLt' kd (f2 i).1 (f2 j).1) K E p s2 → ∃ q, K (less i j) q s2
noncomputable def RK (T : Two) (x y : Keyed) : Prop := ∃ i, x = T.f1 i ∧ y = T.f2 i
noncomputable def RA (T : Two) (a b : Array Keyed) : Prop := ∃ p : Array Nat, a = p.map T.f1 ∧ b = p.map T.f2
noncomputable def RS (T : Two) (x y : SortSt) : Prop := ∃ (p : Array Nat) (pd : Array (Nat × Nat × Nat)) (g : Nat), x = SortSt.mk' T.kd (p.map T.f1) pd g none ∧ y = SortSt.mk' T.kd (p.map T.f2) pd g none
noncomputable def NoE : Value → Pos → Shared → Prop := fun _ _ _ => False
noncomputable def Sim (T : Two) {α : Type} (R : α → α → Prop) (m1 m2 : StateT SortSt Sem α) : Prop :=
  ∀ (x y : SortSt) (K : α × SortSt → Pos → Shared → Prop) (p1 p2 : Pos), RS T x y → Sem.wp T.M T.C (m2.run y) K NoE p2 T.s2 →
    Sem.wp T.M T.C (m1.run x) (fun r _ s' => s' = T.s1 ∧ ∃ b y' q, R r.1 b ∧ RS T r.2 y' ∧ K (b, y') q T.s2) NoE p1 T.s1
section
variable {T : Two} {α β : Type}
theorem zI {R : α → α → Prop} {a b : α} (h : R a b) : Sim T R (pure a) (pure b) := by
  intro x y K p1 p2 rs hw
  rw [StateT.run_pure, Sem.wp_pure'] at hw ⊢
  exact ⟨rfl, b, y, p2, h, rs, hw⟩
theorem zY {R : α → α → Prop} {S : β → β → Prop} {m1 m2 : StateT SortSt Sem α} {g1 g2 : α → StateT SortSt Sem β} (h : Sim T R m1 m2) (hg : ∀ a b, R a b → Sim T S (g1 a) (g2 b)) : Sim T S (m1 >>= g1) (m2 >>= g2) := by
  intro x y K p1 p2 rs hw
  rw [StateT.run_bind, Sem.wp_bind'] at hw ⊢
  refine Sem.wp_mono _ _ _ ?_ (fun _ _ _ z => z) _ _ (h x y _ p1 p2 rs hw)
  rintro ⟨a, x'⟩ p' s' ⟨rfl, b, y', q, hr, rs', hk⟩
  exact hg a b hr x' y' K p' q rs' hk
theorem sim_mono {R S : α → α → Prop} {m1 m2 : StateT SortSt Sem α} (h : Sim T R m1 m2) (hq : ∀ a b, R a b → S a b) : Sim T S m1 m2 := by
  intro x y K p1 p2 rs hw
  refine Sem.wp_mono _ _ _ ?_ (fun _ _ _ z => z) _ _ (h x y K p1 p2 rs hw)
  rintro r p' s' ⟨e, b, y', q, hr, rs', hk⟩
  exact ⟨e, b, y', q, hq _ _ hr, rs', hk⟩
theorem sim_get : Sim T (RS T) get get := by
  intro x y K p1 p2 rs hw
  rw [StateT.run_get, Sem.wp_pure'] at hw ⊢
  exact ⟨rfl, y, y, p2, rs, rs, hw⟩
theorem sim_set {a b : SortSt} (h : RS T a b) : Sim T Eq (set a) (set b) := by
  intro x y K p1 p2 rs hw
  rw [StateT.run_set, Sem.wp_pure'] at hw ⊢
  exact ⟨rfl, _, b, p2, rfl, h, hw⟩
theorem sim_modify {g1 g2 : SortSt → SortSt} (h : ∀ x y, RS T x y → RS T (g1 x) (g2 y)) : Sim T Eq (modify g1) (modify g2) := by
  intro x y K p1 p2 rs hw
  rw [StateT.run_modify, Sem.wp_pure'] at hw ⊢
  exact ⟨rfl, _, _, p2, rfl, h x y rs, hw⟩
theorem sim_lift {R : α → α → Prop} {m1 m2 : Sem α} (h : ∀ (K : α → Pos → Shared → Prop) (p1 p2 : Pos), Sem.wp T.M T.C m2 K NoE p2 T.s2 → Sem.wp T.M T.C m1 (fun a _ s' => s' = T.s1 ∧ ∃ b q, R a b ∧ K b q T.s2) NoE p1 T.s1) : Sim T R (liftM m1) (liftM m2) := by
  intro x y K p1 p2 rs hw
  change Sem.wp T.M T.C ((StateT.lift m2 : StateT SortSt Sem α).run y) K NoE p2 T.s2 at hw
  show Sem.wp T.M T.C ((StateT.lift m1 : StateT SortSt Sem α).run x) _ NoE p1 T.s1
  rw [StateT.run_lift, Sem.wp_bind'] at hw ⊢
  simp only [Sem.wp_pure'] at hw ⊢
  refine Sem.wp_mono _ _ _ ?_ (fun _ _ _ z => z) _ _ (h _ p1 p2 hw)
  rintro a p' s' ⟨e, b, q, hr, hk⟩
  exact ⟨e, b, y, q, hr, rs, hk⟩
theorem sim_rule {tag : String} : Sim T Eq (liftM (rule tag)) (liftM (rule tag)) := sim_lift fun K p1 p2 h => by
  rw [Sem.wp_cmd_rule] at h ⊢
  exact ⟨rfl, (), p2, rfl, h⟩
theorem sim_unsup {R : α → α → Prop} {m1 : StateT SortSt Sem α} {what : String} : Sim T R m1 (liftM (unsupported what : Sem α)) := by
  intro x y K p1 p2 rs hw
  change Sem.wp T.M T.C ((StateT.lift (unsupported what : Sem α) : StateT SortSt Sem α).run y) K NoE p2 T.s2 at hw
  rw [StateT.run_lift, Sem.wp_bind', Sem.wp_cmd_unsupported] at hw
  exact hw.elim
theorem sim_ite {R : α → α → Prop} {c : Prop} [Decidable c] {m1 m2 n1 n2 : StateT SortSt Sem α} (h1 : Sim T R m1 m2) (h2 : Sim T R n1 n2) : Sim T R (if c then m1 else n1) (if c then m2 else n2) := by
  split <;> assumption
inductive RStep (R : β → β → Prop) : ForInStep β → ForInStep β → Prop
  | done {a b : β} : R a b → RStep R (.done a) (.done b)
  | yield {a b : β} : R a b → RStep R (.yield a) (.yield b)
theorem sim_forL {R : β → β → Prop} {g1 g2 : Nat → β → StateT SortSt Sem (ForInStep β)} (hg : ∀ i a b, R a b → Sim T (RStep R) (g1 i a) (g2 i b)) : ∀ (l : List Nat) (a b : β), R a b → Sim T R (forIn l a g1) (forIn l b g2)
  | [], a, b, h => by rw [List.forIn_nil, List.forIn_nil]; exact zI h
  | i :: l, a, b, h => by
    rw [List.forIn_cons, List.forIn_cons]
    refine zY (hg i a b h) fun r r' hr => ?_
    cases hr with
    | done h => exact zI h
    | yield h => exact sim_forL hg l _ _ h
theorem sim_for {R : β → β → Prop} {lo hi : Nat} {a b : β} {g1 g2 : Nat → β → StateT SortSt Sem (ForInStep β)} (h : R a b) (hg : ∀ i a b, R a b → Sim T (RStep R) (g1 i a) (g2 i b)) : Sim T R (forIn [lo:hi] a g1) (forIn [lo:hi] b g2) := by
  rw [Std.Legacy.Range.forIn_eq_forIn_range', Std.Legacy.Range.forIn_eq_forIn_range']
  exact sim_forL hg _ _ _ h
theorem sim_forE {lo hi : Nat} {a : β} {g1 g2 : Nat → β → StateT SortSt Sem (ForInStep β)} (hg : ∀ i a, Sim T Eq (g1 i a) (g2 i a)) : Sim T Eq (forIn [lo:hi] a g1) (forIn [lo:hi] a g2) :=
  sim_for rfl fun i a b h => by
    subst h
    refine sim_mono (hg i a) fun r r' e => ?_
    subst e
    cases r with
    | done a => exact .done rfl
    | yield a => exact .yield rfl
theorem sim_lt {x1 x2 y1 y2 : Keyed} (hx : RK T x1 x2) (hy : RK T y1 y2) : Sim T Eq (lt' x1 y1) (lt' x2 y2) := by
  obtain ⟨i, rfl, rfl⟩ := hx
  obtain ⟨j, rfl, rfl⟩ := hy
  intro x y K p1 p2 rs hw
  obtain ⟨p, pd, g, rfl, rfl⟩ := rs
  rw [lt'_eq] at hw ⊢
  rw [StateT.run_bind, Sem.wp_bind', StateT.run_get, Sem.wp_pure'] at hw ⊢
  dsimp only at hw ⊢
  rw [StateT.run_bind, Sem.wp_bind'] at hw ⊢
  change Sem.wp T.M T.C ((StateT.lift _ : StateT SortSt Sem _).run _) _ NoE p2 T.s2 at hw
  change Sem.wp T.M T.C ((StateT.lift _ : StateT SortSt Sem _).run _) _ NoE p1 T.s1
  rw [StateT.run_lift, Sem.wp_bind'] at hw ⊢
  change Sem.wp T.M T.C (Sem.attempt (keyLt' T.kd (T.f2 i).1 (T.f2 j).1)) _ NoE p2 T.s2 at hw
  change Sem.wp T.M T.C (Sem.attempt (keyLt' T.kd (T.f1 i).1 (T.f1 j).1)) _ NoE p1 T.s1
  rw [Sem.wp_attempt] at hw ⊢
  obtain ⟨q, hq⟩ := T.c2 i j _ _ _ hw
  refine Sem.wp_mono _ _ _ ?_ (fun _ _ _ z => z.elim) _ _ (T.c1 i j p1)
  rintro b p' s' ⟨rfl, rfl⟩
  rw [Sem.wp_pure'] at hq ⊢
  dsimp only at hq ⊢
  rw [StateT.run_pure, Sem.wp_pure'] at hq ⊢
  exact ⟨rfl, _, _, q, rfl, ⟨p, pd, g, rfl, rfl⟩, hq⟩
theorem sim_elem {a b : Array Keyed} (h : RA T a b) (i : Nat) : Sim T (RK T) (elem' a i) (elem' b i) := by
  obtain ⟨p, rfl, rfl⟩ := h
  rw [elem'_eq, elem'_eq, Array.getElem?_map, Array.getElem?_map]
  cases p[i]? with
  | none => exact sim_unsup
  | some k => exact zI ⟨k, rfl, rfl⟩
theorem RS.arr {x y : SortSt} (h : RS T x y) : RA T (arrOf x) (arrOf y) := by
  obtain ⟨p, pd, g, rfl, rfl⟩ := h
  exact ⟨p, rfl, rfl⟩
theorem sim_ltAt (i j : Nat) : Sim T Eq (ltAt' i j) (ltAt' i j) := by
  rw [ltAt'_eq]
  refine zY sim_get fun x y h => ?_
  exact zY (sim_elem h.arr i) fun a b ha => zY (sim_elem h.arr j) fun c d hc => sim_lt ha hc
theorem swaps_map {β γ : Type} (f : β → γ) (u v : Nat → Nat) : ∀ (l : List Nat) (a : Array β), l.foldl (fun a k => a.swapIfInBounds (u k) (v k)) (a.map f) = (l.foldl (fun a k => a.swapIfInBounds (u k) (v k)) a).map f
  | [], a => rfl
  | k :: l, a => by
    rw [List.foldl_cons, List.foldl_cons, ← swaps_map f u v l]
    congr 1
    apply Array.ext
    · simp
    · intro i h1 h2
      simp only [Array.swapIfInBounds_def, Array.size_map]
      split <;> (try split) <;> simp [Array.getElem_swap] <;> (repeat' split) <;> rfl
theorem sim_rev (i j : Nat) : Sim T Eq (reverseSlice' i j) (reverseSlice' i j) := by
  rw [reverseSlice'_eq]
  refine sim_modify fun x y h => ?_
  obtain ⟨p, pd, g, rfl, rfl⟩ := h
  refine ⟨mirror p i j ((j - i) / 2), pd, g, ?_, ?_⟩
  · show SortSt.mk' T.kd (mirror (p.map T.f1) i j ((j - i) / 2)) pd g none = _
    unfold mirror; rw [swaps_map]
  · show SortSt.mk' T.kd (mirror (p.map T.f2) i j ((j - i) / 2)) pd g none = _
    unfold mirror; rw [swaps_map]
theorem sim_move (i j : Nat) : Sim T Eq (moveDown' i j) (moveDown' i j) := by
  rw [moveDown'_eq]
  refine sim_modify fun x y h => ?_
  obtain ⟨p, pd, g, rfl, rfl⟩ := h
  refine ⟨bubble p i (i - j), pd, g, ?_, ?_⟩
  · show SortSt.mk' T.kd (bubble (p.map T.f1) i (i - j)) pd g none = _
    unfold bubble; rw [swaps_map]
  · show SortSt.mk' T.kd (bubble (p.map T.f2) i (i - j)) pd g none = _
    unfold bubble; rw [swaps_map]
theorem zT {S : β → β → Prop} {m1 m2 : StateT SortSt Sem α} {g1 g2 : α → StateT SortSt Sem β} (h : Sim T Eq m1 m2) (hg : ∀ a, Sim T S (g1 a) (g2 a)) : Sim T S (m1 >>= g1) (m2 >>= g2) := zY h fun a b e => by subst e; exact hg a
end
section
variable {T : Two} {α β γ δ : Type}
theorem sim_bindO {S : β → β → Prop} {m1 m2 : StateT SortSt Sem (Option α)} {g1 g2 : Option α → StateT SortSt Sem β} (h : Sim T Eq m1 m2) (h0 : Sim T S (g1 none) (g2 none)) (hg : ∀ a, Sim T S (g1 (some a)) (g2 (some a))) : Sim T S (m1 >>= g1) (m2 >>= g2) := zT h fun a => by
  cases a with
  | none => exact h0
  | some a => exact hg a
theorem sim_loop {S : β → β → Prop} {lo hi : Nat} {x : Option γ × δ} {b1 b2 : Nat → Option γ × δ → StateT SortSt Sem (ForInStep (Option γ × δ))} {g1 g2 : Option γ × δ → StateT SortSt Sem β} (hb : ∀ i r d, Sim T Eq (b1 i (r, d)) (b2 i (r, d)))
    (h0 : ∀ d, Sim T S (g1 (none, d)) (g2 (none, d))) (h1 : ∀ r d, Sim T S (g1 (some r, d)) (g2 (some r, d))) : Sim T S (forIn [lo:hi] x b1 >>= g1) (forIn [lo:hi] x b2 >>= g2) := zT (sim_forE fun i a => hb i a.1 a.2) fun a => by
  obtain ⟨r, d⟩ := a
  cases r with
  | none => exact h0 d
  | some r => exact h1 r d
theorem sim_countRun (lo nrem : Nat) : Sim T Eq (countRun' lo nrem) (countRun' lo nrem) := by
  rw [countRun'_eq]
  repeat' first
    | exact zI rfl
    | refine sim_bindO (sim_ltAt _ _) ?_ fun a => ?_
    | refine zT (sim_rev _ _) fun a => ?_
    | refine zT sim_rule fun a => ?_
    | refine sim_loop (fun i r d => ?_) (fun d => ?_) fun r d => ?_
    | refine sim_ite ?_ ?_
    | dsimp only
theorem sim_binarySort (lo n ok : Nat) : Sim T Eq (binarySort' lo n ok) (binarySort' lo n ok) := by
  rw [binarySort'_eq]
  repeat' first
    | exact zI rfl
    | refine sim_bindO (sim_ltAt _ _) ?_ fun a => ?_
    | refine zT (sim_move _ _) fun a => ?_
    | refine zT sim_rule fun a => ?_
    | refine sim_loop (fun i r d => ?_) (fun d => ?_) fun r d => ?_
    | refine sim_ite ?_ ?_
    | dsimp only
theorem sim_beyond (left : Bool) {k1 k2 : Keyed} {a1 a2 : Array Keyed} (hk : RK T k1 k2) (ha : RA T a1 a2) (base i : Nat) : Sim T Eq (beyond' left k1 a1 base i) (beyond' left k2 a2 base i) := by
  unfold beyond'
  refine zY (sim_elem ha _) fun x y h => ?_
  refine sim_ite (sim_lt h hk) ?_
  exact zT (sim_lt hk h) fun a => zI rfl
theorem sim_gallop (left : Bool) {k1 k2 : Keyed} {a1 a2 : Array Keyed} (hk : RK T k1 k2) (ha : RA T a1 a2) (base n hint : Nat) : Sim T Eq (gallop' left k1 a1 base n hint) (gallop' left k2 a2 base n hint) := by
  rw [gallop'_eq, gallop'_eq]
  repeat' first
    | exact zI rfl
    | refine sim_bindO (sim_beyond left hk ha _ _) ?_ fun a => ?_
    | refine zT sim_rule fun a => ?_
    | refine sim_loop (fun i r d => ?_) (fun d => ?_) fun r d => ?_
    | refine sim_ite ?_ ?_
    | dsimp only
end
section
variable {T : Two} {α β γ δ : Type}
theorem RA.sing {x y : Keyed} (h : RK T x y) : RA T #[x] #[y] := by
  obtain ⟨i, rfl, rfl⟩ := h
  exact ⟨#[i], by simp, by simp⟩
theorem RA.push {a b : Array Keyed} {x y : Keyed} (ha : RA T a b) (h : RK T x y) : RA T (a.push x) (b.push y) := by
  obtain ⟨p, rfl, rfl⟩ := ha
  obtain ⟨i, rfl, rfl⟩ := h
  exact ⟨p.push i, by simp, by simp⟩
theorem RA.append {a b c d : Array Keyed} (ha : RA T a b) (h : RA T c d) : RA T (a ++ c) (b ++ d) := by
  obtain ⟨p, rfl, rfl⟩ := ha
  obtain ⟨q, rfl, rfl⟩ := h
  exact ⟨p ++ q, by simp, by simp⟩
theorem RA.extract {a b : Array Keyed} (ha : RA T a b) (i j : Nat) : RA T (a.extract i j) (b.extract i j) := by
  obtain ⟨p, rfl, rfl⟩ := ha
  exact ⟨p.extract i j, by simp, by simp⟩
theorem RA.reverse {a b : Array Keyed} (ha : RA T a b) : RA T a.reverse b.reverse := by
  obtain ⟨p, rfl, rfl⟩ := ha
  exact ⟨p.reverse, by simp, by simp⟩
inductive RO (T : Two) : Option (Array Keyed) → Option (Array Keyed) → Prop
  | none : RO T none none
  | some {a b : Array Keyed} : RA T a b → RO T (some a) (some b)
structure RL (T : Two) (x y : Option (Array Keyed) × Array Keyed × δ) : Prop where
  r : RO T x.1 y.1
  o : RA T x.2.1 y.2.1
  d : x.2.2 = y.2.2
theorem sim_loopA {S : β → β → Prop} {lo hi : Nat} {x y : Option (Array Keyed) × Array Keyed × δ} {b1 b2 : Nat → Option (Array Keyed) × Array Keyed × δ → StateT SortSt Sem (ForInStep (Option (Array Keyed) × Array Keyed × δ))} {g1 g2 : Option (Array Keyed) × Array Keyed × δ → StateT SortSt Sem β}
    (h : RL T x y) (hb : ∀ i r r' o o' d, RA T o o' → Sim T (RStep (RL T)) (b1 i (r, o, d)) (b2 i (r', o', d)))
    (h0 : ∀ o o' d, RA T o o' → Sim T S (g1 (none, o, d)) (g2 (none, o', d))) (h1 : ∀ r r' o o' d, RA T r r' → RA T o o' → Sim T S (g1 (some r, o, d)) (g2 (some r', o', d))) : Sim T S (forIn [lo:hi] x b1 >>= g1) (forIn [lo:hi] y b2 >>= g2) := by
  refine zY (sim_for h fun i a b hab => ?_) fun a b hab => ?_
  · obtain ⟨r, o, d⟩ := a
    obtain ⟨r', o', d'⟩ := b
    obtain ⟨_, ho, hd⟩ := hab
    cases hd
    exact hb i r r' o o' _ ho
  · obtain ⟨r, o, d⟩ := a
    obtain ⟨r', o', d'⟩ := b
    obtain ⟨hr, ho, hd⟩ := hab
    cases hd
    cases hr with
    | none => exact h0 o o' _ ho
    | some hr => exact h1 _ _ o o' _ hr ho
theorem sim_setG (g : Nat) : Sim T Eq (setMinGallop' g) (setMinGallop' g) := by
  rw [setMinGallop'_eq]
  refine sim_modify fun x y h => ?_
  obtain ⟨p, pd, g', rfl, rfl⟩ := h
  exact ⟨p, pd, g, rfl, rfl⟩
theorem sim_getG {S : β → β → Prop} {g1 g2 : SortSt → StateT SortSt Sem β} (h : ∀ x y, gallopOf x = gallopOf y → Sim T S (g1 x) (g2 y)) : Sim T S (get >>= g1) (get >>= g2) := zY sim_get fun x y hxy => by
  obtain ⟨p, pd, g, rfl, rfl⟩ := hxy
  exact h _ _ rfl
theorem sim_mergeLo {a a' b b' : Array Keyed} (ha : RA T a a') (hb : RA T b b') : Sim T (RA T) (mergeLo' a b) (mergeLo' a' b') := by
  have sa : a'.size = a.size := by obtain ⟨p, rfl, rfl⟩ := ha; simp
  have sb : b'.size = b.size := by obtain ⟨p, rfl, rfl⟩ := hb; simp
  rw [mergeLo'_eq, mergeLo'_eq]
  rw [sa, sb]
  refine zT sim_rule fun _ => ?_
  refine zY (sim_elem hb _) fun x y hxy => ?_
  refine sim_ite (zI ?_) ?_
  · exact ((RA.sing hxy).append (ha.extract _ _)).append (hb.extract _ _)
  refine sim_ite (zI ?_) ?_
  · exact ((RA.sing hxy).append (hb.extract _ _)).append (ha.extract _ _)
  refine sim_getG fun s1 s2 hs => ?_
  rw [hs]
  have h0 := RA.sing hxy
  repeat' first
    | with_reducible refine sim_ite ?_ ?_
    | with_reducible refine zY (sim_elem (by assumption) _) fun x y hxy => ?_
    | with_reducible refine zI (.done ⟨.none, ?_, rfl⟩)
    | with_reducible refine zI (.yield ⟨.none, ?_, rfl⟩)
    | with_reducible refine zI (.done ⟨.some ?_, ?_, rfl⟩)
    | with_reducible refine sim_bindO (sim_lt (by assumption) (by assumption)) ?_ fun c => ?_
    | with_reducible refine sim_bindO (sim_gallop _ (by assumption) (by assumption) _ _ _) ?_ fun c => ?_
    | with_reducible refine zT (sim_setG _) fun _ => ?_
    | with_reducible refine zT sim_rule fun _ => ?_
    | with_reducible refine sim_loopA ⟨.none, by assumption, rfl⟩ (fun i r r' o o' d ho => ?_) (fun o o' d ho => ?_) fun r r' o o' d hr ho => ?_
    | with_reducible exact zI (by assumption)
    | with_reducible exact sim_unsup
    | dsimp only
  all_goals (repeat' (with_reducible first | assumption | apply RA.push | apply RA.append | apply RA.extract | apply RA.reverse))
end
section
variable {T : Two} {α β γ δ : Type}
structure RH (T : Two) (x y : Option (Array Keyed) × Nat × Nat × Array Keyed × δ) : Prop where
  r : RO T x.1 y.1
  a : x.2.1 = y.2.1
  b : x.2.2.1 = y.2.2.1
  o : RA T x.2.2.2.1 y.2.2.2.1
  d : x.2.2.2.2 = y.2.2.2.2
theorem sim_loopH {S : β → β → Prop} {lo hi : Nat} {x y : Option (Array Keyed) × Nat × Nat × Array Keyed × δ} {b1 b2 : Nat → Option (Array Keyed) × Nat × Nat × Array Keyed × δ → StateT SortSt Sem (ForInStep (Option (Array Keyed) × Nat × Nat × Array Keyed × δ))} {g1 g2 : Option (Array Keyed) × Nat × Nat × Array Keyed × δ → StateT SortSt Sem β}
    (h : RH T x y) (hb : ∀ i r r' na nb o o' d, RA T o o' → Sim T (RStep (RH T)) (b1 i (r, na, nb, o, d)) (b2 i (r', na, nb, o', d)))
    (h0 : ∀ na nb o o' d, RA T o o' → Sim T S (g1 (none, na, nb, o, d)) (g2 (none, na, nb, o', d))) (h1 : ∀ r r' na nb o o' d, RA T r r' → RA T o o' → Sim T S (g1 (some r, na, nb, o, d)) (g2 (some r', na, nb, o', d))) : Sim T S (forIn [lo:hi] x b1 >>= g1) (forIn [lo:hi] y b2 >>= g2) := by
  refine zY (sim_for h fun i a b hab => ?_) fun a b hab => ?_
  · obtain ⟨r, na, nb, o, d⟩ := a
    obtain ⟨r', na', nb', o', d'⟩ := b
    obtain ⟨_, ha, hb', ho, hd⟩ := hab
    cases hd
    cases ha
    cases hb'
    exact hb i r r' _ _ o o' _ ho
  · obtain ⟨r, na, nb, o, d⟩ := a
    obtain ⟨r', na', nb', o', d'⟩ := b
    obtain ⟨hr, ha, hb', ho, hd⟩ := hab
    cases hd
    cases ha
    cases hb'
    cases hr with
    | none => exact h0 _ _ o o' _ ho
    | some hr => exact h1 _ _ _ _ o o' _ hr ho
theorem sim_mergeHi {a a' b b' : Array Keyed} (ha : RA T a a') (hb : RA T b b') : Sim T (RA T) (mergeHi' a b) (mergeHi' a' b') := by
  have sa : a'.size = a.size := by obtain ⟨p, rfl, rfl⟩ := ha; simp
  have sb : b'.size = b.size := by obtain ⟨p, rfl, rfl⟩ := hb; simp
  rw [mergeHi'_eq, mergeHi'_eq]
  rw [sa, sb]
  refine zT sim_rule fun _ => ?_
  refine zY (sim_elem ha _) fun x y hxy => ?_
  have h0 := RA.sing hxy
  refine sim_ite (zI ?_) ?_
  · exact ((ha.extract _ _).append (hb.extract _ _)).append h0.reverse
  refine sim_ite (zI ?_) ?_
  · exact ((hb.extract _ _).append (ha.extract _ _)).append h0.reverse
  refine sim_getG fun s1 s2 hs => ?_
  rw [hs]
  repeat' first
    | with_reducible refine sim_ite ?_ ?_
    | with_reducible refine zY (sim_elem (by assumption) _) fun x y hxy => ?_
    | with_reducible refine zI (.done ⟨.none, rfl, rfl, ?_, rfl⟩)
    | with_reducible refine zI (.yield ⟨.none, rfl, rfl, ?_, rfl⟩)
    | with_reducible refine zI (.done ⟨.some ?_, rfl, rfl, ?_, rfl⟩)
    | with_reducible refine sim_bindO (sim_lt (by assumption) (by assumption)) ?_ fun c => ?_
    | with_reducible refine sim_bindO (sim_gallop _ (by assumption) (by assumption) _ _ _) ?_ fun c => ?_
    | with_reducible refine zT (sim_setG _) fun _ => ?_
    | with_reducible refine zT sim_rule fun _ => ?_
    | with_reducible refine sim_loopH ⟨.none, rfl, rfl, by assumption, rfl⟩ (fun i r r' na nb o o' d ho => ?_) (fun na nb o o' d ho => ?_) fun r r' na nb o o' d hr ho => ?_
    | with_reducible exact zI (by assumption)
    | with_reducible exact sim_unsup
    | dsimp only
  all_goals (repeat' (with_reducible first | assumption | apply RA.push | apply RA.append | apply RA.extract | apply RA.reverse))
end
section
variable {T : Two} {α β γ δ : Type}
theorem puts_map {β γ : Type} (f : β → γ) (sa : Nat) : ∀ (l : List (β × Nat)) (a : Array β), (l.map fun x => (f x.1, x.2)).foldl (fun a (q, j) => a.setIfInBounds (sa + j) q) (a.map f) = (l.foldl (fun a (q, j) => a.setIfInBounds (sa + j) q) a).map f
  | [], a => rfl
  | k :: l, a => by
    rw [List.map_cons, List.foldl_cons, List.foldl_cons, ← puts_map f sa l]
    congr 1
    simp
theorem zipIdx_map {β γ : Type} (f : β → γ) (a : Array β) : (a.map f).toList.zipIdx = a.toList.zipIdx.map fun x => (f x.1, x.2) := by
  rw [Array.toList_map, List.zipIdx_map]
  rfl
theorem sim_put {m m' : Array Keyed} (hm : RA T m m') (sa : Nat) : Sim T Eq (modify fun s => setArr s (m.toList.zipIdx.foldl (fun a (p, j) => a.setIfInBounds (sa + j) p) (arrOf s))) (modify fun s => setArr s (m'.toList.zipIdx.foldl (fun a (p, j) => a.setIfInBounds (sa + j) p) (arrOf s))) := by
  obtain ⟨q, rfl, rfl⟩ := hm
  refine sim_modify fun x y h => ?_
  obtain ⟨p, pd, g, rfl, rfl⟩ := h
  refine ⟨q.toList.zipIdx.foldl (fun a (p, j) => a.setIfInBounds (sa + j) p) p, pd, g, ?_, ?_⟩
  · show SortSt.mk' T.kd ((q.map T.f1).toList.zipIdx.foldl (fun a (p, j) => a.setIfInBounds (sa + j) p) (p.map T.f1)) pd g none = _
    rw [zipIdx_map, puts_map]
  · show SortSt.mk' T.kd ((q.map T.f2).toList.zipIdx.foldl (fun a (p, j) => a.setIfInBounds (sa + j) p) (p.map T.f2)) pd g none = _
    rw [zipIdx_map, puts_map]
theorem sim_fail {S : β → β → Prop} {g1 g2 : SortSt → StateT SortSt Sem β} (h : ∀ x y, failedOf x = failedOf y → Sim T S (g1 x) (g2 y)) : Sim T S (get >>= g1) (get >>= g2) := zY sim_get fun x y hxy => by
  obtain ⟨p, pd, g, rfl, rfl⟩ := hxy
  exact h _ _ rfl
theorem sim_mergeAt (i : Nat) : Sim T Eq (mergeAt' i) (mergeAt' i) := by
  rw [mergeAt'_eq]
  refine zY sim_get fun x y h => ?_
  have ha := h.arr
  obtain ⟨p, pd, g, rfl, rfl⟩ := h
  have e1 : pendingOf (SortSt.mk' T.kd (p.map T.f1) pd g none) = pd := rfl
  have e2 : pendingOf (SortSt.mk' T.kd (p.map T.f2) pd g none) = pd := rfl
  simp only [e1, e2]
  cases pd[i]? with
  | none => exact sim_unsup
  | some u =>
    cases pd[i + 1]? with
    | none => exact sim_unsup
    | some v =>
      obtain ⟨sa, na, pw⟩ := u
      obtain ⟨sb, nb, pw2⟩ := v
      dsimp only
      refine zT (sim_set ⟨p, _, g, rfl, rfl⟩) fun _ => ?_
      refine zY (sim_elem ha _) fun x y hxy => ?_
      refine sim_bindO (sim_gallop _ hxy ha _ _ _) (zI rfl) fun k => ?_
      dsimp only
      refine sim_ite (zI rfl) ?_
      refine zY (sim_elem ha _) fun x y hxy => ?_
      refine sim_bindO (sim_gallop _ hxy ha _ _ _) (zI rfl) fun k2 => ?_
      dsimp only
      refine sim_ite (zI rfl) ?_
      first
        | refine zY (sim_merges (ha.extract _ _) (ha.extract _ _) _) fun m m' hm => ?_
          refine zT (sim_put hm _) fun _ => ?_
          refine sim_fail fun x y hxy => ?_
          rw [hxy]
          exact zI rfl
        | (refine sim_ite ?_ ?_
           · refine zY (sim_mergeLo (ha.extract _ _) (ha.extract _ _)) fun m m' hm => ?_
             refine zT (sim_put hm _) fun _ => ?_
             refine sim_fail fun x y hxy => ?_
             rw [hxy]
             exact zI rfl
           · refine zY (sim_mergeHi (ha.extract _ _) (ha.extract _ _)) fun m m' hm => ?_
             refine zT (sim_put hm _) fun _ => ?_
             refine sim_fail fun x y hxy => ?_
             rw [hxy]
             exact zI rfl)
theorem sim_getP {S : β → β → Prop} {g1 g2 : SortSt → StateT SortSt Sem β} (h : ∀ x y, pendingOf x = pendingOf y → Sim T S (g1 x) (g2 y)) : Sim T S (get >>= g1) (get >>= g2) := zY sim_get fun x y hxy => by
  obtain ⟨p, pd, g, rfl, rfl⟩ := hxy
  exact h _ _ rfl
theorem sim_getN {S : β → β → Prop} {g1 g2 : SortSt → StateT SortSt Sem β} (h : ∀ x y, (arrOf x).size = (arrOf y).size → Sim T S (g1 x) (g2 y)) : Sim T S (get >>= g1) (get >>= g2) := zY sim_get fun x y hxy => by
  obtain ⟨p, pd, g, rfl, rfl⟩ := hxy
  exact h _ _ (by show (p.map T.f1).size = (p.map T.f2).size; simp)
end
section
variable {T : Two} {α β γ δ : Type}
theorem sim_modE {S : β → β → Prop} {f : SortSt → SortSt} {g1 g2 : PUnit → StateT SortSt Sem β} (q : Array (Nat × Nat × Nat) → Array (Nat × Nat × Nat)) (hf : ∀ x, f x = setPending x (q (pendingOf x))) (h : ∀ u, Sim T S (g1 u) (g2 u)) : Sim T S (modify f >>= g1) (modify f >>= g2) := by
  refine zT (sim_modify fun x y hxy => ?_) h
  obtain ⟨p, pd, g, rfl, rfl⟩ := hxy
  rw [hf, hf]
  exact ⟨p, _, g, rfl, rfl⟩
theorem sim_sortRuns : Sim T Eq sortRuns' sortRuns' := by
  rw [sortRuns'_eq]
  refine sim_getN fun x y h => ?_
  rw [h]
  dsimp only
  generalize (arrOf y).size = size
  generalize minRun' size size 0 = mr
  with_reducible refine sim_loop (fun i r d => ?_) (fun d => ?_) fun r d => ?_
  all_goals (try dsimp only)
  case refine_3 => exact zI rfl
  case refine_2 =>
    with_reducible refine sim_loop (fun i r d => ?_) (fun d => ?_) fun r d => ?_
    all_goals (try dsimp only)
    case refine_3 => exact zI rfl
    case refine_2 => exact zI rfl
    refine sim_getP fun x y h => ?_
    simp only [h]
    clear h
    generalize pendingOf y = pd
    try dsimp only
    with_reducible refine sim_ite ?_ ?_
    · exact zI rfl
    refine zT (sim_mergeAt _) fun b => ?_
    with_reducible refine sim_ite ?_ ?_
    · exact zI rfl
    · exact zI rfl
  with_reducible refine sim_ite ?_ ?_
  case refine_1 => with_reducible exact zI rfl
  with_reducible refine sim_bindO (sim_countRun _ _) ?_ fun a => ?_
  case refine_1 => with_reducible exact zI rfl
  dsimp only
  with_reducible refine sim_ite ?_ ?_
  case refine_1 =>
    with_reducible refine zT sim_rule fun _ => ?_
    with_reducible refine zT (sim_binarySort _ _ _) fun b => ?_
    with_reducible refine sim_ite ?_ ?_
    · exact zI rfl
    refine sim_getP fun x y h => ?_
    simp only [h]
    clear h
    generalize pendingOf y = pd
    try dsimp only
    generalize pd.back? = o
    rcases o with _ | ⟨s1, n1, z⟩
    · refine sim_modE (fun q => q.push _) (fun _ => rfl) fun _ => ?_
      exact zI rfl
    · with_reducible refine sim_loop (fun i r d => ?_) (fun d => ?_) fun r d => ?_
      all_goals (try dsimp only)
      case refine_3 => exact zI rfl
      case refine_2 =>
        refine sim_modE (fun q => q.modify (q.size - 1) _) (fun _ => rfl) fun _ => ?_
        refine sim_modE (fun q => q.push _) (fun _ => rfl) fun _ => ?_
        exact zI rfl
      refine sim_getP fun x y h => ?_
      simp only [h]
      clear h
      generalize pendingOf y = pd
      try dsimp only
      generalize (if pd.size > 1 then pd[pd.size - 2]? else none) = o
      rcases o with _ | ⟨u1, u2, u3⟩
      · exact zI rfl
      · dsimp only
        with_reducible refine sim_ite ?_ ?_
        · exact zI rfl
        refine zT (sim_mergeAt _) fun b => ?_
        with_reducible refine sim_ite ?_ ?_
        · exact zI rfl
        · exact zI rfl
  refine sim_getP fun x y h => ?_
  simp only [h]
  clear h
  generalize pendingOf y = pd
  try dsimp only
  generalize pd.back? = o
  rcases o with _ | ⟨s1, n1, z⟩
  · refine sim_modE (fun q => q.push _) (fun _ => rfl) fun _ => ?_
    exact zI rfl
  · with_reducible refine sim_loop (fun i r d => ?_) (fun d => ?_) fun r d => ?_
    all_goals (try dsimp only)
    case refine_3 => exact zI rfl
    case refine_2 =>
      refine sim_modE (fun q => q.modify (q.size - 1) _) (fun _ => rfl) fun _ => ?_
      refine sim_modE (fun q => q.push _) (fun _ => rfl) fun _ => ?_
      exact zI rfl
    refine sim_getP fun x y h => ?_
    simp only [h]
    clear h
    generalize pendingOf y = pd
    try dsimp only
    generalize (if pd.size > 1 then pd[pd.size - 2]? else none) = o
    rcases o with _ | ⟨u1, u2, u3⟩
    · exact zI rfl
    · dsimp only
      with_reducible refine sim_ite ?_ ?_
      · exact zI rfl
      refine zT (sim_mergeAt _) fun b => ?_
      with_reducible refine sim_ite ?_ ?_
      · exact zI rfl
      · exact zI rfl
end
end PZ
namespace PZ
open PySem PySem.W PyProof.Rows
noncomputable def noneTup (r : Nat) : Obj := { cls := .type "tuple", data := .seq (Array.replicate r Value.none) 0 }
noncomputable def fakes (h : Heap) : List Nat → Heap
  | [] => h
  | r :: rs => fakes (h.push (noneTup r)) rs
theorem fakes_old : ∀ (rs : List Nat) (h : Heap) (a : Addr) (o : Obj), h.get? a = some o → (fakes h rs).get? a = some o
  | [], _, _, _, e => e
  | r :: rs, h, a, o, e => fakes_old rs _ a o (Heap.get?_push_of_some _ e)
theorem fakes_get : ∀ (rs : List Nat) (h : Heap) (i r : Nat), rs[i]? = some r → (fakes h rs).get? (h.objs.size + i) = some (noneTup r)
  | [], _, _, _, e => by cases e
  | r :: rs, h, 0, q, e => by
    have e : r = q := by simpa using e
    subst e
    exact fakes_old rs _ _ _ (Heap.get?_push_size _ rfl)
  | r :: rs, h, i + 1, q, e => by
    have := fakes_get rs (h.push (noneTup r)) i q (by simpa using e)
    rw [Heap.size_push] at this
    rw [show h.objs.size + (i + 1) = h.objs.size + 1 + i by lia]
    exact this
section
variable {M : Model} {C : Ctx} {prog : Program} {w : World} {s : Shared}
theorem none_loop {K : Option Bool × Unit → Pos → Shared → Prop} {E : Value → Pos → Shared → Prop} {body : (Value × Value) × Nat → Option Bool × Unit → Sem (ForInStep (Option Bool × Unit))} (hb : ∀ i (R : ForInStep (Option Bool × Unit) → Pos → Shared → Prop) p, Sem.wp M C (body ((Value.none, Value.none), i) (none, ())) R E p s → R (.yield (none, ())) p s) :
    ∀ (n i : Nat) (p : Pos), Sem.wp M C (forIn ((List.replicate n (Value.none, Value.none)).zipIdx i) (none, ()) body) K E p s → K (none, ()) p s
  | 0, i, p, h => by
    rw [List.replicate_zero, List.zipIdx_nil, List.forIn_nil, Sem.wp_pure'] at h
    exact h
  | n + 1, i, p, h => by
    rw [List.replicate_succ, List.zipIdx_cons, List.forIn_cons, Sem.wp_bind'] at h
    exact none_loop hb n (i + 1) p (hb i _ p h)
theorem items_inv {a : Addr} {o : Obj} {xs : Array Value} {n : Nat} {K : Array Value → Pos → Shared → Prop} {E : Value → Pos → Shared → Prop} {p : Pos} (ho : s.heap.get? a = some o) (hd : o.data = .seq xs n) (h : Sem.wp M C (Builtin.List.listItems (.ref a)) K E p s) : K xs p s := by
  unfold Builtin.List.listItems seqItems? at h
  simp only [Sem.wp_bind', Sem.wp_load_of M C E p s ho, hd, Sem.wp_pure'] at h
  exact h
theorem key_inv {b : Bool} {x y : Addr} {r q : Nat} {K : Bool → Pos → Shared → Prop} {E : Value → Pos → Shared → Prop} {p : Pos} (hx : s.heap.get? x = some (noneTup r)) (hy : s.heap.get? y = some (noneTup q)) (h : Sem.wp M C (keyLt' (tuples' b) (.ref x) (.ref y)) K E p s) : K (decide (r < q)) p s := by
  rw [kat_lt_eq, Sem.wp_bind'] at h
  have h := items_inv hx rfl h
  rw [Sem.wp_bind'] at h
  have h := items_inv hy rfl h
  have e : (Array.replicate r Value.none).toList.zip (Array.replicate q Value.none).toList = List.replicate (min r q) (Value.none, Value.none) := by
    rw [Array.toList_replicate, Array.toList_replicate, List.zip_replicate]
  rw [e, Sem.wp_bind'] at h
  have h := none_loop (fun i R p hp => ?_) _ _ _ h
  · simp only [Sem.wp_pure', Array.size_replicate] at h
    exact h
  · dsimp only at hp
    unfold eqBool at hp
    simp only [Sem.wp_bind', Sem.wp_holding, beq_self_eq_true, if_true, Sem.wp_cmd_rule, Sem.wp_pure', Bool.not_true, Bool.false_eq_true, if_false] at hp
    exact hp
@[reducible] def natOrd : KeyOrd where
  α := Nat
  blt a b := decide (a < b)
  irrefl a := by simp
  trans a b c h1 h2 := by simp at *; lia
  negTrans a b c h := by simp at *; lia
  total a b h1 h2 := by simp at *; lia
@[reducible] def fakeKind (base : Nat) (rs : List Nat) : KeyKind where
  toKeyOrd := natOrd
  keyOf := fun v => match v with
    | .ref a => if base ≤ a then rs[a - base]? else none
    | _ => none
  dflt := 0
theorem fake_some {base : Nat} {rs : List Nat} {v : Value} {r : Nat} (h : (fakeKind base rs).keyOf v = some r) : ∃ i, v = .ref (base + i) ∧ rs[i]? = some r := by
  cases v with
  | ref a =>
    have h : (if base ≤ a then rs[a - base]? else none) = some r := h
    by_cases hb : base ≤ a
    · rw [if_pos hb] at h
      exact ⟨a - base, by rw [Nat.add_sub_cancel' hb], h⟩
    · rw [if_neg hb] at h; cases h
  | _ => cases h
theorem kat_nones {b : Bool} {A : Around} {fin : Bool} {Q : Bool → Shared → Prop} (h : Q fin s) : ∀ (n i : Nat), KatLex prog w A b fin Q (List.replicate n (Value.none, Value.none)) i s
  | 0, i => kat_nil h
  | n + 1, i => by
    rw [List.replicate_succ]
    exact kat_cons (SeqAt.EqAt.same Value.none prog w _ _ (kat_yes (kat_nones h n (i + 1))))
theorem fake_lt {b : Bool} (rs : List Nat) : G.LtAt prog w { s with heap := fakes s.heap rs } (fakeKind s.heap.objs.size rs) (tuples' b) := by
  intro A E x y r q Q hx hy hq
  obtain ⟨i, rfl, h1⟩ := fake_some hx
  obtain ⟨j, rfl, h2⟩ := fake_some hy
  refine kat_lt (fakes_get rs s.heap i r h1) rfl (fakes_get rs s.heap j q h2) rfl ?_
  have e : (Array.replicate r Value.none).toList.zip (Array.replicate q Value.none).toList = List.replicate (min r q) (Value.none, Value.none) := by
    rw [Array.toList_replicate, Array.toList_replicate, List.zip_replicate]
  rw [e]
  refine kat_nones ?_ _ _
  rw [Array.size_replicate, Array.size_replicate]
  exact hq
end
theorem count_lt {p q : Nat → Bool} : ∀ {l : List Nat}, (∀ x ∈ l, p x = true → q x = true) → (∃ x ∈ l, q x = true ∧ p x = false) → l.countP p < l.countP q
  | [], _, ⟨x, h, _⟩ => by cases h
  | y :: l, h1, ⟨x, hx, hq, hp⟩ => by
    have hle : l.countP p ≤ l.countP q := List.countP_mono_left fun z hz => h1 z (List.mem_cons_of_mem _ hz)
    rw [List.countP_cons, List.countP_cons]
    rcases List.mem_cons.mp hx with rfl | hx
    · rw [hq, hp]; simp; lia
    · have ih := count_lt (fun z hz => h1 z (List.mem_cons_of_mem _ hz)) ⟨x, hx, hq, hp⟩
      have := h1 y List.mem_cons_self
      cases e1 : p y with
      | false => cases e2 : q y <;> simp <;> lia
      | true => rw [this e1]; simp; lia
noncomputable def rank (O : KeyOrd) (k : Nat → O.α) (n i : Nat) : Nat := (List.range n).countP fun j => O.blt (k j) (k i)
theorem rank_lt {O : KeyOrd} {k : Nat → O.α} {n i j : Nat} (hi : i < n) : decide (rank O k n i < rank O k n j) = O.blt (k i) (k j) := by
  cases h : O.blt (k i) (k j) with
  | true => exact decide_eq_true (count_lt (fun x _ hx => O.trans _ _ _ hx h) ⟨i, List.mem_range.mpr hi, h, O.irrefl _⟩)
  | false =>
    refine decide_eq_false ?_
    have : rank O k n j ≤ rank O k n i := List.countP_mono_left fun x _ hx => KeyOrd.klt_of_klt_of_kle (O := O) hx h
    lia
section
variable {prog : Program} {w : World} {A : Around} {s : Shared}
theorem getD_some {vs : List Value} {i : Nat} (h : i < vs.length) : vs[i]? = some (vs.getD i Value.none) := by
  rw [List.getD_eq_getElem?_getD, List.getElem?_eq_getElem h]; rfl
theorem runs_by {b : Bool} (O : KeyOrd) (vs : List Value) (k : Nat → O.α) (h2 : 2 ≤ vs.length)
    (hc : ∀ (i j : Nat) (x y : Value), vs[i]? = some x → vs[j]? = some y → wpAny (model prog w) A (keyLt' (tuples' b) x y) (fun c s' => s' = s ∧ c = O.blt (k i) (k j)) (fun _ _ => False) s) :
    wpAny (model prog w) A (sortRuns'.run (SortSt.mk' (tuples' b) (pairsOf vs) #[] 7 none)) (fun r s' => s' = s ∧ failedOf r.2 = none ∧ ∃ p : List Nat, p.Perm (List.range vs.length) ∧ (arrOf r.2).toList = p.map (fun i => (vs.getD i Value.none, vs.getD i Value.none)) ∧
      p.Pairwise fun i j => O.blt (k j) (k i) = false) (fun _ _ => False) s := by
  intro C pos hC
  have hn : 0 < vs.length := by lia
  generalize hN : vs.length = n at *
  let rs : List Nat := (List.range n).map (rank O k n)
  let cl : Nat → Nat := fun i => if i < n then i else 0
  have hcl : ∀ i, cl i < n := fun i => by show (if i < n then i else 0) < n; split <;> assumption
  have hid : ∀ i, i < n → cl i = i := fun i h => if_pos h
  have hrs : ∀ i, i < n → rs[i]? = some (rank O k n i) := fun i h => by
    show ((List.range n).map (rank O k n))[i]? = _
    rw [List.getElem?_map, List.getElem?_range h]; rfl
  let T : Two := {
    M := model prog w, C := C, s1 := s, s2 := { s with heap := fakes s.heap rs }, kd := tuples' b
    f1 := fun i => (vs.getD (cl i) Value.none, vs.getD (cl i) Value.none)
    f2 := fun i => (.ref (s.heap.objs.size + cl i), vs.getD (cl i) Value.none)
    less := fun i j => decide (rank O k n (cl i) < rank O k n (cl j))
    c1 := fun i j p => by
      have := hc (cl i) (cl j) _ _ (getD_some (by rw [hN]; exact hcl i)) (getD_some (by rw [hN]; exact hcl j)) C p hC
      rw [← rank_lt (n := n) (hcl i)] at this
      exact this
    c2 := fun i j K E p h => ⟨p, key_inv (fakes_get rs s.heap _ _ (hrs _ (hcl i))) (fakes_get rs s.heap _ _ (hrs _ (hcl j))) h⟩ }
  have e1 : pairsOf vs = (Array.range n).map T.f1 := by
    apply Array.toList_inj.mp
    rw [pairsOf_toList, Array.toList_map, Array.toList_range]
    apply List.ext_getElem
    · simp [hN]
    · intro i h1 h3
      have hi : i < n := by simpa using h3
      have hi2 : i < vs.length := by rw [hN]; exact hi
      simp only [List.getElem_zip, List.getElem_map, List.getElem_range]
      show (vs[i], vs[i]) = (vs.getD (cl i) Value.none, vs.getD (cl i) Value.none)
      rw [hid i hi, List.getD_eq_getElem?_getD, List.getElem?_eq_getElem hi2]; rfl
  have key : ∀ i, i < n → (fakeKind s.heap.objs.size rs).keyOf (T.f2 i).1 = some (rank O k n (cl i)) := fun i h => by
    show (if s.heap.objs.size ≤ s.heap.objs.size + cl i then rs[s.heap.objs.size + cl i - s.heap.objs.size]? else none) = _
    rw [if_pos (Nat.le_add_right _ _), Nat.add_sub_cancel_left, hrs _ (hcl i)]
  have key' : ∀ i, (fakeKind s.heap.objs.size rs).keyOf (T.f2 i).1 = some (rank O k n (cl i)) := fun i => by
    show (if s.heap.objs.size ≤ s.heap.objs.size + cl i then rs[s.heap.objs.size + cl i - s.heap.objs.size]? else none) = _
    rw [if_pos (Nat.le_add_right _ _), Nat.add_sub_cancel_left, hrs _ (hcl i)]
  have lib : wpS (model prog w) A (fun _ _ => False) T.s2 sortRuns' (fun _ st' => (arrOf st').Perm ((Array.range n).map T.f2) ∧ failedOf st' = none ∧ SortedToK (fakeKind s.heap.objs.size rs) (arrOf st') ((Array.range n).map T.f2).size) (SortSt.mk' (tuples' b) ((Array.range n).map T.f2) #[] 7 none) := by
    refine G.wpS_sortRunsSt (κ := fakeKind s.heap.objs.size rs) (kd := tuples' b) (a₀ := (Array.range n).map T.f2) (fake_lt rs) (fun q hq => ?_) ⟨Array.Perm.refl _, rfl, rfl⟩ rfl (Stable.refl _) (by simpa using h2) fun st' a1 a2 a3 _ => ⟨a1, a2, a3⟩
    rw [Array.toList_map] at hq
    obtain ⟨i, _, rfl⟩ := List.mem_map.mp hq
    exact ⟨_, key' i⟩
  have sim := sim_sortRuns (T := T) (SortSt.mk' (tuples' b) (pairsOf vs) #[] 7 none) _ _ pos pos ⟨Array.range n, #[], 7, by rw [e1], rfl⟩ (lib C pos hC)
  refine Sem.wp_mono _ _ _ ?_ (fun _ _ _ z => z) _ _ sim
  rintro ⟨u, st⟩ p' s' ⟨rfl, v, y', q, _, ⟨p, pd, g, rfl, rfl⟩, _, hperm, hf, hsort⟩
  refine ⟨rfl, rfl, p.toList.map cl, ?_, ?_, ?_⟩
  · let g3 : Keyed → Nat := fun x => match x.1 with
      | .ref a => a - s'.heap.objs.size
      | _ => 0
    have hg : ∀ i, g3 (T.f2 i) = cl i := fun i => Nat.add_sub_cancel_left _ _
    have := ((Array.perm_iff_toList_perm.mp hperm).map g3)
    rw [show arrOf (SortSt.mk' T.kd (p.map T.f2) pd g none) = p.map T.f2 from rfl, Array.toList_map, Array.toList_map, List.map_map, List.map_map, Array.toList_range] at this
    have e2 : (List.range n).map (g3 ∘ T.f2) = List.range n := by
      conv => rhs; rw [← List.map_id (List.range n)]
      exact List.map_congr_left fun i hi => (hg i).trans (hid i (List.mem_range.mp hi))
    have e3 : p.toList.map (g3 ∘ T.f2) = p.toList.map cl := List.map_congr_left fun i _ => hg i
    rw [e2, e3] at this
    exact this
  · show (p.map T.f1).toList = _
    rw [Array.toList_map, List.map_map]
    rfl
  · rw [List.pairwise_iff_getElem]
    intro i j hi hj hij
    have hi' : i < p.size := by simpa using hi
    have hj' : j < p.size := by simpa using hj
    have hsz : p.size = n := by
      have := hperm.size_eq
      rw [show arrOf (SortSt.mk' T.kd (p.map T.f2) pd g none) = p.map T.f2 from rfl] at this
      simpa using this
    have hs := hsort i j (Nat.le_of_lt hij) (by rw [Array.size_map, Array.size_range, ← hsz]; exact hj')
    have kk : ∀ (m : Nat) (hm : m < p.size), KK (fakeKind s'.heap.objs.size rs) (p.map T.f2) m = rank O k n (cl p[m]) := fun m hm => by
      unfold KK
      rw [Array.getElem?_map, Array.getElem?_eq_getElem hm]
      show ((fakeKind s'.heap.objs.size rs).keyOf (T.f2 p[m]).1).getD 0 = _
      rw [key']; rfl
    have hs : decide (KK (fakeKind s'.heap.objs.size rs) (p.map T.f2) j < KK (fakeKind s'.heap.objs.size rs) (p.map T.f2) i) = false := hs
    rw [kk i hi', kk j hj', rank_lt (hcl _)] at hs
    simpa using hs
end
noncomputable def Keeps (h h' : Heap) : Prop := ∀ b o, h.get? b = some o → h'.get? b = some o
noncomputable def IntTup (h : Heap) (v : Value) : Prop := ∃ (a : Addr) (o : Obj) (xs : Array Value) (n : Nat) (i : Int) (t : Tok), v = .ref a ∧ h.get? a = some o ∧ o.cls = .type "tuple" ∧ o.data = .seq xs n ∧ xs[0]? = some (.int i t)
theorem heads {h : Heap} : ∀ {vs : List Value}, (∀ v ∈ vs, IntTup h v) → ∃ fs, KatTups h vs fs ∧ fs.length = vs.length ∧ ∀ f ∈ fs, ∃ i t, f = Value.int i t
  | [], _ => ⟨[], KatTups.nil, rfl, fun f hf => by cases hf⟩
  | v :: vs, hv => by
    obtain ⟨fs, h1, h2, h3⟩ := heads (fun u hu => hv u (List.mem_cons_of_mem _ hu))
    obtain ⟨a, o, xs, n, i, t, rfl, ho, hc, hd, hx⟩ := hv v List.mem_cons_self
    refine ⟨.int i t :: fs, KatTups.cons ho hc hd hx h1, by rw [List.length_cons, List.length_cons, h2], fun f hf => ?_⟩
    rcases List.mem_cons.mp hf with rfl | hf
    · exact ⟨i, t, rfl⟩
    · exact h3 f hf
section
variable {prog : Program} {w : World} {A : Around} {E : Value → Shared → Prop} {s : Shared}
theorem kind_of {M : Model} {vs : List Value} {Q : SortKind → Shared → Prop} (h2 : 2 ≤ vs.length) (hv : ∀ v ∈ vs, IntTup s.heap v) (h : Q (tuples' true) s) : wpAny M A (keyKind' vs.toArray) Q E s := by
  obtain ⟨fs, h1, h3, h4⟩ := heads hv
  refine kat_kind (T := Value.type "int") h1 (by lia) (fun v hv => ?_) rfl ?_
  · obtain ⟨i, t, rfl⟩ := h4 v hv
    exact Looks.of_pure rfl
  · rw [show (Value.type "int" != Value.type "tuple") = true by first | rfl | decide]
    exact h
theorem sort_by (O : KeyOrd) {a : Addr} {n : Nat} (vs : List Value) (k : Nat → O.α) {P : PySem.Fin → Shared → Prop} (ho : s.heap.get? a = some (seqObj "list" vs.toArray n)) (hL : vs.length ≤ sizeLine)
    (old : Addr → Prop) (hna : ¬ old a) (hv : ∀ h', (∀ b o, old b → s.heap.get? b = some o → h'.get? b = some o) → ∀ v ∈ vs, IntTup h' v)
    (hc : ∀ h', (∀ b o, old b → s.heap.get? b = some o → h'.get? b = some o) → ∀ (i j : Nat) (x y : Value), vs[i]? = some x → vs[j]? = some y →
      wpAny (model prog w) A (keyLt' (tuples' true) x y) (fun c s' => s' = { s with heap := h' } ∧ c = O.blt (k i) (k j)) (fun _ _ => False) { s with heap := h' })
    (h : ∀ (h' : Heap) (p : List Nat) (e : Nat), (∀ b o, b ≠ a → s.heap.get? b = some o → h'.get? b = some o) → h'.get? a = some (seqObj "list" (p.map fun i => vs.getD i Value.none).toArray e) → p.Perm (List.range vs.length) →
      (p.Pairwise fun i j => O.blt (k j) (k i) = false) → P (.done (.ret .none)) { s with heap := h' }) : wpAny (model prog w) A (Builtin.«list.sort» ⟨[.ref a], []⟩) P E s := by
  have hL2 := hL
  rw [sizeLine_eq] at hL2
  have ha : a < s.heap.objs.size := Heap.lt_size ho
  obtain ⟨e1, ho1⟩ : ∃ e1, (s.heap.update a (Obj.mapSeq fun _ => #[])).get? a = some (seqObj "list" #[] e1) := ⟨_, get?_update_seq ho (fun _ => #[])⟩
  generalize h6e : ((s.heap.update a (Obj.mapSeq fun _ => #[])).push (seqObj "tuple" vs.toArray 0)).push (seqObj "list" #[] 0) = h6
  have k6 : ∀ b o, b ≠ a → s.heap.get? b = some o → h6.get? b = some o := fun b o hb e => by
    rw [← h6e]
    exact Heap.get?_push_of_some _ (Heap.get?_push_of_some _ (by rw [Heap.get?_update_ne _ _ _ _ hb]; exact e))
  have ho6 : h6.get? a = some (seqObj "list" #[] e1) := by rw [← h6e]; exact Heap.get?_push_of_some _ (Heap.get?_push_of_some _ ho1)
  have ko : ∀ b o, old b → s.heap.get? b = some o → h6.get? b = some o := fun b o hb e => k6 b o (fun z => hna (z ▸ hb)) e
  have last : ∀ (out : Array Value), out.size = vs.length → ∃ e, (h6.update a (Obj.mapSeq fun _ => out)).get? a = some (seqObj "list" out e) := fun out _ => ⟨_, get?_update_seq ho6 fun _ => out⟩
  rw [list_sort_plain]
  refine wpAny_bind (listItems_at ho rfl (wpAny_bind (listUpdate_at ho rfl (wpAny_bind (seqEpoch_at ho1 rfl (wpAny_bind (wpAny_newTuple (wpAny_bind (wpAny_newList (wpAny_holding ?_))))))))))
  show wpAny (model prog w) A _ P E { s with heap := ((s.heap.update a (Obj.mapSeq fun _ => #[])).push (seqObj "tuple" vs.toArray 0)).push (seqObj "list" #[] 0) }
  rw [h6e]
  dsimp only
  have hsz : vs.toArray.size = vs.length := by simp
  have fin : ∀ (out : Array Value) (p : List Nat), out.toList = p.map (fun i => vs.getD i Value.none) → p.Perm (List.range vs.length) → (p.Pairwise fun i j => O.blt (k j) (k i) = false) →
      P (.done (.ret .none)) { s with heap := h6.update a (Obj.mapSeq fun _ => out) } := fun out p e hp hs => by
    have hz : out.size = vs.length := by
      rw [← Array.length_toList, e, List.length_map, hp.length_eq, List.length_range]
    obtain ⟨ep, he⟩ := last out hz
    refine h _ p ep (fun b o hb eo => by rw [Heap.get?_update_ne _ _ _ _ hb]; exact k6 b o hb eo) ?_ hp hs
    rw [he, ← e, Array.toArray_toList]
  by_cases h2 : vs.toArray.size < 2
  · rw [if_pos h2, if_pos h2]
    refine wpAny_bind (wpAny_pure ?_)
    rw [StateT.run_pure]
    refine wpAny_bind (wpAny_pure ?_)
    dsimp only
    refine wpAny_bind (seqEpoch_at ho6 rfl (wpAny_bind (listUpdate_at ho6 rfl ?_ (hsz2 := by rw [Array.size_map]; show (pairsOf vs).size ≤ _; rw [pairsOf_size, sizeLine_eq]; lia))))
    simp only [bne_self_eq_false, Bool.false_eq_true, if_false]
    refine wpAny_pure (fin _ (List.range vs.length) ?_ (List.Perm.refl _) ?_)
    · show ((pairsOf vs).map (·.2)).toList = _
      rw [Array.toList_map, pairsOf_toList]
      apply List.ext_getElem
      · simp
      · intro i h1 h3
        have hi : i < vs.length := by simpa using h3
        simp [List.getD_eq_getElem?_getD, List.getElem?_eq_getElem hi]
    · have hn : vs.length < 2 := by rw [← hsz]; exact h2
      have : vs.length = 0 ∨ vs.length = 1 := by lia
      rcases this with e | e <;> rw [e] <;> simp [List.range_succ]
  · rw [if_neg h2, if_neg h2]
    have hn : 2 ≤ vs.length := by rw [← hsz]; lia
    refine wpAny_bind (kind_of hn (hv h6 ko) ?_)
    try dsimp only
    refine wpAny_bind (wpAny_mono (runs_by (b := true) O vs k hn (hc h6 ko)) ?_ fun _ _ z => z.elim)
    rintro ⟨⟨⟩, st'⟩ s' ⟨rfl, hf, p, hp, hout, hs⟩
    dsimp only
    have hz : (arrOf st').size = vs.length := by rw [← Array.length_toList, hout, List.length_map, hp.length_eq, List.length_range]
    refine wpAny_bind (seqEpoch_at ho6 rfl (wpAny_bind (listUpdate_at ho6 rfl ?_ (hsz2 := by rw [Array.size_map, hz, sizeLine_eq]; lia))))
    rw [hf]
    simp only [bne_self_eq_false, Bool.false_eq_true, if_false]
    refine wpAny_pure (fin _ p ?_ hp hs)
    rw [Array.toList_map, hout, List.map_map]
    rfl
theorem sorted_by (O : KeyOrd) {l : Addr} (vs : List Value) (k : Nat → O.α) {Q : Value → Shared → Prop} (hL : vs.length ≤ sizeLine)
    (hcol : ∀ {R : List Value → Shared → Prop}, (∀ (h' : Heap) (tk : Nat), Keeps s.heap h' → R vs { s with heap := h', toks := tk }) → wpAny (model prog w) A.in1 (collect (.ref l)) R E s)
    (hv : ∀ h', Keeps s.heap h' → ∀ v ∈ vs, IntTup h' v)
    (hc : ∀ s2 : Shared, Keeps s.heap s2.heap → ∀ (i j : Nat) (x y : Value), vs[i]? = some x → vs[j]? = some y → wpAny (model prog w) A.in1.in1 (keyLt' (tuples' true) x y) (fun c s' => s' = s2 ∧ c = O.blt (k i) (k j)) (fun _ _ => False) s2)
    (h : ∀ (h1 h' : Heap) (tk : Nat) (p : List Nat) (e : Nat), Keeps s.heap h1 → Keeps h1 h' → h'.get? h1.objs.size = some (seqObj "list" (p.map fun i => vs.getD i Value.none).toArray e) → p.Perm (List.range vs.length) →
      (p.Pairwise fun i j => O.blt (k j) (k i) = false) → Q (.ref h1.objs.size) { s with heap := h', toks := tk }) : wpAny (model prog w) A (call (.builtin "sorted") [.ref l]) Q E s := by
  refine Calls.call_function_entry kind_sorted plain_sorted entry_sorted (args_sorted1 _) ?_
  unfold Builtin.«sorted»
  refine wpAny_bind (m := checkCount "sorted" 1 1 _) (wpAny_pure (wpAny_bind (hcol fun h1 tk k1 => wpAny_bind (wpAny_newList ?_))))
  have hlt : ∀ b o, s.heap.get? b = some o → b < h1.objs.size := fun b o e => Heap.lt_size (k1 b o e)
  have hD : (h1.push (seqObj "list" vs.toArray 0)).get? h1.objs.size = some (seqObj "list" vs.toArray 0) := Heap.get?_push_size _ rfl
  refine wpAny_bind (wpAny_holding (wpAny_call_entry slot_list_sort ⟨_, hD, rfl⟩ entry_list_sort (sort_by (s := { s with heap := h1.push (seqObj "list" vs.toArray 0), toks := tk }) O (n := 0) vs k hD hL (fun b => ∃ o, s.heap.get? b = some o) ?_ ?_ ?_ fun h' p e kk hl hp hs => ⟨_, rfl, ?_⟩) (args_list_sort _)))
  · rintro ⟨o, ho⟩
    exact absurd (hlt _ _ ho) (Nat.lt_irrefl _)
  · intro h' kk
    exact hv h' fun b o e => kk b o ⟨o, e⟩ (Heap.get?_push_of_some _ (k1 b o e))
  · intro h' kk i j x y hx hy
    exact hc { s with heap := h', toks := tk } (fun b o e => kk b o ⟨o, e⟩ (Heap.get?_push_of_some _ (k1 b o e))) i j x y hx hy
  · refine wpAny_pure ⟨_, rfl, h h1 h' tk p e k1 (fun b o eo => kk b o (Nat.ne_of_lt (Heap.lt_size eo)) (Heap.get?_push_of_some _ eo)) hl hp hs⟩
end
end PZ
namespace PZ
open PySem PySem.SeqAt PySem.W PyProof.Rows
noncomputable def ltN : Nat → PyData → PyData → Bool
  | 0, _, _ => false
  | _ + 1, .int a, .int b => decide (a < b)
  | n + 1, .list ds, .list es => lexA PyData.eqv (ltN n) ds es
  | n + 1, .tuple ds, .tuple es => lexA PyData.eqv (ltN n) ds es
  | _ + 1, _, _ => false
noncomputable def CanN : Nat → PyData → PyData → Prop
  | 0, _, _ => False
  | _ + 1, .int _, .int _ => True
  | n + 1, .list ds, .list es => ∀ (j : Nat) (d e : PyData), ds[j]? = some d → es[j]? = some e → CanN n d e
  | n + 1, .tuple ds, .tuple es => ∀ (j : Nat) (d e : PyData), ds[j]? = some d → es[j]? = some e → CanN n d e
  | _ + 1, _, _ => False
theorem lexA_cons {α : Type} (eqf ltf : α → α → Bool) (x y : α) (xs ys : List α) : lexA eqf ltf (x :: xs) (y :: ys) = if eqf x y = true then lexA eqf ltf xs ys else ltf x y := rfl
theorem reads_at {h : Heap} : ∀ {vs : List Value} {ds : List PyData} {as : List Addr}, ReadsAll h vs ds as → ∀ {j : Nat} {v : Value} {d : PyData}, vs[j]? = some v → ds[j]? = some d → ∃ bs, Reads h v d bs
  | _, _, _, .nil, j, v, d, e1, e2 => by simp at e1
  | _, _, _, .cons r rs, 0, v, d, e1, e2 => by
    simp only [List.getElem?_cons_zero, Option.some.injEq] at e1 e2
    subst e1 e2
    exact ⟨_, r⟩
  | _, _, _, .cons r rs, j + 1, v, d, e1, e2 => by
    simp only [List.getElem?_cons_succ] at e1 e2
    exact reads_at rs e1 e2
theorem reads_len {h : Heap} : ∀ {vs : List Value} {ds : List PyData} {as : List Addr}, ReadsAll h vs ds as → vs.length = ds.length
  | _, _, _, .nil => rfl
  | _, _, _, .cons r rs => by rw [List.length_cons, List.length_cons, reads_len rs]
theorem canLay_at : ∀ {ds : List PyData}, PyData.canLayAll0 ds = true → ∀ {j : Nat} {d : PyData}, ds[j]? = some d → d.canLay0 = true
  | [], _, j, d, e => by simp at e
  | x :: xs, h, 0, d, e => by
    have h : x.canLay0 = true ∧ PyData.canLayAll0 xs = true := by simpa [PyData.canLayAll0] using h
    simp only [List.getElem?_cons_zero, Option.some.injEq] at e
    subst e
    exact h.1
  | x :: xs, h, j + 1, d, e => by
    have h : x.canLay0 = true ∧ PyData.canLayAll0 xs = true := by simpa [PyData.canLayAll0] using h
    simp only [List.getElem?_cons_succ] at e
    exact canLay_at h.2 e
theorem depth_at : ∀ {ds : List PyData} {j : Nat} {d : PyData}, ds[j]? = some d → d.depth ≤ PyData.depthAll ds
  | [], j, d, e => by simp at e
  | x :: xs, 0, d, e => by
    simp only [List.getElem?_cons_zero, Option.some.injEq] at e
    subst e
    unfold PyData.depthAll
    exact Nat.le_max_left _ _
  | x :: xs, j + 1, d, e => by
    simp only [List.getElem?_cons_succ] at e
    have := depth_at e
    unfold PyData.depthAll
    exact Nat.le_trans this (Nat.le_max_right _ _)
structure Rd (s : Shared) (k : Nat) (v : Value) (d : PyData) : Prop where
  rd : ∃ as, Reads s.heap v d as
  lay : d.canLay0 = true
  dep : d.depth ≤ k
structure RdAll (s : Shared) (k : Nat) (vs : List Value) (ds : List PyData) : Prop where
  len : vs.length = ds.length
  at_ : ∀ (j : Nat) (v : Value) (d : PyData), vs[j]? = some v → ds[j]? = some d → Rd s k v d
theorem RdAll.of {s : Shared} {k : Nat} {vs : List Value} {ds : List PyData} {as : List Addr} (r : ReadsAll s.heap vs ds as) (l : PyData.canLayAll0 ds = true) (dp : PyData.depthAll ds ≤ k) : RdAll s k vs ds :=
  ⟨reads_len r, fun j v d e1 e2 => ⟨reads_at r e1 e2, canLay_at l e2, Nat.le_trans (depth_at e2) dp⟩⟩
theorem Rd.eq {A : Around} {s : Shared} {k : Nat} {v u : Value} {d e : PyData} (x : Rd s k v d) (y : Rd s k u e) (hu : A.units + k < cLine) : EqAt A s v u (PyData.eqv d e) := by
  obtain ⟨as, r1⟩ := x.rd
  obtain ⟨bs, r2⟩ := y.rd
  refine eqAt_reads d e A s v u as bs r1 r2 x.lay y.lay ?_
  have h1 := x.dep
  have h2 : min d.depth e.depth ≤ d.depth := Nat.min_le_left _ _
  lia
theorem Rd.lt : ∀ (n : Nat) {A : Around} {s : Shared} {k : Nat} {v u : Value} {d e : PyData}, Rd s k v d → Rd s k u e → A.units + n + k < cLine → CanN n d e → LtOf A s v u (ltN n d e)
  | 0, _, _, _, _, _, _, _, _, _, _, h => h.elim
  | n + 1, A, s, k, v, u, d, e, x, y, hu, h => by
    have cmp : ∀ {vs ws : Array Value} {ds es : List PyData}, RdAll s k vs.toList ds → RdAll s k ws.toList es → (∀ (j : Nat) (d e : PyData), ds[j]? = some d → es[j]? = some e → CanN n d e) → CmpAll A.in1 s PyData.eqv (ltN n) vs ws ds es := fun {vs ws ds es} a b c => by
      refine ⟨by simpa using a.len, by simpa using b.len, fun j h1 h2 d e e1 e2 => ?_⟩
      have p := a.at_ j vs[j] d (by rw [Array.getElem?_toList]; exact Array.getElem?_eq_getElem h1) e1
      have q := b.at_ j ws[j] e (by rw [Array.getElem?_toList]; exact Array.getElem?_eq_getElem h2) e2
      exact ⟨p.eq (A := A.in1) q (by show A.units + 1 + k < cLine; lia), fun _ => Rd.lt n p q (by show A.units + 1 + n + k < cLine; lia) (c j d e e1 e2)⟩
    obtain ⟨⟨as, r1⟩, l1, dp1⟩ := x
    obtain ⟨⟨bs, r2⟩, l2, dp2⟩ := y
    cases r1 with
    | none => exact False.elim (by cases e <;> exact h)
    | bool b => exact False.elim (by cases e <;> exact h)
    | str b t => exact False.elim (by cases e <;> exact h)
    | dict => exact nomatch l1
    | int i t =>
      cases r2 with
      | int j t' => exact LtOf.int i t j t'
      | none => exact h.elim
      | bool b => exact h.elim
      | str b t => exact h.elim
      | list => exact h.elim
      | tuple => exact h.elim
      | dict => exact h.elim
    | @list l o vs m xs as₁ h1 h2 h3 h4 =>
      cases r2 with
      | @list l' o' vs' m' ys bs₁ k1 k2 k3 k4 =>
        have d1 : PyData.depthAll xs + 1 ≤ k := by unfold PyData.depth at dp1; exact dp1
        have d2 : PyData.depthAll ys + 1 ≤ k := by unfold PyData.depth at dp2; exact dp2
        exact LtOf.list ⟨_, h1, h2, _, h3⟩ ⟨_, k1, k2, _, k3⟩ (by lia) (cmp (RdAll.of h4 (by simpa [PyData.canLay0] using l1) (by lia)) (RdAll.of k4 (by simpa [PyData.canLay0] using l2) (by lia)) h)
      | int j t' => exact h.elim
      | none => exact h.elim
      | bool b => exact h.elim
      | str b t => exact h.elim
      | tuple => exact h.elim
      | dict => exact h.elim
    | @tuple l o vs m xs as₁ h1 h2 h3 h4 =>
      cases r2 with
      | @tuple l' o' vs' m' ys bs₁ k1 k2 k3 k4 =>
        have d1 : PyData.depthAll xs + 1 ≤ k := by unfold PyData.depth at dp1; exact dp1
        have d2 : PyData.depthAll ys + 1 ≤ k := by unfold PyData.depth at dp2; exact dp2
        exact LtOf.tuple ⟨_, h1, h2, _, h3⟩ ⟨_, k1, k2, _, k3⟩ (by lia) (cmp (RdAll.of h4 (by simpa [PyData.canLay0] using l1) (by lia)) (RdAll.of k4 (by simpa [PyData.canLay0] using l2) (by lia)) h)
      | int j t' => exact h.elim
      | none => exact h.elim
      | bool b => exact h.elim
      | str b t => exact h.elim
      | list => exact h.elim
      | dict => exact h.elim
section
variable {prog : Program} {w : World} {A : Around} {s : Shared}
theorem kat_tail {b : Bool} {Q : Bool → Shared → Prop} {eqf ltf : PyData → PyData → Bool} : ∀ (vs ws : List Value) (ds es : List PyData) (i : Nat) (fin : Bool), 0 < i → fin = decide (vs.length < ws.length) → vs.length = ds.length → ws.length = es.length →
    (∀ (j : Nat) (v u : Value) (d e : PyData), vs[j]? = some v → ws[j]? = some u → ds[j]? = some d → es[j]? = some e → EqAt A s v u (eqf d e) ∧ (eqf d e = false → LtOf A s v u (ltf d e))) → Q (lexA eqf ltf ds es) s → KatLex prog w A b fin Q (vs.zip ws) i s
  | [], [], ds, es, i, fin, hi, hf, h1, h2, h3, h => by
    obtain rfl : ds = [] := List.length_eq_zero_iff.mp h1.symm
    obtain rfl : es = [] := List.length_eq_zero_iff.mp h2.symm
    rw [hf]; exact kat_nil h
  | [], u :: ws, ds, es, i, fin, hi, hf, h1, h2, h3, h => by
    obtain rfl : ds = [] := List.length_eq_zero_iff.mp h1.symm
    obtain ⟨e, es', rfl⟩ : ∃ e es', es = e :: es' := by cases es with | nil => cases h2 | cons e es' => exact ⟨e, es', rfl⟩
    rw [hf]; exact kat_nil h
  | v :: vs, [], ds, es, i, fin, hi, hf, h1, h2, h3, h => by
    obtain rfl : es = [] := List.length_eq_zero_iff.mp h2.symm
    obtain ⟨e, es', rfl⟩ : ∃ e es', ds = e :: es' := by cases ds with | nil => cases h1 | cons e es' => exact ⟨e, es', rfl⟩
    rw [hf]; exact kat_nil h
  | v :: vs, u :: ws, ds, es, i, fin, hi, hf, h1, h2, h3, h => by
    obtain ⟨d, ds', rfl⟩ : ∃ e es', ds = e :: es' := by cases ds with | nil => cases h1 | cons e es' => exact ⟨e, es', rfl⟩
    obtain ⟨e, es', rfl⟩ : ∃ e es', es = e :: es' := by cases es with | nil => cases h2 | cons e es' => exact ⟨e, es', rfl⟩
    obtain ⟨q1, q2⟩ := h3 0 v u d e rfl rfl rfl rfl
    unfold lexA at h
    rw [List.zip_cons_cons]
    refine kat_cons (q1 prog w _ _ (kat_go (fun hb => kat_yes ?_) fun hb => kat_no ?_))
    · rw [if_pos hb] at h
      exact kat_tail vs ws ds' es' (i + 1) fin (Nat.succ_pos _) (by rw [hf]; simp) (by simpa using h1) (by simpa using h2) (fun j v u d e a b c d' => h3 (j + 1) v u d e a b c d') h
    · rw [if_neg (by rw [hb]; decide)] at h
      have : (b && i == 0) = false := by
        have : (i == 0) = false := by simpa using Nat.ne_of_gt hi
        rw [this, Bool.and_false]
      rw [this]
      exact kat_one _ _ (q2 hb prog w _ _ h)
theorem tup_key {k n : Nat} {v u : Value} {i j : Int} {ds es : List PyData} (x : Rd s k v (.tuple (.int i :: ds))) (y : Rd s k u (.tuple (.int j :: es))) (hu : A.units + n + k < cLine) (hc : CanN (n + 1) (.tuple (.int i :: ds)) (.tuple (.int j :: es))) :
    wpAny (model prog w) A (keyLt' (tuples' true) v u) (fun c s' => s' = s ∧ c = ltN (n + 1) (.tuple (.int i :: ds)) (.tuple (.int j :: es))) (fun _ _ => False) s := by
  obtain ⟨⟨as, r1⟩, l1, dp1⟩ := x
  obtain ⟨⟨bs, r2⟩, l2, dp2⟩ := y
  cases r1 with
  | @tuple l o vs m xs as₁ h1 h2 h3 h4 =>
    cases r2 with
    | @tuple l' o' vs' m' ys bs₁ k1 k2 k3 k4 =>
      have d1 : PyData.depthAll (.int i :: ds) + 1 ≤ k := by unfold PyData.depth at dp1; exact dp1
      have d2 : PyData.depthAll (.int j :: es) + 1 ≤ k := by unfold PyData.depth at dp2; exact dp2
      have a := RdAll.of (k := k) h4 (by simpa [PyData.canLay0] using l1) (by lia)
      have b := RdAll.of (k := k) k4 (by simpa [PyData.canLay0] using l2) (by lia)
      refine kat_lt h1 h3 k1 k3 ?_
      have hf : decide (vs.size < vs'.size) = decide (vs.toList.length < vs'.toList.length) := by rw [Array.length_toList, Array.length_toList]
      rw [hf]
      generalize vs.toList = ps at h4 a
      generalize vs'.toList = qs at k4 b
      cases h4 with
      | @cons p ps' _ _ _ _ rp rps =>
        cases rp with
        | int _ t =>
          cases k4 with
          | @cons q qs' _ _ _ _ rq rqs =>
            cases rq with
            | int _ t' =>
              rw [List.zip_cons_cons]
              refine kat_cons (wpAny_eqBool_int (kat_go (fun hb => kat_yes ?_) fun hb => kat_no ?_))
              · have e : i = j := by simpa using hb
                subst e
                refine kat_tail (eqf := PyData.eqv) (ltf := ltN n) ps' qs' ds es 1 _ (by decide) (by simp) (by simpa using a.len) (by simpa using b.len) (fun j v u d e e1 e2 e3 e4 => ?_) ⟨rfl, ?_⟩
                · have p := a.at_ (j + 1) v d e1 e3
                  have q := b.at_ (j + 1) u e e2 e4
                  exact ⟨p.eq q (by lia), fun _ => Rd.lt n p q hu (hc (j + 1) d e e3 e4)⟩
                · show _ = lexA PyData.eqv (ltN n) (.int i :: ds) (.int i :: es)
                  rw [lexA_cons, if_pos (by show (i == i) = true; simp)]
              · have e : ¬ i = j := by simpa using hb
                refine oneLt_any_int ⟨rfl, ?_⟩
                show _ = lexA PyData.eqv (ltN n) (.int i :: ds) (.int j :: es)
                rw [lexA_cons, if_neg (by show ¬ (i == j) = true; simpa using e)]
                cases n with
                | zero => exact (hc 0 (.int i) (.int j) rfl rfl).elim
                | succ n => rfl
end
end PZ
namespace PZ
open PySem PySem.Spec PySem.W PyProof.Rows L2
structure Fit (n : Nat) (ds : List PyData) : Prop where
  tup : ∀ d ∈ ds, ∃ (i : Int) (es : List PyData), d = .tuple (.int i :: es)
  lay : ∀ d ∈ ds, d.canLay0 = true
  dep : ∀ d ∈ ds, d.depth ≤ 8
  can : ∀ d ∈ ds, ∀ e ∈ ds, CanN (n + 1) d e
theorem dp_get {K : PySem.W.Frag} {H : Hp} : ∀ {vs : List V} {ds : List PyData}, DpAll K H vs ds → ∀ {j : Nat} {v : V}, vs[j]? = some v → ∃ d, ds[j]? = some d ∧ Dp K H v d
  | _, _, .nil, j, v, e => by simp at e
  | _, _, .cons h hs, 0, v, e => by
    simp only [List.getElem?_cons_zero, Option.some.injEq] at e
    subst e
    exact ⟨_, rfl, h⟩
  | _, _, .cons h hs, j + 1, v, e => by
    simp only [List.getElem?_cons_succ] at e ⊢
    exact dp_get hs e
theorem dp_len {K : PySem.W.Frag} {H : Hp} : ∀ {vs : List V} {ds : List PyData}, DpAll K H vs ds → vs.length = ds.length
  | _, _, .nil => rfl
  | _, _, .cons h hs => by rw [List.length_cons, List.length_cons, dp_len hs]
theorem vals_get {vs : List V} {us : List Value} (r : Vals vs us) {j : Nat} {u : Value} (e : us[j]? = some u) : ∃ v, vs[j]? = some v ∧ RelV v u := by
  have hl := r.length
  obtain ⟨hj, _⟩ := List.getElem?_eq_some_iff.mp e
  have hv : vs[j]? = some vs[j] := List.getElem?_eq_getElem (by lia)
  obtain ⟨u', hu, ru⟩ := r.get hv
  rw [e] at hu
  cases hu
  exact ⟨_, hv, ru⟩
theorem vals_pick {vs : List V} {us : List Value} (r : Vals vs us) : ∀ {p : List Nat}, (∀ i ∈ p, i < vs.length) → Vals (p.map fun i => vs.getD i .non) (p.map fun i => us.getD i Value.none)
  | [], _ => .nil
  | i :: p, h => by
    have hi := h i List.mem_cons_self
    have hv : vs[i]? = some (vs.getD i .non) := by rw [List.getD_eq_getElem?_getD, List.getElem?_eq_getElem hi]; rfl
    obtain ⟨u, hu, ru⟩ := r.get hv
    have : us.getD i Value.none = u := by rw [List.getD_eq_getElem?_getD, hu]; rfl
    refine .cons ?_ (vals_pick r fun j hj => h j (List.mem_cons_of_mem _ hj))
    show L2.RelV (vs.getD i V.non) (us.getD i Value.none)
    rw [this]; exact ru
section
variable {X : Cx}
theorem sorted_core {pins : List (Addr × Obj)} {s : Shared} {σ : L2.St} {H : Hp} {Q : VK} {l : Addr} {vs : List V} {us : List Value} {ds : List PyData} {n : Nat} {O : KeyOrd} {key : Nat → O.α} (hu : X.A.units + 64 < cLine) (hn : n ≤ 8) (I : Inv X pins σ H s) (r : Vals vs us) (hd : DpAll X.K H vs ds) (fit : Fit n ds)
    (hz : vs.length ≤ sizeLine) (hk : ∀ (i j : Nat) (d e : PyData), ds[i]? = some d → ds[j]? = some e → ltN (n + 1) d e = O.blt (key i) (key j))
    (hcol : ∀ {R : List Value → Shared → Prop}, (∀ (h' : Heap) (tk : Nat), Keeps s.heap h' → R us { s with heap := h', toks := tk }) → wpAny (model X.prog X.w) X.A.in1 (collect (.ref l)) R X.xe s)
    (q : ∀ (p : List Nat) (a : Addr), p.Perm (List.range vs.length) → (p.Pairwise fun i j => O.blt (key j) (key i) = false) → H a = none → Q (.ref a) (upd H a (.lst (p.map fun i => vs.getD i .non)))) :
    wpAny (model X.prog X.w) X.A (call (.builtin "sorted") [.ref l]) (EP X pins σ Q) X.xe s := by
  have hl := r.length
  have rd : ∀ {j : Nat} {u : Value}, us[j]? = some u → ∃ d, ds[j]? = some d ∧ d ∈ ds ∧ ∃ as, Reads s.heap u d as := fun {j u} e => by
    obtain ⟨v, hv, rv⟩ := vals_get r e
    obtain ⟨d, hd2, hdp⟩ := dp_get hd hv
    obtain ⟨as, ra⟩ := Dp.reads I d v u hdp rv
    exact ⟨d, hd2, List.mem_of_getElem? hd2, as, ra⟩
  refine sorted_by O us key (by rw [← hl]; exact hz) hcol (fun h' kk v hv => ?_) (fun s2 kk i j x y hx hy => ?_) fun h1 h' tk p e k1 k2 he hp hs => ?_
  · obtain ⟨j, hj⟩ := List.getElem?_of_mem hv
    obtain ⟨d, _, hm, as, ra⟩ := rd hj
    obtain ⟨i, es, rfl⟩ := fit.tup d hm
    cases Reads.keeps kk ra with
    | @tuple a o ws m _ _ h1 h2 h3 h4 =>
      refine ⟨a, o, ws, m, i, ?_⟩
      generalize hw : ws.toList = wl at h4
      cases h4 with
      | cons r1 r2 =>
        cases r1 with
        | int _ t => exact ⟨t, rfl, h1, h2, h3, by rw [← Array.getElem?_toList, hw]; rfl⟩
  · obtain ⟨d, e1, m1, as, ra⟩ := rd hx
    obtain ⟨e, e2, m2, bs, rb⟩ := rd hy
    rw [← hk i j d e e1 e2]
    have c := fit.can d m1 e m2
    obtain ⟨a, es, rfl⟩ := fit.tup d m1
    obtain ⟨b, fs, rfl⟩ := fit.tup e m2
    exact tup_key (k := 8) ⟨⟨as, Reads.keeps kk ra⟩, fit.lay _ m1, fit.dep _ m1⟩ ⟨⟨bs, Reads.keeps kk rb⟩, fit.lay _ m2, fit.dep _ m2⟩ (by show X.A.units + 1 + 1 + n + 8 < cLine; lia) c
  · rw [← hl] at hp
    have hm : ∀ i ∈ p, i < vs.length := fun i hi => List.mem_range.mp (hp.mem_iff.mp hi)
    have hlen : (p.map fun i => vs.getD i .non).length ≤ sizeLine := by rw [List.length_map, hp.length_eq, List.length_range]; exact hz
    have I1 : Inv X pins σ H { s with heap := h1, toks := tk } := I.kept k1
    refine ⟨.ref h1.objs.size, upd H h1.objs.size (.lst (p.map fun i => vs.getD i .non)), I1.laid (t' := tk) k2 (Nat.le_refl _) ⟨hlen, _, e, vals_pick r hm, ?_⟩, rfl, q p _ hp hs (I1.hok.fresh (Nat.le_refl _))⟩
    exact he
noncomputable def rSortL (K : PySem.W.Frag) : List V → Hp → VK → Prop := fun xs H Q => ∃ (a : Addr) (vs : List V) (ds : List PyData) (n : Nat) (O : KeyOrd) (key : Nat → O.α), xs = [.ref a] ∧ H a = some (.lst vs) ∧ DpAll K H vs ds ∧ Fit n ds ∧ n ≤ 8 ∧
  (∀ (i j : Nat) (d e : PyData), ds[i]? = some d → ds[j]? = some e → ltN (n + 1) d e = O.blt (key i) (key j)) ∧
  ∀ (p : List Nat) (a : Addr), p.Perm (List.range vs.length) → (p.Pairwise fun i j => O.blt (key j) (key i) = false) → H a = none → Q (.ref a) (upd H a (.lst (p.map fun i => vs.getD i .non)))
theorem cr_sortL (hu : X.A.units + 64 < cLine) : CallR X (.builtin "sorted") (rSortL X.K) := by
  intro pins s σ H xs us Q I r h
  obtain ⟨a, vs, ds, n, O, key, rfl, ha, hd, fit, hn, hk, q⟩ := h
  obtain ⟨hz, its, m, rv, hob⟩ := I.hok a _ ha
  rw [Vals.ref1 r]
  refine sorted_core hu hn I rv hd fit hz hk (fun {R} hR => ?_) q
  refine collect_list (vs := its) ⟨_, hob, rfl, _, rfl⟩ (hR _ s.toks fun b o e => ?_) (by rw [← rv.length]; exact hz)
  rw [Heap.get?_update_ne _ _ _ _ (Nat.ne_of_lt (Heap.lt_size e))]
  exact Heap.get?_push_of_some _ e
end
section
variable {prog : Program} {w : World}
noncomputable def DictHas (h : Heap) (d : Addr) (od : Obj) : Prop := h.get? d = some od
theorem walk_dict {A : Around} (hh : A.handled = none) (J d : Addr) (hne : d ≠ J) {od : Obj} {es : Array DictEntry} {ep : Nat} (hdd : od.data = .dict es ep) :
    Walks prog w A J [J, d] [J] es.size (fun i v => ∃ en, es[i]? = some en ∧ v = en.key) (fun i h => h.IsKeyIter J d i es.size ep ∧ DictHas h d od) where
  sub := fun b hb => by simp at hb; simp [hb]
  frame := fun _ _ _ st hk => ⟨st.1.at fun o e => hk J (by simp) o e, hk d (by simp) od st.2⟩
  item := fun i s Q E hi st hQ => by
    have hx : es[i]? = some es[i] := Array.getElem?_eq_getElem hi
    refine next_key_item st.1 st.2 hdd rfl hx fun h' hit' hs' => ?_
    exact hQ _ h' s.toks ⟨_, hx, rfl⟩ ⟨hit', (hs'.2 d hne).trans st.2⟩ fun b o hb e => (hs'.2 b (fun h => hb (by simp [h]))).trans e
  done := fun s Q E st hQ => next_key_end hh st.1 st.2 hdd rfl (Nat.le_refl _) fun h' he' => hQ h' s.toks fun b o hb e => he' b o (fun h => hb (by simp [h])) e
  self := fun _ _ _ _ st hQ => wpAny_pyIter_keyiter st.1 hQ
theorem src_dict {d : Addr} {od : Obj} {es : Array DictEntry} {ep : Nat} (hs : (d == sysModules) = false) (hx : od.ExactDict) (hdd : od.data = .dict es ep) :
    KdlSrc prog w "dict" d d es.size (fun i v => ∃ en, es[i]? = some en ∧ v = en.key) (fun h => DictHas h d od) where
  type := fun _ hm => ⟨od, hm, hx.1⟩
  there := fun _ hm => ⟨Heap.lt_size hm, Heap.lt_size hm⟩
  keep := fun _ _ hm hk => hk d (.inl rfl) od hm
  notList := by decide
  notTuple := by decide
  hint := fun _ _ _ _ hm hq => kdl_hint_dict ⟨od, hm, hx.1⟩ hq
  iter := fun _ s hh hm => ⟨_, _, (fun _ _ hq => iter_keys hs hm hx hdd hq), walk_dict hh _ d (Nat.ne_of_lt (Heap.lt_size hm)) hdd, ⟨⟨_, Heap.get?_push_size _ rfl, rfl, rfl⟩, Heap.get?_push_of_some _ hm⟩⟩
end
section
variable {X : Cx}
noncomputable def rSortT (K : PySem.W.Frag) : List V → Hp → VK → Prop := fun xs H Q => ∃ (d : Addr) (kvs : List (List Key × V)) (ds : List PyData) (n : Nat) (O : KeyOrd) (key : Nat → O.α), xs = [.ref d] ∧ H d = some (.dT kvs) ∧ Fit n ds ∧ n ≤ 8 ∧
  (∀ (i j : Nat) (d e : PyData), ds[i]? = some d → ds[j]? = some e → ltN (n + 1) d e = O.blt (key i) (key j)) ∧
  ∀ qs : List Addr, Paired (fun (x : List Key × V) (q : Addr) => H q = some (.tup (x.1.map kV))) kvs qs → DpAll K H (qs.map V.ref) ds ∧
    ∀ (p : List Nat) (a : Addr), p.Perm (List.range kvs.length) → (p.Pairwise fun i j => O.blt (key j) (key i) = false) → H a = none → Q (.ref a) (upd H a (.lst (p.map fun i => (qs.map V.ref).getD i .non)))
theorem pair_refs {H : Hp} : ∀ {kvs : List (List Key × V)} {xs : List (List Key × Addr × Value)}, Paired (fun (p : List Key × V) (q : List Key × Addr × Value) => p.1 = q.1 ∧ H q.2.1 = some (.tup (p.1.map kV)) ∧ L2.RelV p.2 q.2.2) kvs xs → Paired (fun (x : List Key × V) (q : Addr) => H q = some (.tup (x.1.map kV))) kvs (xs.map fun x => x.2.1)
  | _, _, .nil => .nil
  | _, _, .cons r t => .cons r.2.1 (pair_refs t)
theorem vals_refs : ∀ (l : List Addr), Vals (l.map V.ref) (l.map Value.ref)
  | [] => .nil
  | a :: l => .cons rfl (vals_refs l)
theorem cr_sortT (hcalm : X.calm = true) (hu : X.A.units + 64 < cLine) : CallR X (.builtin "sorted") (rSortT X.K) := by
  intro pins s σ H xs us Q I r h
  obtain ⟨d, kvs, ds, n, O, key, rfl, hd, fit, hn, hk, q⟩ := h
  obtain ⟨hz, hs, xs, pr, o, es, ep, ho, hx, hdt, he, _⟩ := I.hok d _ hd
  rw [Vals.ref1 r]
  obtain ⟨hD, q⟩ := q _ (pair_refs pr)
  have hl : kvs.length = xs.length := Paired.length pr
  have hlen : ((xs.map fun x => x.2.1).map V.ref).length = kvs.length := by rw [List.length_map, List.length_map, hl]
  have hes : es.size = xs.length := by rw [← Array.length_toList, he, List.length_map]
  refine sorted_core hu hn I (vals_refs (xs.map fun x => x.2.1)) hD fit (by rw [hlen]; exact hz) hk (fun {R} hR => ?_) (by rw [hlen]; exact q)
  refine kdu_collect (A := X.A.in1) (src_dict hs hx hdt) (I.ok.hd hcalm) ho (by rw [hes, ← hl]; exact hz) fun h' tk acc hk2 hacc => ?_
  have e : acc.toList = (xs.map fun x => x.2.1).map Value.ref := by
    apply List.ext_getElem?
    intro i
    rw [Array.getElem?_toList, List.getElem?_map, List.getElem?_map]
    rcases Nat.lt_or_ge i acc.size with hi | hi
    · obtain ⟨en, h1, h2⟩ := hacc.2 i _ (Array.getElem?_eq_getElem hi)
      rw [Array.getElem?_eq_getElem hi, h2]
      have h3 : es.toList[i]? = some en := by rw [Array.getElem?_toList]; exact h1
      rw [he, List.getElem?_map] at h3
      obtain ⟨x, hx1, hx2⟩ := Option.map_eq_some_iff.mp h3
      rw [hx1, ← hx2]
      rfl
    · have : acc.size = es.size := hacc.1
      rw [Array.getElem?_eq_none hi, List.getElem?_eq_none (by lia)]; rfl
  rw [e]
  exact hR h' tk hk2
end
mutual
theorem dp_mono {K : PySem.W.Frag} {H H' : Hp} (m : Same H H') : ∀ (d : PyData) (v : V), Dp K H v d → Dp K H' v d
  | .none, _, h => by cases h; exact .non
  | .bool b, _, h => by cases h; exact .bl b
  | .int i, _, h => by cases h; exact .int i
  | .str x, _, h => by cases h; exact .str x
  | .list ds, _, h => by
    cases h with
    | lst hs ha => exact .lst (sqL_mono m hs) (dpAll_mono m ds _ ha)
  | .tuple ds, _, h => by
    cases h with
    | tup hs ha => exact .tup (sqT_mono m hs) (dpAll_mono m ds _ ha)
  | .dict _, _, h => by cases h
theorem dpAll_mono {K : PySem.W.Frag} {H H' : Hp} (m : Same H H') : ∀ (ds : List PyData) (vs : List V), DpAll K H vs ds → DpAll K H' vs ds
  | [], _, h => by cases h; exact .nil
  | d :: ds, _, h => by
    cases h with
    | cons h1 h2 => exact .cons (dp_mono m d _ h1) (dpAll_mono m ds _ h2)
theorem sqL_mono {K : PySem.W.Frag} {H H' : Hp} (m : Same H H') {a : Addr} {xs : List V} : SqL K H a xs → SqL K H' a xs
  | .inl h => .inl (h.imp (m _ _) fun ⟨o, e⟩ => ⟨o, m _ _ e⟩)
  | .inr h => .inr h
theorem sqT_mono {K : PySem.W.Frag} {H H' : Hp} (m : Same H H') {a : Addr} {xs : List V} : SqT K H a xs → SqT K H' a xs
  | .inl h => .inl (h.imp (m _ _) fun ⟨o, e⟩ => ⟨o, m _ _ e⟩)
  | .inr h => .inr h
end
section
variable {X : Cx} {pins : List (Addr × Obj)} {σ : L2.St} {k : Nat} {f : Addr} {fd : FuncData}
inductive IspFew (vs : List V) (H : Hp) (Q : VK) : Prop
  | mk (r : Addr) (ws : List V) (_h1 : vs = [.ref r]) (_h2 : H r = some (.lst ws)) (_h3 : ∀ t, H t = none → Q (.ref t) (upd H t (.tup [.int (ws.length : Nat), .ref r]))) : IspFew vs H Q
noncomputable def spFew : Sp := fun vs H Q _ => IspFew vs H Q
theorem few_call {s : Shared} {H : Hp} {r : Addr} {ws : List V} {Q : VK} {E' : Value → Shared → Prop} (F : FnOk X.prog X.w X.K X.mg X.base CX0 k f fd ["row"] spFew) (hr : Room (k + 1) X.A) (hb : Binds X.K fd ["row"] []) (I : Inv X pins σ H s) (h : H r = some (.lst ws))
    (q : ∀ t, H t = none → Q (.ref t) (upd H t (.tup [.int (ws.length : Nat), .ref r]))) : wpAny (model X.prog X.w) X.A.in1 (call (.ref f) [.ref r]) (EP X pins σ Q) E' s := by
  refine wpAny_call (codeAny_mono (F.run X.A.in1 X.stack s H ⟨[.ref r], []⟩ [.ref r] [.ref r] Q E0 hr.in1 I.env0.in1 (hb s [.ref r] I.kIn rfl) (.cons rfl .nil) ⟨r, ws, rfl, h, q⟩) fun z s' hq => ?_)
  cases z with
  | error e => exact (show False from hq).elim
  | ok fl =>
    cases fl with
    | ret u => exact I.after hq
    | next => exact False.elim hq
    | brk => exact False.elim hq
    | cont => exact False.elim hq
noncomputable def dat (W : Nat → List V) (D : Nat → List PyData) (j : Nat) : PyData := .tuple [.int ((W j).length : Nat), .list (D j)]
structure Rws (X : Cx) (H : Hp) (l : Addr) (n : Nat) (R : Nat → Addr) (W : Nat → List V) (D : Nat → List PyData) (O : KeyOrd) (key : Nat → O.α) : Prop where
  lst : H l = some (.lst ((List.range n).map fun j => V.ref (R j)))
  row : ∀ j, j < n → H (R j) = some (.lst (W j))
  dp : ∀ j, j < n → DpAll X.K H (W j) (D j)
  lay : ∀ j, j < n → (dat W D j).canLay0 = true
  dep : ∀ j, j < n → (dat W D j).depth ≤ 8
  can : ∀ i j, i < n → j < n → CanN 4 (dat W D i) (dat W D j)
  lt : ∀ i j, i < n → j < n → ltN 4 (dat W D i) (dat W D j) = O.blt (key i) (key j)
noncomputable def ResMin (X : Cx) (pins : List (Addr × Obj)) (σ : L2.St) (Q : VK) : Result → Shared → Prop := fun r s' => match r with
  | .ok (.ret v) => EP X pins σ Q v s'
  | .ok _ => False
  | .error e => X.xe e s'
theorem FpOk.mono {H H' : Hp} {b : Addr} (h : FpOk X pins H b) (hn : H' b = none) : FpOk X pins H' b := ⟨hn, h.2⟩
theorem Inv.moved {s : Shared} {H : Hp} {J : Addr} {h' : Heap} {t' : Nat} (I : Inv X pins σ H s) (fJ : FpOk X pins H J) (kk : ∀ b o, b ≠ J → s.heap.get? b = some o → h'.get? b = some o) : Inv X pins σ H { s with heap := h', toks := t' } :=
  I.turned kk fJ.1 fJ.2.1 fJ.2.2.2.1 fJ.2.2.2.2.1 fJ.2.2.2.2.2
theorem key_dp {H H0 : Hp} {l t : Addr} {n : Nat} {R : Nat → Addr} {W : Nat → List V} {D : Nat → List PyData} {O : KeyOrd} {key : Nat → O.α} (Z : Rws X H0 l n R W D O key) (m : Same H0 H) {j : Nat} (hj : j < n) (ht : H t = some (.tup [.int ((W j).length : Nat), .ref (R j)])) : Dp X.K H (.ref t) (dat W D j) :=
  .tup (SqT.of ht) (.cons (.int _) (.cons (.lst (SqL.of (m _ _ (Z.row j hj))) (dpAll_mono m _ _ (Z.dp j hj))) .nil))
theorem rws_items {s : Shared} {H H0 : Hp} {l : Addr} {n : Nat} {R : Nat → Addr} {W : Nat → List V} {D : Nat → List PyData} {O : KeyOrd} {key : Nat → O.α} (Z : Rws X H0 l n R W D O key) (I : Inv X pins σ H s) (mm : Same H0 H) : s.heap.IsList l ((List.range n).map fun j => Value.ref (R j)).toArray := by
  obtain ⟨its, rv, pl, _⟩ := I.list (SqL.of (mm _ _ Z.lst))
  have e : its = (List.range n).map fun j => Value.ref (R j) := by
    have hl := rv.length
    apply List.ext_getElem?
    intro i
    rcases Nat.lt_or_ge i its.length with hi | hi
    · have hi2 : i < n := by rw [← hl] at hi; simpa using hi
      obtain ⟨u, hu, ru⟩ := rv.get (i := i) (x := V.ref (R i)) (by rw [List.getElem?_map, List.getElem?_range hi2]; rfl)
      rw [hu, List.getElem?_map, List.getElem?_range hi2]
      cases ru
      rfl
    · rw [List.getElem?_eq_none hi, List.getElem?_eq_none (by rw [List.length_map, List.length_range]; rw [← hl] at hi; simpa using hi)]
  rw [← e]; exact pl.isList
theorem min_loop {Q : VK} {H0 : Hp} {l : Addr} {n : Nat} {R : Nat → Addr} {W : Nat → List V} {D : Nat → List PyData} {O : KeyOrd} {key : Nat → O.α} (hcalm : X.calm = true) (F : FnOk X.prog X.w X.K X.mg X.base CX0 k f fd ["row"] spFew) (hr : Room (k + 1) X.A) (hb : Binds X.K fd ["row"] [])
    (Z : Rws X H0 l n R W D O key) (J S : Addr) (hJS : J ≠ S) (hlJ : l ≠ J) (q : ∀ (i : Nat) (H : Hp), i < n → (∀ j, j < n → O.blt (key j) (key i) = false) → Same H0 H → Q (.ref (R i)) H) (m : Nat) :
    ∀ (j i : Nat) (s : Shared) (H : Hp) (t : Addr) (c : Nat), n - j = m → i < j → j ≤ n → Inv X pins σ H s → Same H0 H → FpOk X pins H J → FpOk X pins H S → s.heap.IsListIter J l j → s.heap.get? S = some { cls := .type "list", dict := none, data := .seq #[.ref (R i), .ref t] c, slots := #[] } →
      H t = some (.tup [.int ((W i).length : Nat), .ref (R i)]) → (∀ q, q < j → O.blt (key q) (key i) = false) → codeAny (model X.prog X.w) X.A (.builtin "min.loop" ⟨[.ref J, .ref f, .ref S], []⟩) (ResMin X pins σ Q) s := by
  have hname : (toString "min" ++ toString ".loop" : String) = "min.loop" := by decide
  have hh : X.A.in1.handled = none := hr.hd
  induction m with
  | zero =>
    intro j i s H t c hk hij hjn I mm fJ fS hit hS ht hmin
    have hin : j = n := by lia
    subst hin
    have W' := Walks.list (prog := X.prog) (w := X.w) (A := X.A.in1) hh J l hlJ ((List.range j).map fun j => Value.ref (R j)).toArray
    have hsz : (((List.range j).map fun j => Value.ref (R j)).toArray).size = j := by simp
    refine codeAny_builtin PySem.F.entry_min_loop ?_
    rw [Around.under_plainId PySem.F.plain_min_loop _]
    show wpAny _ X.A.in1 (seqItems? (.ref S) >>= _) _ _ s
    refine wpAny_bind (wpAny_seqItems hS rfl ?_)
    show wpAny _ X.A.in1 (tryCatch (pyNext (.ref J)) _ >>= _) _ _ s
    refine wpAny_bind (wpAny_tryCatch (W'.done s _ _ (by rw [hsz]; exact ⟨hit, rws_items Z I mm⟩) fun h' tk hk' => ?_))
    have hS' := hk' S _ (by simpa using fun z => hJS z.symm) hS
    show wpAny _ X.A.in1 (updateSeq S (fun _ => #[]) >>= _) _ _ _
    refine wpAny_bind ?_
    refine wpAny_updateSeq hS' rfl (wpAny_bind (wpAny_letGo (wpAny_pure ?_)))
    have I1 : Inv X pins σ H { s with heap := h', toks := tk } := Inv.moved I fJ fun b o hb e => hk' b o (by simpa using hb) e
    have I2 : Inv X pins σ H { s with heap := h'.update S (Obj.mapSeq fun _ => #[]), toks := tk } := Inv.moved (s := { s with heap := h', toks := tk }) (t' := tk) I1 fS fun b o hb e => (Heap.get?_update_other _ _ (Ne.symm hb)).trans e
    exact ⟨.ref (R i), H, I2, rfl, q i H hij hmin mm⟩
  | succ m ih =>
    intro j i s H t c hk hij hjn I mm fJ fS hit hS ht hmin
    have hlt : j < n := by lia
    have W' := Walks.list (prog := X.prog) (w := X.w) (A := X.A.in1) hh J l hlJ ((List.range n).map fun j => Value.ref (R j)).toArray
    have hsz : (((List.range n).map fun j => Value.ref (R j)).toArray).size = n := by simp
    refine codeAny_builtin PySem.F.entry_min_loop ?_
    rw [Around.under_plainId PySem.F.plain_min_loop _]
    show wpAny _ X.A.in1 (seqItems? (.ref S) >>= _) _ _ s
    refine wpAny_bind (wpAny_seqItems hS rfl ?_)
    show wpAny _ X.A.in1 (tryCatch (pyNext (.ref J)) _ >>= _) _ _ s
    refine wpAny_bind (wpAny_tryCatch (W'.item j s _ _ (by rw [hsz]; exact hlt) ⟨hit, rws_items Z I mm⟩ fun v h' tk hP hst' hk' => ?_))
    have hv : v = .ref (R j) := by
      have : ((List.range n).map fun j => Value.ref (R j))[j]? = some v := by simpa using hP
      rw [List.getElem?_map, List.getElem?_range hlt] at this
      exact (Option.some.inj this).symm
    subst hv
    have hS' := hk' S _ (by simpa using fun z => hJS z.symm) hS
    have I1 : Inv X pins σ H { s with heap := h', toks := tk } := Inv.moved I fJ fun b o hb e => hk' b o (by simpa using hb) e
    obtain ⟨oJ, hoJ, cJ, dJ⟩ := id hst'.1
    have I1p := I1.pins_of (pins' := pins ++ [(J, oJ), (S, { cls := .type "list", dict := none, data := .seq #[.ref (R i), .ref t] c, slots := #[] })]) (fun p hp => by
      rcases List.mem_append.mp hp with z | z
      · exact I1.pin p (List.mem_append_right _ z)
      · rcases List.mem_cons.mp z with rfl | z
        · exact ⟨hoJ, fJ.1, fJ.2.1, fJ.2.2.1, fun v e => by rw [dJ] at e; cases e⟩
        · rcases List.mem_cons.mp z with rfl | z
          · exact ⟨hS', fS.1, fS.2.1, fS.2.2.1, fun v e => by cases e⟩
          · cases z)
    show wpAny _ X.A.in1 (tryCatch (holding [.ref (R j)] (call (.ref f) [.ref (R j)])) _ >>= _) _ _ _
    refine wpAny_bind (wpAny_tryCatch (wpAny_holding (wpAny_mono (few_call (Q := fun x H2 => ∃ t2, H t2 = none ∧ x = .ref t2 ∧ H2 = upd H t2 (.tup [.int ((W j).length : Nat), .ref (R j)])) F hr hb I1p (mm _ _ (Z.row j hlt)) fun t2 h2 => ⟨t2, h2, rfl, rfl⟩) ?_ fun _ _ z => z)))
    rintro val s2 ⟨x, H2, I2, rx, t2, hn2, rfl, rfl⟩
    obtain rfl : val = .ref t2 := rx
    have pJ := I2.pin (J, oJ) (List.mem_append_right _ (List.mem_append_right _ (by simp)))
    have pS := I2.pin (S, { cls := .type "list", dict := none, data := .seq #[.ref (R i), .ref t] c, slots := #[] }) (List.mem_append_right _ (List.mem_append_right _ (by simp)))
    have I3 : Inv X pins σ (upd H t2 (.tup [.int ((W j).length : Nat), .ref (R j)])) s2 := I2.unpinned
    have m2 : Same H0 (upd H t2 (.tup [.int ((W j).length : Nat), .ref (R j)])) := fun b o e => by
      rw [zE (zG (mm b o e) hn2)]; exact mm b o e
    have ht2 : (upd H t2 (.tup [.int ((W j).length : Nat), .ref (R j)])) t = some (.tup [.int ((W i).length : Nat), .ref (R i)]) := by
      rw [zE (zG ht hn2)]; exact ht
    have hi : i < n := by lia
    obtain ⟨as, r1⟩ := Dp.reads I3 _ _ _ (key_dp Z m2 hlt zB) (rfl : L2.RelV (.ref t2) (.ref t2))
    obtain ⟨bs, r2⟩ := Dp.reads I3 _ _ _ (key_dp Z m2 hi ht2) (rfl : L2.RelV (.ref t) (.ref t))
    have cmp : LtOf X.A.in1 s2 (.ref t2) (.ref t) (O.blt (key j) (key i)) := by
      rw [← Z.lt j i hlt hi]
      exact PZ.Rd.lt 4 (k := 8) ⟨⟨as, r1⟩, Z.lay j hlt, Z.dep j hlt⟩ ⟨⟨bs, r2⟩, Z.lay i hi, Z.dep i hi⟩ (by have := hr.units; show X.A.units + 1 + 4 + 8 < cLine; lia) (Z.can j i hlt hi)
    show wpAny _ X.A.in1 (tryCatch (holding [.ref (R j), .ref t2] (richCompare .Lt (.ref t2) (.ref t) >>= _)) _ >>= _) _ _ _
    refine wpAny_bind (wpAny_tryCatch (wpAny_holding (wpAny_bind (cmp X.prog X.w _ _ (wpAny_bind (wpAny_holding (wpAny_truthy_bool (wpAny_bind (wpAny_letGo (wpAny_pure ?_))))))))))
    have hit2 : s2.heap.IsListIter J l (j + 1) := ⟨oJ, pJ.1, cJ, dJ⟩
    cases hb2 : O.blt (key j) (key i) with
    | true =>
      simp only [if_true]
      refine wpAny_bind ?_
      refine wpAny_updateSeq pS.1 rfl (wpAny_bind (wpAny_letGo ?_))
      rw [hname]
      have fS2 := FpOk.mono fS pS.2.1
      have I4 : Inv X pins σ (upd H t2 (.tup [.int ((W j).length : Nat), .ref (R j)])) { s2 with heap := s2.heap.update S (Obj.mapSeq fun _ => #[.ref (R j), .ref t2]), toks := s2.toks } := Inv.moved I3 fS2 fun b o hb e => (Heap.get?_update_other _ _ (Ne.symm hb)).trans e
      refine wpAny_pure ⟨plainId_quiet PySem.F.plain_min_loop _, ih (j + 1) j _ _ t2 _ (by lia) (by lia) hlt I4 m2 (FpOk.mono fJ pJ.2.1) fS2 ?_ (Heap.get?_update_self _ pS.1 rfl) zB fun x hx => ?_⟩
      · exact hit2.at fun o e => (Heap.get?_update_other _ _ (Ne.symm hJS)).trans e
      · rcases Nat.lt_succ_iff_lt_or_eq.mp hx with hx | rfl
        · cases e : O.blt (key x) (key j) with
          | false => rfl
          | true =>
            have := O.trans _ _ _ e hb2
            rw [hmin x hx] at this
            cases this
        · exact O.irrefl _
    | false =>
      simp only [Bool.false_eq_true, if_false]
      refine wpAny_bind (wpAny_letGo ?_)
      rw [hname]
      refine wpAny_pure ⟨plainId_quiet PySem.F.plain_min_loop _, ih (j + 1) i _ _ t _ (by lia) (by lia) hlt I3 m2 (FpOk.mono fJ pJ.2.1) (FpOk.mono fS pS.2.1) hit2 pS.1 ht2 fun x hx => ?_⟩
      rcases Nat.lt_succ_iff_lt_or_eq.mp hx with hx | rfl
      · exact hmin x hx
      · exact hb2
theorem tree_kw {prog : Program} {w : World} {A : Around} {E : Value → Shared → Prop} {s : Shared} {id : String} {b : Builtin} {args : List Value} {kw : List (Str × Value)} {Q : Value → Shared → Prop} (hk : builtinKind id = none) (hp : plainId id = true) (hb : entryFor table id = some b) (ha : argsOk id ⟨args, kw⟩)
    (hc : wpAny (model prog w) A.in1 (b ⟨args, kw⟩) (fun fin s' => match fin with
      | .done f => (match (Except.ok f : Result) with | .ok (.ret v) => Q v s' | .ok _ => False | .error e => E e s')
      | .again c' => c'.quiet = true ∧ codeAny (model prog w) A c' (fun r s' => match r with | .ok (.ret v) => Q v s' | .ok _ => False | .error e => E e s') s') E s) : wpAny (model prog w) A (call (.builtin id) args kw) Q E s := by
  refine wpAny_call (codeAny_call_builtin hp hb ?_)
  simp only [checkBuiltinCall, hk]
  cases hsig : Manifest.signature? id with
  | none => exact wpAny_pure hc
  | some sig =>
    have ha' : Bind.checkArgs id sig ⟨args, kw⟩ = pure () := by simpa only [argsOk, hsig] using ha
    simp only [ha']
    exact wpAny_pure hc
theorem min_args (a b : Value) : argsOk "min" ⟨[a], [("key", b)]⟩ := by unfold argsOk; kernel_rfl
theorem min_key {s : Shared} {H : Hp} {Q : VK} {l : Addr} {n : Nat} {R : Nat → Addr} {W : Nat → List V} {D : Nat → List PyData} {O : KeyOrd} {key : Nat → O.α} (hcalm : X.calm = true) (F : FnOk X.prog X.w X.K X.mg X.base CX0 k f fd ["row"] spFew) (hr : Room (k + 1) X.A) (hb : Binds X.K fd ["row"] [])
    (I : Inv X pins σ H s) (Z : Rws X H l n R W D O key) (hn : 0 < n) (q : ∀ (i : Nat) (H' : Hp), i < n → (∀ j, j < n → O.blt (key j) (key i) = false) → Same H H' → Q (.ref (R i)) H') :
    wpAny (model X.prog X.w) X.A (call (.builtin "min") [.ref l] [("key", .ref f)]) (EP X pins σ Q) X.xe s := by
  have hname : (toString "min" ++ toString ".loop" : String) = "min.loop" := by decide
  have hh : X.A.in1.handled = none := hr.hd
  have isl := rws_items Z I fun _ _ e => e
  have hlt : l < s.heap.objs.size := by obtain ⟨_, e, _⟩ := isl; exact Heap.lt_size e
  refine tree_kw PySem.F.kind_min PySem.F.plain_min PySem.F.entry_min (min_args _ _) ?_
  show wpAny _ X.A.in1 (Builtin.Builtins.bindParams "min" ["key", "default"] 0 ⟨[], [("key", .ref f)]⟩ >>= _) _ _ s
  refine wpAny_bind (wpAny_of_eq (show Builtin.Builtins.bindParams "min" ["key", "default"] 0 ⟨[], [("key", .ref f)]⟩ = pure [some (.ref f), none] from rfl) ?_)
  refine wpAny_bind (wpAny_pure ?_)
  refine wpAny_bind (wpAny_pyIter_list isl ?_)
  refine wpAny_bind (wpAny_newObj_type ?_)
  rw [hname]
  generalize hh1 : s.heap.push { cls := .type "list_iterator", data := .fields #[.ref l, .int 0 0] } = h1
  have sz1 : h1.objs.size = s.heap.objs.size + 1 := by rw [← hh1, Heap.size_push]
  have k1 : Keeps s.heap h1 := fun b o e => by rw [← hh1]; exact Heap.get?_push_of_some _ e
  have it1 : h1.IsListIter s.heap.objs.size l 0 := ⟨_, by rw [← hh1]; exact Heap.get?_push_size _ rfl, rfl, rfl⟩
  generalize hh2 : h1.push { cls := .type "list", data := .seq ([] : List Value).toArray } = h2
  have k2 : Keeps h1 h2 := fun b o e => by rw [← hh2]; exact Heap.get?_push_of_some _ e
  have hS : h2.get? h1.objs.size = some { cls := .type "list", dict := none, data := .seq #[] 0, slots := #[] } := by rw [← hh2]; exact Heap.get?_push_size _ rfl
  have it2 : h2.IsListIter s.heap.objs.size l 0 := it1.at fun o e => k2 _ o e
  have hJS : s.heap.objs.size ≠ h1.objs.size := by lia
  have I2 : Inv X pins σ H { s with heap := h2, toks := s.toks } := I.kept fun b o e => k2 b o (k1 b o e)
  have fJ : FpOk X pins H s.heap.objs.size := I.fpOk (Nat.le_refl _) (I.hok.fresh (Nat.le_refl _))
  have fS : FpOk X pins H h1.objs.size := I.fpOk (by lia) (I.hok.fresh (by lia))
  have hlJ : l ≠ s.heap.objs.size := Nat.ne_of_lt hlt
  refine wpAny_pure ⟨plainId_quiet PySem.F.plain_min_loop _, ?_⟩
  show codeAny (model X.prog X.w) X.A (.builtin "min.loop" ⟨[.ref s.heap.objs.size, .ref f, .ref h1.objs.size], []⟩) (ResMin X pins σ Q) { s with heap := h2, toks := s.toks }
  have W' := Walks.list (prog := X.prog) (w := X.w) (A := X.A.in1) hh s.heap.objs.size l hlJ ((List.range n).map fun j => Value.ref (R j)).toArray
  have hsz : (((List.range n).map fun j => Value.ref (R j)).toArray).size = n := by simp
  generalize s.heap.objs.size = J at *
  generalize h1.objs.size = S at *
  refine codeAny_builtin PySem.F.entry_min_loop ?_
  rw [Around.under_plainId PySem.F.plain_min_loop _]
  show wpAny _ X.A.in1 (seqItems? (.ref S) >>= _) _ _ _
  refine wpAny_bind (wpAny_seqItems hS rfl ?_)
  show wpAny _ X.A.in1 (tryCatch (pyNext (.ref J)) _ >>= _) _ _ _
  refine wpAny_bind (wpAny_tryCatch (W'.item 0 _ _ _ (by rw [hsz]; exact hn) ⟨it2, rws_items Z I2 fun _ _ e => e⟩ fun v h' tk hP hst' hk' => ?_))
  have hv : v = .ref (R 0) := by
    have : ((List.range n).map fun j => Value.ref (R j))[0]? = some v := by simpa using hP
    rw [List.getElem?_map, List.getElem?_range hn] at this
    exact (Option.some.inj this).symm
  subst hv
  have hS' := hk' S _ (by simpa using fun z => hJS z.symm) hS
  have I3 : Inv X pins σ H { s with heap := h', toks := tk } := Inv.moved (s := { s with heap := h2, toks := s.toks }) I2 fJ fun b o hb e => hk' b o (by simpa using hb) e
  obtain ⟨oJ, hoJ, cJ, dJ⟩ := id hst'.1
  have I3p := I3.pins_of (pins' := pins ++ [(J, oJ), (S, { cls := .type "list", dict := none, data := .seq #[] 0, slots := #[] })]) (fun p hp => by
    rcases List.mem_append.mp hp with z | z
    · exact I3.pin p (List.mem_append_right _ z)
    · rcases List.mem_cons.mp z with rfl | z
      · exact ⟨hoJ, fJ.1, fJ.2.1, fJ.2.2.1, fun v e => by rw [dJ] at e; cases e⟩
      · rcases List.mem_cons.mp z with rfl | z
        · exact ⟨hS', fS.1, fS.2.1, fS.2.2.1, fun v e => by cases e⟩
        · cases z)
  show wpAny _ X.A.in1 (tryCatch (holding [.ref (R 0)] (call (.ref f) [.ref (R 0)])) _ >>= _) _ _ _
  refine wpAny_bind (wpAny_tryCatch (wpAny_holding (wpAny_mono (few_call (Q := fun x H2 => ∃ t2, H t2 = none ∧ x = .ref t2 ∧ H2 = upd H t2 (.tup [.int ((W 0).length : Nat), .ref (R 0)])) F hr hb I3p (Z.row 0 hn) fun t2 h2 => ⟨t2, h2, rfl, rfl⟩) ?_ fun _ _ z => z)))
  rintro val s2 ⟨x, H2, I4, rx, t2, hn2, rfl, rfl⟩
  obtain rfl : val = .ref t2 := rx
  have pJ := I4.pin (J, oJ) (List.mem_append_right _ (List.mem_append_right _ (by simp)))
  have pS := I4.pin (S, { cls := .type "list", dict := none, data := .seq #[] 0, slots := #[] }) (List.mem_append_right _ (List.mem_append_right _ (by simp)))
  have I5 : Inv X pins σ (upd H t2 (.tup [.int ((W 0).length : Nat), .ref (R 0)])) s2 := I4.unpinned
  have m2 : Same H (upd H t2 (.tup [.int ((W 0).length : Nat), .ref (R 0)])) := fun b o e => by
    rw [zE (zG e hn2)]; exact e
  have hit2 : s2.heap.IsListIter J l 1 := ⟨oJ, pJ.1, cJ, dJ⟩
  have fS2 := FpOk.mono fS pS.2.1
  show wpAny _ X.A.in1 (updateSeq S (fun _ => #[.ref (R 0), .ref t2]) >>= _) _ _ _
  refine wpAny_bind ?_
  refine wpAny_updateSeq pS.1 rfl ?_
  rw [hname]
  have I6 : Inv X pins σ (upd H t2 (.tup [.int ((W 0).length : Nat), .ref (R 0)])) { s2 with heap := s2.heap.update S (Obj.mapSeq fun _ => #[.ref (R 0), .ref t2]), toks := s2.toks } := Inv.moved I5 fS2 fun b o hb e => (Heap.get?_update_other _ _ (Ne.symm hb)).trans e
  refine wpAny_pure ⟨plainId_quiet PySem.F.plain_min_loop _, min_loop hcalm F hr hb Z J S hJS hlJ q _ 1 0 _ _ t2 _ rfl (by decide) hn I6 m2 (FpOk.mono fJ pJ.2.1) fS2 ?_ (Heap.get?_update_self _ pS.1 rfl) zB fun x hx => ?_⟩
  · exact hit2.at fun o e => (Heap.get?_update_other _ _ (Ne.symm hJS)).trans e
  · obtain rfl : x = 0 := by lia
    exact O.irrefl _
noncomputable def tMinK (X : Cx) (t : TA) : TE := fun σ H Q => t σ H fun vs H1 => ∃ (l : Addr) (n : Nat) (R : Nat → Addr) (W : Nat → List V) (D : Nat → List PyData) (O : KeyOrd) (key : Nat → O.α), vs = [.ref l] ∧ Rws X H1 l n R W D O key ∧ 0 < n ∧
  ∀ (i : Nat) (H' : Hp), i < n → (∀ j, j < n → O.blt (key j) (key i) = false) → Same H1 H' → Q (.ref (R i)) H'
theorem boot_min9 : bootBuiltins "min" = some (.builtin "min") := by decide +kernel
theorem pe_minK {e : Expr} {t : TA} {g : Str} {p pos pk pg : Pos} (hcalm : X.calm = true) (F : FnOk X.prog X.w X.K X.mg X.base CX0 k f fd ["row"] spFew) (hr : Room (k + 1) X.A) (hb : Binds X.K fd ["row"] []) (hg : Gl X "min") (hm : X.mg "min" = none) (hgg : Gl X g) (hgm : X.mg g = some (.ref f)) (ha : PA X [e] t)
    (hdg : (g == ("__debug__" : Str)) = false := by decide) (h1 : backTo pos (starEach [e] X.env) = (false, eval e X.env) :: backTo pos (starEach [] X.env) := by rfl) (h2 : (backTo pos (starEach [e] X.env)).any (·.1) = false := by rfl) :
    PE X (.Call (.Name "min" p) [e] [⟨some "key", .Name g pg, pk⟩] pos) (tMinK X t) := by
  intro pins s σ H Q I h
  refine wpAny_Call_Name_kw (ld_blt I hg hm boot_min9 ?_)
  have kk : PK X [⟨some "key", .Name g pg, pk⟩] (tCons (tC (.ref f)) tNil) := pk_cons (pe_glob hgg hgm rfl hdg) pk_nil
  refine PyProof.Rows.callWith_kw (thn5 (ha pos pins s σ H _ I h) fun us s1 vs H1 I1 r1 hq_ => ?_) h1 h2
  obtain ⟨l, n, R, W, D, O, key, ev, Z, hn, q⟩ := hq_
  subst ev
  refine thn5 (kk pos pins s1 σ H1 (fun zs H2 => zs = [.ref f] ∧ H2 = H1) I1 ⟨rfl, rfl⟩) fun ws s2 zs H2 I2 rz hq_ => ?_
  obtain ⟨ez, eH⟩ := hq_
  subst ez eH
  rw [Vals.ref1 r1, Vals.ref1 rz]
  exact min_key hcalm F hr hb I2 Z hn q
end
end PZ
namespace PZ
open PySem PySem.Spec PySem.W PyProof.Rows L2
open Classical in
noncomputable def eqD (h : Heap) (dy : PyData) (u : Value) : Bool := decide (∃ d as, Reads h u d as ∧ d.canLay0 = true ∧ PyData.eqv d dy = true)
theorem eqD_of {h : Heap} {dy d : PyData} {u : Value} {as : List Addr} (r : Reads h u d as) (l : d.canLay0 = true) : eqD h dy u = PyData.eqv d dy := by
  unfold eqD
  cases e : PyData.eqv d dy with
  | true => exact @decide_eq_true _ (Classical.propDecidable _) ⟨d, as, r, l, e⟩
  | false =>
    refine @decide_eq_false _ (Classical.propDecidable _) ?_
    rintro ⟨d', as', r', l', e'⟩
    rw [← SeqAt.Reads.unique d d' u as as' l r r', e] at e'
    cases e'
noncomputable def Shal (d : PyData) : Prop := d.canLay0 = true ∧ d.depth ≤ 8
section
variable {X : Cx}
theorem items_eq {pins : List (Addr × Obj)} {s : Shared} {σ : L2.St} {H : Hp} {vs : List V} {us : List Value} {ds : List PyData} {y : V} {uy : Value} {dy : PyData} (hu : X.A.units + 64 < cLine) (I : Inv X pins σ H s) (r : Vals vs us) (hd : DpAll X.K H vs ds) (sh : ∀ d ∈ ds, Shal d) (hy : Dp X.K H y dy) (ry : L2.RelV y uy) (shy : Shal dy) :
    (∀ u ∈ us, SeqAt.EqAt X.A.in1 s u uy (eqD s.heap dy u)) ∧ ∀ (j : Nat) (u : Value), us[j]? = some u → ∃ d, ds[j]? = some d ∧ eqD s.heap dy u = PyData.eqv d dy := by
  obtain ⟨bs, rb⟩ := Dp.reads I dy y uy hy ry
  have rd : ∀ {j : Nat} {u : Value}, us[j]? = some u → ∃ d, ds[j]? = some d ∧ d ∈ ds ∧ ∃ as, Reads s.heap u d as := fun {j u} e => by
    obtain ⟨v, hv, rv⟩ := vals_get r e
    obtain ⟨d, hd2, hdp⟩ := dp_get hd hv
    obtain ⟨as, ra⟩ := Dp.reads I d v u hdp rv
    exact ⟨d, hd2, List.mem_of_getElem? hd2, as, ra⟩
  refine ⟨fun u hu' => ?_, fun j u e => ?_⟩
  · obtain ⟨j, hj⟩ := List.getElem?_of_mem hu'
    obtain ⟨d, _, hm, as, ra⟩ := rd hj
    rw [eqD_of ra (sh d hm).1]
    exact PZ.Rd.eq (k := 8) ⟨⟨as, ra⟩, (sh d hm).1, (sh d hm).2⟩ ⟨⟨bs, rb⟩, shy.1, shy.2⟩ (by show X.A.units + 1 + 8 < cLine; lia)
  · obtain ⟨d, h1, hm, as, ra⟩ := rd e
    exact ⟨d, h1, eqD_of ra (sh d hm).1⟩
noncomputable def rIndexD (K : PySem.W.Frag) : V → List V → Hp → VK → Prop := fun x xs H Q => ∃ (a : Addr) (vs : List V) (ds : List PyData) (y : V) (dy d : PyData) (j : Nat), x = .ref a ∧ xs = [y] ∧ SqL K H a vs ∧ DpAll K H vs ds ∧ (∀ d ∈ ds, Shal d) ∧ Dp K H y dy ∧ Shal dy ∧ ds[j]? = some d ∧ PyData.eqv d dy = true ∧
  (∀ (m : Nat) (d' : PyData), m < j → ds[m]? = some d' → PyData.eqv d' dy = false) ∧ Q (.int (j : Nat)) H
theorem mt_indexD (hu : X.A.units + 64 < cLine) : MtR X "list.index" (rIndexD X.K) := by
  intro pins s σ H x xs v us Q I rx rxs h
  obtain ⟨a, vs, ds, y, dy, d, j, rfl, rfl, hs, hd, sh, hy, shy, hdj, hit, hno, q⟩ := h
  cases rx
  cases rxs with
  | cons ry rt =>
    rename_i uy ut
    cases rt
    obtain ⟨its, rv, ⟨⟨cls, dd, data, sl⟩, n, ho, hc, hdn, hdd⟩, hlen⟩ := I.list hs
    simp only at hc hdd
    subst hc hdd
    obtain ⟨eqs, at_⟩ := items_eq hu I rv hd sh hy ry shy
    have l1 := rv.length
    have l2 := dp_len hd
    have hj : j < its.length := by have := (List.getElem?_eq_some_iff.mp hdj).1; lia
    have hsl := sizeLine_eq
    refine call_meets PySem.F.slot_list_index ⟨_, ho, rfl⟩ PySem.F.entry_list_index (PySem.F.args_list_index_2 _ _) (SeqAt.list_indexAt a its.toArray n dd sl uy (eqD s.heap dy) j (by simpa using hj) (by lia) ?_ ?_) ⟨ho, fun u hu' => eqs u (by simpa using hu'), ?_⟩
    · obtain ⟨d1, h1, h2⟩ := at_ j its[j] (List.getElem?_eq_getElem hj)
      rw [hdj] at h1
      cases h1
      have e1 : its.toArray[j]'(by simpa using hj) = its[j] := by simp
      rw [e1, h2]; exact hit
    · intro m hm hmj
      have hml : m < its.length := by simpa using hm
      obtain ⟨d1, h1, h2⟩ := at_ m its[m] (List.getElem?_eq_getElem hml)
      have e1 : its.toArray[m]'hm = its[m] := by simp
      rw [e1, h2]; exact hno m d1 hmj h1
    · exact ⟨.int (j : Nat), H, I.tok _, ⟨_, rfl⟩, q⟩
noncomputable def rInD (K : PySem.W.Frag) : R2 := fun x y H Q => ∃ (p : Addr) (vs : List V) (ds : List PyData) (dx : PyData), y = .ref p ∧ SqL K H p vs ∧ DpAll K H vs ds ∧ (∀ d ∈ ds, Shal d) ∧ Dp K H x dx ∧ Shal dx ∧ Q (.bl (ds.any fun d => PyData.eqv d dx)) H
theorem op_inD (hu : X.A.units + 64 < cLine) : OpR X (compareOp .In) (rInD X.K) := by
  intro pins s σ H x y v u Q I rx ry h
  obtain ⟨p, vs, ds, dx, rfl, hq, hd, sh, hx, shx, q⟩ := h
  cases ry
  obtain ⟨its, r, pl, hz⟩ := I.list hq
  obtain ⟨eqs, at_⟩ := items_eq hu I r hd sh hx rx shx
  refine SeqAt.in_listAt (eqD s.heap dx) pl.isList (fun w hw => eqs w (by simpa using hw)) ⟨.bl _, H, I, rfl, ?_⟩
  have e : its.toArray.any (eqD s.heap dx) = ds.any fun d => PyData.eqv d dx := by
    rw [show its.toArray.any (eqD s.heap dx) = its.any (eqD s.heap dx) by simp]
    have l1 := r.length
    have l2 := dp_len hd
    rw [Bool.eq_iff_iff, List.any_eq_true, List.any_eq_true]
    constructor
    · rintro ⟨u, hu', e⟩
      obtain ⟨j, hj⟩ := List.getElem?_of_mem hu'
      obtain ⟨d, h1, h2⟩ := at_ j u hj
      exact ⟨d, List.mem_of_getElem? h1, by rw [← h2]; exact e⟩
    · rintro ⟨d, hd', e⟩
      obtain ⟨j, hj⟩ := List.getElem?_of_mem hd'
      have hjl : j < its.length := by have := (List.getElem?_eq_some_iff.mp hj).1; lia
      obtain ⟨d1, h1, h2⟩ := at_ j its[j] (List.getElem?_eq_getElem hjl)
      rw [hj] at h1
      cases h1
      exact ⟨its[j], List.getElem_mem hjl, by rw [h2]; exact e⟩
  rw [e]
  exact q
end
end PZ
namespace PZ
open PySem PySem.Spec PySem.W PyProof.Rows L2
noncomputable abbrev IsZipO (h : Heap) (z TI TO : Addr) (t : Addr) (f : Bool) : Prop :=
  h.get? z = some { cls := .type "zip", dict := none, data := .fields #[rawInt t, .bool f, .bool false, .ref TI, .ref TO], slots := #[] }
section
variable {prog : Program} {w : World} {A : Around} {E : Value → Shared → Prop} {s : Shared}
theorem zpo_free {z TI TO t : Addr} {f : Bool} {ot : Obj} (hz : IsZipO s.heap z TI TO t f) (ht : s.heap.get? t = some ot) :
    wpAny (model prog w) A (Builtin.SmallTypes.ownedTupleIsFree (.ref z)) (fun b s1 => b = false ∧ ∃ h₁, IsZipO h₁ z TI TO t true ∧ Heap.SameBut z s.heap h₁ ∧ s1 = { s with heap := h₁ }) E s := by
  unfold Builtin.SmallTypes.ownedTupleIsFree
  refine wpAny_bind (wpAny_field hz rfl (x := rawInt t) rfl ?_)
  show wpAny _ _ (loadIfAlive ((t : Int).toNat) >>= _) _ _ _
  rw [Int.toNat_natCast]
  refine wpAny_bind (kdx_alive ht ?_)
  simp only [Option.isNone_some, Bool.false_eq_true, if_false]
  refine wpAny_bind (wpAny_field hz rfl (x := .bool f) rfl ?_)
  cases f with
  | true =>
    rw [if_neg (show ¬ ((Value.bool true != Value.bool true) = true) from Bool.false_ne_true)]
    exact wpAny_pure ⟨rfl, _, hz, Heap.SameBut.refl _ _, rfl⟩
  | false =>
    rw [if_pos (show (Value.bool false != Value.bool true) = true from rfl)]
    exact wpAny_bind (wpAny_setField_rec hz (by simp) fun h₃ he₃ hs₃ => wpAny_pure ⟨rfl, h₃, he₃, hs₃, rfl⟩)
theorem zpo_item {z TI TO i1 i2 l1 l2 t : Addr} {f : Bool} {ot : Obj} {k1 k2 : Nat} {xs ys : Array Value} {x y : Value} {Q : Value → Shared → Prop} (D : ZipApart z TI TO i1 i2 l1 l2)
    (hz : IsZipO s.heap z TI TO t f) (ht : s.heap.get? t = some ot) (hTI : IsPair s.heap TI (.ref i1) (.ref i2))
    (h1 : s.heap.IsListIter i1 l1 k1) (h2 : s.heap.IsListIter i2 l2 k2) (hl1 : s.heap.IsList l1 xs) (hl2 : s.heap.IsList l2 ys) (hx : xs[k1]? = some x) (hy : ys[k2]? = some y)
    (hQ : ∀ h', IsZipO h' z TI TO t true → h'.IsListIter i1 l1 (k1 + 1) → h'.IsListIter i2 l2 (k2 + 1) → IsPair h' s.heap.objs.size x y → h'.objs.size = s.heap.objs.size + 1 →
      (∀ c o, c ≠ z → c ≠ i1 → c ≠ i2 → s.heap.get? c = some o → h'.get? c = some o) → Q (.ref s.heap.objs.size) { s with heap := h' }) :
    wpAny (model prog w) A (Builtin.«zip.__next__» ⟨[.ref z], []⟩) (fun fin s' => ∃ v, fin = .done (.ret v) ∧ Q v s') E s := by
  show wpAny _ _ (field (.ref z) 2 >>= _) _ _ _
  refine wpAny_bind (wpAny_field hz rfl (x := .bool false) rfl ?_)
  show wpAny _ _ (field (.ref z) 3 >>= _) _ _ _
  refine wpAny_bind (wpAny_field hz rfl (x := .ref TI) rfl ?_)
  refine wpAny_bind (wpAny_seqItems hTI rfl ?_)
  show wpAny _ _ (Builtin.SmallTypes.ownedTupleIsFree (.ref z) >>= _) _ _ _
  refine wpAny_bind (thn (zpo_free hz ht) fun b s1 ⟨eb, h₁, hz₁, hs₁, es⟩ => ?_)
  subst eb es
  simp only [Bool.false_eq_true, if_false, List.forIn_toArray, List.forIn_cons, List.forIn_nil]
  refine wpAny_bind (wpAny_bind (wpAny_bind (wpAny_holding ?_)))
  show wpAny _ _ (Builtin.SmallTypes.nextOf (.ref i1) >>= _) _ _ _
  refine wpAny_bind (wpAny_nextOf_list_item (h1.extBut hs₁.extBut D.i1z) (hl1.extBut hs₁.extBut D.l1z) hx fun h₂ h1₂ hs₂ => wpAny_pure (wpAny_pure ?_))
  refine wpAny_bind (wpAny_bind (wpAny_holding ?_))
  show wpAny _ _ (Builtin.SmallTypes.nextOf (.ref i2) >>= _) _ _ _
  refine wpAny_bind (wpAny_nextOf_list_item ((h2.extBut hs₁.extBut D.i2z).extBut hs₂.extBut D.i12.symm) ((hl2.extBut hs₁.extBut D.l2z).extBut hs₂.extBut D.l2i1) hy fun h₃ h2₃ hs₃ => wpAny_pure (wpAny_pure ?_))
  refine wpAny_pure ?_
  refine wpAny_bind (wpAny_newTuple (hsz := by show 2 ≤ sizeLine; decide) ?_)
  have hsz : h₃.objs.size = s.heap.objs.size := by rw [hs₃.1, hs₂.1, hs₁.1]
  have hz₃ : IsZipO h₃ z TI TO t true := hs₃.extBut _ _ D.i2z.symm (hs₂.extBut _ _ D.i1z.symm hz₁)
  have hk₃ : ∀ c o, c ≠ z → c ≠ i1 → c ≠ i2 → s.heap.get? c = some o → h₃.get? c = some o := fun c o c1 c3 c4 e => hs₃.extBut _ _ c4 (hs₂.extBut _ _ c3 (hs₁.extBut _ _ c1 e))
  have h1₃ : h₃.IsListIter i1 l1 (k1 + 1) := h1₂.extBut hs₃.extBut D.i12
  refine wpAny_pure ⟨_, rfl, ?_⟩
  show Q (.ref h₃.objs.size) _
  rw [hsz]
  refine hQ _ (Heap.get?_push_of_some _ hz₃) (h1₃.at fun o e => Heap.get?_push_of_some _ e) (h2₃.at fun o e => Heap.get?_push_of_some _ e) (by rw [← hsz]; exact Heap.get?_push_size _ rfl) (by rw [Heap.size_push, hsz]) fun c o c1 c3 c4 e => Heap.get?_push_of_some _ (hk₃ c o c1 c3 c4 e)
theorem zpo_end {z TI TO i1 i2 l1 l2 t : Addr} {f : Bool} {ot : Obj} {k1 k2 : Nat} {xs ys : Array Value} {Q : Fin → Shared → Prop} (hh : A.handled = none) (D : ZipApart z TI TO i1 i2 l1 l2)
    (hz : IsZipO s.heap z TI TO t f) (ht : s.heap.get? t = some ot) (hTI : IsPair s.heap TI (.ref i1) (.ref i2))
    (h1 : s.heap.IsListIter i1 l1 k1) (h2 : s.heap.IsListIter i2 l2 k2) (hl1 : s.heap.IsList l1 xs) (hl2 : s.heap.IsList l2 ys) (hend : xs[k1]? = none ∨ ys[k2]? = none)
    (hE : ∀ h' e, (∀ c o, c ≠ z → c ≠ i1 → c ≠ i2 → s.heap.get? c = some o → h'.get? c = some o) → (∃ o, h'.get? e = some o ∧ o.cls = .type "StopIteration") → E (.ref e) { s with heap := h' }) :
    wpAny (model prog w) A (Builtin.«zip.__next__» ⟨[.ref z], []⟩) Q E s := by
  show wpAny _ _ (field (.ref z) 2 >>= _) _ _ _
  refine wpAny_bind (wpAny_field hz rfl (x := .bool false) rfl ?_)
  show wpAny _ _ (field (.ref z) 3 >>= _) _ _ _
  refine wpAny_bind (wpAny_field hz rfl (x := .ref TI) rfl ?_)
  refine wpAny_bind (wpAny_seqItems hTI rfl ?_)
  show wpAny _ _ (Builtin.SmallTypes.ownedTupleIsFree (.ref z) >>= _) _ _ _
  refine wpAny_bind (thn (zpo_free hz ht) fun b s1 ⟨eb, h₁, hz₁, hs₁, es⟩ => ?_)
  subst eb es
  simp only [Bool.false_eq_true, if_false, List.forIn_toArray, List.forIn_cons, List.forIn_nil]
  refine wpAny_bind (wpAny_bind (wpAny_bind (wpAny_holding ?_)))
  show wpAny _ _ (Builtin.SmallTypes.nextOf (.ref i1) >>= _) _ _ _
  cases hx : xs[k1]? with
  | none =>
    exact wpAny_bind (wpAny_nextOf_list_end hh (h1.extBut hs₁.extBut D.i1z) (hl1.extBut hs₁.extBut D.l1z) hx fun h₂ e hs₂ he => hE h₂ e (fun c o c1 c3 _ x => hs₂ _ _ c3 (hs₁.extBut _ _ c1 x)) he)
  | some x =>
    have hy : ys[k2]? = none := by rcases hend with h | h; rw [hx] at h; cases h; exact h
    refine wpAny_bind (wpAny_nextOf_list_item (h1.extBut hs₁.extBut D.i1z) (hl1.extBut hs₁.extBut D.l1z) hx fun h₂ h1₂ hs₂ => wpAny_pure (wpAny_pure ?_))
    refine wpAny_bind (wpAny_bind (wpAny_holding ?_))
    show wpAny _ _ (Builtin.SmallTypes.nextOf (.ref i2) >>= _) _ _ _
    exact wpAny_bind (wpAny_nextOf_list_end hh ((h2.extBut hs₁.extBut D.i2z).extBut hs₂.extBut D.i12.symm) ((hl2.extBut hs₁.extBut D.l2z).extBut hs₂.extBut D.l2i1) hy fun h₃ e hs₃ he => hE h₃ e (fun c o c1 c3 c4 x => hs₃ _ _ c4 (hs₂.extBut _ _ c3 (hs₁.extBut _ _ c1 x))) he)
structure ZSt (h : Heap) (z TI TO i1 i2 l1 l2 S : Addr) (i : Nat) : Prop where
  ob : IsZip h z TI TO .none ∨ ∃ t f ot, IsZipO h z TI TO t f ∧ h.get? t = some ot ∧ t ≠ z ∧ t ≠ i1 ∧ t ≠ i2 ∧ t ≠ S
  ti : IsPair h TI (.ref i1) (.ref i2)
  to : ∃ x y, IsPair h TO x y
  it1 : h.IsListIter i1 l1 i
  it2 : h.IsListIter i2 l2 i
theorem ZSt.type {z TI TO i1 i2 l1 l2 S : Addr} {i : Nat} (st : ZSt s.heap z TI TO i1 i2 l1 l2 S i) : s.TypeIs (.ref z) "zip" := by
  rcases st.ob with h | ⟨t, f, ot, h, _⟩
  · exact ⟨_, h, rfl⟩
  · exact ⟨_, h, rfl⟩
theorem ZSt.keep {h h' : Heap} {z TI TO i1 i2 l1 l2 S : Addr} {i : Nat} (st : ZSt h z TI TO i1 i2 l1 l2 S i) (hk : ∀ b o, b ≠ S → h.get? b = some o → h'.get? b = some o) (n1 : z ≠ S) (n2 : TI ≠ S) (n3 : TO ≠ S) (n4 : i1 ≠ S) (n5 : i2 ≠ S) : ZSt h' z TI TO i1 i2 l1 l2 S i := by
  obtain ⟨ob, ti, ⟨x, y, to⟩, it1, it2⟩ := st
  refine ⟨?_, hk _ _ n2 ti, ⟨x, y, hk _ _ n3 to⟩, it1.at fun o e => hk _ o n4 e, it2.at fun o e => hk _ o n5 e⟩
  rcases ob with h | ⟨t, f, ot, h, ht, a1, a2, a3, a4⟩
  · exact .inl (hk _ _ n1 h)
  · exact .inr ⟨t, f, ot, hk _ _ n1 h, hk _ _ a4 ht, a1, a2, a3, a4⟩
theorem zst_item {z TI TO i1 i2 l1 l2 S : Addr} {i : Nat} {xs ys : Array Value} {x y : Value} {Q : Option Value → Shared → Prop} (D : ZipApart z TI TO i1 i2 l1 l2) (st : ZSt s.heap z TI TO i1 i2 l1 l2 S i) (hS : S < s.heap.objs.size)
    (hl1 : s.heap.IsList l1 xs) (hl2 : s.heap.IsList l2 ys) (hx : xs[i]? = some x) (hy : ys[i]? = some y)
    (hQ : ∀ h', ZSt h' z TI TO i1 i2 l1 l2 S (i + 1) → IsPair h' s.heap.objs.size x y → h'.objs.size = s.heap.objs.size + 1 → (∀ c o, c ∉ [z, TI, TO, i1, i2] → s.heap.get? c = some o → h'.get? c = some o) → Q (some (.ref s.heap.objs.size)) { s with heap := h' }) :
    wpAny (model prog w) A (pyNext (.ref z)) Q E s := by
  obtain ⟨ob, ti, ⟨x0, y0, to⟩, it1, it2⟩ := id st
  have i1l : i1 < s.heap.objs.size := by obtain ⟨_, e, _⟩ := it1; exact Heap.lt_size e
  have i2l : i2 < s.heap.objs.size := by obtain ⟨_, e, _⟩ := it2; exact Heap.lt_size e
  have nin : ∀ {c : Addr}, c ∉ [z, TI, TO, i1, i2] → c ≠ z ∧ c ≠ TI ∧ c ≠ TO ∧ c ≠ i1 ∧ c ≠ i2 := fun h => ⟨fun e => h (by simp [e]), fun e => h (by simp [e]), fun e => h (by simp [e]), fun e => h (by simp [e]), fun e => h (by simp [e])⟩
  rcases ob with hz | ⟨t, f, ot, hz, ht, a1, a2, a3, a4⟩
  · have zl := Heap.lt_size hz
    refine wpAny_pyNext_zip_item D hz ti to it1 it2 hl1 hl2 hx hy fun h' b1 b2 b3 b4 b5 b6 hk => hQ h' ⟨.inr ⟨_, false, _, b1, b5, Nat.ne_of_gt zl, Nat.ne_of_gt i1l, Nat.ne_of_gt i2l, Nat.ne_of_gt hS⟩, hk _ _ D.TIz D.TITO D.TIi1 D.TIi2 ti, ⟨_, _, b2⟩, b3, b4⟩ b5 b6 fun c o hc e => ?_
    obtain ⟨c1, c2, c3, c4, c5⟩ := nin hc
    exact hk c o c1 c3 c4 c5 e
  · have hT : s.TypeIs (.ref z) "zip" := ⟨_, hz, rfl⟩
    unfold pyNext
    refine wpAny_bind (wpAny_attempt (wpAny_callSpecial?_slot (name := Str.ofString "__next__") hT F.slot_zip_next
      (wpAny_call_entry F.slot_zip_next hT F.entry_zip_next
        (zpo_item D hz ht ti it1 it2 hl1 hl2 hx hy fun h' b1 b3 b4 b5 b6 hk => wpAny_pure (hQ h' ⟨.inr ⟨t, true, ot, b1, hk _ _ a1 a2 a3 ht, a1, a2, a3, a4⟩, hk _ _ D.TIz D.TIi1 D.TIi2 ti, ⟨_, _, hk _ _ D.TOz D.TOi1 D.TOi2 to⟩, b3, b4⟩ b5 b6 fun c o hc e => ?_)) (F.args_zip_next_1 _))))
    obtain ⟨c1, c2, c3, c4, c5⟩ := nin hc
    exact hk c o c1 c4 c5 e
theorem zst_done {z TI TO i1 i2 l1 l2 S : Addr} {i : Nat} {xs ys : Array Value} {Q : Option Value → Shared → Prop} (hh : A.handled = none) (D : ZipApart z TI TO i1 i2 l1 l2) (st : ZSt s.heap z TI TO i1 i2 l1 l2 S i)
    (hl1 : s.heap.IsList l1 xs) (hl2 : s.heap.IsList l2 ys) (hend : xs[i]? = none ∨ ys[i]? = none)
    (hQ : ∀ h', (∀ c o, c ∉ [z, TI, TO, i1, i2] → s.heap.get? c = some o → h'.get? c = some o) → Q none { s with heap := h' }) : wpAny (model prog w) A (pyNext (.ref z)) Q E s := by
  obtain ⟨ob, ti, ⟨x0, y0, to⟩, it1, it2⟩ := id st
  have nin : ∀ {c : Addr}, c ∉ [z, TI, TO, i1, i2] → c ≠ z ∧ c ≠ TI ∧ c ≠ TO ∧ c ≠ i1 ∧ c ≠ i2 := fun h => ⟨fun e => h (by simp [e]), fun e => h (by simp [e]), fun e => h (by simp [e]), fun e => h (by simp [e]), fun e => h (by simp [e])⟩
  rcases ob with hz | ⟨t, f, ot, hz, ht, a1, a2, a3, a4⟩
  · refine wpAny_pyNext_zip_end hh D hz ti to it1 it2 hl1 hl2 hend fun h' hk => hQ h' fun c o hc e => ?_
    obtain ⟨c1, c2, c3, c4, c5⟩ := nin hc
    exact hk c o c1 c3 c4 c5 e
  · have hT : s.TypeIs (.ref z) "zip" := ⟨_, hz, rfl⟩
    unfold pyNext
    refine wpAny_bind (wpAny_attempt (wpAny_callSpecial?_slot (name := Str.ofString "__next__") hT F.slot_zip_next
      (wpAny_call_entry F.slot_zip_next hT F.entry_zip_next (zpo_end hh D hz ht ti it1 it2 hl1 hl2 hend fun h' e hk he => ?_) (F.args_zip_next_1 _))))
    obtain ⟨o, ho, hc⟩ := he
    refine wpAny_bind (wpAny_isInstance (T := "StopIteration") (b := true) ⟨o, ho, hc⟩ isSubtype_stop ?_)
    refine wpAny_pure (hQ _ fun c o hc e => ?_)
    obtain ⟨c1, c2, c3, c4, c5⟩ := nin hc
    exact hk c o c1 c4 c5 e
theorem zip_no_len : typeLookup (.type "zip") "__len__" = pure none := by rw [typeLookup_type, builtinLookup_eq_fast]; kernel_rfl
theorem zip_no_hint : typeLookup (.type "zip") "__length_hint__" = pure none := by rw [typeLookup_type, builtinLookup_eq_fast]; kernel_rfl
end
noncomputable def PairT (H : Hp) (v : V) (x : V × V) : Prop := ∃ q, v = .ref q ∧ H q = some (.tup [x.1, x.2])
section
variable {X : Cx} {pins : List (Addr × Obj)} {σ : L2.St}
theorem zip_snoc {xs ys : List V} {i : Nat} {x y : V} (hx : xs[i]? = some x) (hy : ys[i]? = some y) : (xs.zip ys).take (i + 1) = (xs.zip ys).take i ++ [(x, y)] := by
  rw [List.take_add_one]
  congr 1
  rw [(List.getElem?_zip_eq_some (z := (x, y))).mpr ⟨hx, hy⟩]
  rfl
theorem zip_loop {A : Around} {R : Result → Shared → Prop} {S z TI TO i1 i2 a b : Addr} {xs ys : List V} {H0 : Hp} (hh : A.handled = none) (D : ZipApart z TI TO i1 i2 a b) (n1 : z ≠ S) (n2 : TI ≠ S) (n3 : TO ≠ S) (n4 : i1 ≠ S) (n5 : i2 ≠ S) (hz : xs.length < sizeLine) (res : Value)
    (na : a ≠ S) (nb : b ≠ S)
    (hR : ∀ (H : Hp) (s : Shared) (acc : List V), Inv X pins σ H s → H S = some (.lst acc) → Paired (PairT H) acc (xs.zip ys) → (∀ c o, c ≠ S → H0 c = some o → H c = some o) → R (.ok (.ret res)) s) :
    ∀ (k i : Nat) (s : Shared) (H : Hp) (acc : List V), (xs.zip ys).length - i = k → i ≤ (xs.zip ys).length → Inv X pins σ H s → (∀ c ∈ [z, TI, TO, i1, i2], FpOk X pins H c) → ZSt s.heap z TI TO i1 i2 a b S i → H S = some (.lst acc) → H a = some (.lst xs) → H b = some (.lst ys) →
      Paired (PairT H) acc ((xs.zip ys).take i) → (∀ c o, c ≠ S → H0 c = some o → H c = some o) → codeAny (model X.prog X.w) A (.builtin "list.extend.loop" ⟨[.ref S, .ref z, res], []⟩) R s := by
  have hzl : (xs.zip ys).length ≤ xs.length := by rw [List.length_zip]; exact Nat.min_le_left _ _
  intro k
  induction k with
  | zero =>
    intro i s H acc hk hi I hf st hS hqx hqy pr same
    have hin : i = (xs.zip ys).length := by lia
    obtain ⟨its, rv, p, _⟩ := I.list (SqL.of hqx)
    obtain ⟨its2, rv2, p2, _⟩ := I.list (SqL.of hqy)
    have l1 := rv.length
    have l2 := rv2.length
    have he : its.toArray[i]? = none ∨ its2.toArray[i]? = none := by
      rw [List.length_zip] at hin
      rcases Nat.le_total xs.length ys.length with q | q
      · exact .inl (by simp; lia)
      · exact .inr (by simp; lia)
    refine codeAny_builtin F.entry_extend_loop ?_
    rw [Around.under_plainId F.plain_extend_loop _]
    show wpAny _ A.in1 (pyNext (.ref z) >>= _) _ _ s
    refine wpAny_bind (zst_done (A := A.in1) hh D st p.isList p2.isList he fun h' hk' => ?_)
    refine wpAny_pure (hR H _ acc (I.turnedL (t' := s.toks) hk' hf) hS ?_ same)
    rwa [hin, List.take_length] at pr
  | succ k ih =>
    intro i s H acc hk hi I hf st hS hqx hqy pr same
    have hlt : i < (xs.zip ys).length := by lia
    have hlt1 : i < xs.length := by lia
    have hlt2 : i < ys.length := by rw [List.length_zip] at hlt; lia
    obtain ⟨x, hx⟩ : ∃ x, xs[i]? = some x := ⟨_, List.getElem?_eq_getElem hlt1⟩
    obtain ⟨y, hy⟩ : ∃ y, ys[i]? = some y := ⟨_, List.getElem?_eq_getElem hlt2⟩
    obtain ⟨its, rv, p, _⟩ := I.list (SqL.of hqx)
    obtain ⟨its2, rv2, p2, _⟩ := I.list (SqL.of hqy)
    obtain ⟨u, hu, ru⟩ := rv.get hx
    obtain ⟨u2, hu2, ru2⟩ := rv2.get hy
    obtain ⟨_, itS, nS, rS, _, eS⟩ := I.lstM hS
    have hSl : S < s.heap.objs.size := Heap.lt_size eS
    have hal : acc.length = i := by rw [Paired.length pr, List.length_take]; lia
    refine codeAny_builtin F.entry_extend_loop ?_
    rw [Around.under_plainId F.plain_extend_loop _]
    show wpAny _ A.in1 (pyNext (.ref z) >>= _) _ _ s
    refine wpAny_bind (zst_item D st hSl p.isList p2.isList (x := u) (y := u2) (by simpa using hu) (by simpa using hu2) fun h' st' hT hsz hk' => ?_)
    have fpl : ∀ c ∈ [z, TI, TO, i1, i2], c < s.heap.objs.size := fun c hc => by
      obtain ⟨ob, ti, ⟨x0, y0, to⟩, it1, it2⟩ := st
      have e' : c = z ∨ c = TI ∨ c = TO ∨ c = i1 ∨ c = i2 := by simpa using hc
      rcases e' with q | q | q | q | q
      · rw [q]
        rcases ob with h | ⟨t, f, ot, h, _⟩
        · exact Heap.lt_size h
        · exact Heap.lt_size h
      · rw [q]; exact Heap.lt_size ti
      · rw [q]; exact Heap.lt_size to
      · rw [q]; obtain ⟨_, e1, _⟩ := it1; exact Heap.lt_size e1
      · rw [q]; obtain ⟨_, e2, _⟩ := it2; exact Heap.lt_size e2
    have new : ObjOk X.prog X.w (upd H s.heap.objs.size (.tup [x, y])) h' s.heap.objs.size (.tup [x, y]) :=
      ⟨by show 2 ≤ sizeLine; decide, [u, u2], .cons ru (.cons ru2 .nil), ⟨_, hT, rfl, _, rfl⟩⟩
    have I1 : Inv X pins σ (upd H s.heap.objs.size (.tup [x, y])) { s with heap := h' } := I.turnedNew (t' := s.toks) (ch := [z, TI, TO, i1, i2]) hk' hf (Nat.le_refl _) new
    have hfr : H s.heap.objs.size = none := I.hok.fresh (Nat.le_refl _)
    have hSn : S ≠ s.heap.objs.size := Nat.ne_of_lt hSl
    have hS1 : upd H s.heap.objs.size (.tup [x, y]) S = some (.lst acc) := by rw [zE hSn]; exact hS
    obtain ⟨_, itS', nS', rS', lS', eS'⟩ := I1.lstM hS1
    have I2 := I1.lset (t' := s.toks) (f := (·.push (Value.ref s.heap.objs.size))) (its' := itS' ++ [Value.ref s.heap.objs.size]) (ys := acc ++ [.ref s.heap.objs.size]) hS1 eS' (by simp) (rS'.append (.cons (show L2.RelV (.ref s.heap.objs.size) (Value.ref s.heap.objs.size) from rfl) .nil)) (by rw [List.length_append, hal]; show i + 1 ≤ _; lia)
    show wpAny _ A.in1 (updateSeq S (·.push (Value.ref s.heap.objs.size)) >>= _) _ _ _
    refine wpAny_bind ?_
    refine wpAny_updateSeq eS' rfl (wpAny_pure ⟨plainId_quiet F.plain_extend_loop _, ih (i + 1) _ _ _ (by lia) (by lia) I2 (fun c hc => ?_) ?_ zB ?_ ?_ ?_ ?_⟩) (by rw [List.size_toArray]; lia) (by show (itS'.toArray.push (Value.ref s.heap.objs.size)).size ≤ sizeLine + 1; rw [Array.size_push, List.size_toArray]; lia)
    · have hc2 := fpl c hc
      have hcS : c ≠ S := by
        have e' : c = z ∨ c = TI ∨ c = TO ∨ c = i1 ∨ c = i2 := by simpa using hc
        rcases e' with q | q | q | q | q
        · rw [q]; exact n1
        · rw [q]; exact n2
        · rw [q]; exact n3
        · rw [q]; exact n4
        · rw [q]; exact n5
      refine ⟨?_, (hf c hc).2⟩
      rw [zE hcS, zE (Nat.ne_of_lt hc2)]
      exact (hf c hc).1
    · exact st'.keep (fun c o hc e => (Heap.get?_update_other _ _ (Ne.symm hc)).trans e) n1 n2 n3 n4 n5
    · rw [zE na, zE (zG hqx hfr)]; exact hqx
    · rw [zE nb, zE (zG hqy hfr)]; exact hqy
    · rw [zip_snoc hx hy]
      refine Paired.snoc (L2.Paired.mapP pr fun v e ⟨q, ev, hq⟩ => ⟨q, ev, ?_⟩) ⟨_, rfl, ?_⟩
      · rw [zE (ne_of hq hS (by intro z; cases z)), zE (zG hq hfr)]; exact hq
      · rw [zE (Ne.symm hSn), zB]
    · intro c o hc e
      rw [zE hc, zE (zG (same c o hc e) hfr)]
      exact same c o hc e
theorem call_listZip {s : Shared} {H : Hp} {Q : VK} {z TI TO i1 i2 a b : Addr} {xs ys : List V} (hcalm : X.calm = true) (I : Inv X pins σ H s) (D : ZipApart z TI TO i1 i2 a b) (hf : ∀ c ∈ [z, TI, TO, i1, i2], FpOk X pins H c) (st : ∀ S, ZSt s.heap z TI TO i1 i2 a b S 0) (hz0 : IsZip s.heap z TI TO .none)
    (fpl : ∀ c ∈ [z, TI, TO, i1, i2], c < s.heap.objs.size) (ha : H a = some (.lst xs)) (hb : H b = some (.lst ys)) (hz : xs.length < sizeLine)
    (q : ∀ (H' : Hp) (l : Addr) (acc : List V), Same H H' → H l = none → H' l = some (.lst acc) → Paired (PairT H') acc (xs.zip ys) → Q (.ref l) H') :
    wpAny (model X.prog X.w) X.A (call (.type "list") [.ref z]) (EP X pins σ Q) X.xe s := by
  have hh := I.ok.hd hcalm
  refine callType_codes (Q₁ := fun obj s₁ => obj = .ref s.heap.objs.size ∧ s₁ = { s with heap := s.heap.push { cls := .type "list", data := .seq #[] } }) F.called_list (F.typeCall_list_1 _) F.entry_list_init
    (code_list_new _ ⟨rfl, rfl⟩) fun obj s₁ h₁ => ?_
  obtain ⟨rfl, rfl⟩ := h₁
  have hS : (s.heap.push { cls := .type "list", data := .seq #[] }).get? s.heap.objs.size = some { cls := .type "list", data := .seq #[] } := Heap.get?_push_size _ rfl
  have hfr : H s.heap.objs.size = none := I.hok.fresh (Nat.le_refl _)
  have I0 : Inv X pins σ (upd H s.heap.objs.size (.lst [])) { s with heap := s.heap.push { cls := .type "list", data := .seq #[] } } := I.laid (t' := s.toks) (fun b u e => Heap.get?_push_of_some _ e) (Nat.le_refl _) ⟨Nat.zero_le _, [], _, .nil, hS⟩
  generalize hSS : s.heap.objs.size = S at *
  have nS : ∀ c ∈ [z, TI, TO, i1, i2], c ≠ S := fun c hc => Nat.ne_of_lt (fpl c hc)
  have st0 : ZSt (s.heap.push { cls := .type "list", data := .seq #[] }) z TI TO i1 i2 a b S 0 := (st S).keep (fun b o _ e => Heap.get?_push_of_some _ e) (nS z (by simp)) (nS TI (by simp)) (nS TO (by simp)) (nS i1 (by simp)) (nS i2 (by simp))
  have hz1 : IsZip (s.heap.push { cls := .type "list", data := .seq #[] }) z TI TO .none := Heap.get?_push_of_some _ hz0
  generalize hh0 : s.heap.push { cls := .type "list", data := .seq #[] } = h0 at *
  refine ⟨⟨_, hS, rfl⟩, F.args_list_init_2 _ _, ?_⟩
  show wpAny _ _ (do let old ← Builtin.List.listItems (.ref S); Builtin.List.listUpdate (.ref S) (fun _ => #[]); letGo old.toList.reverse; Builtin.List.listExtendWith (.ref S) (.ref z) .none) _ _ _
  refine wpAny_bind ?_
  unfold Builtin.List.listItems
  refine wpAny_bind (wpAny_seqItems hS rfl (wpAny_pure ?_))
  show wpAny _ _ (updateSeq S (fun _ => #[]) >>= fun _ => letGo (#[] : Array Value).toList.reverse >>= fun _ => Builtin.List.listExtendWith (.ref S) (.ref z) .none) _ _ _
  refine wpAny_bind (wpAny_updateSeq hS rfl ?_)
  have hS₂ := Heap.get?_update_self (Obj.mapSeq (fun _ => (#[] : Array Value))) hS rfl
  have oth : ∀ b o, b ≠ S → h0.get? b = some o → (h0.update S (Obj.mapSeq (fun _ => (#[] : Array Value)))).get? b = some o := fun b o hb e => (Heap.get?_update_other _ _ (Ne.symm hb)).trans e
  refine wpAny_bind (wpAny_letGo ?_)
  have st2 : ZSt (h0.update S (Obj.mapSeq (fun _ => (#[] : Array Value)))) z TI TO i1 i2 a b S 0 := st0.keep oth (nS z (by simp)) (nS TI (by simp)) (nS TO (by simp)) (nS i1 (by simp)) (nS i2 (by simp))
  have hz2 : IsZip (h0.update S (Obj.mapSeq (fun _ => (#[] : Array Value)))) z TI TO .none := oth _ _ (nS z (by simp)) hz1
  generalize hh2 : h0.update S (Obj.mapSeq (fun _ => (#[] : Array Value))) = h2 at *
  have hT := ZSt.type (s := { s with heap := h2 }) st2
  unfold Builtin.List.listExtendWith
  refine wpAny_bind (wpAny_typeOf hT ?_)
  have hSz : S ≠ z := Ne.symm (nS z (by simp))
  have e1 : Builtin.List.listSameRef (.ref S) (.ref z) = false := by simp [Builtin.List.listSameRef, hSz]
  have e2 : (Value.type "zip" == Value.type "list") = false := by decide
  have e3 : (Value.type "zip" == Value.type "tuple") = false := by decide
  simp only [e1, e2, e3, Bool.or_false, Bool.false_eq_true, if_false]
  refine wpAny_bind (wpAny_pyIter_zip hz2 ?_)
  refine wpAny_bind (wpAny_holding ?_)
  unfold Builtin.List.listLengthHint
  refine wpAny_bind (wpAny_specialOf hT zip_no_len ?_)
  show wpAny _ _ (specialOf (Value.ref z) (Str.ofString "__length_hint__") >>= _) _ _ _
  refine wpAny_bind (wpAny_specialOf hT zip_no_hint ?_)
  refine wpAny_pure ?_
  show wpAny _ _ (rule "list.extend.makes-room" >>= fun _ => Builtin.List.listTouch (.ref S) >>= fun _ =>
    again (.builtin "list.extend.loop" ⟨[.ref S, .ref z, .none], []⟩)) _ _ _
  refine wpAny_bind (wpAny_rule ?_)
  refine wpAny_bind ?_
  show wpAny _ _ (updateSeq S (·.push .none) >>= fun _ => updateSeq S (·.pop)) _ _ _
  refine wpAny_bind (wpAny_updateSeq hS₂ rfl ?_)
  have hS₃ := Heap.get?_update_self (Obj.mapSeq (·.push Value.none)) hS₂ rfl
  refine wpAny_updateSeq (hz := by seq_fits) hS₃ rfl ?_
  have hS₄ := Heap.get?_update_self (Obj.mapSeq (·.pop)) hS₃ rfl
  have oth2 : ∀ b o, b ≠ S → h2.get? b = some o → ((h2.update S (Obj.mapSeq (·.push Value.none))).update S (Obj.mapSeq (·.pop))).get? b = some o :=
    fun b o hb e => (Heap.get?_update_other _ _ (Ne.symm hb)).trans ((Heap.get?_update_other _ _ (Ne.symm hb)).trans e)
  have st4 := st2.keep oth2 (nS z (by simp)) (nS TI (by simp)) (nS TO (by simp)) (nS i1 (by simp)) (nS i2 (by simp))
  generalize hh4 : (h2.update S (Obj.mapSeq (·.push Value.none))).update S (Obj.mapSeq (·.pop)) = h4 at *
  have hal : a < S := by obtain ⟨_, _, _, _, _, e⟩ := I.lstM ha; rw [← hSS]; exact Heap.lt_size e
  have hbl : b < S := by obtain ⟨_, _, _, _, _, e⟩ := I.lstM hb; rw [← hSS]; exact Heap.lt_size e
  have naS : a ≠ S := Nat.ne_of_lt hal
  have nbS : b ≠ S := Nat.ne_of_lt hbl
  have eu : upd (upd H S (.lst [])) S (.lst []) = upd H S (.lst []) := by
    funext c
    unfold upd
    split <;> rfl
  have I4 : Inv X pins σ (upd H S (.lst [])) { s with heap := h4, toks := s.toks } := by
    have := I0.write (x := S) (e := S) (o := .lst []) (h' := h4) (t' := s.toks) (by rw [zB]; trivial) (.inl rfl) (fun b u hb e => oth2 b u hb (oth b u hb e)) ⟨_, hS₄⟩ ⟨Nat.zero_le _, [], _, .nil, hS₄⟩
    rwa [eu] at this
  refine wpAny_pure ⟨plainId_quiet F.plain_extend_loop _, zip_loop (A := X.A.in1) (X := X) (pins := pins) (σ := σ) (H0 := H) (xs := xs) (ys := ys) hh D (nS z (by simp)) (nS TI (by simp)) (nS TO (by simp)) (nS i1 (by simp)) (nS i2 (by simp)) hz .none naS nbS (fun H' s' acc I' hS' pr same => ?_) _ 0 _ _ [] rfl (Nat.zero_le _) I4 (fun c hc => ?_) st4 zB (by rw [zE naS]; exact ha) (by rw [zE nbS]; exact hb) .nil fun c o hc e => by rw [zE hc]; exact e⟩
  · exact ⟨rfl, .ref S, H', I', rfl, q H' S acc (fun c o e => same c o (zG e hfr) e) hfr hS' pr⟩
  · refine ⟨?_, (hf c hc).2⟩
    rw [zE (nS c hc)]
    exact (hf c hc).1
noncomputable def tLZ (t : TA) : TE := fun σ H Q => t σ H fun vs H1 => ∃ (a b : Addr) (xs ys : List V), vs = [.ref a, .ref b] ∧ H1 a = some (.lst xs) ∧ H1 b = some (.lst ys) ∧ xs.length < sizeLine ∧
  ∀ (H' : Hp) (l : Addr) (acc : List V), Same H1 H' → H1 l = none → H' l = some (.lst acc) → Paired (PairT H') acc (xs.zip ys) → Q (.ref l) H'
theorem boot_list9 : bootBuiltins "list" = some (.type "list") := by decide +kernel
theorem pe_listZip {e e2 : Expr} {t : TA} {p pz pos posz : Pos} (hcalm : X.calm = true) (hgl : Gl X "list") (hml : X.mg "list" = none) (hgz : Gl X "zip") (hmz : X.mg "zip" = none) (ha : PA X [e, e2] t)
    (hs0 : starEach [.Call (.Name "zip" pz) [e, e2] [] posz] X.env = (false, eval (.Call (.Name "zip" pz) [e, e2] [] posz) X.env) :: starEach [] X.env := by rfl) (hpl0 : (backTo pos (starEach [] X.env)).any (·.1) = false := by rfl)
    (hs : starEach [e, e2] X.env = (false, eval e X.env) :: starEach [e2] X.env := by rfl) (hpl : (backTo posz (starEach [e2] X.env)).any (·.1) = false := by rfl) :
    PE X (.Call (.Name "list" p) [.Call (.Name "zip" pz) [e, e2] [] posz] [] pos) (tLZ t) := by
  intro pins s σ H Q I h
  refine wpAny_Call_Name_kw (ld_blt I hgl hml boot_list9 ?_)
  refine PyProof.Rows.callWith_type1 ?_ hs0 hpl0
  rw [hs0]
  show wpAny _ _ (spliced ((false, eval (.Call (.Name "zip" pz) [e, e2] [] posz) X.env) :: backTo pos (starEach [] X.env))) _ _ s
  refine Calls.spliced_cons ?_
  refine wpAny_Call_Name_kw (ld_blt I hgz hmz boot_zip5 (PyProof.Rows.callWith_type1 (thn5 (ha posz pins s σ H _ I h) fun us s1 vs H1 I1 r1 hq_ => ?_) hs hpl))
  obtain ⟨a, b, xs, ys, ev, h1, h2, hz, q⟩ := hq_
  subst ev
  cases r1 with
  | cons r rr =>
    cases rr with
    | cons r' rr =>
      cases rr
      cases r
      cases r'
      obtain ⟨its, rv, p1, _⟩ := I1.list (SqL.of (K := X.K) h1)
      obtain ⟨its2, rv2, p2, _⟩ := I1.list (SqL.of (K := X.K) h2)
      have la : a < s1.heap.objs.size := p1.lt
      have lb : b < s1.heap.objs.size := p2.lt
      refine call_zip_2 p1.isList p2.isList fun h' hz' hTI hTO g1 g2 hsz hk => Calls.spliced_nil ?_
      have I2 : Inv X pins σ H1 { s1 with heap := h' } := I1.kept (t' := s1.toks) hk
      refine call_listZip hcalm I2 (PySem.W.ktu_apart s1.heap.objs.size a b la lb) (fun c hcm => ?_) (fun S => ⟨.inl hz', hTI, ⟨_, _, hTO⟩, g1, g2⟩) hz' (fun c hcm => ?_) h1 h2 hz q
      · have e' : c = s1.heap.objs.size + 4 ∨ c = s1.heap.objs.size + 2 ∨ c = s1.heap.objs.size + 3 ∨ c = s1.heap.objs.size ∨ c = s1.heap.objs.size + 1 := by simpa using hcm
        have hle : s1.heap.objs.size ≤ c := by
          rcases e' with z | z | z | z | z
          · rw [z]; exact Nat.le_add_right _ _
          · rw [z]; exact Nat.le_add_right _ _
          · rw [z]; exact Nat.le_add_right _ _
          · rw [z]; exact Nat.le_refl _
          · rw [z]; exact Nat.le_add_right _ _
        exact I1.fpOk hle (I1.hok.fresh hle)
      · have e' : c = s1.heap.objs.size + 4 ∨ c = s1.heap.objs.size + 2 ∨ c = s1.heap.objs.size + 3 ∨ c = s1.heap.objs.size ∨ c = s1.heap.objs.size + 1 := by simpa using hcm
        show c < h'.objs.size
        rw [hsz]
        rcases e' with z | z | z | z | z
        · rw [z]; exact Nat.add_lt_add_left (by decide) _
        · rw [z]; exact Nat.add_lt_add_left (by decide) _
        · rw [z]; exact Nat.add_lt_add_left (by decide) _
        · rw [z]; exact Nat.lt_add_of_pos_right (by decide)
        · rw [z]; exact Nat.add_lt_add_left (by decide) _
end
end PZ
namespace WM
open WayNet
noncomputable def sumN : Nat → (Nat → Int) → Int
  | 0, _ => 0
  | n + 1, f => sumN n f + f n
theorem zV {f g : Nat → Int} : ∀ {n : Nat}, (∀ i, i < n → f i = g i) → sumN n f = sumN n g
  | 0, _ => rfl
  | n + 1, h => by
    show sumN n f + f n = sumN n g + g n
    rw [zV (n := n) fun i hi => h i (by lia), h n (by lia)]
theorem sumN_add (f g : Nat → Int) : ∀ n, sumN n (fun i => f i + g i) = sumN n f + sumN n g
  | 0 => rfl
  | n + 1 => by simp only [sumN]; rw [sumN_add f g n]; lia
theorem sumN_sub (f g : Nat → Int) : ∀ n, sumN n (fun i => f i - g i) = sumN n f - sumN n g
  | 0 => rfl
  | n + 1 => by simp only [sumN]; rw [sumN_sub f g n]; lia
theorem sumN_le {f g : Nat → Int} : ∀ {n : Nat}, (∀ i, i < n → f i ≤ g i) → sumN n f ≤ sumN n g
  | 0, _ => Int.le_refl _
  | n + 1, h => by
    have a := sumN_le (n := n) fun i hi => h i (by lia)
    have b := h n (by lia)
    simp only [sumN]; lia
theorem sumN_zero : ∀ n, sumN n (fun _ => 0) = 0
  | 0 => rfl
  | n + 1 => by simp only [sumN]; rw [sumN_zero n]; rfl
theorem sumN_swap (f : Nat → Nat → Int) (m : Nat) : ∀ n, sumN n (fun i => sumN m (f i)) = sumN m (fun j => sumN n (fun i => f i j))
  | 0 => by simp only [sumN]; rw [sumN_zero]
  | n + 1 => by
    simp only [sumN]
    rw [sumN_swap f m n, sumN_add]
theorem sumN_mul (c : Int) (f : Nat → Int) : ∀ n, sumN n (fun i => c * f i) = c * sumN n f
  | 0 => by simp [sumN]
  | n + 1 => by simp only [sumN]; rw [sumN_mul c f n, Int.mul_add]
theorem sumN_single (f : Nat → Int) (k : Nat) : ∀ n, (∀ i, i < n → i ≠ k → f i = 0) → sumN n f = if k < n then f k else 0
  | 0, _ => by simp [sumN]
  | n + 1, h => by
    have ih := sumN_single f k n fun i hi hk => h i (by lia) hk
    simp only [sumN]
    rw [ih]
    by_cases e : n = k
    · subst e; simp
    · rw [h n (by lia) e]
      by_cases hk : k < n
      · rw [if_pos hk, if_pos (by lia)]; lia
      · rw [if_neg hk, if_neg (by lia)]; lia
noncomputable def bi (b : Bool) : Int := if b = true then 1 else 0
theorem bi_t : bi true = 1 := rfl
theorem bi_f : bi false = 0 := rfl
theorem bi_le (b : Bool) : bi b ≤ 1 := by cases b <;> decide
noncomputable abbrev Rel := Nat → Nat → Bool
noncomputable def net (n : Nat) (F : Rel) (x : Nat) : Int := sumN n fun y => bi (F x y) - bi (F y x)
structure Flow (n : Nat) (L : Rel) (s t : Nat) (k : Int) (F : Rel) : Prop where
  sub : ∀ u v, F u v = true → L u v = true
  bal : ∀ x, x < n → net n F x = (if x = s then k else 0) - (if x = t then k else 0)
noncomputable def cap (n : Nat) (L S : Nat → Nat → Bool) : Int := sumN n fun x => sumN n fun y => bi (L x y && S x y)
noncomputable def out (S : Nat → Bool) : Rel := fun x y => S x && !S y
theorem cut_sum (n : Nat) (F : Rel) (S : Nat → Bool) : sumN n (fun x => bi (S x) * net n F x) = sumN n fun x => sumN n fun y => (bi (S x) - bi (S y)) * bi (F x y) := by
  have e1 : sumN n (fun x => bi (S x) * net n F x) = sumN n (fun x => sumN n fun y => bi (S x) * bi (F x y)) - sumN n (fun x => sumN n fun y => bi (S x) * bi (F y x)) := by
    rw [← sumN_sub]
    refine zV fun x _ => ?_
    rw [← sumN_sub]
    show bi (S x) * sumN n _ = _
    rw [← sumN_mul]
    refine zV fun y _ => ?_
    rw [Int.mul_sub]
  have e2 : sumN n (fun x => sumN n fun y => bi (S x) * bi (F y x)) = sumN n (fun x => sumN n fun y => bi (S y) * bi (F x y)) :=
    sumN_swap (fun x y => bi (S x) * bi (F y x)) n n
  rw [e1, e2, ← sumN_sub]
  refine zV fun x _ => ?_
  rw [← sumN_sub]
  refine zV fun y _ => ?_
  rw [Int.sub_mul]
theorem flow_cut {n : Nat} {L F : Rel} {s t : Nat} {k : Int} (hs : s < n) (fl : Flow n L s t k F) {S : Nat → Bool} (ss : S s = true) (st : S t = false) :
    sumN n (fun x => sumN n fun y => (bi (S x) - bi (S y)) * bi (F x y)) = k := by
  rw [← cut_sum]
  have e : sumN n (fun x => bi (S x) * net n F x) = sumN n (fun x => if x = s then k else 0) := by
    refine zV fun x hx => ?_
    rw [fl.bal x hx]
    by_cases h : x = s
    · subst h
      have : x ≠ t := fun e => by rw [e, st] at ss; cases ss
      rw [ss, if_pos rfl, if_neg this, bi_t]; lia
    · rw [if_neg h]
      by_cases h2 : x = t
      · subst h2; rw [st, if_pos rfl, bi_f]; lia
      · rw [if_neg h2]; lia
  rw [e, sumN_single _ s n (fun i _ hi => if_neg hi), if_pos hs, if_pos rfl]
theorem flow_le_cap {n : Nat} {L F : Rel} {s t : Nat} {k : Int} (hs : s < n) (fl : Flow n L s t k F) {S : Nat → Bool} (ss : S s = true) (st : S t = false) : k ≤ cap n L (out S) := by
  rw [← flow_cut hs fl ss st]
  refine sumN_le fun x _ => sumN_le fun y _ => ?_
  unfold out
  cases hx : S x <;> cases hy : S y <;> cases hF : F x y <;> cases hL : L x y <;> first | decide | (have := fl.sub x y hF; rw [hL] at this; cases this)
noncomputable def resid (L F : Rel) : Rel := fun u v => F v u || (L u v && !F u v)
theorem flow_eq_cap {n : Nat} {L F : Rel} {s t : Nat} {k : Int} (hs : s < n) (fl : Flow n L s t k F) {S : Nat → Bool} (ss : S s = true) (st : S t = false)
    (cl : ∀ u v, u < n → v < n → S u = true → resid L F u v = true → S v = true) : k = cap n L (out S) := by
  rw [← flow_cut hs fl ss st]
  refine zV fun x hx => zV fun y hy => ?_
  have c1 := cl x y hx hy
  have c2 := cl y x hy hx
  have sb := fl.sub x y
  unfold resid at c1 c2
  unfold out
  revert c1 c2 sb
  cases S x <;> cases S y <;> cases F x y <;> cases F y x <;> cases L x y <;> cases L y x <;> decide
structure IsMax (n : Nat) (L : Rel) (s t : Nat) (k : Int) : Prop where
  has : ∃ F, Flow n L s t k F
  cut : ∃ S : Nat → Bool, S s = true ∧ S t = false ∧ cap n L (out S) = k
theorem isMax_of {n : Nat} {L F : Rel} {s t : Nat} {k : Int} (hs : s < n) (fl : Flow n L s t k F) {S : Nat → Bool} (ss : S s = true) (st : S t = false)
    (cl : ∀ u v, u < n → v < n → S u = true → resid L F u v = true → S v = true) : IsMax n L s t k := ⟨⟨F, fl⟩, S, ss, st, (flow_eq_cap hs fl ss st cl).symm⟩
theorem flow_zero (n : Nat) (L : Rel) (s t : Nat) : Flow n L s t 0 (fun _ _ => false) where
  sub := fun _ _ h => by cases h
  bal := fun x _ => by
    unfold net
    rw [zV (g := fun _ => 0) (fun i _ => by rfl), sumN_zero]
    by_cases a : x = s <;> by_cases b : x = t <;> simp [a, b]
theorem sum_but (s : Nat) : ∀ n : Nat, sumN n (fun y => if y = s then (0 : Int) else 1) = if s < n then (n : Int) - 1 else n
  | 0 => by simp [sumN]
  | n + 1 => by
    simp only [sumN]
    rw [sum_but s n]
    by_cases a : s < n
    · rw [if_pos a, if_neg (by lia), if_pos (by lia)]; lia
    · by_cases b : n = s
      · rw [if_neg a, if_pos b, if_pos (by lia)]; lia
      · rw [if_neg a, if_neg b, if_neg (by lia)]; lia
theorem flow_lt_n {n : Nat} {L F : Rel} {s t : Nat} {k : Int} (hs : s < n) (hst : s ≠ t) (fl : Flow n L s t k F) : k < n := by
  have h := flow_le_cap hs fl (S := fun x => decide (x = s)) (decide_eq_true rfl) (decide_eq_false (fun e => hst e.symm))
  have e : cap n L (out fun x => decide (x = s)) ≤ sumN n (fun x => if x = s then (n : Int) - 1 else 0) := by
    refine sumN_le fun x _ => ?_
    by_cases hx : x = s
    · rw [if_pos hx]
      have := sumN_le (n := n) (f := fun y => bi (L x y && out (fun x => decide (x = s)) x y)) (g := fun y => if y = s then 0 else 1) (fun y _ => by
        by_cases hy : y = s
        · simp [hy, out, bi]
        · simp only [if_neg hy]; exact bi_le _)
      rw [sum_but, if_pos hs] at this
      lia
    · rw [if_neg hx]
      rw [zV (g := fun _ => 0) (fun y _ => by unfold out; simp [hx, bi]), sumN_zero]
      exact Int.le_refl _
  rw [sumN_single _ s n (fun i _ hi => if_neg hi), if_pos hs, if_pos rfl] at e
  lia
noncomputable def turnF (F : Rel) (u v : Nat) : Rel := fun a b => if F v u = true then (if a = v ∧ b = u then false else F a b) else (if a = u ∧ b = v then true else F a b)
theorem net_turn {n : Nat} {L F : Rel} {u v : Nat} (hu : u < n) (hv : v < n) (huv : u ≠ v) (h : resid L F u v = true) (x : Nat) :
    net n (turnF F u v) x = net n F x + ((if x = u then 1 else 0) - (if x = v then 1 else 0)) := by
  have e : net n (turnF F u v) x - net n F x = sumN n (fun y => (bi (turnF F u v x y) - bi (F x y)) - (bi (turnF F u v y x) - bi (F y x))) := by
    unfold net
    rw [← sumN_sub]
    refine zV fun y _ => ?_
    lia
  have key : sumN n (fun y => (bi (turnF F u v x y) - bi (F x y)) - (bi (turnF F u v y x) - bi (F y x))) = (if x = u then 1 else 0) - (if x = v then 1 else 0) := by
    by_cases hx : x = u
    · subst hx
      rw [sumN_single _ v n ?_, if_pos hv, if_pos rfl, if_neg huv]
      · unfold turnF
        unfold resid at h
        cases hF : F v x
        · rw [hF] at h
          simp at h
          simp [h.2, hF, huv, Ne.symm huv, bi]
        · simp [hF, huv, Ne.symm huv, bi]
      · intro y _ hy
        unfold turnF
        cases hF : F v x
        · simp [hy, huv, Ne.symm huv]
        · simp [hy, huv, Ne.symm huv]
    · by_cases hx2 : x = v
      · subst hx2
        rw [sumN_single _ u n ?_, if_pos hu, if_neg hx, if_pos rfl]
        · unfold turnF
          unfold resid at h
          cases hF : F x u
          · rw [hF] at h
            simp at h
            simp [h.2, hF, huv, Ne.symm huv, bi]
          · simp [hF, huv, Ne.symm huv, bi]
        · intro y _ hy
          unfold turnF
          cases hF : F x u
          · simp [hy, huv, Ne.symm huv]
          · simp [hy, huv, Ne.symm huv]
      · rw [if_neg hx, if_neg hx2, zV (g := fun _ => 0), sumN_zero]
        · rfl
        · intro y _
          unfold turnF
          cases hF : F v u <;> simp [hx, hx2]
  lia
end WM
section
namespace WM
open WayNet
noncomputable def cost (c : Nat → Nat → Nat) : List Nat → Nat
  | a :: b :: l => c a b + cost c (b :: l)
  | _ => 0
theorem steps_mem : ∀ {l : List Nat} {p : Nat × Nat}, p ∈ steps l → p.1 ∈ l ∧ p.2 ∈ l.tail
  | [], p, h => by simp [steps] at h
  | [a], p, h => by simp [steps] at h
  | a :: b :: l, p, h => by
    simp only [steps, List.mem_cons] at h
    rcases h with rfl | h
    · simp
    · have := steps_mem (l := b :: l) h
      simp only [List.tail_cons] at this ⊢
      exact ⟨List.mem_cons_of_mem _ this.1, List.mem_cons_of_mem _ this.2⟩
theorem steps_suffix : ∀ (pre : List Nat) (l : List Nat) (p : Nat × Nat), p ∈ steps l → p ∈ steps (pre ++ l)
  | [], l, p, h => h
  | [a], [], p, h => by simp [steps] at h
  | [a], b :: l, p, h => by
    show p ∈ (a, b) :: steps (b :: l)
    exact List.mem_cons_of_mem _ h
  | a :: b :: pre, l, p, h => by
    show p ∈ (a, b) :: steps (b :: pre ++ l)
    exact List.mem_cons_of_mem _ (steps_suffix (b :: pre) l p h)
theorem cost_suffix (c : Nat → Nat → Nat) : ∀ (pre : List Nat) (l : List Nat), cost c l ≤ cost c (pre ++ l)
  | [], l => Nat.le_refl _
  | [a], [] => by simp [cost]
  | [a], b :: l => by
    show _ ≤ c a b + cost c (b :: l)
    lia
  | a :: b :: pre, l => by
    show _ ≤ c a b + cost c (b :: pre ++ l)
    have := cost_suffix c (b :: pre) l
    lia
structure FromTo (a z : Nat) (l : List Nat) : Prop where
  hd : l.head? = some a
  lt : l.getLast? = some z
theorem FromTo.ne {a z : Nat} {l : List Nat} (h : FromTo a z l) : l ≠ [] := fun e => by have := h.hd; rw [e] at this; cases this
theorem FromTo.cons {a b z : Nat} {l : List Nat} (h : FromTo b z l) : FromTo a z (a :: l) := ⟨rfl, by
  have := h.ne
  rw [List.getLast?_cons, h.lt]; rfl⟩
theorem FromTo.shape {a z : Nat} {l : List Nat} (h : FromTo a z l) : ∃ r, l = a :: r := by
  cases l with
  | nil => exact absurd rfl h.ne
  | cons x r => have := h.hd; simp at this; exact ⟨r, by rw [this]⟩
theorem FromTo.one {a : Nat} : FromTo a a [a] := ⟨rfl, rfl⟩
theorem FromTo.tail {a b z : Nat} {l : List Nat} (h : FromTo a z (a :: b :: l)) : FromTo b z (b :: l) := ⟨rfl, by
  have := h.lt
  rw [List.getLast?_cons] at this
  rw [← this]
  cases e : (b :: l).getLast? with
  | none => simp at e
  | some x => rfl⟩
theorem simple_of (c : Nat → Nat → Nat) : ∀ {l : List Nat} {a z : Nat}, FromTo a z l →
    ∃ r, FromTo a z r ∧ r.Nodup ∧ (∀ p ∈ steps r, p ∈ steps l) ∧ cost c r ≤ cost c l ∧ (∀ x ∈ r, x ∈ l)
  | [], a, z, h => absurd rfl h.ne
  | [x], a, z, h => ⟨[x], h, by simp, fun _ q => q, Nat.le_refl _, fun _ q => q⟩
  | x :: y :: l, a, z, h => by
    have e : x = a := by have := h.hd; simpa using this
    subst e
    obtain ⟨r, f, nd, st, co, mem⟩ := simple_of c h.tail
    by_cases hx : x ∈ r
    · obtain ⟨p, q, e⟩ := List.append_of_mem hx
      subst e
      refine ⟨x :: q, ⟨rfl, ?_⟩, ?_, ?_, ?_, ?_⟩
      · have := f.lt
        rw [List.getLast?_append] at this
        simpa using this
      · exact (List.nodup_append.mp nd).2.1
      · intro w hw
        have := st w (steps_suffix p _ w hw)
        show w ∈ (x, y) :: steps (y :: l)
        exact List.mem_cons_of_mem _ this
      · have := cost_suffix c p (x :: q)
        show _ ≤ c x y + cost c (y :: l)
        lia
      · intro w hw
        exact List.mem_cons_of_mem _ (mem w (List.mem_append_right _ hw))
    · obtain ⟨r', e⟩ := f.shape
      subst e
      refine ⟨x :: y :: r', f.cons, List.nodup_cons.mpr ⟨hx, nd⟩, ?_, ?_, ?_⟩
      · intro w hw
        have hw' : w ∈ (x, y) :: steps (y :: r') := hw
        show w ∈ (x, y) :: steps (y :: l)
        rcases List.mem_cons.mp hw' with h1 | h1
        · rw [h1]; exact List.mem_cons_self
        · exact List.mem_cons_of_mem _ (st w h1)
      · show c x y + cost c (y :: r') ≤ c x y + cost c (y :: l)
        lia
      · intro w hw
        rcases List.mem_cons.mp hw with h1 | h1
        · rw [h1]; exact List.mem_cons_self
        · exact List.mem_cons_of_mem _ (mem w h1)
theorem steps_snoc : ∀ (l : List Nat) (a b : Nat), l.getLast? = some a → ∀ p, p ∈ steps (l ++ [b]) → p ∈ steps l ∨ p = (a, b)
  | [], a, b, h, p, q => by cases h
  | [x], a, b, h, p, q => by
    have e : x = a := by simpa using h
    subst e
    simp [steps] at q
    exact .inr q
  | x :: y :: l, a, b, h, p, q => by
    have h' : (y :: l).getLast? = some a := by
      rw [List.getLast?_cons] at h
      rw [← h]
      cases e : (y :: l).getLast? with
      | none => simp at e
      | some z => rfl
    have q' : p ∈ (x, y) :: steps ((y :: l) ++ [b]) := q
    rcases List.mem_cons.mp q' with h1 | h1
    · exact .inl (by rw [h1]; exact List.mem_cons_self)
    · rcases steps_snoc (y :: l) a b h' p h1 with h2 | h2
      · exact .inl (List.mem_cons_of_mem _ h2)
      · exact .inr h2
theorem FromTo.snoc {a z b : Nat} {l : List Nat} (h : FromTo a z l) : FromTo a b (l ++ [b]) := ⟨by
  obtain ⟨r, e⟩ := h.shape
  subst e; rfl, by simp⟩
theorem nodup_le : ∀ (n : Nat) (l : List Nat), l.Nodup → (∀ x ∈ l, x < n) → l.length ≤ n
  | 0, [], _, _ => Nat.le_refl _
  | 0, x :: l, _, h => absurd (h x List.mem_cons_self) (by lia)
  | n + 1, l, nd, h => by
    have h1 := nodup_le n (l.filter (fun x => x != n)) (nd.sublist List.filter_sublist) (fun x hx => by
      have := List.mem_filter.mp hx
      have a := h x this.1
      have b : x ≠ n := by simpa using this.2
      lia)
    have h2 : l.length ≤ (l.filter (fun x => x != n)).length + 1 := by
      clear h1 h
      induction l with
      | nil => simp
      | cons y l ih =>
        have nd' := List.nodup_cons.mp nd
        by_cases e : y = n
        · subst e
          have : l.filter (fun x => x != y) = l := List.filter_eq_self.mpr fun z hz => by
            have : z ≠ y := fun q => nd'.1 (q ▸ hz)
            simpa using this
          simp [this]
        · have := ih nd'.2
          simp [e]; lia
    lia
noncomputable def relOf (l : List (Nat × Nat)) : Rel := fun u v => l.contains (u, v)
theorem seek_some {n : Nat} {l used : List (Nat × Nat)} {t : Nat} : ∀ {f : Nat} {seen : List Nat} {u : Nat} {r : List Nat}, seek n l used t f seen u = some r →
    FromTo u t r ∧ r.Nodup ∧ (∀ x ∈ r.tail, x < n ∧ x ∉ u :: seen) ∧ (∀ p ∈ steps r, free l used p.1 p.2 = true)
  | 0, seen, u, r, h => by
    unfold seek at h
    by_cases e : u = t
    · rw [if_pos e] at h
      cases h
      subst e
      exact ⟨.one, by simp, by simp, by simp [steps]⟩
    · rw [if_neg e] at h; cases h
  | f + 1, seen, u, r, h => by
    unfold seek at h
    by_cases e : u = t
    · rw [if_pos e] at h
      cases h
      subst e
      exact ⟨.one, by simp, by simp, by simp [steps]⟩
    · rw [if_neg e] at h
      obtain ⟨v, hv, hh⟩ := List.exists_of_findSome?_eq_some h
      split at hh
      · rename_i hc
        cases hs : seek n l used t f (u :: seen) v with
        | none => rw [hs] at hh; cases hh
        | some q =>
          rw [hs] at hh
          have : u :: q = r := by simpa using hh
          subst this
          obtain ⟨a, b, c, d⟩ := seek_some hs
          obtain ⟨q', eq⟩ := a.shape
          subst eq
          have hv' : v < n := List.mem_range.mp hv
          have hvs : v ∉ u :: seen := by
            have := hc.2
            intro hm
            rw [List.contains_iff_mem.mpr hm] at this
            cases this
          have all : ∀ x ∈ v :: q', x < n ∧ x ∉ u :: seen := by
            intro x hx
            rcases List.mem_cons.mp hx with rfl | hx
            · exact ⟨hv', hvs⟩
            · have := c x hx
              exact ⟨this.1, fun hm => this.2 (List.mem_cons_of_mem _ hm)⟩
          refine ⟨a.cons, List.nodup_cons.mpr ⟨fun hm => (all u hm).2 List.mem_cons_self, b⟩, all, ?_⟩
          intro p hp
          have hp' : p ∈ (u, v) :: steps (v :: q') := hp
          rcases List.mem_cons.mp hp' with rfl | hp'
          · exact hc.1
          · exact d p hp'
      · cases hh
theorem seek_isSome {n : Nat} {l used : List (Nat × Nat)} {t : Nat} : ∀ {f : Nat} {seen : List Nat} {u : Nat} {r : List Nat}, FromTo u t r → r.Nodup → (∀ x ∈ r.tail, x < n ∧ x ∉ u :: seen) →
    (∀ p ∈ steps r, free l used p.1 p.2 = true) → r.length ≤ f + 1 → (seek n l used t f seen u).isSome = true
  | f, seen, u, [], a, _, _, _, _ => absurd rfl a.ne
  | f, seen, u, [x], a, _, _, _, _ => by
    have e1 : x = u := by simpa using a.hd
    have e2 : x = t := by simpa using a.lt
    cases f <;> (unfold seek; rw [if_pos (by rw [← e1, ← e2])]; rfl)
  | 0, seen, u, x :: y :: r, a, _, _, _, hl => by simp at hl
  | f + 1, seen, u, x :: y :: r, a, nd, av, st, hl => by
    have e1 : x = u := by simpa using a.hd
    subst e1
    unfold seek
    by_cases e : x = t
    · rw [if_pos e]; rfl
    · rw [if_neg e, List.findSome?_isSome_iff]
      have hy := av y (by simp)
      have nd' := List.nodup_cons.mp nd
      refine ⟨y, List.mem_range.mpr hy.1, ?_⟩
      have hc : free l used x y = true ∧ (x :: seen).contains y = false := ⟨st (x, y) (by simp [steps]), by
        cases hb : (x :: seen).contains y with
        | false => rfl
        | true => exact absurd (List.contains_iff_mem.mp hb) hy.2⟩
      rw [if_pos hc, Option.isSome_map]
      refine seek_isSome (r := y :: r) a.tail nd'.2 ?_ ?_ (by simpa using hl)
      · intro z hz
        have hz' : z ∈ r := hz
        have hz2 := av z (by simp [hz'])
        refine ⟨hz2.1, fun hm => ?_⟩
        rcases List.mem_cons.mp hm with q | q
        · subst q
          exact (List.nodup_cons.mp nd'.2).1 hz'
        · exact hz2.2 q
      · intro p hp
        exact st p (List.mem_cons_of_mem _ hp)
theorem relOf_turn (used : List (Nat × Nat)) (x : Nat × Nat) : relOf (turn used x) = turnF (relOf used) x.1 x.2 := by
  funext a b
  unfold turn turnF relOf
  by_cases h : used.contains (x.2, x.1) = true
  · rw [if_pos h, if_pos h]
    rw [Bool.eq_iff_iff]
    simp only [List.contains_iff_mem, List.mem_filter]
    by_cases e : a = x.2 ∧ b = x.1
    · rw [if_pos e]; simp [e]
    · rw [if_neg e]
      have : (a, b) ≠ (x.2, x.1) := fun q => e (by cases q; exact ⟨rfl, rfl⟩)
      simp [this]
  · rw [if_neg h, if_neg h]
    rw [Bool.eq_iff_iff]
    simp only [List.contains_iff_mem, List.mem_append, List.mem_singleton]
    by_cases e : a = x.1 ∧ b = x.2
    · rw [if_pos e]
      have : (a, b) = x := by rw [e.1, e.2]
      simp [this]
    · rw [if_neg e]
      have : (a, b) ≠ x := fun q => e (by rw [← q]; exact ⟨rfl, rfl⟩)
      simp [this]
theorem augment {n : Nat} {L : Rel} : ∀ {r : List Nat} {u z : Nat} {used : List (Nat × Nat)}, FromTo u z r → r.Nodup → (∀ x ∈ r, x < n) → (∀ p ∈ steps r, resid L (relOf used) p.1 p.2 = true) →
    (∀ a b, relOf used a b = true → L a b = true) →
    (∀ a b, relOf ((steps r).foldl turn used) a b = true → L a b = true) ∧ ∀ x, net n (relOf ((steps r).foldl turn used)) x = net n (relOf used) x + ((if x = u then 1 else 0) - (if x = z then 1 else 0))
  | [], u, z, used, a, _, _, _, _ => absurd rfl a.ne
  | [x], u, z, used, a, _, _, _, sb => by
    have e1 : x = u := by simpa using a.hd
    have e2 : x = z := by simpa using a.lt
    subst e1; subst e2
    refine ⟨sb, fun y => ?_⟩
    show net n (relOf used) y = _
    lia
  | x :: y :: r, u, z, used, a, nd, lt, st, sb => by
    have e1 : x = u := by simpa using a.hd
    subst e1
    have nd' := List.nodup_cons.mp nd
    have hxy : x ≠ y := fun q => nd'.1 (by rw [q]; exact List.mem_cons_self)
    have h0 : resid L (relOf used) x y = true := st (x, y) (by simp [steps])
    have sb' : ∀ a b, relOf (turn used (x, y)) a b = true → L a b = true := by
      intro a b h
      rw [relOf_turn] at h
      unfold turnF at h
      unfold resid at h0
      dsimp only at h
      by_cases hF : relOf used y x = true
      · rw [if_pos hF] at h
        split at h
        · cases h
        · exact sb a b h
      · rw [if_neg hF] at h
        split at h
        · rename_i e
          rw [e.1, e.2]
          simp [hF] at h0
          exact h0.1
        · exact sb a b h
    have st' : ∀ p ∈ steps (y :: r), resid L (relOf (turn used (x, y))) p.1 p.2 = true := by
      intro p hp
      have h1 := st p (List.mem_cons_of_mem _ hp)
      have m := steps_mem hp
      have n1 : p.1 ≠ x := fun q => nd'.1 (q ▸ m.1)
      have n2 : p.2 ≠ x := fun q => nd'.1 (q ▸ List.mem_cons_of_mem _ m.2)
      rw [relOf_turn]
      unfold resid turnF at *
      dsimp only
      by_cases hF : relOf used y x = true <;> simp [hF, n1, n2] <;> simpa using h1
    obtain ⟨i1, i2⟩ := augment (L := L) (n := n) (used := turn used (x, y)) a.tail nd'.2 (fun w hw => lt w (List.mem_cons_of_mem _ hw)) st' sb'
    refine ⟨i1, fun w => ?_⟩
    have i3 := i2 w
    rw [relOf_turn] at i3
    rw [net_turn (L := L) (lt x List.mem_cons_self) (lt y (by simp)) hxy h0] at i3
    show net n (relOf ((steps (y :: r)).foldl turn (turn used (x, y)))) w = _
    rw [i3]
    lia
theorem Flow.next {n : Nat} {L : Rel} {s t : Nat} {k : Int} {used : List (Nat × Nat)} (fl : Flow n L s t k (relOf used)) {r : List Nat} (a : FromTo s t r) (nd : r.Nodup) (lt : ∀ x ∈ r, x < n)
    (st : ∀ p ∈ steps r, resid L (relOf used) p.1 p.2 = true) : Flow n L s t (k + 1) (relOf ((steps r).foldl turn used)) := by
  obtain ⟨i1, i2⟩ := augment (L := L) (n := n) a nd lt st fl.sub
  refine ⟨i1, fun x hx => ?_⟩
  rw [i2 x, fl.bal x hx]
  by_cases h1 : x = s <;> by_cases h2 : x = t <;> simp [h1, h2] <;> lia
open Classical in
theorem stuck_max {n : Nat} {L F : Rel} {s t : Nat} {k : Int} (hs : s < n) (fl : Flow n L s t k F)
    (no : ¬ ∃ r, FromTo s t r ∧ r.Nodup ∧ (∀ x ∈ r, x < n) ∧ ∀ p ∈ steps r, resid L F p.1 p.2 = true) : IsMax n L s t k := by
  refine isMax_of hs fl (S := fun x => decide (∃ r, FromTo s x r ∧ (∀ y ∈ r, y < n) ∧ ∀ p ∈ steps r, resid L F p.1 p.2 = true)) ?_ ?_ ?_
  · exact decide_eq_true ⟨[s], .one, by simpa using hs, by simp [steps]⟩
  · refine decide_eq_false fun ⟨r, a, lt, st⟩ => no ?_
    obtain ⟨q, b1, b2, b3, _, b5⟩ := simple_of (fun _ _ => 0) a
    exact ⟨q, b1, b2, fun x hx => lt x (b5 x hx), fun p hp => st p (b3 p hp)⟩
  · intro u v hu hv h1 h2
    obtain ⟨r, a, lt, st⟩ := of_decide_eq_true h1
    refine decide_eq_true ⟨r ++ [v], a.snoc, ?_, ?_⟩
    · intro y hy
      rcases List.mem_append.mp hy with h | h
      · exact lt y h
      · rw [List.mem_singleton.mp h]; exact hv
    · intro p hp
      rcases steps_snoc r u v a.lt p hp with h | h
      · exact st p h
      · rw [h]; exact h2
theorem most_max {n : Nat} {l : List (Nat × Nat)} {s t : Nat} (hs : s < n) (hst : s ≠ t) : ∀ {f : Nat} {k : Int} {used : List (Nat × Nat)}, Flow n (relOf l) s t k (relOf used) → (n : Int) ≤ f + k →
    IsMax n (relOf l) s t (k + (most n l s t f used : Nat))
  | 0, k, used, fl, hf => by
    have := flow_lt_n hs hst fl
    lia
  | f + 1, k, used, fl, hf => by
    unfold most
    cases e : seek n l used t n [] s with
    | none =>
      show IsMax n (relOf l) s t (k + (0 : Nat))
      have : IsMax n (relOf l) s t k := by
        refine stuck_max hs fl ?_
        intro ⟨r, a, nd, lt, st⟩
        obtain ⟨r', er⟩ := a.shape
        subst er
        have hl := nodup_le n _ nd lt
        have := seek_isSome (n := n) (l := l) (used := used) (t := t) (f := n) (seen := []) a nd (fun x hx => ⟨lt x (List.mem_cons_of_mem _ hx), fun hm => by
          have : x = s := by simpa using hm
          subst this
          exact (List.nodup_cons.mp nd).1 hx⟩) (fun p hp => st p hp) (by lia)
        rw [e] at this
        cases this
      simpa using this
    | some r =>
      obtain ⟨a, b, c, d⟩ := seek_some e
      obtain ⟨r', er⟩ := a.shape
      subst er
      have fl' := fl.next a b (fun x hx => by
        rcases List.mem_cons.mp hx with h | h
        · rw [h]; exact hs
        · exact (c x h).1) (fun p hp => d p hp)
      have ih := most_max hs hst (f := f) fl' (by lia)
      show IsMax n (relOf l) s t (k + ((most n l s t f _ + 1 : Nat) : Int))
      have e2 : k + ((most n l s t f ((steps (s :: r')).foldl turn used) + 1 : Nat) : Int) = k + 1 + (most n l s t f ((steps (s :: r')).foldl turn used) : Nat) := by lia
      rw [e2]
      exact ih
theorem mostOf_max {n : Nat} {l : List (Nat × Nat)} {s t : Nat} (hs : s < n) (hst : s ≠ t) : IsMax n (relOf l) s t (mostOf n l s t : Nat) := by
  have h := most_max hs hst (l := l) (f := n) (k := 0) (used := []) (flow_zero n _ s t) (by lia)
  rw [Int.zero_add] at h
  exact h
end WM
end
namespace WM
open WayNet WaySpec
structure WF (g : Net) : Prop where
  n1 : 1 ≤ g.n
  n8 : g.n ≤ 8
  op : g.opened.length = g.n
  arcs : ∀ x ∈ g.arcs, x.a < g.n ∧ x.b < g.n ∧ x.a ≠ x.b ∧ x.len ≤ 65535
  srt : g.arcs.Pairwise (fun x y => key x < key y)
theorem key_inj {x y : Arc} (hx : x.b < 8) (hy : y.b < 8) (h : key x = key y) : x.a = y.a ∧ x.b = y.b := by
  unfold key NODES at h
  lia
theorem WF.same {g : Net} (w : WF g) {x y : Arc} (hx : x ∈ g.arcs) (hy : y ∈ g.arcs) (h : key x = key y) : x = y := by
  obtain ⟨i, hi, ei⟩ := List.mem_iff_getElem.mp hx
  obtain ⟨j, hj, ej⟩ := List.mem_iff_getElem.mp hy
  have p := List.pairwise_iff_getElem.mp w.srt
  rcases Nat.lt_trichotomy i j with q | q | q
  · have := p i j hi hj q
    rw [ei, ej, h] at this
    lia
  · subst q; rw [← ei, ← ej]
  · have := p j i hj hi q
    rw [ei, ej, h] at this
    lia
theorem arc_some {g : Net} {a b : Nat} {x : Arc} (h : g.arc a b = some x) : x ∈ g.arcs ∧ x.a = a ∧ x.b = b := by
  unfold Net.arc at h
  have h1 := List.find?_some h
  have h2 := List.mem_of_find?_eq_some h
  simp only [Bool.and_eq_true, beq_iff_eq] at h1
  exact ⟨h2, h1⟩
theorem WF.arc_of {g : Net} (w : WF g) {x : Arc} (h : x ∈ g.arcs) : g.arc x.a x.b = some x := by
  cases e : g.arc x.a x.b with
  | none =>
    unfold Net.arc at e
    have := List.find?_eq_none.mp e x h
    simp at this
  | some y =>
    obtain ⟨h1, h2, h3⟩ := arc_some e
    have : y = x := w.same h1 h (by unfold key; rw [h2, h3])
    rw [this]
theorem WF.arc_iff {g : Net} (w : WF g) {a b : Nat} {x : Arc} : g.arc a b = some x ↔ x ∈ g.arcs ∧ x.a = a ∧ x.b = b :=
  ⟨arc_some, fun ⟨h1, h2, h3⟩ => by rw [← h2, ← h3]; exact w.arc_of h1⟩
theorem isOpen_lt {g : Net} (w : WF g) {v : Nat} (h : g.isOpen v = true) : v < g.n := by
  unfold Net.isOpen at h
  rw [← w.op]
  apply Decidable.byContradiction
  intro q
  rw [List.getD_eq_getElem?_getD, List.getElem?_eq_none (by lia)] at h
  cases h
noncomputable def lenOf (g : Net) (a b : Nat) : Nat := ((g.arc a b).map fun (x : Arc) => x.len).getD 0
theorem length_cost (g : Net) : ∀ l : List Nat, g.length l = cost (lenOf g) l
  | [] => rfl
  | [a] => rfl
  | a :: b :: l => by
    show _ + g.length (b :: l) = _ + cost (lenOf g) (b :: l)
    rw [length_cost g (b :: l)]; rfl
theorem noneTwice_iff : ∀ l : List Nat, noneTwice l = true ↔ l.Nodup
  | [] => by simp [noneTwice]
  | a :: l => by
    simp only [noneTwice, Bool.and_eq_true, List.nodup_cons, noneTwice_iff l]
    simp
structure IsWay (g : Net) (l : List Nat) : Prop where
  ne : l ≠ []
  op : ∀ v ∈ l, g.isOpen v = true
  nd : l.Nodup
  st : ∀ p ∈ steps l, (g.arc p.1 p.2).isSome = true
theorem isWay_iff (g : Net) (l : List Nat) : g.isWay l = true ↔ IsWay g l := by
  unfold Net.isWay
  simp only [Bool.and_eq_true, noneTwice_iff, List.all_eq_true]
  constructor
  · rintro ⟨h1, h2, h3, h4⟩
    exact ⟨fun e => by subst e; simp at h1, h2, h3, h4⟩
  · rintro ⟨h1, h2, h3, h4⟩
    refine ⟨?_, h2, h3, h4⟩
    cases l with
    | nil => exact absurd rfl h1
    | cons => rfl
theorem rows_iff {g : Net} (w : WF g) {t : Nat} : ∀ {f : Nat} {seen : List Nat} {v : Nat} {l : List Nat}, l ∈ g.rows t f seen v ↔
    FromTo v t l ∧ l.Nodup ∧ (∀ x ∈ l.tail, g.isOpen x = true ∧ x ∉ v :: seen) ∧ (∀ p ∈ steps l, (g.arc p.1 p.2).isSome = true) ∧ l.length ≤ f + 1
  | 0, seen, v, l => by
    unfold Net.rows
    constructor
    · intro h
      by_cases e : v = t
      · rw [if_pos e] at h
        have := List.mem_singleton.mp h
        subst this; subst e
        exact ⟨.one, by simp, by simp, by simp [steps], by simp⟩
      · rw [if_neg e] at h; cases h
    · rintro ⟨a, b, c, d, e⟩
      obtain ⟨r, er⟩ := a.shape
      subst er
      have : r = [] := by
        cases r with
        | nil => rfl
        | cons y r => simp at e
      subst this
      have : v = t := by simpa using a.lt
      rw [if_pos this]
      simp
  | f + 1, seen, v, l => by
    unfold Net.rows
    by_cases e : v = t
    · rw [if_pos e]
      constructor
      · intro h
        have := List.mem_singleton.mp h
        subst this; subst e
        exact ⟨.one, by simp, by simp, by simp [steps], by simp⟩
      · rintro ⟨a, b, c, d, hl⟩
        obtain ⟨r, er⟩ := a.shape
        subst er
        cases r with
        | nil => simp
        | cons y r =>
          exfalso
          have := a.tail.lt
          have : t ∈ y :: r := List.mem_of_getLast? this
          rw [← e] at this
          exact (List.nodup_cons.mp b).1 this
    · rw [if_neg e]
      simp only [List.mem_flatMap, List.mem_map, List.mem_filter]
      constructor
      · rintro ⟨x, ⟨hx, hc⟩, r, hr, rfl⟩
        obtain ⟨a, b, c, d, hl⟩ := (rows_iff w).mp hr
        obtain ⟨r', er⟩ := a.shape
        subst er
        simp only [Bool.and_eq_true, beq_iff_eq, Bool.not_eq_true', ] at hc
        have hns : x.b ∉ v :: seen := fun hm => by
          rw [List.contains_iff_mem.mpr hm] at hc
          exact absurd hc.2.2 (by decide)
        have all : ∀ y ∈ x.b :: r', g.isOpen y = true ∧ y ∉ v :: seen := by
          intro y hy
          rcases List.mem_cons.mp hy with q | q
          · subst q; exact ⟨hc.2.1, hns⟩
          · have := c y q
            exact ⟨this.1, fun hm => this.2 (List.mem_cons_of_mem _ hm)⟩
        refine ⟨a.cons, List.nodup_cons.mpr ⟨fun hm => (all v hm).2 List.mem_cons_self, b⟩, all, ?_, by simpa using hl⟩
        intro p hp
        have hp' : p ∈ (v, x.b) :: steps (x.b :: r') := hp
        rcases List.mem_cons.mp hp' with q | q
        · subst q
          show (g.arc v x.b).isSome = true
          rw [← hc.1, w.arc_of hx]; rfl
        · exact d p q
      · rintro ⟨a, b, c, d, hl⟩
        obtain ⟨r, er⟩ := a.shape
        subst er
        cases r with
        | nil =>
          have : v = t := by simpa using a.lt
          exact absurd this e
        | cons y r =>
          have h0 := d (v, y) (by simp [steps])
          obtain ⟨x, hx⟩ := Option.isSome_iff_exists.mp h0
          obtain ⟨h1, h2, h3⟩ := arc_some hx
          have hy := c y (by simp)
          dsimp only at h2 h3
          subst h3
          have nd' := List.nodup_cons.mp b
          refine ⟨x, ⟨h1, ?_⟩, x.b :: r, (rows_iff w).mpr ⟨a.tail, nd'.2, ?_, fun p hp => d p (List.mem_cons_of_mem _ hp), by simpa using hl⟩, rfl⟩
          · simp only [Bool.and_eq_true, beq_iff_eq, Bool.not_eq_true']
            refine ⟨h2, hy.1, ?_⟩
            cases hb : (v :: seen).contains x.b with
            | false => rfl
            | true => exact absurd (List.contains_iff_mem.mp hb) hy.2
          · intro z hz
            have hz' : z ∈ r := hz
            have hz2 := c z (by simp [hz'])
            refine ⟨hz2.1, fun hm => ?_⟩
            rcases List.mem_cons.mp hm with q | q
            · subst q
              exact (List.nodup_cons.mp nd'.2).1 hz'
            · exact hz2.2 q
theorem rows_nodup {g : Net} (w : WF g) {t : Nat} : ∀ {f : Nat} {seen : List Nat} {v : Nat}, (g.rows t f seen v).Nodup
  | 0, seen, v => by
    unfold Net.rows
    split <;> simp
  | f + 1, seen, v => by
    unfold Net.rows
    split
    · simp
    · unfold List.Nodup
      rw [List.pairwise_flatMap]
      constructor
      · intro x _
        have := rows_nodup w (t := t) (f := f) (seen := v :: seen) (v := x.b)
        rw [List.pairwise_map]
        exact List.Pairwise.imp (fun h e => h (List.cons.inj e).2) this
      · have hp : (g.arcs.filter fun (x : Arc) => x.a == v && (g.isOpen x.b && !(v :: seen).contains x.b)).Pairwise (fun x y => key x < key y) := w.srt.sublist List.filter_sublist
        refine List.Pairwise.imp_of_mem ?_ hp
        intro x y hx hy hk p hp' q hq e
        subst e
        obtain ⟨p1, h1, e1⟩ := List.mem_map.mp hp'
        obtain ⟨q1, h2, e2⟩ := List.mem_map.mp hq
        have a1 := ((rows_iff w).mp h1).1
        have a2 := ((rows_iff w).mp h2).1
        have e3 : p1 = q1 := (List.cons.inj (e1.trans e2.symm)).2
        subst e3
        have eb : x.b = y.b := Option.some.inj (a1.hd.symm.trans a2.hd)
        have fx := (List.mem_filter.mp hx).2
        have fy := (List.mem_filter.mp hy).2
        simp only [Bool.and_eq_true, beq_iff_eq] at fx fy
        unfold key at hk
        rw [fx.1, fy.1, eb] at hk
        lia
theorem lesser_lt : ∀ (l r : List Nat), (¬ ∃ x p, r = l ++ x :: p) → lesser l r = decide (l < r)
  | [], [], _ => by simp [lesser]
  | [], b :: r, h => absurd ⟨b, r, rfl⟩ h
  | a :: l, [], _ => by simp [lesser]
  | a :: l, b :: r, h => by
    unfold lesser
    have e : decide (a :: l < b :: r) = (decide (a < b) || (decide (a = b) && decide (l < r))) := by
      rw [Bool.eq_iff_iff]
      simp [List.cons_lt_cons_iff]
    rw [e]
    by_cases q : a = b
    · subst q
      rw [lesser_lt l r fun ⟨x, p, z⟩ => h ⟨x, p, by rw [z]; rfl⟩]
      simp
    · simp [q]
theorem no_prefix {s t : Nat} {l r : List Nat} (hl : FromTo s t l) (hr : FromTo s t r) (nd : r.Nodup) : ¬ ∃ x p, r = l ++ x :: p := by
  rintro ⟨x, p, e⟩
  have h1 : t ∈ l := List.mem_of_getLast? hl.lt
  have h2 : t ∈ x :: p := by
    have := hr.lt
    rw [e, List.getLast?_append] at this
    have hx : (x :: p).getLast? = some t := by
      cases q : (x :: p).getLast? with
      | none => simp at q
      | some z => rw [q] at this; simpa using this
    exact List.mem_of_getLast? hx
  subst e
  exact (List.nodup_append.mp nd).2.2 t h1 t h2 rfl
noncomputable def Bef (c : List Nat → Nat) (l r : List Nat) : Prop := c l < c r ∨ (c l = c r ∧ l < r)
noncomputable def leB (x y : Nat × List Nat) : Bool := decide (x.1 < y.1 ∨ (x.1 = y.1 ∧ x.2 ≤ y.2))
theorem leB_trans (a b c : Nat × List Nat) (h1 : leB a b = true) (h2 : leB b c = true) : leB a c = true := by
  unfold leB at *
  have h1 := of_decide_eq_true h1
  have h2 := of_decide_eq_true h2
  refine decide_eq_true ?_
  rcases h1 with h1 | ⟨h1, h1'⟩ <;> rcases h2 with h2 | ⟨h2, h2'⟩
  · exact .inl (by lia)
  · exact .inl (by lia)
  · exact .inl (by lia)
  · exact .inr ⟨by lia, List.le_trans h1' h2'⟩
theorem leB_total (a b : Nat × List Nat) : (leB a b || leB b a) = true := by
  unfold leB
  rw [Bool.or_eq_true, decide_eq_true_iff, decide_eq_true_iff]
  rcases Nat.lt_trichotomy a.1 b.1 with h | h | h
  · exact .inl (.inl h)
  · rcases List.le_total a.2 b.2 with q | q
    · exact .inl (.inr ⟨h, q⟩)
    · exact .inr (.inr ⟨h.symm, q⟩)
  · exact .inr (.inl h)
structure Path (g : Net) (s t : Nat) (l : List Nat) : Prop where
  ft : FromTo s t l
  way : IsWay g l
theorem Path.lt_n {g : Net} (w : WF g) {s t : Nat} {l : List Nat} (p : Path g s t l) : ∀ x ∈ l, x < g.n := fun x hx => isOpen_lt w (p.way.op x hx)
theorem Path.opens {g : Net} {s t : Nat} {l : List Nat} (p : Path g s t l) : g.isOpen s = true ∧ g.isOpen t = true :=
  ⟨p.way.op s (by obtain ⟨r, e⟩ := p.ft.shape; rw [e]; exact List.mem_cons_self), p.way.op t (List.mem_of_getLast? p.ft.lt)⟩
theorem rows_path {g : Net} (w : WF g) {s t : Nat} (hs : g.isOpen s = true) {l : List Nat} : l ∈ g.rows t g.n [] s ↔ Path g s t l := by
  rw [rows_iff w]
  constructor
  · rintro ⟨a, b, c, d, e⟩
    obtain ⟨r, er⟩ := a.shape
    subst er
    refine ⟨a, by simp, ?_, b, d⟩
    intro v hv
    rcases List.mem_cons.mp hv with q | q
    · rw [q]; exact hs
    · exact (c v q).1
  · intro p
    have hl := nodup_le g.n _ p.way.nd (p.lt_n w)
    obtain ⟨r, er⟩ := p.ft.shape
    subst er
    refine ⟨p.ft, p.way.nd, ?_, p.way.st, by lia⟩
    intro x hx
    refine ⟨p.way.op x (List.mem_cons_of_mem _ hx), fun hm => ?_⟩
    have : x = s := by simpa using hm
    subst this
    exact (List.nodup_cons.mp p.way.nd).1 hx
theorem ways_eq {g : Net} (w : WF g) {s t : Nat} (hs : g.isOpen s = true) (ht : g.isOpen t = true) :
    g.ways s t = (((g.rows t g.n [] s).map fun l => (g.length l, l)).mergeSort leB).map (·.2) := by
  unfold Net.ways
  rw [if_pos ⟨hs, ht⟩]
  congr 1
  have h := List.map_mergeSort (f := id) (r := fun (x y : Nat × List Nat) => !(decide (y.1 < x.1) || (y.1 == x.1 && lesser y.2 x.2))) (s := leB) (l := (g.rows t g.n [] s).map fun l => (g.length l, l)) ?_
  · simpa using h
  · intro x hx y hy
    obtain ⟨l, hl, rfl⟩ := List.mem_map.mp hx
    obtain ⟨r, hr, rfl⟩ := List.mem_map.mp hy
    have pl := (rows_path w hs).mp hl
    have pr := (rows_path w hs).mp hr
    dsimp only [id]
    rw [lesser_lt _ _ (no_prefix pr.ft pl.ft pl.way.nd)]
    unfold leB
    dsimp only
    rw [Bool.eq_iff_iff]
    simp only [Bool.not_eq_true', Bool.or_eq_false_iff, decide_eq_false_iff_not, decide_eq_true_iff, Bool.and_eq_false_iff, beq_eq_false_iff_ne]
    have hle : ¬ r < l ↔ l ≤ r := Iff.rfl
    rw [hle]
    constructor
    · rintro ⟨h1, h2⟩
      rcases h2 with h2 | h2
      · exact .inl (by lia)
      · by_cases q : g.length l = g.length r
        · exact .inr ⟨q, h2⟩
        · exact .inl (by lia)
    · rintro (h | ⟨h1, h2⟩)
      · exact ⟨by lia, .inl (by lia)⟩
      · exact ⟨by lia, .inr h2⟩
theorem mem_ways {g : Net} (w : WF g) {s t : Nat} {l : List Nat} : l ∈ g.ways s t ↔ Path g s t l := by
  by_cases h : g.isOpen s = true ∧ g.isOpen t = true
  · rw [ways_eq w h.1 h.2, List.mem_map]
    constructor
    · rintro ⟨x, hx, rfl⟩
      have := (List.mergeSort_perm _ _).mem_iff.mp hx
      obtain ⟨l, hl, rfl⟩ := List.mem_map.mp this
      exact (rows_path w h.1).mp hl
    · intro p
      refine ⟨(g.length l, l), (List.mergeSort_perm _ _).mem_iff.mpr (List.mem_map.mpr ⟨l, (rows_path w h.1).mpr p, rfl⟩), rfl⟩
  · constructor
    · intro hl
      unfold Net.ways at hl
      rw [if_neg h] at hl
      cases hl
    · intro p
      exact absurd p.opens h
theorem ways_perm {g : Net} (w : WF g) {s t : Nat} (hs : g.isOpen s = true) (ht : g.isOpen t = true) : (g.ways s t).Perm (g.rows t g.n [] s) := by
  rw [ways_eq w hs ht]
  have := (List.mergeSort_perm ((g.rows t g.n [] s).map fun l => (g.length l, l)) leB).map (·.2)
  rw [List.map_map] at this
  have e : ((fun x : Nat × List Nat => x.2) ∘ fun l => (g.length l, l)) = id := rfl
  rw [e, List.map_id] at this
  exact this
theorem ways_nodup {g : Net} (w : WF g) {s t : Nat} : (g.ways s t).Nodup := by
  by_cases h : g.isOpen s = true ∧ g.isOpen t = true
  · exact (ways_perm w h.1 h.2).nodup_iff.mpr (rows_nodup w)
  · unfold Net.ways
    rw [if_neg h]
    exact List.nodup_nil
theorem ways_sorted {g : Net} (w : WF g) {s t : Nat} : (g.ways s t).Pairwise (Bef g.length) := by
  by_cases h : g.isOpen s = true ∧ g.isOpen t = true
  · have nd := ways_nodup w (s := s) (t := t)
    rw [ways_eq w h.1 h.2] at nd ⊢
    have srt := List.pairwise_mergeSort leB_trans leB_total ((g.rows t g.n [] s).map fun l => (g.length l, l))
    rw [List.pairwise_map]
    have nd' := List.pairwise_map.mp nd
    refine List.Pairwise.imp_of_mem ?_ (srt.and nd')
    intro x y hx hy hxy
    obtain ⟨h1, h2⟩ := hxy
    have ex : g.length x.2 = x.1 := by
      have := (List.mergeSort_perm _ _).mem_iff.mp hx
      obtain ⟨l, hl, rfl⟩ := List.mem_map.mp this
      rfl
    have ey : g.length y.2 = y.1 := by
      have := (List.mergeSort_perm _ _).mem_iff.mp hy
      obtain ⟨l, hl, rfl⟩ := List.mem_map.mp this
      rfl
    have h1 := of_decide_eq_true h1
    unfold Bef
    rw [ex, ey]
    rcases h1 with q | ⟨q1, q2⟩
    · exact .inl q
    · refine .inr ⟨q1, ?_⟩
      apply Decidable.byContradiction
      intro z
      exact h2 (List.le_antisymm q2 z)
  · unfold Net.ways
    rw [if_neg h]
    exact List.Pairwise.nil
theorem Bef.irr {c : List Nat → Nat} {l r : List Nat} (h : Bef c l r) (q : Bef c r l) : l = r := by
  rcases h with h | ⟨h1, h2⟩ <;> rcases q with q | ⟨q1, q2⟩
  · lia
  · lia
  · lia
  · exact absurd h2 (List.lt_asymm q2)
theorem Bef.nodup {c : List Nat → Nat} {L : List (List Nat)} (h : L.Pairwise (Bef c)) : L.Nodup := by
  refine List.Pairwise.imp ?_ h
  intro a b hab e
  subst e
  rcases hab with q | ⟨_, q⟩
  · lia
  · exact absurd q (List.lt_irrefl a)
theorem ways_unique {g : Net} (w : WF g) {s t : Nat} {L : List (List Nat)} (hm : ∀ l, l ∈ L ↔ Path g s t l) (hs : L.Pairwise (Bef g.length)) : L = g.ways s t := by
  refine List.Perm.eq_of_pairwise (le := Bef g.length) (fun a b _ _ h q => h.irr q) hs (ways_sorted w) ?_
  exact (List.perm_ext_iff_of_nodup (Bef.nodup hs) (ways_nodup w)).mpr fun l => by rw [hm, mem_ways w]
theorem withArc_mem {l : List Arc} {x y : Arc} : y ∈ withArc l x ↔ y = x ∨ (y ∈ l ∧ key y ≠ key x) := by
  unfold withArc
  simp only [List.mem_append, List.mem_cons, List.mem_filter, decide_eq_true_eq]
  constructor
  · rintro (⟨h, q⟩ | h | ⟨h, q⟩)
    · exact .inr ⟨h, by lia⟩
    · exact .inl h
    · exact .inr ⟨h, by lia⟩
  · rintro (h | ⟨h, q⟩)
    · exact .inr (.inl h)
    · rcases Nat.lt_or_gt_of_ne q with z | z
      · exact .inl ⟨h, z⟩
      · exact .inr (.inr ⟨h, z⟩)
theorem withArc_srt {l : List Arc} (x : Arc) (h : l.Pairwise (fun x y => key x < key y)) : (withArc l x).Pairwise (fun x y => key x < key y) := by
  unfold withArc
  rw [List.pairwise_append]
  refine ⟨h.sublist List.filter_sublist, ?_, ?_⟩
  · rw [List.pairwise_cons]
    refine ⟨fun y hy => ?_, h.sublist List.filter_sublist⟩
    have := (List.mem_filter.mp hy).2
    simpa using this
  · intro a ha b hb
    have h1 : key a < key x := by simpa using (List.mem_filter.mp ha).2
    rcases List.mem_cons.mp hb with q | q
    · rw [q]; exact h1
    · have h2 : key x < key b := by simpa using (List.mem_filter.mp q).2
      lia
theorem WF.start : WF WaySpec.start.net := ⟨by decide, by decide, rfl, fun x hx => (by cases hx), List.Pairwise.nil⟩
theorem WF.netOf {n : Nat} (h1 : 1 ≤ n) (h8 : n ≤ 8) : WF (WaySpec.netOf n) := ⟨h1, h8, by simp [WaySpec.netOf], fun x hx => (by cases hx), List.Pairwise.nil⟩
theorem WF.put {g : Net} (w : WF g) {a b len : Nat} (ha : a < g.n) (hb : b < g.n) (hab : a ≠ b) (hl : len ≤ 65535) : WF ⟨g.n, withArc g.arcs ⟨a, b, len⟩, g.opened⟩ := ⟨w.n1, w.n8, w.op, fun x hx => by
  rcases withArc_mem.mp hx with q | q
  · subst q; exact ⟨ha, hb, hab, hl⟩
  · exact w.arcs x q.1, withArc_srt _ w.srt⟩
theorem WF.cut {g : Net} (w : WF g) (a b : Nat) : WF ⟨g.n, g.arcs.filter (fun (y : Arc) => !(y.a == a && y.b == b)), g.opened⟩ :=
  ⟨w.n1, w.n8, w.op, fun x hx => w.arcs x (List.mem_filter.mp hx).1, w.srt.sublist List.filter_sublist⟩
theorem WF.close {g : Net} (w : WF g) (v : Nat) (c : Bool) : WF ⟨g.n, g.arcs, g.opened.set v c⟩ :=
  ⟨w.n1, w.n8, by rw [List.length_set]; exact w.op, w.arcs, w.srt⟩
theorem arc_put {g : Net} (w : WF g) {a b len : Nat} (ha : a < g.n) (hb : b < g.n) (hab : a ≠ b) (hl : len ≤ 65535) (c d : Nat) :
    (⟨g.n, withArc g.arcs ⟨a, b, len⟩, g.opened⟩ : Net).arc c d = if c = a ∧ d = b then some ⟨a, b, len⟩ else g.arc c d := by
  have w' := w.put ha hb hab hl
  by_cases h : c = a ∧ d = b
  · rw [if_pos h, w'.arc_iff]
    exact ⟨withArc_mem.mpr (.inl rfl), h.1.symm, h.2.symm⟩
  · rw [if_neg h]
    cases e : g.arc c d with
    | some x =>
      obtain ⟨h1, h2, h3⟩ := arc_some e
      rw [w'.arc_iff]
      refine ⟨withArc_mem.mpr (.inr ⟨h1, fun q => h ?_⟩), h2, h3⟩
      have bx := (w.arcs x h1).2.1
      have := key_inj (x := x) (y := ⟨a, b, len⟩) (by have := w.n8; lia) (by show b < 8; have := w.n8; lia) q
      rw [← h2, ← h3]; exact this
    | none =>
      cases e' : (⟨g.n, withArc g.arcs ⟨a, b, len⟩, g.opened⟩ : Net).arc c d with
      | none => rfl
      | some y =>
        exfalso
        obtain ⟨h1, h2, h3⟩ := arc_some e'
        rcases withArc_mem.mp h1 with q | q
        · subst q; exact h ⟨h2.symm, h3.symm⟩
        · have := w.arc_of q.1
          rw [h2, h3, e] at this
          cases this
theorem arc_cut {g : Net} (w : WF g) (a b c d : Nat) : (⟨g.n, g.arcs.filter (fun (y : Arc) => !(y.a == a && y.b == b)), g.opened⟩ : Net).arc c d = if c = a ∧ d = b then none else g.arc c d := by
  have w' := w.cut a b
  by_cases h : c = a ∧ d = b
  · rw [if_pos h]
    cases e : (⟨g.n, g.arcs.filter (fun (y : Arc) => !(y.a == a && y.b == b)), g.opened⟩ : Net).arc c d with
    | none => rfl
    | some y =>
      exfalso
      obtain ⟨h1, h2, h3⟩ := arc_some e
      have := (List.mem_filter.mp h1).2
      simp [h2, h3, h] at this
  · rw [if_neg h]
    cases e : g.arc c d with
    | some x =>
      obtain ⟨h1, h2, h3⟩ := arc_some e
      rw [w'.arc_iff]
      refine ⟨List.mem_filter.mpr ⟨h1, ?_⟩, h2, h3⟩
      rw [h2, h3]
      cases hb : (c == a && d == b) with
      | false => rfl
      | true =>
        exfalso
        simp only [Bool.and_eq_true, beq_iff_eq] at hb
        exact h hb
    | none =>
      cases e' : (⟨g.n, g.arcs.filter (fun (y : Arc) => !(y.a == a && y.b == b)), g.opened⟩ : Net).arc c d with
      | none => rfl
      | some y =>
        exfalso
        obtain ⟨h1, h2, h3⟩ := arc_some e'
        have := w.arc_of (List.mem_filter.mp h1).1
        rw [h2, h3, e] at this
        cases this
structure Walk (g : Net) (s t : Nat) (l : List Nat) : Prop where
  ft : FromTo s t l
  op : ∀ v ∈ l, g.isOpen v = true
  st : ∀ p ∈ steps l, (g.arc p.1 p.2).isSome = true
theorem Path.walk {g : Net} {s t : Nat} {l : List Nat} (p : Path g s t l) : Walk g s t l := ⟨p.ft, p.way.op, p.way.st⟩
theorem Walk.path {g : Net} {s t : Nat} {l : List Nat} (p : Walk g s t l) : ∃ r, Path g s t r ∧ g.length r ≤ g.length l := by
  obtain ⟨r, a, b, c, d, e⟩ := simple_of (lenOf g) p.ft
  refine ⟨r, ⟨a, a.ne, fun v hv => p.op v (e v hv), b, fun q hq => p.st q (c q hq)⟩, ?_⟩
  rw [length_cost, length_cost]; exact d
theorem first_least {g : Net} (w : WF g) {s t : Nat} {l r : List Nat} {L : List (List Nat)} (e : g.ways s t = l :: L) (p : Path g s t r) : g.length l ≤ g.length r := by
  have hm := (mem_ways w).mpr p
  have hs := ways_sorted w (s := s) (t := t)
  rw [e] at hm hs
  rcases List.mem_cons.mp hm with q | q
  · rw [q]; exact Nat.le_refl _
  · rcases (List.pairwise_cons.mp hs).1 r q with z | z
    · lia
    · lia
theorem dist_spec {g : Net} (w : WF g) {s t : Nat} {D : Option Nat} (sound : ∀ d, D = some d → ∃ r, Walk g s t r ∧ g.length r = d) (compl : ∀ l, Path g s t l → ∃ d, D = some d ∧ d ≤ g.length l) :
    D = (g.ways s t).head?.map g.length := by
  cases e : g.ways s t with
  | nil =>
    cases hD : D with
    | none => rfl
    | some d =>
      obtain ⟨r, hr, _⟩ := sound d hD
      obtain ⟨p, hp, _⟩ := hr.path
      have := (mem_ways w).mpr hp
      rw [e] at this
      cases this
  | cons l L =>
    have hl : Path g s t l := (mem_ways w).mp (by rw [e]; exact List.mem_cons_self)
    obtain ⟨d, hd, hle⟩ := compl l hl
    obtain ⟨r, hr, er⟩ := sound d hd
    obtain ⟨p, hp, hpl⟩ := hr.path
    have := first_least w e hp
    rw [hd]
    show some d = some (g.length l)
    congr 1
    lia
noncomputable def relax (g : Net) (D : Nat → Option Nat) (e : Nat × Nat) : Nat → Option Nat := match D e.1 with
  | none => D
  | some d => if g.isOpen e.2 = true then (match D e.2 with
    | none => fun v => if v = e.2 then some (d + lenOf g e.1 e.2) else D v
    | some d' => if d + lenOf g e.1 e.2 < d' then (fun v => if v = e.2 then some (d + lenOf g e.1 e.2) else D v) else D) else D
noncomputable def AtMost (D : Nat → Option Nat) (v c : Nat) : Prop := ∃ d, D v = some d ∧ d ≤ c
theorem relax_mono {g : Net} {D : Nat → Option Nat} (e : Nat × Nat) {v c : Nat} (h : AtMost D v c) : AtMost (relax g D e) v c := by
  obtain ⟨d, h1, h2⟩ := h
  unfold relax
  split
  · exact ⟨d, h1, h2⟩
  · split
    · split
      · rename_i d0 _ _ hn
        by_cases q : v = e.2
        · subst q; rw [h1] at hn; cases hn
        · exact ⟨d, (if_neg q).trans h1, h2⟩
      · rename_i d0 _ _ d' hn
        split
        · by_cases q : v = e.2
          · subst q
            rw [h1] at hn
            cases hn
            exact ⟨_, if_pos rfl, by lia⟩
          · exact ⟨d, (if_neg q).trans h1, h2⟩
        · exact ⟨d, h1, h2⟩
    · exact ⟨d, h1, h2⟩
theorem relax_at {g : Net} {D : Nat → Option Nat} {u v c : Nat} (h : AtMost D u c) (ho : g.isOpen v = true) : AtMost (relax g D (u, v)) v (c + lenOf g u v) := by
  obtain ⟨d, h1, h2⟩ := h
  unfold relax
  dsimp only
  rw [h1]
  dsimp only
  rw [if_pos ho]
  split
  · exact ⟨_, if_pos rfl, by lia⟩
  · rename_i d' hn
    split
    · exact ⟨_, if_pos rfl, by lia⟩
    · exact ⟨d', hn, by lia⟩
theorem fold_mono {g : Net} {v c : Nat} : ∀ (es : List (Nat × Nat)) {D : Nat → Option Nat}, AtMost D v c → AtMost (es.foldl (relax g) D) v c
  | [], _, h => h
  | e :: es, _, h => fold_mono es (relax_mono e h)
theorem fold_at {g : Net} {u v c : Nat} (ho : g.isOpen v = true) : ∀ (es : List (Nat × Nat)) {D : Nat → Option Nat}, AtMost D u c → (u, v) ∈ es → AtMost (es.foldl (relax g) D) v (c + lenOf g u v)
  | e :: es, D, h, hm => by
    rcases List.mem_cons.mp hm with q | q
    · subst q
      exact fold_mono es (relax_at h ho)
    · exact fold_at ho es (relax_mono e h) q
noncomputable def Sound (g : Net) (s : Nat) (D : Nat → Option Nat) : Prop := ∀ v d, D v = some d → ∃ r, Walk g s v r ∧ g.length r = d
theorem cost_snoc (c : Nat → Nat → Nat) : ∀ (l : List Nat) (a b : Nat), l.getLast? = some a → cost c (l ++ [b]) = cost c l + c a b
  | [], a, b, h => by cases h
  | [x], a, b, h => by
    have e : x = a := by simpa using h
    subst e
    simp [cost]
  | x :: y :: l, a, b, h => by
    have h' : (y :: l).getLast? = some a := by
      rw [List.getLast?_cons] at h
      rw [← h]
      cases e : (y :: l).getLast? with
      | none => simp at e
      | some z => rfl
    show c x y + cost c ((y :: l) ++ [b]) = c x y + cost c (y :: l) + c a b
    rw [cost_snoc c (y :: l) a b h']
    lia
theorem Walk.snoc {g : Net} {s u v : Nat} {l : List Nat} (h : Walk g s u l) (ho : g.isOpen v = true) (ha : (g.arc u v).isSome = true) : Walk g s v (l ++ [v]) ∧ g.length (l ++ [v]) = g.length l + lenOf g u v := by
  refine ⟨⟨h.ft.snoc, ?_, ?_⟩, ?_⟩
  · intro x hx
    rcases List.mem_append.mp hx with q | q
    · exact h.op x q
    · rw [List.mem_singleton.mp q]; exact ho
  · intro p hp
    rcases steps_snoc l u v h.ft.lt p hp with q | q
    · exact h.st p q
    · rw [q]; exact ha
  · rw [length_cost, length_cost, cost_snoc _ _ _ _ h.ft.lt]
theorem relax_sound {g : Net} {s : Nat} {D : Nat → Option Nat} (h : Sound g s D) (e : Nat × Nat) (ha : (g.arc e.1 e.2).isSome = true) : Sound g s (relax g D e) := by
  intro v d
  unfold relax
  have put : ∀ d0, D e.1 = some d0 → g.isOpen e.2 = true → (if v = e.2 then some (d0 + lenOf g e.1 e.2) else D v) = some d → ∃ r, Walk g s v r ∧ g.length r = d := by
    intro d0 h0 ho hd
    by_cases q : v = e.2
    · rw [if_pos q] at hd
      cases hd
      obtain ⟨r, hr, hl⟩ := h e.1 d0 h0
      obtain ⟨h1, h2⟩ := hr.snoc ho ha
      rw [q]
      exact ⟨_, h1, by rw [h2, hl]⟩
    · rw [if_neg q] at hd
      exact h v d hd
  cases h0 : D e.1 with
  | none => exact h v d
  | some d0 =>
    dsimp only
    by_cases ho : g.isOpen e.2 = true
    · rw [if_pos ho]
      cases h2 : D e.2 with
      | none => exact put d0 h0 ho
      | some d' =>
        dsimp only
        by_cases hc : d0 + lenOf g e.1 e.2 < d'
        · rw [if_pos hc]; exact put d0 h0 ho
        · rw [if_neg hc]; exact h v d
    · rw [if_neg ho]; exact h v d
theorem fold_sound {g : Net} {s : Nat} : ∀ (es : List (Nat × Nat)) {D : Nat → Option Nat}, Sound g s D → (∀ e ∈ es, (g.arc e.1 e.2).isSome = true) → Sound g s (es.foldl (relax g) D)
  | [], _, h, _ => h
  | e :: es, _, h, q => fold_sound es (relax_sound h e (q e List.mem_cons_self)) fun x hx => q x (List.mem_cons_of_mem _ hx)
noncomputable def Compl (g : Net) (s k : Nat) (D : Nat → Option Nat) : Prop := ∀ v r, Walk g s v r → r.length ≤ k + 1 → AtMost D v (g.length r)
theorem snoc_shape : ∀ (l : List Nat), l ≠ [] → ∃ p z, l = p ++ [z]
  | l, h => ⟨l.dropLast, l.getLast h, (List.dropLast_concat_getLast h).symm⟩
theorem steps_front : ∀ (l : List Nat) (b : Nat) (p : Nat × Nat), p ∈ steps l → p ∈ steps (l ++ [b])
  | [], b, p, h => by simp [steps] at h
  | [x], b, p, h => by simp [steps] at h
  | x :: y :: l, b, p, h => by
    show p ∈ (x, y) :: steps ((y :: l) ++ [b])
    rcases List.mem_cons.mp (show p ∈ (x, y) :: steps (y :: l) from h) with q | q
    · rw [q]; exact List.mem_cons_self
    · exact List.mem_cons_of_mem _ (steps_front (y :: l) b p q)
theorem steps_last : ∀ (l : List Nat) (a b : Nat), l.getLast? = some a → (a, b) ∈ steps (l ++ [b])
  | [], a, b, h => by cases h
  | [x], a, b, h => by
    have e : x = a := by simpa using h
    subst e; simp [steps]
  | x :: y :: l, a, b, h => by
    have h' : (y :: l).getLast? = some a := by
      rw [List.getLast?_cons] at h
      rw [← h]
      cases e : (y :: l).getLast? with
      | none => simp at e
      | some z => rfl
    show (a, b) ∈ (x, y) :: steps ((y :: l) ++ [b])
    exact List.mem_cons_of_mem _ (steps_last (y :: l) a b h')
theorem round_compl {g : Net} {s k : Nat} {D : Nat → Option Nat} {es : List (Nat × Nat)} (h : Compl g s k D) (he : ∀ a b, (g.arc a b).isSome = true → (a, b) ∈ es) : Compl g s (k + 1) (es.foldl (relax g) D) := by
  intro v r hw hl
  by_cases q : r.length ≤ k + 1
  · exact fold_mono es (h v r hw q)
  · obtain ⟨p, z, e⟩ := snoc_shape r hw.ft.ne
    subst e
    have ez : z = v := by
      have := hw.ft.lt
      simpa using this
    subst ez
    have hp : p ≠ [] := fun e => by subst e; simp at q
    have hlp : p.length ≤ k + 1 := by simpa using hl
    obtain ⟨p', u, e⟩ := snoc_shape p hp
    have hu : p.getLast? = some u := by rw [e]; simp
    have hwp : Walk g s u p := ⟨⟨by
      have := hw.ft.hd
      rw [List.head?_append] at this
      cases hq : p.head? with
      | none => simp at hq; exact absurd hq hp
      | some x => rw [hq] at this; simpa using this, hu⟩, fun x hx => hw.op x (List.mem_append_left _ hx), fun x hx => hw.st x (steps_front p z x hx)⟩
    have h1 := h u p hwp hlp
    have ha := hw.st (u, z) (steps_last p u z hu)
    have ho := hw.op z (by simp)
    have h2 := fold_at ho es h1 (he u z ha)
    have e2 : g.length (p ++ [z]) = g.length p + lenOf g u z := by
      rw [length_cost, length_cost, cost_snoc _ _ _ _ hu]
    rw [e2]
    exact h2
noncomputable def start0 (s : Nat) : Nat → Option Nat := fun v => if v = s then some 0 else none
theorem start_sound {g : Net} {s : Nat} (ho : g.isOpen s = true) : Sound g s (start0 s) := by
  intro v d h
  unfold start0 at h
  by_cases q : v = s
  · rw [if_pos q] at h
    cases h
    subst q
    exact ⟨[v], ⟨.one, by simpa using ho, by simp [steps]⟩, rfl⟩
  · rw [if_neg q] at h; cases h
theorem start_compl {g : Net} {s : Nat} : Compl g s 0 (start0 s) := by
  intro v r hw hl
  obtain ⟨r', e⟩ := hw.ft.shape
  subst e
  have : r' = [] := by
    cases r' with
    | nil => rfl
    | cons x r => simp at hl
  subst this
  have : s = v := by simpa using hw.ft.lt
  subst this
  exact ⟨0, by simp [start0], Nat.zero_le _⟩
noncomputable def rounds (g : Net) (es : List (Nat × Nat)) : Nat → (Nat → Option Nat) → Nat → Option Nat
  | 0, D => D
  | k + 1, D => es.foldl (relax g) (rounds g es k D)
theorem rounds_ok {g : Net} {s : Nat} {es : List (Nat × Nat)} (ho : g.isOpen s = true) (h1 : ∀ e ∈ es, (g.arc e.1 e.2).isSome = true) (h2 : ∀ a b, (g.arc a b).isSome = true → (a, b) ∈ es) :
    ∀ k, Sound g s (rounds g es k (start0 s)) ∧ Compl g s k (rounds g es k (start0 s))
  | 0 => ⟨start_sound ho, start_compl⟩
  | k + 1 => ⟨fold_sound es (rounds_ok ho h1 h2 k).1 h1, round_compl (rounds_ok ho h1 h2 k).2 h2⟩
theorem rounds_dist {g : Net} (w : WF g) {s t : Nat} {es : List (Nat × Nat)} (ho : g.isOpen s = true) (h1 : ∀ e ∈ es, (g.arc e.1 e.2).isSome = true) (h2 : ∀ a b, (g.arc a b).isSome = true → (a, b) ∈ es) :
    rounds g es g.n (start0 s) t = (g.ways s t).head?.map g.length := by
  obtain ⟨a, b⟩ := rounds_ok ho h1 h2 g.n
  refine dist_spec w (a t) fun l hl => ?_
  have := nodup_le g.n _ hl.way.nd (hl.lt_n w)
  exact b t l hl.walk (by lia)
noncomputable def leaves (S : Nat → Bool) (p : Nat × Nat) : Bool := S p.1 && !S p.2
noncomputable def capL (l : List (Nat × Nat)) (S : Nat → Bool) : Nat := (l.filter (leaves S)).length
theorem sum2_zero (n : Nat) : sumN n (fun _ => sumN n fun _ => 0) = 0 := by
  rw [zV (g := fun _ => 0) (fun i _ => sumN_zero n), sumN_zero]
theorem sum2_add (n : Nat) (f g : Nat → Nat → Int) : sumN n (fun x => sumN n fun y => f x y + g x y) = sumN n (fun x => sumN n fun y => f x y) + sumN n (fun x => sumN n fun y => g x y) := by
  rw [← sumN_add]
  exact zV fun x _ => sumN_add _ _ n
theorem sum2_one (n : Nat) (p : Nat × Nat) (h1 : p.1 < n) (h2 : p.2 < n) (c : Int) : sumN n (fun x => sumN n fun y => if (x, y) = p then c else 0) = c := by
  rw [sumN_single _ p.1 n ?_, if_pos h1, sumN_single _ p.2 n ?_, if_pos h2, if_pos rfl]
  · intro i _ hi
    exact if_neg fun e => hi (by rw [← e])
  · intro i _ hi
    rw [zV (g := fun _ => 0) (fun j _ => if_neg fun e => hi (by rw [← e])), sumN_zero]
theorem capL_eq {n : Nat} (S : Nat → Bool) : ∀ {l : List (Nat × Nat)}, l.Nodup → (∀ p ∈ l, p.1 < n ∧ p.2 < n) → cap n (relOf l) (out S) = capL l S
  | [], _, _ => by
    unfold cap relOf
    have : ∀ x y : Nat, bi (([] : List (Nat × Nat)).contains (x, y) && out S x y) = 0 := fun x y => by simp [bi]
    rw [zV (g := fun _ => sumN n fun _ => 0) (fun x _ => zV fun y _ => this x y), sum2_zero]
    rfl
  | p :: l, nd, lt => by
    have nd' := List.nodup_cons.mp nd
    have ih := capL_eq S nd'.2 fun q hq => lt q (List.mem_cons_of_mem _ hq)
    have hp := lt p List.mem_cons_self
    have e : ∀ x y : Nat, bi (relOf (p :: l) x y && out S x y) = (if (x, y) = p then bi (leaves S p) else 0) + bi (relOf l x y && out S x y) := by
      intro x y
      unfold relOf
      by_cases q : (x, y) = p
      · rw [if_pos q]
        have h1 : (p :: l).contains (x, y) = true := List.contains_iff_mem.mpr (by rw [q]; exact List.mem_cons_self)
        have h2 : l.contains (x, y) = false := by
          cases hb : l.contains (x, y) with
          | false => rfl
          | true => exact absurd (q ▸ List.contains_iff_mem.mp hb) nd'.1
        rw [h1, h2, ← q]
        simp [leaves, out, bi]
      · rw [if_neg q]
        have h1 : (p :: l).contains (x, y) = l.contains (x, y) := by
          rw [Bool.eq_iff_iff, List.contains_iff_mem, List.contains_iff_mem, List.mem_cons]
          exact ⟨fun h => h.resolve_left q, .inr⟩
        rw [h1, Int.zero_add]
    unfold cap at ih ⊢
    rw [zV (g := fun x => sumN n fun y => (if (x, y) = p then bi (leaves S p) else 0) + bi (relOf l x y && out S x y)) (fun x _ => zV fun y _ => e x y), sum2_add, ih, sum2_one n p hp.1 hp.2]
    unfold capL
    rw [List.filter_cons]
    cases leaves S p with
    | true => simp [bi]; lia
    | false => simp [bi]
noncomputable def Parts (s t : Nat) (S : Nat → Bool) : Prop := S s = true ∧ S t = false
noncomputable def Fine (n : Nat) (l : List (Nat × Nat)) : Prop := l.Nodup ∧ ∀ p ∈ l, p.1 < n ∧ p.2 < n
theorem Fine.sub {n : Nat} {l r : List (Nat × Nat)} (h : Fine n l) (q : r.Sublist l) : Fine n r := ⟨h.1.sublist q, fun p hp => h.2 p (q.subset hp)⟩
section
variable {n s t : Nat} (hs : s < n) (hst : s ≠ t)
include hs hst
theorem most_le {l : List (Nat × Nat)} (f : Fine n l) {S : Nat → Bool} (h : Parts s t S) : mostOf n l s t ≤ capL l S := by
  obtain ⟨F, fl⟩ := (mostOf_max (l := l) hs hst).has
  have := flow_le_cap hs fl h.1 h.2
  rw [capL_eq S f.1 f.2] at this
  lia
theorem most_has {l : List (Nat × Nat)} (f : Fine n l) : ∃ S, Parts s t S ∧ capL l S = mostOf n l s t := by
  obtain ⟨S, h1, h2, e⟩ := (mostOf_max (l := l) hs hst).cut
  rw [capL_eq S f.1 f.2] at e
  exact ⟨S, ⟨h1, h2⟩, by lia⟩
end
theorem capL_without (l : List (Nat × Nat)) (x : Nat × Nat) (S : Nat → Bool) (nd : l.Nodup) (hx : x ∈ l) : capL l S = capL (l.filter fun y => y != x) S + (if leaves S x = true then 1 else 0) := by
  induction l with
  | nil => cases hx
  | cons y l ih =>
    have nd' := List.nodup_cons.mp nd
    rcases List.mem_cons.mp hx with q | q
    · subst q
      have e : (l.filter fun y => y != x) = l := List.filter_eq_self.mpr fun z hz => by
        have : z ≠ x := fun w => nd'.1 (w ▸ hz)
        simpa using this
      unfold capL
      rw [List.filter_cons (p := fun y => y != x), if_neg (by simp), e, List.filter_cons]
      split <;> simp
    · have hne : y ≠ x := fun w => nd'.1 (w ▸ q)
      have := ih nd'.2 q
      unfold capL at this ⊢
      rw [List.filter_cons (p := fun y => y != x), if_pos (by simpa using hne), List.filter_cons, List.filter_cons]
      split
      · rw [List.length_cons, List.length_cons, this]; lia
      · exact this
noncomputable def Ahead (S S' : Nat → Bool) : List (Nat × Nat) → Prop
  | [] => True
  | x :: r => (leaves S x = leaves S' x ∧ Ahead S S' r) ∨ (leaves S x = true ∧ leaves S' x = false)
theorem parted_spec {n s t : Nat} (hs : s < n) (hst : s ≠ t) : ∀ {r l : List (Nat × Nat)}, Fine n l → r.Nodup → (∀ x ∈ r, x ∈ l) →
    ∃ S, Parts s t S ∧ capL l S = mostOf n l s t ∧ parted n s t l r = r.filter (leaves S) ∧ ∀ S', Parts s t S' → capL l S' = mostOf n l s t → Ahead S S' r
  | [], l, f, _, _ => by
    obtain ⟨S, p, e⟩ := most_has hs hst f
    exact ⟨S, p, e, rfl, fun _ _ _ => True.intro⟩
  | x :: r, l, f, nd, sub => by
    have nd' := List.nodup_cons.mp nd
    have hx : x ∈ l := sub x List.mem_cons_self
    have fk : Fine n (l.filter fun y => y != x) := f.sub List.filter_sublist
    unfold parted
    dsimp only
    have cw := fun S => capL_without l x S f.1 hx
    by_cases h : mostOf n (l.filter fun y => y != x) s t < mostOf n l s t
    · rw [if_pos h]
      have sub' : ∀ z ∈ r, z ∈ l.filter fun y => y != x := fun z hz => List.mem_filter.mpr ⟨sub z (List.mem_cons_of_mem _ hz), by
        have : z ≠ x := fun w => nd'.1 (w ▸ hz)
        simpa using this⟩
      obtain ⟨S, p, e, ep, mn⟩ := parted_spec hs hst fk nd'.2 sub'
      have c1 := cw S
      have c2 := most_le hs hst f p
      have hl : leaves S x = true := by
        cases hb : leaves S x with
        | true => rfl
        | false => rw [hb] at c1; simp at c1; lia
      rw [if_pos hl] at c1
      have hm : mostOf n l s t = mostOf n (l.filter fun y => y != x) s t + 1 := by lia
      refine ⟨S, p, by lia, ?_, ?_⟩
      · rw [ep, List.filter_cons, if_pos hl]
      · intro S' p' e'
        have c3 := cw S'
        cases hb : leaves S' x with
        | true =>
          rw [if_pos hb] at c3
          exact .inl ⟨by rw [hl, hb], mn S' p' (by lia)⟩
        | false => exact .inr ⟨hl, hb⟩
    · rw [if_neg h]
      have no : ∀ S', Parts s t S' → capL l S' = mostOf n l s t → leaves S' x = false := by
        intro S' p' e'
        have c3 := cw S'
        have c4 := most_le hs hst fk p'
        cases hb : leaves S' x with
        | false => rfl
        | true => rw [if_pos hb] at c3; lia
      obtain ⟨S, p, e, ep, mn⟩ := parted_spec hs hst (r := r) f nd'.2 fun z hz => sub z (List.mem_cons_of_mem _ hz)
      refine ⟨S, p, e, ?_, ?_⟩
      · rw [ep, List.filter_cons, if_neg (by rw [no S p e]; decide)]
      · intro S' p' e'
        exact .inl ⟨by rw [no S p e, no S' p' e'], mn S' p' e'⟩
theorem parted_length {n s t : Nat} (hs : s < n) (hst : s ≠ t) {l : List (Nat × Nat)} (f : Fine n l) : (parted n s t l l).length = mostOf n l s t := by
  obtain ⟨S, p, e, ep, _⟩ := parted_spec hs hst f f.1 (fun _ h => h)
  rw [ep]; exact e
theorem live_fine {g : Net} (w : WF g) : Fine g.n g.live := by
  unfold Net.live
  constructor
  · unfold List.Nodup
    rw [List.pairwise_map]
    refine List.Pairwise.imp ?_ (w.srt.sublist List.filter_sublist)
    intro x y h e
    unfold key at h
    rw [(Prod.mk.inj e).1, (Prod.mk.inj e).2] at h
    lia
  · intro p hp
    obtain ⟨x, hx, rfl⟩ := List.mem_map.mp hp
    have := w.arcs x (List.mem_filter.mp hx).1
    exact ⟨this.1, this.2.1⟩
theorem live_mem {g : Net} (w : WF g) {a b : Nat} : (a, b) ∈ g.live ↔ (g.arc a b).isSome = true ∧ g.isOpen a = true ∧ g.isOpen b = true := by
  unfold Net.live
  simp only [List.mem_map, List.mem_filter, Bool.and_eq_true]
  constructor
  · rintro ⟨x, ⟨h1, h2, h3⟩, e⟩
    obtain ⟨e1, e2⟩ := Prod.mk.inj e
    subst e1; subst e2
    exact ⟨by rw [w.arc_of h1]; rfl, h2, h3⟩
  · rintro ⟨h1, h2, h3⟩
    obtain ⟨x, hx⟩ := Option.isSome_iff_exists.mp h1
    obtain ⟨q1, q2, q3⟩ := arc_some hx
    exact ⟨x, ⟨q1, by rw [q2]; exact h2, by rw [q3]; exact h3⟩, by rw [q2, q3]⟩
theorem live_sorted {g : Net} (w : WF g) : g.live.Pairwise fun p q => p.1 < q.1 ∨ (p.1 = q.1 ∧ p.2 < q.2) := by
  unfold Net.live
  rw [List.pairwise_map]
  refine List.Pairwise.imp_of_mem ?_ (w.srt.sublist List.filter_sublist)
  intro x y hx hy h
  have h1 := w.arcs x (List.mem_filter.mp hx).1
  have h2 := w.arcs y (List.mem_filter.mp hy).1
  have := w.n8
  unfold key NODES at h
  dsimp only
  lia
noncomputable def nI (n : Nat) : Int := (n : Int)
noncomputable def Num (n : Nat) : Prop := n < 18446744073709551616
inductive Reads : List Int → Call → List Int → Prop
  | begin_ (n : Nat) (t : List Int) (h : Num n) : Reads (0 :: nI n :: t) (.begin_ n) t
  | arc (a b c : Nat) (t : List Int) (h : Num a ∧ Num b ∧ Num c) : Reads (1 :: nI a :: nI b :: nI c :: t) (.arc a b c) t
  | cut (a b : Nat) (t : List Int) (h : Num a ∧ Num b) : Reads (2 :: nI a :: nI b :: t) (.cut a b) t
  | close (a b : Nat) (t : List Int) (h : Num a ∧ Num b) : Reads (3 :: nI a :: nI b :: t) (.close a b) t
  | len (a b : Nat) (t : List Int) (h : Num a ∧ Num b) : Reads (4 :: nI a :: nI b :: t) (.len a b) t
  | dist (a b : Nat) (t : List Int) (h : Num a ∧ Num b) : Reads (5 :: nI a :: nI b :: t) (.dist a b) t
  | way (r : List Nat) (t : List Int) (h : ∀ x ∈ r, Num x) : Reads (6 :: nI r.length :: (r.map nI ++ t)) (.way r) t
  | search (a b : Nat) (t : List Int) (h : Num a ∧ Num b) : Reads (7 :: nI a :: nI b :: t) (.search a b) t
  | next (t : List Int) : Reads (8 :: t) .next t
  | told (t : List Int) : Reads (9 :: t) .told t
  | nth (a b c : Nat) (t : List Int) (h : Num a ∧ Num b ∧ Num c) : Reads (10 :: nI a :: nI b :: nI c :: t) (.nth a b c) t
  | ways (a b : Nat) (t : List Int) (h : Num a ∧ Num b) : Reads (11 :: nI a :: nI b :: t) (.ways a b) t
  | place (r : List Nat) (t : List Int) (h : ∀ x ∈ r, Num x) : Reads (12 :: nI r.length :: (r.map nI ++ t)) (.place r) t
  | over (a b c d : Nat) (t : List Int) (h : Num a ∧ Num b ∧ Num c ∧ Num d) : Reads (13 :: nI a :: nI b :: nI c :: nI d :: t) (.over a b c d) t
  | apart (a b : Nat) (t : List Int) (h : Num a ∧ Num b) : Reads (14 :: nI a :: nI b :: t) (.apart a b) t
  | net (t : List Int) : Reads (15 :: t) .net t
inductive ReadsAll : List Int → List Call → Prop
  | nil : ReadsAll [] []
  | cons {l t : List Int} {c : Call} {cs : List Call} (h : Reads l c t) (r : ReadsAll t cs) : ReadsAll l (c :: cs)
noncomputable def shown (a : Answer) : List Int := ((WaySpecNeutral.numbersOf a).length : Int) :: WaySpecNeutral.numbersOf a
noncomputable def outs : State → List Call → List Int
  | _, [] => []
  | s, c :: cs => shown (WaySpec.step s c).2 ++ outs (WaySpec.step s c).1 cs
theorem nat_of {z : Int} (h : WaySpecNeutral.natural z 64 = true) : ∃ n : Nat, z = nI n ∧ Num n ∧ z.toNat = n := by
  unfold WaySpecNeutral.natural at h
  simp only [Bool.and_eq_true, decide_eq_true_eq] at h
  refine ⟨z.toNat, ?_, ?_, rfl⟩
  · unfold nI; lia
  · have h2 := h.2
    unfold Num
    have e : (2 : Int) ^ 64 = 18446744073709551616 := by decide
    rw [e] at h2
    lia
theorem nats_of : ∀ {r : List Int}, r.all (fun z => WaySpecNeutral.natural z 64) = true → ∃ ns : List Nat, r = ns.map nI ∧ (∀ x ∈ ns, Num x) ∧ WaySpecNeutral.nats r = ns
  | [], _ => ⟨[], rfl, by simp, rfl⟩
  | z :: r, h => by
    rw [List.all_cons, Bool.and_eq_true] at h
    obtain ⟨n, e1, h1, e2⟩ := nat_of h.1
    obtain ⟨ns, e3, h2, e4⟩ := nats_of h.2
    refine ⟨n :: ns, by rw [e1, e3]; rfl, ?_, ?_⟩
    · intro x hx
      rcases List.mem_cons.mp hx with q | q
      · rw [q]; exact h1
      · exact h2 x q
    · unfold WaySpecNeutral.nats at e4 ⊢
      rw [List.map_cons, e4, e2]
theorem len1 {r : List Int} (h : ¬ r.length < 1) : ∃ a t, r = a :: t := by
  match r, h with
  | [], h => simp at h
  | a :: t, _ => exact ⟨a, t, rfl⟩
theorem len2 {r : List Int} (h : ¬ r.length < 2) : ∃ a b t, r = a :: b :: t := by
  match r, h with
  | [], h => simp at h
  | [_], h => simp at h
  | a :: b :: t, _ => exact ⟨a, b, t, rfl⟩
theorem len3 {r : List Int} (h : ¬ r.length < 3) : ∃ a b c t, r = a :: b :: c :: t := by
  match r, h with
  | [], h => simp at h
  | [_], h => simp at h
  | [_, _], h => simp at h
  | a :: b :: c :: t, _ => exact ⟨a, b, c, t, rfl⟩
theorem len4 {r : List Int} (h : ¬ r.length < 4) : ∃ a b c d t, r = a :: b :: c :: d :: t := by
  match r, h with
  | [], h => simp at h
  | [_], h => simp at h
  | [_, _], h => simp at h
  | [_, _, _], h => simp at h
  | a :: b :: c :: d :: t, _ => exact ⟨a, b, c, d, t, rfl⟩
theorem call_plain {p : Int} {n : Nat} {r : List Int} {c : List (List Int)} {t : List Int} (hs : PyWqaeaj.shape p = some (n, 0)) (h : PyFlat.call PyWqaeaj.shape (p :: r) = some (c, t)) :
    ¬ r.length < n ∧ c = [p :: r.take n] ∧ t = r.drop n := by
  unfold PyFlat.call at h
  dsimp only at h
  rw [hs] at h
  dsimp only at h
  by_cases hl : r.length < n
  · rw [if_pos hl] at h; cases h
  · rw [if_neg hl] at h
    unfold PyFlat.rows at h
    dsimp only at h
    obtain ⟨e1, e2⟩ := Prod.mk.inj (Option.some.inj h)
    exact ⟨hl, e1.symm, e2.symm⟩
theorem call_row {p : Int} {r : List Int} {c : List (List Int)} {t : List Int} (hs : PyWqaeaj.shape p = some (0, 1)) (h : PyFlat.call PyWqaeaj.shape (p :: r) = some (c, t)) :
    ∃ (x : List Int), c = [[p], x] ∧ r = (x.length : Int) :: (x ++ t) := by
  unfold PyFlat.call at h
  dsimp only at h
  rw [hs] at h
  dsimp only at h
  rw [if_neg (by lia)] at h
  unfold PyFlat.rows at h
  rw [List.drop_zero] at h
  cases hr : PyFlat.row r with
  | none => rw [hr] at h; cases h
  | some z =>
    obtain ⟨x, s⟩ := z
    rw [hr] at h
    unfold PyFlat.rows at h
    dsimp only at h
    obtain ⟨e1, e2⟩ := Prod.mk.inj (Option.some.inj h)
    subst e2
    refine ⟨x, by rw [← e1]; rfl, ?_⟩
    cases r with
    | nil => cases hr
    | cons n r =>
      unfold PyFlat.row at hr
      dsimp only at hr
      split at hr
      · rename_i k
        obtain ⟨q1, q2⟩ := Prod.mk.inj (Option.some.inj hr)
        subst q1
        subst q2
        have e : ((r.take n.toNat).length : Int) = n := by
          rw [List.length_take]
          lia
        rw [e, List.take_append_drop]
      · cases hr
theorem shape_cases {p : Int} {z : Nat × Nat} (h : PyWqaeaj.shape p = some z) : p = 0 ∨ p = 1 ∨ p = 2 ∨ p = 3 ∨ p = 4 ∨ p = 5 ∨ p = 6 ∨ p = 7 ∨ p = 8 ∨ p = 9 ∨ p = 10 ∨ p = 11 ∨ p = 12 ∨ p = 13 ∨ p = 14 ∨ p = 15 := by
  unfold PyWqaeaj.shape at h
  apply Decidable.byContradiction
  intro q
  simp only [not_or] at q
  obtain ⟨a0, a1, a2, a3, a4, a5, a6, a7, a8, a9, a10, a11, a12, a13, a14, a15⟩ := q
  rw [if_neg a0, if_neg a1, if_neg a2, if_neg a3, if_neg a4, if_neg a5, if_neg a6, if_neg a7, if_neg a8, if_neg a9, if_neg a10, if_neg a11, if_neg a12, if_neg a13, if_neg a14, if_neg a15] at h
  cases h
theorem two_reads {p : Int} {r : List Int} {c : List (List Int)} {t : List Int} {F : Nat → Nat → Call} (hs : PyWqaeaj.shape p = some (2, 0)) (h : PyFlat.call PyWqaeaj.shape (p :: r) = some (c, t)) (ha : WaySpecNeutral.asked1 (PyWqaeaj.whole c) = true)
    (hr : ∀ x y t, Num x ∧ Num y → Reads (p :: nI x :: nI y :: t) (F x y) t) (hA : ∀ a b, WaySpecNeutral.asked1 (PyWqaeaj.whole [[p, a, b]]) = (WaySpecNeutral.natural a 64 && WaySpecNeutral.natural b 64)) (hC : ∀ a b, WaySpecNeutral.callOf (PyWqaeaj.whole [[p, a, b]]) = some (F a.toNat b.toNat)) :
    ∃ k : Call, Reads (p :: r) k t ∧ WaySpecNeutral.callOf (PyWqaeaj.whole c) = some k := by
  obtain ⟨hl, e1, e2⟩ := call_plain hs h
  obtain ⟨a, b, t', e⟩ := len2 hl
  subst e; subst e1; subst e2
  have ha := (hA a b).symm.trans ha
  rw [Bool.and_eq_true] at ha
  obtain ⟨x, ex, hx, qx⟩ := nat_of ha.1
  obtain ⟨y, ey, hy, qy⟩ := nat_of ha.2
  exact ⟨F x y, by rw [ex, ey]; exact hr x y _ ⟨hx, hy⟩, (hC a b).trans (by rw [qx, qy])⟩
theorem three_reads {p : Int} {r : List Int} {c : List (List Int)} {t : List Int} {F : Nat → Nat → Nat → Call} (hs : PyWqaeaj.shape p = some (3, 0)) (h : PyFlat.call PyWqaeaj.shape (p :: r) = some (c, t)) (ha : WaySpecNeutral.asked1 (PyWqaeaj.whole c) = true)
    (hr : ∀ x y z t, Num x ∧ Num y ∧ Num z → Reads (p :: nI x :: nI y :: nI z :: t) (F x y z) t) (hA : ∀ a b c, WaySpecNeutral.asked1 (PyWqaeaj.whole [[p, a, b, c]]) = (WaySpecNeutral.natural a 64 && WaySpecNeutral.natural b 64 && WaySpecNeutral.natural c 64)) (hC : ∀ a b c, WaySpecNeutral.callOf (PyWqaeaj.whole [[p, a, b, c]]) = some (F a.toNat b.toNat c.toNat)) :
    ∃ k : Call, Reads (p :: r) k t ∧ WaySpecNeutral.callOf (PyWqaeaj.whole c) = some k := by
  obtain ⟨hl, e1, e2⟩ := call_plain hs h
  obtain ⟨a, b, c, t', e⟩ := len3 hl
  subst e; subst e1; subst e2
  have ha := (hA a b c).symm.trans ha
  rw [Bool.and_eq_true, Bool.and_eq_true] at ha
  obtain ⟨x, ex, hx, qx⟩ := nat_of ha.1.1
  obtain ⟨y, ey, hy, qy⟩ := nat_of ha.1.2
  obtain ⟨z, ez, hz, qz⟩ := nat_of ha.2
  exact ⟨F x y z, by rw [ex, ey, ez]; exact hr x y z _ ⟨hx, hy, hz⟩, (hC a b c).trans (by rw [qx, qy, qz])⟩
theorem call_reads {p : Int} {r : List Int} {c : List (List Int)} {t : List Int} (h : PyFlat.call PyWqaeaj.shape (p :: r) = some (c, t)) (ha : WaySpecNeutral.asked1 (PyWqaeaj.whole c) = true) :
    ∃ k : Call, Reads (p :: r) k t ∧ WaySpecNeutral.callOf (PyWqaeaj.whole c) = some k := by
  have hs : ∃ z, PyWqaeaj.shape p = some z := by
    cases e : PyWqaeaj.shape p with
    | some z => exact ⟨z, rfl⟩
    | none => unfold PyFlat.call at h; dsimp only at h; rw [e] at h; cases h
  obtain ⟨z, hz⟩ := hs
  rcases shape_cases hz with e | e | e | e | e | e | e | e | e | e | e | e | e | e | e | e <;> subst e
  · obtain ⟨hl, e1, e2⟩ := call_plain (n := 1) rfl h
    obtain ⟨a, t', e⟩ := len1 hl
    subst e; subst e1; subst e2
    obtain ⟨x, ex, hx, qx⟩ := nat_of (show WaySpecNeutral.natural a 64 = true from ha)
    exact ⟨.begin_ x, by rw [ex]; exact .begin_ x _ hx, by show some (Call.begin_ a.toNat) = _; rw [qx]⟩
  · exact three_reads rfl h ha .arc (fun _ _ _ => rfl) fun _ _ _ => rfl
  · exact two_reads rfl h ha .cut (fun _ _ => rfl) fun _ _ => rfl
  · exact two_reads rfl h ha .close (fun _ _ => rfl) fun _ _ => rfl
  · exact two_reads rfl h ha .len (fun _ _ => rfl) fun _ _ => rfl
  · exact two_reads rfl h ha .dist (fun _ _ => rfl) fun _ _ => rfl
  · obtain ⟨x, e1, e2⟩ := call_row rfl h
    subst e1; subst e2
    obtain ⟨ns, ex, hx, qx⟩ := nats_of (r := x) ha
    refine ⟨.way ns, ?_, by show some (Call.way (WaySpecNeutral.nats x)) = _; rw [qx]⟩
    subst ex
    rw [List.length_map]
    exact .way ns t hx
  · exact two_reads rfl h ha .search (fun _ _ => rfl) fun _ _ => rfl
  · obtain ⟨hl, e1, e2⟩ := call_plain (n := 0) rfl h
    subst e1; subst e2
    exact ⟨.next, .next _, rfl⟩
  · obtain ⟨hl, e1, e2⟩ := call_plain (n := 0) rfl h
    subst e1; subst e2
    exact ⟨.told, .told _, rfl⟩
  · exact three_reads rfl h ha .nth (fun _ _ _ => rfl) fun _ _ _ => rfl
  · exact two_reads rfl h ha .ways (fun _ _ => rfl) fun _ _ => rfl
  · obtain ⟨x, e1, e2⟩ := call_row rfl h
    subst e1; subst e2
    obtain ⟨ns, ex, hx, qx⟩ := nats_of (r := x) ha
    refine ⟨.place ns, ?_, by show some (Call.place (WaySpecNeutral.nats x)) = _; rw [qx]⟩
    subst ex
    rw [List.length_map]
    exact .place ns t hx
  · obtain ⟨hl, e1, e2⟩ := call_plain (n := 4) rfl h
    obtain ⟨a, b, c, d, t', e⟩ := len4 hl
    subst e; subst e1; subst e2
    have ha : (WaySpecNeutral.natural a 64 && WaySpecNeutral.natural b 64 && WaySpecNeutral.natural c 64 && WaySpecNeutral.natural d 64) = true := ha
    simp only [Bool.and_eq_true] at ha
    obtain ⟨x, ex, hx, qx⟩ := nat_of ha.1.1.1
    obtain ⟨y, ey, hy, qy⟩ := nat_of ha.1.1.2
    obtain ⟨z, ez, hz, qz⟩ := nat_of ha.1.2
    obtain ⟨u, eu, hu, qu⟩ := nat_of ha.2
    exact ⟨.over x y z u, by rw [ex, ey, ez, eu]; exact .over x y z u _ ⟨hx, hy, hz, hu⟩, by show some (Call.over a.toNat b.toNat c.toNat d.toNat) = _; rw [qx, qy, qz, qu]⟩
  · exact two_reads rfl h ha .apart (fun _ _ => rfl) fun _ _ => rfl
  · obtain ⟨hl, e1, e2⟩ := call_plain (n := 0) rfl h
    subst e1; subst e2
    exact ⟨.net, .net _, rfl⟩
theorem told_cons (x : List Int) (l : List (List Int)) : PyFlat.told (x :: l) = ((x.length : Int) :: x) ++ PyFlat.told l := by
  unfold PyFlat.told
  rw [List.flatMap_cons]
theorem calls_reads : ∀ {f : Nat} {l : List Int} {cs : List (List (List Int))}, PyFlat.calls PyWqaeaj.shape f l = some cs → (cs.map PyWqaeaj.whole).all WaySpecNeutral.asked1 = true →
    ∃ ks : List Call, ReadsAll l ks ∧ ks.length = cs.length ∧ ∀ s, PyFlat.told (PyFlat.played WaySpecNeutral.step s (cs.map PyWqaeaj.whole)) = outs s ks
  | f, [], cs, h, _ => by
    have e : cs = [] := by
      cases f <;> exact (Option.some.inj h).symm
    subst e
    exact ⟨[], .nil, rfl, fun s => rfl⟩
  | 0, p :: r, cs, h, _ => by cases h
  | f + 1, p :: r, cs, h, ha => by
    unfold PyFlat.calls at h
    cases hc : PyFlat.call PyWqaeaj.shape (p :: r) with
    | none => rw [hc] at h; cases h
    | some z =>
      obtain ⟨c, t⟩ := z
      rw [hc] at h
      dsimp only at h
      cases hr : PyFlat.calls PyWqaeaj.shape f t with
      | none => rw [hr] at h; cases h
      | some cs' =>
        rw [hr] at h
        have e := Option.some.inj h
        subst e
        rw [List.map_cons, List.all_cons, Bool.and_eq_true] at ha
        obtain ⟨k, rd, ek⟩ := call_reads hc ha.1
        obtain ⟨ks, ra, hl, ho⟩ := calls_reads hr ha.2
        refine ⟨k :: ks, .cons rd ra, by simp [hl], fun s => ?_⟩
        have st : WaySpecNeutral.step s (PyWqaeaj.whole c) = ((WaySpec.step s k).1, WaySpecNeutral.numbersOf (WaySpec.step s k).2) := by
          unfold WaySpecNeutral.step
          rw [ek]
        rw [List.map_cons]
        unfold PyFlat.played
        rw [told_cons, st, ho]
        rfl
theorem asked_reads {l : List Int} (h : PyWqaeaj.answers_asked l = true) : ∃ ks : List Call, ReadsAll l ks ∧ ks.length ≤ 100 ∧ PyWqaeaj.answers l = outs WaySpec.start ks := by
  unfold PyWqaeaj.answers_asked at h
  unfold PyWqaeaj.answers
  cases hc : PyWqaeaj.calls l with
  | none => rw [hc] at h; cases h
  | some cs =>
    rw [hc] at h
    dsimp only at h ⊢
    unfold PyWqaeaj.calls at hc
    cases hr : PyFlat.calls PyWqaeaj.shape l.length l with
    | none => rw [hr] at hc; cases hc
    | some cs0 =>
      rw [hr] at hc
      have e := Option.some.inj hc
      subst e
      unfold WaySpecNeutral.asked PyFlat.atMost at h
      simp only [Bool.and_eq_true, decide_eq_true_eq] at h
      obtain ⟨ks, ra, hl, ho⟩ := calls_reads hr h.2.1
      refine ⟨ks, ra, ?_, ho _⟩
      have := h.1
      rw [List.length_map] at this
      lia
structure Onw (g : Net) (ons : Nat → List (Nat × Nat)) : Prop where
  mem : ∀ v b c, g.isOpen v = true → ((b, c) ∈ ons v ↔ g.isOpen b = true ∧ ∃ x, g.arc v b = some x ∧ x.len = c)
  nd : ∀ v, g.isOpen v = true → ((ons v).map (·.1)).Nodup
noncomputable def lastN (r : List Nat) : Nat := r.getLastD 0
noncomputable def longer (ons : Nat → List (Nat × Nat)) (x : Nat × List Nat) : List (Nat × List Nat) :=
  ((ons (lastN x.2)).filter fun e => !x.2.contains e.1).map fun e => (x.1 + e.2, x.2 ++ [e.1])
noncomputable def grow1 (ons : Nat → List (Nat × Nat)) (t : Nat) (x : Nat × List Nat) : List (Nat × List Nat) := if lastN x.2 = t then [] else longer ons x
noncomputable def grown (ons : Nat → List (Nat × Nat)) (t : Nat) (rows : List (Nat × List Nat)) : List (Nat × List Nat) := rows.flatMap (grow1 ons t)
noncomputable def ended (t : Nat) (rows : List (Nat × List Nat)) : List (Nat × List Nat) := rows.filter fun x => lastN x.2 == t
structure Part (g : Net) (s t k : Nat) (r : List Nat) : Prop where
  len : r.length = k + 1
  hd : r.head? = some s
  op : ∀ v ∈ r, g.isOpen v = true
  nd : r.Nodup
  st : ∀ p ∈ steps r, (g.arc p.1 p.2).isSome = true
  no : t ∉ r.dropLast
structure Level (g : Net) (s t k : Nat) (rows : List (Nat × List Nat)) : Prop where
  mem : ∀ c r, (c, r) ∈ rows ↔ Part g s t k r ∧ c = g.length r
  nd : rows.Nodup
  small : rows.length ≤ 8 ^ k
structure Fnd (g : Net) (s t k : Nat) (found : List (Nat × List Nat)) : Prop where
  mem : ∀ c r, (c, r) ∈ found ↔ (∃ j, j < k ∧ Part g s t j r) ∧ lastN r = t ∧ c = g.length r
  nd : found.Nodup
  small : found.length ≤ 8 ^ k
theorem Part.ne {g : Net} {s t k : Nat} {r : List Nat} (h : Part g s t k r) : r ≠ [] := fun e => by have := h.len; rw [e] at this; cases this
theorem last_snoc (l : List Nat) (b : Nat) : lastN (l ++ [b]) = b := by simp [lastN]
theorem last_of {l : List Nat} (h : l ≠ []) : l.getLast? = some (lastN l) := by
  cases l with
  | nil => exact absurd rfl h
  | cons a l =>
    rw [List.getLast?_cons]
    simp [lastN, List.getLast?_cons]
theorem last_mem {l : List Nat} (h : l ≠ []) : lastN l ∈ l := List.mem_of_getLast? (last_of h)
theorem Level.start {g : Net} {s t : Nat} (ho : g.isOpen s = true) : Level g s t 0 [(0, [s])] where
  mem := fun c r => by
    constructor
    · intro h
      obtain ⟨rfl, rfl⟩ : c = 0 ∧ r = [s] := by simpa using h
      exact ⟨⟨rfl, rfl, by simpa using ho, by simp, (fun p hp => by cases hp), by simp⟩, rfl⟩
    · rintro ⟨p, rfl⟩
      have hl := p.len
      have hh := p.hd
      match r, hl, hh with
      | [a], _, hh => obtain rfl : a = s := by simpa using hh
                      simp [Net.length]
  nd := by simp
  small := by simp
theorem Part.snoc {g : Net} {s t k : Nat} {r : List Nat} {b : Nat} : Part g s t (k + 1) (r ++ [b]) ↔ Part g s t k r ∧ lastN r ≠ t ∧ g.isOpen b = true ∧ b ∉ r ∧ (g.arc (lastN r) b).isSome = true := by
  constructor
  · intro h
    have hl : r.length = k + 1 := by have := h.len; rw [List.length_append] at this; simpa using this
    have hne : r ≠ [] := fun e => by rw [e] at hl; cases hl
    have hno : t ∉ r := by have := h.no; rw [List.dropLast_concat] at this; exact this
    have nd := List.nodup_append.mp h.nd
    refine ⟨⟨hl, ?_, fun v hv => h.op v (List.mem_append_left _ hv), nd.1, fun p hp => h.st p (steps_front _ _ _ hp), fun q => hno (List.dropLast_subset _ q)⟩, fun e => hno (e ▸ last_mem hne), h.op b (by simp), fun q => nd.2.2 b q b (by simp) rfl, h.st (lastN r, b) (steps_last _ _ _ (last_of hne))⟩
    have := h.hd
    cases r with
    | nil => exact absurd rfl hne
    | cons a l => simpa using this
  · rintro ⟨h, hn, ho, hb, ha⟩
    refine ⟨by rw [List.length_append, h.len]; rfl, ?_, fun v hv => ?_, ?_, fun p hp => ?_, ?_⟩
    · have := h.hd
      cases r with
      | nil => exact absurd rfl h.ne
      | cons a l => simpa using this
    · rcases List.mem_append.mp hv with q | q
      · exact h.op v q
      · have e : v = b := by simpa using q
        rw [e]; exact ho
    · refine List.nodup_append.mpr ⟨h.nd, by simp, fun x hx y hy e => ?_⟩
      have e2 : y = b := by simpa using hy
      exact hb (by rw [← e2, ← e]; exact hx)
    · rcases steps_snoc r _ b (last_of h.ne) p hp with q | q
      · exact h.st p q
      · rw [q]; exact ha
    · rw [List.dropLast_concat]
      intro q
      obtain ⟨p, z, e⟩ := snoc_shape r h.ne
      have hz : lastN r = z := by rw [e, last_snoc]
      have hno := h.no
      rw [e, List.dropLast_concat] at hno
      rw [e] at q
      rcases List.mem_append.mp q with q | q
      · exact hno q
      · have q2 : t = z := by simpa using q
        exact hn (by rw [hz, q2])
theorem length_snoc (g : Net) {r : List Nat} (h : r ≠ []) (b : Nat) : g.length (r ++ [b]) = g.length r + lenOf g (lastN r) b := by
  rw [length_cost, length_cost, cost_snoc _ _ _ _ (last_of h)]
theorem mem_longer {g : Net} {ons : Nat → List (Nat × Nat)} (O : Onw g ons) {s t k : Nat} {r : List Nat} (p : Part g s t k r) {c : Nat} {x : Nat × List Nat} : x ∈ longer ons (c, r) ↔ ∃ b, x = (c + lenOf g (lastN r) b, r ++ [b]) ∧ g.isOpen b = true ∧ b ∉ r ∧ (g.arc (lastN r) b).isSome = true := by
  have ho := p.op _ (last_mem p.ne)
  unfold longer
  rw [List.mem_map]
  constructor
  · rintro ⟨⟨b, d⟩, he, rfl⟩
    rw [List.mem_filter] at he
    obtain ⟨h1, y, h2, h3⟩ := (O.mem _ _ _ ho).mp he.1
    refine ⟨b, ?_, h1, by simpa using he.2, by rw [h2]; rfl⟩
    have : lenOf g (lastN r) b = d := by unfold lenOf; rw [h2]; exact h3
    rw [this]
  · rintro ⟨b, rfl, h1, h2, h3⟩
    obtain ⟨y, hy⟩ := Option.isSome_iff_exists.mp h3
    refine ⟨(b, y.len), List.mem_filter.mpr ⟨(O.mem _ _ _ ho).mpr ⟨h1, y, hy, rfl⟩, by simpa using h2⟩, ?_⟩
    have : lenOf g (lastN r) b = y.len := by unfold lenOf; rw [hy]; rfl
    rw [this]
theorem nodup_of_map {α β : Type} (f : α → β) {l : List α} (h : (l.map f).Nodup) : l.Nodup := List.Pairwise.imp (fun hne e => hne (by rw [e])) (List.pairwise_map.mp h)
theorem longer_nodup {g : Net} {ons : Nat → List (Nat × Nat)} (O : Onw g ons) {r : List Nat} (ho : g.isOpen (lastN r) = true) (c : Nat) : (longer ons (c, r)).Nodup := by
  unfold longer
  have nd := O.nd _ ho
  have nd2 : (((ons (lastN r)).filter fun e => !r.contains e.1).map (·.1)).Nodup := nd.sublist (List.filter_sublist.map _)
  refine List.pairwise_map.mpr (List.Pairwise.imp (fun {x y} (hne : x.1 ≠ y.1) e => hne ?_) (List.pairwise_map.mp nd2))
  have e2 : r ++ [x.1] = r ++ [y.1] := congrArg Prod.snd e
  have := List.append_cancel_left e2
  simpa using this
theorem longer_small {g : Net} (w : WF g) {ons : Nat → List (Nat × Nat)} (O : Onw g ons) {r : List Nat} (ho : g.isOpen (lastN r) = true) (c : Nat) : (longer ons (c, r)).length ≤ 8 := by
  unfold longer
  rw [List.length_map]
  refine Nat.le_trans (List.length_filter_le _ _) ?_
  rw [← List.length_map (f := (·.1))]
  refine Nat.le_trans (nodup_le g.n _ (O.nd _ ho) fun x hx => ?_) w.n8
  obtain ⟨⟨b, d⟩, hm, rfl⟩ := List.mem_map.mp hx
  exact isOpen_lt w ((O.mem _ _ _ ho).mp hm).1
theorem grown_small {g : Net} (w : WF g) {ons : Nat → List (Nat × Nat)} (O : Onw g ons) {t : Nat} : ∀ (rows : List (Nat × List Nat)), (∀ x ∈ rows, g.isOpen (lastN x.2) = true) → (grown ons t rows).length ≤ 8 * rows.length
  | [], _ => Nat.le_refl _
  | x :: rows, h => by
    have ih := grown_small w O (t := t) rows fun y hy => h y (List.mem_cons_of_mem _ hy)
    have h1 : (grow1 ons t x).length ≤ 8 := by
      unfold grow1
      split
      · exact Nat.zero_le _
      · exact longer_small w O (h x List.mem_cons_self) x.1
    unfold grown at ih ⊢
    rw [List.flatMap_cons, List.length_append, List.length_cons]
    lia
theorem grown_nodup {g : Net} {ons : Nat → List (Nat × Nat)} (O : Onw g ons) {t : Nat} : ∀ (rows : List (Nat × List Nat)), (∀ x ∈ rows, g.isOpen (lastN x.2) = true) → rows.Nodup → (∀ x ∈ rows, x.1 = g.length x.2) → (grown ons t rows).Nodup
  | [], _, _, _ => List.nodup_nil
  | x :: rows, h, nd, hc => by
    have nd' := List.nodup_cons.mp nd
    have ih := grown_nodup O (t := t) rows (fun y hy => h y (List.mem_cons_of_mem _ hy)) nd'.2 fun y hy => hc y (List.mem_cons_of_mem _ hy)
    have pre : ∀ {y z : Nat × List Nat}, z ∈ grow1 ons t y → ∃ b, z.2 = y.2 ++ [b] := fun {y z} hz => by
      unfold grow1 at hz
      split at hz
      · cases hz
      · unfold longer at hz
        obtain ⟨e, _, rfl⟩ := List.mem_map.mp hz
        exact ⟨e.1, rfl⟩
    unfold grown at ih ⊢
    rw [List.flatMap_cons]
    refine List.nodup_append.mpr ⟨?_, ih, fun y hy z hz e => ?_⟩
    · unfold grow1
      split
      · exact List.nodup_nil
      · exact longer_nodup O (h x List.mem_cons_self) x.1
    · subst e
      obtain ⟨x2, hx2, hz⟩ := List.mem_flatMap.mp hz
      obtain ⟨b, e1⟩ := pre hy
      obtain ⟨b2, e2⟩ := pre hz
      rw [e1] at e2
      have e3 : x.2 = x2.2 := (List.append_inj' e2 rfl).1
      have : x = x2 := Prod.ext (by rw [hc x List.mem_cons_self, hc x2 (List.mem_cons_of_mem _ hx2), e3]) e3
      exact nd'.1 (this ▸ hx2)
theorem Level.opens {g : Net} {s t k : Nat} {rows : List (Nat × List Nat)} (L : Level g s t k rows) : ∀ x ∈ rows, g.isOpen (lastN x.2) = true := fun x hx => by
  have p := ((L.mem x.1 x.2).mp hx).1
  exact p.op _ (last_mem p.ne)
theorem Level.next {g : Net} (w : WF g) {ons : Nat → List (Nat × Nat)} (O : Onw g ons) {s t k : Nat} {rows : List (Nat × List Nat)} (L : Level g s t k rows) : Level g s t (k + 1) (grown ons t rows) where
  mem := fun c r => by
    unfold grown
    rw [List.mem_flatMap]
    constructor
    · rintro ⟨⟨d, q⟩, hq, hx⟩
      obtain ⟨p, rfl⟩ := (L.mem d q).mp hq
      unfold grow1 at hx
      split at hx
      · cases hx
      · rename_i hn
        obtain ⟨b, e, h1, h2, h3⟩ := (mem_longer O p).mp hx
        obtain ⟨rfl, rfl⟩ : c = g.length q + lenOf g (lastN q) b ∧ r = q ++ [b] := by simpa using e
        exact ⟨Part.snoc.mpr ⟨p, hn, h1, h2, h3⟩, (length_snoc g p.ne b).symm⟩
    · rintro ⟨p, rfl⟩
      obtain ⟨q, b, rfl⟩ := snoc_shape r p.ne
      obtain ⟨p', hn, h1, h2, h3⟩ := Part.snoc.mp p
      refine ⟨(g.length q, q), (L.mem _ _).mpr ⟨p', rfl⟩, ?_⟩
      unfold grow1
      rw [if_neg hn]
      exact (mem_longer O p').mpr ⟨b, by rw [length_snoc g p'.ne b], h1, h2, h3⟩
  nd := grown_nodup O rows L.opens L.nd fun x hx => ((L.mem x.1 x.2).mp hx).2
  small := by
    have := grown_small w O (t := t) rows L.opens
    have := L.small
    rw [Nat.pow_succ]
    lia
theorem Part.lt {g : Net} (w : WF g) {s t k : Nat} {r : List Nat} (p : Part g s t k r) : k < 8 := by
  have := nodup_le g.n r p.nd fun x hx => isOpen_lt w (p.op x hx)
  have := p.len
  have := w.n8
  lia
theorem Level.lt {g : Net} (w : WF g) {s t k : Nat} {rows : List (Nat × List Nat)} (L : Level g s t k rows) (h : rows ≠ []) : k < 8 := by
  cases rows with
  | nil => exact absurd rfl h
  | cons x l => exact ((L.mem x.1 x.2).mp List.mem_cons_self).1.lt w
theorem Fnd.start {g : Net} {s t : Nat} : Fnd g s t 0 [] := ⟨fun c r => ⟨fun h => (by cases h), fun ⟨⟨j, hj, _⟩, _⟩ => absurd hj (Nat.not_lt_zero _)⟩, List.nodup_nil, Nat.zero_le _⟩
theorem Fnd.next {g : Net} {s t k : Nat} {found rows : List (Nat × List Nat)} (F : Fnd g s t k found) (L : Level g s t k rows) : Fnd g s t (k + 1) (found ++ ended t rows) where
  mem := fun c r => by
    unfold ended
    rw [List.mem_append, List.mem_filter, F.mem, L.mem]
    constructor
    · rintro (⟨⟨j, hj, p⟩, h2, h3⟩ | ⟨⟨p, h3⟩, h2⟩)
      · exact ⟨⟨j, Nat.lt_succ_of_lt hj, p⟩, h2, h3⟩
      · exact ⟨⟨k, Nat.lt_succ_self _, p⟩, by simpa using h2, h3⟩
    · rintro ⟨⟨j, hj, p⟩, h2, h3⟩
      rcases Nat.lt_succ_iff_lt_or_eq.mp hj with q | q
      · exact .inl ⟨⟨j, q, p⟩, h2, h3⟩
      · subst q
        exact .inr ⟨⟨p, h3⟩, by simpa using h2⟩
  nd := by
    refine List.nodup_append.mpr ⟨F.nd, L.nd.sublist List.filter_sublist, fun x hx y hy e => ?_⟩
    subst e
    obtain ⟨⟨j, hj, p⟩, _⟩ := (F.mem x.1 x.2).mp hx
    have p2 := ((L.mem x.1 x.2).mp (List.mem_filter.mp hy).1).1
    have := p.len
    have := p2.len
    lia
  small := by
    rw [List.length_append, Nat.pow_succ]
    have h1 := F.small
    have h2 := L.small
    have h3 : (ended t rows).length ≤ rows.length := List.length_filter_le _ _
    have h4 : 0 < 8 ^ k := Nat.pow_pos (by decide)
    lia
theorem Part.back {g : Net} {s t : Nat} {k : Nat} : ∀ {d : Nat} {r : List Nat}, Part g s t (k + d) r → ∃ q, Part g s t k q
  | 0, r, p => ⟨r, p⟩
  | d + 1, r, p => by
    obtain ⟨q, b, rfl⟩ := snoc_shape r p.ne
    exact Part.back (d := d) ((Part.snoc (k := k + d)).mp p).1
theorem Fnd.done {g : Net} (w : WF g) {s t k : Nat} {found : List (Nat × List Nat)} (F : Fnd g s t k found) (L : Level g s t k []) {c : Nat} {r : List Nat} : (c, r) ∈ found ↔ Path g s t r ∧ c = g.length r := by
  rw [F.mem]
  constructor
  · rintro ⟨⟨j, hj, p⟩, h2, h3⟩
    exact ⟨⟨⟨p.hd, by rw [last_of p.ne, h2]⟩, ⟨p.ne, p.op, p.nd, p.st⟩⟩, h3⟩
  · rintro ⟨p, h3⟩
    have hne := p.way.ne
    have hl : lastN r = t := by have := p.ft.lt; rw [last_of hne] at this; simpa using this
    obtain ⟨q, b, e⟩ := snoc_shape r hne
    have hq : Part g s t (r.length - 1) r := by
      refine ⟨?_, p.ft.hd, p.way.op, p.way.nd, p.way.st, ?_⟩
      · have : r.length ≠ 0 := fun e => hne (List.length_eq_zero_iff.mp e)
        lia
      · have nd := p.way.nd
        rw [e] at nd hl ⊢
        rw [last_snoc] at hl
        rw [List.dropLast_concat]
        intro m
        exact (List.nodup_append.mp nd).2.2 t m b (by simp) hl.symm
    refine ⟨⟨r.length - 1, ?_, hq⟩, hl, h3⟩
    apply Decidable.byContradiction
    intro hlt
    obtain ⟨z, hz⟩ := Part.back (k := k) (d := r.length - 1 - k) (by rw [show k + (r.length - 1 - k) = r.length - 1 by lia]; exact hq)
    have := (L.mem (g.length z) z).mpr ⟨hz, rfl⟩
    cases this
noncomputable def Lt2 (x y : Nat × List Nat) : Prop := x.1 < y.1 ∨ (x.1 = y.1 ∧ x.2 < y.2)
structure AllWays (g : Net) (s t : Nat) (ps : List (Nat × List Nat)) : Prop where
  mem : ∀ c r, (c, r) ∈ ps ↔ Path g s t r ∧ c = g.length r
  nd : ps.Nodup
theorem Fnd.all {g : Net} (w : WF g) {s t k : Nat} {found : List (Nat × List Nat)} (F : Fnd g s t k found) (L : Level g s t k []) : AllWays g s t found := ⟨fun c r => F.done w L, F.nd⟩
theorem AllWays.closed {g : Net} {s t : Nat} (h : g.isOpen s = false) : AllWays g s t [] := ⟨fun c r => ⟨fun h => (by cases h), fun ⟨p, _⟩ => by have := p.opens.1; rw [h] at this; cases this⟩, List.nodup_nil⟩
theorem AllWays.perm {g : Net} {s t : Nat} {ps qs : List (Nat × List Nat)} (A : AllWays g s t ps) (h : qs.Perm ps) : AllWays g s t qs := ⟨fun c r => by rw [h.mem_iff]; exact A.mem c r, h.nodup_iff.mpr A.nd⟩
theorem AllWays.eq {g : Net} {s t : Nat} {ps : List (Nat × List Nat)} (A : AllWays g s t ps) : ps = (ps.map (·.2)).map fun r => (g.length r, r) := by
  rw [List.map_map]
  have : ps.map ((fun r => (g.length r, r)) ∘ (·.2)) = ps.map id := List.map_congr_left fun x hx => by
    have := ((A.mem x.1 x.2).mp hx).2
    exact Prod.ext this.symm rfl
  rw [this, List.map_id]
theorem AllWays.rows_mem {g : Net} {s t : Nat} {ps : List (Nat × List Nat)} (A : AllWays g s t ps) (r : List Nat) : r ∈ ps.map (·.2) ↔ Path g s t r := by
  rw [List.mem_map]
  constructor
  · rintro ⟨⟨c, q⟩, h, rfl⟩
    exact ((A.mem _ _).mp h).1
  · intro p
    exact ⟨(g.length r, r), (A.mem _ _).mpr ⟨p, rfl⟩, rfl⟩
theorem AllWays.rows_nodup {g : Net} {s t : Nat} {ps : List (Nat × List Nat)} (A : AllWays g s t ps) : (ps.map (·.2)).Nodup := by
  have nd := A.nd
  rw [A.eq] at nd
  exact nodup_of_map _ nd
theorem AllWays.perm_ways {g : Net} (w : WF g) {s t : Nat} {ps : List (Nat × List Nat)} (A : AllWays g s t ps) : (ps.map (·.2)).Perm (g.ways s t) :=
  (List.perm_ext_iff_of_nodup A.rows_nodup (ways_nodup w)).mpr fun r => by rw [A.rows_mem, mem_ways w]
theorem AllWays.sorted {g : Net} (w : WF g) {s t : Nat} {ps : List (Nat × List Nat)} (A : AllWays g s t ps) (h : ps.Pairwise fun x y => ¬ Lt2 y x) : ps = (g.ways s t).map fun r => (g.length r, r) := by
  have e : ps.map (·.2) = g.ways s t := by
    refine ways_unique w A.rows_mem ?_
    refine List.pairwise_map.mpr ?_
    have h2 : ps.Pairwise fun x y => x ≠ y := A.nd
    refine List.Pairwise.imp_of_mem ?_ (List.Pairwise.and h h2)
    rintro ⟨c, l⟩ ⟨d, r⟩ hx hy ⟨hn, hne⟩
    obtain ⟨_, rfl⟩ := (A.mem _ _).mp hx
    obtain ⟨_, rfl⟩ := (A.mem _ _).mp hy
    unfold Lt2 at hn
    unfold Bef
    dsimp only at hn ⊢
    rcases Nat.lt_trichotomy (g.length l) (g.length r) with q | q | q
    · exact .inl q
    · refine .inr ⟨q, ?_⟩
      have : ¬ r < l := fun z => hn (.inr ⟨q.symm, z⟩)
      have hle : l ≤ r := List.not_lt.mp this
      rcases Decidable.em (l < r) with z | z
      · exact z
      · have : l = r := List.le_antisymm hle (List.not_lt.mp z)
        exact absurd (by rw [this]) hne
    · exact absurd (.inl q) hn
  rw [← e]
  exact A.eq
noncomputable def yB (s t : Nat) : Nat → List (List Nat)
  | 0 => [[s]]
  | k + 1 => if k ≠ s ∧ k ≠ t then yB s t k ++ (yB s t k).map (fun side => side ++ [k]) else yB s t k
noncomputable def inS (side : List Nat) (v : Nat) : Bool := side.contains v
noncomputable def leadOut (l : List (Nat × Nat)) (side : List Nat) : List (Nat × Nat) := l.filter (leaves (inS side))
noncomputable def ltP (x y : Nat × Nat) : Bool := decide (x.1 < y.1 ∨ (x.1 = y.1 ∧ x.2 < y.2))
noncomputable def ltL : List (Nat × Nat) → List (Nat × Nat) → Bool
  | [], [] => false
  | [], _ :: _ => true
  | _ :: _, [] => false
  | x :: r, y :: t => if x = y then ltL r t else ltP x y
noncomputable def lessR (r t : List (Nat × Nat)) : Bool := if r.length = t.length then ltL r t else decide (r.length < t.length)
theorem sides_length (s t : Nat) : ∀ k, (yB s t k).length ≤ 2 ^ k
  | 0 => Nat.le_refl _
  | k + 1 => by
    have ih := sides_length s t k
    unfold yB
    rw [Nat.pow_succ]
    split
    · rw [List.length_append, List.length_map]; lia
    · lia
theorem sides_len1 {s t : Nat} : ∀ {k : Nat} {side : List Nat}, side ∈ yB s t k → side.length ≤ k + 1
  | 0, side, h => by
    have : side = [s] := by simpa [yB] using h
    rw [this]; exact Nat.le_refl _
  | k + 1, side, h => by
    unfold yB at h
    split at h
    · rcases List.mem_append.mp h with h | h
      · exact Nat.le_succ_of_le (sides_len1 h)
      · obtain ⟨q, hq, rfl⟩ := List.mem_map.mp h
        have := sides_len1 hq
        rw [List.length_append]; simp; lia
    · exact Nat.le_succ_of_le (sides_len1 h)
theorem sides_ne (s t k : Nat) : yB s t k ≠ [] := by
  induction k with
  | zero => simp [yB]
  | succ k ih =>
    unfold yB
    split
    · intro e
      exact ih (List.append_eq_nil_iff.mp e).1
    · exact ih
theorem sides_ok {s t : Nat} (hst : s ≠ t) : ∀ {k : Nat} {side : List Nat}, side ∈ yB s t k → s ∈ side ∧ t ∉ side
  | 0, side, h => by
    have : side = [s] := by simpa [yB] using h
    rw [this]; exact ⟨by simp, by simpa using fun e => hst e.symm⟩
  | k + 1, side, h => by
    unfold yB at h
    split at h
    · rename_i hk
      rcases List.mem_append.mp h with h | h
      · exact sides_ok hst h
      · obtain ⟨q, hq, rfl⟩ := List.mem_map.mp h
        obtain ⟨h1, h2⟩ := sides_ok hst hq
        refine ⟨List.mem_append_left _ h1, fun m => ?_⟩
        rcases List.mem_append.mp m with m | m
        · exact h2 m
        · exact hk.2 (by have : t = k := by simpa using m
                         exact this.symm)
    · exact sides_ok hst h
theorem sides_parts {s t k : Nat} (hst : s ≠ t) {side : List Nat} (h : side ∈ yB s t k) : Parts s t (inS side) := by
  obtain ⟨h1, h2⟩ := sides_ok hst h
  exact ⟨by simpa [inS] using h1, by simpa [inS] using h2⟩
theorem sides_all {s t : Nat} (S : Nat → Bool) : ∀ k, ∃ side, side ∈ yB s t k ∧ ∀ v, v ∈ side ↔ (v = s ∨ (v < k ∧ v ≠ s ∧ v ≠ t ∧ S v = true))
  | 0 => ⟨[s], by simp [yB], fun v => by simp⟩
  | k + 1 => by
    obtain ⟨side, hm, hv⟩ := sides_all S k
    unfold yB
    by_cases hk : k ≠ s ∧ k ≠ t
    · rw [if_pos hk]
      cases hS : S k with
      | true =>
        refine ⟨side ++ [k], List.mem_append_right _ (List.mem_map.mpr ⟨side, hm, rfl⟩), fun v => ?_⟩
        rw [List.mem_append, hv, List.mem_singleton]
        constructor
        · rintro ((h | ⟨h1, h2⟩) | h)
          · exact .inl h
          · exact .inr ⟨by lia, h2⟩
          · subst h; exact .inr ⟨by lia, hk.1, hk.2, hS⟩
        · rintro (h | ⟨h1, h2⟩)
          · exact .inl (.inl h)
          · by_cases e : v = k
            · exact .inr e
            · exact .inl (.inr ⟨by lia, h2⟩)
      | false =>
        refine ⟨side, List.mem_append_left _ hm, fun v => ?_⟩
        rw [hv]
        constructor
        · rintro (h | ⟨h1, h2⟩)
          · exact .inl h
          · exact .inr ⟨by lia, h2⟩
        · rintro (h | ⟨h1, h2⟩)
          · exact .inl h
          · refine .inr ⟨?_, h2⟩
            have : v ≠ k := fun e => by rw [e, hS] at h2; exact absurd h2.2.2 (by decide)
            lia
    · rw [if_neg hk]
      refine ⟨side, hm, fun v => ?_⟩
      rw [hv]
      constructor
      · rintro (h | ⟨h1, h2⟩)
        · exact .inl h
        · exact .inr ⟨by lia, h2⟩
      · rintro (h | ⟨h1, h2⟩)
        · exact .inl h
        · refine .inr ⟨?_, h2⟩
          have : v ≠ k := fun e => hk ⟨fun z => h2.1 (e.trans z), fun z => h2.2.1 (e.trans z)⟩
          lia
theorem lead_of {n s t : Nat} {l : List (Nat × Nat)} (f : Fine n l) {S : Nat → Bool} (p : Parts s t S) : ∃ side, side ∈ yB s t n ∧ leadOut l side = l.filter (leaves S) := by
  obtain ⟨side, hm, hv⟩ := sides_all (s := s) (t := t) S n
  refine ⟨side, hm, ?_⟩
  have key : ∀ v, v < n → inS side v = S v := fun v h => by
    unfold inS
    rw [Bool.eq_iff_iff, List.contains_iff_mem, hv]
    constructor
    · rintro (e | ⟨_, _, _, e⟩)
      · rw [e]; exact p.1
      · exact e
    · intro e
      by_cases e1 : v = s
      · exact .inl e1
      · exact .inr ⟨h, e1, (fun z => by rw [z, p.2] at e; cases e), e⟩
  unfold leadOut
  refine List.filter_congr fun x hx => ?_
  obtain ⟨h1, h2⟩ := f.2 x hx
  unfold leaves
  rw [key _ h1, key _ h2]
theorem ltL_total : ∀ {r t : List (Nat × Nat)}, ltL r t = false → ltL t r = false → r = t
  | [], [], _, _ => rfl
  | [], _ :: _, h, _ => by cases h
  | _ :: _, [], _, h => by cases h
  | x :: r, y :: t, h1, h2 => by
    unfold ltL at h1 h2
    by_cases e : x = y
    · subst e
      rw [if_pos rfl] at h1 h2
      rw [ltL_total h1 h2]
    · rw [if_neg e] at h1
      rw [if_neg (fun z => e z.symm)] at h2
      have h1 := of_decide_eq_false h1
      have h2 := of_decide_eq_false h2
      exact absurd (Prod.ext (by lia) (by lia)) e
theorem ahead_lt {S S0 : Nat → Bool} : ∀ {l : List (Nat × Nat)}, Ahead S S0 l → l.Pairwise (fun p q => p.1 < q.1 ∨ (p.1 = q.1 ∧ p.2 < q.2)) → (l.filter (leaves S0)).length = (l.filter (leaves S)).length → ltL (l.filter (leaves S0)) (l.filter (leaves S)) = false
  | [], _, _, _ => rfl
  | x :: r, h, hp, hl => by
    obtain ⟨hp1, hp2⟩ := List.pairwise_cons.mp hp
    rcases h with ⟨e, h⟩ | ⟨e1, e2⟩
    · cases q : leaves S x with
      | true =>
        rw [q] at e
        rw [List.filter_cons_of_pos e.symm, List.filter_cons_of_pos q] at hl ⊢
        unfold ltL
        rw [if_pos rfl]
        exact ahead_lt h hp2 (by simpa using hl)
      | false =>
        rw [q] at e
        rw [List.filter_cons_of_neg (by rw [← e]; decide), List.filter_cons_of_neg (by rw [q]; decide)] at hl ⊢
        exact ahead_lt h hp2 hl
    · rw [List.filter_cons_of_neg (by rw [e2]; decide), List.filter_cons_of_pos e1] at hl ⊢
      cases q : r.filter (leaves S0) with
      | nil => rw [q] at hl; cases hl
      | cons y t =>
        have hy : y ∈ r := (List.mem_filter.mp (q ▸ List.mem_cons_self : y ∈ r.filter (leaves S0))).1
        have hxy := hp1 y hy
        unfold ltL
        have hne : ¬ y = x := fun z => by rw [z] at hxy; lia
        rw [if_neg hne]
        exact decide_eq_false (by lia)
theorem least_parted {n s t : Nat} (hs : s < n) (hst : s ≠ t) {l : List (Nat × Nat)} (f : Fine n l) (hl : l.Pairwise fun p q => p.1 < q.1 ∨ (p.1 = q.1 ∧ p.2 < q.2)) {R : List (Nat × Nat)}
    (hm : R ∈ (yB s t n).map (leadOut l)) (hmin : ∀ R' ∈ (yB s t n).map (leadOut l), lessR R' R = false) : R = parted n s t l l ∧ R.length = mostOf n l s t := by
  obtain ⟨S, pS, e1, e2, e3⟩ := parted_spec hs hst f f.1 (fun x hx => hx)
  obtain ⟨side, h1, h2⟩ := lead_of f pS
  rw [← e2] at h2
  obtain ⟨sd, hsd, rfl⟩ := List.mem_map.mp hm
  have pd := sides_parts hst hsd
  have hle : mostOf n l s t ≤ (leadOut l sd).length := most_le hs hst f pd
  have hP := hmin (parted n s t l l) (h2 ▸ List.mem_map.mpr ⟨side, h1, rfl⟩)
  have hlen : (parted n s t l l).length = mostOf n l s t := parted_length hs hst f
  have hR : (leadOut l sd).length = mostOf n l s t := by
    unfold lessR at hP
    by_cases q : (parted n s t l l).length = (leadOut l sd).length
    · lia
    · rw [if_neg q] at hP
      have := of_decide_eq_false hP
      lia
  unfold lessR at hP
  rw [if_pos (by rw [hlen, hR])] at hP
  have ah := e3 (inS sd) pd hR
  have hlt : ltL (leadOut l sd) (parted n s t l l) = false := by
    rw [e2]
    refine ahead_lt ah hl ?_
    rw [← e2, hlen]; exact hR
  exact ⟨ltL_total hlt hP, hR⟩
theorem least_none {n s t : Nat} (hst : s ≠ t) {l : List (Nat × Nat)} (f : Fine n l) {S : Nat → Bool} (p : Parts s t S) (h0 : l.filter (leaves S) = []) {R : List (Nat × Nat)} (hmin : ∀ R' ∈ (yB s t n).map (leadOut l), lessR R' R = false) : R = [] := by
  obtain ⟨side, h1, h2⟩ := lead_of f p
  have hP := hmin [] (List.mem_map.mpr ⟨side, h1, by rw [h2, h0]⟩)
  unfold lessR at hP
  cases R with
  | nil => rfl
  | cons x r =>
    rw [if_neg (by simp)] at hP
    have := of_decide_eq_false hP
    simp at this
theorem apart_least {g : Net} (w : WF g) {s t : Nat} (hs : s < g.n) (ht : t < g.n) (hst : s ≠ t) {R : List (Nat × Nat)} (hm : R ∈ (yB s t g.n).map (leadOut g.live)) (hmin : ∀ R' ∈ (yB s t g.n).map (leadOut g.live), lessR R' R = false) :
    WaySpec.ask g (.apart s t) = tells (R.length : Nat) (R.flatMap fun x => [x.1, x.2]) := by
  have f := live_fine w
  have e0 : WaySpec.ask g (.apart s t) = if g.isOpen s = false ∨ g.isOpen t = false then tell 0 else tells (mostOf g.n g.live s t : Nat) ((parted g.n s t g.live g.live).flatMap fun (x : Nat × Nat) => [x.1, x.2]) := by
    show onNodes g [s, t] (if s = t then says (-1) else _) = _
    unfold onNodes
    rw [if_pos (by simp [there, hs, ht]), if_neg hst]
  rw [e0]
  by_cases ho : g.isOpen s = false ∨ g.isOpen t = false
  · rw [if_pos ho]
    have : R = [] := by
      rcases ho with h | h
      · refine least_none hst f (S := fun v => v == s) ⟨by simp, by simpa using fun e => hst e.symm⟩ ?_ hmin
        refine List.filter_eq_nil_iff.mpr fun x hx => ?_
        have q := (live_mem w (a := x.1) (b := x.2)).mp hx
        intro z
        simp only [leaves, Bool.and_eq_true, beq_iff_eq] at z
        rw [z.1, h] at q
        exact absurd q.2.1 (by decide)
      · refine least_none hst f (S := fun v => v != t) ⟨by simpa using hst, by simp⟩ ?_ hmin
        refine List.filter_eq_nil_iff.mpr fun x hx => ?_
        have q := (live_mem w (a := x.1) (b := x.2)).mp hx
        intro z
        simp only [leaves, Bool.and_eq_true, bne_iff_ne, Bool.not_eq_true', bne_eq_false_iff_eq] at z
        rw [z.2, h] at q
        exact absurd q.2.2 (by decide)
    rw [this]
    rfl
  · rw [if_neg ho]
    obtain ⟨h1, h2⟩ := least_parted hs hst f (live_sorted w) hm hmin
    rw [← h1, h2]
end WM
namespace FW
open PySem PySem.Spec PyProof.Rows L2
open WayNet WaySpec WM
noncomputable def bk (a b : Nat) : List Key := [Sum.inl (a : Int), Sum.inl (b : Int)]
theorem bk_inj {a b c d : Nat} (h : bk a b = bk c d) : a = c ∧ b = d := by
  unfold bk at h
  injection h with h1 h2
  injection h2 with h2 _
  injection h1 with h1
  injection h2 with h2
  lia
structure ArcsOk (g : Net) (kvs : List (List Key × V)) : Prop where
  nd : (kvs.map (·.1)).Nodup
  val : ∀ a b : Nat, valV kvs (bk a b) = (g.arc a b).map fun x => V.int (x.len : Int)
  key : ∀ e ∈ kvs, ∃ a b : Nat, e.1 = bk a b
theorem valV_drop {κ : Type} [DecidableEq κ] (k j : κ) : ∀ kvs : List (κ × V), valV (dropK kvs k) j = if j = k then none else valV kvs j
  | [] => by
    show none = _
    split <;> rfl
  | p :: r => by
    by_cases e : p.1 = k
    · rw [dropK_pos e, valV_drop k j r]
      by_cases q : j = k
      · rw [if_pos q, if_pos q]
      · rw [if_neg q, if_neg q, valV_neg (fun z => q (z.symm.trans e))]
    · rw [dropK_neg e]
      by_cases q : p.1 = j
      · rw [valV_pos q, valV_pos q, if_neg (fun z => e (q.trans z))]
      · rw [valV_neg q, valV_neg q, valV_drop k j r]
theorem nd_put {κ : Type} [DecidableEq κ] {kvs : List (κ × V)} (k : κ) (v : V) (hn : (kvs.map (·.1)).Nodup) : ((putK kvs k v).map (·.1)).Nodup := by
  cases h : valV kvs k with
  | none => exact nd_putK v hn h
  | some w =>
    have e : (putK kvs k v).map (·.1) = kvs.map (·.1) := by
      unfold putK
      rw [valV_any, h]
      rw [if_pos (by rfl), List.map_map]
      refine List.map_congr_left fun p _ => ?_
      show (if p.1 = k then (p.1, v) else p).1 = p.1
      split <;> rfl
    rw [e]; exact hn
theorem put_keys {κ : Type} [DecidableEq κ] {kvs : List (κ × V)} {k : κ} {v : V} {e : κ × V} (h : e ∈ putK kvs k v) : e.1 = k ∨ ∃ e' ∈ kvs, e'.1 = e.1 := by
  unfold putK at h
  split at h
  · obtain ⟨p, hp, q⟩ := List.mem_map.mp h
    split at q
    · rename_i z; exact .inl (by rw [← q]; exact z)
    · exact .inr ⟨p, hp, by rw [q]⟩
  · rcases List.mem_append.mp h with q | q
    · exact .inr ⟨e, q, rfl⟩
    · exact .inl (by rw [List.mem_singleton.mp q])
theorem ArcsOk.empty (n : Nat) : ArcsOk (netOf n) [] := ⟨List.nodup_nil, fun _ _ => rfl, fun _ h => by cases h⟩
theorem ArcsOk.put {g : Net} {kvs : List (List Key × V)} (h : ArcsOk g kvs) (w : WF g) {a b len : Nat} (ha : a < g.n) (hb : b < g.n) (hab : a ≠ b) (hl : len ≤ 65535) :
    ArcsOk ⟨g.n, withArc g.arcs ⟨a, b, len⟩, g.opened⟩ (putK kvs (bk a b) (.int (len : Int))) := by
  refine ⟨nd_put _ _ h.nd, fun c d => ?_, fun e he => ?_⟩
  · rw [valV_put, arc_put w ha hb hab hl]
    by_cases q : c = a ∧ d = b
    · rw [if_pos q, if_pos (by rw [q.1, q.2])]; rfl
    · rw [if_neg q, if_neg (fun z => q (bk_inj z)), h.val]
  · rcases put_keys he with q | ⟨e', he', q⟩
    · exact ⟨a, b, q⟩
    · rw [← q]; exact h.key e' he'
theorem ArcsOk.cut {g : Net} {kvs : List (List Key × V)} (h : ArcsOk g kvs) (w : WF g) (a b : Nat) :
    ArcsOk ⟨g.n, g.arcs.filter (fun (y : WayNet.Arc) => !(y.a == a && y.b == b)), g.opened⟩ (dropK kvs (bk a b)) := by
  refine ⟨nd_dropK h.nd, fun c d => ?_, fun e he => h.key e (dropK_mem he)⟩
  rw [valV_drop, arc_cut w]
  by_cases q : c = a ∧ d = b
  · rw [if_pos q, if_pos (by rw [q.1, q.2])]; rfl
  · rw [if_neg q, if_neg (fun z => q (bk_inj z)), h.val]
theorem ArcsOk.close {g : Net} {kvs : List (List Key × V)} (h : ArcsOk g kvs) (o : List Bool) : ArcsOk ⟨g.n, g.arcs, o⟩ kvs := ⟨h.nd, h.val, h.key⟩
theorem ArcsOk.pairs {g : Net} {kvs : List (List Key × V)} (h : ArcsOk g kvs) : ∃ es : List (Nat × Nat), kvs.map (·.1) = es.map (fun e => bk e.1 e.2) ∧ es.Nodup ∧ ∀ a b, (a, b) ∈ es ↔ (g.arc a b).isSome = true := by
  have ex : ∀ l : List (List Key × V), (∀ e ∈ l, ∃ a b : Nat, e.1 = bk a b) → ∃ es : List (Nat × Nat), l.map (·.1) = es.map (fun e => bk e.1 e.2) := by
    intro l
    induction l with
    | nil => intro _; exact ⟨[], rfl⟩
    | cons e l ih =>
      intro q
      obtain ⟨a, b, z⟩ := q e List.mem_cons_self
      obtain ⟨es, z2⟩ := ih fun x hx => q x (List.mem_cons_of_mem _ hx)
      exact ⟨(a, b) :: es, by rw [List.map_cons, List.map_cons, z, z2]⟩
  obtain ⟨es, e⟩ := ex kvs h.key
  refine ⟨es, e, ?_, fun a b => ?_⟩
  · have nd := h.nd
    rw [e] at nd
    have := List.pairwise_map.mp nd
    exact List.Pairwise.imp (fun hne z => hne (by rw [z])) this
  · have v := h.val a b
    constructor
    · intro hm
      cases q : g.arc a b with
      | some x => rfl
      | none =>
        rw [q] at v
        have hn := valV_not v
        rw [e] at hn
        exact absurd (List.mem_map.mpr ⟨(a, b), hm, rfl⟩) hn
    · intro hs
      obtain ⟨x, q⟩ := Option.isSome_iff_exists.mp hs
      rw [q] at v
      have hi := valV_in v
      rw [e] at hi
      obtain ⟨p, hp, z⟩ := List.mem_map.mp hi
      obtain ⟨z1, z2⟩ := bk_inj z
      rw [← z1, ← z2]; exact hp
theorem ArcsOk.small {g : Net} {kvs : List (List Key × V)} (h : ArcsOk g kvs) (w : WF g) : kvs.length ≤ 64 := by
  obtain ⟨es, e, nd, m⟩ := h.pairs
  have hl : kvs.length = es.length := by
    have := congrArg List.length e
    simpa using this
  have lt : ∀ p ∈ es, p.1 < 8 ∧ p.2 < 8 := by
    intro p hp
    have := (m p.1 p.2).mp hp
    obtain ⟨x, hx⟩ := Option.isSome_iff_exists.mp this
    obtain ⟨h1, h2, h3⟩ := arc_some hx
    have := w.arcs x h1
    have := w.n8
    lia
  have := nodup_le 64 (es.map fun p => p.1 * 8 + p.2) (by
    unfold List.Nodup
    rw [List.pairwise_map]
    refine List.Pairwise.imp_of_mem ?_ nd
    intro p q hp hq hne z
    have h1 := lt p hp
    have h2 := lt q hq
    apply hne
    have a1 : p.1 = q.1 := by lia
    have a2 : p.2 = q.2 := by lia
    exact Prod.ext a1 a2) (by
    intro x hx
    obtain ⟨p, hp, z⟩ := List.mem_map.mp hx
    have := lt p hp
    lia)
  rw [List.length_map] at this
  lia
theorem pe_gi {X : Cx} {x : Str} {n : Int} {pos : Pos} (hg : Gl X x) (h : ∃ t, X.mg x = some (.int n t)) (hd : (x == ("__debug__" : Str)) = false := by decide) : PE X (.Name x pos) (tC (.int n)) := by
  obtain ⟨t, h⟩ := h
  exact pe_glob hg h ⟨t, rfl⟩ hd
theorem sh (T : TS) {X : Cx} {s : List Stmt} (h : PSs X s T) : PSs X s T := h
noncomputable def top (i : Nat) : Stmt := PySem.Challenge.pw_ferryways_s01_answers.main.body.getD i (.Pass ⟨0, 0, 0, 0⟩)
noncomputable abbrev sNet : Stmt := top 30
noncomputable abbrev sBegin : Stmt := yH sNet 1
noncomputable abbrev sHas : Stmt := yH sNet 2
noncomputable abbrev sBoth : Stmt := yH sNet 3
noncomputable abbrev sLen : Stmt := yH sNet 7
structure Txt (K : PySem.W.Frag) (mg : Str → Option Value) (C : Addr) : Prop where
  cl : Cls K C
  nClosed : NoAttr K C "closed"
  nArcs : NoAttr K C "arcs"
  nSearch : NoAttr K C "search"
  nTold : NoAttr K C "told"
  m_Net : mg "Net" = some (.ref C)
  len : mg "len" = none
  range : mg "range" = none
  enumerate : mg "enumerate" = none
  sorted : mg "sorted" = none
  min : mg "min" = none
  list : mg "list" = none
  zip : mg "zip" = none
  g_DONE : ∃ t, mg "DONE" = some (.int 0 t)
  g_NOT_THERE : ∃ t, mg "NOT_THERE" = some (.int (-1) t)
  g_NONE_SUCH : ∃ t, mg "NONE_SUCH" = some (.int (-2) t)
  g_NO_SEARCH : ∃ t, mg "NO_SEARCH" = some (.int (-3) t)
  g_BEGIN : ∃ t, mg "BEGIN" = some (.int 0 t)
  g_ARC : ∃ t, mg "ARC" = some (.int 1 t)
  g_CUT : ∃ t, mg "CUT" = some (.int 2 t)
  g_CLOSE : ∃ t, mg "CLOSE" = some (.int 3 t)
  g_LEN : ∃ t, mg "LEN" = some (.int 4 t)
  g_DIST : ∃ t, mg "DIST" = some (.int 5 t)
  g_WAY : ∃ t, mg "WAY" = some (.int 6 t)
  g_SEARCH : ∃ t, mg "SEARCH" = some (.int 7 t)
  g_NEXT : ∃ t, mg "NEXT" = some (.int 8 t)
  g_TOLD : ∃ t, mg "TOLD" = some (.int 9 t)
  g_NTH : ∃ t, mg "NTH" = some (.int 10 t)
  g_WAYS : ∃ t, mg "WAYS" = some (.int 11 t)
  g_PLACE : ∃ t, mg "PLACE" = some (.int 12 t)
  g_APART : ∃ t, mg "APART" = some (.int 14 t)
  g_NET : ∃ t, mg "NET" = some (.int 15 t)
  g_MOST_NODES : ∃ t, mg "MOST_NODES" = some (.int 8 t)
  g_LONGEST_ARC : ∃ t, mg "LONGEST_ARC" = some (.int 65535 t)
noncomputable def nf (lc da : Addr) (sv tv : V) : List (Str × V) := [("closed", .ref lc), ("arcs", .ref da), ("search", sv), ("told", tv)]
noncomputable def rowV (r : List Nat) : List V := r.map fun (n : Nat) => V.int (n : Int)
noncomputable def PairAt (H : Hp) (v : V) (x : Nat × List Nat) : Prop := ∃ q ra, v = .ref q ∧ H q = some (.tup [.int (x.1 : Nat), .ref ra]) ∧ H ra = some (.lst (rowV x.2))
noncomputable def PairsAt (H : Hp) (q : Addr) (ps : List (Nat × List Nat)) : Prop := ∃ vs, H q = some (.lst vs) ∧ Paired (PairAt H) vs ps
noncomputable def wayPairs (g : Net) (s t : Nat) : List (Nat × List Nat) := (g.ways s t).map fun r => (g.length r, r)
noncomputable def SeAt (H : Hp) (sv tv : V) (g : Net) : Option Search → Prop
  | none => sv = .non
  | some x => ∃ q, sv = .ref q ∧ PairsAt H q (wayPairs g x.s x.t) ∧ tv = .int (x.told : Nat) ∧ x.told ≤ (g.ways x.s x.t).length
structure NetAt (C : Addr) (H : Hp) (p dx lc da : Addr) (st : State) : Prop where
  wf : WF st.net
  ob : ∃ sv tv, H p = some (.ins C dx (nf lc da sv tv)) ∧ SeAt H sv tv st.net st.search
  cl : H lc = some (.lst (st.net.opened.map fun b => V.bl (!b)))
  ar : ∃ kvs, H da = some (.dT kvs) ∧ ArcsOk st.net kvs
theorem PairAt.mono {H H' : Hp} (s : Same H H') {v : V} {x : Nat × List Nat} : PairAt H v x → PairAt H' v x
  | ⟨q, ra, e, h1, h2⟩ => ⟨q, ra, e, s _ _ h1, s _ _ h2⟩
theorem PairsAt.mono {H H' : Hp} (s : Same H H') {q : Addr} {ps : List (Nat × List Nat)} : PairsAt H q ps → PairsAt H' q ps
  | ⟨vs, h, p⟩ => ⟨vs, s _ _ h, L2.Paired.mapP p fun _ _ z => PairAt.mono s z⟩
theorem SeAt.mono {H H' : Hp} (s : Same H H') {sv tv : V} {g : Net} : ∀ {o : Option Search}, SeAt H sv tv g o → SeAt H' sv tv g o
  | none, h => h
  | some _, ⟨q, e, h, r⟩ => ⟨q, e, h.mono s, r⟩
theorem NetAt.mono {C : Addr} {H H' : Hp} {p dx lc da : Addr} {st : State} (s : Same H H') (h : NetAt C H p dx lc da st) : NetAt C H' p dx lc da st :=
  ⟨h.wf, let ⟨sv, tv, a, b⟩ := h.ob; ⟨sv, tv, s _ _ a, b.mono s⟩, s _ _ h.cl, let ⟨k, a, b⟩ := h.ar; ⟨k, s _ _ a, b⟩⟩
theorem nf_closed (lc da : Addr) (sv tv : V) : (nf lc da sv tv).lookup ("closed" : Str) = some (V.ref lc) := by rfl
theorem nf_arcs (lc da : Addr) (sv tv : V) : (nf lc da sv tv).lookup ("arcs" : Str) = some (V.ref da) := by rfl
theorem nf_search (lc da : Addr) (sv tv : V) : (nf lc da sv tv).lookup ("search" : Str) = some sv := by rfl
theorem nf_told (lc da : Addr) (sv tv : V) : (nf lc da sv tv).lookup ("told" : Str) = some tv := by rfl
theorem nf_setS (lc da : Addr) (sv tv v : V) : putF ("search" : Str) v (nf lc da sv tv) = nf lc da v tv := by rfl
theorem nf_setT (lc da : Addr) (sv tv v : V) : putF ("told" : Str) v (nf lc da sv tv) = nf lc da sv v := by rfl
theorem nf_setC (lc da lc' : Addr) (sv tv : V) : putF ("closed" : Str) (V.ref lc') (nf lc da sv tv) = nf lc' da sv tv := by rfl
theorem nf_setA (lc da da' : Addr) (sv tv : V) : putF ("arcs" : Str) (V.ref da') (nf lc da sv tv) = nf lc da' sv tv := by rfl
noncomputable def Kept (H H' : Hp) (p lc da : Addr) : Prop := ∀ b o, H b = some o → b ≠ p → b ≠ lc → b ≠ da → H' b = some o
noncomputable def Chg (C : Addr) (H : Hp) (p dx lc da : Addr) (Q : VK) (st' : State) (r : Int) : Prop :=
  ∀ (H' : Hp) (lc' da' : Addr), NetAt C H' p dx lc' da' st' → Kept H H' p lc da → (lc' = lc ∨ H lc' = none) → (da' = da ∨ H da' = none) → Q (.int r) H'
theorem Kept.refl (H : Hp) (p lc da : Addr) : Kept H H p lc da := fun _ _ h _ _ _ => h
theorem Chg.none {C : Addr} {H : Hp} {p dx lc da : Addr} {Q : VK} {st : State} {r : Int} (c : Chg C H p dx lc da Q st r) (h : NetAt C H p dx lc da st) : Q (.int r) H := c H lc da h (Kept.refl _ _ _ _) (.inl rfl) (.inl rfl)
theorem there2 {g : Net} {a b : Nat} : there g [a, b] = (decide (a < g.n) && decide (b < g.n)) := by simp [there]
theorem there1 {g : Net} {a : Nat} : there g [a] = decide (a < g.n) := by simp [there]
section
variable {P : Program} {w : World} {K : PySem.W.Frag} {mg : Str → Option Value} {base : Heap}
inductive IspHas (C : Addr) (vs : List V) (H : Hp) (Q : VK) : Prop
  | mk (p dx lc da : Addr) (st : State) (v : Nat) (_h1 : vs = [.ref p, .int (v : Int)]) (_h2 : NetAt C H p dx lc da st) (_h3 : Q (.bl (decide (v < st.net.n))) H) : IspHas C vs H Q
noncomputable def spHas (C : Addr) : Sp := fun vs H Q _ => IspHas C vs H Q
theorem scHas : zR ["self", "node"] ["self", "node"] (zH sHas) := ⟨rfl, rfl, rfl, by decide +kernel, rfl, by decide +kernel, by decide +kernel⟩
theorem ok_has {f C : Addr} {fd : FuncData} (F : Fun K "has" "Net.has" sHas f fd) (T : Txt K mg C) : FnOk P w K mg base CX0 1 f fd ["self", "node"] (spHas C) := by
  refine F.ok scHas (fun vs H Q E h => ?_) (fun cdv A outer s H vs Q E hr h => ?_)
  · obtain ⟨p, dx, lc, da, st, v, rfl, _⟩ := h
    rfl
  · obtain ⟨p, dx, lc, da, st, v, rfl, hN, k⟩ := h
    refine ⟨_, (zD (zL (pe_cmpR op_lt (pv 1) (yG zS (by rfl) T.len PySem.boot_len (zA (yF (pv 0) rfl) zF)) (yC _)))), ?_⟩
    obtain ⟨sv, tv, hp, _⟩ := hN.ob
    refine ⟨_, rfl, _, rfl, p, C, dx, _, _, rfl, hp, T.cl, T.nClosed, nf_closed _ _ _ _, lc, _, rfl, .inl (SqL.of hN.cl), _, _, rfl, rfl, ?_⟩
    have e : decide ((v : Int) < ((st.net.opened.map fun b => V.bl (!b)).length : Int)) = decide (v < st.net.n) := by
      rw [List.length_map, hN.wf.op]
      exact decide_eq_decide.mpr (by lia)
    show Q (.bl (decide ((v : Int) < ((st.net.opened.map fun b => V.bl (!b)).length : Int)))) H
    rw [e]
    exact k
inductive IspBoth (C : Addr) (vs : List V) (H : Hp) (Q : VK) : Prop
  | mk (p dx lc da : Addr) (st : State) (a b : Nat) (_h1 : vs = [.ref p, .int (a : Int), .int (b : Int)]) (_h2 : NetAt C H p dx lc da st) (_h3 : Q (.bl (there st.net [a, b])) H) : IspBoth C vs H Q
noncomputable def spBoth (C : Addr) : Sp := fun vs H Q _ => IspBoth C vs H Q
theorem scBoth : zR ["self", "a", "b"] ["self", "a", "b"] (zH sBoth) := ⟨rfl, rfl, rfl, by decide +kernel, rfl, by decide +kernel, by decide +kernel⟩
theorem ok_both {f C fH : Addr} {fd fdH : FuncData} (F : Fun K "has_both" "Net.has_both" sBoth f fd) (T : Txt K mg C) (FH : Fun K "has" "Net.has" sHas fH fdH) (b_has : Binds K fdH ["self", "node"] []) (mt_has : Meth K C "has" fH) :
    FnOk P w K mg base CX0 2 f fd ["self", "a", "b"] (spBoth C) := by
  have G_has : FnOk P w K mg base CX0 1 fH fdH ["self", "node"] (spHas C) := ok_has FH T
  refine F.ok scBoth (fun vs H Q E h => ?_) (fun cdv A outer s H vs Q E hr h => ?_)
  · obtain ⟨p, dx, lc, da, st, a, b, rfl, _⟩ := h
    rfl
  · obtain ⟨p, dx, lc, da, st, a, b, rfl, hN, k⟩ := h
    refine ⟨_, (zD (zL (pe_and (zW (pv 0) T.cl mt_has G_has hr b_has .nil pass0 (zA (pv 1) zF)) (pe_one (zW (pv 0) T.cl mt_has G_has hr b_has .nil pass0 (zA (pv 2) zF)))))), ?_⟩
    obtain ⟨sv, tv, hp, _⟩ := hN.ob
    rw [there2] at k
    refine ⟨_, rfl, p, dx, _, rfl, hp, rfl, _, rfl, p, dx, lc, da, st, a, rfl, hN, _, rfl, ?_⟩
    refine ite2 (fun h1 => ?_) fun h1 => ?_
    · rw [h1, Bool.true_and] at k
      exact ⟨_, rfl, p, dx, _, rfl, hp, rfl, _, rfl, p, dx, lc, da, st, b, rfl, hN, k⟩
    · have h1 : decide (a < st.net.n) = false := by cases e : decide (a < st.net.n) with | true => exact absurd e h1 | false => rfl
      rw [h1, Bool.false_and] at k
      exact k
theorem Same.upd {H : Hp} {l : Addr} {o : HO} (h : H l = none) : Same H (upd H l o) := fun b u e => by rw [zE (zG e h)]; exact e
theorem zJ {n : Nat} (h : n ≤ 100000) : n ≤ sizeLine := Nat.le_trans h (by decide)
inductive IspBegin (C : Addr) (vs : List V) (H : Hp) (Q : VK) : Prop
  | mk (p dx lc da : Addr) (st : State) (n : Nat) (_h1 : vs = [.ref p, .int (n : Int)]) (_h2 : NetAt C H p dx lc da st) (_h3 : Chg C H p dx lc da Q (WaySpec.step st (.begin_ n)).1 (WaySpec.step st (.begin_ n)).2.ret) : IspBegin C vs H Q
noncomputable def spBegin (C : Addr) : Sp := fun vs H Q _ => IspBegin C vs H Q
theorem scBegin : zR ["self", "nodes"] ["self", "nodes"] (zH sBegin) := ⟨rfl, rfl, rfl, by decide +kernel, rfl, by decide +kernel, by decide +kernel⟩
theorem rep_one (n : Nat) : (List.replicate n [V.bl false]).flatten = (List.replicate n true).map fun b => V.bl (!b) := by
  induction n with
  | zero => rfl
  | succ n ih => rw [List.replicate_succ, List.replicate_succ, List.flatten_cons, ih]; rfl
theorem ok_begin {f C : Addr} {fd : FuncData} (F : Fun K "begin" "Net.begin" sBegin f fd) (T : Txt K mg C) : FnOk P w K mg base CX0 1 f fd ["self", "nodes"] (spBegin C) := by
  refine F.ok scBegin (fun vs H Q E h => ?_) (fun cdv A outer s H vs Q E hr h => ?_)
  · obtain ⟨p, dx, lc, da, st, n, rfl, _⟩ := h
    rfl
  · obtain ⟨p, dx, lc, da, st, n, rfl, hN, k⟩ := h
    refine let T3 : TS := _; let T2 : TS := _; let T1 : TS := _; ⟨_, (zC (ps_if (pw_or (zQ op_lt (pv 1) zN (yC _)) (pw_or1 (zQ op_gt (pv 1) (pe_gi (by rfl) T.g_MOST_NODES) (yC _)))).pt (zD (zL (pe_gi (by rfl) T.g_NOT_THERE))) zM)
      (sh T1 (zC (ps_fld (pv 0) (pe_op op_rep (pe_lst (zA pe_bl zF)) (pv 1)) rfl)
      (sh T2 (zC (ps_fld (pv 0) pe_dnewT rfl)
      (sh T3 (zC (ps_fld (pv 0) pe_non rfl)
      (zD (zL (pe_gi (by rfl) T.g_DONE)))))))))), ?_⟩
    obtain ⟨sv, tv, hp, _⟩ := hN.ob
    have refused : (n < 1 ∨ 8 < n) → Q (.int (-1)) H := fun h => by
      have e : WaySpec.step st (.begin_ n) = (st, says (-1)) := if_pos h
      rw [e] at k
      exact k.none hN
    refine ⟨_, rfl, _, _, rfl, rfl, _, rfl, ?_⟩
    refine ite2 (fun h1 => ?_) fun h1 => ?_
    · refine iteT ?_
      exact refused (.inl (by have := of_decide_eq_true h1; lia))
    · refine ⟨_, rfl, _, _, rfl, rfl, _, rfl, ?_⟩
      refine ite2 (fun h2 => ?_) fun h2 => ?_
      · exact refused (.inr (by have := of_decide_eq_true h2; lia))
      · have n1 : 1 ≤ n := by
          have h1 : ¬ ((n : Int) < 1) := fun q => h1 (decide_eq_true q)
          lia
        have n8 : n ≤ 8 := by
          have h2 : ¬ ((8 : Int) < (n : Int)) := fun q => h2 (decide_eq_true q)
          lia
        have hS : WaySpec.step st (.begin_ n) = (⟨netOf n, none⟩, says 0) := if_neg (by show ¬ (n < 1 ∨ 8 < n); lia)
        rw [hS] at k
        refine ⟨zJ (by decide), fun l0 e0 => ⟨_, rfl, l0, (n : Int), _, rfl, rfl, zB, (by lia), (by lia), zJ (by show 1 * (n : Int).toNat ≤ 100000; lia), fun l1 e1 => ?_⟩⟩
        have s1 : Same H (upd (upd H l0 (.lst [V.bl false])) l1 (.lst (List.replicate (n : Int).toNat [V.bl false]).flatten)) := (Same.upd e0).trans (Same.upd e1)
        refine ⟨_, rfl, p, C, dx, _, rfl, s1 _ _ hp, T.cl, T.nClosed, (by show 4 < 1000; decide), ?_⟩
        rw [nf_setC]
        intro l2 e2
        refine ⟨_, rfl, p, C, dx, _, rfl, Same.upd e2 _ _ zB, T.cl, T.nArcs, (by show 4 < 1000; decide), ?_⟩
        rw [nf_setA]
        refine ⟨_, rfl, p, C, dx, _, rfl, zB, T.cl, T.nSearch, (by show 4 < 1000; decide), ?_⟩
        rw [nf_setS]
        have fl : (List.replicate (n : Int).toNat [V.bl false]).flatten = (List.replicate n true).map fun b => V.bl (!b) := rep_one n
        rw [fl] at e2 ⊢
        refine k _ l1 l2 ⟨WF.netOf n1 n8, ⟨.non, _, zB, rfl⟩, ?_, ⟨[], ?_, ArcsOk.empty n⟩⟩ ?_ (.inr ?_) (.inr ?_)
        · show _ = some (HO.lst ((List.replicate n true).map fun b => V.bl (!b)))
          grind [upd]
        · grind [upd]
        · unfold Kept
          grind [upd]
        · grind [upd]
        · grind [upd]
end
noncomputable abbrev sInit : Stmt := yH sNet 0
noncomputable abbrev sArc : Stmt := yH sNet 4
noncomputable abbrev sCut : Stmt := yH sNet 5
noncomputable abbrev sClose : Stmt := yH sNet 6
theorem zK {c : Bool} {A B : Prop} (h1 : c = true → A) (h2 : c = false → B) : if c = true then A else B := by
  cases c with
  | true => rw [if_pos rfl]; exact h1 rfl
  | false => rw [if_neg (by decide)]; exact h2 rfl
theorem zU {c : Bool} {A B : Prop} (h1 : c = false → A) (h2 : c = true → B) : if (!c) = true then A else B := by
  cases c with
  | true => rw [if_neg (by decide)]; exact h2 rfl
  | false => rw [if_pos (by decide)]; exact h1 rfl
section
variable {P : Program} {w : World} {K : PySem.W.Frag} {mg : Str → Option Value} {base : Heap}
inductive IspInit (C : Addr) (vs : List V) (H : Hp) (Q : VK) : Prop
  | mk (p dx : Addr) (_h1 : vs = [.ref p]) (_h2 : H p = some (.ins C dx [])) (_h3 : ∀ (H' : Hp) (lc da : Addr), NetAt C H' p dx lc da WaySpec.start → (∀ b o, H b = some o → b ≠ p → H' b = some o) → H lc = none → H da = none → Q .non H') : IspInit C vs H Q
noncomputable def spInit (C : Addr) : Sp := fun vs H Q _ => IspInit C vs H Q
theorem scInit : zR ["self"] ["self"] (zH sInit) := ⟨rfl, rfl, rfl, by decide +kernel, rfl, by decide +kernel, by decide +kernel⟩
theorem ok_init {f C : Addr} {fd : FuncData} (F : Fun K "__init__" "Net.__init__" sInit f fd) (T : Txt K mg C) : FnOk P w K mg base CX0 1 f fd ["self"] (spInit C) := by
  refine F.ok scInit (fun vs H Q E h => ?_) (fun cdv A outer s H vs Q E hr h => ?_)
  · obtain ⟨p, dx, rfl, _⟩ := h
    rfl
  · obtain ⟨p, dx, rfl, hp, k⟩ := h
    refine let T2 : TS := _; let T1 : TS := _; ⟨_, (zC (ps_fld (pv 0) (pe_lst (zA pe_bl zF)) rfl)
      (sh T1 (zC (ps_fld (pv 0) pe_dnewT rfl)
      (sh T2 (zC (ps_fld (pv 0) pe_non rfl)
      (zD (ps_fld (pv 0) zN rfl))))))), ?_⟩
    refine ⟨zJ (by decide), fun l0 e0 => ⟨_, rfl, p, C, dx, _, rfl, Same.upd e0 _ _ hp, T.cl, T.nClosed, (by show 0 < 1000; decide), fun l1 e1 => ⟨_, rfl, p, C, dx, _, rfl, Same.upd e1 _ _ zB, T.cl, T.nArcs, (by show 1 < 1000; decide),
      ⟨_, rfl, p, C, dx, _, rfl, zB, T.cl, T.nSearch, (by show 2 < 1000; decide), ⟨_, rfl, p, C, dx, _, rfl, zB, T.cl, T.nTold, (by show 3 < 1000; decide), ?_⟩⟩⟩⟩⟩
    have ef : putF ("told" : Str) (V.int 0) (putF ("search" : Str) V.non (putF ("arcs" : Str) (V.ref l1) (putF ("closed" : Str) (V.ref l0) []))) = nf l0 l1 .non (.int 0) := by rfl
    rw [ef]
    have ne0 : p ≠ l0 := zG hp e0
    refine k _ l0 l1 ⟨WF.start, ⟨.non, _, zB, rfl⟩, ?_, ⟨[], ?_, ArcsOk.empty 1⟩⟩ ?_ ?_ ?_
    · show _ = some (HO.lst [V.bl false])
      grind [upd]
    · grind [upd]
    · grind [upd]
    · grind [upd]
    · grind [upd]
variable {f C fB fH : Addr} {fd fdB fdH : FuncData}
inductive IspArc (C : Addr) (vs : List V) (H : Hp) (Q : VK) : Prop
  | mk (p dx lc da : Addr) (st : State) (a b n : Nat) (_h1 : vs = [.ref p, .int (a : Int), .int (b : Int), .int (n : Int)]) (_h2 : NetAt C H p dx lc da st) (_h3 : Chg C H p dx lc da Q (WaySpec.step st (.arc a b n)).1 (WaySpec.step st (.arc a b n)).2.ret) : IspArc C vs H Q
noncomputable def spArc (C : Addr) : Sp := fun vs H Q _ => IspArc C vs H Q
theorem scArc : zR ["self", "a", "b", "length"] ["self", "a", "b", "length"] (zH sArc) := ⟨rfl, rfl, rfl, by decide +kernel, rfl, by decide +kernel, by decide +kernel⟩
theorem NetAt.ne {H : Hp} {p dx lc da : Addr} {st : State} (h : NetAt C H p dx lc da st) : p ≠ lc ∧ p ≠ da ∧ lc ≠ da := by
  obtain ⟨sv, tv, hp, _⟩ := h.ob
  obtain ⟨kvs, hd, _⟩ := h.ar
  exact ⟨ne_of hp h.cl (by intro q; cases q), ne_of hp hd (by intro q; cases q), ne_of h.cl hd (by intro q; cases q)⟩
theorem ok_arc (F : Fun K "set_arc" "Net.set_arc" sArc f fd) (T : Txt K mg C) (G_has_both : FnOk P w K mg base CX0 2 fB fdB ["self", "a", "b"] (spBoth C)) (b_has_both : Binds K fdB ["self", "a", "b"] []) (mt_has_both : Meth K C "has_both" fB) :
    FnOk P w K mg base CX0 3 f fd ["self", "a", "b", "length"] (spArc C) := by
  refine F.ok scArc (fun vs H Q E h => ?_) (fun cdv A outer s H vs Q E hr h => ?_)
  · obtain ⟨p, dx, lc, da, st, a, b, n, rfl, _⟩ := h
    rfl
  · obtain ⟨p, dx, lc, da, st, a, b, n, rfl, hN, k⟩ := h
    have hu := hu_of hr
    refine let T2 : TS := _; let T1 : TS := _; ⟨_, (zC (ps_if (pw_or (pt_not (pt_val (zW (pv 0) T.cl mt_has_both G_has_both hr b_has_both .nil pass0 (zA (pv 1) (zA (pv 2) zF))))) (pw_or (zQ op_eq (pv 1) (pv 2) (yC _)) (pw_or1 (zQ op_gt (pv 3) (pe_gi (by rfl) T.g_LONGEST_ARC) (yC _))))).pt (zD (zL (pe_gi (by rfl) T.g_NOT_THERE))) zM)
      (sh T1 (zC (ps_dput hu (yF (pv 0) rfl) (pe_tup (zA (pv 1) (zA (pv 2) zF))) (pv 3) rfl)
      (sh T2 (zC (ps_fld (pv 0) pe_non rfl)
      (zD (zL (pe_gi (by rfl) T.g_DONE)))))))), ?_⟩
    obtain ⟨sv, tv, hp, _⟩ := hN.ob
    obtain ⟨kvs, hd, ak⟩ := hN.ar
    have refused : (there st.net [a, b] = false ∨ a = b ∨ LONG < n) → Q (.int (-1)) H := fun h => by
      have e : WaySpec.step st (.arc a b n) = (st, says (-1)) := if_pos h
      rw [e] at k
      exact k.none hN
    refine ⟨_, rfl, p, dx, _, rfl, hp, rfl, _, rfl, _, rfl, p, dx, lc, da, st, a, b, rfl, hN, _, rfl, ?_⟩
    refine zU (fun h1 => iteT (refused (.inl h1))) fun h1 => ?_
    refine ⟨_, rfl, _, rfl, rfl, _, rfl, ?_⟩
    refine zK (fun h2 => iteT (refused (.inr (.inl (by have := of_decide_eq_true h2; injection this; lia))))) fun h2 => ?_
    refine ⟨_, rfl, _, _, rfl, rfl, _, rfl, ?_⟩
    refine zK (fun h3 => refused (.inr (.inr (by have := of_decide_eq_true h3; show 65535 < n; lia)))) fun h3 => ?_
    have hab : a ≠ b := fun q => by have := of_decide_eq_false h2; exact this (by rw [q])
    have hl : n ≤ 65535 := by have := of_decide_eq_false h3; lia
    rw [there2] at h1
    simp only [Bool.and_eq_true, decide_eq_true_eq] at h1
    have hS : WaySpec.step st (.arc a b n) = (⟨⟨st.net.n, withArc st.net.arcs ⟨a, b, n⟩, st.net.opened⟩, none⟩, says 0) := if_neg (by
      rw [there2]
      simp only [decide_eq_true h1.1, decide_eq_true h1.2]
      unfold LONG
      simp [hab]; lia)
    rw [hS] at k
    refine ⟨_, rfl, _, rfl, p, C, dx, _, _, rfl, hp, T.cl, T.nArcs, nf_arcs _ _ _ _, _, rfl, _, rfl, zJ (by show 2 ≤ 100000; decide), fun t et => ?_⟩
    refine ⟨da, _, rfl, DPut.t (k := bk a b) (Same.upd et _ _ hd) zB (Nat.lt_of_le_of_lt (ak.small hN.wf) (by decide)), ?_⟩
    obtain ⟨n1, n2, n3⟩ := hN.ne
    refine ⟨_, rfl, p, C, dx, _, rfl, (by rw [zE n2]; exact Same.upd et _ _ hp), T.cl, T.nSearch, (by show 4 < 1000; decide), ?_⟩
    rw [nf_setS]
    have hc := hN.cl
    refine k _ lc da ⟨hN.wf.put h1.1 h1.2 hab hl, ⟨.non, _, zB, rfl⟩, ?_, ⟨_, ?_, ak.put hN.wf h1.1 h1.2 hab hl⟩⟩ ?_ (.inl rfl) (.inl rfl)
    · show _ = some (HO.lst (st.net.opened.map fun b => V.bl (!b)))
      grind [upd]
    · grind [upd]
    · unfold Kept
      grind [upd]
inductive IspCut (C : Addr) (vs : List V) (H : Hp) (Q : VK) : Prop
  | mk (p dx lc da : Addr) (st : State) (a b : Nat) (_h1 : vs = [.ref p, .int (a : Int), .int (b : Int)]) (_h2 : NetAt C H p dx lc da st) (_h3 : Chg C H p dx lc da Q (WaySpec.step st (.cut a b)).1 (WaySpec.step st (.cut a b)).2.ret) : IspCut C vs H Q
noncomputable def spCut (C : Addr) : Sp := fun vs H Q _ => IspCut C vs H Q
theorem scCut : zR ["self", "a", "b"] ["self", "a", "b"] (zH sCut) := ⟨rfl, rfl, rfl, by decide +kernel, rfl, by decide +kernel, by decide +kernel⟩
theorem ok_cut (F : Fun K "cut_arc" "Net.cut_arc" sCut f fd) (T : Txt K mg C) (G_has_both : FnOk P w K mg base CX0 2 fB fdB ["self", "a", "b"] (spBoth C)) (b_has_both : Binds K fdB ["self", "a", "b"] []) (mt_has_both : Meth K C "has_both" fB) :
    FnOk P w K mg base CX0 3 f fd ["self", "a", "b"] (spCut C) := by
  refine F.ok scCut (fun vs H Q E h => ?_) (fun cdv A outer s H vs Q E hr h => ?_)
  · obtain ⟨p, dx, lc, da, st, a, b, rfl, _⟩ := h
    rfl
  · obtain ⟨p, dx, lc, da, st, a, b, rfl, hN, k⟩ := h
    have hu := hu_of hr
    refine let T3 : TS := _; let T2 : TS := _; let T1 : TS := _; ⟨_, (zC (ps_if (pt_not (pt_val (zW (pv 0) T.cl mt_has_both G_has_both hr b_has_both .nil pass0 (zA (pv 1) (zA (pv 2) zF))))) (zD (zL (pe_gi (by rfl) T.g_NOT_THERE))) zM)
      (sh T1 (zC (ps_if (pt_cmp (pc_dnotin hu (pe_tup (zA (pv 1) (zA (pv 2) zF))) (yF (pv 0) rfl))) (zD (zL (pe_gi (by rfl) T.g_NONE_SUCH))) zM)
      (sh T2 (zC (ps_expr (pe_dpopT hu (yF (pv 0) rfl) (pe_tup (zA (pv 1) (zA (pv 2) zF))) ⟨rfl, rfl, rfl, rfl⟩))
      (sh T3 (zC (ps_fld (pv 0) pe_non rfl)
      (zD (zL (pe_gi (by rfl) T.g_DONE)))))))))), ?_⟩
    obtain ⟨sv, tv, hp, hse⟩ := hN.ob
    obtain ⟨kvs, hd, ak⟩ := hN.ar
    have hc := hN.cl
    obtain ⟨n1, n2, n3⟩ := hN.ne
    refine ⟨_, rfl, p, dx, _, rfl, hp, rfl, _, rfl, _, rfl, p, dx, lc, da, st, a, b, rfl, hN, _, rfl, ?_⟩
    refine zU (fun h1 => ?_) fun h1 => ?_
    · have e : WaySpec.step st (.cut a b) = (st, says (-1)) := if_pos h1
      rw [e] at k
      exact k.none hN
    have e : WaySpec.step st (.cut a b) = (match st.net.arc a b with
      | none => (st, says (-2))
      | some _ => (⟨⟨st.net.n, st.net.arcs.filter (fun (y : WayNet.Arc) => !(y.a == a && y.b == b)), st.net.opened⟩, none⟩, says 0)) := if_neg (by rw [h1]; decide)
    rw [e] at k
    have hv := ak.val a b
    refine ⟨_, rfl, _, rfl, zJ (by show 2 ≤ 100000; decide), fun t et => ?_⟩
    refine ⟨_, rfl, p, C, dx, _, _, rfl, Same.upd et _ _ hp, T.cl, T.nArcs, nf_arcs _ _ _ _, da, _, rfl, DGet.t (k := bk a b) (Same.upd et _ _ hd) zB, _, rfl, ?_⟩
    refine zU (fun h2 => ?_) fun h2 => ?_
    · have ha : st.net.arc a b = none := by
        cases q : st.net.arc a b with
        | none => rfl
        | some x => rw [q] at hv; rw [hv] at h2; cases h2
      rw [ha] at k
      exact k _ lc da (hN.mono (Same.upd et)) (fun b o e _ _ _ => Same.upd et b o e) (.inl rfl) (.inl rfl)
    obtain ⟨v, hv2⟩ := Option.isSome_iff_exists.mp h2
    obtain ⟨x, hx⟩ : ∃ x, st.net.arc a b = some x := by
      cases q : st.net.arc a b with
      | none => rw [q] at hv; rw [hv] at hv2; cases hv2
      | some x => exact ⟨x, rfl⟩
    rw [hx] at k
    refine ⟨_, rfl, p, C, dx, _, _, rfl, Same.upd et _ _ hp, T.cl, T.nArcs, nf_arcs _ _ _ _, da, rfl, .inr ⟨_, .inl (Same.upd et _ _ hd)⟩, _, rfl, _, rfl, zJ (by show 2 ≤ 100000; decide), fun t2 et2 => ?_⟩
    refine ⟨_, bk a b, v, t2, Same.upd et2 _ _ (Same.upd et _ _ hd), rfl, zB, hv2, ?_⟩
    refine ⟨_, rfl, p, C, dx, _, rfl, (by rw [zE n2]; exact Same.upd et2 _ _ (Same.upd et _ _ hp)), T.cl, T.nSearch, (by show 4 < 1000; decide), ?_⟩
    rw [nf_setS]
    refine k _ lc da ⟨hN.wf.cut a b, ⟨.non, _, zB, rfl⟩, ?_, ⟨_, ?_, ak.cut hN.wf a b⟩⟩ ?_ (.inl rfl) (.inl rfl)
    · show _ = some (HO.lst (st.net.opened.map fun b => V.bl (!b)))
      grind [upd]
    · grind [upd]
    · unfold Kept
      grind [upd]
inductive IspClose (C : Addr) (vs : List V) (H : Hp) (Q : VK) : Prop
  | mk (p dx lc da : Addr) (st : State) (a b : Nat) (_h1 : vs = [.ref p, .int (a : Int), .int (b : Int)]) (_h2 : NetAt C H p dx lc da st) (_h3 : Chg C H p dx lc da Q (WaySpec.step st (.close a b)).1 (WaySpec.step st (.close a b)).2.ret) : IspClose C vs H Q
noncomputable def spClose (C : Addr) : Sp := fun vs H Q _ => IspClose C vs H Q
theorem scClose : zR ["self", "node", "c"] ["self", "node", "c"] (zH sClose) := ⟨rfl, rfl, rfl, by decide +kernel, rfl, by decide +kernel, by decide +kernel⟩
theorem ok_close (F : Fun K "close_node" "Net.close_node" sClose f fd) (T : Txt K mg C) (G_has : FnOk P w K mg base CX0 1 fH fdH ["self", "node"] (spHas C)) (b_has : Binds K fdH ["self", "node"] []) (mt_has : Meth K C "has" fH) :
    FnOk P w K mg base CX0 2 f fd ["self", "node", "c"] (spClose C) := by
  refine F.ok scClose (fun vs H Q E h => ?_) (fun cdv A outer s H vs Q E hr h => ?_)
  · obtain ⟨p, dx, lc, da, st, a, b, rfl, _⟩ := h
    rfl
  · obtain ⟨p, dx, lc, da, st, a, b, rfl, hN, k⟩ := h
    refine let T2 : TS := _; let T1 : TS := _; ⟨_, (zC (ps_if (pt_not (pt_val (zW (pv 0) T.cl mt_has G_has hr b_has .nil pass0 (zA (pv 1) zF)))) (zD (zL (pe_gi (by rfl) T.g_NOT_THERE))) zM)
      (sh T1 (zC (ps_asg (pe_cmpR op_ne (pv 2) zN (yC _)) (pg_sub (yF (pv 0) rfl) (pv 1) set_list))
      (sh T2 (zC (ps_fld (pv 0) pe_non rfl)
      (zD (zL (pe_gi (by rfl) T.g_DONE)))))))), ?_⟩
    obtain ⟨sv, tv, hp, hse⟩ := hN.ob
    obtain ⟨kvs, hd, ak⟩ := hN.ar
    have hc := hN.cl
    obtain ⟨n1, n2, n3⟩ := hN.ne
    refine ⟨_, rfl, p, dx, _, rfl, hp, rfl, _, rfl, p, dx, lc, da, st, a, rfl, hN, _, rfl, ?_⟩
    refine zU (fun h1 => ?_) fun h1 => ?_
    · have e : WaySpec.step st (.close a b) = (st, says (-1)) := if_pos (by rw [there1]; exact h1)
      rw [e] at k
      exact k.none hN
    have e : WaySpec.step st (.close a b) = (⟨⟨st.net.n, st.net.arcs, st.net.opened.set a (b == 0)⟩, none⟩, says 0) := if_neg (by rw [there1, h1]; decide)
    rw [e] at k
    have h1 := of_decide_eq_true h1
    refine ⟨_, rfl, rfl, ?_⟩
    refine ⟨_, rfl, p, C, dx, _, _, rfl, hp, T.cl, T.nClosed, nf_closed _ _ _ _, _, rfl, ?_⟩
    have hix : ixN (st.net.opened.map fun b => V.bl (!b)).length (a : Int) = some a := by
      unfold ixN
      rw [List.length_map, hN.wf.op, if_pos (by lia), if_pos (by lia)]
      rfl
    refine ⟨lc, _, _, a, rfl, rfl, hc, hix, ?_⟩
    refine ⟨_, rfl, p, C, dx, _, rfl, (by rw [zE n1]; exact hp), T.cl, T.nSearch, (by show 4 < 1000; decide), ?_⟩
    rw [nf_setS]
    have es : (st.net.opened.map fun b => V.bl (!b)).set a (V.bl (!decide (V.int (b : Int) = V.int 0))) = (st.net.opened.set a (b == 0)).map fun b => V.bl (!b) := by
      rw [List.map_set]
      have : decide (V.int (b : Int) = V.int 0) = (b == 0) := by
        rw [Bool.eq_iff_iff, decide_eq_true_iff, beq_iff_eq]
        constructor
        · intro q; injection q; lia
        · intro q; rw [q]; rfl
      rw [this]
    rw [es]
    refine k _ lc da ⟨hN.wf.close a _, ⟨.non, _, zB, rfl⟩, ?_, ⟨_, ?_, ak.close _⟩⟩ ?_ (.inl rfl) (.inl rfl)
    · show _ = some (HO.lst ((st.net.opened.set a (b == 0)).map fun b => V.bl (!b)))
      grind [upd]
    · grind [upd]
    · unfold Kept
      grind [upd]
noncomputable def Ask (H : Hp) (Q : VK) (r : Int) : Prop := ∀ H' : Hp, Same H H' → Q (.int r) H'
inductive IspLen (C : Addr) (vs : List V) (H : Hp) (Q : VK) : Prop
  | mk (p dx lc da : Addr) (st : State) (a b : Nat) (_h1 : vs = [.ref p, .int (a : Int), .int (b : Int)]) (_h2 : NetAt C H p dx lc da st) (_h3 : Ask H Q (WaySpec.ask st.net (.len a b)).ret) : IspLen C vs H Q
noncomputable def spLen (C : Addr) : Sp := fun vs H Q _ => IspLen C vs H Q
theorem scLen : zR ["self", "a", "b"] ["self", "a", "b"] (zH sLen) := ⟨rfl, rfl, rfl, by decide +kernel, rfl, by decide +kernel, by decide +kernel⟩
theorem ok_len (F : Fun K "arc_length" "Net.arc_length" sLen f fd) (T : Txt K mg C) (G_has_both : FnOk P w K mg base CX0 2 fB fdB ["self", "a", "b"] (spBoth C)) (b_has_both : Binds K fdB ["self", "a", "b"] []) (mt_has_both : Meth K C "has_both" fB) :
    FnOk P w K mg base CX0 3 f fd ["self", "a", "b"] (spLen C) := by
  refine F.ok scLen (fun vs H Q E h => ?_) (fun cdv A outer s H vs Q E hr h => ?_)
  · obtain ⟨p, dx, lc, da, st, a, b, rfl, _⟩ := h
    rfl
  · obtain ⟨p, dx, lc, da, st, a, b, rfl, hN, k⟩ := h
    have hu := hu_of hr
    refine let T1 : TS := _; ⟨_, (zC (ps_if (pt_not (pt_val (zW (pv 0) T.cl mt_has_both G_has_both hr b_has_both .nil pass0 (zA (pv 1) (zA (pv 2) zF))))) (zD (zL (pe_gi (by rfl) T.g_NOT_THERE))) zM)
      (sh T1 (zD (zL (pe_dget2 hu (yF (pv 0) rfl) (pe_tup (zA (pv 1) (zA (pv 2) zF))) (pe_gi (by rfl) T.g_NONE_SUCH) ⟨rfl, rfl, rfl, rfl⟩))))), ?_⟩
    obtain ⟨sv, tv, hp, hse⟩ := hN.ob
    obtain ⟨kvs, hd, ak⟩ := hN.ar
    refine ⟨_, rfl, p, dx, _, rfl, hp, rfl, _, rfl, _, rfl, p, dx, lc, da, st, a, b, rfl, hN, _, rfl, ?_⟩
    refine zU (fun h1 => ?_) fun h1 => ?_
    · have e : WaySpec.ask st.net (.len a b) = says (-1) := if_neg (by rw [h1]; decide)
      rw [e] at k
      exact k H (Same.refl H)
    have e : WaySpec.ask st.net (.len a b) = (match st.net.arc a b with
      | some x => tell x.len
      | none => says (-2)) := if_pos h1
    rw [e] at k
    have hv := ak.val a b
    refine ⟨_, rfl, p, C, dx, _, _, rfl, hp, T.cl, T.nArcs, nf_arcs _ _ _ _, da, rfl, .inr ⟨_, .inl hd⟩, _, rfl, _, rfl, zJ (by show 2 ≤ 100000; decide), fun t et => ?_⟩
    refine ⟨_, DGet.t (k := bk a b) (Same.upd et _ _ hd) zB, ?_⟩
    rw [hv]
    cases q : st.net.arc a b with
    | none => rw [q] at k; exact k _ (Same.upd et)
    | some x => rw [q] at k; exact k _ (Same.upd et)
end
end FW
namespace FW
open PySem PySem.Spec PyProof.Rows L2 PZ
open WayNet WaySpec WM
noncomputable abbrev sFew : Stmt := top 28
noncomputable abbrev sWayTold : Stmt := top 25
noncomputable abbrev sForm : Stmt := top 34
noncomputable abbrev sToldWays : Stmt := yH sNet 16
noncomputable def AskL (H : Hp) (Q : VK) (r : List Int) : Prop := ∀ (H' : Hp) (l : Addr), Same H H' → H l = none → H' l = some (.lst (r.map V.int)) → Q (.ref l) H'
section
variable {P : Program} {w : World} {K : PySem.W.Frag} {mg : Str → Option Value} {base : Heap} {f C : Addr} {fd : FuncData}
theorem scFew : zR ["row"] ["row"] (zH sFew) := ⟨rfl, rfl, rfl, by decide +kernel, rfl, by decide +kernel, by decide +kernel⟩
theorem ok_few (F : Fun K "fewest_first" "fewest_first" sFew f fd) (T : Txt K mg C) : FnOk P w K mg base CX0 1 f fd ["row"] spFew := by
  refine F.ok scFew (fun vs H Q E h => ?_) (fun cdv A outer s H vs Q E hr h => ?_)
  · obtain ⟨r, ws, rfl, _⟩ := h
    rfl
  · obtain ⟨r, ws, rfl, hw, k⟩ := h
    refine ⟨_, (zD (zL (pe_tup (zA (yG zS (by rfl) T.len PySem.boot_len (zA (pv 0) zF)) (zA (pv 0) zF))))), ?_⟩
    exact ⟨_, rfl, r, ws, rfl, .inl (SqL.of hw), _, rfl, zJ (by show 2 ≤ 100000; decide), fun t ht => k t ht⟩
inductive IspWayTold (vs : List V) (H : Hp) (Q : VK) : Prop
  | mk (v : V) (x : Nat × List Nat) (_h1 : vs = [v]) (_h2 : PairAt H v x) (_h3 : x.2.length ≤ 100) (_h4 : AskL H Q ((x.2.length : Int) :: (x.1 : Int) :: x.2.map fun (n : Nat) => (n : Int))) : IspWayTold vs H Q
noncomputable def spWayTold : Sp := fun vs H Q _ => IspWayTold vs H Q
theorem scWayTold : zR ["way"] ["way"] (zH sWayTold) := ⟨rfl, rfl, rfl, by decide +kernel, rfl, by decide +kernel, by decide +kernel⟩
theorem rowV_len (r : List Nat) : (rowV r).length = r.length := by unfold rowV; rw [List.length_map]
theorem rowV_ints (r : List Nat) : rowV r = (r.map fun (n : Nat) => (n : Int)).map V.int := by unfold rowV; rw [List.map_map]; rfl
theorem ok_wayTold (F : Fun K "way_told" "way_told" sWayTold f fd) (T : Txt K mg C) : FnOk P w K mg base CX0 1 f fd ["way"] spWayTold := by
  refine F.ok scWayTold (fun vs H Q E h => ?_) (fun cdv A outer s H vs Q E hr h => ?_)
  · obtain ⟨v, x, rfl, _⟩ := h
    rfl
  · obtain ⟨v, x, rfl, ⟨q, ra, rfl, hq, hra⟩, hl, k⟩ := h
    refine ⟨_, (zD (zL (pe_op op_cat (pe_lst (zA (yG zS (by rfl) T.len PySem.boot_len (zA (pe_ix ix_tup (pv 0) zN (fun _ _ => rfl)) zF)) (zA (pe_ix ix_tup (pv 0) zN (fun _ _ => rfl)) zF))) (pe_ix ix_tup (pv 0) zN (fun _ _ => rfl))))), ?_⟩
    refine ⟨_, rfl, q, _, 1, .ref ra, rfl, rfl, SqT.of hq, atI_nat (j := 1) rfl, ra, _, rfl, .inl (SqL.of hra), ?_⟩
    refine ⟨_, rfl, q, _, 0, .int (x.1 : Nat), rfl, rfl, SqT.of hq, atI_nat (j := 0) rfl, zJ (by show 2 ≤ 100000; decide), fun l0 e0 => ?_⟩
    have s0 : Same H (upd H l0 (.lst [.int ((rowV x.2).length : Nat), .int (x.1 : Nat)])) := Same.upd e0
    refine ⟨_, rfl, q, _, 1, .ref ra, rfl, rfl, SqT.of (s0 _ _ hq), atI_nat (j := 1) rfl, l0, ra, _, _, rfl, rfl, zB, s0 _ _ hra, ?_, fun l1 e1 => ?_⟩
    · show 2 + (rowV x.2).length ≤ sizeLine
      rw [rowV_len]
      exact zJ (by lia)
    · refine k _ l1 (s0.trans (Same.upd e1)) (s0.free e1) ?_
      rw [zB, rowV_len, rowV_ints]
      rfl
noncomputable def formOf (r : List Int) : List Int := (3 + ((r.length - 1 : Nat) : Int)) :: r.headD 0 :: 0 :: ((r.length - 1 : Nat) : Int) :: r.tail
inductive IspForm (vs : List V) (H : Hp) (Q : VK) : Prop
  | mk (l : Addr) (r : List Int) (_h1 : vs = [.ref l]) (_h2 : H l = some (.lst (r.map V.int))) (_h3 : r ≠ []) (_h4 : r.length ≤ 90000) (_h5 : AskL H Q (formOf r)) : IspForm vs H Q
noncomputable def spForm : Sp := fun vs H Q _ => IspForm vs H Q
theorem scForm : zR ["told", "further"] ["told"] (zH sForm) := ⟨rfl, rfl, rfl, by decide +kernel, rfl, by decide +kernel, by decide +kernel⟩
theorem ok_form (F : Fun K "told_form" "told_form" sForm f fd) (T : Txt K mg C) : FnOk P w K mg base CX0 1 f fd ["told"] spForm := by
  refine F.ok scForm (fun vs H Q E h => ?_) (fun cdv A outer s H vs Q E hr h => ?_)
  · obtain ⟨l, r, rfl, _⟩ := h
    rfl
  · obtain ⟨l, r, rfl, hl, hne, hlen, k⟩ := h
    have nd := scForm.nd
    obtain ⟨a, r, rfl⟩ : ∃ a t, r = a :: t := by cases r with | nil => exact absurd rfl hne | cons a t => exact ⟨a, t, rfl⟩
    refine let T1 : TS := _; ⟨_, (zC (ps_set (i := 1) nd rfl (Or.inl rfl) (pe_slice sl_list (pv 0) (po_some zN) po_none))
      (sh T1 (zD (zL (pe_op op_cat (pe_lst (zA (pe_op op_add zN (yG zS (by rfl) T.len PySem.boot_len (zA (pv 1) zF))) (zA (pe_ix zP (pv 0) zN (fun _ _ => rfl)) (zA zN (zA (yG zS (by rfl) T.len PySem.boot_len (zA (pv 1) zF)) zF))))) (pv 1)))))), ?_⟩
    refine ⟨_, rfl, ?_⟩
    refine ⟨_, rfl, l, _, rfl, SqL.of hl, fun l1 e1 => ?_⟩
    have hc : cutV ((a :: r).map V.int) (some 1) none = r.map V.int := by
      unfold cutV
      simp [HT.sIx]
      exact List.take_of_length_le (by simp)
    rw [hc]
    have s1 : Same H (upd H l1 (.lst (r.map V.int))) := Same.upd e1
    refine ⟨_, rfl, l1, _, rfl, .inl (SqL.of zB), _, _, rfl, rfl, ?_⟩
    refine ⟨_, rfl, l, _, 0, .int a, rfl, rfl, SqL.of (s1 _ _ hl), atI_nat (j := 0) rfl, ?_⟩
    refine ⟨_, rfl, l1, _, rfl, .inl (SqL.of zB), zJ (by show 4 ≤ 100000; decide), fun l2 e2 => ?_⟩
    refine ⟨_, rfl, l2, l1, _, _, rfl, rfl, zB, Same.upd e2 _ _ zB, ?_, fun l3 e3 => ?_⟩
    · show 4 + (r.map V.int).length ≤ sizeLine
      rw [List.length_map]
      exact zJ (by simp at hlen; lia)
    · refine k _ l3 ((s1.trans (Same.upd e2)).trans (Same.upd e3)) ((s1.trans (Same.upd e2)).free e3) ?_
      rw [zB]
      unfold formOf
      simp
inductive IspToldWays (C : Addr) (vs : List V) (H : Hp) (Q : VK) : Prop
  | mk (p dx lc da : Addr) (st : State) (_h1 : vs = [.ref p]) (_h2 : NetAt C H p dx lc da st) (_h3 : Ask H Q (WaySpec.step st .told).2.ret) : IspToldWays C vs H Q
noncomputable def spToldWays (C : Addr) : Sp := fun vs H Q _ => IspToldWays C vs H Q
theorem scToldWays : zR ["self"] ["self"] (zH sToldWays) := ⟨rfl, rfl, rfl, by decide +kernel, rfl, by decide +kernel, by decide +kernel⟩
theorem ok_toldWays (F : Fun K "told_ways" "Net.told_ways" sToldWays f fd) (T : Txt K mg C) : FnOk P w K mg base CX0 1 f fd ["self"] (spToldWays C) := by
  refine F.ok scToldWays (fun vs H Q E h => ?_) (fun cdv A outer s H vs Q E hr h => ?_)
  · obtain ⟨p, dx, lc, da, st, rfl, _⟩ := h
    rfl
  · obtain ⟨p, dx, lc, da, st, rfl, hN, k⟩ := h
    refine ⟨_, (zC (ps_if (pt_cmp (pc_isN (yF (pv 0) rfl))) (zD (zL (pe_gi (by rfl) T.g_NO_SEARCH))) zM)
      (zD (zL (yF (pv 0) rfl)))), ?_⟩
    obtain ⟨sv, tv, hp, hse⟩ := hN.ob
    refine ⟨_, rfl, p, C, dx, _, _, rfl, hp, T.cl, T.nSearch, nf_search _ _ _ _, _, rfl, ?_⟩
    have e : WaySpec.step st .told = (st, match st.search with
      | none => says (-3)
      | some x => tell x.told) := rfl
    rw [e] at k
    cases hs : st.search with
    | none =>
      rw [hs] at hse k
      obtain rfl : sv = .non := hse
      exact iteT (k H (Same.refl H))
    | some x =>
      rw [hs] at hse k
      obtain ⟨q, rfl, _, rfl, _⟩ := hse
      refine zK (fun z => nomatch of_decide_eq_true z) fun _ => ?_
      exact ⟨_, rfl, p, C, dx, _, _, rfl, hp, T.cl, T.nTold, nf_told _ _ _ _, k H (Same.refl H)⟩
end
noncomputable def wo (H : Hp) (D : Addr) : Hp := fun b => if b = D then none else H b
theorem wo_sub (H : Hp) (D : Addr) : Same (wo H D) H := fun b o e => by
  unfold wo at e
  split at e
  · cases e
  · exact e
theorem wo_upd (H : Hp) (D : Addr) (o : HO) : wo (upd H D o) D = wo H D := by
  funext b
  unfold wo
  by_cases h : b = D
  · rw [if_pos h, if_pos h]
  · rw [if_neg h, if_neg h, zE h]
theorem wo_ne {H : Hp} {D b : Addr} (h : b ≠ D) : wo H D b = H b := by unfold wo; rw [if_neg h]
theorem wo_none {H : Hp} {D : Addr} (h : H D = none) : wo H D = H := by
  funext b
  unfold wo
  by_cases e : b = D
  · rw [if_pos e, e, h]
  · rw [if_neg e]
theorem wo_same {H H' : Hp} {D : Addr} (s : Same H H') : Same (wo H D) (wo H' D) := fun b o e => by
  have hb : b ≠ D := fun z => by rw [z] at e; unfold wo at e; rw [if_pos rfl] at e; cases e
  rw [wo_ne hb] at e ⊢
  exact s b o e
theorem wo_base {H1 : Hp} {D : Addr} (h : H1 D = none) (o : HO) : Same H1 (wo (upd H1 D o) D) := by
  rw [wo_upd, wo_none h]
  exact Same.refl _
theorem range_fm {β : Type} (zs : Nat → Option β) (i : Nat) : (List.range (i + 1)).filterMap zs = (List.range i).filterMap zs ++ (zs i).toList := by
  rw [List.range_succ, List.filterMap_append]
  congr 1
theorem fm_len {β : Type} (zs : Nat → Option β) (i : Nat) : ((List.range i).filterMap zs).length ≤ i := by
  have := List.length_filterMap_le zs (List.range i)
  rwa [List.length_range] at this
theorem lc_build {β : Type} {K : PySem.W.Frag} {a : Addr} {xs : List V} {g : TG} {tt : TT} {te : TE} {vs : List Nat} {σ : L2.St} {H1 : Hp} {D : Addr} {Qd : Hp → Prop} (zs : Nat → Option β) (R : Hp → V → β → Prop) (Rm : ∀ H H' v z, Same H H' → R H v z → R H' v z) (hD : H1 D = none) (hx : SqL K H1 a xs) (hz : xs.length < sizeLine)
    (hs : ∀ (i : Nat) (x : V) (H : Hp) (acc : List V) (Nx : Hp → Prop), xs[i]? = some x → Same H1 (wo H D) → H D = some (.lst acc) → (∀ H3, Same (wo H D) (wo H3 D) → H3 D = H D → zs i = none → Nx H3) →
      (∀ (y : V) (z : β) (H4 : Hp), Same (wo H D) (wo H4 D) → H4 D = H D → zs i = some z → R (wo H4 D) y z → ∃ acc, H4 D = some (.lst acc) ∧ acc.length < sizeLine ∧ Nx (upd H4 D (.lst (acc ++ [y])))) →
      g x (wipe σ vs) H fun σ2 H2 => wipe σ2 vs = wipe σ vs ∧ tt σ2 H2 fun b H3 => if b = true then te σ2 H3 fun y H4 => ∃ acc, H4 D = some (.lst acc) ∧ acc.length < sizeLine ∧ Nx (upd H4 D (.lst (acc ++ [y]))) else Nx H3)
    (hd : ∀ (H : Hp) (acc : List V), Same H1 (wo H D) → H D = some (.lst acc) → Paired (R (wo H D)) acc ((List.range xs.length).filterMap zs) → Qd H) :
    ∃ W : Nat → Nat → Hp → Prop, (∃ m, W 0 m (upd H1 D (.lst []))) ∧ ∀ i m H, W i m H →
      ((Itl K a).stop i H ∧ Qd H) ∨ ((Itl K a).go i H ∧ ∃ Nx : Hp → Prop, (∀ H', Nx H' → ∃ m', m' < m ∧ W (i + 1) m' H') ∧ ∀ x H', (Itl K a).yld i H x H' → g x (wipe σ vs) H' fun σ2 H2 => wipe σ2 vs = wipe σ vs ∧ tt σ2 H2 fun b H3 =>
        if b = true then te σ2 H3 fun y H4 => ∃ acc, H4 D = some (.lst acc) ∧ acc.length < sizeLine ∧ Nx (upd H4 D (.lst (acc ++ [y]))) else Nx H3) := by
  refine lc_list (xs := xs) (fun i H => i ≤ xs.length ∧ Same H1 (wo H D) ∧ ∃ acc, H D = some (.lst acc) ∧ Paired (R (wo H D)) acc ((List.range i).filterMap zs)) ⟨Nat.zero_le _, wo_base hD _, [], zB, .nil⟩ (fun i H _ p => ?_) (fun i x H hx p => ?_) fun H p => ?_
  · exact (p.2.1.trans (wo_sub H D)).seq hx
  · obtain ⟨hi, sm, acc, hacc, pr⟩ := p
    have hlt : i < xs.length := (List.getElem?_eq_some_iff.mp hx).1
    refine hs i x H acc _ hx sm hacc (fun H3 s3 e3 hn => ?_) fun y z H4 s4 e4 hn r => ?_
    · refine ⟨hlt, sm.trans s3, acc, e3.trans hacc, ?_⟩
      rw [range_fm, hn]
      simp only [Option.toList_none, List.append_nil]
      exact L2.Paired.mapP pr fun v z q => Rm _ _ v z s3 q
    · refine ⟨acc, e4.trans hacc, ?_, hlt, ?_, acc ++ [y], zB, ?_⟩
      · have := Paired.length pr
        have := fm_len zs i
        lia
      · rw [wo_upd]; exact sm.trans s4
      · rw [wo_upd, range_fm, hn]
        exact Paired.snoc (L2.Paired.mapP pr fun v z q => Rm _ _ v z s4 q) r
  · obtain ⟨_, sm, acc, hacc, pr⟩ := p
    exact hd H acc sm hacc pr
noncomputable abbrev sLonger : Stmt := top 23
noncomputable def StepAt (H : Hp) (v : V) (x : Nat × Nat) : Prop := ∃ q, v = .ref q ∧ H q = some (.tup [.int (x.1 : Nat), .int (x.2 : Nat)])
theorem StepAt.mono {H H' : Hp} (s : Same H H') {v : V} {x : Nat × Nat} : StepAt H v x → StepAt H' v x
  | ⟨q, e, h⟩ => ⟨q, e, s _ _ h⟩
noncomputable def OnAt (H : Hp) (d : Addr) (g : Net) (ons : Nat → List (Nat × Nat)) : Prop := ∃ kvs, H d = some (.dK kvs) ∧ ∀ v : Nat, (g.isOpen v = true → ∃ l vs, valV kvs (Sum.inl (v : Int)) = some (.ref l) ∧ H l = some (.lst vs) ∧ Paired (StepAt H) vs (ons v)) ∧ (g.isOpen v = false → valV kvs (Sum.inl (v : Int)) = none)
theorem OnAt.mono {H H' : Hp} (s : Same H H') {d : Addr} {g : Net} {ons : Nat → List (Nat × Nat)} : OnAt H d g ons → OnAt H' d g ons
  | ⟨kvs, h, r⟩ => ⟨kvs, s _ _ h, fun v => ⟨fun o => let ⟨l, vs, a, b, c⟩ := (r v).1 o; ⟨l, vs, a, s _ _ b, L2.Paired.mapP c fun _ _ z => z.mono s⟩, (r v).2⟩⟩
inductive IspLonger (vs : List V) (H : Hp) (Q : VK) : Prop
  | mk (d ra : Addr) (g : Net) (ons : Nat → List (Nat × Nat)) (c : Nat) (r : List Nat) (_h1 : vs = [.ref d, .int (c : Nat), .ref ra]) (_h2 : OnAt H d g ons) (_h3 : H ra = some (.lst (rowV r))) (_h4 : r ≠ []) (_h5 : r.length ≤ 8) (_h6 : g.isOpen (lastN r) = true) (_h7 : (ons (lastN r)).length ≤ 8) (_h8 : ∀ (H' : Hp) (l : Addr) (us : List V), Same H H' → H l = none → H' l = some (.lst us) → Paired (PairAt (wo H' l)) us (longer ons (c, r)) → Q (.ref l) H') : IspLonger vs H Q
noncomputable def spLonger : Sp := fun vs H Q _ => IspLonger vs H Q
theorem scLonger : zR ["onward", "length", "row", "node", "more"] ["onward", "length", "row"] (zH sLonger) := ⟨rfl, rfl, rfl, by decide +kernel, rfl, by decide +kernel, by decide +kernel⟩
noncomputable abbrev blk (names : List (Str × NameKind)) : Scope := { kind := .function, names := names, isGenerator := false, isCoroutine := false }
theorem bkLonger : BlkOk ["onward", "length", "row", "node", "more"] (zH sLonger) (blk [(".0", .local), ("node", .local), ("more", .local), ("length", .free), ("row", .free)]) [("node", 3), ("more", 4)] := ⟨rfl, by decide +kernel, by decide +kernel, by decide +kernel, by decide +kernel⟩
theorem inV_row (r : List Nat) (b : Nat) : inV (.int (b : Int)) (rowV r) = r.contains b := by
  unfold inV rowV
  rw [List.any_map]
  induction r with
  | nil => rfl
  | cons a r ih =>
    rw [List.any_cons, List.contains_cons, ih]
    congr 1
    show ((a : Int) == (b : Int)) = (b == a)
    rw [Bool.eq_iff_iff, beq_iff_eq, beq_iff_eq]
    lia
theorem flat_row (r : List Nat) : (rowV r).all flatV = true := by
  unfold rowV
  rw [List.all_map]
  exact List.all_eq_true.mpr fun _ _ => rfl
theorem row_last {r : List Nat} (h : r ≠ []) : atI (rowV r) (-1) = some (.int (lastN r : Nat)) := by
  obtain ⟨p, z, rfl⟩ := snoc_shape r h
  rw [last_snoc]
  unfold rowV
  rw [List.map_append]
  exact atI_last _ _
theorem fm_get {α β : Type} (h : α → Option β) : ∀ (L : List α), (List.range L.length).filterMap (fun i => L[i]?.bind h) = L.filterMap h := by
  intro L
  induction L with
  | nil => rfl
  | cons a L ih =>
    rw [List.length_cons, List.range_succ_eq_map, List.filterMap_cons, List.filterMap_map]
    have e : (fun i => (a :: L)[i]?.bind h) ∘ Nat.succ = fun i => L[i]?.bind h := by
      funext i
      simp
    rw [e, ih, List.filterMap_cons]
    simp
noncomputable def longZ (ons : Nat → List (Nat × Nat)) (c : Nat) (r : List Nat) (e : Nat × Nat) : Option (Nat × List Nat) := if r.contains e.1 = true then none else some (c + e.2, r ++ [e.1])
theorem longer_eq (ons : Nat → List (Nat × Nat)) (c : Nat) (r : List Nat) : longer ons (c, r) = (ons (lastN r)).filterMap (longZ ons c r) := by
  unfold longer
  dsimp only
  generalize ons (lastN r) = L
  induction L with
  | nil => rfl
  | cons a L ih =>
    rw [List.filterMap_cons, List.filter_cons]
    unfold longZ
    cases h : r.contains a.1 with
    | true => simp only [Bool.not_true, Bool.false_eq_true, if_false, if_true]; exact ih
    | false => simp only [Bool.not_false, if_true, Bool.false_eq_true, if_false, List.map_cons]; rw [ih]; rfl
theorem rowV_snoc (r : List Nat) (b : Nat) : rowV r ++ [V.int (b : Int)] = rowV (r ++ [b]) := by unfold rowV; rw [List.map_append]; rfl
section
variable {P : Program} {w : World} {K : PySem.W.Frag} {mg : Str → Option Value} {base : Heap} {f C : Addr} {fd : FuncData}
theorem ok_longer (F : Fun K "longer_rows" "longer_rows" sLonger f fd) (T : Txt K mg C) : FnOk P w K mg base CX0 1 f fd ["onward", "length", "row"] spLonger := by
  refine F.ok scLonger (fun vs H Q E h => ?_) (fun cdv A outer s H vs Q E hr h => ?_)
  · obtain ⟨d, ra, g, ons, c, r, rfl, _⟩ := h
    rfl
  · obtain ⟨d, ra, g, ons, c, r, rfl, hO, hra, hne, hl, ho, hsm, k⟩ := h
    have nd := scLonger.nd
    have hu := hu_of hr
    refine ⟨_, (zD (zL (pe_lc (own := [("node", 3), ("more", 4)]) (g := gTup K 2 (gCons (gName 3) (gCons (gName 4) gNil))) (tt := tTest (tOp (rIn K true) (tVar 3) (tVar 2))) rfl nd (pi_list (pe_dget hu (pv 0) (pe_ix zP (pv 2) (pe_un un_neg zN) (fun _ _ => rfl)) (fun _ _ => rfl))) bkLonger
      (fun _ _ _ _ _ => pg_tup (n := 2) rfl (yE (yA (i := 3) nd rfl (Or.inl rfl)) (yE (yA (i := 4) nd rfl (Or.inl rfl)) pgs_nil)))
      (fun _ _ _ _ _ => pts_one (zQ op_notIn_seq (pv 3) (pv 2) (by rfl)))
      (fun _ _ _ _ _ => pe_tup (zA (pe_op op_add (pv 1) (pv 4)) (zA (pe_op op_cat (pv 2) (pe_lst (zA (pv 3) zF))) zF)))))), ?_⟩
    obtain ⟨kvs, hd, hon⟩ := hO
    obtain ⟨lo, us, hv, hlo, pr⟩ := (hon (lastN r)).1 ho
    have hlen : us.length = (ons (lastN r)).length := Paired.length pr
    have hz : us.length < sizeLine := Nat.lt_of_le_of_lt (by lia : us.length ≤ 8) (by decide)
    refine ⟨_, rfl, _, rfl, _, rfl, ra, _, _, _, rfl, rfl, SqL.of hra, row_last hne, d, _, rfl, hv ▸ DGet.k (k := Sum.inl ((lastN r : Nat) : Int)) hd, lo, rfl, ⟨us, SqL.of hlo⟩, fun D hD => ?_⟩
    refine lc_build (K := K) (xs := us) (H1 := H) (fun i => (ons (lastN r))[i]?.bind (longZ ons c r)) PairAt (fun H H' v z sm q => PairAt.mono sm q) hD (SqL.of hlo) hz (fun i x H1 acc Nx hx sm hacc keep add => ?_) fun H1 acc sm hacc pa => ?_
    · obtain ⟨e, he, q, rfl, hq⟩ := zX pr hx
      have sm1 : Same H H1 := sm.trans (wo_sub H1 D)
      have hq1 := sm1 _ _ hq
      refine ⟨q, _, rfl, SqT.of hq1, rfl, _, _, rfl, _, _, rfl, rfl, rfl, ?_⟩
      refine ⟨_, rfl, _, rfl, ra, _, rfl, .inl (SqL.of (sm1 _ _ hra)), rfl, flat_row r, _, rfl, ?_⟩
      have hzi : ((ons (lastN r))[i]?.bind (longZ ons c r)) = longZ ons c r e := by rw [he]; rfl
      show if (!inV (.int (e.1 : Int)) (rowV r)) = true then _ else _
      rw [inV_row]
      refine zU (fun hc => ?_) fun hc => ?_
      · have hD1 : ∀ {t : Addr}, H1 t = none → t ≠ D := fun h z => by rw [z, hacc] at h; cases h
        refine ⟨_, rfl, _, rfl, _, _, rfl, rfl, _, rfl, _, rfl, zJ (by show 1 ≤ 100000; decide), fun l0 e0 => ?_⟩
        have s0 : Same H1 (upd H1 l0 (.lst [.int (e.1 : Nat)])) := Same.upd e0
        refine ⟨ra, l0, _, _, rfl, rfl, s0 _ _ (sm1 _ _ hra), zB, ?_, fun l1 e1 => ?_⟩
        · show (rowV r).length + 1 ≤ sizeLine
          rw [rowV_len]; exact zJ (by lia)
        refine ⟨zJ (by show 2 ≤ 100000; decide), fun t et => ?_⟩
        have s1 : Same H1 (upd (upd H1 l0 (.lst [.int (e.1 : Nat)])) l1 (.lst (rowV r ++ [.int (e.1 : Nat)]))) := s0.trans (Same.upd e1)
        have s2 := s1.trans (Same.upd (o := .tup [.int ((c : Int) + (e.2 : Int)), .ref l1]) et)
        have n1 : l1 ≠ D := hD1 (s0.free e1)
        have nt : t ≠ D := hD1 (s1.free et)
        refine add _ (c + e.2, r ++ [e.1]) _ (wo_same s2) ?_ (by rw [hzi]; unfold longZ; rw [if_neg (by rw [hc]; decide)]) ⟨t, l1, rfl, ?_, ?_⟩
        · exact (s2 _ _ hacc).trans hacc.symm
        · rw [wo_ne nt, zB]
          rfl
        · rw [wo_ne n1, zE (zG (zB (H := upd H1 l0 (.lst [.int (e.1 : Nat)])) (a := l1)) et), zB, rowV_snoc]
      · exact keep H1 (Same.refl _) rfl (by rw [hzi]; unfold longZ; rw [if_pos hc])
    · refine k H1 D acc (sm.trans (wo_sub H1 D)) hD hacc ?_
      rw [longer_eq, ← fm_get, ← hlen]
      exact pa
end
noncomputable abbrev sAll : Stmt := top 24
noncomputable def AllRef (us : List V) : Prop := ∀ u ∈ us, ∃ a, u = V.ref a
theorem AllRef.nil : AllRef [] := fun u h => by cases h
theorem refs_of {H : Hp} : ∀ {us : List V} {fs : List (Nat × List Nat)}, Paired (PairAt H) us fs → AllRef us
  | _, _, .nil => AllRef.nil
  | _, _, .cons ⟨q, ra, e, _⟩ t => fun u h => by
    rcases List.mem_cons.mp h with rfl | h
    · exact ⟨q, e⟩
    · exact refs_of t u h
theorem row_ne {H : Hp} {D ra : Addr} {ws : List V} {r : List Nat} (hr : r ≠ []) (h1 : H ra = some (.lst (rowV r))) (h2 : H D = some (.lst ws)) (h3 : AllRef ws) : ra ≠ D := fun e => by
  rw [e, h2] at h1
  have e2 : ws = rowV r := by injection h1 with h; injection h
  cases r with
  | nil => exact hr rfl
  | cons a r =>
    obtain ⟨b, hb⟩ := h3 (.int (a : Nat)) (by rw [e2]; exact List.mem_cons_self)
    cases hb
theorem PairAt.upd {H : Hp} {D : Addr} {ws ws' : List V} {v : V} {x : Nat × List Nat} (p : PairAt H v x) (hx : x.2 ≠ []) (h2 : H D = some (.lst ws)) (h3 : AllRef ws) : PairAt (upd H D (.lst ws')) v x := by
  obtain ⟨q, ra, e, h, hra⟩ := p
  exact ⟨q, ra, e, by rw [zE (ne_of h h2 (by intro z; cases z))]; exact h, by rw [zE (row_ne hx hra h2 h3)]; exact hra⟩
theorem pairs_upd {H : Hp} {D : Addr} {ws ws' : List V} (h2 : H D = some (.lst ws)) (h3 : AllRef ws) : ∀ {us : List V} {fs : List (Nat × List Nat)}, Paired (PairAt H) us fs → (∀ x ∈ fs, x.2 ≠ []) → Paired (PairAt (upd H D (.lst ws'))) us fs
  | _, _, .nil, _ => .nil
  | _, _, .cons p t, hx => .cons (p.upd (hx _ List.mem_cons_self) h2 h3) (pairs_upd h2 h3 t fun x h => hx x (List.mem_cons_of_mem _ h))
theorem paired_app {α β : Type} {F : α → β → Prop} : ∀ {a c : List α} {b d : List β}, Paired F a b → Paired F c d → Paired F (a ++ c) (b ++ d)
  | _, _, _, _, .nil, h => h
  | _, _, _, _, .cons r t, h => .cons r (paired_app t h)
inductive IspAll (vs : List V) (H : Hp) (Q : VK) : Prop
  | mk (d : Addr) (g : Net) (ons : Nat → List (Nat × Nat)) (s t : Nat) (_h1 : vs = [.ref d, .int (s : Nat), .int (t : Nat)]) (_h2 : OnAt H d g ons) (_h3 : Onw g ons) (_h4 : WF g) (_h5 : ∀ (H' : Hp) (l : Addr) (us : List V) (ps : List (Nat × List Nat)), Same H H' → H l = none → H' l = some (.lst us) → Paired (PairAt H') us ps → AllWays g s t ps → Q (.ref l) H') : IspAll vs H Q
noncomputable def spAll : Sp := fun vs H Q _ => IspAll vs H Q
theorem scAll : zR ["onward", "s", "t", "found", "rows", "grown", "length", "row"] ["onward", "s", "t"] (zH sAll) := ⟨rfl, rfl, rfl, by decide +kernel, rfl, by decide +kernel, by decide +kernel⟩
theorem pow7 {k : Nat} (h : k < 8) : 8 ^ k ≤ 2097152 := Nat.le_trans (Nat.pow_le_pow_right (by decide) (Nat.le_of_lt_succ h : k ≤ 7)) (by decide)
section
variable {P : Program} {w : World} {K : PySem.W.Frag} {mg : Str → Option Value} {base : Heap} {f C fL : Addr} {fd fdL : FuncData}
inductive J5a (d lf : Addr) (s0 t : Nat) (H : Hp) (g : Net) (kk : Nat) (σ : L2.St) (H2 : Hp) : Prop
  | mk (fs rs : List (Nat × List Nat)) (us vs : List V) (lr : Addr) (x5 x6 x7 : Option V) (_h1 : σ = [some (.ref d), some (.int (s0 : Nat)), some (.int (t : Nat)), some (.ref lf), some (.ref lr), x5, x6, x7]) (_h2 : Same H H2) (_h3 : H2 lf = some (.lst us)) (_h4 : H2 lr = some (.lst vs)) (_h5 : Paired (PairAt H2) us fs) (_h6 : Paired (PairAt H2) vs rs) (_h7 : Level g s0 t kk rs) (_h8 : Fnd g s0 t kk fs) (_h9 : lr ≠ lf) : J5a d lf s0 t H g kk σ H2
inductive J5b (d lf lr lg : Addr) (s0 t : Nat) (H : Hp) (vs : List V) (fs rs : List (Nat × List Nat)) (ons : Nat → List (Nat × Nat)) (i : Nat) (σ : L2.St) (H4 : Hp) : Prop
  | mk (u4 g4 : List V) (x6 x7 : Option V) (_h1 : σ = [some (.ref d), some (.int (s0 : Nat)), some (.int (t : Nat)), some (.ref lf), some (.ref lr), some (.ref lg), x6, x7]) (_h2 : Same H H4) (_h3 : H4 lf = some (.lst u4)) (_h4 : H4 lr = some (.lst vs)) (_h5 : H4 lg = some (.lst g4)) (_h6 : Paired (PairAt H4) u4 (fs ++ ended t (rs.take i))) (_h7 : Paired (PairAt H4) g4 (grown ons t (rs.take i))) (_h8 : Paired (PairAt H4) vs rs) : J5b d lf lr lg s0 t H vs fs rs ons i σ H4
theorem ok_all (F : Fun K "all_ways" "all_ways" sAll f fd) (T : Txt K mg C) (G : FnOk P w K mg base CX0 1 fL fdL ["onward", "length", "row"] spLonger) (b_L : Binds K fdL ["onward", "length", "row"] []) (m_L : mg "longer_rows" = some (.ref fL)) (k_L : PySem.W.keepIn K (.ref fL) = true) : FnOk P w K mg base CX0 2 f fd ["onward", "s", "t"] spAll := by
  refine F.ok scAll (fun vs H Q E h => ?_) (fun cdv A outer s H vs Q E hr h => ?_)
  · obtain ⟨d, g, ons, s, t, rfl, _⟩ := h
    rfl
  · obtain ⟨d, g, ons, s0, t, rfl, hO, ho, wf, k⟩ := h
    have nd := scAll.nd
    have hu := hu_of hr
    refine let T8 : TS := _; let T7 : TS := _; let T6 : TS := _; let T5 : TS := _; let T4 : TS := _; let T3 : TS := _; let T2 : TS := _; let T1 : TS := _; ⟨_, (zC (ps_if (pt_cmp (pc_dnotin hu (pv 1) (pv 0))) (zD (zL (pe_lst zF))) zM)
      (sh T1 (zC (ps_set (i := 3) nd rfl (Or.inl rfl) (pe_lst zF))
      (sh T2 (zC (ps_set (i := 4) nd rfl (Or.inl rfl) (pe_lst (zA (pe_tup (zA zN (zA (pe_lst (zA (pv 1) zF)) zF))) zF)))
      (sh T3 (zC (ps_while PassesOwn.never (zQ op_gt (yG zS (by rfl) T.len PySem.boot_len (zA (pv 4) zF)) zN (yC _)) (sh T4 (zC (ps_set (i := 5) nd rfl (Or.inl rfl) (pe_lst zF))
        (sh T5 (zC (ps_for PassesOwn.never rfl (pi_list (pv 4)) (pg_tup (n := 2) rfl (yE (yA (i := 6) nd rfl (Or.inl rfl)) (yE (yA (i := 7) nd rfl (Or.inl rfl)) pgs_nil))) (sh T6 (zD (ps_if (zQ op_eq (pe_ix zP (pv 7) (pe_un un_neg zN) (fun _ _ => rfl)) (pv 2) (yC _)) (sh T7 (zD (ps_expr (pe_bm PySem.F.plainAttrs_list PySem.F.slot_list_append PySem.F.type_list_append mt_append (pv 3) (zA (pe_tup (zA (pv 6) (zA (pv 7) zF))) zF))))) (sh T8 (zD (ps_expr (pe_bm PySem.F.plainAttrs_list PySem.F.slot_list_extend PySem.F.type_list_extend mt_extend (pv 5) (zA (pe_call G hr (by rfl) m_L k_L b_L .nil pass0 (zA (pv 0) (zA (pv 6) (zA (pv 7) zF)))) zF)))))))))
        (zD (ps_set (i := 4) nd rfl (Or.inl rfl) (pv 5))))))))
      (zD (zL (pv 3)))))))))), ?_⟩
    obtain ⟨kvs, hd, hon⟩ := id hO
    refine ⟨_, rfl, _, rfl, d, _, rfl, DGet.k (k := Sum.inl ((s0 : Nat) : Int)) hd, _, rfl, ?_⟩
    cases hop : g.isOpen s0 with
    | false =>
      rw [(hon s0).2 hop]
      exact ⟨zJ (by decide), fun l0 e0 => k _ l0 [] [] (Same.upd e0) e0 zB .nil (AllWays.closed hop)⟩
    | true =>
      obtain ⟨lo, uo, hv, _, _⟩ := (hon s0).1 hop
      rw [hv]
      refine ⟨zJ (by decide), fun lf ef => ?_⟩
      refine ⟨_, rfl, zJ (by show 1 ≤ 100000; decide), fun l1 e1 => ⟨zJ (by show 2 ≤ 100000; decide), fun t1 et1 => ⟨zJ (by show 1 ≤ 100000; decide), fun lr er => ?_⟩⟩⟩
      have hKt : ∀ {x y : Nat}, decide (V.int (x : Int) = V.int (y : Int)) = decide (x = y) := fun {x y} => by
        rw [decide_eq_decide]
        exact ⟨fun z => by injection z; lia, fun z => by rw [z]⟩
      let Wp : Nat → L2.St → Hp → Prop := J5a d lf s0 t H g
      have ne1 : l1 ≠ lf := fun z => by rw [z, zB] at e1; cases e1
      have s1 : Same (upd H lf (.lst [])) (upd (upd H lf (.lst [])) l1 (.lst [V.int (s0 : Int)])) := Same.upd e1
      have s2 := s1.trans (Same.upd (o := .tup [V.int 0, V.ref l1]) et1)
      have s3 := s2.trans (Same.upd (o := .lst [V.ref t1]) er)
      have hl1 : (upd (upd (upd (upd H lf (.lst [])) l1 (.lst [V.int (s0 : Int)])) t1 (.tup [V.int 0, V.ref l1])) lr (.lst [V.ref t1])) l1 = some (.lst [V.int (s0 : Int)]) := Same.upd er _ _ (Same.upd et1 _ _ zB)
      have ht1 : (upd (upd (upd (upd H lf (.lst [])) l1 (.lst [V.int (s0 : Int)])) t1 (.tup [V.int 0, V.ref l1])) lr (.lst [V.ref t1])) t1 = some (.tup [V.int 0, V.ref l1]) := Same.upd er _ _ zB
      refine ⟨fun m σ H2 => ∃ kk, m + kk = 9 ∧ Wp kk σ H2, ⟨9, 0, rfl, [], [(0, [s0])], [], [V.ref t1], lr, none, none, none, rfl, (Same.upd ef).trans s3, s3 _ _ zB, zB, .nil, .cons ⟨t1, l1, rfl, ht1, hl1⟩ .nil, Level.start hop, Fnd.start, fun z => ?_⟩, ?_⟩
      · have := s2.free er
        rw [z, zB] at this; cases this
      rintro m σ H2 ⟨kk, hm, fs, rs, us, vs, lr, x5, x6, x7, rfl, sm, hlf, hlr, pf, pr, L, Fd, hne⟩
      refine ⟨_, rfl, lr, vs, rfl, .inl (SqL.of hlr), _, _, rfl, rfl, _, rfl, ?_⟩
      have hvl : vs.length = rs.length := Paired.length pr
      refine zK (fun hpos => ?_) fun hzero => ?_
      · have hpos := of_decide_eq_true hpos
        have hrs : rs ≠ [] := fun z => by rw [z] at hvl; rw [hvl] at hpos; exact absurd hpos (by decide)
        have hk8 := L.lt wf hrs
        have rne : ∀ x ∈ rs, x.2 ≠ [] := fun x hx => ((L.mem x.1 x.2).mp hx).1.ne
        have fne : ∀ x ∈ fs, x.2 ≠ [] := fun x hx => by obtain ⟨⟨j, _, p⟩, _⟩ := (Fd.mem x.1 x.2).mp hx; exact p.ne
        refine ⟨Wp (kk + 1), fun σ' H' h => ⟨m - 1, by lia, kk + 1, by lia, h⟩, ?_⟩
        refine ⟨zJ (by decide), fun lg eg => ?_⟩
        have ng1 : lg ≠ lf := fun z => by rw [z, hlf] at eg; cases eg
        have ng2 : lg ≠ lr := fun z => by rw [z, hlr] at eg; cases eg
        have sg : Same H2 (upd H2 lg (.lst [])) := Same.upd eg
        let Pv1 : Nat → L2.St → Hp → Prop := J5b d lf lr lg s0 t H vs fs rs ons
        refine ⟨_, rfl, lr, rfl, ⟨vs, SqL.of (sg _ _ hlr)⟩, for_list (xs := vs) Pv1
          ⟨us, [], x6, x7, rfl, sm.trans sg, sg _ _ hlf, sg _ _ hlr, zB, ?_, .nil, L2.Paired.mapP pr fun _ _ z => PairAt.mono sg z⟩ (fun i σ H4 _ p => ?_) (fun i x σ H4 hx p => ?_) fun σ H4 p => ?_⟩
        · show Paired _ us (fs ++ [])
          rw [List.append_nil]
          exact L2.Paired.mapP pf fun _ _ z => PairAt.mono sg z
        · obtain ⟨u4, g4, x6, x7, _, _, _, h, _⟩ := p
          exact SqL.of h
        · obtain ⟨u4, g4, x6, x7, rfl, sm4, hlf4, hlr4, hlg4, pf4, pg4, pr4⟩ := p
          obtain ⟨y, hy, q, ra, rfl, hq, hra⟩ := zX pr4 hx
          obtain ⟨c, r⟩ := y
          have hyr : (c, r) ∈ rs := List.mem_of_getElem? hy
          have hP := ((L.mem c r).mp hyr).1
          have hil : i < rs.length := (List.getElem?_eq_some_iff.mp hy).1
          have htake : rs.take (i + 1) = rs.take i ++ [(c, r)] := by
            rw [List.take_add_one, hy]; rfl
          have f4ne : ∀ x ∈ fs ++ ended t (rs.take i), x.2 ≠ [] := fun x hx => by
            rcases List.mem_append.mp hx with z | z
            · exact fne x z
            · exact rne x (List.mem_of_mem_take (List.mem_filter.mp z).1)
          have g4ne : ∀ x ∈ grown ons t (rs.take i), x.2 ≠ [] := fun x hx => by
            obtain ⟨y, hy, hz⟩ := List.mem_flatMap.mp hx
            unfold grow1 at hz
            split at hz
            · cases hz
            · unfold longer at hz
              obtain ⟨e, _, rfl⟩ := List.mem_map.mp hz
              simp
          have b1 : rs.length ≤ 2097152 := Nat.le_trans L.small (pow7 hk8)
          have b2 : fs.length ≤ 2097152 := Nat.le_trans Fd.small (pow7 hk8)
          refine ⟨q, _, rfl, SqT.of hq, rfl, _, _, rfl, _, _, rfl, rfl, ?_⟩
          refine ⟨_, rfl, _, rfl, ra, _, _, _, rfl, rfl, SqL.of hra, row_last hP.ne, _, rfl, rfl, _, rfl, ?_⟩
          rw [hKt]
          refine zK (fun hl => ?_) fun hl => ?_
          · have hl := of_decide_eq_true hl
            refine ⟨_, rfl, .inl ⟨rfl, _, SqL.of hlf4⟩, _, rfl, _, rfl, zJ (by show 2 ≤ 100000; decide), fun t2 et2 => ?_⟩
            have st : Same H4 (upd H4 t2 (.tup [.int (c : Nat), .ref ra])) := Same.upd et2
            have hend : ended t (rs.take (i + 1)) = ended t (rs.take i) ++ [(c, r)] := by
              unfold ended
              rw [htake, List.filter_append]
              congr 1
              rw [List.filter_cons_of_pos (by simpa using hl)]
              rfl
            have hgr : grown ons t (rs.take (i + 1)) = grown ons t (rs.take i) := by
              unfold grown
              rw [htake, List.flatMap_append, List.flatMap_cons]
              unfold grow1
              rw [if_pos hl]
              simp
            refine ⟨lf, _, _, rfl, rfl, st _ _ hlf4, ?_, u4 ++ [.ref t2], g4, _, _, rfl, ?_, zB, ?_, ?_, ?_, ?_, ?_⟩
            · have := Paired.length pf4
              have : (ended t (rs.take i)).length ≤ rs.length := Nat.le_trans (List.length_filter_le _ _) (by rw [List.length_take]; lia)
              rw [List.length_append] at *
              exact Nat.lt_of_le_of_lt (by lia : u4.length ≤ 4194304) (by decide)
            · intro b o e
              rw [zE (fun z => by rw [z, ef] at e; cases e)]
              exact st _ _ (sm4 _ _ e)
            · rw [zE hne]; exact st _ _ hlr4
            · rw [zE ng1]; exact st _ _ hlg4
            · rw [hend, ← List.append_assoc]
              refine Paired.snoc (pairs_upd (st _ _ hlf4) (refs_of pf4) (L2.Paired.mapP pf4 fun _ _ z => PairAt.mono st z) f4ne) ?_
              exact PairAt.upd ⟨t2, ra, rfl, zB, st _ _ hra⟩ hP.ne (st _ _ hlf4) (refs_of pf4)
            · rw [hgr]
              exact pairs_upd (st _ _ hlf4) (refs_of pf4) (L2.Paired.mapP pg4 fun _ _ z => PairAt.mono st z) g4ne
            · exact pairs_upd (st _ _ hlf4) (refs_of pf4) (L2.Paired.mapP pr4 fun _ _ z => PairAt.mono st z) rne
          · have hl := of_decide_eq_false hl
            have hlast : g.isOpen (lastN r) = true := hP.op _ (last_mem hP.ne)
            have hlen8 : r.length ≤ 8 := by have := hP.len; lia
            have hons : (ons (lastN r)).length ≤ 8 := by
              rw [← List.length_map (f := (·.1))]
              refine Nat.le_trans (nodup_le g.n _ (ho.nd _ hlast) fun x hx => ?_) wf.n8
              obtain ⟨⟨b, dd⟩, hm, rfl⟩ := List.mem_map.mp hx
              exact isOpen_lt wf ((ho.mem _ _ _ hlast).mp hm).1
            have hend : ended t (rs.take (i + 1)) = ended t (rs.take i) := by
              unfold ended
              rw [htake, List.filter_append, List.filter_cons_of_neg (by simpa using hl)]
              simp
            have hgr : grown ons t (rs.take (i + 1)) = grown ons t (rs.take i) ++ longer ons (c, r) := by
              unfold grown
              rw [htake, List.flatMap_append, List.flatMap_cons]
              congr 1
              unfold grow1
              rw [if_neg hl]
              simp
            refine ⟨_, rfl, .inl ⟨rfl, _, SqL.of hlg4⟩, _, rfl, _, rfl, _, rfl, d, ra, g, ons, c, r, rfl, hO.mono sm4, hra, hP.ne, hlen8, hlast, hons, fun H5 l5 us5 s5 e5 h5 p5 => ?_⟩
            have p5' : Paired (PairAt H5) us5 (longer ons (c, r)) := L2.Paired.mapP p5 fun _ _ z => PairAt.mono (wo_sub H5 l5) z
            have lne : ∀ x ∈ longer ons (c, r), x.2 ≠ [] := fun x hx => by
              unfold longer at hx
              obtain ⟨e, _, rfl⟩ := List.mem_map.mp hx
              simp
            have hbnd := grown_small wf ho (t := t) (rs.take (i + 1)) (fun x hx => L.opens x (List.mem_of_mem_take hx))
            refine ⟨lg, l5, _, _, rfl, rfl, s5 _ _ hlg4, h5, ?_, u4, g4 ++ us5, _, _, rfl, ?_, ?_, ?_, zB, ?_, ?_, ?_⟩
            · have q1 := Paired.length pg4
              have q2 := Paired.length p5'
              rw [hgr, List.length_append] at hbnd
              have : (rs.take (i + 1)).length ≤ rs.length := by rw [List.length_take]; lia
              exact Nat.le_trans (by lia : g4.length + us5.length ≤ 16777216) (by decide)
            · intro b o e
              rw [zE (fun z => by rw [z] at e; rw [sm _ _ e] at eg; cases eg)]
              exact s5 _ _ (sm4 _ _ e)
            · rw [zE (Ne.symm ng1)]; exact s5 _ _ hlf4
            · rw [zE (Ne.symm ng2)]; exact s5 _ _ hlr4
            · rw [hend]
              exact pairs_upd (s5 _ _ hlg4) (refs_of pg4) (L2.Paired.mapP pf4 fun _ _ z => PairAt.mono s5 z) f4ne
            · rw [hgr]
              exact paired_app (pairs_upd (s5 _ _ hlg4) (refs_of pg4) (L2.Paired.mapP pg4 fun _ _ z => PairAt.mono s5 z) g4ne) (pairs_upd (s5 _ _ hlg4) (refs_of pg4) p5' lne)
            · exact pairs_upd (s5 _ _ hlg4) (refs_of pg4) (L2.Paired.mapP pr4 fun _ _ z => PairAt.mono s5 z) rne
        · obtain ⟨u4, g4, x6, x7, rfl, sm4, hlf4, hlr4, hlg4, pf4, pg4, pr4⟩ := p
          rw [hvl, List.take_length] at pf4 pg4
          exact ⟨_, rfl, fs ++ ended t rs, grown ons t rs, u4, g4, lg, some (.ref lg), x6, x7, rfl, sm4, hlf4, hlg4, pf4, pg4, L.next wf ho, Fd.next L, ng1⟩
      · have hzero := of_decide_eq_false hzero
        have hv0 : vs = [] := by
          cases vs with
          | nil => rfl
          | cons a b => exact absurd (by simp) hzero
        have hr0 : rs = [] := by rw [hv0] at hvl; exact List.length_eq_zero_iff.mp hvl.symm
        rw [hr0] at L
        exact ⟨_, rfl, k H2 lf us fs sm ef hlf pf (Fd.all wf L)⟩
end
theorem for_keysT {d : Addr} {o : Obj} {kvs : List (List Key × V)} {g : TG} {tb : TS} {D : Ends} {σ : L2.St} {H : Hp} (Pv : Nat → L2.St → Hp → Prop) (h0 : Pv 0 σ H) (hl : ∀ i σ H, i ≤ kvs.length → Pv i σ H → H d = some (.frz o (.dT kvs)))
    (hs : ∀ i k v q σ H, kvs[i]? = some (k, v) → Pv i σ H → H q = some (.tup (k.map kV)) → g (.ref q) σ H fun σ2 H2 => tb { D with nx := Pv (i + 1), ct := Pv (i + 1), bk := D.nx } σ2 H2) (hd : ∀ σ H, Pv kvs.length σ H → D.nx σ H) :
    ∃ W : Nat → Nat → L2.St → Hp → Prop, (∃ m, W 0 m σ H) ∧ ∀ i m σ H, W i m σ H →
      ((Itkt d o kvs).stop i H ∧ D.nx σ H) ∨ ((Itkt d o kvs).go i H ∧ ∃ N : L2.St → Hp → Prop, (∀ σ' H', N σ' H' → ∃ m', m' < m ∧ W (i + 1) m' σ' H') ∧ ∀ x H', (Itkt d o kvs).yld i H x H' → g x σ H' fun σ2 H2 => tb { D with nx := N, ct := N, bk := D.nx } σ2 H2) := by
  refine ⟨fun i m σ H => m = kvs.length - i ∧ i ≤ kvs.length ∧ Pv i σ H, ⟨kvs.length, by simp, Nat.zero_le _, h0⟩, ?_⟩
  rintro i m σ H ⟨rfl, hi, p⟩
  have q := hl i σ H hi p
  by_cases hlt : i < kvs.length
  · refine .inr ⟨⟨q, hlt⟩, Pv (i + 1), fun σ' H' p' => ⟨kvs.length - (i + 1), by lia, rfl, hlt, p'⟩, fun x H' y => ?_⟩
    obtain ⟨e, k, v, a, hk, rfl, ha⟩ := y
    subst e
    exact hs i k v a σ _ hk p ha
  · obtain rfl : i = kvs.length := by lia
    exact .inl ⟨⟨q, Nat.le_refl _⟩, hd σ H p⟩
theorem for_enum {K : PySem.W.Frag} {a : Addr} {xs : List V} {g : TG} {tb : TS} {D : Ends} {σ : L2.St} {H : Hp} (Pv : Nat → L2.St → Hp → Prop) (h0 : Pv 0 σ H) (hl : ∀ i σ H, i ≤ xs.length → Pv i σ H → SqL K H a xs)
    (hs : ∀ i x q σ H, xs[i]? = some x → Pv i σ H → H q = none → g (.ref q) σ (upd H q (.tup [.int (i : Nat), x])) fun σ2 H2 => tb { D with nx := Pv (i + 1), ct := Pv (i + 1), bk := D.nx } σ2 H2) (hd : ∀ σ H, Pv xs.length σ H → D.nx σ H) :
    ∃ W : Nat → Nat → L2.St → Hp → Prop, (∃ m, W 0 m σ H) ∧ ∀ i m σ H, W i m σ H →
      ((Ite K a).stop i H ∧ D.nx σ H) ∨ ((Ite K a).go i H ∧ ∃ N : L2.St → Hp → Prop, (∀ σ' H', N σ' H' → ∃ m', m' < m ∧ W (i + 1) m' σ' H') ∧ ∀ x H', (Ite K a).yld i H x H' → g x σ H' fun σ2 H2 => tb { D with nx := N, ct := N, bk := D.nx } σ2 H2) := by
  refine ⟨fun i m σ H => m = xs.length - i ∧ i ≤ xs.length ∧ Pv i σ H, ⟨xs.length, by simp, Nat.zero_le _, h0⟩, ?_⟩
  rintro i m σ H ⟨rfl, hi, p⟩
  have q := hl i σ H hi p
  by_cases hlt : i < xs.length
  · refine .inr ⟨⟨xs, xs[i], q, List.getElem?_eq_getElem hlt⟩, Pv (i + 1), fun σ' H' p' => ⟨xs.length - (i + 1), by lia, rfl, hlt, p'⟩, fun v H' y => ?_⟩
    obtain ⟨T, x, rfl, hT, rfl, hx⟩ := y
    exact hs i x T σ H (hx xs q) p hT
  · obtain rfl : i = xs.length := by lia
    exact .inl ⟨⟨xs, q, Nat.le_refl _⟩, hd σ H p⟩
noncomputable abbrev sOnw : Stmt := yH sNet 12
noncomputable def onF (g : Net) (es : List (Nat × Nat)) (v : Nat) : List (Nat × Nat) := (es.filter fun e => e.1 == v && (g.isOpen e.1 && g.isOpen e.2)).map fun e => (e.2, lenOf g e.1 e.2)
theorem onF_snoc (g : Net) (es : List (Nat × Nat)) (e : Nat × Nat) (v : Nat) : onF g (es ++ [e]) v = onF g es v ++ (if e.1 = v ∧ g.isOpen e.1 = true ∧ g.isOpen e.2 = true then [(e.2, lenOf g e.1 e.2)] else []) := by
  unfold onF
  rw [List.filter_append, List.map_append]
  congr 1
  by_cases h : e.1 = v ∧ g.isOpen e.1 = true ∧ g.isOpen e.2 = true
  · rw [if_pos h, List.filter_cons_of_pos (by rw [Bool.and_eq_true, Bool.and_eq_true, beq_iff_eq]; exact h)]; rfl
  · rw [if_neg h, List.filter_cons_of_neg (by simpa [Bool.and_eq_true, beq_iff_eq] using h)]; rfl
theorem onF_onw {g : Net} (w : WF g) {es : List (Nat × Nat)} (nd : es.Nodup) (hm : ∀ a b, (a, b) ∈ es ↔ (g.arc a b).isSome = true) : Onw g (onF g es) where
  mem := fun v b c ho => by
    unfold onF
    rw [List.mem_map]
    constructor
    · rintro ⟨⟨a, b'⟩, he, e⟩
      rw [List.mem_filter] at he
      obtain ⟨h1, h2⟩ := he
      simp only [Bool.and_eq_true, beq_iff_eq] at h2
      obtain ⟨rfl, h3, h4⟩ := h2
      obtain ⟨rfl, rfl⟩ : b' = b ∧ lenOf g a b' = c := by simpa using e
      obtain ⟨x, hx⟩ := Option.isSome_iff_exists.mp ((hm a b').mp h1)
      exact ⟨h4, x, hx, by unfold lenOf; rw [hx]; rfl⟩
    · rintro ⟨h1, x, h2, h3⟩
      refine ⟨(v, b), List.mem_filter.mpr ⟨(hm v b).mpr (by rw [h2]; rfl), by simp [ho, h1]⟩, ?_⟩
      have : lenOf g v b = c := by unfold lenOf; rw [h2]; exact h3
      rw [this]
  nd := fun v ho => by
    unfold onF
    rw [List.map_map]
    refine List.pairwise_map.mpr ?_
    refine List.Pairwise.imp_of_mem (fun {x y} hx hy hne e => hne ?_) (nd.sublist (List.filter_sublist (p := fun (e : Nat × Nat) => e.1 == v && (g.isOpen e.1 && g.isOpen e.2))))
    have h1 := (List.mem_filter.mp hx).2
    have h2 := (List.mem_filter.mp hy).2
    simp only [Bool.and_eq_true, beq_iff_eq] at h1 h2
    exact Prod.ext (h1.1.trans h2.1.symm) e
inductive IspOnw (C : Addr) (vs : List V) (H : Hp) (Q : VK) : Prop
  | mk (p dx lc da : Addr) (st : State) (_h1 : vs = [.ref p]) (_h2 : NetAt C H p dx lc da st) (_h3 : ∀ (H' : Hp) (d : Addr) (ons : Nat → List (Nat × Nat)), Same H H' → H d = none → OnAt H' d st.net ons → Onw st.net ons → Q (.ref d) H') : IspOnw C vs H Q
noncomputable def spOnw (C : Addr) : Sp := fun vs H Q _ => IspOnw C vs H Q
theorem scOnw : zR ["self", "found", "node", "closed", "a", "b"] ["self"] (zH sOnw) := ⟨rfl, rfl, rfl, by decide +kernel, rfl, by decide +kernel, by decide +kernel⟩
theorem opened_at {g : Net} {i : Nat} {x : V} (h : (g.opened.map fun b => V.bl (!b))[i]? = some x) : x = .bl (!(g.isOpen i)) := by
  rw [List.getElem?_map] at h
  obtain ⟨b, hb, rfl⟩ := Option.map_eq_some_iff.mp h
  unfold Net.isOpen
  rw [List.getD_eq_getElem?_getD, hb]; rfl
section
variable {P : Program} {w : World} {K : PySem.W.Frag} {mg : Str → Option Value} {base : Heap} {f C : Addr} {fd : FuncData}
inductive J6a (p d : Addr) (H : Hp) (st : State) (i : Nat) (σ : L2.St) (H2 : Hp) : Prop
  | mk (kvs : List (Key × V)) (ls : Nat → Addr) (x2 x3 x4 x5 : Option V) (_h1 : σ = [some (.ref p), some (.ref d), x2, x3, x4, x5]) (_h2 : Same H H2) (_h3 : H2 d = some (.dK kvs)) (_h4 : kvs.length ≤ i) (_h5 : (∀ v : Nat, v < i → st.net.isOpen v = true → valV kvs (Sum.inl (v : Int)) = some (.ref (ls v)) ∧ H2 (ls v) = some (.lst []) ∧ H (ls v) = none)) (_h6 : (∀ v : Nat, ¬ (v < i ∧ st.net.isOpen v = true) → valV kvs (Sum.inl (v : Int)) = none)) (_h7 : (∀ v u : Nat, v < i → u < i → st.net.isOpen v = true → st.net.isOpen u = true → ls v = ls u → v = u)) : J6a p d H st i σ H2
inductive J6b (p d da : Addr) (od : Obj) (kva : List (List Key × V)) (H : Hp) (kvs : List (Key × V)) (ls : Nat → Addr) (st : State) (es : List (Nat × Nat)) (i : Nat) (σ : L2.St) (H4 : Hp) : Prop
  | mk (us : Nat → List V) (x2 x3 x4 x5 : Option V) (_h1 : σ = [some (.ref p), some (.ref d), x2, x3, x4, x5]) (_h2 : H4 da = some (.frz od (.dT kva))) (_h3 : (∀ b o, H b = some o → b ≠ da → H4 b = some o)) (_h4 : H4 d = some (.dK kvs)) (_h5 : ∀ v, st.net.isOpen v = true → H4 (ls v) = some (.lst (us v)) ∧ Paired (StepAt H4) (us v) (onF st.net (es.take i) v)) : J6b p d da od kva H kvs ls st es i σ H4
theorem ok_onw (F : Fun K "arcs_onward" "Net.arcs_onward" sOnw f fd) (T : Txt K mg C) : FnOk P w K mg base CX0 1 f fd ["self"] (spOnw C) := by
  refine F.ok scOnw (fun vs H Q E h => ?_) (fun cdv A outer s H vs Q E hr h => ?_)
  · obtain ⟨p, dx, lc, da, st, rfl, _⟩ := h
    rfl
  · obtain ⟨p, dx, lc, da, st, rfl, hN, k⟩ := h
    have nd := scOnw.nd
    have hu := hu_of hr
    refine let T5 : TS := _; let T4 : TS := _; let T3 : TS := _; let T2 : TS := _; let T1 : TS := _; ⟨_, (zC (ps_set (i := 1) nd rfl (Or.inl rfl) pe_dnewK)
      (sh T1 (zC (ps_for PassesOwn.never rfl (pi_enum (by rfl) T.enumerate (zA (yF (pv 0) rfl) zF)) (pg_tup (n := 2) rfl (yE (yA (i := 2) nd rfl (Or.inl rfl)) (yE (yA (i := 3) nd rfl (Or.inl rfl)) pgs_nil))) (sh T2 (zD (ps_if (pt_not (pt_val (pv 3))) (zD (ps_dput hu (pv 1) (pv 2) (pe_lst zF) rfl)) zM))))
      (sh T3 (zC (ps_lock (ps_for PassesOwn.never rfl (pi_keys (yF (pv 0) rfl)) (pg_tup (n := 2) rfl (yE (yA (i := 4) nd rfl (Or.inl rfl)) (yE (yA (i := 5) nd rfl (Or.inl rfl)) pgs_nil))) (sh T4 (zD (ps_if (pw_and (pt_cmp (pc_din hu (pv 4) (pv 1))) (pw_and1 (pt_cmp (pc_din hu (pv 5) (pv 1))))).pt (sh T5 (zD (ps_expr (pe_bm PySem.F.plainAttrs_list PySem.F.slot_list_append PySem.F.type_list_append mt_append (pe_dget hu (pv 1) (pv 4) (fun _ _ => rfl)) (zA (pe_tup (zA (pv 5) (zA (pe_dget hu (yF (pv 0) rfl) (pe_tup (zA (pv 4) (zA (pv 5) zF))) (fun _ _ => rfl)) zF))) zF))))) zM)))))
      (zD (zL (pv 1)))))))), ?_⟩
    obtain ⟨sv, tv, hp, hse⟩ := hN.ob
    obtain ⟨kva, hda, ak⟩ := hN.ar
    obtain ⟨es, ees, esnd, esm⟩ := ak.pairs
    have hcl := hN.cl
    have wf := hN.wf
    intro d hd
    have nd_p : p ≠ d := zG hp hd
    have nd_lc : lc ≠ d := zG hcl hd
    have nd_da : da ≠ d := zG hda hd
    have s0 : Same H (upd H d (.dK [])) := Same.upd hd
    refine ⟨_, rfl, p, C, dx, _, _, rfl, s0 _ _ hp, T.cl, T.nClosed, nf_closed _ _ _ _, lc, _, rfl, SqL.of (s0 _ _ hcl), ?_⟩
    let Pv1 : Nat → L2.St → Hp → Prop := J6a p d H st
    refine for_enum (K := K) (xs := st.net.opened.map fun b => V.bl (!b)) Pv1
      ⟨[], fun _ => 0, none, none, none, none, rfl, s0, zB, Nat.le_refl _, fun v h => absurd h (Nat.not_lt_zero _), fun v _ => rfl, fun v u h => absurd h (Nat.not_lt_zero _)⟩ (fun i σ H2 _ q => ?_) (fun i x q σ H2 hx hq e => ?_) fun σ H2 hq => ?_
    · obtain ⟨kvs, ls, x2, x3, x4, x5, _, sm, _⟩ := q
      exact SqL.of (sm _ _ hcl)
    · obtain ⟨kvs, ls, x2, x3, x4, x5, rfl, sm, hd2, hk, h1, h2, h3⟩ := hq
      have ex := opened_at hx
      subst ex
      have hil : i < st.net.n := by
        have := (List.getElem?_eq_some_iff.mp hx).1
        rw [List.length_map, wf.op] at this
        exact this
      refine ⟨q, _, rfl, SqT.of zB, rfl, _, _, rfl, _, _, rfl, rfl, ?_⟩
      refine ⟨_, rfl, _, rfl, ?_⟩
      have sq : Same H2 (upd H2 q (.tup [.int (i : Nat), .bl (!st.net.isOpen i)])) := Same.upd e
      show if (!(!st.net.isOpen i)) = true then _ else _
      rw [Bool.not_not]
      refine zK (fun ho => ?_) fun ho => ?_
      · refine ⟨zJ (by decide), fun l el => ⟨_, rfl, _, rfl, d, _, rfl, DPut.k (k := Sum.inl ((i : Nat) : Int)) (Same.upd el _ _ (sq _ _ hd2)) (Nat.lt_of_le_of_lt (by have := wf.n8; lia : kvs.length ≤ 8) (by decide)), ?_⟩⟩
        have sl := sq.trans (Same.upd (o := .lst []) el)
        have hl0 : H2 l = none := sq.free el
        have hl1 : H l = none := sm.free hl0
        have hld : l ≠ d := fun z => by rw [z, hd2] at hl0; cases hl0
        have hlsn : ∀ v, v < i → st.net.isOpen v = true → ls v ≠ l := fun v hv ho' z => by
          have := (h1 v hv ho').2.1
          rw [z, hl0] at this; cases this
        have hlsd : ∀ v, v < i → st.net.isOpen v = true → ls v ≠ d := fun v hv ho' z => by
          have := (h1 v hv ho').2.1
          rw [z, hd2] at this; cases this
        refine ⟨_, fun v => if v = i then l else ls v, _, _, x4, x5, rfl, fun b o eb => ?_, zB, ?_, fun v hv ho' => ?_, fun v hv => ?_, fun v u hv hu' hov hou e => ?_⟩
        · rw [zE (fun z => by rw [z, hd] at eb; cases eb)]
          exact sl _ _ (sm _ _ eb)
        · unfold putK
          split
          · rw [List.length_map]; lia
          · rw [List.length_append]; simp; lia
        · by_cases ev : v = i
          · subst ev
            rw [if_pos rfl, valV_put, if_pos rfl]
            exact ⟨rfl, by rw [zE hld, zB], hl1⟩
          · have hvi : v < i := by lia
            rw [if_neg ev, valV_put, if_neg (fun z => ev (by injection z with z; lia))]
            obtain ⟨a1, a2, a3⟩ := h1 v hvi ho'
            exact ⟨a1, by rw [zE (hlsd v hvi ho')]; exact sl _ _ a2, a3⟩
        · have hvi : v ≠ i := fun z => hv ⟨by lia, by rw [z]; exact ho⟩
          rw [valV_put, if_neg (fun z => hvi (by injection z with z; lia))]
          exact h2 v fun z => hv ⟨by lia, z.2⟩
        · by_cases ev : v = i
          · by_cases eu : u = i
            · rw [ev, eu]
            · simp only [if_pos ev, if_neg eu] at e
              exact absurd e.symm (hlsn u (by lia) hou)
          · by_cases eu : u = i
            · simp only [if_neg ev, if_pos eu] at e
              exact absurd e (hlsn v (by lia) hov)
            · simp only [if_neg ev, if_neg eu] at e
              exact h3 v u (by lia) (by lia) hov hou e
      · refine ⟨kvs, ls, _, _, x4, x5, rfl, sm.trans sq, sq _ _ hd2, by lia, fun v hv ho' => ?_, fun v hv => ?_, fun v u hv hu' hov hou e => ?_⟩
        · have hvi : v < i := by
            have : v ≠ i := fun z => by rw [z, ho] at ho'; cases ho'
            lia
          obtain ⟨a1, a2, a3⟩ := h1 v hvi ho'
          exact ⟨a1, sq _ _ a2, a3⟩
        · exact h2 v fun z => hv ⟨by lia, z.2⟩
        · have hvi : v ≠ i := fun z => by rw [z, ho] at hov; cases hov
          have hui : u ≠ i := fun z => by rw [z, ho] at hou; cases hou
          exact h3 v u (by lia) (by lia) hov hou e
    · obtain ⟨kvs, ls, x2, x3, x4, x5, rfl, sm, hd2, hk, h1, h2, h3⟩ := hq
      rw [List.length_map, wf.op] at hk h1 h2 h3
      have g1 : ∀ v : Nat, st.net.isOpen v = true → valV kvs (Sum.inl (v : Int)) = some (.ref (ls v)) ∧ H2 (ls v) = some (.lst []) ∧ H (ls v) = none := fun v ho => h1 v (isOpen_lt wf ho) ho
      have g2 : ∀ v : Nat, st.net.isOpen v = false → valV kvs (Sum.inl (v : Int)) = none := fun v ho => h2 v fun z => by rw [ho] at z; exact absurd z.2 (by decide)
      have g3 : ∀ v u : Nat, st.net.isOpen v = true → st.net.isOpen u = true → ls v = ls u → v = u := fun v u a b => h3 v u (isOpen_lt wf a) (isOpen_lt wf b) a b
      have ls_da : ∀ v, st.net.isOpen v = true → ls v ≠ da := fun v ho z => by
        have := (g1 v ho).2.2
        rw [z, hda] at this; cases this
      have ls_d : ∀ v, st.net.isOpen v = true → ls v ≠ d := fun v ho z => by
        have := (g1 v ho).2.1
        rw [z, hd2] at this; cases this
      have ls_p : ∀ v, st.net.isOpen v = true → ls v ≠ p := fun v ho z => by
        have := (g1 v ho).2.2
        rw [z, hp] at this; cases this
      refine ⟨da, _, sm _ _ hda, trivial, fun od => ?_⟩
      have hpda : p ≠ da := hN.ne.2.1
      refine ⟨_, rfl, p, C, dx, _, _, rfl, (by rw [zE hpda]; exact sm _ _ hp), T.cl, T.nArcs, nf_arcs _ _ _ _, da, od, rfl, .inr ⟨kva, zB, ?_⟩⟩
      have hlen : kva.length = es.length := by
        have := congrArg List.length ees
        simpa using this
      let Pv2 : Nat → L2.St → Hp → Prop := J6b p d da od kva H kvs ls st es
      refine for_keysT Pv2
        ⟨fun _ => [], x2, x3, x4, x5, rfl, zB, fun b o e hb => by rw [zE hb]; exact sm _ _ e, by rw [zE (Ne.symm nd_da)]; exact hd2, fun v ho => ⟨by rw [zE (ls_da v ho)]; exact (g1 v ho).2.1, .nil⟩⟩ (fun i σ H4 _ z => ?_) (fun i kk vv q σ H4 hkv z hq => ?_) fun σ H4 z => ?_
      · obtain ⟨us, _, _, _, _, _, h, _⟩ := z
        exact h
      · obtain ⟨us, x2, x3, x4, x5, rfl, hf, hsm, hd4, hus⟩ := z
        have hi : i < kva.length := (List.getElem?_eq_some_iff.mp hkv).1
        obtain ⟨⟨a, b⟩, he⟩ : ∃ e, es[i]? = some e := ⟨es[i]'(by lia), List.getElem?_eq_getElem _⟩
        have hkk : kk = bk a b := by
          have h1 : (kva.map (·.1))[i]? = some kk := by rw [List.getElem?_map, hkv]; rfl
          rw [ees, List.getElem?_map, he] at h1
          exact (Option.some.inj h1).symm
        subst hkk
        have htake : es.take (i + 1) = es.take i ++ [(a, b)] := by rw [List.take_add_one, he]; rfl
        obtain ⟨ar, har⟩ := Option.isSome_iff_exists.mp ((esm a b).mp (List.mem_of_getElem? he))
        have hval : valV kva (bk a b) = some (.int (ar.len : Nat)) := by rw [ak.val, har]; rfl
        have hlen0 : lenOf st.net a b = ar.len := by unfold lenOf; rw [har]; rfl
        refine ⟨q, _, rfl, SqT.of hq, rfl, _, _, rfl, _, _, rfl, rfl, ?_⟩
        refine ⟨_, rfl, _, rfl, d, _, rfl, DGet.k (k := Sum.inl ((a : Nat) : Int)) hd4, _, rfl, ?_⟩
        have nochange : ¬ (st.net.isOpen a = true ∧ st.net.isOpen b = true) → J6b p d da od kva H kvs ls st es (i + 1) [some (V.ref p), some (V.ref d), x2, x3, some (V.int (a : Int)), some (V.int (b : Int))] H4 := fun hno =>
          ⟨us, x2, x3, _, _, rfl, hf, hsm, hd4, fun v ho => by
            obtain ⟨q1, q2⟩ := hus v ho
            refine ⟨q1, ?_⟩
            rw [htake, onF_snoc, if_neg (fun z => hno z.2), List.append_nil]
            exact q2⟩
        cases hoa : st.net.isOpen a with
        | false =>
          rw [g2 a hoa]
          exact nochange fun z => by rw [hoa] at z; exact absurd z.1 (by decide)
        | true =>
          rw [(g1 a hoa).1]
          refine ⟨_, rfl, _, rfl, d, _, rfl, DGet.k (k := Sum.inl ((b : Nat) : Int)) hd4, _, rfl, ?_⟩
          cases hob : st.net.isOpen b with
          | false =>
            rw [g2 b hob]
            exact nochange fun z => by rw [hob] at z; exact absurd z.2 (by decide)
          | true =>
            rw [(g1 b hob).1]
            have hp4 := hsm _ _ hp hpda
            refine ⟨_, rfl, _, rfl, d, .ref (ls a), rfl, (g1 a hoa).1 ▸ DGet.k (k := Sum.inl ((a : Nat) : Int)) hd4, .inl ⟨rfl, _, SqL.of (hus a hoa).1⟩, ?_⟩
            refine ⟨_, rfl, _, rfl, p, C, dx, _, _, rfl, hp4, T.cl, T.nArcs, nf_arcs _ _ _ _, _, rfl, _, rfl, zJ (by show 2 ≤ 100000; decide), fun t1 et1 => ?_⟩
            have st1 : Same H4 (upd H4 t1 (.tup [.int (a : Nat), .int (b : Nat)])) := Same.upd et1
            refine ⟨da, .int (ar.len : Nat), rfl, hval ▸ .inr ⟨kva, bk a b, t1, .inr ⟨od, st1 _ _ hf⟩, rfl, zB, rfl⟩, ?_⟩
            refine ⟨zJ (by show 2 ≤ 100000; decide), fun t2 et2 => ?_⟩
            have st2 := st1.trans (Same.upd (o := .tup [.int (b : Nat), .int (ar.len : Nat)]) et2)
            have hua : (us a).length ≤ 64 := by
              rw [Paired.length (hus a hoa).2]
              unfold onF
              rw [List.length_map]
              refine Nat.le_trans (List.length_filter_le _ _) ?_
              rw [List.length_take]
              have := ak.small wf
              lia
            refine ⟨ls a, _, _, rfl, rfl, st2 _ _ (hus a hoa).1, Nat.lt_of_le_of_lt hua (by decide), ?_⟩
            refine ⟨fun v => if v = a then us a ++ [.ref t2] else us v, x2, x3, _, _, rfl, ?_, fun b' o eb hb => ?_, ?_, fun v ho => ?_⟩
            · rw [zE (Ne.symm (ls_da a hoa))]; exact st2 _ _ hf
            · rw [zE (fun z => by rw [z, (g1 a hoa).2.2] at eb; cases eb)]
              exact st2 _ _ (hsm _ _ eb hb)
            · rw [zE (Ne.symm (ls_d a hoa))]; exact st2 _ _ hd4
            · have stepUp : ∀ {ww : List V} {xs : List V} {zs : List (Nat × Nat)}, Paired (StepAt H4) xs zs → Paired (StepAt (upd (upd (upd H4 t1 (.tup [.int (a : Nat), .int (b : Nat)])) t2 (.tup [.int (b : Nat), .int (ar.len : Nat)])) (ls a) (.lst ww))) xs zs := fun {ww xs zs} pp => L2.Paired.mapP pp fun x z ⟨q, e, h⟩ => ⟨q, e, by rw [zE (ne_of h (hus a hoa).1 (by intro z; cases z))]; exact st2 _ _ h⟩
              rw [htake, onF_snoc]
              dsimp only
              by_cases ev : v = a
              · subst ev
                rw [if_pos rfl, if_pos ⟨rfl, hoa, hob⟩]
                refine ⟨zB, Paired.snoc (stepUp (hus v hoa).2) ⟨t2, rfl, ?_⟩⟩
                have nt2 : t2 ≠ ls v := Ne.symm (zG (st1 _ _ (hus v hoa).1) et2)
                rw [zE nt2, zB, hlen0]
                rfl
              · rw [if_neg ev, if_neg (fun z => ev z.1.symm), List.append_nil]
                refine ⟨?_, stepUp (hus v ho).2⟩
                rw [zE (fun z => ev (g3 v a ho hoa z))]
                exact st2 _ _ (hus v ho).1
      · obtain ⟨us, x2, x3, x4, x5, rfl, hf, hsm, hd4, hus⟩ := z
        refine ⟨hf, _, rfl, ?_⟩
        rw [hlen, List.take_length] at hus
        refine k _ d (onF st.net es) (fun b o e => ?_) hd ⟨kvs, ?_, fun v => ⟨fun ho => ⟨ls v, us v, (g1 v ho).1, ?_, ?_⟩, g2 v⟩⟩ (onF_onw wf esnd esm)
        · by_cases hb : b = da
          · rw [hb, zB]; rw [hb, hda] at e; exact e
          · rw [zE hb]; exact hsm _ _ e hb
        · rw [zE (Ne.symm nd_da)]; exact hd4
        · rw [zE (ls_da v ho)]; exact (hus v ho).1
        · refine L2.Paired.mapP (hus v ho).2 fun x z ⟨q, e, h⟩ => ⟨q, e, ?_⟩
          rw [zE (ne_of h hf (by intro z; cases z))]
          exact h
end
noncomputable def dRow (r : List Nat) : PyData := .list (r.map fun (n : Nat) => .int (n : Int))
noncomputable def dPair (x : Nat × List Nat) : PyData := .tuple [.int (x.1 : Nat), dRow x.2]
theorem eqv_ints : ∀ (r q : List Nat), PyData.eqvAll (r.map fun (n : Nat) => .int (n : Int)) (q.map fun (n : Nat) => .int (n : Int)) = decide (r = q)
  | [], [] => rfl
  | [], _ :: _ => by simp [PyData.eqvAll]
  | _ :: _, [] => by simp [PyData.eqvAll]
  | a :: r, b :: q => by
    rw [List.map_cons, List.map_cons]
    show (PyData.eqv (.int (a : Int)) (.int (b : Int)) && PyData.eqvAll _ _) = _
    rw [eqv_ints r q]
    show (((a : Int) == (b : Int)) && decide (r = q)) = _
    rw [Bool.eq_iff_iff, Bool.and_eq_true, beq_iff_eq, decide_eq_true_iff, decide_eq_true_iff]
    constructor
    · rintro ⟨h1, h2⟩
      rw [h2, show a = b by lia]
    · intro h
      injection h with h1 h2
      exact ⟨by lia, h2⟩
theorem lex_ints (n : Nat) : ∀ (r q : List Nat), lexA PyData.eqv (ltN (n + 1)) (r.map fun (n : Nat) => .int (n : Int)) (q.map fun (n : Nat) => .int (n : Int)) = lexLt natOrd r q
  | [], [] => rfl
  | [], _ :: _ => rfl
  | _ :: _, [] => rfl
  | a :: r, b :: q => by
    rw [List.map_cons, List.map_cons, lexA_cons, lex_ints n r q]
    by_cases h : a = b
    · subst h
      rw [if_pos (by show ((a : Int) == (a : Int)) = true; simp)]
      exact (lex_self (O := natOrd) a r q).symm
    · rw [if_neg (by show ¬ ((a : Int) == (b : Int)) = true; simp; lia), lex_diff (O := natOrd) h]
      show decide ((a : Int) < (b : Int)) = decide (a < b)
      exact decide_eq_decide.mpr (by lia)
theorem lt_pair (n : Nat) (x y : Nat × List Nat) : ltN (n + 3) (dPair x) (dPair y) = lexLt natOrd (x.1 :: x.2) (y.1 :: y.2) := by
  show lexA PyData.eqv (ltN (n + 2)) [.int (x.1 : Nat), dRow x.2] [.int (y.1 : Nat), dRow y.2] = _
  rw [lexA_cons]
  by_cases h : x.1 = y.1
  · rw [h, lex_self (O := natOrd), if_pos (by show ((y.1 : Int) == (y.1 : Int)) = true; simp), lexA_cons]
    have e : PyData.eqv (dRow x.2) (dRow y.2) = decide (x.2 = y.2) := eqv_ints x.2 y.2
    rw [e]
    by_cases h2 : x.2 = y.2
    · rw [if_pos (decide_eq_true h2), h2]
      exact (lex_irrefl (O := natOrd) y.2).symm
    · rw [if_neg (by rw [decide_eq_false h2]; decide)]
      exact lex_ints n x.2 y.2
  · rw [if_neg (by show ¬ ((x.1 : Int) == (y.1 : Int)) = true; simp; lia), lex_diff (O := natOrd) h]
    show decide ((x.1 : Int) < (y.1 : Int)) = decide (x.1 < y.1)
    exact decide_eq_decide.mpr (by lia)
theorem lex_lt : ∀ (r q : List Nat), lexLt natOrd r q = decide (r < q)
  | [], [] => by simp [PyProof.Rows.lexLt]
  | [], _ :: _ => by simp [PyProof.Rows.lexLt]
  | _ :: _, [] => by simp [PyProof.Rows.lexLt]
  | a :: r, b :: q => by
    rw [lex_cons, lex_lt r q, Bool.eq_iff_iff, decide_eq_true_iff, List.cons_lt_cons_iff]
    show (decide (a < b) || (!decide (b < a) && decide (r < q))) = true ↔ _
    rw [Bool.or_eq_true, Bool.and_eq_true, decide_eq_true_iff, decide_eq_true_iff, Bool.not_eq_true', decide_eq_false_iff_not]
    constructor
    · rintro (h | ⟨h1, h2⟩)
      · exact .inl h
      · rcases Nat.lt_trichotomy a b with z | z | z
        · exact .inl z
        · exact .inr ⟨z, h2⟩
        · exact absurd z h1
    · rintro (h | ⟨h1, h2⟩)
      · exact .inl h
      · exact .inr ⟨by lia, h2⟩
theorem not_lt2 {x y : Nat × List Nat} (h : lexLt natOrd (y.1 :: y.2) (x.1 :: x.2) = false) : ¬ Lt2 y x := by
  rw [lex_lt] at h
  have h := of_decide_eq_false h
  intro z
  apply h
  rw [List.cons_lt_cons_iff]
  exact z
theorem depth_ints : ∀ (r : List Nat), PyData.depthAll (r.map fun (n : Nat) => .int (n : Int)) = 0 ∨ PyData.depthAll (r.map fun (n : Nat) => .int (n : Int)) ≤ 1
  | [] => .inr (by simp [PyData.depthAll])
  | a :: r => by
    right
    rw [List.map_cons]
    unfold PyData.depthAll
    have h1 : PyData.depth (.int (a : Int)) ≤ 1 := by simp [PyData.depth]
    rcases depth_ints r with h | h <;> lia
theorem lay_ints : ∀ (r : List Nat), PyData.canLayAll0 (r.map fun (n : Nat) => .int (n : Int)) = true
  | [] => by simp [PyData.canLayAll0]
  | a :: r => by
    rw [List.map_cons]
    unfold PyData.canLayAll0
    rw [lay_ints r]
    simp [PyData.canLay0]
theorem dPair_fit (ps : List (Nat × List Nat)) : Fit 2 (ps.map dPair) where
  tup := fun d hd => by
    obtain ⟨x, _, rfl⟩ := List.mem_map.mp hd
    exact ⟨_, _, rfl⟩
  lay := fun d hd => by
    obtain ⟨x, _, rfl⟩ := List.mem_map.mp hd
    have := lay_ints x.2
    simp [dPair, dRow, PyData.canLay0, PyData.canLayAll0, this]
  dep := fun d hd => by
    obtain ⟨x, _, rfl⟩ := List.mem_map.mp hd
    have := depth_ints x.2
    simp only [dPair, dRow, PyData.depth, PyData.depthAll]
    lia
  can := fun d hd e he => by
    obtain ⟨x, _, rfl⟩ := List.mem_map.mp hd
    obtain ⟨y, _, rfl⟩ := List.mem_map.mp he
    intro j a b ha hb
    match j, ha, hb with
    | 0, ha, hb =>
      obtain rfl : PyData.int (x.1 : Nat) = a := by simpa using ha
      obtain rfl : PyData.int (y.1 : Nat) = b := by simpa using hb
      trivial
    | 1, ha, hb =>
      obtain rfl : dRow x.2 = a := by simpa using ha
      obtain rfl : dRow y.2 = b := by simpa using hb
      intro i c d hc hd
      rw [List.getElem?_map] at hc hd
      obtain ⟨u, _, rfl⟩ := Option.map_eq_some_iff.mp hc
      obtain ⟨v, _, rfl⟩ := Option.map_eq_some_iff.mp hd
      trivial
    | j + 2, ha, hb => simp at ha
theorem dp_rowV {K : PySem.W.Frag} {H : Hp} : ∀ (r : List Nat), DpAll K H (rowV r) (r.map fun (n : Nat) => .int (n : Int))
  | [] => .nil
  | a :: r => .cons (.int _) (dp_rowV r)
theorem dp_pair {K : PySem.W.Frag} {H : Hp} {v : V} {x : Nat × List Nat} : PairAt H v x → Dp K H v (dPair x)
  | ⟨q, ra, e, h1, h2⟩ => by
    rw [e]
    exact .tup (SqT.of h1) (.cons (.int _) (.cons (.lst (SqL.of h2) (dp_rowV x.2)) .nil))
theorem dp_pairs {K : PySem.W.Frag} {H : Hp} : ∀ {vs : List V} {ps : List (Nat × List Nat)}, Paired (PairAt H) vs ps → DpAll K H vs (ps.map dPair)
  | _, _, .nil => .nil
  | _, _, .cons p t => .cons (dp_pair p) (dp_pairs t)
theorem pick_pairs {H : Hp} {vs : List V} {ps : List (Nat × List Nat)} (pr : Paired (PairAt H) vs ps) : ∀ {p : List Nat}, (∀ i ∈ p, i < vs.length) → Paired (PairAt H) (p.map fun i => vs.getD i .non) (p.map fun i => ps.getD i (0, []))
  | [], _ => .nil
  | i :: p, h => by
    have hi := h i List.mem_cons_self
    have hv : vs[i]? = some (vs.getD i .non) := by rw [List.getD_eq_getElem?_getD, List.getElem?_eq_getElem hi]; rfl
    obtain ⟨x, hx, px⟩ := zX pr hv
    have : ps.getD i (0, []) = x := by rw [List.getD_eq_getElem?_getD, hx]; rfl
    refine .cons ?_ (pick_pairs pr fun j hj => h j (List.mem_cons_of_mem _ hj))
    show PairAt H (vs.getD i .non) (ps.getD i (0, []))
    rw [this]
    exact px
theorem range_getD {α : Type} (l : List α) (d : α) : (List.range l.length).map (fun i => l.getD i d) = l := by
  apply List.ext_getElem
  · simp
  · intro i h1 h2
    simp [List.getD_eq_getElem?_getD, List.getElem?_eq_getElem h2]
theorem sort_pairs {g : Net} (w : WF g) {s t : Nat} {ps : List (Nat × List Nat)} (A : AllWays g s t ps) {p : List Nat} (hp : p.Perm (List.range ps.length)) (hs : p.Pairwise fun i j => lexLt natOrd ((ps.getD j (0, [])).1 :: (ps.getD j (0, [])).2) ((ps.getD i (0, [])).1 :: (ps.getD i (0, [])).2) = false) : p.map (fun i => ps.getD i (0, [])) = wayPairs g s t := by
  refine AllWays.sorted w (A.perm ?_) ?_
  · have := hp.map fun i => ps.getD i (0, [])
    rwa [range_getD] at this
  · exact List.pairwise_map.mpr (List.Pairwise.imp (fun h => not_lt2 h) hs)
noncomputable abbrev sOrd : Stmt := yH sNet 13
noncomputable abbrev sSearch : Stmt := yH sNet 14
noncomputable abbrev sNext : Stmt := yH sNet 15
noncomputable abbrev sWayAt : Stmt := yH sNet 17
noncomputable abbrev sCount : Stmt := yH sNet 18
noncomputable def ChgL (C : Addr) (H : Hp) (p dx lc da : Addr) (Q : VK) (st' : State) (r : List Int) : Prop :=
  ∀ (H' : Hp) (lc' da' l : Addr), NetAt C H' p dx lc' da' st' → Kept H H' p lc da → (lc' = lc ∨ H lc' = none) → (da' = da ∨ H da' = none) → H l = none → H' l = some (.lst (r.map V.int)) → l ≠ lc' → Q (.ref l) H'
noncomputable def full (a : Answer) : List Int := a.ret :: a.nums
theorem ways_short {g : Net} (w : WF g) {s t : Nat} {r : List Nat} (h : r ∈ g.ways s t) : r.length ≤ 8 := by
  have p := (mem_ways w).mp h
  exact Nat.le_trans (nodup_le g.n r p.way.nd (p.lt_n w)) w.n8
theorem full_told (g : Net) (r : List Nat) : full (wayTold g r) = (r.length : Int) :: (g.length r : Int) :: r.map fun (n : Nat) => (n : Int) := rfl
section
variable {P : Program} {w : World} {K : PySem.W.Frag} {mg : Str → Option Value} {base : Heap} {f C fA fO fB fW : Addr} {fd fdA fdO fdB fdW : FuncData}
inductive IspOrd (C : Addr) (vs : List V) (H : Hp) (Q : VK) : Prop
  | mk (p dx lc da : Addr) (st : State) (s t : Nat) (_h1 : vs = [.ref p, .int (s : Nat), .int (t : Nat)]) (_h2 : NetAt C H p dx lc da st) (_h3 : ∀ (H' : Hp) (l : Addr), Same H H' → H l = none → PairsAt H' l (wayPairs st.net s t) → Q (.ref l) H') : IspOrd C vs H Q
noncomputable def spOrd (C : Addr) : Sp := fun vs H Q _ => IspOrd C vs H Q
theorem scOrd : zR ["self", "s", "t"] ["self", "s", "t"] (zH sOrd) := ⟨rfl, rfl, rfl, by decide +kernel, rfl, by decide +kernel, by decide +kernel⟩
theorem ok_ord (F : Fun K "ordered_ways" "Net.ordered_ways" sOrd f fd) (T : Txt K mg C) (G_all : FnOk P w K mg base CX0 2 fA fdA ["onward", "s", "t"] spAll) (b_all : Binds K fdA ["onward", "s", "t"] []) (m_all : mg "all_ways" = some (.ref fA)) (k_all : PySem.W.keepIn K (.ref fA) = true)
    (G_onw : FnOk P w K mg base CX0 1 fO fdO ["self"] (spOnw C)) (b_onw : Binds K fdO ["self"] []) (mt_onw : Meth K C "arcs_onward" fO) : FnOk P w K mg base CX0 3 f fd ["self", "s", "t"] (spOrd C) := by
  refine F.ok scOrd (fun vs H Q E h => ?_) (fun cdv A outer s H vs Q E hr h => ?_)
  · obtain ⟨p, dx, lc, da, st, s, t, rfl, _⟩ := h
    rfl
  · obtain ⟨p, dx, lc, da, st, s0, t, rfl, hN, k⟩ := h
    have hr1 := hr.mono (show 1 ≤ 2 by decide)
    refine ⟨_, (zD (zL (yG (cr_sortL hr.units) (by rfl) T.sorted PyProof.Rows.boot_sorted (zA (pe_call G_all hr (by rfl) m_all k_all b_all .nil pass0 (zA (pe_meth0 (pv 0) T.cl mt_onw G_onw hr1 b_onw .nil pass0) (zA (pv 1) (zA (pv 2) zF)))) zF)))), ?_⟩
    obtain ⟨sv, tv, hp, hse⟩ := hN.ob
    refine ⟨_, rfl, p, dx, _, rfl, hp, rfl, p, dx, lc, da, st, rfl, hN, fun H1 d ons s1 hd hO ho => ?_⟩
    refine ⟨_, rfl, _, rfl, d, st.net, ons, s0, t, rfl, hO, ho, hN.wf, fun H2 l us ps s2 hl hus pr aw => ?_⟩
    have hlen : us.length = ps.length := Paired.length pr
    refine ⟨l, us, _, 2, listOrd natOrd, fun i => (ps.getD i (0, [])).1 :: (ps.getD i (0, [])).2, rfl, hus, dp_pairs pr, dPair_fit ps, by decide, fun i j d e h1 h2 => ?_, fun pp a hp' hs ha => ?_⟩
    · rw [List.getElem?_map] at h1 h2
      obtain ⟨x, hx, rfl⟩ := Option.map_eq_some_iff.mp h1
      obtain ⟨y, hy, rfl⟩ := Option.map_eq_some_iff.mp h2
      rw [lt_pair]
      have e1 : ps.getD i (0, []) = x := by rw [List.getD_eq_getElem?_getD, hx]; rfl
      have e2 : ps.getD j (0, []) = y := by rw [List.getD_eq_getElem?_getD, hy]; rfl
      dsimp only
      rw [e1, e2]
    · have sa : Same H2 (upd H2 a (.lst (pp.map fun i => us.getD i .non))) := Same.upd ha
      refine k _ a ((s1.trans s2).trans sa) ((s1.trans s2).free ha) ⟨_, zB, ?_⟩
      have hm : ∀ i ∈ pp, i < us.length := fun i hi => List.mem_range.mp (hp'.mem_iff.mp hi)
      have := pick_pairs pr hm
      rw [hlen] at hp'
      rw [sort_pairs hN.wf aw hp' hs] at this
      exact L2.Paired.mapP this fun _ _ z => PairAt.mono sa z
inductive IspSearch (C : Addr) (vs : List V) (H : Hp) (Q : VK) : Prop
  | mk (p dx lc da : Addr) (st : State) (a b : Nat) (_h1 : vs = [.ref p, .int (a : Int), .int (b : Int)]) (_h2 : NetAt C H p dx lc da st) (_h3 : Chg C H p dx lc da Q (WaySpec.step st (.search a b)).1 (WaySpec.step st (.search a b)).2.ret) : IspSearch C vs H Q
noncomputable def spSearch (C : Addr) : Sp := fun vs H Q _ => IspSearch C vs H Q
theorem scSearch : zR ["self", "s", "t"] ["self", "s", "t"] (zH sSearch) := ⟨rfl, rfl, rfl, by decide +kernel, rfl, by decide +kernel, by decide +kernel⟩
theorem ok_search (F : Fun K "start_search" "Net.start_search" sSearch f fd) (T : Txt K mg C) (G_both : FnOk P w K mg base CX0 2 fB fdB ["self", "a", "b"] (spBoth C)) (b_both : Binds K fdB ["self", "a", "b"] []) (mt_both : Meth K C "has_both" fB)
    (G_ord : FnOk P w K mg base CX0 3 fO fdO ["self", "s", "t"] (spOrd C)) (b_ord : Binds K fdO ["self", "s", "t"] []) (mt_ord : Meth K C "ordered_ways" fO) : FnOk P w K mg base CX0 4 f fd ["self", "s", "t"] (spSearch C) := by
  refine F.ok scSearch (fun vs H Q E h => ?_) (fun cdv A outer s H vs Q E hr h => ?_)
  · obtain ⟨p, dx, lc, da, st, a, b, rfl, _⟩ := h
    rfl
  · obtain ⟨p, dx, lc, da, st, a, b, rfl, hN, k⟩ := h
    have hr2 := hr.mono (show 2 ≤ 3 by decide)
    refine let T2 : TS := _; let T1 : TS := _; ⟨_, (zC (ps_if (pt_not (pt_val (zW (pv 0) T.cl mt_both G_both hr2 b_both .nil pass0 (zA (pv 1) (zA (pv 2) zF))))) (zD (zL (pe_gi (by rfl) T.g_NOT_THERE))) zM)
      (sh T1 (zC (ps_fld (pv 0) (zW (pv 0) T.cl mt_ord G_ord hr b_ord .nil pass0 (zA (pv 1) (zA (pv 2) zF))) rfl)
      (sh T2 (zC (ps_fld (pv 0) zN rfl)
      (zD (zL (pe_gi (by rfl) T.g_DONE)))))))), ?_⟩
    obtain ⟨sv, tv, hp, hse⟩ := hN.ob
    obtain ⟨kvs, hd, ak⟩ := hN.ar
    have hc := hN.cl
    obtain ⟨n1, n2, n3⟩ := hN.ne
    refine ⟨_, rfl, p, dx, _, rfl, hp, rfl, _, rfl, _, rfl, p, dx, lc, da, st, a, b, rfl, hN, _, rfl, ?_⟩
    refine zU (fun h1 => ?_) fun h1 => ?_
    · have e : WaySpec.step st (.search a b) = (st, says (-1)) := if_pos h1
      rw [e] at k
      exact k.none hN
    have e : WaySpec.step st (.search a b) = (⟨st.net, some ⟨a, b, 0⟩⟩, says 0) := if_neg (by rw [h1]; decide)
    rw [e] at k
    refine ⟨_, rfl, p, dx, _, rfl, hp, rfl, _, rfl, _, rfl, p, dx, lc, da, st, a, b, rfl, hN, fun H1 l s1 hl pa => ?_⟩
    refine ⟨_, rfl, p, C, dx, _, rfl, s1 _ _ hp, T.cl, T.nSearch, (by show 4 < 1000; decide), ?_⟩
    rw [nf_setS]
    refine ⟨_, rfl, p, C, dx, _, rfl, zB, T.cl, T.nTold, (by show 4 < 1000; decide), ?_⟩
    rw [nf_setT, upd_upd]
    have hp1 := s1 _ _ hp
    have sp : ∀ {o : HO} {fs : List (Str × V)}, ∀ b u, H1 b = some u → u ≠ .ins C dx (nf lc da sv tv) → (upd H1 p o) b = some u := fun {o fs} b u e hne => by
      rw [zE (ne_of e hp1 hne)]; exact e
    refine k _ lc da ⟨hN.wf, ⟨.ref l, .int 0, zB, l, rfl, ?_, rfl, Nat.zero_le _⟩, ?_, ⟨_, ?_, ak⟩⟩ ?_ (.inl rfl) (.inl rfl)
    · obtain ⟨us, hus, pr⟩ := pa
      refine ⟨us, ?_, L2.Paired.mapP pr fun x z ⟨q, ra, e, h1, h2⟩ => ⟨q, ra, e, ?_, ?_⟩⟩
      · exact sp (fs := []) _ _ hus (by intro z; cases z)
      · exact sp (fs := []) _ _ h1 (by intro z; cases z)
      · exact sp (fs := []) _ _ h2 (by intro z; cases z)
    · rw [zE (Ne.symm n1)]; exact s1 _ _ hc
    · rw [zE (Ne.symm n2)]; exact s1 _ _ hd
    · intro b' o e hb _ _
      rw [zE hb]; exact s1 _ _ e
inductive IspNext (C : Addr) (vs : List V) (H : Hp) (Q : VK) : Prop
  | mk (p dx lc da : Addr) (st : State) (_h1 : vs = [.ref p]) (_h2 : NetAt C H p dx lc da st) (_h3 : ChgL C H p dx lc da Q (WaySpec.step st .next).1 (full (WaySpec.step st .next).2)) : IspNext C vs H Q
noncomputable def spNext (C : Addr) : Sp := fun vs H Q _ => IspNext C vs H Q
theorem scNext : zR ["self"] ["self"] (zH sNext) := ⟨rfl, rfl, rfl, by decide +kernel, rfl, by decide +kernel, by decide +kernel⟩
theorem pairs_len {H : Hp} {q : Addr} {g : Net} {s t : Nat} {us : List V} (pr : Paired (PairAt H) us (wayPairs g s t)) : us.length = (g.ways s t).length := by
  rw [Paired.length pr]; unfold wayPairs; rw [List.length_map]
theorem ok_next (F : Fun K "next_way" "Net.next_way" sNext f fd) (T : Txt K mg C) (G_wt : FnOk P w K mg base CX0 1 fW fdW ["way"] spWayTold) (b_wt : Binds K fdW ["way"] []) (m_wt : mg "way_told" = some (.ref fW)) (k_wt : PySem.W.keepIn K (.ref fW) = true) : FnOk P w K mg base CX0 2 f fd ["self"] (spNext C) := by
  refine F.ok scNext (fun vs H Q E h => ?_) (fun cdv A outer s H vs Q E hr h => ?_)
  · obtain ⟨p, dx, lc, da, st, rfl, _⟩ := h
    rfl
  · obtain ⟨p, dx, lc, da, st, rfl, hN, k⟩ := h
    refine let T4 : TS := _; let T3 : TS := _; let T2 : TS := _; let T1 : TS := _; ⟨_, (zC (ps_if (pt_cmp (pc_isN (yF (pv 0) rfl))) (sh T1 (zD (zL (pe_lst (zA (pe_gi (by rfl) T.g_NO_SEARCH) zF))))) zM)
      (sh T2 (zC (ps_if (zQ op_eq (yF (pv 0) rfl) (yG zS (by rfl) T.len PySem.boot_len (zA (yF (pv 0) rfl) zF)) (yC _)) (zD (zL (pe_lst (zA zN zF)))) zM)
      (sh T3 (zC (ps_fldaug (pv 0) zN in_add)
      (sh T4 (zD (zL (pe_call G_wt hr (by rfl) m_wt k_wt b_wt .nil pass0 (zA (pe_ix zP (yF (pv 0) rfl) (pe_op op_sub (yF (pv 0) rfl) zN) (fun _ _ => rfl)) zF)))))))))), ?_⟩
    obtain ⟨sv, tv, hp, hse⟩ := hN.ob
    obtain ⟨kvs, hd, ak⟩ := hN.ar
    have hc := hN.cl
    obtain ⟨n1, n2, n3⟩ := hN.ne
    have lnew : ∀ {l : Addr}, H l = none → l ≠ lc := fun h z => by rw [z, hc] at h; cases h
    refine ⟨_, rfl, p, C, dx, _, _, rfl, hp, T.cl, T.nSearch, nf_search _ _ _ _, _, rfl, ?_⟩
    cases hs : st.search with
    | none =>
      rw [hs] at hse
      obtain rfl : sv = .non := hse
      have e : WaySpec.step st .next = (st, says (-3)) := by unfold WaySpec.step; rw [hs]
      rw [e] at k
      refine iteT ⟨zJ (by show 1 ≤ 100000; decide), fun l el => ?_⟩
      exact k _ lc da l (hN.mono (Same.upd el)) (fun b o e _ _ _ => Same.upd el b o e) (.inl rfl) (.inl rfl) el zB (lnew el)
    | some x =>
      rw [hs] at hse
      obtain ⟨q, rfl, ⟨us, hus, pr⟩, rfl, hle⟩ := hse
      have hul : us.length = (st.net.ways x.s x.t).length := pairs_len (q := q) pr
      have e : WaySpec.step st .next = (match (st.net.ways x.s x.t)[x.told]? with
        | none => (st, says 0)
        | some l => (⟨st.net, some ⟨x.s, x.t, x.told + 1⟩⟩, wayTold st.net l)) := by unfold WaySpec.step; rw [hs]; rfl
      rw [e] at k
      refine zK (fun z => nomatch of_decide_eq_true z) fun _ => ?_
      refine ⟨_, rfl, p, C, dx, _, _, rfl, hp, T.cl, T.nTold, nf_told _ _ _ _, _, rfl, p, C, dx, _, _, rfl, hp, T.cl, T.nSearch, nf_search _ _ _ _, q, us, rfl, .inl (SqL.of hus), rfl, _, rfl, ?_⟩
      refine zK (fun heq => ?_) fun hne => ?_
      · have heq : x.told = us.length := by have := of_decide_eq_true heq; injection this; lia
        rw [List.getElem?_eq_none (by lia)] at k
        refine ⟨zJ (by show 1 ≤ 100000; decide), fun l el => ?_⟩
        exact k _ lc da l (hN.mono (Same.upd el)) (fun b o e _ _ _ => Same.upd el b o e) (.inl rfl) (.inl rfl) el zB (lnew el)
      · have hne : x.told ≠ us.length := fun z => by have := of_decide_eq_false hne; exact this (by rw [z])
        have hlt : x.told < (st.net.ways x.s x.t).length := by lia
        have hr' : (st.net.ways x.s x.t)[x.told]? = some (st.net.ways x.s x.t)[x.told] := List.getElem?_eq_getElem hlt
        rw [hr'] at k
        generalize hrow : (st.net.ways x.s x.t)[x.told] = row at k hr'
        have hshort := ways_short hN.wf (List.mem_of_getElem? hr')
        refine ⟨_, rfl, p, C, dx, _, _, rfl, hp, T.cl, T.nTold, nf_told _ _ _ _, _, _, rfl, rfl, dx, _, hp, (by show 4 < 1000; decide), ?_⟩
        rw [nf_setT]
        have hv : us[x.told]? = some (us[x.told]'(by lia)) := List.getElem?_eq_getElem _
        obtain ⟨y, hy, py⟩ := zX pr hv
        have hyr : y = (st.net.length row, row) := by
          unfold wayPairs at hy
          rw [List.getElem?_map, hr'] at hy
          exact (Option.some.inj hy).symm
        subst hyr
        have up : ∀ b u, H b = some u → u ≠ .ins C dx (nf lc da (.ref q) (.int (x.told : Nat))) → (upd H p (.ins C dx (nf lc da (.ref q) (.int ((x.told : Int) + 1))))) b = some u := fun b u e hne => by
          rw [zE (ne_of e hp hne)]; exact e
        have upP : ∀ {v : V} {z : Nat × List Nat}, PairAt H v z → PairAt (upd H p (.ins C dx (nf lc da (.ref q) (.int ((x.told : Int) + 1))))) v z := fun {v z} ⟨q, ra, e, h1, h2⟩ => ⟨q, ra, e, up _ _ h1 (by intro z; cases z), up _ _ h2 (by intro z; cases z)⟩
        refine ⟨_, rfl, p, C, dx, _, _, rfl, zB, T.cl, T.nSearch, nf_search _ _ _ _, _, rfl, p, C, dx, _, _, rfl, zB, T.cl, T.nTold, nf_told _ _ _ _, _, _, rfl, rfl, q, us, (x.told : Nat), _, rfl, ?_, SqL.of (up _ _ hus (by intro z; cases z)), atI_nat hv, ?_⟩
        · show V.int ((x.told : Int) + 1 - 1) = _
          congr 1; lia
        refine ⟨_, (st.net.length row, row), rfl, upP py, Nat.le_trans hshort (by decide), fun H' l s' hl hl' => ?_⟩
        have hl0 : H l = none := by
          cases hq : H l with
          | none => rfl
          | some o =>
            by_cases hlp : l = p
            · rw [hlp, zB] at hl; cases hl
            · rw [zE hlp, hq] at hl; cases hl
        refine k H' lc da l ⟨hN.wf, ⟨.ref q, .int ((x.told : Int) + 1), s' _ _ zB, q, rfl, ⟨us, s' _ _ (up _ _ hus (by intro z; cases z)), L2.Paired.mapP pr fun _ _ z => PairAt.mono s' (upP z)⟩, rfl, hlt⟩, s' _ _ (by rw [zE (Ne.symm n1)]; exact hc), ⟨kvs, s' _ _ (by rw [zE (Ne.symm n2)]; exact hd), ak⟩⟩ (fun b o e hb _ _ => s' _ _ (by rw [zE hb]; exact e)) (.inl rfl) (.inl rfl) hl0 ?_ (lnew hl0)
        rw [hl', full_told]
inductive IspWayAt (C : Addr) (vs : List V) (H : Hp) (Q : VK) : Prop
  | mk (p dx lc da : Addr) (st : State) (s t j : Nat) (_h1 : vs = [.ref p, .int (s : Nat), .int (t : Nat), .int (j : Nat)]) (_h2 : NetAt C H p dx lc da st) (_h3 : AskL H Q (full (WaySpec.ask st.net (.nth s t j)))) : IspWayAt C vs H Q
noncomputable def spWayAt (C : Addr) : Sp := fun vs H Q _ => IspWayAt C vs H Q
theorem scWayAt : zR ["self", "s", "t", "k", "ordered"] ["self", "s", "t", "k"] (zH sWayAt) := ⟨rfl, rfl, rfl, by decide +kernel, rfl, by decide +kernel, by decide +kernel⟩
theorem ok_wayAt (F : Fun K "way_at" "Net.way_at" sWayAt f fd) (T : Txt K mg C) (G_both : FnOk P w K mg base CX0 2 fB fdB ["self", "a", "b"] (spBoth C)) (b_both : Binds K fdB ["self", "a", "b"] []) (mt_both : Meth K C "has_both" fB)
    (G_ord : FnOk P w K mg base CX0 3 fO fdO ["self", "s", "t"] (spOrd C)) (b_ord : Binds K fdO ["self", "s", "t"] []) (mt_ord : Meth K C "ordered_ways" fO) (G_wt : FnOk P w K mg base CX0 1 fW fdW ["way"] spWayTold) (b_wt : Binds K fdW ["way"] []) (m_wt : mg "way_told" = some (.ref fW)) (k_wt : PySem.W.keepIn K (.ref fW) = true) : FnOk P w K mg base CX0 4 f fd ["self", "s", "t", "k"] (spWayAt C) := by
  refine F.ok scWayAt (fun vs H Q E h => ?_) (fun cdv A outer s H vs Q E hr h => ?_)
  · obtain ⟨p, dx, lc, da, st, s, t, j, rfl, _⟩ := h
    rfl
  · obtain ⟨p, dx, lc, da, st, s0, t, j, rfl, hN, k⟩ := h
    have nd := scWayAt.nd
    have hr2 := hr.mono (show 2 ≤ 3 by decide)
    have hr1 := hr.mono (show 1 ≤ 3 by decide)
    refine let T5 : TS := _; let T4 : TS := _; let T3 : TS := _; let T2 : TS := _; let T1 : TS := _; ⟨_, (zC (ps_if (pt_not (pt_val (zW (pv 0) T.cl mt_both G_both hr2 b_both .nil pass0 (zA (pv 1) (zA (pv 2) zF))))) (sh T1 (zD (zL (pe_lst (zA (pe_gi (by rfl) T.g_NOT_THERE) zF))))) zM)
      (sh T2 (zC (ps_set (i := 4) nd rfl (Or.inl rfl) (zW (pv 0) T.cl mt_ord G_ord hr b_ord .nil pass0 (zA (pv 1) (zA (pv 2) zF))))
      (sh T3 (zC (ps_if (zQ op_ge (pv 3) (yG zS (by rfl) T.len PySem.boot_len (zA (pv 4) zF)) (yC _)) (sh T4 (zD (zL (pe_lst (zA (pe_gi (by rfl) T.g_NONE_SUCH) zF))))) zM)
      (sh T5 (zD (zL (pe_call G_wt hr1 (by rfl) m_wt k_wt b_wt .nil pass0 (zA (pe_ix zP (pv 4) (pv 3) (fun _ _ => rfl)) zF)))))))))), ?_⟩
    obtain ⟨sv, tv, hp, hse⟩ := hN.ob
    refine ⟨_, rfl, p, dx, _, rfl, hp, rfl, _, rfl, _, rfl, p, dx, lc, da, st, s0, t, rfl, hN, _, rfl, ?_⟩
    refine zU (fun h1 => ?_) fun h1 => ?_
    · have e : WaySpec.ask st.net (.nth s0 t j) = says (-1) := if_neg (by rw [h1]; decide)
      rw [e] at k
      exact ⟨zJ (by show 1 ≤ 100000; decide), fun l el => k _ l (Same.upd el) el zB⟩
    have e : WaySpec.ask st.net (.nth s0 t j) = (match (st.net.ways s0 t)[j]? with
      | some l => wayTold st.net l
      | none => says (-2)) := if_pos h1
    rw [e] at k
    refine ⟨_, rfl, p, dx, _, rfl, hp, rfl, _, rfl, _, rfl, p, dx, lc, da, st, s0, t, rfl, hN, fun H1 q s1 hq ⟨us, hus, pr⟩ => ?_⟩
    have hul : us.length = (st.net.ways s0 t).length := pairs_len (q := q) pr
    refine ⟨_, rfl, _, rfl, q, us, rfl, .inl (SqL.of hus), _, _, rfl, rfl, _, rfl, ?_⟩
    refine zK (fun hge => ?_) fun hlt => ?_
    · have hge := of_decide_eq_true hge
      rw [List.getElem?_eq_none (by lia)] at k
      exact ⟨zJ (by show 1 ≤ 100000; decide), fun l el => k _ l (s1.trans (Same.upd el)) (s1.free el) zB⟩
    · have hlt : j < (st.net.ways s0 t).length := by have := of_decide_eq_false hlt; lia
      have hr' : (st.net.ways s0 t)[j]? = some (st.net.ways s0 t)[j] := List.getElem?_eq_getElem hlt
      rw [hr'] at k
      generalize hrow : (st.net.ways s0 t)[j] = row at k hr'
      have hshort := ways_short hN.wf (List.mem_of_getElem? hr')
      have hv : us[j]? = some (us[j]'(by lia)) := List.getElem?_eq_getElem _
      obtain ⟨y, hy, py⟩ := zX pr hv
      have hyr : y = (st.net.length row, row) := by
        unfold wayPairs at hy
        rw [List.getElem?_map, hr'] at hy
        exact (Option.some.inj hy).symm
      subst hyr
      refine ⟨_, rfl, _, rfl, q, us, _, _, rfl, rfl, SqL.of hus, atI_nat hv, ?_⟩
      refine ⟨_, (st.net.length row, row), rfl, py, Nat.le_trans hshort (by decide), fun H' l s' hl hl' => ?_⟩
      exact k H' l (s1.trans s') (s1.free hl) (by rw [hl', full_told])
inductive IspCount (C : Addr) (vs : List V) (H : Hp) (Q : VK) : Prop
  | mk (p dx lc da : Addr) (st : State) (s t : Nat) (_h1 : vs = [.ref p, .int (s : Nat), .int (t : Nat)]) (_h2 : NetAt C H p dx lc da st) (_h3 : Ask H Q (WaySpec.ask st.net (.ways s t)).ret) : IspCount C vs H Q
noncomputable def spCount (C : Addr) : Sp := fun vs H Q _ => IspCount C vs H Q
theorem scCount : zR ["self", "s", "t"] ["self", "s", "t"] (zH sCount) := ⟨rfl, rfl, rfl, by decide +kernel, rfl, by decide +kernel, by decide +kernel⟩
theorem ok_count (F : Fun K "count_ways" "Net.count_ways" sCount f fd) (T : Txt K mg C) (G_both : FnOk P w K mg base CX0 2 fB fdB ["self", "a", "b"] (spBoth C)) (b_both : Binds K fdB ["self", "a", "b"] []) (mt_both : Meth K C "has_both" fB)
    (G_all : FnOk P w K mg base CX0 2 fA fdA ["onward", "s", "t"] spAll) (b_all : Binds K fdA ["onward", "s", "t"] []) (m_all : mg "all_ways" = some (.ref fA)) (k_all : PySem.W.keepIn K (.ref fA) = true)
    (G_onw : FnOk P w K mg base CX0 1 fO fdO ["self"] (spOnw C)) (b_onw : Binds K fdO ["self"] []) (mt_onw : Meth K C "arcs_onward" fO) : FnOk P w K mg base CX0 3 f fd ["self", "s", "t"] (spCount C) := by
  refine F.ok scCount (fun vs H Q E h => ?_) (fun cdv A outer s H vs Q E hr h => ?_)
  · obtain ⟨p, dx, lc, da, st, s, t, rfl, _⟩ := h
    rfl
  · obtain ⟨p, dx, lc, da, st, s0, t, rfl, hN, k⟩ := h
    have hr1 := hr.mono (show 1 ≤ 2 by decide)
    refine let T1 : TS := _; ⟨_, (zC (ps_if (pt_not (pt_val (zW (pv 0) T.cl mt_both G_both hr b_both .nil pass0 (zA (pv 1) (zA (pv 2) zF))))) (zD (zL (pe_gi (by rfl) T.g_NOT_THERE))) zM)
      (sh T1 (zD (zL (yG zS (by rfl) T.len PySem.boot_len (zA (pe_call G_all hr (by rfl) m_all k_all b_all .nil pass0 (zA (pe_meth0 (pv 0) T.cl mt_onw G_onw hr1 b_onw .nil pass0) (zA (pv 1) (zA (pv 2) zF)))) zF)))))), ?_⟩
    obtain ⟨sv, tv, hp, hse⟩ := hN.ob
    refine ⟨_, rfl, p, dx, _, rfl, hp, rfl, _, rfl, _, rfl, p, dx, lc, da, st, s0, t, rfl, hN, _, rfl, ?_⟩
    refine zU (fun h1 => ?_) fun h1 => ?_
    · have e : WaySpec.ask st.net (.ways s0 t) = says (-1) := if_neg (by rw [h1]; decide)
      rw [e] at k
      exact k H (Same.refl H)
    have e : WaySpec.ask st.net (.ways s0 t) = tell (st.net.ways s0 t).length := if_pos h1
    rw [e] at k
    refine ⟨_, rfl, p, dx, _, rfl, hp, rfl, p, dx, lc, da, st, rfl, hN, fun H1 d ons s1 hd hO ho => ?_⟩
    refine ⟨_, rfl, _, rfl, d, st.net, ons, s0, t, rfl, hO, ho, hN.wf, fun H2 l us ps s2 hl hus pr aw => ?_⟩
    refine ⟨l, us, rfl, .inl (SqL.of hus), ?_⟩
    have : us.length = (st.net.ways s0 t).length := by
      rw [Paired.length pr, ← (aw.perm_ways hN.wf).length_eq, List.length_map]
    rw [this]
    exact k H2 (s1.trans s2)
end
noncomputable abbrev sWay : Stmt := yH sNet 11
noncomputable abbrev sPlace : Stmt := yH sNet 19
structure OkTo (g : Net) (l : List Nat) : Prop where
  op : ∀ v ∈ l, g.isOpen v = true
  nd : l.Nodup
  st : ∀ p ∈ steps l, (g.arc p.1 p.2).isSome = true
theorem OkTo.way {g : Net} {l : List Nat} (h : OkTo g l) (ne : l ≠ []) : IsWay g l := ⟨ne, h.op, h.nd, h.st⟩
theorem OkTo.snoc {g : Net} {l : List Nat} {x : Nat} (h : OkTo g l) (ho : g.isOpen x = true) (hx : x ∉ l) (ha : l ≠ [] → (g.arc (lastN l) x).isSome = true) : OkTo g (l ++ [x]) where
  op := fun v hv => by
    rcases List.mem_append.mp hv with q | q
    · exact h.op v q
    · have e : v = x := by simpa using q
      rw [e]; exact ho
  nd := by
    refine List.nodup_append.mpr ⟨h.nd, by simp, fun a ha b hb e => ?_⟩
    have e2 : b = x := by simpa using hb
    exact hx (by rw [← e2, ← e]; exact ha)
  st := fun p hp => by
    by_cases hne : l = []
    · subst hne
      cases hp
    · rcases steps_snoc l _ x (last_of hne) p hp with q | q
      · exact h.st p q
      · rw [q]; exact ha hne
theorem len_snoc (g : Net) (l : List Nat) (x : Nat) : g.length (l ++ [x]) = g.length l + (if l = [] then 0 else lenOf g (lastN l) x) := by
  by_cases h : l = []
  · subst h; simp [Net.length]
  · rw [if_neg h, length_snoc g h]
inductive IspWay (C : Addr) (vs : List V) (H : Hp) (Q : VK) : Prop
  | mk (p dx lc da rr : Addr) (st : State) (l : List Nat) (_h1 : vs = [.ref p, .ref rr]) (_h2 : NetAt C H p dx lc da st) (_h3 : H rr = some (.lst (rowV l))) (_h4 : Ask H Q (WaySpec.ask st.net (.way l)).ret) : IspWay C vs H Q
noncomputable def spWay (C : Addr) : Sp := fun vs H Q _ => IspWay C vs H Q
theorem scWay : zR ["self", "row", "passed", "length", "place", "node", "arc"] ["self", "row"] (zH sWay) := ⟨rfl, rfl, rfl, by decide +kernel, rfl, by decide +kernel, by decide +kernel⟩
theorem rowV_at {l : List Nat} {i : Nat} {x : V} (h : (rowV l)[i]? = some x) : ∃ n, l[i]? = some n ∧ x = .int (n : Nat) := by
  unfold rowV at h
  rw [List.getElem?_map] at h
  obtain ⟨n, hn, rfl⟩ := Option.map_eq_some_iff.mp h
  exact ⟨n, hn, rfl⟩
theorem closed_at {g : Net} (w : WF g) {v : Nat} (h : v < g.n) : atI (g.opened.map fun b => V.bl (!b)) ((v : Nat) : Int) = some (.bl (!g.isOpen v)) := by
  refine atI_nat ?_
  have hl : v < g.opened.length := by rw [w.op]; exact h
  rw [List.getElem?_map, List.getElem?_eq_getElem hl]
  unfold Net.isOpen
  rw [List.getD_eq_getElem?_getD, List.getElem?_eq_getElem hl]
  rfl
section
variable {P : Program} {w : World} {K : PySem.W.Frag} {mg : Str → Option Value} {base : Heap} {f C fH fW fO : Addr} {fd fdH fdW fdO : FuncData}
inductive J9 (p rr d : Addr) (st : State) (l : List Nat) (H : Hp) (i : Nat) (σ : L2.St) (H2 : Hp) : Prop
  | mk (kvs : List (Key × V)) (x4 x5 x6 : Option V) (_h1 : σ = [some (.ref p), some (.ref rr), some (.ref d), some (.int (st.net.length (l.take i) : Nat)), x4, x5, x6]) (_h2 : Same H H2) (_h3 : H2 d = some (.dK kvs)) (_h4 : kvs.length ≤ 8) (_h5 : OkTo st.net (l.take i)) (_h6 : (∀ v : Nat, (valV kvs (Sum.inl (v : Int))).isSome = (l.take i).contains v)) (_h7 : (kvs.map (·.1)).length = (l.take i).length) : J9 p rr d st l H i σ H2
theorem ok_way (F : Fun K "way_length" "Net.way_length" sWay f fd) (T : Txt K mg C) (G_has : FnOk P w K mg base CX0 1 fH fdH ["self", "node"] (spHas C)) (b_has : Binds K fdH ["self", "node"] []) (mt_has : Meth K C "has" fH) : FnOk P w K mg base CX0 2 f fd ["self", "row"] (spWay C) := by
  refine F.ok scWay (fun vs H Q E h => ?_) (fun cdv A outer s H vs Q E hr h => ?_)
  · obtain ⟨p, dx, lc, da, rr, st, l, rfl, _⟩ := h
    rfl
  · obtain ⟨p, dx, lc, da, rr, st, l, rfl, hN, hrr, k⟩ := h
    have nd := scWay.nd
    have hu := hu_of hr
    refine let T9 : TS := _; let T8 : TS := _; let T7 : TS := _; let T6 : TS := _; let T5 : TS := _; let T4 : TS := _; let T3 : TS := _; let T2 : TS := _; let T1 : TS := _; ⟨_, (zC (ps_if (zQ op_eq (yG zS (by rfl) T.len PySem.boot_len (zA (pv 1) zF)) zN (yC _)) (zD (zL (pe_gi (by rfl) T.g_NONE_SUCH))) zM)
      (sh T1 (zC (ps_set (i := 2) nd rfl (Or.inl rfl) pe_dnewK)
      (sh T2 (zC (ps_set (i := 3) nd rfl (Or.inl rfl) zN)
      (sh T3 (zC (ps_for PassesOwn.never rfl (pi_enum (by rfl) T.enumerate (zA (pv 1) zF)) (pg_tup (n := 2) rfl (yE (yA (i := 4) nd rfl (Or.inl rfl)) (yE (yA (i := 5) nd rfl (Or.inl rfl)) pgs_nil))) (sh T4 (zC (ps_if (pw_or (pt_not (pt_val (zW (pv 0) T.cl mt_has G_has hr b_has .nil pass0 (zA (pv 5) zF)))) (pw_or (pt_val (pe_ix zP (yF (pv 0) rfl) (pv 5) (fun _ _ => rfl))) (pw_or1 (pt_cmp (pc_din hu (pv 5) (pv 2)))))).pt (zD (zL (pe_gi (by rfl) T.g_NONE_SUCH))) zM)
        (sh T5 (zC (ps_dput hu (pv 2) (pv 5) pe_bl rfl)
        (sh T6 (zD (ps_if (zQ op_gt (pv 4) zN (yC _)) (sh T7 (zC (ps_set (i := 6) nd rfl (Or.inl rfl) (pe_tup (zA (pe_ix zP (pv 1) (pe_op op_sub (pv 4) zN) (fun _ _ => rfl)) (zA (pv 5) zF))))
          (sh T8 (zC (ps_if (pt_cmp (pc_dnotin hu (pv 6) (yF (pv 0) rfl))) (zD (zL (pe_gi (by rfl) T.g_NONE_SUCH))) zM)
          (sh T9 (zD (ps_aug (i := 3) nd rfl (Or.inl rfl) (pe_dget hu (yF (pv 0) rfl) (pv 6) (fun _ _ => rfl)) ip_add))))))) zM))))))))
      (zD (zL (pv 3)))))))))), ?_⟩
    obtain ⟨sv, tv, hp, hse⟩ := hN.ob
    obtain ⟨kva, hda, ak⟩ := hN.ar
    have hcl := hN.cl
    have wf := hN.wf
    have e : WaySpec.ask st.net (.way l) = if st.net.isWay l = true then tell (st.net.length l) else says (-2) := rfl
    rw [e] at k
    have bad : ¬ IsWay st.net l → ∀ H', Same H H' → Q (.int (-2)) H' := fun hn H' sm => by
      rw [if_neg (fun z => hn ((isWay_iff _ _).mp z))] at k
      exact k H' sm
    refine ⟨_, rfl, rr, _, rfl, .inl (SqL.of hrr), rfl, _, rfl, ?_⟩
    refine zK (fun hz => ?_) fun hz => ?_
    · have hz : (rowV l).length = 0 := by have := of_decide_eq_true hz; injection this; lia
      refine bad (fun z => z.ne ?_) H (Same.refl H)
      rw [rowV_len] at hz
      exact List.length_eq_zero_iff.mp hz
    have hlne : l ≠ [] := fun z => by subst z; exact of_decide_eq_false hz rfl
    intro d hd
    refine ⟨_, rfl, rr, _, rfl, SqL.of (Same.upd hd _ _ hrr), ?_⟩
    let Pv1 : Nat → L2.St → Hp → Prop := J9 p rr d st l H
    refine for_enum (K := K) (xs := rowV l) Pv1
      ⟨[], none, none, none, rfl, Same.upd hd, zB, Nat.zero_le _, ⟨fun v h => (by cases h), List.nodup_nil, fun p h => (by cases h)⟩, fun v => rfl, rfl⟩ (fun i σ H2 _ q => ?_) (fun i x q σ H2 hx hq eq => ?_) fun σ H2 hq => ?_
    · obtain ⟨kvs, _, _, _, _, sm, _⟩ := q
      exact SqL.of (sm _ _ hrr)
    · obtain ⟨kvs, x4, x5, x6, rfl, sm, hd2, hk8, hok, hval, hkl⟩ := hq
      obtain ⟨n, hn, rfl⟩ := rowV_at hx
      have hil : i < l.length := (List.getElem?_eq_some_iff.mp hn).1
      have htake : l.take (i + 1) = l.take i ++ [n] := by rw [List.take_add_one, hn]; rfl
      have hnl : n ∈ l := List.mem_of_getElem? hn
      have sq : Same H2 (upd H2 q (.tup [.int (i : Nat), .int (n : Nat)])) := Same.upd eq
      have sq1 := sm.trans sq
      have hN2 := hN.mono sq1
      refine ⟨q, _, rfl, SqT.of zB, rfl, _, _, rfl, _, _, rfl, rfl, ?_⟩
      refine ⟨_, rfl, p, dx, _, rfl, sq1 _ _ hp, rfl, _, rfl, p, dx, lc, da, st, n, rfl, hN2, _, rfl, ?_⟩
      refine zU (fun h1 => iteT (bad (fun z => ?_) _ sq1)) fun h1 => ?_
      · have := isOpen_lt wf (z.op n hnl)
        exact of_decide_eq_false h1 this
      have h1 := of_decide_eq_true h1
      refine ⟨_, rfl, p, C, dx, _, _, rfl, sq1 _ _ hp, T.cl, T.nClosed, nf_closed _ _ _ _, _, rfl, lc, _, _, _, rfl, rfl, SqL.of (sq1 _ _ hcl), closed_at wf h1, _, rfl, ?_⟩
      refine zU (fun h2 => iteT (bad (fun z => ?_) _ sq1)) fun h2 => ?_
      · have := z.op n hnl
        rw [h2] at this; cases this
      refine ⟨_, rfl, _, rfl, d, _, rfl, DGet.k (k := Sum.inl ((n : Nat) : Int)) (sq _ _ hd2), _, rfl, ?_⟩
      rw [hval n]
      refine zK (fun h3 => bad (fun z => ?_) _ sq1) fun h3 => ?_
      · have hm : n ∈ l.take i := by simpa using h3
        have ndl := z.nd
        rw [← List.take_append_drop (i + 1) l, htake] at ndl
        exact (List.nodup_append.mp (List.nodup_append.mp ndl).1).2.2 n hm n (by simp) rfl
      have h3 : n ∉ l.take i := fun z => by
        have : (l.take i).contains n = true := by simpa using z
        rw [h3] at this; cases this
      have hlen8 : (l.take i).length < 8 := by
        have := nodup_le st.net.n (n :: l.take i) (List.nodup_cons.mpr ⟨h3, hok.nd⟩) (fun x hx => by
          rcases List.mem_cons.mp hx with rfl | hx
          · exact h1
          · exact isOpen_lt wf (hok.op x hx))
        have := wf.n8
        simp only [List.length_cons] at *
        lia
      have hkn : valV kvs (Sum.inl ((n : Nat) : Int)) = none := by
        have := hval n
        cases q : valV kvs (Sum.inl ((n : Nat) : Int)) with
        | none => rfl
        | some v =>
          rw [q] at this
          exact absurd (by simpa using this.symm) h3
      refine ⟨_, rfl, _, rfl, d, _, rfl, DPut.k (k := Sum.inl ((n : Nat) : Int)) (sq _ _ hd2) (Nat.lt_of_le_of_lt hk8 (by decide)), ?_⟩
      rw [putK_new _ hkn]
      generalize hH3 : upd (upd H2 q (.tup [.int (i : Nat), .int (n : Nat)])) d (.dK (kvs ++ [(Sum.inl ((n : Nat) : Int), V.bl true)])) = H3
      have sm3 : Same H H3 := fun b o e => by
        rw [← hH3, zE (fun z => by rw [z, hd] at e; cases e)]
        exact sq1 _ _ e
      have hd3 : H3 d = some (.dK (kvs ++ [(Sum.inl ((n : Nat) : Int), V.bl true)])) := by rw [← hH3, zB]
      have hval3 : ∀ v : Nat, (valV (kvs ++ [(Sum.inl ((n : Nat) : Int), V.bl true)]) (Sum.inl (v : Int))).isSome = (l.take (i + 1)).contains v := fun v => by
        rw [← putK_new _ hkn, valV_put, htake, List.contains_append]
        by_cases ev : v = n
        · subst ev; rw [if_pos rfl]; simp
        · rw [if_neg (fun z => ev (by injection z with z; lia)), hval v]
          simp [ev]
      have hlen3 : (kvs ++ [((Sum.inl ((n : Nat) : Int) : Key), V.bl true)]).length ≤ 8 := by
        rw [List.length_append]
        simp only [List.length_map] at hkl
        simp; lia
      have hkl3 : ((kvs ++ [((Sum.inl ((n : Nat) : Int) : Key), V.bl true)]).map (·.1)).length = (l.take (i + 1)).length := by
        rw [htake]
        simp only [List.length_map] at hkl
        simp [hkl]
      refine ⟨_, rfl, _, _, rfl, rfl, _, rfl, ?_⟩
      refine zK (fun h4 => ?_) fun h4 => ?_
      · have hi0 : 0 < i := by have := of_decide_eq_true h4; lia
        obtain ⟨m, hm⟩ : ∃ m, l[i - 1]? = some m := ⟨l[i - 1]'(by lia), List.getElem?_eq_getElem _⟩
        have htk : l.take i = l.take (i - 1) ++ [m] := by
          have := List.take_add_one (l := l) (i := i - 1)
          rw [show i - 1 + 1 = i by lia, hm] at this
          exact this
        have hne : l.take i ≠ [] := by rw [htk]; simp
        have hlast : lastN (l.take i) = m := by rw [htk, last_snoc]
        have hix : atI (rowV l) ((i : Int) - 1) = some (.int (m : Nat)) := by
          rw [show (i : Int) - 1 = ((i - 1 : Nat) : Int) by lia]
          refine atI_nat ?_
          unfold rowV
          rw [List.getElem?_map, hm]; rfl
        refine ⟨_, rfl, _, rfl, _, _, rfl, rfl, rr, _, _, _, rfl, rfl, SqL.of (sm3 _ _ hrr), hix, _, rfl, zJ (by show 2 ≤ 100000; decide), fun t1 et1 => ?_⟩
        have s4 : Same H3 (upd H3 t1 (.tup [.int (m : Nat), .int (n : Nat)])) := Same.upd et1
        have sm4 := sm3.trans s4
        refine ⟨_, rfl, _, rfl, p, C, dx, _, _, rfl, sm4 _ _ hp, T.cl, T.nArcs, nf_arcs _ _ _ _, da, _, rfl, DGet.t (k := bk m n) (sm4 _ _ hda) zB, _, rfl, ?_⟩
        rw [ak.val]
        cases har : st.net.arc m n with
        | none =>
          refine iteT (bad (fun z => ?_) _ sm4)
          have hst := z.st (m, n) (by
            have h5 : (m, n) ∈ steps (l.take (i + 1)) := by rw [htake]; have := steps_last (l.take i) m n (by rw [← hlast]; exact last_of hne); exact this
            rw [← List.take_append_drop (i + 1) l]
            have mono : ∀ (a b : List Nat) (p : Nat × Nat), p ∈ steps a → p ∈ steps (a ++ b) := fun a b p hp => by
              induction b generalizing a with
              | nil => rw [List.append_nil]; exact hp
              | cons x b ih =>
                have := ih (a ++ [x]) (steps_front a x p hp)
                rwa [List.append_assoc] at this
            exact mono _ _ _ h5)
          rw [har] at hst; cases hst
        | some ar =>
          refine iteF ?_
          refine ⟨_, rfl, _, rfl, p, C, dx, _, _, rfl, sm4 _ _ hp, T.cl, T.nArcs, nf_arcs _ _ _ _, _, rfl, da, .int (ar.len : Nat), rfl, ?_, _, _, rfl, rfl, ?_⟩
          · have hv2 : valV kva (bk m n) = some (.int (ar.len : Nat)) := by rw [ak.val, har]; rfl
            exact hv2 ▸ DGet.t (k := bk m n) (sm4 _ _ hda) zB
          · have hlenof : lenOf st.net m n = ar.len := by unfold lenOf; rw [har]; rfl
            refine ⟨_, some (.int (i : Nat)), some (.int (n : Nat)), some (.ref t1), ?_, sm4, s4 _ _ hd3, hlen3, ?_, hval3, hkl3⟩
            · rw [htake, len_snoc, if_neg hne, hlast, hlenof]
              rfl
            · rw [htake]
              exact hok.snoc h2 h3 fun _ => by rw [hlast, har]; rfl
      · have hi0 : i = 0 := by have := of_decide_eq_false h4; lia
        subst hi0
        refine ⟨_, some (.int ((0 : Nat) : Int)), some (.int (n : Nat)), x6, ?_, sm3, hd3, hlen3, ?_, hval3, hkl3⟩
        · rw [htake, len_snoc]
          rfl
        · rw [htake]
          exact hok.snoc h2 h3 fun z => absurd rfl z
    · obtain ⟨kvs, x4, x5, x6, rfl, sm, hd2, hk8, hok, hval, hkl⟩ := hq
      rw [rowV_len, List.take_length] at hok
      refine ⟨_, rfl, ?_⟩
      rw [if_pos ((isWay_iff _ _).mpr (hok.way hlne))] at k
      rw [rowV_len, List.take_length]
      exact k H2 sm
end
theorem eqv_pair (x y : Nat × List Nat) : PyData.eqv (dPair x) (dPair y) = decide (x = y) := by
  show PyData.eqvAll [.int (x.1 : Nat), dRow x.2] [.int (y.1 : Nat), dRow y.2] = _
  have e : PyData.eqv (dRow x.2) (dRow y.2) = decide (x.2 = y.2) := eqv_ints x.2 y.2
  show (((x.1 : Int) == (y.1 : Int)) && (PyData.eqv (dRow x.2) (dRow y.2) && true)) = _
  rw [e, Bool.and_true, Bool.eq_iff_iff, Bool.and_eq_true, beq_iff_eq, decide_eq_true_iff, decide_eq_true_iff]
  constructor
  · rintro ⟨h1, h2⟩
    exact Prod.ext (by lia) h2
  · intro h
    rw [h]
    exact ⟨rfl, rfl⟩
theorem shal_pair (x : Nat × List Nat) : Shal (dPair x) := ⟨(dPair_fit [x]).lay _ (by simp), (dPair_fit [x]).dep _ (by simp)⟩
inductive IspPlace (C : Addr) (vs : List V) (H : Hp) (Q : VK) : Prop
  | mk (p dx lc da rr : Addr) (st : State) (l : List Nat) (_h1 : vs = [.ref p, .ref rr]) (_h2 : NetAt C H p dx lc da st) (_h3 : H rr = some (.lst (rowV l))) (_h4 : Ask H Q (WaySpec.ask st.net (.place l)).ret) : IspPlace C vs H Q
noncomputable def spPlace (C : Addr) : Sp := fun vs H Q _ => IspPlace C vs H Q
theorem scPlace : zR ["self", "row", "length"] ["self", "row"] (zH sPlace) := ⟨rfl, rfl, rfl, by decide +kernel, rfl, by decide +kernel, by decide +kernel⟩
section
variable {P : Program} {w : World} {K : PySem.W.Frag} {mg : Str → Option Value} {base : Heap} {f C fH fW fO : Addr} {fd fdH fdW fdO : FuncData}
theorem ok_place (F : Fun K "place_of" "Net.place_of" sPlace f fd) (T : Txt K mg C) (G_way : FnOk P w K mg base CX0 2 fW fdW ["self", "row"] (spWay C)) (b_way : Binds K fdW ["self", "row"] []) (mt_way : Meth K C "way_length" fW)
    (G_ord : FnOk P w K mg base CX0 3 fO fdO ["self", "s", "t"] (spOrd C)) (b_ord : Binds K fdO ["self", "s", "t"] []) (mt_ord : Meth K C "ordered_ways" fO) : FnOk P w K mg base CX0 4 f fd ["self", "row"] (spPlace C) := by
  refine F.ok scPlace (fun vs H Q E h => ?_) (fun cdv A outer s H vs Q E hr h => ?_)
  · obtain ⟨p, dx, lc, da, rr, st, l, rfl, _⟩ := h
    rfl
  · obtain ⟨p, dx, lc, da, rr, st, l, rfl, hN, hrr, k⟩ := h
    have nd := scPlace.nd
    have hr2 := hr.mono (show 2 ≤ 3 by decide)
    refine let T2 : TS := _; let T1 : TS := _; ⟨_, (zC (ps_set (i := 2) nd rfl (Or.inl rfl) (zW (pv 0) T.cl mt_way G_way hr2 b_way .nil pass0 (zA (pv 1) zF)))
      (sh T1 (zC (ps_if (zQ op_eq (pv 2) (pe_gi (by rfl) T.g_NONE_SUCH) (yC _)) (zD (zL (pe_gi (by rfl) T.g_NONE_SUCH))) zM)
      (sh T2 (zD (zL (pe_bm PySem.F.plainAttrs_list PySem.F.slot_list_index PySem.F.type_list_index (mt_indexD hr.units) (zW (pv 0) T.cl mt_ord G_ord hr b_ord .nil pass0 (zA (pe_ix zP (pv 1) zN (fun _ _ => rfl)) (zA (pe_ix zP (pv 1) (pe_un un_neg zN) (fun _ _ => rfl)) zF))) (zA (pe_tup (zA (pv 2) (zA (pv 1) zF))) zF)))))))), ?_⟩
    obtain ⟨sv, tv, hp, hse⟩ := hN.ob
    have e0 : WaySpec.ask st.net (.way l) = if st.net.isWay l = true then tell (st.net.length l) else says (-2) := rfl
    have e : WaySpec.ask st.net (.place l) = if st.net.isWay l = true then tell (((st.net.ways (l.headD 0) (l.getLastD 0)).findIdx? fun (r : List Nat) => r == l).getD 0) else says (-2) := rfl
    rw [e] at k
    refine ⟨_, rfl, p, dx, _, rfl, hp, rfl, _, rfl, p, dx, lc, da, rr, st, l, rfl, hN, hrr, fun H1 s1 => ?_⟩
    rw [e0]
    refine ⟨_, rfl, rfl, _, rfl, ?_⟩
    by_cases hw : st.net.isWay l = true
    · rw [if_pos hw] at k ⊢
      have way := (isWay_iff _ _).mp hw
      have hne := way.ne
      refine zK (fun z => ?_) fun _ => ?_
      · have := of_decide_eq_true z
        injection this with this
        exact absurd (show ((st.net.length l : Nat) : Int) = -2 from this) (by lia)
      have path : Path st.net (l.headD 0) (lastN l) l := ⟨⟨by cases l with | nil => exact absurd rfl hne | cons a t => rfl, last_of hne⟩, way⟩
      have hmem := (mem_ways hN.wf).mpr path
      have hshort := ways_short hN.wf hmem
      have h0 : atI (rowV l) 0 = some (.int (l.headD 0 : Nat)) := by
        refine atI_nat (j := 0) ?_
        cases l with
        | nil => exact absurd rfl hne
        | cons a t => rfl
      refine ⟨_, rfl, p, dx, _, rfl, s1 _ _ hp, rfl, _, rfl, rr, _, _, _, rfl, rfl, SqL.of (s1 _ _ hrr), h0, _, rfl, _, rfl, rr, _, _, _, rfl, rfl, SqL.of (s1 _ _ hrr), row_last hne, ?_⟩
      refine ⟨p, dx, lc, da, st, l.headD 0, lastN l, rfl, hN.mono s1, fun H2 q s2 hq ⟨us, hus, pr⟩ => ?_⟩
      refine ⟨.inl ⟨rfl, _, SqL.of hus⟩, _, rfl, _, rfl, zJ (by show 2 ≤ 100000; decide), fun t2 et2 => ?_⟩
      have s3 : Same H2 (upd H2 t2 (.tup [.int (st.net.length l : Nat), .ref rr])) := Same.upd et2
      have hrr3 := s3 _ _ (s2 _ _ (s1 _ _ hrr))
      obtain ⟨j, hj⟩ : ∃ j, ((st.net.ways (l.headD 0) (lastN l)).findIdx? fun (r : List Nat) => r == l) = some j := by
        cases q : (st.net.ways (l.headD 0) (lastN l)).findIdx? fun (r : List Nat) => r == l with
        | some j => exact ⟨j, rfl⟩
        | none =>
          rw [List.findIdx?_eq_none_iff] at q
          have := q l hmem
          simp at this
      have hget : l.getLastD 0 = lastN l := rfl
      rw [hget, hj] at k
      obtain ⟨hjl, hj1, hj2⟩ := List.findIdx?_eq_some_iff_getElem.mp hj
      refine ⟨q, us, (wayPairs st.net (l.headD 0) (lastN l)).map dPair, .ref t2, dPair (st.net.length l, l), dPair (st.net.length l, l), j, rfl, rfl, SqL.of (s3 _ _ hus), dpAll_mono s3 _ _ (dp_pairs pr), fun d hd => ?_, dp_pair ⟨t2, rr, rfl, zB, hrr3⟩, shal_pair _, ?_, ?_, fun m d' hm hd => ?_, ?_⟩
      · obtain ⟨x, _, rfl⟩ := List.mem_map.mp hd
        exact shal_pair x
      · have hjl' : (st.net.ways (l.headD 0) (lastN l))[j]? = some l := by
          rw [List.getElem?_eq_getElem hjl]
          congr 1
          simpa using hj1
        unfold wayPairs
        rw [List.getElem?_map, List.getElem?_map, hjl']
        rfl
      · rw [eqv_pair]; exact decide_eq_true rfl
      · unfold wayPairs at hd
        rw [List.getElem?_map, List.getElem?_map] at hd
        obtain ⟨x, hx, rfl⟩ := Option.map_eq_some_iff.mp hd
        obtain ⟨r, hr', rfl⟩ := Option.map_eq_some_iff.mp hx
        rw [eqv_pair]
        refine decide_eq_false fun z => ?_
        have e1 : r = l := congrArg Prod.snd z
        have := hj2 m hm
        have e2 : (st.net.ways (l.headD 0) (lastN l))[m]'(by lia) = r := by
          have := List.getElem?_eq_some_iff.mp hr'
          exact this.2
        rw [e2, e1] at this
        simp at this
      · exact k _ ((s1.trans s2).trans s3)
    · rw [if_neg hw] at k ⊢
      exact iteT (k H1 s1)
end
noncomputable abbrev sDist : Stmt := yH sNet 8
noncomputable abbrev sFrom : Stmt := yH sNet 9
noncomputable abbrev sShort : Stmt := yH sNet 10
structure DistOk (D : Nat → Option Nat) (kvs : List (Key × V)) : Prop where
  nd : (kvs.map (·.1)).Nodup
  key : ∀ e ∈ kvs, ∃ v : Nat, e.1 = Sum.inl (v : Int) ∧ v < 8
  val : ∀ v : Nat, valV kvs (Sum.inl (v : Int)) = (D v).map fun d => V.int (d : Nat)
theorem DistOk.empty : DistOk (fun _ => none) [] := ⟨List.nodup_nil, fun _ h => (by cases h), fun _ => rfl⟩
theorem DistOk.put {D : Nat → Option Nat} {kvs : List (Key × V)} (h : DistOk D kvs) {v : Nat} (hv : v < 8) (c : Nat) : DistOk (fun u => if u = v then some c else D u) (putK kvs (Sum.inl (v : Int)) (.int (c : Nat))) := by
  refine ⟨nd_put _ _ h.nd, fun e he => ?_, fun u => ?_⟩
  · rcases put_keys he with q | ⟨e', he', q⟩
    · exact ⟨v, q, hv⟩
    · rw [← q]; exact h.key e' he'
  · rw [valV_put]
    by_cases q : u = v
    · rw [if_pos q, if_pos (by rw [q])]; rfl
    · rw [if_neg q, if_neg (fun z => q (by injection z with z; lia)), h.val]
theorem DistOk.small {D : Nat → Option Nat} {kvs : List (Key × V)} (h : DistOk D kvs) : kvs.length ≤ 8 := by
  have ex : ∀ l : List (Key × V), (∀ e ∈ l, ∃ v : Nat, e.1 = Sum.inl (v : Int) ∧ v < 8) → ∃ vs : List Nat, l.map (·.1) = vs.map (fun (v : Nat) => (Sum.inl (v : Int) : Key)) ∧ ∀ v ∈ vs, v < 8 := by
    intro l
    induction l with
    | nil => intro _; exact ⟨[], rfl, fun _ h => by cases h⟩
    | cons e l ih =>
      intro q
      obtain ⟨v, z, hv⟩ := q e List.mem_cons_self
      obtain ⟨vs, z2, h2⟩ := ih fun x hx => q x (List.mem_cons_of_mem _ hx)
      exact ⟨v :: vs, by rw [List.map_cons, List.map_cons, z, z2], fun u hu => by
        rcases List.mem_cons.mp hu with rfl | hu
        · exact hv
        · exact h2 u hu⟩
  obtain ⟨vs, e, lt⟩ := ex kvs h.key
  have nd := h.nd
  rw [e] at nd
  have nd2 : vs.Nodup := by
    have := List.pairwise_map.mp nd
    exact List.Pairwise.imp (fun hne z => hne (by rw [z])) this
  have := nodup_le 8 vs nd2 lt
  have hl := congrArg List.length e
  simp only [List.length_map] at hl
  lia
structure EsOk (g : Net) (kva : List (List Key × V)) (es : List (Nat × Nat)) : Prop where
  key : kva.map (·.1) = es.map (fun e => bk e.1 e.2)
  mem : ∀ a b, (a, b) ∈ es ↔ (g.arc a b).isSome = true
inductive IspShort (C : Addr) (vs : List V) (H : Hp) (Q : VK) : Prop
  | mk (p dx lc da ds : Addr) (st : State) (kva : List (List Key × V)) (es : List (Nat × Nat)) (D : Nat → Option Nat) (kvs : List (Key × V)) (_h1 : vs = [.ref p, .ref ds]) (_h2 : NetAt C H p dx lc da st) (_h3 : H da = some (.dT kva)) (_h4 : EsOk st.net kva es) (_h5 : H ds = some (.dK kvs)) (_h6 : DistOk D kvs) (_h7 : ∀ (H' : Hp) (kvs' : List (Key × V)), (∀ b o, H b = some o → b ≠ ds → H' b = some o) → H' ds = some (.dK kvs') → DistOk (es.foldl (relax st.net) D) kvs' → Q .non H') : IspShort C vs H Q
noncomputable def spShort (C : Addr) : Sp := fun vs H Q _ => IspShort C vs H Q
theorem scShort : zR ["self", "shortest", "a", "b", "length"] ["self", "shortest"] (zH sShort) := ⟨rfl, rfl, rfl, by decide +kernel, rfl, by decide +kernel, by decide +kernel⟩
section
variable {P : Program} {w : World} {K : PySem.W.Frag} {mg : Str → Option Value} {base : Heap} {f C fB fS fF : Addr} {fd fdB fdS fdF : FuncData}
inductive J11a (p ds da : Addr) (od : Obj) (kva' : List (List Key × V)) (H : Hp) (st : State) (es : List (Nat × Nat)) (D : Nat → Option Nat) (i : Nat) (σ : L2.St) (H4 : Hp) : Prop
  | mk (kv4 : List (Key × V)) (x2 x3 x4 : Option V) (_h1 : σ = [some (.ref p), some (.ref ds), x2, x3, x4]) (_h2 : H4 da = some (.frz od (.dT kva'))) (_h3 : (∀ b o, H b = some o → b ≠ da → b ≠ ds → H4 b = some o)) (_h4 : H4 ds = some (.dK kv4)) (_h5 : DistOk ((es.take i).foldl (relax st.net) D) kv4) : J11a p ds da od kva' H st es D i σ H4
theorem ok_short (F : Fun K "shorten" "Net.shorten" sShort f fd) (T : Txt K mg C) : FnOk P w K mg base CX0 1 f fd ["self", "shortest"] (spShort C) := by
  refine F.ok scShort (fun vs H Q E h => ?_) (fun cdv A outer s H vs Q E hr h => ?_)
  · obtain ⟨p, dx, lc, da, ds, st, kva, es, D, kvs, rfl, _⟩ := h
    rfl
  · obtain ⟨p, dx, lc, da, ds, st, kva, es, D, kvs, rfl, hN, hda, hes, hds, hD, k⟩ := h
    have nd := scShort.nd
    have hu := hu_of hr
    refine let T3 : TS := _; let T2 : TS := _; let T1 : TS := _; ⟨_, (zD (ps_lock (ps_for PassesOwn.never rfl (pi_keys (yF (pv 0) rfl)) (pg_tup (n := 2) rfl (yE (yA (i := 2) nd rfl (Or.inl rfl)) (yE (yA (i := 3) nd rfl (Or.inl rfl)) pgs_nil))) (sh T1 (zD (ps_if (pw_and (pt_cmp (pc_din hu (pv 2) (pv 1))) (pw_and1 (pt_not (pt_val (pe_ix zP (yF (pv 0) rfl) (pv 3) (fun _ _ => rfl)))))).pt (sh T2 (zC (ps_set (i := 4) nd rfl (Or.inl rfl) (pe_op op_add (pe_dget hu (pv 1) (pv 2) (fun _ _ => rfl)) (pe_dget hu (yF (pv 0) rfl) (pe_tup (zA (pv 2) (zA (pv 3) zF))) (fun _ _ => rfl))))
        (sh T3 (zD (ps_if (pw_or (pt_cmp (pc_dnotin hu (pv 3) (pv 1))) (pw_or1 (zQ op_lt (pv 4) (pe_dget hu (pv 1) (pv 3) (fun _ _ => rfl)) (yC _)))).pt (zD (ps_dput hu (pv 1) (pv 3) (pv 4) rfl)) zM))))) zM)))))), ?_⟩
    obtain ⟨sv, tv, hp, hse⟩ := hN.ob
    obtain ⟨kva', hda', ak⟩ := hN.ar
    have ekv : kva' = kva := by rw [hda] at hda'; injection hda' with q; injection q with q; exact q.symm
    subst ekv
    have hcl := hN.cl
    have wf := hN.wf
    have n_pda : p ≠ da := hN.ne.2.1
    have n_clda : lc ≠ da := hN.ne.2.2
    have n_pds : p ≠ ds := ne_of hp hds (by intro q; cases q)
    have n_clds : lc ≠ ds := ne_of hcl hds (by intro q; cases q)
    have n_dads : da ≠ ds := ne_of hda hds (by intro q; cases q)
    refine ⟨da, _, hda, trivial, fun od => ?_⟩
    refine ⟨_, rfl, p, C, dx, _, _, rfl, (by rw [zE n_pda]; exact hp), T.cl, T.nArcs, nf_arcs _ _ _ _, da, od, rfl, .inr ⟨kva', zB, ?_⟩⟩
    have hlen : kva'.length = es.length := by
      have := congrArg List.length hes.key
      simpa using this
    let Pv1 : Nat → L2.St → Hp → Prop := J11a p ds da od kva' H st es D
    refine for_keysT Pv1
      ⟨kvs, none, none, none, rfl, zB, fun b o e hb _ => by rw [zE hb]; exact e, by rw [zE (Ne.symm n_dads)]; exact hds, hD⟩ (fun i σ H4 _ z => ?_) (fun i kk vv q σ H4 hkv z hq => ?_) fun σ H4 z => ?_
    · obtain ⟨_, _, _, _, _, h, _⟩ := z
      exact h
    · obtain ⟨kv4, x2, x3, x4, rfl, hf, hsm, hd4, hD4⟩ := z
      have hi : i < kva'.length := (List.getElem?_eq_some_iff.mp hkv).1
      obtain ⟨⟨a, b⟩, he⟩ : ∃ e, es[i]? = some e := ⟨es[i]'(by lia), List.getElem?_eq_getElem _⟩
      have hkk : kk = bk a b := by
        have h1 : (kva'.map (·.1))[i]? = some kk := by rw [List.getElem?_map, hkv]; rfl
        rw [hes.key, List.getElem?_map, he] at h1
        exact (Option.some.inj h1).symm
      subst hkk
      generalize hDi : (es.take i).foldl (relax st.net) D = Di at hD4
      have hfold : (es.take (i + 1)).foldl (relax st.net) D = relax st.net Di (a, b) := by rw [List.take_add_one, he, List.foldl_append, hDi]; rfl
      obtain ⟨ar, har⟩ := Option.isSome_iff_exists.mp ((hes.mem a b).mp (List.mem_of_getElem? he))
      have hval : valV kva' (bk a b) = some (.int (ar.len : Nat)) := by rw [ak.val, har]; rfl
      have hlen0 : lenOf st.net a b = ar.len := by unfold lenOf; rw [har]; rfl
      obtain ⟨hm, ea, eb⟩ := arc_some har
      have hab := wf.arcs ar hm
      have hb8 : b < st.net.n := by lia
      have hb8' : b < 8 := by have := wf.n8; lia
      have hp4 := hsm _ _ hp n_pda n_pds
      have hcl4 := hsm _ _ hcl n_clda n_clds
      refine ⟨q, _, rfl, SqT.of hq, rfl, _, _, rfl, _, _, rfl, rfl, ?_⟩
      refine ⟨_, rfl, _, rfl, ds, _, rfl, DGet.k (k := Sum.inl ((a : Nat) : Int)) hd4, _, rfl, ?_⟩
      have same : relax st.net Di (a, b) = Di → J11a p ds da od kva' H st es D (i + 1) [some (V.ref p), some (V.ref ds), some (V.int (a : Int)), some (V.int (b : Int)), x4] H4 := fun e => ⟨kv4, _, _, x4, rfl, hf, hsm, hd4, by rw [hfold, e]; exact hD4⟩
      rw [hD4.val a]
      cases hDa : Di a with
      | none => exact same (by unfold relax; dsimp only; rw [hDa])
      | some d =>
        refine ⟨_, rfl, p, C, dx, _, _, rfl, hp4, T.cl, T.nClosed, nf_closed _ _ _ _, _, rfl, lc, _, _, _, rfl, rfl, SqL.of hcl4, closed_at wf hb8, _, rfl, ?_⟩
        show if (!(!st.net.isOpen b)) = true then _ else _
        rw [Bool.not_not]
        refine zK (fun ho => ?_) fun ho => ?_
        · refine ⟨_, rfl, _, rfl, ds, .int (d : Nat), rfl, ?_, ?_⟩
          · have := DGet.k (k := Sum.inl ((a : Nat) : Int)) hd4
            rw [hD4.val a, hDa] at this
            exact this
          refine ⟨_, rfl, p, C, dx, _, _, rfl, hp4, T.cl, T.nArcs, nf_arcs _ _ _ _, _, rfl, _, rfl, zJ (by show 2 ≤ 100000; decide), fun t1 et1 => ?_⟩
          have st1 : Same H4 (upd H4 t1 (.tup [.int (a : Nat), .int (b : Nat)])) := Same.upd et1
          refine ⟨da, .int (ar.len : Nat), rfl, hval ▸ .inr ⟨kva', bk a b, t1, .inr ⟨od, st1 _ _ hf⟩, rfl, zB, rfl⟩, ?_⟩
          refine ⟨_, _, rfl, rfl, ?_⟩
          have hput : ∀ (hrel : relax st.net Di (a, b) = fun u => if u = b then some (d + ar.len) else Di u) (kv6 : List (Key × V)), kv6 = putK kv4 (Sum.inl ((b : Nat) : Int)) (.int ((d + ar.len : Nat) : Int)) →
            J11a p ds da od kva' H st es D (i + 1) [some (V.ref p), some (V.ref ds), some (V.int (a : Int)), some (V.int (b : Int)), some (V.int ((d : Int) + (ar.len : Int)))] (upd (upd H4 t1 (.tup [.int (a : Nat), .int (b : Nat)])) ds (.dK kv6)) := by
            rintro hrel _ rfl
            refine ⟨_, _, _, _, rfl, ?_, fun b' o e h1 h2 => ?_, zB, ?_⟩
            · rw [zE n_dads]; exact st1 _ _ hf
            · rw [zE h2]; exact st1 _ _ (hsm _ _ e h1 h2)
            · rw [hfold, hrel]; exact hD4.put hb8' _
          refine ⟨_, rfl, _, rfl, ds, _, rfl, DGet.k (k := Sum.inl ((b : Nat) : Int)) (st1 _ _ hd4), _, rfl, ?_⟩
          rw [hD4.val b]
          cases hDb : Di b with
          | none =>
            refine iteT (iteT ?_)
            refine ⟨_, rfl, _, rfl, _, rfl, ds, _, rfl, DPut.k (k := Sum.inl ((b : Nat) : Int)) (st1 _ _ hd4) (Nat.lt_of_le_of_lt hD4.small (by decide)), ?_⟩
            exact hput (by unfold relax; dsimp only; rw [hDa]; dsimp only; rw [if_pos ho, hDb, hlen0]) _ rfl
          | some d' =>
            refine iteF ?_
            refine ⟨_, rfl, _, rfl, _, rfl, ds, .int (d' : Nat), rfl, ?_, ?_⟩
            · have := DGet.k (k := Sum.inl ((b : Nat) : Int)) (st1 _ _ hd4)
              rw [hD4.val b, hDb] at this
              exact this
            refine ⟨_, _, rfl, rfl, _, rfl, ?_⟩
            refine zK (fun hlt => ?_) fun hlt => ?_
            · have hlt : d + ar.len < d' := by have := of_decide_eq_true hlt; lia
              refine ⟨_, rfl, _, rfl, _, rfl, ds, _, rfl, DPut.k (k := Sum.inl ((b : Nat) : Int)) (st1 _ _ hd4) (Nat.lt_of_le_of_lt hD4.small (by decide)), ?_⟩
              exact hput (by unfold relax; dsimp only; rw [hDa]; dsimp only; rw [if_pos ho, hDb, hlen0]; dsimp only; rw [if_pos hlt]) _ rfl
            · have hlt : ¬ (d + ar.len < d') := by have := of_decide_eq_false hlt; lia
              have e : relax st.net Di (a, b) = Di := by unfold relax; dsimp only; rw [hDa]; dsimp only; rw [if_pos ho, hDb, hlen0]; dsimp only; rw [if_neg hlt]
              exact ⟨kv4, _, _, _, rfl, st1 _ _ hf, fun b' o e h1 h2 => st1 _ _ (hsm _ _ e h1 h2), st1 _ _ hd4, by rw [hfold, e]; exact hD4⟩
        · exact same (by unfold relax; dsimp only; rw [hDa]; dsimp only; rw [if_neg (by rw [ho]; decide)])
    · obtain ⟨kv4, x2, x3, x4, rfl, hf, hsm, hd4, hD4⟩ := z
      rw [hlen, List.take_length] at hD4
      refine ⟨hf, k _ kv4 (fun b o e hb => ?_) (by rw [zE (Ne.symm n_dads)]; exact hd4) hD4⟩
      by_cases hb' : b = da
      · rw [hb', zB]; rw [hb', hda] at e; exact e
      · rw [zE hb']; exact hsm _ _ e hb' hb
inductive IspFrom (C : Addr) (vs : List V) (H : Hp) (Q : VK) : Prop
  | mk (p dx lc da : Addr) (st : State) (s : Nat) (_h1 : vs = [.ref p, .int (s : Int)]) (_h2 : NetAt C H p dx lc da st) (_h3 : s < st.net.n) (_h4 : ∀ (H' : Hp) (ds : Addr) (kvs : List (Key × V)), Same H H' → H' ds = some (.dK kvs) → DistOk (fun t => (st.net.ways s t).head?.map st.net.length) kvs → Q (.ref ds) H') : IspFrom C vs H Q
noncomputable def spFrom (C : Addr) : Sp := fun vs H Q _ => IspFrom C vs H Q
theorem scFrom : zR ["self", "s", "shortest", "turn"] ["self", "s"] (zH sFrom) := ⟨rfl, rfl, rfl, by decide +kernel, rfl, by decide +kernel, by decide +kernel⟩
inductive J11b (p d : Addr) (x : Nat) (H : Hp) (st : State) (es : List (Nat × Nat)) (i : Nat) (σ : L2.St) (H2 : Hp) : Prop
  | mk (kv2 : List (Key × V)) (x3 : Option V) (_h1 : σ = [some (.ref p), some (.int (x : Nat)), some (.ref d), x3]) (_h2 : Same H H2) (_h3 : H2 d = some (.dK kv2)) (_h4 : DistOk (rounds st.net es i (start0 x)) kv2) : J11b p d x H st es i σ H2
theorem ok_from (F : Fun K "shortest_from" "Net.shortest_from" sFrom f fd) (T : Txt K mg C) (G_shorten : FnOk P w K mg base CX0 1 fS fdS ["self", "shortest"] (spShort C)) (b_shorten : Binds K fdS ["self", "shortest"] []) (mt_shorten : Meth K C "shorten" fS) : FnOk P w K mg base CX0 2 f fd ["self", "s"] (spFrom C) := by
  refine F.ok scFrom (fun vs H Q E h => ?_) (fun cdv A outer s H vs Q E hr h => ?_)
  · obtain ⟨p, dx, lc, da, st, x, rfl, _⟩ := h
    rfl
  · obtain ⟨p, dx, lc, da, st, x, rfl, hN, hx, k⟩ := h
    have nd := scFrom.nd
    have hu := hu_of hr
    refine let T3 : TS := _; let T2 : TS := _; let T1 : TS := _; ⟨_, (zC (ps_if (pt_val (pe_ix zP (yF (pv 0) rfl) (pv 1) (fun _ _ => rfl))) (zD (zL pe_dnewK)) zM)
      (sh T1 (zC (ps_set (i := 2) nd rfl (Or.inl rfl) (pe_disp (pps_cons (pv 1) zN pps_nil) rfl rfl (by simp) (by decide)))
      (sh T2 (zC (ps_for PassesOwn.never rfl (pi_range1 (by rfl) T.range (zA (yG zS (by rfl) T.len PySem.boot_len (zA (yF (pv 0) rfl) zF)) zF)) (yA (i := 3) nd rfl (Or.inl rfl)) (sh T3 (zD (ps_expr (zW (pv 0) T.cl mt_shorten G_shorten hr b_shorten .nil pass0 (zA (pv 2) zF))))))
      (zD (zL (pv 2)))))))), ?_⟩
    obtain ⟨sv, tv, hp, hse⟩ := hN.ob
    obtain ⟨kva, hda, ak⟩ := hN.ar
    have hcl := hN.cl
    have wf := hN.wf
    refine ⟨_, rfl, p, C, dx, _, _, rfl, hp, T.cl, T.nClosed, nf_closed _ _ _ _, _, rfl, lc, _, _, _, rfl, rfl, SqL.of hcl, closed_at wf hx, _, rfl, ?_⟩
    refine zU (fun ho => fun d hd => ?_) fun ho => ?_
    · refine k _ d [] (Same.upd hd) zB ?_
      have e : (fun t => (st.net.ways x t).head?.map st.net.length) = fun _ => none := by
        funext t
        have : st.net.ways x t = [] := by
          cases q : st.net.ways x t with
          | nil => rfl
          | cons r R =>
            have hm : r ∈ st.net.ways x t := by rw [q]; exact List.mem_cons_self
            have pth := (mem_ways wf).mp hm
            have := pth.way.op x (by
              have := pth.ft.1
              cases r with
              | nil => cases this
              | cons z r => injection this with this; rw [this]; exact List.mem_cons_self)
            rw [ho] at this; cases this
        rw [this]; rfl
      rw [e]; exact DistOk.empty
    obtain ⟨es, ees, esnd, esm⟩ := ak.pairs
    have hes : EsOk st.net kva es := ⟨ees, esm⟩
    intro d hd
    refine ⟨_, rfl, zB, [(Sum.inl ((x : Nat) : Int), .int ((0 : Nat) : Int))], rfl, (by show 1 ≤ 15; decide), ?_⟩
    have hx8 : x < 8 := by have := wf.n8; lia
    have hD0 : DistOk (start0 x) (mergeK [] [(Sum.inl ((x : Nat) : Int), V.int ((0 : Nat) : Int))]) := DistOk.empty.put hx8 0
    generalize hkv0 : mergeK [] [(Sum.inl ((x : Nat) : Int), V.int ((0 : Nat) : Int))] = kv0 at hD0
    have s0 : Same H (upd (upd H d (.dK [])) d (.dK kv0)) := fun b o e => by
      have hb : b ≠ d := zG e hd
      rw [zE hb, zE hb]; exact e
    have hn : ((st.net.opened.map fun b => V.bl (!b)).length : Int).toNat = st.net.n := by rw [List.length_map, wf.op]; rfl
    refine ⟨_, rfl, p, C, dx, _, _, rfl, s0 _ _ hp, T.cl, T.nClosed, nf_closed _ _ _ _, lc, _, rfl, .inl (SqL.of (s0 _ _ hcl)), _, rfl, (by have := wf.n8; have := wf.op; rw [List.length_map]; lia), (by have := wf.n8; have := wf.op; rw [List.length_map]; lia), ?_⟩
    let Pv2 : Nat → L2.St → Hp → Prop := J11b p d x H st es
    refine for_range Pv2
      ⟨kv0, none, rfl, s0, zB, hD0⟩ (fun i σ H2 hi hq => ?_) fun σ H2 hq => ?_
    · obtain ⟨kv2, x3, rfl, sm, hd2, hD2⟩ := hq
      refine ⟨_, rfl, p, dx, _, rfl, sm _ _ hp, rfl, _, rfl, p, dx, lc, da, d, st, kva, es, _, kv2, rfl, hN.mono sm, sm _ _ hda, hes, hd2, hD2, fun H3 kv3 s3 hd3 hD3 => ?_⟩
      exact ⟨kv3, _, rfl, fun b o e => s3 _ _ (sm _ _ e) (zG e hd), hd3, hD3⟩
    · obtain ⟨kv2, x3, rfl, sm, hd2, hD2⟩ := hq
      refine ⟨_, rfl, k H2 d kv2 sm hd2 ?_⟩
      rw [hn] at hD2
      have e : rounds st.net es st.net.n (start0 x) = fun t => (st.net.ways x t).head?.map st.net.length := funext fun t => rounds_dist wf ho (fun e he => (esm e.1 e.2).mp he) fun a b h => (esm a b).mpr h
      rw [e] at hD2
      exact hD2
inductive IspDist (C : Addr) (vs : List V) (H : Hp) (Q : VK) : Prop
  | mk (p dx lc da : Addr) (st : State) (a b : Nat) (_h1 : vs = [.ref p, .int (a : Int), .int (b : Int)]) (_h2 : NetAt C H p dx lc da st) (_h3 : Ask H Q (WaySpec.ask st.net (.dist a b)).ret) : IspDist C vs H Q
noncomputable def spDist (C : Addr) : Sp := fun vs H Q _ => IspDist C vs H Q
theorem scDist : zR ["self", "s", "t"] ["self", "s", "t"] (zH sDist) := ⟨rfl, rfl, rfl, by decide +kernel, rfl, by decide +kernel, by decide +kernel⟩
theorem ok_dist (F : Fun K "distance" "Net.distance" sDist f fd) (T : Txt K mg C) (G_has_both : FnOk P w K mg base CX0 2 fB fdB ["self", "a", "b"] (spBoth C)) (b_has_both : Binds K fdB ["self", "a", "b"] []) (mt_has_both : Meth K C "has_both" fB)
    (G_from : FnOk P w K mg base CX0 2 fF fdF ["self", "s"] (spFrom C)) (b_from : Binds K fdF ["self", "s"] []) (mt_from : Meth K C "shortest_from" fF) : FnOk P w K mg base CX0 3 f fd ["self", "s", "t"] (spDist C) := by
  refine F.ok scDist (fun vs H Q E h => ?_) (fun cdv A outer s H vs Q E hr h => ?_)
  · obtain ⟨p, dx, lc, da, st, a, b, rfl, _⟩ := h
    rfl
  · obtain ⟨p, dx, lc, da, st, a, b, rfl, hN, k⟩ := h
    have hu := hu_of hr
    refine let T1 : TS := _; ⟨_, (zC (ps_if (pt_not (pt_val (zW (pv 0) T.cl mt_has_both G_has_both hr b_has_both .nil pass0 (zA (pv 1) (zA (pv 2) zF))))) (zD (zL (pe_gi (by rfl) T.g_NOT_THERE))) zM)
      (sh T1 (zD (zL (pe_dget2 hu (zW (pv 0) T.cl mt_from G_from hr b_from .nil pass0 (zA (pv 1) zF)) (pv 2) (pe_gi (by rfl) T.g_NONE_SUCH) ⟨rfl, rfl, rfl, rfl⟩))))), ?_⟩
    obtain ⟨sv, tv, hp, hse⟩ := hN.ob
    refine ⟨_, rfl, p, dx, _, rfl, hp, rfl, _, rfl, _, rfl, p, dx, lc, da, st, a, b, rfl, hN, _, rfl, ?_⟩
    refine zU (fun h1 => ?_) fun h1 => ?_
    · have e : WaySpec.ask st.net (.dist a b) = says (-1) := if_neg (by rw [h1]; decide)
      rw [e] at k
      exact k H (Same.refl H)
    have e : WaySpec.ask st.net (.dist a b) = (match st.net.ways a b with
      | r :: _ => tell (st.net.length r)
      | [] => says (-2)) := if_pos h1
    rw [e] at k
    have ha : a < st.net.n := by rw [there2] at h1; simp at h1; exact h1.1
    refine ⟨_, rfl, p, dx, _, rfl, hp, rfl, _, rfl, p, dx, lc, da, st, a, rfl, hN, ha, fun H2 ds kvs s2 hds hD => ?_⟩
    refine ⟨ds, rfl, .inl ⟨_, .inl hds⟩, _, rfl, _, DGet.k (k := Sum.inl ((b : Nat) : Int)) hds, ?_⟩
    rw [hD.val b]
    cases q : st.net.ways a b with
    | nil => rw [q] at k; exact k _ s2
    | cons r R => rw [q] at k; exact k _ s2
end
noncomputable abbrev sWhole : Stmt := yH sNet 22
noncomputable def dArc (e : Nat × Nat) : PyData := .tuple [.int (e.1 : Nat), .int (e.2 : Nat)]
theorem lt_arc (x y : Nat × Nat) : ltN 2 (dArc x) (dArc y) = lexLt natOrd [x.1, x.2] [y.1, y.2] := lex_ints 0 [x.1, x.2] [y.1, y.2]
theorem dArc_fit (es : List (Nat × Nat)) : Fit 1 (es.map dArc) where
  tup := fun d hd => by
    obtain ⟨x, _, rfl⟩ := List.mem_map.mp hd
    exact ⟨_, _, rfl⟩
  lay := fun d hd => by
    obtain ⟨x, _, rfl⟩ := List.mem_map.mp hd
    simp [dArc, PyData.canLay0, PyData.canLayAll0]
  dep := fun d hd => by
    obtain ⟨x, _, rfl⟩ := List.mem_map.mp hd
    simp only [dArc, PyData.depth, PyData.depthAll]
    lia
  can := fun d hd e he => by
    obtain ⟨x, _, rfl⟩ := List.mem_map.mp hd
    obtain ⟨y, _, rfl⟩ := List.mem_map.mp he
    intro j a b ha hb
    match j, ha, hb with
    | 0, ha, hb =>
      obtain rfl : PyData.int (x.1 : Nat) = a := by simpa using ha
      obtain rfl : PyData.int (y.1 : Nat) = b := by simpa using hb
      trivial
    | 1, ha, hb =>
      obtain rfl : PyData.int (x.2 : Nat) = a := by simpa using ha
      obtain rfl : PyData.int (y.2 : Nat) = b := by simpa using hb
      trivial
    | j + 2, ha, hb => simp at ha
theorem dp_steps {K : PySem.W.Frag} {H : Hp} : ∀ {vs : List V} {ps : List (Nat × Nat)}, Paired (StepAt H) vs ps → DpAll K H vs (ps.map dArc)
  | _, _, .nil => .nil
  | _, _, .cons ⟨q, e, h⟩ t => by
    rw [e]
    exact .cons (.tup (SqT.of h) (.cons (.int _) (.cons (.int _) .nil))) (dp_steps t)
theorem pick_any {β : Type} {R : V → β → Prop} {vs : List V} {ps : List β} (d : β) (pr : Paired R vs ps) : ∀ {p : List Nat}, (∀ i ∈ p, i < vs.length) → Paired R (p.map fun i => vs.getD i .non) (p.map fun i => ps.getD i d)
  | [], _ => .nil
  | i :: p, h => by
    have hi := h i List.mem_cons_self
    have hv : vs[i]? = some (vs.getD i .non) := by rw [List.getD_eq_getElem?_getD, List.getElem?_eq_getElem hi]; rfl
    obtain ⟨x, hx, px⟩ := zX pr hv
    have : ps.getD i d = x := by rw [List.getD_eq_getElem?_getD, hx]; rfl
    refine .cons ?_ (pick_any d pr fun j hj => h j (List.mem_cons_of_mem _ hj))
    show R (vs.getD i .non) (ps.getD i d)
    rw [this]
    exact px
theorem keys_steps {H : Hp} : ∀ {kvs : List (List Key × V)} {qs : List Addr} {es : List (Nat × Nat)}, kvs.map (·.1) = es.map (fun e => bk e.1 e.2) → Paired (fun (x : List Key × V) (q : Addr) => H q = some (.tup (x.1.map kV))) kvs qs → Paired (StepAt H) (qs.map V.ref) es
  | _, _, [], _, .nil => .nil
  | _, _, e :: es, h, .nil => by cases h
  | _, _, [], h, .cons _ _ => by cases h
  | _, _, e :: es, h, .cons p t => by
    rw [List.map_cons, List.map_cons] at h
    injection h with h1 h2
    rw [h1] at p
    exact .cons ⟨_, rfl, p⟩ (keys_steps h2 t)
noncomputable def arcPairs (g : Net) : List (Nat × Nat) := g.arcs.map fun x => (x.a, x.b)
theorem arcs_order {g : Net} (w : WF g) {es : List (Nat × Nat)} (nd : es.Nodup) (hm : ∀ a b, (a, b) ∈ es ↔ (g.arc a b).isSome = true) {p : List Nat} (hp : p.Perm (List.range es.length))
    (hs : p.Pairwise fun i j => lexLt natOrd [(es.getD j (0, 0)).1, (es.getD j (0, 0)).2] [(es.getD i (0, 0)).1, (es.getD i (0, 0)).2] = false) : p.map (fun i => es.getD i (0, 0)) = arcPairs g := by
  have hp1 : (p.map fun i => es.getD i (0, 0)).Perm es := by
    have := hp.map fun i => es.getD i (0, 0)
    rwa [range_getD] at this
  have lt8 : ∀ x ∈ g.arcs, x.a < 8 ∧ x.b < 8 := fun x hx => by have := w.arcs x hx; have := w.n8; lia
  have nd2 : (arcPairs g).Nodup := by
    unfold arcPairs List.Nodup
    rw [List.pairwise_map]
    refine List.Pairwise.imp (fun {x y} h z => ?_) w.srt
    have h1 : x.a = y.a := congrArg Prod.fst z
    have h2 : x.b = y.b := congrArg Prod.snd z
    unfold WaySpec.key at h
    rw [h1, h2] at h
    exact absurd h (Nat.lt_irrefl _)
  have hmm : ∀ e, e ∈ es ↔ e ∈ arcPairs g := fun ⟨a, b⟩ => by
    rw [hm a b]
    unfold arcPairs
    rw [List.mem_map]
    constructor
    · intro h
      obtain ⟨x, hx⟩ := Option.isSome_iff_exists.mp h
      obtain ⟨h1, h2, h3⟩ := arc_some hx
      exact ⟨x, h1, by rw [h2, h3]⟩
    · rintro ⟨x, hx, e⟩
      have e1 : x.a = a := congrArg Prod.fst e
      have e2 : x.b = b := congrArg Prod.snd e
      have := w.arc_of hx
      rw [e1, e2] at this
      rw [this]; rfl
  have perm2 : es.Perm (arcPairs g) := (List.perm_ext_iff_of_nodup nd nd2).mpr hmm
  have mem8 : ∀ e, e ∈ arcPairs g → e.1 < 8 ∧ e.2 < 8 := fun e he => by
    obtain ⟨x, hx, rfl⟩ := List.mem_map.mp he
    exact lt8 x hx
  have permA := hp1.trans perm2
  refine List.Perm.eq_of_pairwise (le := fun x y => x.1 * 8 + x.2 ≤ y.1 * 8 + y.2) (fun a b ha hb h1 h2 => ?_) ?_ ?_ permA
  · have a8 := mem8 a (permA.mem_iff.mp ha)
    have b8 := mem8 b hb
    exact Prod.ext (by lia) (by lia)
  · rw [List.pairwise_map]
    refine List.Pairwise.imp_of_mem (fun {i j} hi hj h => ?_) hs
    have i8 := mem8 _ (permA.mem_iff.mp (List.mem_map.mpr ⟨i, hi, rfl⟩))
    have j8 := mem8 _ (permA.mem_iff.mp (List.mem_map.mpr ⟨j, hj, rfl⟩))
    rw [lex_lt] at h
    have h := of_decide_eq_false h
    rw [List.cons_lt_cons_iff, List.cons_lt_cons_iff] at h
    have h1 : ¬ (es.getD j (0, 0)).1 < (es.getD i (0, 0)).1 := fun z => h (.inl z)
    have h2 : (es.getD j (0, 0)).1 = (es.getD i (0, 0)).1 → ¬ (es.getD j (0, 0)).2 < (es.getD i (0, 0)).2 := fun z1 z2 => h (.inr ⟨z1, .inl z2⟩)
    lia
  · unfold arcPairs
    rw [List.pairwise_map]
    refine List.Pairwise.imp (fun {x y} h => ?_) w.srt
    have h : x.a * 8 + x.b < y.a * 8 + y.b := h
    dsimp only
    lia
theorem sort_arcs {K : PySem.W.Frag} {H : Hp} {da : Addr} {g : Net} {kva : List (List Key × V)} {Q : VK} (w : WF g) (hda : H da = some (.dT kva)) (ak : ArcsOk g kva) (k : ∀ a us, H a = none → Paired (StepAt H) us (arcPairs g) → Q (.ref a) (upd H a (.lst us))) : rSortT K [.ref da] H Q := by
  obtain ⟨es, ees, esnd, esm⟩ := ak.pairs
  have hlen : kva.length = es.length := by
    have := congrArg List.length ees
    simpa using this
  refine ⟨da, kva, es.map dArc, 1, listOrd natOrd, fun i => [(es.getD i (0, 0)).1, (es.getD i (0, 0)).2], rfl, hda, dArc_fit es, by decide, fun i j d e h1 h2 => ?_, fun qs pr => ⟨dp_steps (keys_steps ees pr), fun p a hp hs ha => ?_⟩⟩
  · rw [List.getElem?_map] at h1 h2
    obtain ⟨x, hx, rfl⟩ := Option.map_eq_some_iff.mp h1
    obtain ⟨y, hy, rfl⟩ := Option.map_eq_some_iff.mp h2
    rw [lt_arc]
    have e1 : es.getD i (0, 0) = x := by rw [List.getD_eq_getElem?_getD, hx]; rfl
    have e2 : es.getD j (0, 0) = y := by rw [List.getD_eq_getElem?_getD, hy]; rfl
    dsimp only
    rw [e1, e2]
  · have pr2 := keys_steps ees pr
    refine k a _ ha ?_
    have hl2 : (qs.map V.ref).length = es.length := Paired.length pr2
    have hm : ∀ i ∈ p, i < (qs.map V.ref).length := fun i hi => by
      rw [hl2, ← hlen]
      exact List.mem_range.mp (hp.mem_iff.mp hi)
    have := pick_any (0, 0) pr2 hm
    rw [hlen] at hp
    rwa [arcs_order w esnd esm hp hs] at this
inductive IspWhole (C : Addr) (vs : List V) (H : Hp) (Q : VK) : Prop
  | mk (p dx lc da : Addr) (st : State) (_h1 : vs = [.ref p]) (_h2 : NetAt C H p dx lc da st) (_h3 : AskL H Q (full (WaySpec.ask st.net .net))) : IspWhole C vs H Q
noncomputable def spWhole (C : Addr) : Sp := fun vs H Q _ => IspWhole C vs H Q
theorem scWhole : zR ["self", "told", "a", "b", "closed"] ["self"] (zH sWhole) := ⟨rfl, rfl, rfl, by decide +kernel, rfl, by decide +kernel, by decide +kernel⟩
theorem bkWhole : BlkOk ["self", "told", "a", "b", "closed"] (zH sWhole) (blk [(".0", .local), ("closed", .local)]) [("closed", 4)] := ⟨rfl, by decide +kernel, by decide +kernel, by decide +kernel, by decide +kernel⟩
noncomputable def opn (b : Bool) : Nat := if b = true then 1 else 0
noncomputable def wholeTo (g : Net) (i : Nat) : List Nat := g.n :: (g.opened.map opn ++ (g.arcs.take i).flatMap fun x => [x.a, x.b, x.len])
theorem whole_full (g : Net) : (full (WaySpec.ask g .net)).map V.int = rowV (wholeTo g g.arcs.length) := by
  unfold wholeTo
  rw [List.take_length, rowV_ints]
  rfl
theorem whole_zero (g : Net) : rowV (wholeTo g 0) = V.int (g.n : Nat) :: rowV (g.opened.map opn) := by
  unfold wholeTo
  simp [rowV]
theorem whole_succ {g : Net} {i : Nat} {x : Arc} (h : g.arcs[i]? = some x) : rowV (wholeTo g (i + 1)) = rowV (wholeTo g i) ++ [V.int (x.a : Nat), V.int (x.b : Nat), V.int (x.len : Nat)] := by
  unfold wholeTo
  rw [List.take_add_one, h, List.flatMap_append]
  simp [rowV]
theorem whole_len (g : Net) (w : WF g) (i : Nat) : (rowV (wholeTo g i)).length ≤ 9 + 3 * i := by
  rw [rowV_len]
  unfold wholeTo
  have : ((g.arcs.take i).flatMap fun x => [x.a, x.b, x.len]).length = 3 * (g.arcs.take i).length := by
    generalize g.arcs.take i = l
    induction l with
    | nil => rfl
    | cons a l ih => rw [List.flatMap_cons, List.length_append, ih, List.length_cons]; simp; lia
  rw [List.length_cons, List.length_append, this, List.length_map, w.op, List.length_take]
  have := w.n8
  lia
theorem arcs64 {g : Net} (w : WF g) : g.arcs.length ≤ 64 := by
  have := nodup_le 64 (g.arcs.map WaySpec.key) (by
    unfold List.Nodup
    rw [List.pairwise_map]
    exact List.Pairwise.imp (fun h z => by rw [z] at h; exact Nat.lt_irrefl _ h) w.srt) (by
    intro k hk
    obtain ⟨x, hx, rfl⟩ := List.mem_map.mp hk
    have := w.arcs x hx
    have := w.n8
    show x.a * 8 + x.b < 64
    lia)
  rwa [List.length_map] at this
theorem opened_pair (o : List Bool) : ∀ (acc : List V), Paired (fun (v : V) (z : Nat) => v = .int (z : Nat)) acc (o.map opn) → acc = rowV (o.map opn) := by
  generalize o.map opn = l
  intro acc h
  induction h with
  | nil => rfl
  | cons p _ ih => rw [p, ih]; rfl
section
variable {P : Program} {w : World} {K : PySem.W.Frag} {mg : Str → Option Value} {base : Heap} {f C : Addr} {fd : FuncData}
inductive J12 (p tl : Addr) (H4 : Hp) (st : State) (i : Nat) (σ : L2.St) (H5 : Hp) : Prop
  | mk (x2 x3 : Option V) (_h1 : σ = [some (.ref p), some (.ref tl), x2, x3, none]) (_h2 : (∀ b o, H4 b = some o → b ≠ tl → H5 b = some o)) (_h3 : H5 tl = some (.lst (rowV (wholeTo st.net i)))) : J12 p tl H4 st i σ H5
theorem ok_whole (F : Fun K "whole" "Net.whole" sWhole f fd) (T : Txt K mg C) : FnOk P w K mg base CX0 1 f fd ["self"] (spWhole C) := by
  refine F.ok scWhole (fun vs H Q E h => ?_) (fun cdv A outer s H vs Q E hr h => ?_)
  · obtain ⟨p, dx, lc, da, st, rfl, _⟩ := h
    rfl
  · obtain ⟨p, dx, lc, da, st, rfl, hN, k⟩ := h
    have nd := scWhole.nd
    have hu := hu_of hr
    refine let T3 : TS := _; let T2 : TS := _; let T1 : TS := _; ⟨_, (zC (ps_set (i := 1) nd rfl (Or.inl rfl) (pe_lst (zA (yG zS (by rfl) T.len PySem.boot_len (zA (yF (pv 0) rfl) zF)) zF)))
      (sh T1 (zC (ps_expr (pe_bm PySem.F.plainAttrs_list PySem.F.slot_list_extend PySem.F.type_list_extend mt_extend (pv 1) (zA (pe_lc (own := [("closed", 4)]) (g := gName 4) (tt := tYes) rfl nd (pi_list (yF (pv 0) rfl)) bkWhole
          (fun _ _ _ _ _ => yA (i := 4) nd rfl (Or.inl rfl)) (fun _ _ _ _ _ => pts_nil) (fun _ _ _ _ _ => pe_ifExp (pt_val (pv 4)) zN zN)) zF)))
      (sh T2 (zC (ps_for PassesOwn.never rfl (pi_list (yG (cr_sortT rfl hr.units) (by rfl) T.sorted PyProof.Rows.boot_sorted (zA (yF (pv 0) rfl) zF))) (pg_tup (n := 2) rfl (yE (yA (i := 2) nd rfl (Or.inl rfl)) (yE (yA (i := 3) nd rfl (Or.inl rfl)) pgs_nil))) (sh T3 (zD (ps_expr (pe_bm PySem.F.plainAttrs_list PySem.F.slot_list_extend PySem.F.type_list_extend mt_extend (pv 1) (zA (pe_lst (zA (pv 2) (zA (pv 3) (zA (pe_dget hu (yF (pv 0) rfl) (pe_tup (zA (pv 2) (zA (pv 3) zF))) (fun _ _ => rfl)) zF)))) zF))))))
      (zD (zL (pv 1)))))))), ?_⟩
    obtain ⟨sv, tv, hp, hse⟩ := hN.ob
    obtain ⟨kva, hda, ak⟩ := hN.ar
    have hcl := hN.cl
    have wf := hN.wf
    refine ⟨_, rfl, p, C, dx, _, _, rfl, hp, T.cl, T.nClosed, nf_closed _ _ _ _, lc, _, rfl, .inl (SqL.of hcl), zJ (by show 1 ≤ 100000; decide), fun tl etl => ?_⟩
    have s0 : Same H (upd H tl (.lst [.int ((st.net.opened.map fun b => V.bl (!b)).length : Nat)])) := Same.upd etl
    have e0 : ((st.net.opened.map fun b => V.bl (!b)).length : Nat) = st.net.n := by rw [List.length_map, wf.op]
    generalize hH1 : upd H tl (.lst [.int ((st.net.opened.map fun b => V.bl (!b)).length : Nat)]) = H1 at s0
    have htl1 : H1 tl = some (.lst [.int (st.net.n : Nat)]) := by rw [← hH1, zB, e0]
    refine ⟨_, rfl, .inl ⟨rfl, _, SqL.of htl1⟩, ?_⟩
    refine ⟨_, rfl, p, C, dx, _, _, rfl, s0 _ _ hp, T.cl, T.nClosed, nf_closed _ _ _ _, lc, rfl, ⟨_, SqL.of (s0 _ _ hcl)⟩, fun D hD => ?_⟩
    refine lc_build (K := K) (xs := st.net.opened.map fun b => V.bl (!b)) (H1 := H1) (fun i => st.net.opened[i]?.bind fun b => some (opn b)) (fun _ v z => v = .int (z : Nat)) (fun _ _ _ _ _ q => q) hD (SqL.of (s0 _ _ hcl)) (Nat.lt_of_le_of_lt (by have := wf.n8; lia : _ ≤ 8) (by decide)) (fun i x H2 acc Nx hx sm hacc keep add => ?_) fun H2 acc sm hacc pa => ?_
    · rw [List.getElem?_map] at hx
      obtain ⟨b, hb, rfl⟩ := Option.map_eq_some_iff.mp hx
      refine ⟨rfl, ?_⟩
      unfold tYes
      dsimp only
      rw [if_pos (rfl : true = true)]
      refine ⟨_, rfl, _, rfl, ?_⟩
      cases b with
      | true => exact add _ 1 H2 (Same.refl _) rfl (by rw [hb]; rfl) rfl
      | false => exact add _ 0 H2 (Same.refl _) rfl (by rw [hb]; rfl) rfl
    have ea : acc = rowV (st.net.opened.map opn) := by
      have h2 := fm_get (fun b => some (opn b)) st.net.opened
      rw [List.length_map, h2] at pa
      refine opened_pair st.net.opened acc ?_
      rw [← List.filterMap_eq_map]
      exact pa
    subst ea
    have s2 : Same H1 H2 := sm.trans (wo_sub H2 D)
    have htl2 := s2 _ _ htl1
    refine ⟨tl, D, _, _, rfl, rfl, htl2, hacc, zJ (by rw [rowV_len, List.length_map, wf.op]; have := wf.n8; show 1 + _ ≤ 100000; lia), ?_⟩
    have ez : [V.int (st.net.n : Nat)] ++ rowV (st.net.opened.map opn) = rowV (wholeTo st.net 0) := (whole_zero st.net).symm
    rw [ez]
    generalize hH3 : upd H2 tl (.lst (rowV (wholeTo st.net 0))) = H3
    have s3 : Same H H3 := fun b o e => by
      rw [← hH3, zE (zG e etl)]
      exact s2 _ _ (s0 _ _ e)
    have htl3 : H3 tl = some (.lst (rowV (wholeTo st.net 0))) := by rw [← hH3, zB]
    refine ⟨_, rfl, p, C, dx, _, _, rfl, s3 _ _ hp, T.cl, T.nArcs, nf_arcs _ _ _ _, ?_⟩
    unfold tNil
    dsimp (config := { proj := false }) only
    refine sort_arcs wf (s3 _ _ hda) ak fun a us ha pr => ?_
    have s4 : Same H3 (upd H3 a (.lst us)) := Same.upd ha
    generalize hH4 : upd H3 a (.lst us) = H4 at s4
    have ha4 : H4 a = some (.lst us) := by rw [← hH4, zB]
    have hatl : a ≠ tl := fun z => by rw [z, htl3] at ha; cases ha
    have pr4 : Paired (StepAt H4) us (arcPairs st.net) := L2.Paired.mapP pr fun _ _ z => z.mono s4
    have hul : us.length = st.net.arcs.length := by
      have := Paired.length pr
      unfold arcPairs at this
      rwa [List.length_map] at this
    refine ⟨a, rfl, ⟨_, SqL.of ha4⟩, ?_⟩
    let Pv1 : Nat → L2.St → Hp → Prop := J12 p tl H4 st
    refine for_list (K := K) (xs := us) Pv1
      ⟨none, none, rfl, fun b o e _ => e, s4 _ _ htl3⟩ (fun i σ H5 _ q => ?_) (fun i x σ H5 hx hq => ?_) fun σ H5 hq => ?_
    · obtain ⟨_, _, _, q, _⟩ := q
      exact SqL.of (q _ _ ha4 hatl)
    · obtain ⟨x2, x3, rfl, q5, ht5⟩ := hq
      obtain ⟨e, he, tq, rfl, htq⟩ := zX pr4 hx
      unfold arcPairs at he
      rw [List.getElem?_map] at he
      obtain ⟨ar, har, rfl⟩ := Option.map_eq_some_iff.mp he
      have hm := List.mem_of_getElem? har
      have harc := wf.arc_of hm
      have ntq : tq ≠ tl := ne_of htq (s4 _ _ htl3) (by intro z; cases z)
      have np : p ≠ tl := zG hp etl
      have nda : da ≠ tl := zG hda etl
      have hp5 := q5 _ _ (s4 _ _ (s3 _ _ hp)) np
      have hda5 := q5 _ _ (s4 _ _ (s3 _ _ hda)) nda
      refine ⟨tq, _, rfl, SqT.of (q5 _ _ htq ntq), rfl, _, _, rfl, _, _, rfl, rfl, ?_⟩
      refine ⟨_, rfl, .inl ⟨rfl, _, SqL.of ht5⟩, ?_⟩
      refine ⟨_, rfl, _, rfl, _, rfl, p, C, dx, _, _, rfl, hp5, T.cl, T.nArcs, nf_arcs _ _ _ _, _, rfl, _, rfl, zJ (by show 2 ≤ 100000; decide), fun t1 et1 => ?_⟩
      have st1 : Same H5 (upd H5 t1 (.tup [.int (ar.a : Nat), .int (ar.b : Nat)])) := Same.upd et1
      have hval : valV kva (bk ar.a ar.b) = some (.int (ar.len : Nat)) := by rw [ak.val, harc]; rfl
      refine ⟨da, .int (ar.len : Nat), rfl, hval ▸ DGet.t (k := bk ar.a ar.b) (st1 _ _ hda5) zB, ?_⟩
      refine ⟨zJ (by show 3 ≤ 100000; decide), fun l1 el1 => ?_⟩
      have st2 := st1.trans (Same.upd (o := .lst [.int (ar.a : Nat), .int (ar.b : Nat), .int (ar.len : Nat)]) el1)
      have hi : i < st.net.arcs.length := (List.getElem?_eq_some_iff.mp har).1
      have h64 := arcs64 wf
      refine ⟨tl, l1, _, _, rfl, rfl, st2 _ _ ht5, zB, zJ (by have := whole_len st.net wf i; show _ + 3 ≤ 100000; lia), ?_⟩
      refine ⟨_, _, rfl, fun b o e hb => ?_, ?_⟩
      · rw [zE hb]; exact st2 _ _ (q5 _ _ e hb)
      · rw [zB, whole_succ har]
    · obtain ⟨x2, x3, rfl, q5, ht5⟩ := hq
      rw [hul] at ht5
      refine ⟨_, rfl, k H5 tl (fun b o e => ?_) etl ?_⟩
      · exact q5 _ _ (s4 _ _ (s3 _ _ e)) (zG e etl)
      · rw [whole_full]; exact ht5
end
noncomputable abbrev sSides : Stmt := top 26
noncomputable abbrev sLead : Stmt := top 27
noncomputable abbrev sFirst : Stmt := top 29
noncomputable def RowAt (H : Hp) (v : V) (r : List Nat) : Prop := ∃ q, v = .ref q ∧ H q = some (.lst (rowV r))
theorem RowAt.mono {H H' : Hp} (s : Same H H') {v : V} {r : List Nat} : RowAt H v r → RowAt H' v r
  | ⟨q, e, h⟩ => ⟨q, e, s _ _ h⟩
inductive IspSides (vs : List V) (H : Hp) (Q : VK) : Prop
  | mk (n s t : Nat) (_h1 : vs = [.int (n : Nat), .int (s : Nat), .int (t : Nat)]) (_h2 : n ≤ 8) (_h3 : ∀ (H' : Hp) (l : Addr) (us : List V), Same H H' → H l = none → H' l = some (.lst us) → Paired (RowAt H') us (yB s t n) → Q (.ref l) H') : IspSides vs H Q
noncomputable def spSides : Sp := fun vs H Q _ => IspSides vs H Q
theorem scSides : zR ["nodes", "s", "t", "sides", "node", "side"] ["nodes", "s", "t"] (zH sSides) := ⟨rfl, rfl, rfl, by decide +kernel, rfl, by decide +kernel, by decide +kernel⟩
theorem bkSides : BlkOk ["nodes", "s", "t", "sides", "node", "side"] (zH sSides) (blk [(".0", .local), ("side", .local), ("node", .free)]) [("side", 5)] := ⟨rfl, by decide +kernel, by decide +kernel, by decide +kernel, by decide +kernel⟩
theorem fm_some {α β : Type} (f : α → β) (L : List α) : (List.range L.length).filterMap (fun i => L[i]?.map f) = L.map f := by
  have h1 := fm_get (some ∘ f) L
  rw [List.filterMap_eq_map] at h1
  rw [← h1]
  congr 1
  funext i
  cases L[i]? <;> rfl
theorem int_ne {a b : Nat} : (!decide (V.int (a : Int) = V.int (b : Int))) = decide (a ≠ b) := by
  rw [Bool.eq_iff_iff, Bool.not_eq_true', decide_eq_false_iff_not, decide_eq_true_iff]
  constructor
  · intro h z; exact h (by rw [z])
  · intro h z; injection z with z; exact h (by lia)
section
variable {P : Program} {w : World} {K : PySem.W.Frag} {mg : Str → Option Value} {base : Heap} {f C fL fS fW : Addr} {fd fdL fdS fdW : FuncData}
inductive J13 (n s0 t : Nat) (H : Hp) (i : Nat) (σ : L2.St) (H2 : Hp) : Prop
  | mk (l : Addr) (us : List V) (x4 : Option V) (_h1 : σ = [some (.int (n : Nat)), some (.int (s0 : Nat)), some (.int (t : Nat)), some (.ref l), x4, none]) (_h2 : Same H H2) (_h3 : H l = none) (_h4 : H2 l = some (.lst us)) (_h5 : Paired (RowAt H2) us (yB s0 t i)) : J13 n s0 t H i σ H2
theorem ok_sides (F : Fun K "sides_with" "sides_with" sSides f fd) (T : Txt K mg C) : FnOk P w K mg base CX0 1 f fd ["nodes", "s", "t"] spSides := by
  refine F.ok scSides (fun vs H Q E h => ?_) (fun cdv A outer s H vs Q E hr h => ?_)
  · obtain ⟨n, s, t, rfl, _⟩ := h
    rfl
  · obtain ⟨n, s0, t, rfl, hn, k⟩ := h
    have nd := scSides.nd
    refine let T3 : TS := _; let T2 : TS := _; let T1 : TS := _; ⟨_, (zC (ps_set (i := 3) nd rfl (Or.inl rfl) (pe_lst (zA (pe_lst (zA (pv 1) zF)) zF)))
      (sh T1 (zC (ps_for PassesOwn.never rfl (pi_range1 (by rfl) T.range (zA (pv 0) zF)) (yA (i := 4) nd rfl (Or.inr rfl)) (sh T2 (zD (ps_if (pw_and (zQ op_ne (pv 4) (pv 1) (yC _)) (pw_and1 (zQ op_ne (pv 4) (pv 2) (yC _)))).pt (sh T3 (zD (ps_set (i := 3) nd rfl (Or.inl rfl) (pe_op op_cat (pv 3) (pe_lc (own := [("side", 5)]) (g := gName 5) (tt := tYes) rfl nd (pi_list (pv 3)) bkSides
        (fun _ _ _ _ _ => yA (i := 5) nd rfl (Or.inl rfl)) (fun _ _ _ _ _ => pts_nil) (fun _ _ _ _ _ => pe_op op_cat (pv 5) (pe_lst (zA (pv 4) zF)))))))) zM))))
      (zD (zL (pv 3)))))), ?_⟩
    refine ⟨_, rfl, zJ (by show 1 ≤ 100000; decide), fun l0 e0 => ⟨zJ (by show 1 ≤ 100000; decide), fun l1 e1 => ?_⟩⟩
    have s0' : Same H (upd H l0 (.lst [.int (s0 : Nat)])) := Same.upd e0
    have s1 := s0'.trans (Same.upd (o := .lst [.ref l0]) e1)
    have n01 : l0 ≠ l1 := fun z => by rw [z] at e1; rw [zB] at e1; cases e1
    refine ⟨_, rfl, _, rfl, (by lia), (by lia), ?_⟩
    let Pv1 : Nat → L2.St → Hp → Prop := J13 n s0 t H
    refine for_range Pv1
      ⟨l1, [.ref l0], none, rfl, s1, s0'.free e1, zB, .cons ⟨l0, rfl, by rw [zE n01, zB]; rfl⟩ .nil⟩ (fun i σ H2 hi hq => ?_) fun σ H2 hq => ?_
    · obtain ⟨l, us, x4, rfl, sm, hl0, hl, pr⟩ := hq
      have hi8 : i < 8 := by have : (n : Int).toNat = n := rfl; lia
      have ei : (0 : Int) + (i : Int) = ((i : Nat) : Int) := by lia
      have hsame : ¬ (i ≠ s0 ∧ i ≠ t) → J13 n s0 t H (i + 1) [some (V.int (n : Nat)), some (V.int (s0 : Nat)), some (V.int (t : Nat)), some (V.ref l), some (V.int (i : Nat)), none] H2 := fun h => ⟨l, us, _, rfl, sm, hl0, hl, by unfold yB; rw [if_neg h]; exact pr⟩
      show _
      dsimp (config := { proj := false }) only [gName]
      refine ⟨_, rfl, _, rfl, rfl, _, rfl, ?_⟩
      rw [ei, int_ne]
      refine zK (fun h1 => ?_) fun h1 => hsame fun z => of_decide_eq_false h1 z.1
      refine ⟨_, rfl, _, rfl, rfl, _, rfl, ?_⟩
      rw [int_ne]
      refine zK (fun h2 => ?_) fun h2 => hsame fun z => of_decide_eq_false h2 z.2
      have hlen : us.length ≤ 2 ^ i := by rw [Paired.length pr]; exact sides_length s0 t i
      have hpow : 2 ^ i ≤ 2 ^ 7 := Nat.pow_le_pow_right (by decide) (by lia)
      have hlen8 : us.length ≤ 128 := by lia
      refine ⟨_, rfl, _, rfl, l, rfl, ⟨us, SqL.of hl⟩, fun D hD => ?_⟩
      refine lc_build (K := K) (xs := us) (H1 := H2) (fun j => (yB s0 t i)[j]?.map fun side => side ++ [i]) RowAt (fun _ _ _ _ sm q => RowAt.mono sm q) hD (SqL.of hl) (Nat.lt_of_le_of_lt hlen8 (by decide)) (fun j x H3 acc Nx hx sm3 hacc keep add => ?_) fun H3 acc sm3 hacc pa => ?_
      · obtain ⟨side, hside, q, rfl, hq⟩ := zX pr hx
        have sl := sides_len1 (List.mem_of_getElem? hside)
        have sm1 : Same H2 H3 := sm3.trans (wo_sub H3 D)
        refine ⟨rfl, ?_⟩
        unfold tYes
        dsimp only
        rw [if_pos (rfl : true = true)]
        refine ⟨_, rfl, _, rfl, zJ (by show 1 ≤ 100000; decide), fun t0 et0 => ?_⟩
        have sa : Same H3 (upd H3 t0 (.lst [.int (i : Nat)])) := Same.upd et0
        refine ⟨q, t0, _, _, rfl, rfl, sa _ _ (sm1 _ _ hq), zB, ?_, fun t1 et1 => ?_⟩
        · show (rowV side).length + 1 ≤ sizeLine
          rw [rowV_len]; exact zJ (by lia)
        have sb := sa.trans (Same.upd (o := .lst (rowV side ++ [.int (i : Nat)])) et1)
        have n1 : t1 ≠ D := fun z => by have := sa.free et1; rw [z, hacc] at this; cases this
        refine add _ (side ++ [i]) _ (wo_same sb) ((sb _ _ hacc).trans hacc.symm) (by rw [hside]; rfl) ⟨t1, rfl, ?_⟩
        rw [wo_ne n1, zB, rowV_snoc]
      · rw [Paired.length pr, fm_some] at pa
        have sm1 : Same H2 H3 := sm3.trans (wo_sub H3 D)
        have hal : acc.length = us.length := by rw [Paired.length pa, Paired.length pr, List.length_map]
        refine ⟨l, D, _, _, rfl, rfl, sm1 _ _ hl, hacc, zJ (by lia), fun l2 e2 => ?_⟩
        have s2 : Same H3 (upd H3 l2 (.lst (us ++ acc))) := Same.upd e2
        refine ⟨l2, us ++ acc, _, rfl, (sm.trans sm1).trans s2, (sm.trans sm1).free e2, zB, ?_⟩
        unfold yB
        rw [if_pos ⟨of_decide_eq_true h1, of_decide_eq_true h2⟩]
        exact paired_app (L2.Paired.mapP pr fun _ _ z => z.mono (sm1.trans s2)) (L2.Paired.mapP pa fun _ _ z => z.mono ((wo_sub H3 D).trans s2))
    · obtain ⟨l, us, x4, rfl, sm, hl0, hl, pr⟩ := hq
      exact ⟨_, rfl, k H2 l us sm hl0 hl pr⟩
inductive IspLead (vs : List V) (H : Hp) (Q : VK) : Prop
  | mk (la ra : Addr) (us : List V) (l : List (Nat × Nat)) (side : List Nat) (_h1 : vs = [.ref la, .ref ra]) (_h2 : H la = some (.lst us)) (_h3 : Paired (StepAt H) us l) (_h4 : l.length ≤ 64) (_h5 : H ra = some (.lst (rowV side))) (_h6 : ∀ (H' : Hp) (q : Addr) (zs : List V), Same H H' → H q = none → H' q = some (.lst zs) → Paired (StepAt H') zs (leadOut l side) → Q (.ref q) H') : IspLead vs H Q
noncomputable def spLead : Sp := fun vs H Q _ => IspLead vs H Q
theorem scLead : zR ["arcs", "side", "arc"] ["arcs", "side"] (zH sLead) := ⟨rfl, rfl, rfl, by decide +kernel, rfl, by decide +kernel, by decide +kernel⟩
theorem bkLead : BlkOk ["arcs", "side", "arc"] (zH sLead) (blk [(".0", .local), ("arc", .local), ("side", .free)]) [("arc", 2)] := ⟨rfl, by decide +kernel, by decide +kernel, by decide +kernel, by decide +kernel⟩
theorem lead_eq (l : List (Nat × Nat)) (side : List Nat) : leadOut l side = l.filterMap fun e => if (side.contains e.1 && !side.contains e.2) = true then some e else none := by
  unfold leadOut
  rw [← List.filterMap_eq_filter]
  congr 1
theorem ok_lead (F : Fun K "leading_out" "leading_out" sLead f fd) (T : Txt K mg C) : FnOk P w K mg base CX0 1 f fd ["arcs", "side"] spLead := by
  refine F.ok scLead (fun vs H Q E h => ?_) (fun cdv A outer s H vs Q E hr h => ?_)
  · obtain ⟨la, ra, us, l, side, rfl, _⟩ := h
    rfl
  · obtain ⟨la, ra, us, l, side, rfl, hla, pr, hl64, hra, k⟩ := h
    have nd := scLead.nd
    refine ⟨_, (zD (zL (pe_lc (own := [("arc", 2)]) (g := gName 2) (tt := tAnd (tTest (tOp (rIn K false) (tOp (rIxT K) (tVar 2) (tC (.int 0))) (tVar 1))) (tTest (tOp (rIn K true) (tOp (rIxT K) (tVar 2) (tC (.int 1))) (tVar 1)))) rfl nd (pi_list (pv 0)) bkLead
      (fun _ _ _ _ _ => yA (i := 2) nd rfl (Or.inl rfl))
      (fun _ _ _ _ _ => pts_one (pw_and (zQ op_in_seq (pe_ix ix_tup (pv 2) zN (fun _ _ => rfl)) (pv 1) (by rfl)) (pw_and1 (zQ op_notIn_seq (pe_ix ix_tup (pv 2) zN (fun _ _ => rfl)) (pv 1) (by rfl)))).pt)
      (fun _ _ _ _ _ => pv 2)))), ?_⟩
    have hlen : us.length = l.length := Paired.length pr
    refine ⟨_, rfl, la, rfl, ⟨us, SqL.of hla⟩, fun D hD => ?_⟩
    refine lc_build (K := K) (xs := us) (H1 := H) (fun j => l[j]?.bind fun e => if (side.contains e.1 && !side.contains e.2) = true then some e else none) StepAt (fun _ _ _ _ sm q => StepAt.mono sm q) hD (SqL.of hla) (Nat.lt_of_le_of_lt (by lia : us.length ≤ 64) (by decide)) (fun j x H3 acc Nx hx sm3 hacc keep add => ?_) fun H3 acc sm3 hacc pa => ?_
    · obtain ⟨e, he, q, rfl, hq⟩ := zX pr hx
      have sm1 : Same H H3 := sm3.trans (wo_sub H3 D)
      have hq3 := sm1 _ _ hq
      have hra3 := sm1 _ _ hra
      have hqD : q ≠ D := fun z => by rw [z, hD] at hq; cases hq
      refine ⟨rfl, ?_⟩
      refine ⟨_, rfl, q, _, _, .int (e.1 : Nat), rfl, rfl, SqT.of hq3, rfl, _, rfl, ra, _, rfl, .inl (SqL.of hra3), rfl, flat_row side, _, rfl, ?_⟩
      show if inV (.int (e.1 : Int)) (rowV side) = true then _ else _
      rw [inV_row]
      refine zK (fun h1 => ?_) fun h1 => ?_
      · refine ⟨_, rfl, q, _, _, .int (e.2 : Nat), rfl, rfl, SqT.of hq3, rfl, _, rfl, ra, _, rfl, .inl (SqL.of hra3), rfl, flat_row side, _, rfl, ?_⟩
        show if (!inV (.int (e.2 : Int)) (rowV side)) = true then _ else _
        rw [inV_row]
        refine zU (fun h2 => ?_) fun h2 => ?_
        · exact ⟨_, rfl, add _ e H3 (Same.refl _) rfl (by rw [he]; show (if (side.contains e.1 && !side.contains e.2) = true then some e else none) = some e; rw [h1, h2]; rfl) ⟨q, rfl, by rw [wo_ne hqD]; exact hq3⟩⟩
        · exact keep H3 (Same.refl _) rfl (by rw [he]; show (if (side.contains e.1 && !side.contains e.2) = true then some e else none) = none; rw [h1, h2]; rfl)
      · exact keep H3 (Same.refl _) rfl (by rw [he]; show (if (side.contains e.1 && !side.contains e.2) = true then some e else none) = none; rw [h1]; rfl)
    · refine k H3 D acc (sm3.trans (wo_sub H3 D)) hD hacc ?_
      rw [lead_eq, ← fm_get, ← hlen]
      exact L2.Paired.mapP pa fun _ _ z => z.mono (wo_sub H3 D)
end
noncomputable def pr2 (e : Nat × Nat) : List Nat := [e.1, e.2]
theorem pr2_inj {x y : Nat × Nat} (h : pr2 x = pr2 y) : x = y := by
  unfold pr2 at h
  injection h with h1 h2
  injection h2 with h2 _
  exact Prod.ext h1 h2
theorem eqv_arc (x y : Nat × Nat) : PyData.eqv (dArc x) (dArc y) = decide (x = y) := by
  show PyData.eqvAll ([x.1, x.2].map fun (n : Nat) => .int (n : Int)) ([y.1, y.2].map fun (n : Nat) => .int (n : Int)) = _
  rw [eqv_ints]
  exact decide_eq_decide.mpr ⟨fun h => pr2_inj h, fun h => by rw [h]⟩
theorem eqv_arcs : ∀ (r q : List (Nat × Nat)), PyData.eqvAll (r.map dArc) (q.map dArc) = decide (r = q)
  | [], [] => rfl
  | [], _ :: _ => by simp [PyData.eqvAll]
  | _ :: _, [] => by simp [PyData.eqvAll]
  | a :: r, b :: q => by
    rw [List.map_cons, List.map_cons]
    show (PyData.eqv (dArc a) (dArc b) && PyData.eqvAll _ _) = _
    rw [eqv_arcs r q, eqv_arc, Bool.eq_iff_iff, Bool.and_eq_true, decide_eq_true_iff, decide_eq_true_iff, decide_eq_true_iff]
    constructor
    · rintro ⟨h1, h2⟩; rw [h1, h2]
    · intro h; injection h with h1 h2; exact ⟨h1, h2⟩
noncomputable abbrev rowOrd : KeyOrd := listOrd natOrd
theorem lt_pr2 (x y : Nat × Nat) : rowOrd.blt (pr2 x) (pr2 y) = ltP x y := by
  show lexLt natOrd [x.1, x.2] [y.1, y.2] = ltP x y
  rw [lex_lt]
  unfold ltP
  refine decide_eq_decide.mpr ?_
  rw [List.cons_lt_cons_iff, List.cons_lt_cons_iff]
  constructor
  · rintro (h | ⟨h, h2 | ⟨_, h2⟩⟩)
    · exact .inl h
    · exact .inr ⟨h, h2⟩
    · exact absurd h2 (List.lt_irrefl _)
  · rintro (h | ⟨h, h2⟩)
    · exact .inl h
    · exact .inr ⟨h, .inl h2⟩
theorem lex_arcs : ∀ (r q : List (Nat × Nat)), lexA PyData.eqv (ltN 2) (r.map dArc) (q.map dArc) = lexLt rowOrd (r.map pr2) (q.map pr2)
  | [], [] => rfl
  | [], _ :: _ => rfl
  | _ :: _, [] => rfl
  | a :: r, b :: q => by
    rw [List.map_cons, List.map_cons, List.map_cons, List.map_cons, lexA_cons, lex_arcs r q, eqv_arc]
    by_cases h : a = b
    · subst h
      rw [if_pos (decide_eq_true rfl)]
      exact (lex_self (O := rowOrd) (pr2 a) _ _).symm
    · rw [if_neg (by rw [decide_eq_false h]; decide), lex_diff (O := rowOrd) (fun z => h (pr2_inj z))]
      exact lt_arc a b
theorem lex_ltL : ∀ (r q : List (Nat × Nat)), lexLt rowOrd (r.map pr2) (q.map pr2) = ltL r q
  | [], [] => rfl
  | [], _ :: _ => rfl
  | _ :: _, [] => rfl
  | a :: r, b :: q => by
    rw [List.map_cons, List.map_cons]
    unfold ltL
    by_cases h : a = b
    · subst h
      rw [if_pos rfl, lex_self (O := rowOrd) (pr2 a), lex_ltL r q]
    · rw [if_neg h, lex_diff (O := rowOrd) (fun z => h (pr2_inj z)), lt_pr2]
noncomputable def keyR (r : List (Nat × Nat)) : List (List Nat) := [r.length] :: r.map pr2
noncomputable abbrev keyOrd : KeyOrd := listOrd rowOrd
theorem lt_key (r q : List (Nat × Nat)) : keyOrd.blt (keyR r) (keyR q) = lessR r q := by
  show lexLt rowOrd ([r.length] :: r.map pr2) ([q.length] :: q.map pr2) = _
  unfold lessR
  by_cases h : r.length = q.length
  · rw [if_pos h, h, lex_self (O := rowOrd) [q.length]]
    exact lex_ltL r q
  · rw [if_neg h, lex_diff (O := rowOrd) (x := [r.length]) (y := [q.length]) (fun z => h (by injection z))]
    show lexLt natOrd [r.length] [q.length] = _
    rw [lex_diff (O := natOrd) h]
noncomputable def dRowA (r : List (Nat × Nat)) : PyData := .tuple [.int (r.length : Nat), .list (r.map dArc)]
theorem lt_rowA (r q : List (Nat × Nat)) : ltN 4 (dRowA r) (dRowA q) = keyOrd.blt (keyR r) (keyR q) := by
  rw [lt_key]
  show lexA PyData.eqv (ltN 3) [.int (r.length : Nat), .list (r.map dArc)] [.int (q.length : Nat), .list (q.map dArc)] = _
  unfold lessR
  rw [lexA_cons]
  by_cases h : r.length = q.length
  · rw [if_pos h, h, if_pos (by show ((q.length : Int) == (q.length : Int)) = true; simp), lexA_cons]
    have e : PyData.eqv (.list (r.map dArc)) (.list (q.map dArc)) = decide (r = q) := eqv_arcs r q
    rw [e]
    by_cases h2 : r = q
    · subst h2
      rw [if_pos (decide_eq_true rfl), ← lex_ltL]
      exact (lex_irrefl (O := rowOrd) _).symm
    · rw [if_neg (by rw [decide_eq_false h2]; decide), ← lex_ltL]
      exact lex_arcs r q
  · rw [if_neg h, if_neg (by show ¬ ((r.length : Int) == (q.length : Int)) = true; simp; lia)]
    show decide ((r.length : Int) < (q.length : Int)) = decide (r.length < q.length)
    exact decide_eq_decide.mpr (by lia)
theorem can_rowA (r q : List (Nat × Nat)) : CanN 4 (dRowA r) (dRowA q) := by
  intro j a b ha hb
  match j, ha, hb with
  | 0, ha, hb =>
    obtain rfl : PyData.int (r.length : Nat) = a := by simpa using ha
    obtain rfl : PyData.int (q.length : Nat) = b := by simpa using hb
    trivial
  | 1, ha, hb =>
    obtain rfl : PyData.list (r.map dArc) = a := by simpa using ha
    obtain rfl : PyData.list (q.map dArc) = b := by simpa using hb
    intro i c d hc hd
    rw [List.getElem?_map] at hc hd
    obtain ⟨x, _, rfl⟩ := Option.map_eq_some_iff.mp hc
    obtain ⟨y, _, rfl⟩ := Option.map_eq_some_iff.mp hd
    exact (dArc_fit [x, y]).can _ (by simp) _ (by simp)
  | j + 2, ha, hb => simp at ha
theorem lay_arcs : ∀ (r : List (Nat × Nat)), PyData.canLayAll0 (r.map dArc) = true
  | [] => by simp [PyData.canLayAll0]
  | a :: r => by
    rw [List.map_cons]
    unfold PyData.canLayAll0
    rw [lay_arcs r, (dArc_fit [a]).lay _ (by simp)]
    rfl
theorem depth_arcs : ∀ (r : List (Nat × Nat)), PyData.depthAll (r.map dArc) ≤ 4
  | [] => by simp [PyData.depthAll]
  | a :: r => by
    rw [List.map_cons]
    unfold PyData.depthAll
    have h1 : PyData.depth (dArc a) ≤ 4 := by simp only [dArc, PyData.depth, PyData.depthAll]; lia
    have := depth_arcs r
    lia
theorem lay_rowA (r : List (Nat × Nat)) : (dRowA r).canLay0 = true := by
  have := lay_arcs r
  simp [dRowA, PyData.canLay0, PyData.canLayAll0, this]
theorem depth_rowA (r : List (Nat × Nat)) : (dRowA r).depth ≤ 8 := by
  have := depth_arcs r
  simp only [dRowA, PyData.depth, PyData.depthAll]
  lia
noncomputable def StepsAt (H : Hp) (v : V) (l : List (Nat × Nat)) : Prop := ∃ q us, v = .ref q ∧ H q = some (.lst us) ∧ Paired (StepAt H) us l
theorem StepsAt.mono {H H' : Hp} (s : Same H H') {v : V} {l : List (Nat × Nat)} : StepsAt H v l → StepsAt H' v l
  | ⟨q, us, e, h, p⟩ => ⟨q, us, e, s _ _ h, L2.Paired.mapP p fun _ _ z => z.mono s⟩
noncomputable def addrOf : V → Addr
  | .ref q => q
  | _ => 0
noncomputable def itemsAt (H : Hp) (q : Addr) : List V := match H q with
  | some (.lst us) => us
  | _ => []
theorem rows_of {X : Cx} {H : Hp} {D : Addr} {acc : List V} {zs : List (List (Nat × Nat))} (hD : H D = some (.lst acc)) (pr : Paired (StepsAt H) acc zs) :
    Rws X H D zs.length (fun j => addrOf (acc.getD j .non)) (fun j => itemsAt H (addrOf (acc.getD j .non))) (fun j => (zs.getD j []).map dArc) keyOrd (fun j => keyR (zs.getD j [])) := by
  have hl : acc.length = zs.length := Paired.length pr
  have get : ∀ j, j < zs.length → ∃ q us, acc.getD j .non = .ref q ∧ H q = some (.lst us) ∧ Paired (StepAt H) us (zs.getD j []) := fun j hj => by
    have hv : acc[j]? = some (acc.getD j .non) := by rw [List.getD_eq_getElem?_getD, List.getElem?_eq_getElem (by lia)]; rfl
    obtain ⟨z, hz, q, us, e, h1, h2⟩ := zX pr hv
    exact ⟨q, us, e, h1, by rw [List.getD_eq_getElem?_getD, hz]; exact h2⟩
  have row : ∀ j, j < zs.length → ∃ us, H (addrOf (acc.getD j .non)) = some (.lst us) ∧ itemsAt H (addrOf (acc.getD j .non)) = us ∧ Paired (StepAt H) us (zs.getD j []) := fun j hj => by
    obtain ⟨q, us, e, h1, h2⟩ := get j hj
    rw [e]
    exact ⟨us, h1, by unfold itemsAt; show (match H q with | some (.lst us) => us | _ => []) = us; rw [h1], h2⟩
  have edat : ∀ j, j < zs.length → dat (fun j => itemsAt H (addrOf (acc.getD j .non))) (fun j => (zs.getD j []).map dArc) j = dRowA (zs.getD j []) := fun j hj => by
    obtain ⟨us, _, h1, h2⟩ := row j hj
    unfold dat dRowA
    dsimp only
    rw [h1, Paired.length h2]
  refine ⟨?_, fun j hj => ?_, fun j hj => ?_, fun j hj => ?_, fun j hj => ?_, fun i j hi hj => ?_, fun i j hi hj => ?_⟩
  · rw [hD]
    congr 2
    apply List.ext_getElem
    · simp [hl]
    · intro i h1 h2
      have hi : i < zs.length := by lia
      obtain ⟨q, us, e, _⟩ := get i hi
      have e2 : acc.getD i .non = acc[i] := by rw [List.getD_eq_getElem?_getD, List.getElem?_eq_getElem h1]; rfl
      simp only [List.getElem_map, List.getElem_range]
      rw [e, ← e2, e]
      rfl
  · obtain ⟨us, h1, h2, _⟩ := row j hj
    rw [h2]; exact h1
  · obtain ⟨us, h1, h2, h3⟩ := row j hj
    rw [h2]; exact dp_steps h3
  · rw [edat j hj]; exact lay_rowA _
  · rw [edat j hj]; exact depth_rowA _
  · rw [edat i hi, edat j hj]; exact can_rowA _ _
  · rw [edat i hi, edat j hj]; exact lt_rowA _ _
inductive IspFirst (vs : List V) (H : Hp) (Q : VK) : Prop
  | mk (la : Addr) (us : List V) (l : List (Nat × Nat)) (n s t : Nat) (_h1 : vs = [.ref la, .int (n : Nat), .int (s : Nat), .int (t : Nat)]) (_h2 : H la = some (.lst us)) (_h3 : Paired (StepAt H) us l) (_h4 : l.length ≤ 64) (_h5 : n ≤ 8) (_h6 : ∀ (H' : Hp) (q : Addr) (zs : List V) (R : List (Nat × Nat)), Same H H' → H' q = some (.lst zs) → Paired (StepAt H') zs R → R ∈ (yB s t n).map (leadOut l) → (∀ R' ∈ (yB s t n).map (leadOut l), lessR R' R = false) → Q (.ref q) H') : IspFirst vs H Q
noncomputable def spFirst : Sp := fun vs H Q _ => IspFirst vs H Q
theorem scFirst : zR ["arcs", "nodes", "s", "t", "side"] ["arcs", "nodes", "s", "t"] (zH sFirst) := ⟨rfl, rfl, rfl, by decide +kernel, rfl, by decide +kernel, by decide +kernel⟩
theorem bkFirst : BlkOk ["arcs", "nodes", "s", "t", "side"] (zH sFirst) (blk [(".0", .local), ("side", .local), ("leading_out", .globalImplicit), ("arcs", .free)]) [("side", 4)] := ⟨rfl, by decide +kernel, by decide +kernel, by decide +kernel, by decide +kernel⟩
section
variable {P : Program} {w : World} {K : PySem.W.Frag} {mg : Str → Option Value} {base : Heap} {f C fL fS fW fB fP : Addr} {fd fdL fdS fdW fdB fdP : FuncData}
theorem ok_first (F : Fun K "first_least_parting" "first_least_parting" sFirst f fd) (T : Txt K mg C) (G_sides : FnOk P w K mg base CX0 1 fS fdS ["nodes", "s", "t"] spSides) (b_sides : Binds K fdS ["nodes", "s", "t"] []) (m_sides : mg "sides_with" = some (.ref fS)) (k_sides : PySem.W.keepIn K (.ref fS) = true)
    (G_lead : FnOk P w K mg base CX0 1 fL fdL ["arcs", "side"] spLead) (b_lead : Binds K fdL ["arcs", "side"] []) (m_lead : mg "leading_out" = some (.ref fL)) (k_lead : PySem.W.keepIn K (.ref fL) = true)
    (G_few : FnOk P w K mg base CX0 1 fW fdW ["row"] spFew) (b_few : Binds K fdW ["row"] []) (m_few : mg "fewest_first" = some (.ref fW)) : FnOk P w K mg base CX0 3 f fd ["arcs", "nodes", "s", "t"] spFirst := by
  refine F.ok scFirst (fun vs H Q E h => ?_) (fun cdv A outer s H vs Q E hr h => ?_)
  · obtain ⟨la, us, l, n, s, t, rfl, _⟩ := h
    rfl
  · obtain ⟨la, us, l, n, s0, t, rfl, hla, pr, hl64, hn, k⟩ := h
    have nd := scFirst.nd
    have hr1 := hr.mono (show 1 ≤ 2 by decide)
    refine ⟨_, (zD (zL (pe_minK rfl G_few hr b_few (by rfl) T.min (by rfl) m_few (zA (pe_lc (own := [("side", 4)]) (g := gName 4) (tt := tYes) rfl nd (pi_list (pe_call G_sides hr1 (by rfl) m_sides k_sides b_sides .nil pass0 (zA (pv 1) (zA (pv 2) (zA (pv 3) zF))))) bkFirst
      (fun _ _ _ _ _ => yA (i := 4) nd rfl (Or.inl rfl)) (fun _ _ _ _ _ => pts_nil) (fun _ _ _ _ _ => pe_call G_lead hr1 (by rfl) m_lead k_lead b_lead .nil pass0 (zA (pv 0) (zA (pv 4) zF)))) zF)))), ?_⟩
    refine ⟨_, rfl, _, rfl, _, rfl, n, s0, t, rfl, hn, fun H1 ls vs s1 hls hvs prs => ?_⟩
    have hlen : vs.length = (yB s0 t n).length := Paired.length prs
    have hpow : 2 ^ n ≤ 2 ^ 8 := Nat.pow_le_pow_right (by decide) hn
    have hlen8 : vs.length ≤ 256 := by have := sides_length s0 t n; lia
    refine ⟨ls, rfl, ⟨vs, SqL.of hvs⟩, fun D hD => ?_⟩
    refine lc_build (K := K) (xs := vs) (H1 := H1) (fun j => (yB s0 t n)[j]?.map (leadOut l)) StepsAt (fun _ _ _ _ sm q => StepsAt.mono sm q) hD (SqL.of hvs) (Nat.lt_of_le_of_lt hlen8 (by decide)) (fun j x H3 acc Nx hx sm3 hacc keep add => ?_) fun H3 acc sm3 hacc pa => ?_
    · obtain ⟨side, hside, q, rfl, hq⟩ := zX prs hx
      have sm1 : Same H1 H3 := sm3.trans (wo_sub H3 D)
      have sm2 := s1.trans sm1
      refine ⟨rfl, ?_⟩
      unfold tYes
      dsimp only
      rw [if_pos (rfl : true = true)]
      refine ⟨_, rfl, _, rfl, la, q, us, l, side, rfl, sm2 _ _ hla, L2.Paired.mapP pr fun _ _ z => z.mono sm2, hl64, sm1 _ _ hq, fun H4 q4 zs s4 hq4 hz4 pz => ?_⟩
      have nD : q4 ≠ D := fun z => by rw [z, hacc] at hq4; cases hq4
      have hD4 := s4 _ _ hacc
      refine add _ (leadOut l side) H4 (wo_same s4) (hD4.trans hacc.symm) (by rw [hside]; rfl) ⟨q4, zs, rfl, by rw [wo_ne nD]; exact hz4, L2.Paired.mapP pz fun _ _ ⟨a, e, h⟩ => ⟨a, e, ?_⟩⟩
      rw [wo_ne (ne_of h hD4 (by intro z; cases z))]
      exact h
    · rw [hlen, fm_some] at pa
      have sm1 : Same H1 H3 := sm3.trans (wo_sub H3 D)
      have pa3 : Paired (StepsAt H3) acc ((yB s0 t n).map (leadOut l)) := L2.Paired.mapP pa fun _ _ z => z.mono (wo_sub H3 D)
      refine ⟨D, _, _, _, _, keyOrd, _, rfl, rows_of hacc pa3, ?_, fun i H' hi hmin s' => ?_⟩
      · rw [List.length_map]
        exact List.length_pos_iff.mpr (sides_ne s0 t n)
      · generalize hZ : (yB s0 t n).map (leadOut l) = Z at *
        have hv : acc[i]? = some (acc.getD i .non) := by rw [List.getD_eq_getElem?_getD, List.getElem?_eq_getElem (by rw [Paired.length pa3]; exact hi)]; rfl
        obtain ⟨z, hz, q, us', e, h1, h2⟩ := zX pa3 hv
        have ez : Z.getD i [] = z := by rw [List.getD_eq_getElem?_getD, hz]; rfl
        rw [e]
        refine k H' q us' z (s1.trans (sm1.trans s')) (s' _ _ h1) (L2.Paired.mapP h2 fun _ _ y => y.mono s') (List.mem_of_getElem? hz) fun R' hR => ?_
        obtain ⟨j, hj, ej⟩ := List.mem_iff_getElem.mp hR
        have := hmin j hj
        rw [lt_key, ez] at this
        have ej2 : Z.getD j [] = R' := by rw [List.getD_eq_getElem?_getD, List.getElem?_eq_getElem hj, ej]; rfl
        rwa [ej2] at this
noncomputable abbrev sPart : Stmt := yH sNet 21
inductive IspPart (C : Addr) (vs : List V) (H : Hp) (Q : VK) : Prop
  | mk (p dx lc da : Addr) (st : State) (a b : Nat) (_h1 : vs = [.ref p, .int (a : Int), .int (b : Int)]) (_h2 : NetAt C H p dx lc da st) (_h3 : AskL H Q (full (WaySpec.ask st.net (.apart a b)))) : IspPart C vs H Q
noncomputable def spPart (C : Addr) : Sp := fun vs H Q _ => IspPart C vs H Q
theorem scPart : zR ["self", "s", "t", "passable", "row", "told", "a", "b"] ["self", "s", "t"] (zH sPart) := ⟨rfl, rfl, rfl, by decide +kernel, rfl, by decide +kernel, by decide +kernel⟩
theorem bkPart : BlkOk ["self", "s", "t", "passable", "row", "told", "a", "b"] (zH sPart) (blk [(".0", .local), ("a", .local), ("b", .local), ("self", .free)]) [("a", 6), ("b", 7)] := ⟨rfl, by decide +kernel, by decide +kernel, by decide +kernel, by decide +kernel⟩
theorem live_fm (g : Net) : g.live = (arcPairs g).filterMap fun e => if (g.isOpen e.1 && g.isOpen e.2) = true then some e else none := by
  unfold Net.live arcPairs
  rw [List.filterMap_map]
  generalize g.arcs = l
  induction l with
  | nil => rfl
  | cons x l ih =>
    rw [List.filter_cons, List.filterMap_cons]
    dsimp only [Function.comp]
    cases h : g.isOpen x.a && g.isOpen x.b with
    | true => rw [if_pos rfl, if_pos rfl, List.map_cons, ih]
    | false => rw [if_neg (by decide), if_neg (by decide), ih]
theorem live_len {g : Net} (w : WF g) : g.live.length ≤ 64 := by
  unfold Net.live
  rw [List.length_map]
  exact Nat.le_trans (List.length_filter_le _ _) (arcs64 w)
noncomputable def flat2 (R : List (Nat × Nat)) : List Nat := R.flatMap fun x => [x.1, x.2]
theorem flat2_len (R : List (Nat × Nat)) : (flat2 R).length = 2 * R.length := by
  unfold flat2
  induction R with
  | nil => rfl
  | cons a l ih => rw [List.flatMap_cons, List.length_append, ih, List.length_cons]; simp; lia
inductive J14 (p D rq tl : Addr) (a b : Nat) (H4 : Hp) (R : List (Nat × Nat)) (i : Nat) (σ : L2.St) (H5 : Hp) : Prop
  | mk (x6 x7 : Option V) (_h1 : σ = [some (.ref p), some (.int (a : Nat)), some (.int (b : Nat)), some (.ref D), some (.ref rq), some (.ref tl), x6, x7]) (_h2 : (∀ b o, H4 b = some o → b ≠ tl → H5 b = some o)) (_h3 : H5 tl = some (.lst (rowV (R.length :: flat2 (R.take i))))) : J14 p D rq tl a b H4 R i σ H5
theorem ok_part (F : Fun K "parting" "Net.parting" sPart f fd) (T : Txt K mg C) (G_both : FnOk P w K mg base CX0 2 fB fdB ["self", "a", "b"] (spBoth C)) (b_both : Binds K fdB ["self", "a", "b"] []) (mt_both : Meth K C "has_both" fB)
    (G_first : FnOk P w K mg base CX0 3 fP fdP ["arcs", "nodes", "s", "t"] spFirst) (b_first : Binds K fdP ["arcs", "nodes", "s", "t"] []) (m_first : mg "first_least_parting" = some (.ref fP)) (k_first : PySem.W.keepIn K (.ref fP) = true) : FnOk P w K mg base CX0 4 f fd ["self", "s", "t"] (spPart C) := by
  refine F.ok scPart (fun vs H Q E h => ?_) (fun cdv A outer s H vs Q E hr h => ?_)
  · obtain ⟨p, dx, lc, da, st, a, b, rfl, _⟩ := h
    rfl
  · obtain ⟨p, dx, lc, da, st, a, b, rfl, hN, k⟩ := h
    have nd := scPart.nd
    have hr2 := hr.mono (show 2 ≤ 3 by decide)
    refine let T6 : TS := _; let T5 : TS := _; let T4 : TS := _; let T3 : TS := _; let T2 : TS := _; let T1 : TS := _; ⟨_, (zC (ps_if (pw_or (pt_not (pt_val (zW (pv 0) T.cl mt_both G_both hr2 b_both .nil pass0 (zA (pv 1) (zA (pv 2) zF))))) (pw_or1 (zQ op_eq (pv 1) (pv 2) (yC _)))).pt (sh T1 (zD (zL (pe_lst (zA (pe_gi (by rfl) T.g_NOT_THERE) zF))))) zM)
      (sh T2 (zC (ps_setLc (i := 3) (own := [("a", 6), ("b", 7)]) (g := gTup K 2 (gCons (gName 6) (gCons (gName 7) gNil))) (tt := tAnd (tNot (tB (tOp (rIxL K) (tFld K (tVar 0) "closed") (tVar 6)))) (tNot (tB (tOp (rIxL K) (tFld K (tVar 0) "closed") (tVar 7))))) rfl nd rfl rfl (sw_true rfl rfl rfl rfl) (pi_list (yG (cr_sortT rfl hr.units) (by rfl) T.sorted PyProof.Rows.boot_sorted (zA (yF (pv 0) rfl) zF))) bkPart
        (fun _ _ _ _ _ => pg_tup (n := 2) rfl (yE (yA (i := 6) nd rfl (Or.inl rfl)) (yE (yA (i := 7) nd rfl (Or.inl rfl)) pgs_nil)))
        (fun _ _ _ _ _ => pts_one (pw_and (pt_not (pt_val (pe_ix zP (yF (pv 0) rfl) (pv 6) (fun _ _ => rfl)))) (pw_and1 (pt_not (pt_val (pe_ix zP (yF (pv 0) rfl) (pv 7) (fun _ _ => rfl)))))).pt)
        (fun _ _ _ _ _ => pe_tup (zA (pv 6) (zA (pv 7) zF))))
      (sh T3 (zC (ps_set (i := 4) nd rfl (Or.inl rfl) (pe_call G_first hr (by rfl) m_first k_first b_first .nil pass0 (zA (pv 3) (zA (yG zS (by rfl) T.len PySem.boot_len (zA (yF (pv 0) rfl) zF)) (zA (pv 1) (zA (pv 2) zF))))))
      (sh T4 (zC (ps_set (i := 5) nd rfl (Or.inl rfl) (pe_lst (zA (yG zS (by rfl) T.len PySem.boot_len (zA (pv 4) zF)) zF)))
      (sh T5 (zC (ps_for PassesOwn.never rfl (pi_list (pv 4)) (pg_tup (n := 2) rfl (yE (yA (i := 6) nd rfl (Or.inl rfl)) (yE (yA (i := 7) nd rfl (Or.inl rfl)) pgs_nil))) (sh T6 (zD (ps_expr (pe_bm PySem.F.plainAttrs_list PySem.F.slot_list_extend PySem.F.type_list_extend mt_extend (pv 5) (zA (pe_lst (zA (pv 6) (zA (pv 7) zF))) zF))))))
      (zD (zL (pv 5)))))))))))), ?_⟩
    obtain ⟨sv, tv, hp, hse⟩ := hN.ob
    obtain ⟨kva, hda, ak⟩ := hN.ar
    have hcl := hN.cl
    have wf := hN.wf
    refine ⟨_, rfl, p, dx, _, rfl, hp, rfl, _, rfl, _, rfl, p, dx, lc, da, st, a, b, rfl, hN, _, rfl, ?_⟩
    have refused : WaySpec.ask st.net (.apart a b) = says (-1) → ∀ l0, H l0 = none → Q (.ref l0) (upd H l0 (.lst [.int (-1)])) := fun e l0 e0 => by
      rw [e] at k
      exact k _ l0 (Same.upd e0) e0 zB
    refine zU (fun h1 => iteT ⟨zJ (by show 1 ≤ 100000; decide), fun l0 e0 => refused (if_neg (by rw [h1]; decide)) l0 e0⟩) fun h1 => ?_
    refine ⟨_, rfl, _, rfl, rfl, _, rfl, ?_⟩
    refine zK (fun h2 => ⟨zJ (by show 1 ≤ 100000; decide), fun l0 e0 => refused ?_ l0 e0⟩) fun h2 => ?_
    · have : a = b := by have := of_decide_eq_true h2; injection this; lia
      exact (if_pos h1).trans (if_pos this)
    have hab : a ≠ b := fun z => of_decide_eq_false h2 (by rw [z])
    rw [there2] at h1
    simp only [Bool.and_eq_true, decide_eq_true_eq] at h1
    refine ⟨_, rfl, p, C, dx, _, _, rfl, hp, T.cl, T.nArcs, nf_arcs _ _ _ _, ?_⟩
    unfold tNil
    dsimp (config := { proj := false }) only
    refine sort_arcs wf hda ak fun q us hq pr => ?_
    have s1 : Same H (upd H q (.lst us)) := Same.upd hq
    generalize hH1 : upd H q (.lst us) = H1 at s1
    have hq1 : H1 q = some (.lst us) := by rw [← hH1, zB]
    have pr1 : Paired (StepAt H1) us (arcPairs st.net) := L2.Paired.mapP pr fun _ _ z => z.mono s1
    have hul : us.length = (arcPairs st.net).length := Paired.length pr
    have hul64 : us.length ≤ 64 := by rw [hul]; unfold arcPairs; rw [List.length_map]; exact arcs64 wf
    refine ⟨q, rfl, ⟨us, SqL.of hq1⟩, fun D hD => ?_⟩
    refine lc_build (K := K) (xs := us) (H1 := H1) (fun j => (arcPairs st.net)[j]?.bind fun e => if (st.net.isOpen e.1 && st.net.isOpen e.2) = true then some e else none) StepAt (fun _ _ _ _ sm q => StepAt.mono sm q) hD (SqL.of hq1) (Nat.lt_of_le_of_lt hul64 (by decide)) (fun j x H3 acc Nx hx sm3 hacc keep add => ?_) fun H3 acc sm3 hacc pa => ?_
    · obtain ⟨e, he, tq, rfl, htq⟩ := zX pr1 hx
      have sm1 : Same H1 H3 := sm3.trans (wo_sub H3 D)
      have sm2 := s1.trans sm1
      have hmem := List.mem_of_getElem? he
      have he8 : e.1 < st.net.n ∧ e.2 < st.net.n := by
        obtain ⟨x, hx, rfl⟩ := List.mem_map.mp hmem
        have := wf.arcs x hx
        exact ⟨this.1, this.2.1⟩
      refine ⟨tq, _, rfl, SqT.of (sm1 _ _ htq), rfl, _, _, rfl, _, _, rfl, rfl, rfl, ?_⟩
      refine ⟨_, rfl, p, C, dx, _, _, rfl, sm2 _ _ hp, T.cl, T.nClosed, nf_closed _ _ _ _, _, rfl, lc, _, _, _, rfl, rfl, SqL.of (sm2 _ _ hcl), closed_at wf he8.1, _, rfl, ?_⟩
      show if (!(!st.net.isOpen e.1)) = true then _ else _
      rw [Bool.not_not]
      refine zK (fun h3 => ?_) fun h3 => ?_
      · refine ⟨_, rfl, p, C, dx, _, _, rfl, sm2 _ _ hp, T.cl, T.nClosed, nf_closed _ _ _ _, _, rfl, lc, _, _, _, rfl, rfl, SqL.of (sm2 _ _ hcl), closed_at wf he8.2, _, rfl, ?_⟩
        show if (!(!st.net.isOpen e.2)) = true then _ else _
        rw [Bool.not_not]
        refine zK (fun h4 => ?_) fun h4 => ?_
        · refine ⟨_, rfl, _, rfl, zJ (by show 2 ≤ 100000; decide), fun t0 et0 => ?_⟩
          have sa : Same H3 (upd H3 t0 (.tup [.int (e.1 : Nat), .int (e.2 : Nat)])) := Same.upd et0
          have nD : t0 ≠ D := fun z => by rw [z, hacc] at et0; cases et0
          exact add _ e _ (wo_same sa) ((sa _ _ hacc).trans hacc.symm) (by rw [he]; show (if (st.net.isOpen e.1 && st.net.isOpen e.2) = true then some e else none) = some e; rw [h3, h4]; rfl) ⟨t0, rfl, by rw [wo_ne nD, zB]⟩
        · exact keep H3 (Same.refl _) rfl (by rw [he]; show (if (st.net.isOpen e.1 && st.net.isOpen e.2) = true then some e else none) = none; rw [h3, h4]; rfl)
      · exact keep H3 (Same.refl _) rfl (by rw [he]; show (if (st.net.isOpen e.1 && st.net.isOpen e.2) = true then some e else none) = none; rw [h3]; rfl)
    rw [hul, fm_get, ← live_fm] at pa
    have s3 : Same H H3 := s1.trans (sm3.trans (wo_sub H3 D))
    have pa3 : Paired (StepAt H3) acc st.net.live := L2.Paired.mapP pa fun _ _ z => z.mono (wo_sub H3 D)
    have en : (st.net.opened.map fun b => V.bl (!b)).length = st.net.n := by rw [List.length_map, wf.op]
    refine ⟨_, rfl, _, rfl, p, C, dx, _, _, rfl, s3 _ _ hp, T.cl, T.nClosed, nf_closed _ _ _ _, lc, _, rfl, .inl (SqL.of (s3 _ _ hcl)), _, rfl, _, rfl, D, acc, st.net.live, st.net.n, a, b, (by rw [en]; rfl), hacc, pa3, live_len wf, wf.n8, fun H4 rq zs R s4 hrq pz hR hmin => ?_⟩
    have hask := apart_least wf h1.1 h1.2 hab hR hmin
    have hzl : zs.length = R.length := Paired.length pz
    have hRl : R.length ≤ 64 := by
      obtain ⟨side, _, rfl⟩ := List.mem_map.mp hR
      unfold leadOut
      exact Nat.le_trans (List.length_filter_le _ _) (live_len wf)
    refine ⟨_, rfl, rq, _, rfl, .inl (SqL.of hrq), zJ (by show 1 ≤ 100000; decide), fun tl etl => ?_⟩
    have s5 : Same H4 (upd H4 tl (.lst [.int (zs.length : Nat)])) := Same.upd etl
    have s34 := s3.trans s4
    have htl0 : H tl = none := s34.free etl
    have nrq : rq ≠ tl := zG hrq etl
    refine ⟨_, rfl, rq, rfl, ⟨_, SqL.of (s5 _ _ hrq)⟩, ?_⟩
    let Pv1 : Nat → L2.St → Hp → Prop := J14 p D rq tl a b H4 R
    refine for_list (K := K) (xs := zs) Pv1
      ⟨none, none, rfl, fun b o e _ => s5 _ _ e, by rw [zB, hzl]; rfl⟩ (fun i σ H5 _ q => ?_) (fun i x σ H5 hx hq => ?_) fun σ H5 hq => ?_
    · obtain ⟨_, _, _, q, _⟩ := q
      exact SqL.of (q _ _ hrq nrq)
    · obtain ⟨x6, x7, rfl, q5, ht5⟩ := hq
      obtain ⟨e, he, tq, rfl, htq⟩ := zX pz hx
      have ntq : tq ≠ tl := zG htq etl
      refine ⟨tq, _, rfl, SqT.of (q5 _ _ htq ntq), rfl, _, _, rfl, _, _, rfl, rfl, ?_⟩
      refine ⟨_, rfl, .inl ⟨rfl, _, SqL.of ht5⟩, ?_⟩
      refine ⟨_, rfl, _, rfl, zJ (by show 2 ≤ 100000; decide), fun l1 el1 => ?_⟩
      have st2 : Same H5 (upd H5 l1 (.lst [.int (e.1 : Nat), .int (e.2 : Nat)])) := Same.upd el1
      refine ⟨tl, l1, _, _, rfl, rfl, st2 _ _ ht5, zB, zJ ?_, ?_⟩
      · rw [rowV_len, List.length_cons, flat2_len, List.length_take]
        show _ + 2 ≤ 100000
        lia
      refine ⟨_, _, rfl, fun b o e hb => ?_, ?_⟩
      · rw [zE hb]; exact st2 _ _ (q5 _ _ e hb)
      · rw [zB, List.take_add_one, he]
        unfold flat2
        rw [List.flatMap_append]
        simp [rowV]
    · obtain ⟨x6, x7, rfl, q5, ht5⟩ := hq
      rw [hzl, List.take_length] at ht5
      refine ⟨_, rfl, ?_⟩
      rw [hask] at k
      refine k H5 tl (fun b o e => q5 _ _ (s34 _ _ e) (zG e htl0)) htl0 ?_
      rw [ht5, rowV_ints]
      rfl
end
noncomputable abbrev sOver : Stmt := yH sNet 20
noncomputable def enc : List Nat → Nat
  | [] => 0
  | v :: l => v + 1 + 9 * enc l
theorem enc_lt : ∀ (k : Nat) (l : List Nat), l.length ≤ k → (∀ v ∈ l, v < 8) → enc l < 9 ^ k
  | k, [], _, _ => Nat.pow_pos (by decide)
  | 0, v :: l, h, _ => by simp at h
  | k + 1, v :: l, h, hv => by
    have ih := enc_lt k l (by simp at h; lia) fun u hu => hv u (List.mem_cons_of_mem _ hu)
    have := hv v List.mem_cons_self
    unfold enc
    rw [Nat.pow_succ]
    lia
theorem enc_inj : ∀ (l r : List Nat), (∀ v ∈ l, v < 8) → (∀ v ∈ r, v < 8) → enc l = enc r → l = r
  | [], [], _, _, _ => rfl
  | [], v :: r, _, _, h => by unfold enc at h; lia
  | v :: l, [], _, _, h => by unfold enc at h; lia
  | v :: l, u :: r, hl, hr, h => by
    unfold enc at h
    have h1 := hl v List.mem_cons_self
    have h2 := hr u List.mem_cons_self
    have e1 : v = u := by lia
    have e2 : enc l = enc r := by lia
    rw [e1, enc_inj l r (fun x hx => hl x (List.mem_cons_of_mem _ hx)) (fun x hx => hr x (List.mem_cons_of_mem _ hx)) e2]
theorem ways_few {g : Net} (w : WF g) (s t : Nat) : (g.ways s t).length ≤ 9 ^ 7 := by
  have lt8 : ∀ r ∈ g.ways s t, ∀ v ∈ r, v < 8 := fun r hr v hv => by
    have := ((mem_ways w).mp hr).lt_n w v hv
    have := w.n8
    lia
  have hd : ∀ r ∈ g.ways s t, r = s :: r.tail := fun r hr => by
    have p := ((mem_ways w).mp hr).ft.1
    cases r with
    | nil => cases p
    | cons a l => injection p with p; rw [p]; rfl
  have := nodup_le (9 ^ 7) ((g.ways s t).map fun r => enc r.tail) (by
    unfold List.Nodup
    rw [List.pairwise_map]
    refine List.Pairwise.imp_of_mem (fun {x y} hx hy hne z => hne ?_) (ways_nodup w)
    rw [hd x hx, hd y hy]
    congr 1
    exact enc_inj _ _ (fun v hv => lt8 x hx v (List.mem_of_mem_tail hv)) (fun v hv => lt8 y hy v (List.mem_of_mem_tail hv)) z) (by
    intro k hk
    obtain ⟨r, hr, rfl⟩ := List.mem_map.mp hk
    have := ways_short w hr
    exact enc_lt 7 _ (by rw [List.length_tail]; lia) fun v hv => lt8 r hr v (List.mem_of_mem_tail hv))
  rwa [List.length_map] at this
theorem zip_steps : ∀ (r : List Nat), (rowV r).zip (rowV r.tail) = (steps r).map fun e => (V.int (e.1 : Nat), V.int (e.2 : Nat))
  | [] => rfl
  | [a] => rfl
  | a :: b :: l => by
    have ih := zip_steps (b :: l)
    unfold steps
    rw [List.map_cons, ← ih]
    rfl
theorem cut1 (r : List Nat) : cutV (rowV r) (some 1) none = rowV r.tail := by
  unfold cutV
  cases r with
  | nil => rfl
  | cons a l =>
    simp [HT.sIx, rowV]
    exact List.take_of_length_le (by simp)
theorem pairT_step {H : Hp} : ∀ {acc : List V} {es : List (Nat × Nat)}, Paired (PairT H) acc (es.map fun e => (V.int (e.1 : Nat), V.int (e.2 : Nat))) → Paired (StepAt H) acc es
  | _, [], .nil => .nil
  | _, e :: es, .cons ⟨q, h1, h2⟩ t => .cons ⟨q, h1, h2⟩ (pairT_step t)
theorem shal_arc (e : Nat × Nat) : Shal (dArc e) := ⟨(dArc_fit [e]).lay _ (by simp), (dArc_fit [e]).dep _ (by simp)⟩
theorem any_arc (es : List (Nat × Nat)) (e : Nat × Nat) : ((es.map dArc).any fun d => PyData.eqv d (dArc e)) = es.contains e := by
  rw [List.any_map, Bool.eq_iff_iff, List.any_eq_true, List.contains_iff_exists_mem_beq]
  constructor
  · rintro ⟨x, hx, h⟩
    have h : PyData.eqv (dArc x) (dArc e) = true := h
    rw [eqv_arc] at h
    exact ⟨x, hx, by rw [of_decide_eq_true h]; simp⟩
  · rintro ⟨x, hx, h⟩
    refine ⟨x, hx, ?_⟩
    show PyData.eqv (dArc x) (dArc e) = true
    rw [eqv_arc]
    exact decide_eq_true (by simpa using h : e = x).symm
inductive IspOver (C : Addr) (vs : List V) (H : Hp) (Q : VK) : Prop
  | mk (p dx lc da : Addr) (st : State) (s t a b : Nat) (_h1 : vs = [.ref p, .int (s : Int), .int (t : Int), .int (a : Int), .int (b : Int)]) (_h2 : NetAt C H p dx lc da st) (_h3 : Ask H Q (WaySpec.ask st.net (.over s t a b)).ret) : IspOver C vs H Q
noncomputable def spOver (C : Addr) : Sp := fun vs H Q _ => IspOver C vs H Q
theorem scOver : zR ["self", "s", "t", "a", "b", "rows", "length", "row"] ["self", "s", "t", "a", "b"] (zH sOver) := ⟨rfl, rfl, rfl, by decide +kernel, rfl, by decide +kernel, by decide +kernel⟩
theorem bkOver1 : BlkOk ["self", "s", "t", "a", "b", "rows", "length", "row"] (zH sOver) (blk [(".0", .local), ("length", .local), ("row", .local)]) [("length", 6), ("row", 7)] := ⟨rfl, by decide +kernel, by decide +kernel, by decide +kernel, by decide +kernel⟩
theorem bkOver2 : BlkOk ["self", "s", "t", "a", "b", "rows", "length", "row"] (zH sOver) (blk [(".0", .local), ("row", .local), ("list", .globalImplicit), ("zip", .globalImplicit), ("a", .free), ("b", .free)]) [("row", 7)] := ⟨rfl, by decide +kernel, by decide +kernel, by decide +kernel, by decide +kernel⟩
section
variable {P : Program} {w : World} {K : PySem.W.Frag} {mg : Str → Option Value} {base : Heap} {f C fB fA fO : Addr} {fd fdB fdA fdO : FuncData}
theorem ok_over (F : Fun K "count_over" "Net.count_over" sOver f fd) (T : Txt K mg C) (G_both : FnOk P w K mg base CX0 2 fB fdB ["self", "a", "b"] (spBoth C)) (b_both : Binds K fdB ["self", "a", "b"] []) (mt_both : Meth K C "has_both" fB)
    (G_all : FnOk P w K mg base CX0 2 fA fdA ["onward", "s", "t"] spAll) (b_all : Binds K fdA ["onward", "s", "t"] []) (m_all : mg "all_ways" = some (.ref fA)) (k_all : PySem.W.keepIn K (.ref fA) = true)
    (G_onw : FnOk P w K mg base CX0 1 fO fdO ["self"] (spOnw C)) (b_onw : Binds K fdO ["self"] []) (mt_onw : Meth K C "arcs_onward" fO) : FnOk P w K mg base CX0 3 f fd ["self", "s", "t", "a", "b"] (spOver C) := by
  refine F.ok scOver (fun vs H Q E h => ?_) (fun cdv A outer s H vs Q E hr h => ?_)
  · obtain ⟨p, dx, lc, da, st, s, t, a, b, rfl, _⟩ := h
    rfl
  · obtain ⟨p, dx, lc, da, st, s0, t, a, b, rfl, hN, k⟩ := h
    have nd := scOver.nd
    have hu := hu_of hr
    have hu64 := hr.units
    have hr1 := hr.mono (show 1 ≤ 2 by decide)
    refine let T3 : TS := _; let T2 : TS := _; let T1 : TS := _; ⟨_, (zC (ps_if (pw_or (pt_not (pt_val (zW (pv 0) T.cl mt_both G_both hr b_both .nil pass0 (zA (pv 1) (zA (pv 2) zF))))) (pw_or1 (pt_not (pt_val (zW (pv 0) T.cl mt_both G_both hr b_both .nil pass0 (zA (pv 3) (zA (pv 4) zF))))))).pt (zD (zL (pe_gi (by rfl) T.g_NOT_THERE))) zM)
      (sh T1 (zC (ps_if (pt_cmp (pc_dnotin hu (pe_tup (zA (pv 3) (zA (pv 4) zF))) (yF (pv 0) rfl))) (zD (zL (pe_gi (by rfl) T.g_NONE_SUCH))) zM)
      (sh T2 (zC (ps_setLc (i := 5) (own := [("length", 6), ("row", 7)]) (g := gTup K 2 (gCons (gName 6) (gCons (gName 7) gNil))) (tt := tYes) rfl nd rfl rfl (sw_true rfl rfl rfl rfl) (pi_list (pe_call G_all hr (by rfl) m_all k_all b_all .nil pass0 (zA (pe_meth0 (pv 0) T.cl mt_onw G_onw hr1 b_onw .nil pass0) (zA (pv 1) (zA (pv 2) zF))))) bkOver1
        (fun _ _ _ _ _ => pg_tup (n := 2) rfl (yE (yA (i := 6) nd rfl (Or.inl rfl)) (yE (yA (i := 7) nd rfl (Or.inl rfl)) pgs_nil)))
        (fun _ _ _ _ _ => pts_nil) (fun _ _ _ _ _ => pv 7))
      (sh T3 (zD (zL (yG zS (by rfl) T.len PySem.boot_len (zA (pe_lc (own := [("row", 7)]) (g := gName 7) (tt := tTest (tOp (rInD K) (tTup (tCons (tVar 3) (tCons (tVar 4) tNil))) (tLZ (tCons (tVar 7) (tCons (tSl (rSlL K) (tVar 7) (tPart (tC (.int 1))) tNoPart) tNil))))) rfl nd (pi_list (pv 5)) bkOver2
        (fun _ _ _ _ _ => yA (i := 7) nd rfl (Or.inl rfl))
        (fun _ _ _ _ _ => pts_one (zQ (op_inD hu64) (pe_tup (zA (pv 3) (zA (pv 4) zF))) (pe_listZip rfl (by rfl) T.list (by rfl) T.zip (zA (pv 7) (zA (pe_slice sl_list (pv 7) (po_some zN) po_none) zF))) (by rfl)))
        (fun _ _ _ _ _ => pv 7)) zF)))))))))), ?_⟩
    obtain ⟨sv, tv, hp, hse⟩ := hN.ob
    obtain ⟨kva, hda, ak⟩ := hN.ar
    have wf := hN.wf
    have eth : there st.net [s0, t, a, b] = (there st.net [s0, t] && there st.net [a, b]) := by simp [there, Bool.and_assoc]
    have refused : there st.net [s0, t, a, b] = false → Q (.int (-1)) H := fun h => by
      have e : WaySpec.ask st.net (.over s0 t a b) = says (-1) := if_neg (by rw [h]; decide)
      rw [e] at k
      exact k H (Same.refl H)
    refine ⟨_, rfl, p, dx, _, rfl, hp, rfl, _, rfl, _, rfl, p, dx, lc, da, st, s0, t, rfl, hN, _, rfl, ?_⟩
    refine zU (fun h1 => iteT (refused (by rw [eth, h1]; rfl))) fun h1 => ?_
    refine ⟨_, rfl, p, dx, _, rfl, hp, rfl, _, rfl, _, rfl, p, dx, lc, da, st, a, b, rfl, hN, _, rfl, ?_⟩
    refine zU (fun h2 => refused (by rw [eth, h1, h2]; rfl)) fun h2 => ?_
    have e : WaySpec.ask st.net (.over s0 t a b) = (match st.net.arc a b with
      | some _ => tell ((st.net.ways s0 t).filter fun (l : List Nat) => (steps l).contains (a, b)).length
      | none => says (-2)) := if_pos (by rw [eth, h1, h2]; rfl)
    rw [e] at k
    have hv := ak.val a b
    refine ⟨_, rfl, _, rfl, zJ (by show 2 ≤ 100000; decide), fun t0 et0 => ?_⟩
    have s00 : Same H (upd H t0 (.tup [.int (a : Nat), .int (b : Nat)])) := Same.upd et0
    refine ⟨_, rfl, p, C, dx, _, _, rfl, s00 _ _ hp, T.cl, T.nArcs, nf_arcs _ _ _ _, da, _, rfl, DGet.t (k := bk a b) (s00 _ _ hda) zB, _, rfl, ?_⟩
    rw [hv]
    cases har : st.net.arc a b with
    | none =>
      rw [har] at k
      exact k _ s00
    | some x =>
      rw [har] at k
      generalize hH0 : upd H t0 (.tup [.int (a : Nat), .int (b : Nat)]) = H0 at s00
      refine iteF ?_
      refine ⟨_, rfl, p, dx, _, rfl, s00 _ _ hp, rfl, p, dx, lc, da, st, rfl, hN.mono s00, fun H1 d ons s1 hd hO ho => ?_⟩
      refine ⟨_, rfl, _, rfl, d, st.net, ons, s0, t, rfl, hO, ho, hN.wf, fun H2 l us ps s2 hl hus pr aw => ?_⟩
      have hlen : us.length = (st.net.ways s0 t).length := by rw [Paired.length pr, ← (aw.perm_ways hN.wf).length_eq, List.length_map]
      have hfew := ways_few wf s0 t
      have hus9 : us.length ≤ 9 ^ 7 := by lia
      have hpl : us.length = ps.length := Paired.length pr
      refine ⟨l, rfl, ⟨us, SqL.of hus⟩, fun D hD => ?_⟩
      refine lc_build (K := K) (xs := us) (H1 := H2) (fun j => ps[j]?.map (·.2)) RowAt (fun _ _ _ _ sm q => RowAt.mono sm q) hD (SqL.of hus) (Nat.lt_of_le_of_lt hus9 (by decide)) (fun j x H3 acc Nx hx sm3 hacc keep add => ?_) fun H3 acc sm3 hacc pa => ?_
      · obtain ⟨e, he, q, ra, rfl, hq, hra⟩ := zX pr hx
        have sm1 : Same H2 H3 := sm3.trans (wo_sub H3 D)
        refine ⟨q, _, rfl, SqT.of (sm1 _ _ hq), rfl, _, _, rfl, _, _, rfl, rfl, rfl, ?_⟩
        unfold tYes
        dsimp only
        rw [if_pos (rfl : true = true)]
        have nD : ra ≠ D := zG hra hD
        exact ⟨_, rfl, add _ e.2 H3 (Same.refl _) rfl (by rw [he]; rfl) ⟨ra, rfl, by rw [wo_ne nD]; exact sm1 _ _ hra⟩⟩
      rw [hpl, fm_some] at pa
      have sm13 : Same H2 H3 := sm3.trans (wo_sub H3 D)
      have pa3 : Paired (RowAt H3) acc (ps.map (·.2)) := L2.Paired.mapP pa fun _ _ z => z.mono (wo_sub H3 D)
      have hal : acc.length = (ps.map (·.2)).length := Paired.length pa3
      have hal9 : acc.length ≤ 9 ^ 7 := by rw [hal, List.length_map, ← hpl]; exact hus9
      have s3 : Same H H3 := s00.trans (s1.trans (s2.trans sm13))
      refine ⟨_, rfl, D, rfl, ⟨acc, SqL.of hacc⟩, fun D2 hD2 => ?_⟩
      refine lc_build (K := K) (xs := acc) (H1 := H3) (fun j => (ps.map (·.2))[j]?.bind fun r => if (steps r).contains (a, b) = true then some r else none) RowAt (fun _ _ _ _ sm q => RowAt.mono sm q) hD2 (SqL.of hacc) (Nat.lt_of_le_of_lt hal9 (by decide)) (fun j x H4 acc2 Nx hx sm4 hacc2 keep add => ?_) fun H4 acc2 sm4 hacc2 pa2 => ?_
      · obtain ⟨r, hr', ra, rfl, hra⟩ := zX pa3 hx
        have hrm := List.mem_of_getElem? hr'
        have hshort : r.length ≤ 8 := ways_short wf ((mem_ways wf).mpr ((aw.rows_mem r).mp hrm))
        have sm1 : Same H3 H4 := sm4.trans (wo_sub H4 D2)
        refine ⟨rfl, ?_⟩
        refine ⟨_, rfl, _, rfl, zJ (by show 2 ≤ 100000; decide), fun t1 et1 => ?_⟩
        have sa : Same H4 (upd H4 t1 (.tup [.int (a : Nat), .int (b : Nat)])) := Same.upd et1
        refine ⟨_, rfl, _, rfl, _, rfl, ra, _, rfl, SqL.of (sa _ _ (sm1 _ _ hra)), fun l1 e1 => ?_⟩
        rw [cut1]
        have sb := sa.trans (Same.upd (o := .lst (rowV r.tail)) e1)
        refine ⟨ra, l1, rowV r, rowV r.tail, rfl, sb _ _ (sm1 _ _ hra), zB, (by rw [rowV_len]; exact Nat.lt_of_le_of_lt hshort (by decide)), fun H5 lz az s5 hlz hz5 pz => ?_⟩
        rw [zip_steps] at pz
        have pz2 := pairT_step pz
        have sc := sb.trans s5
        refine ⟨lz, az, (steps r).map dArc, dArc (a, b), rfl, SqL.of hz5, dp_steps pz2, fun d hd => ?_, ?_, shal_arc _, _, rfl, ?_⟩
        · obtain ⟨e, _, rfl⟩ := List.mem_map.mp hd
          exact shal_arc e
        · have ht1 : H5 t1 = some (.tup [.int (a : Nat), .int (b : Nat)]) := s5 _ _ (Same.upd e1 _ _ zB)
          exact .tup (SqT.of ht1) (.cons (.int _) (.cons (.int _) .nil))
        · rw [any_arc]
          have hD5 := sc _ _ hacc2
          have ezi : ((ps.map (·.2))[j]?.bind fun r => if (steps r).contains (a, b) = true then some r else none) = if (steps r).contains (a, b) = true then some r else none := by rw [hr']; rfl
          have nra : ra ≠ D2 := zG hra hD2
          refine zK (fun hc => ?_) fun hc => ?_
          · exact ⟨_, rfl, add _ r H5 (wo_same sc) (hD5.trans hacc2.symm) (by rw [ezi, if_pos hc]) ⟨ra, rfl, by rw [wo_ne nra]; exact sc _ _ (sm1 _ _ hra)⟩⟩
          · exact keep H5 (wo_same sc) (hD5.trans hacc2.symm) (by rw [ezi, if_neg (by rw [hc]; decide)])
      · rw [hal, fm_get] at pa2
        refine ⟨D2, _, rfl, .inl (SqL.of hacc2), ?_⟩
        have el : acc2.length = ((st.net.ways s0 t).filter fun (l : List Nat) => (steps l).contains (a, b)).length := by
          rw [Paired.length pa2, ← ((aw.perm_ways wf).filter fun (l : List Nat) => (steps l).contains (a, b)).length_eq]
          congr 1
          rw [← List.filterMap_eq_filter]
          congr 1
        rw [el]
        exact k H4 (s3.trans (sm4.trans (wo_sub H4 D2)))
end
noncomputable abbrev sChanged : Stmt := top 31
noncomputable abbrev sAsked : Stmt := top 32
noncomputable abbrev sAnswer : Stmt := top 33
noncomputable def zZ : Call → Int
  | .begin_ _ => 0
  | .arc _ _ _ => 1
  | .cut _ _ => 2
  | .close _ _ => 3
  | .len _ _ => 4
  | .dist _ _ => 5
  | .way _ => 6
  | .search _ _ => 7
  | .next  => 8
  | .told  => 9
  | .nth _ _ _ => 10
  | .ways _ _ => 11
  | .place _ => 12
  | .over _ _ _ _ => 13
  | .apart _ _ => 14
  | .net  => 15
noncomputable def yD : Call → List Nat
  | .begin_ n => [n]
  | .arc a b n => [a, b, n]
  | .cut a b => [a, b]
  | .close a b => [a, b]
  | .len a b => [a, b]
  | .dist a b => [a, b]
  | .way l => l
  | .search a b => [a, b]
  | .next  => []
  | .told  => []
  | .nth a b j => [a, b, j]
  | .ways a b => [a, b]
  | .place l => l
  | .over s0 t a b => [s0, t, a, b]
  | .apart a b => [a, b]
  | .net  => []
noncomputable def isChg : Call → Bool
  | .begin_ _ => true
  | .arc _ _ _ => true
  | .cut _ _ => true
  | .close _ _ => true
  | .search _ _ => true
  | _ => false
noncomputable def isAsk : Call → Bool
  | .len _ _ => true
  | .dist _ _ => true
  | .way _ => true
  | .told  => true
  | .ways _ _ => true
  | .place _ => true
  | .over _ _ _ _ => true
  | _ => false
inductive IspChanged (C : Addr) (vs : List V) (H : Hp) (Q : VK) : Prop
  | mk (p dx lc da nl : Addr) (st : State) (c : Call) (_h1 : vs = [.ref p, .int (zZ c), .ref nl]) (_h2 : NetAt C H p dx lc da st) (_h3 : H nl = some (.lst (rowV (yD c)))) (_h4 : isChg c = true) (_h5 : Chg C H p dx lc da Q (WaySpec.step st c).1 (WaySpec.step st c).2.ret) : IspChanged C vs H Q
noncomputable def spChanged (C : Addr) : Sp := fun vs H Q _ => IspChanged C vs H Q
inductive IspAsked (C : Addr) (vs : List V) (H : Hp) (Q : VK) : Prop
  | mk (p dx lc da nl : Addr) (st : State) (c : Call) (_h1 : vs = [.ref p, .int (zZ c), .ref nl]) (_h2 : NetAt C H p dx lc da st) (_h3 : H nl = some (.lst (rowV (yD c)))) (_h4 : isAsk c = true) (_h5 : Ask H Q (WaySpec.step st c).2.ret) : IspAsked C vs H Q
noncomputable def spAsked (C : Addr) : Sp := fun vs H Q _ => IspAsked C vs H Q
theorem scChanged : zR ["net", "call", "numbers"] ["net", "call", "numbers"] (zH sChanged) := ⟨rfl, rfl, rfl, by decide +kernel, rfl, by decide +kernel, by decide +kernel⟩
theorem scAsked : zR ["net", "call", "numbers"] ["net", "call", "numbers"] (zH sAsked) := ⟨rfl, rfl, rfl, by decide +kernel, rfl, by decide +kernel, by decide +kernel⟩
section
variable {P : Program} {w : World} {K : PySem.W.Frag} {mg : Str → Option Value} {base : Heap} {f C : Addr} {fd : FuncData}
theorem ok_changed {f_begin f_arc f_cut f_close f_search : Addr} {fd_begin fd_arc fd_cut fd_close fd_search : FuncData} (F : Fun K "changed" "changed" sChanged f fd) (T : Txt K mg C) (G_begin : FnOk P w K mg base CX0 1 f_begin fd_begin ["self", "nodes"] (spBegin C)) (b_begin : Binds K fd_begin ["self", "nodes"] []) (mt_begin : Meth K C "begin" f_begin)
    (G_arc : FnOk P w K mg base CX0 3 f_arc fd_arc ["self", "a", "b", "length"] (spArc C)) (b_arc : Binds K fd_arc ["self", "a", "b", "length"] []) (mt_arc : Meth K C "set_arc" f_arc)
    (G_cut : FnOk P w K mg base CX0 3 f_cut fd_cut ["self", "a", "b"] (spCut C)) (b_cut : Binds K fd_cut ["self", "a", "b"] []) (mt_cut : Meth K C "cut_arc" f_cut)
    (G_close : FnOk P w K mg base CX0 2 f_close fd_close ["self", "node", "c"] (spClose C)) (b_close : Binds K fd_close ["self", "node", "c"] []) (mt_close : Meth K C "close_node" f_close)
    (G_search : FnOk P w K mg base CX0 4 f_search fd_search ["self", "s", "t"] (spSearch C)) (b_search : Binds K fd_search ["self", "s", "t"] []) (mt_search : Meth K C "start_search" f_search) : FnOk P w K mg base CX0 5 f fd ["net", "call", "numbers"] (spChanged C) := by
  refine F.ok scChanged (fun vs H Q E h => ?_) (fun cdv A outer s H vs Q E hr h => ?_)
  · obtain ⟨p, dx, lc, da, nl, st, c, rfl, _⟩ := h
    rfl
  · obtain ⟨p, dx, lc, da, nl, st, c, rfl, hN, hnl, hc, k⟩ := h
    refine let T8 : TS := _; let T7 : TS := _; let T6 : TS := _; let T5 : TS := _; let T4 : TS := _; let T3 : TS := _; let T2 : TS := _; let T1 : TS := _; ⟨_, (zC (ps_if (zQ op_eq (pv 1) (pe_gi (by rfl) T.g_BEGIN) (yC _)) (sh T1 (zD (zL (zW (pv 0) T.cl mt_begin G_begin (hr.mono (show 1 ≤ 4 by decide)) b_begin .nil pass0 (zA (pe_ix zP (pv 2) zN (fun _ _ => rfl)) zF))))) zM)
      (sh T2 (zC (ps_if (zQ op_eq (pv 1) (pe_gi (by rfl) T.g_ARC) (yC _)) (sh T3 (zD (zL (zW (pv 0) T.cl mt_arc G_arc (hr.mono (show 3 ≤ 4 by decide)) b_arc .nil pass0 (zA (pe_ix zP (pv 2) zN (fun _ _ => rfl)) (zA (pe_ix zP (pv 2) zN (fun _ _ => rfl)) (zA (pe_ix zP (pv 2) zN (fun _ _ => rfl)) zF))))))) zM)
      (sh T4 (zC (ps_if (zQ op_eq (pv 1) (pe_gi (by rfl) T.g_CUT) (yC _)) (sh T5 (zD (zL (zW (pv 0) T.cl mt_cut G_cut (hr.mono (show 3 ≤ 4 by decide)) b_cut .nil pass0 (zA (pe_ix zP (pv 2) zN (fun _ _ => rfl)) (zA (pe_ix zP (pv 2) zN (fun _ _ => rfl)) zF)))))) zM)
      (sh T6 (zC (ps_if (zQ op_eq (pv 1) (pe_gi (by rfl) T.g_CLOSE) (yC _)) (sh T7 (zD (zL (zW (pv 0) T.cl mt_close G_close (hr.mono (show 2 ≤ 4 by decide)) b_close .nil pass0 (zA (pe_ix zP (pv 2) zN (fun _ _ => rfl)) (zA (pe_ix zP (pv 2) zN (fun _ _ => rfl)) zF)))))) zM)
      (sh T8 (zD (zL (zW (pv 0) T.cl mt_search G_search hr b_search .nil pass0 (zA (pe_ix zP (pv 2) zN (fun _ _ => rfl)) (zA (pe_ix zP (pv 2) zN (fun _ _ => rfl)) zF))))))))))))), ?_⟩
    obtain ⟨sv, tv, hp, _⟩ := hN.ob
    cases c with
    | begin_ n =>
      refine ⟨_, rfl, rfl, _, rfl, iteT ?_⟩
      exact ⟨_, rfl, p, dx, _, rfl, hp, rfl, _, rfl, nl, _, _, .int (n : Nat), rfl, rfl, SqL.of hnl, rfl, p, dx, lc, da, st, n, rfl, hN, k⟩
    | arc a b n =>
      refine ⟨_, rfl, rfl, _, rfl, iteF ?_⟩
      refine ⟨_, rfl, rfl, _, rfl, iteT ?_⟩
      exact ⟨_, rfl, p, dx, _, rfl, hp, rfl, _, rfl, nl, _, _, .int (a : Nat), rfl, rfl, SqL.of hnl, rfl, _, rfl, nl, _, _, .int (b : Nat), rfl, rfl, SqL.of hnl, rfl, _, rfl, nl, _, _, .int (n : Nat), rfl, rfl, SqL.of hnl, rfl, p, dx, lc, da, st, a, b, n, rfl, hN, k⟩
    | cut a b =>
      refine ⟨_, rfl, rfl, _, rfl, iteF ?_⟩
      refine ⟨_, rfl, rfl, _, rfl, iteF ?_⟩
      refine ⟨_, rfl, rfl, _, rfl, iteT ?_⟩
      exact ⟨_, rfl, p, dx, _, rfl, hp, rfl, _, rfl, nl, _, _, .int (a : Nat), rfl, rfl, SqL.of hnl, rfl, _, rfl, nl, _, _, .int (b : Nat), rfl, rfl, SqL.of hnl, rfl, p, dx, lc, da, st, a, b, rfl, hN, k⟩
    | close a b =>
      refine ⟨_, rfl, rfl, _, rfl, iteF ?_⟩
      refine ⟨_, rfl, rfl, _, rfl, iteF ?_⟩
      refine ⟨_, rfl, rfl, _, rfl, iteF ?_⟩
      refine ⟨_, rfl, rfl, _, rfl, iteT ?_⟩
      exact ⟨_, rfl, p, dx, _, rfl, hp, rfl, _, rfl, nl, _, _, .int (a : Nat), rfl, rfl, SqL.of hnl, rfl, _, rfl, nl, _, _, .int (b : Nat), rfl, rfl, SqL.of hnl, rfl, p, dx, lc, da, st, a, b, rfl, hN, k⟩
    | len a b => exact absurd (show false = true from hc) (by decide)
    | dist a b => exact absurd (show false = true from hc) (by decide)
    | way l => exact absurd (show false = true from hc) (by decide)
    | search a b =>
      refine ⟨_, rfl, rfl, _, rfl, iteF ?_⟩
      refine ⟨_, rfl, rfl, _, rfl, iteF ?_⟩
      refine ⟨_, rfl, rfl, _, rfl, iteF ?_⟩
      refine ⟨_, rfl, rfl, _, rfl, iteF ?_⟩
      exact ⟨_, rfl, p, dx, _, rfl, hp, rfl, _, rfl, nl, _, _, .int (a : Nat), rfl, rfl, SqL.of hnl, rfl, _, rfl, nl, _, _, .int (b : Nat), rfl, rfl, SqL.of hnl, rfl, p, dx, lc, da, st, a, b, rfl, hN, k⟩
    | next  => exact absurd (show false = true from hc) (by decide)
    | told  => exact absurd (show false = true from hc) (by decide)
    | nth a b j => exact absurd (show false = true from hc) (by decide)
    | ways a b => exact absurd (show false = true from hc) (by decide)
    | place l => exact absurd (show false = true from hc) (by decide)
    | over s0 t a b => exact absurd (show false = true from hc) (by decide)
    | apart a b => exact absurd (show false = true from hc) (by decide)
    | net  => exact absurd (show false = true from hc) (by decide)
theorem ok_asked {f_len f_dist f_way f_told f_ways f_place f_over : Addr} {fd_len fd_dist fd_way fd_told fd_ways fd_place fd_over : FuncData} (F : Fun K "asked" "asked" sAsked f fd) (T : Txt K mg C) (G_len : FnOk P w K mg base CX0 3 f_len fd_len ["self", "a", "b"] (spLen C)) (b_len : Binds K fd_len ["self", "a", "b"] []) (mt_len : Meth K C "arc_length" f_len)
    (G_dist : FnOk P w K mg base CX0 3 f_dist fd_dist ["self", "s", "t"] (spDist C)) (b_dist : Binds K fd_dist ["self", "s", "t"] []) (mt_dist : Meth K C "distance" f_dist)
    (G_way : FnOk P w K mg base CX0 2 f_way fd_way ["self", "row"] (spWay C)) (b_way : Binds K fd_way ["self", "row"] []) (mt_way : Meth K C "way_length" f_way)
    (G_told : FnOk P w K mg base CX0 1 f_told fd_told ["self"] (spToldWays C)) (b_told : Binds K fd_told ["self"] []) (mt_told : Meth K C "told_ways" f_told)
    (G_ways : FnOk P w K mg base CX0 3 f_ways fd_ways ["self", "s", "t"] (spCount C)) (b_ways : Binds K fd_ways ["self", "s", "t"] []) (mt_ways : Meth K C "count_ways" f_ways)
    (G_place : FnOk P w K mg base CX0 4 f_place fd_place ["self", "row"] (spPlace C)) (b_place : Binds K fd_place ["self", "row"] []) (mt_place : Meth K C "place_of" f_place)
    (G_over : FnOk P w K mg base CX0 3 f_over fd_over ["self", "s", "t", "a", "b"] (spOver C)) (b_over : Binds K fd_over ["self", "s", "t", "a", "b"] []) (mt_over : Meth K C "count_over" f_over) : FnOk P w K mg base CX0 5 f fd ["net", "call", "numbers"] (spAsked C) := by
  refine F.ok scAsked (fun vs H Q E h => ?_) (fun cdv A outer s H vs Q E hr h => ?_)
  · obtain ⟨p, dx, lc, da, nl, st, c, rfl, _⟩ := h
    rfl
  · obtain ⟨p, dx, lc, da, nl, st, c, rfl, hN, hnl, hc, k⟩ := h
    refine let T12 : TS := _; let T11 : TS := _; let T10 : TS := _; let T9 : TS := _; let T8 : TS := _; let T7 : TS := _; let T6 : TS := _; let T5 : TS := _; let T4 : TS := _; let T3 : TS := _; let T2 : TS := _; let T1 : TS := _; ⟨_, (zC (ps_if (zQ op_eq (pv 1) (pe_gi (by rfl) T.g_LEN) (yC _)) (sh T1 (zD (zL (zW (pv 0) T.cl mt_len G_len (hr.mono (show 3 ≤ 4 by decide)) b_len .nil pass0 (zA (pe_ix zP (pv 2) zN (fun _ _ => rfl)) (zA (pe_ix zP (pv 2) zN (fun _ _ => rfl)) zF)))))) zM)
      (sh T2 (zC (ps_if (zQ op_eq (pv 1) (pe_gi (by rfl) T.g_DIST) (yC _)) (sh T3 (zD (zL (zW (pv 0) T.cl mt_dist G_dist (hr.mono (show 3 ≤ 4 by decide)) b_dist .nil pass0 (zA (pe_ix zP (pv 2) zN (fun _ _ => rfl)) (zA (pe_ix zP (pv 2) zN (fun _ _ => rfl)) zF)))))) zM)
      (sh T4 (zC (ps_if (zQ op_eq (pv 1) (pe_gi (by rfl) T.g_WAY) (yC _)) (sh T5 (zD (zL (zW (pv 0) T.cl mt_way G_way (hr.mono (show 2 ≤ 4 by decide)) b_way .nil pass0 (zA (pv 2) zF))))) zM)
      (sh T6 (zC (ps_if (zQ op_eq (pv 1) (pe_gi (by rfl) T.g_TOLD) (yC _)) (sh T7 (zD (zL (pe_meth0 (pv 0) T.cl mt_told G_told (hr.mono (show 1 ≤ 4 by decide)) b_told .nil pass0)))) zM)
      (sh T8 (zC (ps_if (zQ op_eq (pv 1) (pe_gi (by rfl) T.g_WAYS) (yC _)) (sh T9 (zD (zL (zW (pv 0) T.cl mt_ways G_ways (hr.mono (show 3 ≤ 4 by decide)) b_ways .nil pass0 (zA (pe_ix zP (pv 2) zN (fun _ _ => rfl)) (zA (pe_ix zP (pv 2) zN (fun _ _ => rfl)) zF)))))) zM)
      (sh T10 (zC (ps_if (zQ op_eq (pv 1) (pe_gi (by rfl) T.g_PLACE) (yC _)) (sh T11 (zD (zL (zW (pv 0) T.cl mt_place G_place hr b_place .nil pass0 (zA (pv 2) zF))))) zM)
      (sh T12 (zD (zL (zW (pv 0) T.cl mt_over G_over (hr.mono (show 3 ≤ 4 by decide)) b_over .nil pass0 (zA (pe_ix zP (pv 2) zN (fun _ _ => rfl)) (zA (pe_ix zP (pv 2) zN (fun _ _ => rfl)) (zA (pe_ix zP (pv 2) zN (fun _ _ => rfl)) (zA (pe_ix zP (pv 2) zN (fun _ _ => rfl)) zF))))))))))))))))))), ?_⟩
    obtain ⟨sv, tv, hp, _⟩ := hN.ob
    cases c with
    | begin_ n => exact absurd (show false = true from hc) (by decide)
    | arc a b n => exact absurd (show false = true from hc) (by decide)
    | cut a b => exact absurd (show false = true from hc) (by decide)
    | close a b => exact absurd (show false = true from hc) (by decide)
    | len a b =>
      refine ⟨_, rfl, rfl, _, rfl, iteT ?_⟩
      exact ⟨_, rfl, p, dx, _, rfl, hp, rfl, _, rfl, nl, _, _, .int (a : Nat), rfl, rfl, SqL.of hnl, rfl, _, rfl, nl, _, _, .int (b : Nat), rfl, rfl, SqL.of hnl, rfl, p, dx, lc, da, st, a, b, rfl, hN, k⟩
    | dist a b =>
      refine ⟨_, rfl, rfl, _, rfl, iteF ?_⟩
      refine ⟨_, rfl, rfl, _, rfl, iteT ?_⟩
      exact ⟨_, rfl, p, dx, _, rfl, hp, rfl, _, rfl, nl, _, _, .int (a : Nat), rfl, rfl, SqL.of hnl, rfl, _, rfl, nl, _, _, .int (b : Nat), rfl, rfl, SqL.of hnl, rfl, p, dx, lc, da, st, a, b, rfl, hN, k⟩
    | way l =>
      refine ⟨_, rfl, rfl, _, rfl, iteF ?_⟩
      refine ⟨_, rfl, rfl, _, rfl, iteF ?_⟩
      refine ⟨_, rfl, rfl, _, rfl, iteT ?_⟩
      exact ⟨_, rfl, p, dx, _, rfl, hp, rfl, _, rfl, p, dx, lc, da, nl, st, l, rfl, hN, hnl, k⟩
    | search a b => exact absurd (show false = true from hc) (by decide)
    | next  => exact absurd (show false = true from hc) (by decide)
    | told  =>
      refine ⟨_, rfl, rfl, _, rfl, iteF ?_⟩
      refine ⟨_, rfl, rfl, _, rfl, iteF ?_⟩
      refine ⟨_, rfl, rfl, _, rfl, iteF ?_⟩
      refine ⟨_, rfl, rfl, _, rfl, iteT ?_⟩
      exact ⟨_, rfl, p, dx, _, rfl, hp, rfl, p, dx, lc, da, st, rfl, hN, k⟩
    | nth a b j => exact absurd (show false = true from hc) (by decide)
    | ways a b =>
      refine ⟨_, rfl, rfl, _, rfl, iteF ?_⟩
      refine ⟨_, rfl, rfl, _, rfl, iteF ?_⟩
      refine ⟨_, rfl, rfl, _, rfl, iteF ?_⟩
      refine ⟨_, rfl, rfl, _, rfl, iteF ?_⟩
      refine ⟨_, rfl, rfl, _, rfl, iteT ?_⟩
      exact ⟨_, rfl, p, dx, _, rfl, hp, rfl, _, rfl, nl, _, _, .int (a : Nat), rfl, rfl, SqL.of hnl, rfl, _, rfl, nl, _, _, .int (b : Nat), rfl, rfl, SqL.of hnl, rfl, p, dx, lc, da, st, a, b, rfl, hN, k⟩
    | place l =>
      refine ⟨_, rfl, rfl, _, rfl, iteF ?_⟩
      refine ⟨_, rfl, rfl, _, rfl, iteF ?_⟩
      refine ⟨_, rfl, rfl, _, rfl, iteF ?_⟩
      refine ⟨_, rfl, rfl, _, rfl, iteF ?_⟩
      refine ⟨_, rfl, rfl, _, rfl, iteF ?_⟩
      refine ⟨_, rfl, rfl, _, rfl, iteT ?_⟩
      exact ⟨_, rfl, p, dx, _, rfl, hp, rfl, _, rfl, p, dx, lc, da, nl, st, l, rfl, hN, hnl, k⟩
    | over s0 t a b =>
      refine ⟨_, rfl, rfl, _, rfl, iteF ?_⟩
      refine ⟨_, rfl, rfl, _, rfl, iteF ?_⟩
      refine ⟨_, rfl, rfl, _, rfl, iteF ?_⟩
      refine ⟨_, rfl, rfl, _, rfl, iteF ?_⟩
      refine ⟨_, rfl, rfl, _, rfl, iteF ?_⟩
      refine ⟨_, rfl, rfl, _, rfl, iteF ?_⟩
      exact ⟨_, rfl, p, dx, _, rfl, hp, rfl, _, rfl, nl, _, _, .int (s0 : Nat), rfl, rfl, SqL.of hnl, rfl, _, rfl, nl, _, _, .int (t : Nat), rfl, rfl, SqL.of hnl, rfl, _, rfl, nl, _, _, .int (a : Nat), rfl, rfl, SqL.of hnl, rfl, _, rfl, nl, _, _, .int (b : Nat), rfl, rfl, SqL.of hnl, rfl, p, dx, lc, da, st, s0, t, a, b, rfl, hN, k⟩
    | apart a b => exact absurd (show false = true from hc) (by decide)
    | net  => exact absurd (show false = true from hc) (by decide)
theorem scAnswer : zR ["net", "call", "numbers"] ["net", "call", "numbers"] (zH sAnswer) := ⟨rfl, rfl, rfl, by decide +kernel, rfl, by decide +kernel, by decide +kernel⟩
end
noncomputable def ChgA (C : Addr) (H : Hp) (p dx lc da : Addr) (Q : VK) (st' : State) (r : List Int) : Prop :=
  ∀ (H' : Hp) (lc' da' l : Addr), NetAt C H' p dx lc' da' st' → Kept H H' p lc da → (lc' = lc ∨ H lc' = none) → (da' = da ∨ H da' = none) → H' l = some (.lst (r.map V.int)) → Q (.ref l) H'
theorem ChgA.l {C : Addr} {H : Hp} {p dx lc da : Addr} {Q : VK} {st' : State} {r : List Int} (k : ChgA C H p dx lc da Q st' r) : ChgL C H p dx lc da Q st' r := fun H' lc' da' l h1 h2 h3 h4 _ h5 _ => k H' lc' da' l h1 h2 h3 h4 h5
theorem ChgA.ask {C : Addr} {H : Hp} {p dx lc da : Addr} {Q : VK} {st : State} {r : List Int} (k : ChgA C H p dx lc da Q st r) (hN : NetAt C H p dx lc da st) : AskL H Q r := fun H' l s _ h5 => k H' lc da l (hN.mono s) (fun b o e _ _ _ => s b o e) (.inl rfl) (.inl rfl) h5
theorem ChgA.one {C : Addr} {H : Hp} {p dx lc da : Addr} {Q : VK} {st' : State} {r : Int} (k : ChgA C H p dx lc da Q st' [r]) : Chg C H p dx lc da (fun v H' => ∀ l, H' l = none → Q (.ref l) (upd H' l (.lst [v]))) st' r := fun H' lc' da' h1 h2 h3 h4 l hl =>
  k _ lc' da' l (h1.mono (Same.upd hl)) (fun b o e b1 b2 b3 => Same.upd hl b o (h2 b o e b1 b2 b3)) h3 h4 zB
theorem ChgA.one1 {C : Addr} {H : Hp} {p dx lc da : Addr} {Q : VK} {st : State} {r : Int} (k : ChgA C H p dx lc da Q st [r]) (hN : NetAt C H p dx lc da st) : Ask H (fun v H' => ∀ l, H' l = none → Q (.ref l) (upd H' l (.lst [v]))) r := fun H' s l hl =>
  k _ lc da l (hN.mono (s.trans (Same.upd hl))) (fun b o e _ _ _ => Same.upd hl b o (s b o e)) (.inl rfl) (.inl rfl) zB
inductive IspAnswer2 (C : Addr) (vs : List V) (H : Hp) (Q : VK) : Prop
  | mk (p dx lc da nl : Addr) (st : State) (c : Call) (_h1 : vs = [.ref p, .int (zZ c), .ref nl]) (_h2 : NetAt C H p dx lc da st) (_h3 : H nl = some (.lst (rowV (yD c)))) (_h4 : ChgA C H p dx lc da Q (WaySpec.step st c).1 (full (WaySpec.step st c).2)) : IspAnswer2 C vs H Q
noncomputable def spAnswer2 (C : Addr) : Sp := fun vs H Q _ => IspAnswer2 C vs H Q
theorem full_chg (st : State) : ∀ c : Call, isChg c = true → full (WaySpec.step st c).2 = [(WaySpec.step st c).2.ret] := by
  intro c h
  cases c with
  | begin_ n =>
    unfold WaySpec.step
    dsimp only
    split <;> rfl
  | arc a b n =>
    unfold WaySpec.step
    dsimp only
    split <;> rfl
  | cut a b =>
    unfold WaySpec.step
    dsimp only
    split
    · rfl
    · split <;> rfl
  | close a b =>
    unfold WaySpec.step
    dsimp only
    split <;> rfl
  | len a b => exact absurd (show false = true from h) (by decide)
  | dist a b => exact absurd (show false = true from h) (by decide)
  | way l => exact absurd (show false = true from h) (by decide)
  | search a b =>
    unfold WaySpec.step
    dsimp only
    split <;> rfl
  | next  => exact absurd (show false = true from h) (by decide)
  | told  => exact absurd (show false = true from h) (by decide)
  | nth a b j => exact absurd (show false = true from h) (by decide)
  | ways a b => exact absurd (show false = true from h) (by decide)
  | place l => exact absurd (show false = true from h) (by decide)
  | over s0 t a b => exact absurd (show false = true from h) (by decide)
  | apart a b => exact absurd (show false = true from h) (by decide)
  | net  => exact absurd (show false = true from h) (by decide)
theorem full_on (g : Net) (l : List Nat) (a : Answer) (h : a.nums = []) : (onNodes g l a).nums = [] := by
  unfold onNodes
  split
  · exact h
  · rfl
theorem full_ask (st : State) : ∀ c : Call, isAsk c = true → full (WaySpec.step st c).2 = [(WaySpec.step st c).2.ret] ∧ (WaySpec.step st c).1 = st := by
  intro c h
  have key : (WaySpec.step st c).2.nums = [] → full (WaySpec.step st c).2 = [(WaySpec.step st c).2.ret] := fun e => by unfold full; rw [e]
  cases c with
  | begin_ n => exact absurd (show false = true from h) (by decide)
  | arc a b n => exact absurd (show false = true from h) (by decide)
  | cut a b => exact absurd (show false = true from h) (by decide)
  | close a b => exact absurd (show false = true from h) (by decide)
  | len a b => exact ⟨key (full_on _ _ _ (by split <;> rfl)), rfl⟩
  | dist a b => exact ⟨key (full_on _ _ _ (by split <;> rfl)), rfl⟩
  | way l =>
    refine ⟨key ?_, rfl⟩
    show (WaySpec.ask st.net (.way l)).nums = []
    unfold WaySpec.ask
    dsimp only
    split <;> rfl
  | search a b => exact absurd (show false = true from h) (by decide)
  | next  => exact absurd (show false = true from h) (by decide)
  | told =>
    refine ⟨key ?_, rfl⟩
    unfold WaySpec.step
    dsimp only
    split <;> rfl
  | nth a b j => exact absurd (show false = true from h) (by decide)
  | ways a b => exact ⟨key (full_on _ _ _ rfl), rfl⟩
  | place l =>
    refine ⟨key ?_, rfl⟩
    show (WaySpec.ask st.net (.place l)).nums = []
    unfold WaySpec.ask
    dsimp only
    split <;> rfl
  | over s0 t a b => exact ⟨key (full_on _ _ _ (by split <;> rfl)), rfl⟩
  | apart a b => exact absurd (show false = true from h) (by decide)
  | net  => exact absurd (show false = true from h) (by decide)
theorem cd_next {c : Call} (h : zZ c = 8) : c = .next := by
  cases c <;> first | rfl | exact Bool.noConfusion (show false = true from congrArg (fun x : Int => decide (x = 8)) h)
theorem cd_nth {c : Call} (h : zZ c = 10) : ∃ a b j, c = .nth a b j := by
  cases c <;> first | exact ⟨_, _, _, rfl⟩ | exact Bool.noConfusion (show false = true from congrArg (fun x : Int => decide (x = 10)) h)
theorem cd_apart {c : Call} (h : zZ c = 14) : ∃ a b, c = .apart a b := by
  cases c <;> first | exact ⟨_, _, rfl⟩ | exact Bool.noConfusion (show false = true from congrArg (fun x : Int => decide (x = 14)) h)
theorem cd_net {c : Call} (h : zZ c = 15) : c = .net := by
  cases c <;> first | rfl | exact Bool.noConfusion (show false = true from congrArg (fun x : Int => decide (x = 15)) h)
theorem cd_search {c : Call} (h : zZ c = 7) : isChg c = true := by
  cases c <;> first | rfl | exact Bool.noConfusion (show false = true from congrArg (fun x : Int => decide (x = 7)) h)
theorem cd_low {c : Call} (h : decide (zZ c ≤ 3) = true) : isChg c = true := by
  cases c <;> first | rfl | exact Bool.noConfusion (show false = true from h)
theorem cd_rest {c : Call} (h1 : zZ c ≠ 8) (h2 : zZ c ≠ 10) (h3 : zZ c ≠ 14) (h4 : zZ c ≠ 15) (h5 : decide (zZ c ≤ 3) = false) (h6 : zZ c ≠ 7) : isAsk c = true := by
  cases c <;> first | rfl | exact absurd rfl h1 | exact absurd rfl h2 | exact absurd rfl h3 | exact absurd rfl h4 | exact absurd rfl h6 | exact Bool.noConfusion (show true = false from h5)
section
variable {P : Program} {w : World} {K : PySem.W.Frag} {mg : Str → Option Value} {base : Heap} {f C : Addr} {fd : FuncData}
theorem ok_answer {f_next f_nth f_apart f_net f_changed f_asked : Addr} {fd_next fd_nth fd_apart fd_net fd_changed fd_asked : FuncData} (F : Fun K "answer" "answer" sAnswer f fd) (T : Txt K mg C) (G_next : FnOk P w K mg base CX0 2 f_next fd_next ["self"] (spNext C)) (b_next : Binds K fd_next ["self"] []) (mt_next : Meth K C "next_way" f_next)
    (G_nth : FnOk P w K mg base CX0 4 f_nth fd_nth ["self", "s", "t", "k"] (spWayAt C)) (b_nth : Binds K fd_nth ["self", "s", "t", "k"] []) (mt_nth : Meth K C "way_at" f_nth)
    (G_apart : FnOk P w K mg base CX0 4 f_apart fd_apart ["self", "s", "t"] (spPart C)) (b_apart : Binds K fd_apart ["self", "s", "t"] []) (mt_apart : Meth K C "parting" f_apart)
    (G_net : FnOk P w K mg base CX0 1 f_net fd_net ["self"] (spWhole C)) (b_net : Binds K fd_net ["self"] []) (mt_net : Meth K C "whole" f_net)
    (G_changed : FnOk P w K mg base CX0 5 f_changed fd_changed ["net", "call", "numbers"] (spChanged C)) (b_changed : Binds K fd_changed ["net", "call", "numbers"] []) (m_changed : mg "changed" = some (.ref f_changed)) (k_changed : PySem.W.keepIn K (.ref f_changed) = true)
    (G_asked : FnOk P w K mg base CX0 5 f_asked fd_asked ["net", "call", "numbers"] (spAsked C)) (b_asked : Binds K fd_asked ["net", "call", "numbers"] []) (m_asked : mg "asked" = some (.ref f_asked)) (k_asked : PySem.W.keepIn K (.ref f_asked) = true) : FnOk P w K mg base CX0 6 f fd ["net", "call", "numbers"] (spAnswer2 C) := by
  refine F.ok scAnswer (fun vs H Q E h => ?_) (fun cdv A outer s H vs Q E hr h => ?_)
  · obtain ⟨p, dx, lc, da, nl, st, c, rfl, _⟩ := h
    rfl
  · obtain ⟨p, dx, lc, da, nl, st, c, rfl, hN, hnl, k⟩ := h
    refine let T10 : TS := _; let T9 : TS := _; let T8 : TS := _; let T7 : TS := _; let T6 : TS := _; let T5 : TS := _; let T4 : TS := _; let T3 : TS := _; let T2 : TS := _; let T1 : TS := _; ⟨_, (zC (ps_if (zQ op_eq (pv 1) (pe_gi (by rfl) T.g_NEXT) (yC _)) (sh T1 (zD (zL (pe_meth0 (pv 0) T.cl mt_next G_next (hr.mono (show 2 ≤ 5 by decide)) b_next .nil pass0)))) zM)
      (sh T2 (zC (ps_if (zQ op_eq (pv 1) (pe_gi (by rfl) T.g_NTH) (yC _)) (sh T3 (zD (zL (zW (pv 0) T.cl mt_nth G_nth (hr.mono (show 4 ≤ 5 by decide)) b_nth .nil pass0 (zA (pe_ix zP (pv 2) zN (fun _ _ => rfl)) (zA (pe_ix zP (pv 2) zN (fun _ _ => rfl)) (zA (pe_ix zP (pv 2) zN (fun _ _ => rfl)) zF))))))) zM)
      (sh T4 (zC (ps_if (zQ op_eq (pv 1) (pe_gi (by rfl) T.g_APART) (yC _)) (sh T5 (zD (zL (zW (pv 0) T.cl mt_apart G_apart (hr.mono (show 4 ≤ 5 by decide)) b_apart .nil pass0 (zA (pe_ix zP (pv 2) zN (fun _ _ => rfl)) (zA (pe_ix zP (pv 2) zN (fun _ _ => rfl)) zF)))))) zM)
      (sh T6 (zC (ps_if (zQ op_eq (pv 1) (pe_gi (by rfl) T.g_NET) (yC _)) (sh T7 (zD (zL (pe_meth0 (pv 0) T.cl mt_net G_net (hr.mono (show 1 ≤ 5 by decide)) b_net .nil pass0)))) zM)
      (sh T8 (zC (ps_if (pw_or (zQ op_le (pv 1) (pe_gi (by rfl) T.g_CLOSE) (yC _)) (pw_or1 (zQ op_eq (pv 1) (pe_gi (by rfl) T.g_SEARCH) (yC _)))).pt (sh T9 (zD (zL (pe_lst (zA (pe_call G_changed hr (by rfl) m_changed k_changed b_changed .nil pass0 (zA (pv 0) (zA (pv 1) (zA (pv 2) zF)))) zF))))) zM)
      (sh T10 (zD (zL (pe_lst (zA (pe_call G_asked hr (by rfl) m_asked k_asked b_asked .nil pass0 (zA (pv 0) (zA (pv 1) (zA (pv 2) zF)))) zF)))))))))))))), ?_⟩
    obtain ⟨sv, tv, hp, _⟩ := hN.ob
    have hK : ∀ {x y : Int}, decide (V.int x = V.int y) = true → x = y := fun h => V.int.inj (of_decide_eq_true h)
    have nK : ∀ {x y : Int}, decide (V.int x = V.int y) = false → x ≠ y := fun h e => of_decide_eq_false h (congrArg V.int e)
    refine ⟨_, rfl, rfl, _, rfl, ?_⟩
    refine zK (fun e => ?_) fun n1 => ?_
    · obtain rfl := cd_next (hK e)
      exact ⟨_, rfl, p, dx, _, rfl, hp, rfl, p, dx, lc, da, st, rfl, hN, k.l⟩
    refine ⟨_, rfl, rfl, _, rfl, ?_⟩
    refine zK (fun e => ?_) fun n2 => ?_
    · obtain ⟨a, b, j, rfl⟩ := cd_nth (hK e)
      exact ⟨_, rfl, p, dx, _, rfl, hp, rfl, _, rfl, nl, _, _, .int (a : Nat), rfl, rfl, SqL.of hnl, rfl, _, rfl, nl, _, _, .int (b : Nat), rfl, rfl, SqL.of hnl, rfl, _, rfl, nl, _, _, .int (j : Nat), rfl, rfl, SqL.of hnl, rfl, p, dx, lc, da, st, a, b, j, rfl, hN, k.ask hN⟩
    refine ⟨_, rfl, rfl, _, rfl, ?_⟩
    refine zK (fun e => ?_) fun n3 => ?_
    · obtain ⟨a, b, rfl⟩ := cd_apart (hK e)
      exact ⟨_, rfl, p, dx, _, rfl, hp, rfl, _, rfl, nl, _, _, .int (a : Nat), rfl, rfl, SqL.of hnl, rfl, _, rfl, nl, _, _, .int (b : Nat), rfl, rfl, SqL.of hnl, rfl, p, dx, lc, da, st, a, b, rfl, hN, k.ask hN⟩
    refine ⟨_, rfl, rfl, _, rfl, ?_⟩
    refine zK (fun e => ?_) fun n4 => ?_
    · obtain rfl := cd_net (hK e)
      exact ⟨_, rfl, p, dx, _, rfl, hp, rfl, p, dx, lc, da, st, rfl, hN, k.ask hN⟩
    refine ⟨_, rfl, _, _, rfl, rfl, _, rfl, ?_⟩
    refine zK (fun e => iteT ?_) fun n5 => ?_
    · have hc := cd_low e
      rw [full_chg st c hc] at k
      exact ⟨_, rfl, _, rfl, _, rfl, p, dx, lc, da, nl, st, c, rfl, hN, hnl, hc, fun H2 lc2 da2 z1 z2 z3 z4 => ⟨zJ (by show 1 ≤ 100000; decide), fun l hl => k.one H2 lc2 da2 z1 z2 z3 z4 l hl⟩⟩
    refine ⟨_, rfl, rfl, _, rfl, ?_⟩
    refine zK (fun e => ?_) fun n6 => ?_
    · have hc := cd_search (hK e)
      rw [full_chg st c hc] at k
      exact ⟨_, rfl, _, rfl, _, rfl, p, dx, lc, da, nl, st, c, rfl, hN, hnl, hc, fun H2 lc2 da2 z1 z2 z3 z4 => ⟨zJ (by show 1 ≤ 100000; decide), fun l hl => k.one H2 lc2 da2 z1 z2 z3 z4 l hl⟩⟩
    have hc := cd_rest (nK n1) (nK n2) (nK n3) (nK n4) n5 (nK n6)
    rw [(full_ask st c hc).1, (full_ask st c hc).2] at k
    exact ⟨_, rfl, _, rfl, _, rfl, p, dx, lc, da, nl, st, c, rfl, hN, hnl, hc, fun H2 z1 => ⟨zJ (by show 1 ≤ 100000; decide), fun l hl => k.one1 hN H2 z1 l hl⟩⟩
end
noncomputable abbrev sAnswers : Stmt := top 35
noncomputable def Short (a : Answer) : Prop := a.bytes = [] ∧ a.nums.length ≤ 900
theorem zO (z : Int) : Short (says z) := ⟨rfl, Nat.zero_le _⟩
theorem short_tell (n : Nat) : Short (tell n) := ⟨rfl, Nat.zero_le _⟩
theorem short_tells (z : Int) (l : List Nat) (h : l.length ≤ 900) : Short (tells z l) := ⟨rfl, by show (l.map _).length ≤ 900; rw [List.length_map]; exact h⟩
theorem short_told {g : Net} (w : WF g) {s t : Nat} {l : List Nat} (h : l ∈ g.ways s t) : Short (wayTold g l) := short_tells _ _ (by have := ways_short w h; rw [List.length_cons]; lia)
theorem short_on {g : Net} {l : List Nat} {a : Answer} (h : Short a) : Short (onNodes g l a) := by
  unfold onNodes
  split
  · exact h
  · exact zO _
theorem parted_le (n s t : Nat) : ∀ (r l : List (Nat × Nat)), (parted n s t l r).length ≤ r.length
  | [], l => Nat.le_refl _
  | x :: r, l => by
    unfold parted
    dsimp only
    split
    · rw [List.length_cons, List.length_cons]; have := parted_le n s t r (l.filter fun (y : Nat × Nat) => y != x); lia
    · rw [List.length_cons]; have := parted_le n s t r l; lia
theorem short_ask {g : Net} (w : WF g) (c : Call) : Short (WaySpec.ask g c) := by
  cases c with
  | len a b =>
    refine short_on ?_
    split
    · exact short_tell _
    · exact zO _
  | dist a b =>
    refine short_on ?_
    split
    · exact short_tell _
    · exact zO _
  | way l =>
    unfold WaySpec.ask
    dsimp only
    split
    · exact short_tell _
    · exact zO _
  | nth s t j =>
    refine short_on ?_
    cases q : (g.ways s t)[j]? with
    | some l => exact short_told w (List.mem_of_getElem? q)
    | none => exact zO _
  | ways a b => exact short_on (short_tell _)
  | place l =>
    unfold WaySpec.ask
    dsimp only
    split
    · exact short_tell _
    · exact zO _
  | over s t a b =>
    refine short_on ?_
    split
    · exact short_tell _
    · exact zO _
  | apart s t =>
    refine short_on ?_
    split
    · exact zO _
    · split
      · exact short_tell _
      · refine short_tells _ _ ?_
        have h1 : (flat2 (parted g.n s t g.live g.live)).length = 2 * (parted g.n s t g.live g.live).length := flat2_len _
        have h2 := parted_le g.n s t g.live g.live
        have h3 := live_len w
        show (flat2 (parted g.n s t g.live g.live)).length ≤ 900
        lia
  | net =>
    have h1 := whole_len g w g.arcs.length
    have h2 := arcs64 w
    rw [rowV_len] at h1
    have h3 : (full (WaySpec.ask g .net)).length = (wholeTo g g.arcs.length).length := by
      have := congrArg List.length (whole_full g)
      rwa [List.length_map, rowV_len] at this
    refine ⟨rfl, ?_⟩
    have h4 : (full (WaySpec.ask g .net)).length = (WaySpec.ask g .net).nums.length + 1 := rfl
    lia
  | begin_ n => exact zO _
  | arc a b n => exact zO _
  | cut a b => exact zO _
  | close a b => exact zO _
  | search a b => exact zO _
  | next => exact zO _
  | told => exact zO _
theorem short_step {st : State} (w : WF st.net) (c : Call) : Short (WaySpec.step st c).2 := by
  cases c with
  | begin_ n =>
    unfold WaySpec.step
    dsimp only
    split <;> exact zO _
  | arc a b n =>
    unfold WaySpec.step
    dsimp only
    split <;> exact zO _
  | cut a b =>
    unfold WaySpec.step
    dsimp only
    split
    · exact zO _
    · split <;> exact zO _
  | close a b =>
    unfold WaySpec.step
    dsimp only
    split <;> exact zO _
  | search a b =>
    unfold WaySpec.step
    dsimp only
    split <;> exact zO _
  | next =>
    unfold WaySpec.step
    dsimp only
    split
    · exact zO _
    · rename_i x hx
      cases q : (st.net.ways x.s x.t)[x.told]? with
      | none => exact zO _
      | some l => exact short_told w (List.mem_of_getElem? q)
  | told =>
    unfold WaySpec.step
    dsimp only
    split
    · exact zO _
    · exact short_tell _
  | len a b => exact short_ask w _
  | dist a b => exact short_ask w _
  | way l => exact short_ask w _
  | nth s t j => exact short_ask w _
  | ways a b => exact short_ask w _
  | place l => exact short_ask w _
  | over s t a b => exact short_ask w _
  | apart s t => exact short_ask w _
  | net => exact short_ask w _
theorem shown_form {a : Answer} (h : Short a) : WM.shown a = formOf (full a) := by
  obtain ⟨hb, _⟩ := h
  unfold WM.shown WaySpecNeutral.numbersOf formOf full
  rw [hb]
  simp
  lia
noncomputable def isRow : Call → Bool
  | .way _ => true
  | .place _ => true
  | _ => false
noncomputable def cnts : List Int := [1, 3, 2, 2, 2, 2, 0, 2, 0, 0, 3, 2, 0, 4, 2, 0]
theorem code_row : ∀ c : Call, isRow c = (decide (V.int (zZ c) = V.int 6) || decide (V.int (zZ c) = V.int 12)) := by
  intro c
  cases c <;> rfl
theorem reads_shape {l t : List Int} {c : Call} (h : Reads l c t) : (isRow c = false ∧ l = zZ c :: ((yD c).map nI ++ t) ∧ atI (cnts.map V.int) (zZ c) = some (.int ((yD c).length : Nat))) ∨
    (isRow c = true ∧ l = zZ c :: nI (yD c).length :: ((yD c).map nI ++ t) ∧ ∃ z, atI (cnts.map V.int) (zZ c) = some z) := by
  cases h <;> first | exact .inl ⟨rfl, rfl, rfl⟩ | exact .inr ⟨rfl, rfl, _, rfl⟩
noncomputable def FzL (K : PySem.W.Frag) (H : Hp) (a : Addr) (xs : List V) : Prop :=
  (∃ o, H a = some (.frz o (.lst xs))) ∨ ∃ (o : Obj) (its : Array Value) (n : Nat), K.lookup a = some o ∧ o.cls = .type "list" ∧ o.dict = none ∧ o.data = .seq its n ∧ its.size ≤ sizeLine ∧ Vals xs its.toList
theorem FzL.seq {K : PySem.W.Frag} {H : Hp} {a : Addr} {xs : List V} : FzL K H a xs → SqL K H a xs
  | .inl ⟨o, h⟩ => .inl (.inr ⟨o, h⟩)
  | .inr h => .inr h
theorem FzL.keep {K : PySem.W.Frag} {H H' : Hp} {a : Addr} {xs : List V} (h : FzL K H a xs) (k : ∀ o u, H a = some (.frz o u) → H' a = some (.frz o u)) : FzL K H' a xs := by
  rcases h with ⟨o, h⟩ | h
  · exact .inl ⟨o, k _ _ h⟩
  · exact .inr h
theorem FzL.of {K : PySem.W.Frag} {H : Hp} {a : Addr} {xs : List V} (hO : OnlyF H) (h : SqL K H a xs) : FzL K H a xs := by
  rcases h with (h | h) | h
  · rcases hO a with z | ⟨o, u, z⟩
    · rw [z] at h; cases h
    · rw [z] at h; cases h
  · exact .inl h
  · exact .inr h
theorem NetAt.wo {C : Addr} {H : Hp} {p dx lc da tl : Addr} {st : State} {o : Obj} {u : HO} (h : NetAt C H p dx lc da st) (ht : H tl = some (.frz o u)) : NetAt C (FW.wo H tl) p dx lc da st := by
  have nn : ∀ {b : Addr} {v : HO}, H b = some v → v ≠ .frz o u → FW.wo H tl b = some v := fun {b v} e hv => by rw [wo_ne (ne_of e ht hv)]; exact e
  refine ⟨h.wf, ?_, nn h.cl (by intro z; cases z), ?_⟩
  · obtain ⟨sv, tv, hp, hs⟩ := h.ob
    refine ⟨sv, tv, nn hp (by intro z; cases z), ?_⟩
    cases q : st.search with
    | none => rw [q] at hs; exact hs
    | some x =>
      rw [q] at hs
      obtain ⟨a, e, ⟨vs, hv, pr⟩, r⟩ := hs
      refine ⟨a, e, ⟨vs, nn hv (by intro z; cases z), ?_⟩, r⟩
      exact L2.Paired.mapP pr fun _ _ ⟨b, ra, e1, e2, e3⟩ => ⟨b, ra, e1, nn e2 (by intro z; cases z), nn e3 (by intro z; cases z)⟩
  · obtain ⟨kvs, hk, r⟩ := h.ar
    exact ⟨kvs, nn hk (by intro z; cases z), r⟩
theorem same_wo {H : Hp} {tl : Addr} {o : HO} : Same (FW.wo H tl) (upd H tl o) := fun b v e => by
  have hb : b ≠ tl := fun z => by rw [z] at e; unfold FW.wo at e; rw [if_pos rfl] at e; cases e
  rw [wo_ne hb] at e
  rw [zE hb]; exact e
theorem cut_mid (A B T : List Int) : cutV ((A ++ (B ++ T)).map V.int) (some ((A.length : Nat) : Int)) (some (((A.length : Nat) : Int) + ((B.length : Nat) : Int))) = B.map V.int := by
  have e : ((A.length : Nat) : Int) + ((B.length : Nat) : Int) = ((A.length + B.length : Nat) : Int) := by lia
  unfold cutV
  rw [e, HT.sIx_nat, HT.sIx_nat]
  have h1 : min A.length ((A ++ (B ++ T)).map V.int).length = A.length := Nat.min_eq_left (by simp)
  have h2 : min (A.length + B.length) ((A ++ (B ++ T)).map V.int).length = A.length + B.length := Nat.min_eq_left (by simp)
  rw [h1, h2, List.map_append, List.drop_left' (by simp), Nat.add_sub_cancel_left, List.map_append, List.take_left' (by simp)]
theorem nums_row (l : List Nat) : (l.map nI).map V.int = rowV l := by
  unfold rowV
  rw [List.map_map]
  rfl
theorem mid_at (A : List Int) (z : Int) (T : List Int) : atI ((A ++ z :: T).map V.int) ((A.length : Nat) : Int) = some (.int z) := by
  refine atI_nat ?_
  rw [List.getElem?_map, List.getElem?_append_right (Nat.le_refl _), Nat.sub_self]
  rfl
inductive IspAnswers (K : PySem.W.Frag) (vs : List V) (H : Hp) (Q : VK) : Prop
  | mk (ca : Addr) (l : List Int) (ks : List Call) (_h1 : vs = [.ref ca]) (_h2 : FzL K H ca (l.map V.int)) (_h3 : ReadsAll l ks) (_h4 : ks.length ≤ 100) (_h5 : ∀ (H' : Hp) (tl : Addr), H' tl = some (.lst ((outs WaySpec.start ks).map V.int)) → Q (.ref tl) H') : IspAnswers K vs H Q
noncomputable def spAnswers (K : PySem.W.Frag) : Sp := fun vs H Q _ => IspAnswers K vs H Q
theorem scAnswers : zR ["calls", "net", "told", "place", "call", "first", "count"] ["calls"] (zH sAnswers) := ⟨rfl, rfl, rfl, by decide +kernel, rfl, by decide +kernel, by decide +kernel⟩
noncomputable def tTail (K : PySem.W.Frag) (C : Addr) : TS := tSeq (tDrop (tBM K "list" rExtend (tVar 2) (tCons (tLockE (tCall spForm [] E0 (tCons (tCall (spAnswer2 C) [] E0 (tCons (tVar 1) (tCons (tVar 4) (tCons (tSl (rSlL K) (tVar 0) (tPart (tVar 5)) (tPart (tOp (rI0 fun i j => V.int (i + j)) (tVar 5) (tVar 6)))) tNil)))) tNil))) tNil))) (tAsg (tOp (rI0 fun i j => V.int (i + j)) (tVar 5) (tVar 6)) (gName 3))
inductive At (K : PySem.W.Frag) (C ca p dx tl : Addr) (l : List Int) (ks : List Call) (m : Nat) (σ : L2.St) (H : Hp) : Prop
  | mk (pre rest : List Int) (ks' : List Call) (st : State) (told : List Int) (lc da : Addr) (x4 x5 x6 : Option V) (_h1 : σ = [some (.ref ca), some (.ref p), some (.ref tl), some (.int (pre.length : Nat)), x4, x5, x6]) (_h2 : m = ks'.length) (_h3 : l = pre ++ rest) (_h4 : ReadsAll rest ks') (_h5 : outs WaySpec.start ks = told ++ outs st ks') (_h6 : told.length + 1000 * ks'.length ≤ 100000) (_h7 : NetAt C (FW.wo H tl) p dx lc da st) (_h8 : H tl = some (.lst (told.map V.int))) (_h9 : FzL K H ca (l.map V.int)) : At K C ca p dx tl l ks m σ H
theorem tail_ok {K : PySem.W.Frag} {C ca p dx tl lc da : Addr} {l pre2 t told : List Int} {ks cs : List Call} {c : Call} {st : State} {H2 : Hp} {D : Ends} {x3 : Option V} {xx : Int} (hN : NetAt C (FW.wo H2 tl) p dx lc da st) (htl : H2 tl = some (.lst (told.map V.int))) (hca2 : FzL K H2 ca (l.map V.int)) (hsh : Short (WaySpec.step st c).2)
    (el3 : l = pre2 ++ ((yD c).map nI ++ t)) (ef : xx = ((pre2.length : Nat) : Int)) (h2 : ReadsAll t cs) (hout : outs WaySpec.start ks = told ++ outs st (c :: cs)) (hlen : told.length + 1000 * (c :: cs).length ≤ 100000) (hD : D.nx = At K C ca p dx tl l ks cs.length) :
    tTail K C D [some (.ref ca), some (.ref p), some (.ref tl), x3, some (.int (zZ c)), some (.int xx), some (.int (((yD c).length : Nat) : Int))] H2 := by
  have hcut : cutV (l.map V.int) (some ((pre2.length : Nat) : Int)) (some (((pre2.length : Nat) : Int) + (((yD c).length : Nat) : Int))) = rowV (yD c) := by
    rw [el3, ← nums_row]
    have := cut_mid pre2 ((yD c).map nI) t
    rw [List.length_map] at this
    exact this
  refine ⟨_, rfl, .inl ⟨rfl, _, SqL.of htl⟩, tl, _, htl, trivial, fun od => ?_⟩
  have sL : Same (FW.wo H2 tl) (upd H2 tl (.frz od (.lst (told.map V.int)))) := same_wo
  have hcaL : FzL K (upd H2 tl (.frz od (.lst (told.map V.int)))) ca (l.map V.int) := hca2.keep fun o u e => by rw [zE (ne_of e htl (by intro z; cases z))]; exact e
  refine ⟨_, rfl, _, rfl, _, rfl, _, rfl, ((pre2.length : Nat) : Int), congrArg V.int ef, _, rfl, _, rfl, ((pre2.length : Nat) : Int), (((yD c).length : Nat) : Int), congrArg V.int ef, rfl, _, rfl, ca, _, rfl, hcaL.seq, fun ln eln => ?_⟩
  rw [hcut]
  have hNL := hN.mono (sL.trans (Same.upd (o := .lst (rowV (yD c))) eln))
  have htlL : upd (upd H2 tl (.frz od (.lst (told.map V.int)))) ln (.lst (rowV (yD c))) tl = some (.frz od (.lst (told.map V.int))) := Same.upd eln _ _ zB
  have hcaN : ∀ o u, H2 ca = some (.frz o u) → upd (upd H2 tl (.frz od (.lst (told.map V.int)))) ln (.lst (rowV (yD c))) ca = some (.frz o u) := fun o u e => Same.upd eln _ _ (by rw [zE (ne_of e htl (by intro z; cases z))]; exact e)
  have hlnN : upd (upd H2 tl (.frz od (.lst (told.map V.int)))) ln (.lst (rowV (yD c))) ln = some (.lst (rowV (yD c))) := zB
  generalize upd (upd H2 tl (.frz od (.lst (told.map V.int)))) ln (.lst (rowV (yD c))) = HL at hNL htlL hcaN hlnN
  obtain ⟨sv, tv, hp, _⟩ := hNL.ob
  obtain ⟨kva, hda', _⟩ := hNL.ar
  have hcl := hNL.cl
  refine ⟨p, dx, lc, da, ln, st, c, rfl, hNL, hlnN, fun H3 lc3 da3 la hN3 kept _ _ hla => ?_⟩
  have keepF : ∀ b o u, HL b = some (.frz o u) → H3 b = some (.frz o u) := fun b o u e => kept b _ e (ne_of e hp (by intro z; cases z)) (ne_of e hcl (by intro z; cases z)) (ne_of e hda' (by intro z; cases z))
  have htl3 := keepF _ _ _ htlL
  refine ⟨la, full (WaySpec.step st c).2, rfl, hla, List.cons_ne_nil _ _, (by have := hsh.2; show (WaySpec.step st c).2.nums.length + 1 ≤ 90000; lia), fun H4 lf s4 hlf hlf4 => ?_⟩
  have htl4 := s4 _ _ htl3
  have nlf : lf ≠ tl := fun z => by rw [z, htl3] at hlf; cases hlf
  have hfl : (formOf (full (WaySpec.step st c).2)).length ≤ 904 := by
    have := hsh.2
    unfold formOf full
    simp only [List.length_cons, List.tail_cons]
    lia
  have hlen2 : told.length + 1000 * (cs.length + 1) ≤ 100000 := hlen
  refine ⟨htl4, tl, lf, _, _, rfl, rfl, zB, (by rw [zE nlf]; exact hlf4), zJ (by rw [List.length_map, List.length_map]; lia), ?_⟩
  have e3 : ((pre2.length : Nat) : Int) + (((yD c).length : Nat) : Int) = (((pre2 ++ (yD c).map nI).length : Nat) : Int) := by simp
  refine ⟨_, rfl, _, rfl, ((pre2.length : Nat) : Int), (((yD c).length : Nat) : Int), congrArg V.int ef, rfl, ?_⟩
  show D.nx _ _
  rw [hD]
  refine ⟨pre2 ++ (yD c).map nI, t, cs, (WaySpec.step st c).1, told ++ formOf (full (WaySpec.step st c).2), lc3, da3, some (.int (zZ c)), some (.int (xx)), some (.int (((yD c).length : Nat) : Int)), ?_, rfl, ?_, h2, ?_, ?_, ?_, ?_, ?_⟩
  · rw [← e3]
    rfl
  · rw [el3, List.append_assoc]
  · rw [hout]
    show told ++ (WM.shown (WaySpec.step st c).2 ++ outs (WaySpec.step st c).1 cs) = _
    rw [shown_form hsh, List.append_assoc]
  · rw [List.length_append]
    lia
  · rw [wo_upd, wo_upd]
    exact (hN3.mono s4).wo htl4
  · rw [zB, List.map_append]
  · refine hca2.keep fun o u e => ?_
    have c1 : ca ≠ tl := ne_of e htl (by intro z; cases z)
    rw [zE c1, zE c1]
    exact s4 _ _ (keepF _ _ _ (hcaN o u e))
section
variable {P : Program} {w : World} {K : PySem.W.Frag} {mg : Str → Option Value} {base : Heap} {f C fI fN fA ct : Addr} {fd fdI fdN fdA : FuncData}
theorem ok_answers (F : Fun K "answers" "answers" sAnswers f fd) (T : Txt K mg C) (M : Mk K C fI) (G_init : FnOk P w K mg base CX0 1 fI fdI ["self"] (spInit C)) (b_init : Binds K fdI ["self"] [])
    (G_form : FnOk P w K mg base CX0 1 fN fdN ["told"] spForm) (b_form : Binds K fdN ["told"] []) (m_form : mg "told_form" = some (.ref fN)) (k_form : PySem.W.keepIn K (.ref fN) = true)
    (G_answer : FnOk P w K mg base CX0 6 fA fdA ["net", "call", "numbers"] (spAnswer2 C)) (b_answer : Binds K fdA ["net", "call", "numbers"] []) (m_answer : mg "answer" = some (.ref fA)) (k_answer : PySem.W.keepIn K (.ref fA) = true)
    (m_counts : mg "COUNTS" = some (.ref ct)) (h_counts : ∀ H : Hp, SqT K H ct (cnts.map V.int)) : FnOk P w K mg base CX0 7 f fd ["calls"] (spAnswers K) := by
  refine F.ok scAnswers (fun vs H Q E h => ?_) (fun cdv A outer s H vs Q E hr h => ?_)
  · obtain ⟨ca, l, ks, rfl, _⟩ := h
    rfl
  · obtain ⟨ca, l, ks, rfl, hca, hrd, hks, k⟩ := h
    have nd := scAnswers.nd
    have hr1 := hr.mono (show 1 ≤ 6 by decide)
    have hr2 := hr.mono (show 2 ≤ 6 by decide)
    refine let T10 : TS := _; let T9 : TS := _; let T8 : TS := _; let T7 : TS := _; let T6 : TS := _; let T5 : TS := _; let T4 : TS := _; let T3 : TS := _; let T2 : TS := _; let T1 : TS := _; ⟨_, (zC (ps_set (i := 1) nd rfl (Or.inl rfl) (pe_make0 M G_init hr2 rfl T.m_Net b_init .nil pass0))
      (sh T1 (zC (ps_set (i := 2) nd rfl (Or.inl rfl) (pe_lst zF))
      (sh T2 (zC (ps_set (i := 3) nd rfl (Or.inl rfl) zN)
      (sh T3 (zC (ps_while PassesOwn.never (zQ op_lt (pv 3) (yG zS (by rfl) T.len PySem.boot_len (zA (pv 0) zF)) (yC _)) (sh T4 (zC (ps_set (i := 4) nd rfl (Or.inl rfl) (pe_ix zP (pv 0) (pv 3) (fun _ _ => rfl)))
        (sh T5 (zC (ps_set (i := 5) nd rfl (Or.inl rfl) (pe_op op_add (pv 3) zN))
        (sh T6 (zC (ps_set (i := 6) nd rfl (Or.inl rfl) (pe_ix ix_tup (pe_glob (v := .ref ct) (by rfl) m_counts rfl) (pv 4) (fun _ _ => rfl)))
        (sh T7 (zC (ps_if (pw_or (zQ op_eq (pv 4) (pe_gi (by rfl) T.g_WAY) (yC _)) (pw_or1 (zQ op_eq (pv 4) (pe_gi (by rfl) T.g_PLACE) (yC _)))).pt (sh T8 (zC (ps_set (i := 6) nd rfl (Or.inl rfl) (pe_ix zP (pv 0) (pv 5) (fun _ _ => rfl)))
          (zD (ps_aug (i := 5) nd rfl (Or.inl rfl) zN ip_add)))) zM)
        (sh T9 (zC (ps_expr (pe_bm PySem.F.plainAttrs_list PySem.F.slot_list_extend PySem.F.type_list_extend mt_extend (pv 2) (zA (pe_lock (pe_call G_form hr1 (by rfl) m_form k_form b_form .nil pass0 (zA (pe_call G_answer hr (by rfl) m_answer k_answer b_answer .nil pass0 (zA (pv 1) (zA (pv 4) (zA (pe_slice sl_list (pv 0) (po_some (pv 5)) (po_some (pe_op op_add (pv 5) (pv 6)))) zF)))) zF))) zF)))
        (sh T10 (zD (ps_set (i := 3) nd rfl (Or.inl rfl) (pe_op op_add (pv 5) (pv 6))))))))))))))))
      (zD (zL (pv 2)))))))))), ?_⟩
    intro p dx np nx e0
    refine ⟨p, dx, rfl, zB, fun H1 lc da hN1 k1 hlc hda => ⟨rfl, ?_⟩⟩
    have s1 : Same H H1 := Same.made np nx k1
    have hca1 : FzL K H1 ca (l.map V.int) := hca.keep fun o u e => s1 _ _ e
    refine ⟨zJ (by show 0 ≤ 100000; decide), fun tl etl => ?_⟩
    have stl : Same H1 (upd H1 tl (.lst [])) := Same.upd etl
    refine ⟨At K C ca p dx tl l ks,
      ⟨ks.length, [], l, ks, WaySpec.start, [], lc, da, none, none, none, rfl, rfl, rfl, hrd, rfl, (by show 0 + 1000 * ks.length ≤ 100000; lia), (by rw [wo_upd, wo_none etl]; exact hN1), zB, hca1.keep fun o u e => stl _ _ e⟩, ?_⟩
    rintro m σ H2 ⟨pre, rest, ks', st, told, lc, da, x4, x5, x6, rfl, rfl, el, hrd', hout, hlen, hN, htl, hca2⟩
    refine ⟨_, rfl, _, rfl, ca, _, rfl, .inl hca2.seq, _, _, rfl, rfl, _, rfl, ?_⟩
    have hcond : decide (((pre.length : Nat) : Int) < ((l.map V.int).length : Int)) = decide (rest ≠ []) := by
      rw [List.length_map, el, List.length_append]
      refine decide_eq_decide.mpr ?_
      constructor
      · intro h z; rw [z] at h; simp at h
      · intro h
        have := List.length_pos_iff.mpr h
        lia
    show if decide (((pre.length : Nat) : Int) < ((l.map V.int).length : Int)) = true then _ else _
    rw [hcond]
    refine zK (fun hne => ?_) fun hnil => ?_
    · cases hrd' with
      | nil => exact absurd rfl (of_decide_eq_true hne)
      | @cons rest t c cs h1 h2 =>
      have wf := hN.wf
      have hsh := short_step wf c
      refine ⟨At K C ca p dx tl l ks cs.length, fun σ' H' h => ⟨cs.length, by simp, h⟩, ?_⟩
      rcases reads_shape h1 with ⟨hrow, er, hat⟩ | ⟨hrow, er, z, hat⟩
      · have el2 : l = pre ++ zZ c :: ((yD c).map nI ++ t) := by rw [el, er]
        refine ⟨_, rfl, _, rfl, ca, _, _, .int (zZ c), rfl, rfl, hca2.seq, (by rw [el2]; exact mid_at _ _ _), ?_⟩
        refine ⟨_, rfl, _, _, rfl, rfl, ?_⟩
        refine ⟨_, rfl, ct, _, _, _, rfl, rfl, h_counts H2, hat, ?_⟩
        rw [code_row, Bool.or_eq_false_iff] at hrow
        refine ⟨_, rfl, rfl, _, rfl, ?_⟩
        refine zK (fun h => absurd (hrow.1.symm.trans h) (by decide)) fun _ => ?_
        refine ⟨_, rfl, rfl, _, rfl, ?_⟩
        refine zK (fun h => absurd (hrow.2.symm.trans h) (by decide)) fun _ => ?_
        have ef : (((pre.length : Nat) : Int) + 1) = (((pre ++ [zZ c]).length : Nat) : Int) := by simp
        have el3 : l = (pre ++ [zZ c]) ++ ((yD c).map nI ++ t) := by rw [el2]; simp
        generalize hpre2 : pre ++ [zZ c] = pre2 at el3 ef
        exact tail_ok hN htl hca2 hsh el3 ef h2 hout hlen rfl
      · have el2 : l = pre ++ zZ c :: (nI (yD c).length :: ((yD c).map nI ++ t)) := by rw [el, er]
        refine ⟨_, rfl, _, rfl, ca, _, _, .int (zZ c), rfl, rfl, hca2.seq, (by rw [el2]; exact mid_at _ _ _), ?_⟩
        refine ⟨_, rfl, _, _, rfl, rfl, ?_⟩
        refine ⟨_, rfl, ct, _, _, _, rfl, rfl, h_counts H2, hat, ?_⟩
        have ef : (((pre.length : Nat) : Int) + 1 + 1) = (((pre ++ [zZ c, nI (yD c).length]).length : Nat) : Int) := by simp; lia
        have el3 : l = (pre ++ [zZ c, nI (yD c).length]) ++ ((yD c).map nI ++ t) := by rw [el2]; simp
        have el4 : l = (pre ++ [zZ c]) ++ nI (yD c).length :: ((yD c).map nI ++ t) := by rw [el2]; simp
        have hat2 : atI (l.map V.int) (((pre.length : Nat) : Int) + 1) = some (.int (((yD c).length : Nat) : Int)) := by
          have e1 : ((pre.length : Nat) : Int) + 1 = (((pre ++ [zZ c]).length : Nat) : Int) := by simp
          rw [e1, el4]
          exact mid_at _ _ _
        generalize hpre2 : pre ++ [zZ c, nI (yD c).length] = pre2 at el3 ef
        rw [code_row, Bool.or_eq_true] at hrow
        refine ⟨_, rfl, rfl, _, rfl, ?_⟩
        rcases hrow with h6 | h12
        · rw [h6]
          refine iteT (iteT ?_)
          refine ⟨_, rfl, _, rfl, ca, _, _, _, rfl, rfl, hca2.seq, hat2, ?_⟩
          refine ⟨_, rfl, _, _, rfl, rfl, ?_⟩
          exact tail_ok hN htl hca2 hsh el3 ef h2 hout hlen rfl
        · have h6 : decide (V.int (zZ c) = V.int 6) = false := by
            have e12 : V.int (zZ c) = V.int 12 := of_decide_eq_true h12
            rw [e12]
            decide
          rw [h6]
          refine iteF ?_
          refine ⟨_, rfl, rfl, _, rfl, ?_⟩
          rw [h12]
          refine iteT ?_
          refine ⟨_, rfl, _, rfl, ca, _, _, _, rfl, rfl, hca2.seq, hat2, ?_⟩
          refine ⟨_, rfl, _, _, rfl, rfl, ?_⟩
          exact tail_ok hN htl hca2 hsh el3 ef h2 hout hlen rfl
    · have hnil : rest = [] := Classical.byContradiction fun z => of_decide_eq_false hnil z
      subst hnil
      cases hrd' with
      | nil =>
        refine ⟨_, rfl, k H2 tl ?_⟩
        rw [hout]
        show H2 tl = some (.lst ((told ++ []).map V.int))
        rw [List.append_nil]
        exact htl
      | cons h1 _ => cases h1
end
end FW
namespace FW
open PySem PySem.Spec PySem.W PyProof.Rows L2 PZ
open WayNet WaySpec WM
theorem us1 {us : List Value} (h : us.length = 1) : ∃ a, us = [a] := match us, h with | [a], _ => ⟨a, rfl⟩
theorem us2 {us : List Value} (h : us.length = 2) : ∃ a b, us = [a, b] := match us, h with | [a, b], _ => ⟨a, b, rfl⟩
theorem us3 {us : List Value} (h : us.length = 3) : ∃ a b c, us = [a, b, c] := match us, h with | [a, b, c], _ => ⟨a, b, c, rfl⟩
theorem us4 {us : List Value} (h : us.length = 4) : ∃ a b c d, us = [a, b, c, d] := match us, h with | [a, b, c, d], _ => ⟨a, b, c, d, rfl⟩
theorem us5 {us : List Value} (h : us.length = 5) : ∃ a b c d e, us = [a, b, c, d, e] := match us, h with | [a, b, c, d, e], _ => ⟨a, b, c, d, e, rfl⟩
theorem all_mk {P : Program} {w : World} {K : PySem.W.Frag} {h : Heap} {mg : Str → Option Value} {fa C ct : Addr} {f_m0 f_m1 f_m2 f_m3 f_m4 f_m5 f_m6 f_m7 f_m8 f_m9 f_m10 f_m11 f_m12 f_m13 f_m14 f_m15 f_m16 f_m17 f_m18 f_m19 f_m20 f_m21 f_m22 f_t0 f_t1 f_t2 f_t3 f_t4 f_t5 f_t6 f_t7 f_t8 f_t9 f_t10 f_t11 : Addr} (X : K.In h) (G : h.Ns mainGlobals mg) (hfa : mg "answers" = some (.ref fa))
    {od_t11 an_t11 odc : Option Addr} {sl_t11 slc : Array (Option Value)} {oc_t11 kV_t11 dc_t11 pm_t11 cd_t11 ct_t11 : Value} {tk_DONE tk_NOT_THERE tk_NONE_SUCH tk_NO_SEARCH tk_BEGIN tk_ARC tk_CUT tk_CLOSE tk_LEN tk_DIST tk_WAY tk_SEARCH tk_NEXT tk_TOLD tk_NTH tk_WAYS tk_PLACE tk_APART tk_NET tk_MOST_NODES tk_LONGEST_ARC tc0 tc1 tc2 tc3 tc4 tc5 tc6 tc7 tc8 tc9 tc10 tc11 tc12 tc13 tc14 tc15 : Tok} {nc : Nat}
    (aC : nsIn K mainGlobals "Net" = some (some (.ref C)))
    (a_m0 : findIn K (.ref C) "__init__" = some (some (.ref f_m0)))
    (i_m0 : isFn K (.ref f_m0) = true)
    (x_m0 : ∃ fd, Fun K "__init__" "Net.__init__" sInit f_m0 fd)
    (a_m1 : findIn K (.ref C) "begin" = some (some (.ref f_m1)))
    (i_m1 : isFn K (.ref f_m1) = true)
    (x_m1 : ∃ fd, Fun K "begin" "Net.begin" sBegin f_m1 fd)
    (a_m2 : findIn K (.ref C) "has" = some (some (.ref f_m2)))
    (i_m2 : isFn K (.ref f_m2) = true)
    (x_m2 : ∃ fd, Fun K "has" "Net.has" sHas f_m2 fd)
    (a_m3 : findIn K (.ref C) "has_both" = some (some (.ref f_m3)))
    (i_m3 : isFn K (.ref f_m3) = true)
    (x_m3 : ∃ fd, Fun K "has_both" "Net.has_both" sBoth f_m3 fd)
    (a_m4 : findIn K (.ref C) "set_arc" = some (some (.ref f_m4)))
    (i_m4 : isFn K (.ref f_m4) = true)
    (x_m4 : ∃ fd, Fun K "set_arc" "Net.set_arc" sArc f_m4 fd)
    (a_m5 : findIn K (.ref C) "cut_arc" = some (some (.ref f_m5)))
    (i_m5 : isFn K (.ref f_m5) = true)
    (x_m5 : ∃ fd, Fun K "cut_arc" "Net.cut_arc" sCut f_m5 fd)
    (a_m6 : findIn K (.ref C) "close_node" = some (some (.ref f_m6)))
    (i_m6 : isFn K (.ref f_m6) = true)
    (x_m6 : ∃ fd, Fun K "close_node" "Net.close_node" sClose f_m6 fd)
    (a_m7 : findIn K (.ref C) "arc_length" = some (some (.ref f_m7)))
    (i_m7 : isFn K (.ref f_m7) = true)
    (x_m7 : ∃ fd, Fun K "arc_length" "Net.arc_length" sLen f_m7 fd)
    (a_m8 : findIn K (.ref C) "distance" = some (some (.ref f_m8)))
    (i_m8 : isFn K (.ref f_m8) = true)
    (x_m8 : ∃ fd, Fun K "distance" "Net.distance" sDist f_m8 fd)
    (a_m9 : findIn K (.ref C) "shortest_from" = some (some (.ref f_m9)))
    (i_m9 : isFn K (.ref f_m9) = true)
    (x_m9 : ∃ fd, Fun K "shortest_from" "Net.shortest_from" sFrom f_m9 fd)
    (a_m10 : findIn K (.ref C) "shorten" = some (some (.ref f_m10)))
    (i_m10 : isFn K (.ref f_m10) = true)
    (x_m10 : ∃ fd, Fun K "shorten" "Net.shorten" sShort f_m10 fd)
    (a_m11 : findIn K (.ref C) "way_length" = some (some (.ref f_m11)))
    (i_m11 : isFn K (.ref f_m11) = true)
    (x_m11 : ∃ fd, Fun K "way_length" "Net.way_length" sWay f_m11 fd)
    (a_m12 : findIn K (.ref C) "arcs_onward" = some (some (.ref f_m12)))
    (i_m12 : isFn K (.ref f_m12) = true)
    (x_m12 : ∃ fd, Fun K "arcs_onward" "Net.arcs_onward" sOnw f_m12 fd)
    (a_m13 : findIn K (.ref C) "ordered_ways" = some (some (.ref f_m13)))
    (i_m13 : isFn K (.ref f_m13) = true)
    (x_m13 : ∃ fd, Fun K "ordered_ways" "Net.ordered_ways" sOrd f_m13 fd)
    (a_m14 : findIn K (.ref C) "start_search" = some (some (.ref f_m14)))
    (i_m14 : isFn K (.ref f_m14) = true)
    (x_m14 : ∃ fd, Fun K "start_search" "Net.start_search" sSearch f_m14 fd)
    (a_m15 : findIn K (.ref C) "next_way" = some (some (.ref f_m15)))
    (i_m15 : isFn K (.ref f_m15) = true)
    (x_m15 : ∃ fd, Fun K "next_way" "Net.next_way" sNext f_m15 fd)
    (a_m16 : findIn K (.ref C) "told_ways" = some (some (.ref f_m16)))
    (i_m16 : isFn K (.ref f_m16) = true)
    (x_m16 : ∃ fd, Fun K "told_ways" "Net.told_ways" sToldWays f_m16 fd)
    (a_m17 : findIn K (.ref C) "way_at" = some (some (.ref f_m17)))
    (i_m17 : isFn K (.ref f_m17) = true)
    (x_m17 : ∃ fd, Fun K "way_at" "Net.way_at" sWayAt f_m17 fd)
    (a_m18 : findIn K (.ref C) "count_ways" = some (some (.ref f_m18)))
    (i_m18 : isFn K (.ref f_m18) = true)
    (x_m18 : ∃ fd, Fun K "count_ways" "Net.count_ways" sCount f_m18 fd)
    (a_m19 : findIn K (.ref C) "place_of" = some (some (.ref f_m19)))
    (i_m19 : isFn K (.ref f_m19) = true)
    (x_m19 : ∃ fd, Fun K "place_of" "Net.place_of" sPlace f_m19 fd)
    (a_m20 : findIn K (.ref C) "count_over" = some (some (.ref f_m20)))
    (i_m20 : isFn K (.ref f_m20) = true)
    (x_m20 : ∃ fd, Fun K "count_over" "Net.count_over" sOver f_m20 fd)
    (a_m21 : findIn K (.ref C) "parting" = some (some (.ref f_m21)))
    (i_m21 : isFn K (.ref f_m21) = true)
    (x_m21 : ∃ fd, Fun K "parting" "Net.parting" sPart f_m21 fd)
    (a_m22 : findIn K (.ref C) "whole" = some (some (.ref f_m22)))
    (i_m22 : isFn K (.ref f_m22) = true)
    (x_m22 : ∃ fd, Fun K "whole" "Net.whole" sWhole f_m22 fd)
    (a_t0 : nsIn K mainGlobals "longer_rows" = some (some (.ref f_t0)))
    (x_t0 : ∃ fd, Fun K "longer_rows" "longer_rows" sLonger f_t0 fd)
    (a_t1 : nsIn K mainGlobals "all_ways" = some (some (.ref f_t1)))
    (x_t1 : ∃ fd, Fun K "all_ways" "all_ways" sAll f_t1 fd)
    (a_t2 : nsIn K mainGlobals "way_told" = some (some (.ref f_t2)))
    (x_t2 : ∃ fd, Fun K "way_told" "way_told" sWayTold f_t2 fd)
    (a_t3 : nsIn K mainGlobals "sides_with" = some (some (.ref f_t3)))
    (x_t3 : ∃ fd, Fun K "sides_with" "sides_with" sSides f_t3 fd)
    (a_t4 : nsIn K mainGlobals "leading_out" = some (some (.ref f_t4)))
    (x_t4 : ∃ fd, Fun K "leading_out" "leading_out" sLead f_t4 fd)
    (a_t5 : nsIn K mainGlobals "fewest_first" = some (some (.ref f_t5)))
    (x_t5 : ∃ fd, Fun K "fewest_first" "fewest_first" sFew f_t5 fd)
    (a_t6 : nsIn K mainGlobals "first_least_parting" = some (some (.ref f_t6)))
    (x_t6 : ∃ fd, Fun K "first_least_parting" "first_least_parting" sFirst f_t6 fd)
    (a_t7 : nsIn K mainGlobals "changed" = some (some (.ref f_t7)))
    (x_t7 : ∃ fd, Fun K "changed" "changed" sChanged f_t7 fd)
    (a_t8 : nsIn K mainGlobals "asked" = some (some (.ref f_t8)))
    (x_t8 : ∃ fd, Fun K "asked" "asked" sAsked f_t8 fd)
    (a_t9 : nsIn K mainGlobals "answer" = some (some (.ref f_t9)))
    (x_t9 : ∃ fd, Fun K "answer" "answer" sAnswer f_t9 fd)
    (a_t10 : nsIn K mainGlobals "told_form" = some (some (.ref f_t10)))
    (x_t10 : ∃ fd, Fun K "told_form" "told_form" sForm f_t10 fd)
    (a_t11 : nsIn K mainGlobals "answers" = some (some (.ref f_t11)))
    (l_t11 : K.lookup f_t11 = some ⟨oc_t11, od_t11, .func (PySem.W.fnOf "answers" "answers" (defArgs sAnswers) (defBody sAnswers) (zH sAnswers) .none kV_t11 dc_t11 pm_t11 an_t11 cd_t11 ct_t11), sl_t11⟩)
    (c_t11 : PySem.W.codeIn K cd_t11 "answers" = true)
    (k_t11 : PySem.W.keepIn K (.ref f_t11) = true)
    (pg : PySem.W.plainGet K C Str.empty = true)
    (hd : PySem.W.hasDictIn K C = true)
    (po : PySem.W.plainOver K C = true)
    (sa : findIn K (.ref C) "__setattr__" = some (some (.builtin "object.__setattr__")))
    (mk : PySem.W.makesIn K C = true)
    (kc : PySem.W.keepIn K (.ref C) = true)
    (n_closed : findIn K (.ref C) "closed" = some none)
    (n_arcs : findIn K (.ref C) "arcs" = some none)
    (n_search : findIn K (.ref C) "search" = some none)
    (n_told : findIn K (.ref C) "told" = some none)
    (z_len : nsIn K mainGlobals "len" = some none)
    (z_range : nsIn K mainGlobals "range" = some none)
    (z_enumerate : nsIn K mainGlobals "enumerate" = some none)
    (z_sorted : nsIn K mainGlobals "sorted" = some none)
    (z_min : nsIn K mainGlobals "min" = some none)
    (z_list : nsIn K mainGlobals "list" = some none)
    (z_zip : nsIn K mainGlobals "zip" = some none)
    (g_DONE : nsIn K mainGlobals "DONE" = some (some (.int (0) tk_DONE)))
    (g_NOT_THERE : nsIn K mainGlobals "NOT_THERE" = some (some (.int (-1) tk_NOT_THERE)))
    (g_NONE_SUCH : nsIn K mainGlobals "NONE_SUCH" = some (some (.int (-2) tk_NONE_SUCH)))
    (g_NO_SEARCH : nsIn K mainGlobals "NO_SEARCH" = some (some (.int (-3) tk_NO_SEARCH)))
    (g_BEGIN : nsIn K mainGlobals "BEGIN" = some (some (.int (0) tk_BEGIN)))
    (g_ARC : nsIn K mainGlobals "ARC" = some (some (.int (1) tk_ARC)))
    (g_CUT : nsIn K mainGlobals "CUT" = some (some (.int (2) tk_CUT)))
    (g_CLOSE : nsIn K mainGlobals "CLOSE" = some (some (.int (3) tk_CLOSE)))
    (g_LEN : nsIn K mainGlobals "LEN" = some (some (.int (4) tk_LEN)))
    (g_DIST : nsIn K mainGlobals "DIST" = some (some (.int (5) tk_DIST)))
    (g_WAY : nsIn K mainGlobals "WAY" = some (some (.int (6) tk_WAY)))
    (g_SEARCH : nsIn K mainGlobals "SEARCH" = some (some (.int (7) tk_SEARCH)))
    (g_NEXT : nsIn K mainGlobals "NEXT" = some (some (.int (8) tk_NEXT)))
    (g_TOLD : nsIn K mainGlobals "TOLD" = some (some (.int (9) tk_TOLD)))
    (g_NTH : nsIn K mainGlobals "NTH" = some (some (.int (10) tk_NTH)))
    (g_WAYS : nsIn K mainGlobals "WAYS" = some (some (.int (11) tk_WAYS)))
    (g_PLACE : nsIn K mainGlobals "PLACE" = some (some (.int (12) tk_PLACE)))
    (g_APART : nsIn K mainGlobals "APART" = some (some (.int (14) tk_APART)))
    (g_NET : nsIn K mainGlobals "NET" = some (some (.int (15) tk_NET)))
    (g_MOST_NODES : nsIn K mainGlobals "MOST_NODES" = some (some (.int (8) tk_MOST_NODES)))
    (g_LONGEST_ARC : nsIn K mainGlobals "LONGEST_ARC" = some (some (.int (65535) tk_LONGEST_ARC)))
    (aK : nsIn K mainGlobals "COUNTS" = some (some (.ref ct)))
    (lK : K.lookup ct = some ⟨.type "tuple", odc, .seq #[.int 1 tc0, .int 3 tc1, .int 2 tc2, .int 2 tc3, .int 2 tc4, .int 2 tc5, .int 0 tc6, .int 2 tc7, .int 0 tc8, .int 0 tc9, .int 3 tc10, .int 2 tc11, .int 0 tc12, .int 4 tc13, .int 2 tc14, .int 0 tc15] nc, slc⟩) :
    ∃ fd : FuncData, (∀ (s : Shared) (us : List Value), us.length = (["calls"] : List Str).length → BindsTo s fd ⟨us, []⟩ ((["calls"] : List Str).zip us)) ∧ ∀ base : Heap, K.In base → base.Ns mainGlobals mg → FnOk P w K mg base CX0 7 fa fd ["calls"] (spAnswers K) := by
  have e := hfa.symm.trans (mg_of X G a_t11)
  cases e
  have T : Txt K mg C := ⟨⟨pg, hd, po, sa⟩, n_closed, n_arcs, n_search, n_told, mg_of X G aC, mg_none_of X G z_len, mg_none_of X G z_range, mg_none_of X G z_enumerate, mg_none_of X G z_sorted, mg_none_of X G z_min, mg_none_of X G z_list, mg_none_of X G z_zip,
    ⟨_, mg_of X G g_DONE⟩, ⟨_, mg_of X G g_NOT_THERE⟩, ⟨_, mg_of X G g_NONE_SUCH⟩, ⟨_, mg_of X G g_NO_SEARCH⟩, ⟨_, mg_of X G g_BEGIN⟩, ⟨_, mg_of X G g_ARC⟩, ⟨_, mg_of X G g_CUT⟩, ⟨_, mg_of X G g_CLOSE⟩, ⟨_, mg_of X G g_LEN⟩, ⟨_, mg_of X G g_DIST⟩, ⟨_, mg_of X G g_WAY⟩, ⟨_, mg_of X G g_SEARCH⟩, ⟨_, mg_of X G g_NEXT⟩, ⟨_, mg_of X G g_TOLD⟩, ⟨_, mg_of X G g_NTH⟩, ⟨_, mg_of X G g_WAYS⟩, ⟨_, mg_of X G g_PLACE⟩, ⟨_, mg_of X G g_APART⟩, ⟨_, mg_of X G g_NET⟩, ⟨_, mg_of X G g_MOST_NODES⟩, ⟨_, mg_of X G g_LONGEST_ARC⟩⟩
  obtain ⟨_, F_m0⟩ := x_m0
  have k_m0 := F_m0.kp
  have b_m0 := F_m0.binds (ps := ["self"]) fun _ _ _ _ _ _ us hl => by obtain ⟨_, rfl⟩ := us1 hl; rfl
  have m_m0 : Meth K C "__init__" f_m0 := ⟨a_m0, i_m0, k_m0⟩
  obtain ⟨_, F_m1⟩ := x_m1
  have k_m1 := F_m1.kp
  have b_m1 := F_m1.binds (ps := ["self", "nodes"]) fun _ _ _ _ _ _ us hl => by obtain ⟨_, _, rfl⟩ := us2 hl; rfl
  have m_m1 : Meth K C "begin" f_m1 := ⟨a_m1, i_m1, k_m1⟩
  obtain ⟨_, F_m2⟩ := x_m2
  have k_m2 := F_m2.kp
  have b_m2 := F_m2.binds (ps := ["self", "node"]) fun _ _ _ _ _ _ us hl => by obtain ⟨_, _, rfl⟩ := us2 hl; rfl
  have m_m2 : Meth K C "has" f_m2 := ⟨a_m2, i_m2, k_m2⟩
  obtain ⟨_, F_m3⟩ := x_m3
  have k_m3 := F_m3.kp
  have b_m3 := F_m3.binds (ps := ["self", "a", "b"]) fun _ _ _ _ _ _ us hl => by obtain ⟨_, _, _, rfl⟩ := us3 hl; rfl
  have m_m3 : Meth K C "has_both" f_m3 := ⟨a_m3, i_m3, k_m3⟩
  obtain ⟨_, F_m4⟩ := x_m4
  have k_m4 := F_m4.kp
  have b_m4 := F_m4.binds (ps := ["self", "a", "b", "length"]) fun _ _ _ _ _ _ us hl => by obtain ⟨_, _, _, _, rfl⟩ := us4 hl; rfl
  have m_m4 : Meth K C "set_arc" f_m4 := ⟨a_m4, i_m4, k_m4⟩
  obtain ⟨_, F_m5⟩ := x_m5
  have k_m5 := F_m5.kp
  have b_m5 := F_m5.binds (ps := ["self", "a", "b"]) fun _ _ _ _ _ _ us hl => by obtain ⟨_, _, _, rfl⟩ := us3 hl; rfl
  have m_m5 : Meth K C "cut_arc" f_m5 := ⟨a_m5, i_m5, k_m5⟩
  obtain ⟨_, F_m6⟩ := x_m6
  have k_m6 := F_m6.kp
  have b_m6 := F_m6.binds (ps := ["self", "node", "c"]) fun _ _ _ _ _ _ us hl => by obtain ⟨_, _, _, rfl⟩ := us3 hl; rfl
  have m_m6 : Meth K C "close_node" f_m6 := ⟨a_m6, i_m6, k_m6⟩
  obtain ⟨_, F_m7⟩ := x_m7
  have k_m7 := F_m7.kp
  have b_m7 := F_m7.binds (ps := ["self", "a", "b"]) fun _ _ _ _ _ _ us hl => by obtain ⟨_, _, _, rfl⟩ := us3 hl; rfl
  have m_m7 : Meth K C "arc_length" f_m7 := ⟨a_m7, i_m7, k_m7⟩
  obtain ⟨_, F_m8⟩ := x_m8
  have k_m8 := F_m8.kp
  have b_m8 := F_m8.binds (ps := ["self", "s", "t"]) fun _ _ _ _ _ _ us hl => by obtain ⟨_, _, _, rfl⟩ := us3 hl; rfl
  have m_m8 : Meth K C "distance" f_m8 := ⟨a_m8, i_m8, k_m8⟩
  obtain ⟨_, F_m9⟩ := x_m9
  have k_m9 := F_m9.kp
  have b_m9 := F_m9.binds (ps := ["self", "s"]) fun _ _ _ _ _ _ us hl => by obtain ⟨_, _, rfl⟩ := us2 hl; rfl
  have m_m9 : Meth K C "shortest_from" f_m9 := ⟨a_m9, i_m9, k_m9⟩
  obtain ⟨_, F_m10⟩ := x_m10
  have k_m10 := F_m10.kp
  have b_m10 := F_m10.binds (ps := ["self", "shortest"]) fun _ _ _ _ _ _ us hl => by obtain ⟨_, _, rfl⟩ := us2 hl; rfl
  have m_m10 : Meth K C "shorten" f_m10 := ⟨a_m10, i_m10, k_m10⟩
  obtain ⟨_, F_m11⟩ := x_m11
  have k_m11 := F_m11.kp
  have b_m11 := F_m11.binds (ps := ["self", "row"]) fun _ _ _ _ _ _ us hl => by obtain ⟨_, _, rfl⟩ := us2 hl; rfl
  have m_m11 : Meth K C "way_length" f_m11 := ⟨a_m11, i_m11, k_m11⟩
  obtain ⟨_, F_m12⟩ := x_m12
  have k_m12 := F_m12.kp
  have b_m12 := F_m12.binds (ps := ["self"]) fun _ _ _ _ _ _ us hl => by obtain ⟨_, rfl⟩ := us1 hl; rfl
  have m_m12 : Meth K C "arcs_onward" f_m12 := ⟨a_m12, i_m12, k_m12⟩
  obtain ⟨_, F_m13⟩ := x_m13
  have k_m13 := F_m13.kp
  have b_m13 := F_m13.binds (ps := ["self", "s", "t"]) fun _ _ _ _ _ _ us hl => by obtain ⟨_, _, _, rfl⟩ := us3 hl; rfl
  have m_m13 : Meth K C "ordered_ways" f_m13 := ⟨a_m13, i_m13, k_m13⟩
  obtain ⟨_, F_m14⟩ := x_m14
  have k_m14 := F_m14.kp
  have b_m14 := F_m14.binds (ps := ["self", "s", "t"]) fun _ _ _ _ _ _ us hl => by obtain ⟨_, _, _, rfl⟩ := us3 hl; rfl
  have m_m14 : Meth K C "start_search" f_m14 := ⟨a_m14, i_m14, k_m14⟩
  obtain ⟨_, F_m15⟩ := x_m15
  have k_m15 := F_m15.kp
  have b_m15 := F_m15.binds (ps := ["self"]) fun _ _ _ _ _ _ us hl => by obtain ⟨_, rfl⟩ := us1 hl; rfl
  have m_m15 : Meth K C "next_way" f_m15 := ⟨a_m15, i_m15, k_m15⟩
  obtain ⟨_, F_m16⟩ := x_m16
  have k_m16 := F_m16.kp
  have b_m16 := F_m16.binds (ps := ["self"]) fun _ _ _ _ _ _ us hl => by obtain ⟨_, rfl⟩ := us1 hl; rfl
  have m_m16 : Meth K C "told_ways" f_m16 := ⟨a_m16, i_m16, k_m16⟩
  obtain ⟨_, F_m17⟩ := x_m17
  have k_m17 := F_m17.kp
  have b_m17 := F_m17.binds (ps := ["self", "s", "t", "k"]) fun _ _ _ _ _ _ us hl => by obtain ⟨_, _, _, _, rfl⟩ := us4 hl; rfl
  have m_m17 : Meth K C "way_at" f_m17 := ⟨a_m17, i_m17, k_m17⟩
  obtain ⟨_, F_m18⟩ := x_m18
  have k_m18 := F_m18.kp
  have b_m18 := F_m18.binds (ps := ["self", "s", "t"]) fun _ _ _ _ _ _ us hl => by obtain ⟨_, _, _, rfl⟩ := us3 hl; rfl
  have m_m18 : Meth K C "count_ways" f_m18 := ⟨a_m18, i_m18, k_m18⟩
  obtain ⟨_, F_m19⟩ := x_m19
  have k_m19 := F_m19.kp
  have b_m19 := F_m19.binds (ps := ["self", "row"]) fun _ _ _ _ _ _ us hl => by obtain ⟨_, _, rfl⟩ := us2 hl; rfl
  have m_m19 : Meth K C "place_of" f_m19 := ⟨a_m19, i_m19, k_m19⟩
  obtain ⟨_, F_m20⟩ := x_m20
  have k_m20 := F_m20.kp
  have b_m20 := F_m20.binds (ps := ["self", "s", "t", "a", "b"]) fun _ _ _ _ _ _ us hl => by obtain ⟨_, _, _, _, _, rfl⟩ := us5 hl; rfl
  have m_m20 : Meth K C "count_over" f_m20 := ⟨a_m20, i_m20, k_m20⟩
  obtain ⟨_, F_m21⟩ := x_m21
  have k_m21 := F_m21.kp
  have b_m21 := F_m21.binds (ps := ["self", "s", "t"]) fun _ _ _ _ _ _ us hl => by obtain ⟨_, _, _, rfl⟩ := us3 hl; rfl
  have m_m21 : Meth K C "parting" f_m21 := ⟨a_m21, i_m21, k_m21⟩
  obtain ⟨_, F_m22⟩ := x_m22
  have k_m22 := F_m22.kp
  have b_m22 := F_m22.binds (ps := ["self"]) fun _ _ _ _ _ _ us hl => by obtain ⟨_, rfl⟩ := us1 hl; rfl
  have m_m22 : Meth K C "whole" f_m22 := ⟨a_m22, i_m22, k_m22⟩
  obtain ⟨_, F_t0⟩ := x_t0
  have k_t0 := F_t0.kp
  have b_t0 := F_t0.binds (ps := ["onward", "length", "row"]) fun _ _ _ _ _ _ us hl => by obtain ⟨_, _, _, rfl⟩ := us3 hl; rfl
  have m_t0 := mg_of X G a_t0
  obtain ⟨_, F_t1⟩ := x_t1
  have k_t1 := F_t1.kp
  have b_t1 := F_t1.binds (ps := ["onward", "s", "t"]) fun _ _ _ _ _ _ us hl => by obtain ⟨_, _, _, rfl⟩ := us3 hl; rfl
  have m_t1 := mg_of X G a_t1
  obtain ⟨_, F_t2⟩ := x_t2
  have k_t2 := F_t2.kp
  have b_t2 := F_t2.binds (ps := ["way"]) fun _ _ _ _ _ _ us hl => by obtain ⟨_, rfl⟩ := us1 hl; rfl
  have m_t2 := mg_of X G a_t2
  obtain ⟨_, F_t3⟩ := x_t3
  have k_t3 := F_t3.kp
  have b_t3 := F_t3.binds (ps := ["nodes", "s", "t"]) fun _ _ _ _ _ _ us hl => by obtain ⟨_, _, _, rfl⟩ := us3 hl; rfl
  have m_t3 := mg_of X G a_t3
  obtain ⟨_, F_t4⟩ := x_t4
  have k_t4 := F_t4.kp
  have b_t4 := F_t4.binds (ps := ["arcs", "side"]) fun _ _ _ _ _ _ us hl => by obtain ⟨_, _, rfl⟩ := us2 hl; rfl
  have m_t4 := mg_of X G a_t4
  obtain ⟨_, F_t5⟩ := x_t5
  have k_t5 := F_t5.kp
  have b_t5 := F_t5.binds (ps := ["row"]) fun _ _ _ _ _ _ us hl => by obtain ⟨_, rfl⟩ := us1 hl; rfl
  have m_t5 := mg_of X G a_t5
  obtain ⟨_, F_t6⟩ := x_t6
  have k_t6 := F_t6.kp
  have b_t6 := F_t6.binds (ps := ["arcs", "nodes", "s", "t"]) fun _ _ _ _ _ _ us hl => by obtain ⟨_, _, _, _, rfl⟩ := us4 hl; rfl
  have m_t6 := mg_of X G a_t6
  obtain ⟨_, F_t7⟩ := x_t7
  have k_t7 := F_t7.kp
  have b_t7 := F_t7.binds (ps := ["net", "call", "numbers"]) fun _ _ _ _ _ _ us hl => by obtain ⟨_, _, _, rfl⟩ := us3 hl; rfl
  have m_t7 := mg_of X G a_t7
  obtain ⟨_, F_t8⟩ := x_t8
  have k_t8 := F_t8.kp
  have b_t8 := F_t8.binds (ps := ["net", "call", "numbers"]) fun _ _ _ _ _ _ us hl => by obtain ⟨_, _, _, rfl⟩ := us3 hl; rfl
  have m_t8 := mg_of X G a_t8
  obtain ⟨_, F_t9⟩ := x_t9
  have k_t9 := F_t9.kp
  have b_t9 := F_t9.binds (ps := ["net", "call", "numbers"]) fun _ _ _ _ _ _ us hl => by obtain ⟨_, _, _, rfl⟩ := us3 hl; rfl
  have m_t9 := mg_of X G a_t9
  obtain ⟨_, F_t10⟩ := x_t10
  have k_t10 := F_t10.kp
  have b_t10 := F_t10.binds (ps := ["told"]) fun _ _ _ _ _ _ us hl => by obtain ⟨_, rfl⟩ := us1 hl; rfl
  have m_t10 := mg_of X G a_t10
  have F_t11 := fun_mk (st := sAnswers) l_t11 c_t11 k_t11
  have m_t11 := mg_of X G a_t11
  have hct : ∀ H : Hp, SqT K H ct (cnts.map V.int) := fun H => .inr ⟨_, _, _, lK, rfl, rfl, (by show 16 ≤ sizeLine; decide), .cons ⟨tc0, rfl⟩ (.cons ⟨tc1, rfl⟩ (.cons ⟨tc2, rfl⟩ (.cons ⟨tc3, rfl⟩ (.cons ⟨tc4, rfl⟩ (.cons ⟨tc5, rfl⟩ (.cons ⟨tc6, rfl⟩ (.cons ⟨tc7, rfl⟩ (.cons ⟨tc8, rfl⟩ (.cons ⟨tc9, rfl⟩ (.cons ⟨tc10, rfl⟩ (.cons ⟨tc11, rfl⟩ (.cons ⟨tc12, rfl⟩ (.cons ⟨tc13, rfl⟩ (.cons ⟨tc14, rfl⟩ (.cons ⟨tc15, rfl⟩ .nil)))))))))))))))⟩
  refine ⟨PySem.W.fnOf "answers" "answers" (defArgs sAnswers) (defBody sAnswers) (zH sAnswers) .none kV_t11 dc_t11 pm_t11 an_t11 cd_t11 ct_t11, fun s us hu => by obtain ⟨_, rfl⟩ := us1 hu; exact .of_eq rfl, fun base _ _ => ?_⟩
  have G_has : FnOk P w K mg base CX0 1 f_m2 _ ["self", "node"] (spHas C) := ok_has F_m2 T
  have G_both : FnOk P w K mg base CX0 2 f_m3 _ ["self", "a", "b"] (spBoth C) := ok_both F_m3 T F_m2 b_m2 m_m2
  have G_init : FnOk P w K mg base CX0 1 f_m0 _ ["self"] (spInit C) := ok_init F_m0 T
  have G_begin : FnOk P w K mg base CX0 1 f_m1 _ ["self", "nodes"] (spBegin C) := ok_begin F_m1 T
  have G_arc : FnOk P w K mg base CX0 3 f_m4 _ ["self", "a", "b", "length"] (spArc C) := ok_arc F_m4 T G_both b_m3 m_m3
  have G_cut : FnOk P w K mg base CX0 3 f_m5 _ ["self", "a", "b"] (spCut C) := ok_cut F_m5 T G_both b_m3 m_m3
  have G_close : FnOk P w K mg base CX0 2 f_m6 _ ["self", "node", "c"] (spClose C) := ok_close F_m6 T G_has b_m2 m_m2
  have G_len : FnOk P w K mg base CX0 3 f_m7 _ ["self", "a", "b"] (spLen C) := ok_len F_m7 T G_both b_m3 m_m3
  have G_short : FnOk P w K mg base CX0 1 f_m10 _ ["self", "shortest"] (spShort C) := ok_short F_m10 T
  have G_from : FnOk P w K mg base CX0 2 f_m9 _ ["self", "s"] (spFrom C) := ok_from F_m9 T G_short b_m10 m_m10
  have G_dist : FnOk P w K mg base CX0 3 f_m8 _ ["self", "s", "t"] (spDist C) := ok_dist F_m8 T G_both b_m3 m_m3 G_from b_m9 m_m9
  have G_way : FnOk P w K mg base CX0 2 f_m11 _ ["self", "row"] (spWay C) := ok_way F_m11 T G_has b_m2 m_m2
  have G_onw : FnOk P w K mg base CX0 1 f_m12 _ ["self"] (spOnw C) := ok_onw F_m12 T
  have G_longer : FnOk P w K mg base CX0 1 f_t0 _ ["onward", "length", "row"] spLonger := ok_longer F_t0 T
  have G_all : FnOk P w K mg base CX0 2 f_t1 _ ["onward", "s", "t"] spAll := ok_all F_t1 T G_longer b_t0 m_t0 k_t0
  have G_ord : FnOk P w K mg base CX0 3 f_m13 _ ["self", "s", "t"] (spOrd C) := ok_ord F_m13 T G_all b_t1 m_t1 k_t1 G_onw b_m12 m_m12
  have G_search : FnOk P w K mg base CX0 4 f_m14 _ ["self", "s", "t"] (spSearch C) := ok_search F_m14 T G_both b_m3 m_m3 G_ord b_m13 m_m13
  have G_wt : FnOk P w K mg base CX0 1 f_t2 _ ["way"] spWayTold := ok_wayTold F_t2 T
  have G_next : FnOk P w K mg base CX0 2 f_m15 _ ["self"] (spNext C) := ok_next F_m15 T G_wt b_t2 m_t2 k_t2
  have G_told : FnOk P w K mg base CX0 1 f_m16 _ ["self"] (spToldWays C) := ok_toldWays F_m16 T
  have G_nth : FnOk P w K mg base CX0 4 f_m17 _ ["self", "s", "t", "k"] (spWayAt C) := ok_wayAt F_m17 T G_both b_m3 m_m3 G_ord b_m13 m_m13 G_wt b_t2 m_t2 k_t2
  have G_ways : FnOk P w K mg base CX0 3 f_m18 _ ["self", "s", "t"] (spCount C) := ok_count F_m18 T G_both b_m3 m_m3 G_all b_t1 m_t1 k_t1 G_onw b_m12 m_m12
  have G_place : FnOk P w K mg base CX0 4 f_m19 _ ["self", "row"] (spPlace C) := ok_place F_m19 T G_way b_m11 m_m11 G_ord b_m13 m_m13
  have G_over : FnOk P w K mg base CX0 3 f_m20 _ ["self", "s", "t", "a", "b"] (spOver C) := ok_over F_m20 T G_both b_m3 m_m3 G_all b_t1 m_t1 k_t1 G_onw b_m12 m_m12
  have G_sides : FnOk P w K mg base CX0 1 f_t3 _ ["nodes", "s", "t"] spSides := ok_sides F_t3 T
  have G_lead : FnOk P w K mg base CX0 1 f_t4 _ ["arcs", "side"] spLead := ok_lead F_t4 T
  have G_few : FnOk P w K mg base CX0 1 f_t5 _ ["row"] spFew := ok_few F_t5 T
  have G_first : FnOk P w K mg base CX0 3 f_t6 _ ["arcs", "nodes", "s", "t"] spFirst := ok_first F_t6 T G_sides b_t3 m_t3 k_t3 G_lead b_t4 m_t4 k_t4 G_few b_t5 m_t5
  have G_part : FnOk P w K mg base CX0 4 f_m21 _ ["self", "s", "t"] (spPart C) := ok_part F_m21 T G_both b_m3 m_m3 G_first b_t6 m_t6 k_t6
  have G_whole : FnOk P w K mg base CX0 1 f_m22 _ ["self"] (spWhole C) := ok_whole F_m22 T
  have G_changed : FnOk P w K mg base CX0 5 f_t7 _ ["net", "call", "numbers"] (spChanged C) := ok_changed F_t7 T G_begin b_m1 m_m1 G_arc b_m4 m_m4 G_cut b_m5 m_m5 G_close b_m6 m_m6 G_search b_m14 m_m14
  have G_asked : FnOk P w K mg base CX0 5 f_t8 _ ["net", "call", "numbers"] (spAsked C) := ok_asked F_t8 T G_len b_m7 m_m7 G_dist b_m8 m_m8 G_way b_m11 m_m11 G_told b_m16 m_m16 G_ways b_m18 m_m18 G_place b_m19 m_m19 G_over b_m20 m_m20
  have G_answer : FnOk P w K mg base CX0 6 f_t9 _ ["net", "call", "numbers"] (spAnswer2 C) := ok_answer F_t9 T G_next b_m15 m_m15 G_nth b_m17 m_m17 G_part b_m21 m_m21 G_whole b_m22 m_m22 G_changed b_t7 m_t7 k_t7 G_asked b_t8 m_t8 k_t8
  have G_form : FnOk P w K mg base CX0 1 f_t10 _ ["told"] spForm := ok_form F_t10 T
  exact ok_answers F_t11 T ⟨mk, a_m0, i_m0, kc⟩ G_init b_m0 G_form b_t10 m_t10 k_t10 G_answer b_t9 m_t9 k_t9 (mg_of X G aK) hct
end FW
open PySem PySem.W PyProof.Rows
set_option maxRecDepth 100000 in
set_option maxHeartbeats 0 in
theorem PySem.Challenge.cw_ferryways_s01_answers_holds : PySem.Challenge.rw_ferryways_s01_answers.Holds := by
  w_on; k_headS; (case hw => exact ⟨[.list [.int 15]], by decide +kernel, by decide +kernel⟩)
  k_fillS
  refine L2.walk_specK (r := PySem.Challenge.rw_ferryways_s01_answers) (k := 7) (CX := L2.CX0) (ps := ["calls"]) (sp := FW.spAnswers) (by decide +kernel) rfl rfl ⟨rfl, by decide, by decide⟩ (fun w h Y => PySem.W.kIn_of Y) ?F ?S (fun _ _ _ _ z => z)
  case F =>
    intro w mg fa h Y KX G hmg
    refine' FW.all_mk KX G hmg ?aC ?a_m0 ?i_m0 ?x_m0 ?a_m1 ?i_m1 ?x_m1 ?a_m2 ?i_m2 ?x_m2 ?a_m3 ?i_m3 ?x_m3 ?a_m4 ?i_m4 ?x_m4 ?a_m5 ?i_m5 ?x_m5 ?a_m6 ?i_m6 ?x_m6 ?a_m7 ?i_m7 ?x_m7 ?a_m8 ?i_m8 ?x_m8 ?a_m9 ?i_m9 ?x_m9 ?a_m10 ?i_m10 ?x_m10 ?a_m11 ?i_m11 ?x_m11 ?a_m12 ?i_m12 ?x_m12 ?a_m13 ?i_m13 ?x_m13 ?a_m14 ?i_m14 ?x_m14 ?a_m15 ?i_m15 ?x_m15 ?a_m16 ?i_m16 ?x_m16 ?a_m17 ?i_m17 ?x_m17 ?a_m18 ?i_m18 ?x_m18 ?a_m19 ?i_m19 ?x_m19 ?a_m20 ?i_m20 ?x_m20 ?a_m21 ?i_m21 ?x_m21 ?a_m22 ?i_m22 ?x_m22 ?a_t0 ?x_t0 ?a_t1 ?x_t1 ?a_t2 ?x_t2 ?a_t3 ?x_t3 ?a_t4 ?x_t4 ?a_t5 ?x_t5 ?a_t6 ?x_t6 ?a_t7 ?x_t7 ?a_t8 ?x_t8 ?a_t9 ?x_t9 ?a_t10 ?x_t10 ?a_t11 ?l_t11 ?c_t11 ?k_t11 ?pg ?hd ?po ?sa ?mk ?kc ?n_closed ?n_arcs ?n_search ?n_told ?z_len ?z_range ?z_enumerate ?z_sorted ?z_min ?z_list ?z_zip ?g_DONE ?g_NOT_THERE ?g_NONE_SUCH ?g_NO_SEARCH ?g_BEGIN ?g_ARC ?g_CUT ?g_CLOSE ?g_LEN ?g_DIST ?g_WAY ?g_SEARCH ?g_NEXT ?g_TOLD ?g_NTH ?g_WAYS ?g_PLACE ?g_APART ?g_NET ?g_MOST_NODES ?g_LONGEST_ARC ?aK ?lK
    (case aC => k_is)
    (case a_m0 => k_is)
    (case i_m0 => k_is)
    (case x_m0 => (refine' ⟨_, L2.fun_mk (st := FW.sInit) ?l ?c ?k⟩; (case l => k_is); (case c => k_is); (case k => k_is)))
    (case a_m1 => k_is)
    (case i_m1 => k_is)
    (case x_m1 => (refine' ⟨_, L2.fun_mk (st := FW.sBegin) ?l ?c ?k⟩; (case l => k_is); (case c => k_is); (case k => k_is)))
    (case a_m2 => k_is)
    (case i_m2 => k_is)
    (case x_m2 => (refine' ⟨_, L2.fun_mk (st := FW.sHas) ?l ?c ?k⟩; (case l => k_is); (case c => k_is); (case k => k_is)))
    (case a_m3 => k_is)
    (case i_m3 => k_is)
    (case x_m3 => (refine' ⟨_, L2.fun_mk (st := FW.sBoth) ?l ?c ?k⟩; (case l => k_is); (case c => k_is); (case k => k_is)))
    (case a_m4 => k_is)
    (case i_m4 => k_is)
    (case x_m4 => (refine' ⟨_, L2.fun_mk (st := FW.sArc) ?l ?c ?k⟩; (case l => k_is); (case c => k_is); (case k => k_is)))
    (case a_m5 => k_is)
    (case i_m5 => k_is)
    (case x_m5 => (refine' ⟨_, L2.fun_mk (st := FW.sCut) ?l ?c ?k⟩; (case l => k_is); (case c => k_is); (case k => k_is)))
    (case a_m6 => k_is)
    (case i_m6 => k_is)
    (case x_m6 => (refine' ⟨_, L2.fun_mk (st := FW.sClose) ?l ?c ?k⟩; (case l => k_is); (case c => k_is); (case k => k_is)))
    (case a_m7 => k_is)
    (case i_m7 => k_is)
    (case x_m7 => (refine' ⟨_, L2.fun_mk (st := FW.sLen) ?l ?c ?k⟩; (case l => k_is); (case c => k_is); (case k => k_is)))
    (case a_m8 => k_is)
    (case i_m8 => k_is)
    (case x_m8 => (refine' ⟨_, L2.fun_mk (st := FW.sDist) ?l ?c ?k⟩; (case l => k_is); (case c => k_is); (case k => k_is)))
    (case a_m9 => k_is)
    (case i_m9 => k_is)
    (case x_m9 => (refine' ⟨_, L2.fun_mk (st := FW.sFrom) ?l ?c ?k⟩; (case l => k_is); (case c => k_is); (case k => k_is)))
    (case a_m10 => k_is)
    (case i_m10 => k_is)
    (case x_m10 => (refine' ⟨_, L2.fun_mk (st := FW.sShort) ?l ?c ?k⟩; (case l => k_is); (case c => k_is); (case k => k_is)))
    (case a_m11 => k_is)
    (case i_m11 => k_is)
    (case x_m11 => (refine' ⟨_, L2.fun_mk (st := FW.sWay) ?l ?c ?k⟩; (case l => k_is); (case c => k_is); (case k => k_is)))
    (case a_m12 => k_is)
    (case i_m12 => k_is)
    (case x_m12 => (refine' ⟨_, L2.fun_mk (st := FW.sOnw) ?l ?c ?k⟩; (case l => k_is); (case c => k_is); (case k => k_is)))
    (case a_m13 => k_is)
    (case i_m13 => k_is)
    (case x_m13 => (refine' ⟨_, L2.fun_mk (st := FW.sOrd) ?l ?c ?k⟩; (case l => k_is); (case c => k_is); (case k => k_is)))
    (case a_m14 => k_is)
    (case i_m14 => k_is)
    (case x_m14 => (refine' ⟨_, L2.fun_mk (st := FW.sSearch) ?l ?c ?k⟩; (case l => k_is); (case c => k_is); (case k => k_is)))
    (case a_m15 => k_is)
    (case i_m15 => k_is)
    (case x_m15 => (refine' ⟨_, L2.fun_mk (st := FW.sNext) ?l ?c ?k⟩; (case l => k_is); (case c => k_is); (case k => k_is)))
    (case a_m16 => k_is)
    (case i_m16 => k_is)
    (case x_m16 => (refine' ⟨_, L2.fun_mk (st := FW.sToldWays) ?l ?c ?k⟩; (case l => k_is); (case c => k_is); (case k => k_is)))
    (case a_m17 => k_is)
    (case i_m17 => k_is)
    (case x_m17 => (refine' ⟨_, L2.fun_mk (st := FW.sWayAt) ?l ?c ?k⟩; (case l => k_is); (case c => k_is); (case k => k_is)))
    (case a_m18 => k_is)
    (case i_m18 => k_is)
    (case x_m18 => (refine' ⟨_, L2.fun_mk (st := FW.sCount) ?l ?c ?k⟩; (case l => k_is); (case c => k_is); (case k => k_is)))
    (case a_m19 => k_is)
    (case i_m19 => k_is)
    (case x_m19 => (refine' ⟨_, L2.fun_mk (st := FW.sPlace) ?l ?c ?k⟩; (case l => k_is); (case c => k_is); (case k => k_is)))
    (case a_m20 => k_is)
    (case i_m20 => k_is)
    (case x_m20 => (refine' ⟨_, L2.fun_mk (st := FW.sOver) ?l ?c ?k⟩; (case l => k_is); (case c => k_is); (case k => k_is)))
    (case a_m21 => k_is)
    (case i_m21 => k_is)
    (case x_m21 => (refine' ⟨_, L2.fun_mk (st := FW.sPart) ?l ?c ?k⟩; (case l => k_is); (case c => k_is); (case k => k_is)))
    (case a_m22 => k_is)
    (case i_m22 => k_is)
    (case x_m22 => (refine' ⟨_, L2.fun_mk (st := FW.sWhole) ?l ?c ?k⟩; (case l => k_is); (case c => k_is); (case k => k_is)))
    (case a_t0 => k_is)
    (case x_t0 => (refine' ⟨_, L2.fun_mk (st := FW.sLonger) ?l ?c ?k⟩; (case l => k_is); (case c => k_is); (case k => k_is)))
    (case a_t1 => k_is)
    (case x_t1 => (refine' ⟨_, L2.fun_mk (st := FW.sAll) ?l ?c ?k⟩; (case l => k_is); (case c => k_is); (case k => k_is)))
    (case a_t2 => k_is)
    (case x_t2 => (refine' ⟨_, L2.fun_mk (st := FW.sWayTold) ?l ?c ?k⟩; (case l => k_is); (case c => k_is); (case k => k_is)))
    (case a_t3 => k_is)
    (case x_t3 => (refine' ⟨_, L2.fun_mk (st := FW.sSides) ?l ?c ?k⟩; (case l => k_is); (case c => k_is); (case k => k_is)))
    (case a_t4 => k_is)
    (case x_t4 => (refine' ⟨_, L2.fun_mk (st := FW.sLead) ?l ?c ?k⟩; (case l => k_is); (case c => k_is); (case k => k_is)))
    (case a_t5 => k_is)
    (case x_t5 => (refine' ⟨_, L2.fun_mk (st := FW.sFew) ?l ?c ?k⟩; (case l => k_is); (case c => k_is); (case k => k_is)))
    (case a_t6 => k_is)
    (case x_t6 => (refine' ⟨_, L2.fun_mk (st := FW.sFirst) ?l ?c ?k⟩; (case l => k_is); (case c => k_is); (case k => k_is)))
    (case a_t7 => k_is)
    (case x_t7 => (refine' ⟨_, L2.fun_mk (st := FW.sChanged) ?l ?c ?k⟩; (case l => k_is); (case c => k_is); (case k => k_is)))
    (case a_t8 => k_is)
    (case x_t8 => (refine' ⟨_, L2.fun_mk (st := FW.sAsked) ?l ?c ?k⟩; (case l => k_is); (case c => k_is); (case k => k_is)))
    (case a_t9 => k_is)
    (case x_t9 => (refine' ⟨_, L2.fun_mk (st := FW.sAnswer) ?l ?c ?k⟩; (case l => k_is); (case c => k_is); (case k => k_is)))
    (case a_t10 => k_is)
    (case x_t10 => (refine' ⟨_, L2.fun_mk (st := FW.sForm) ?l ?c ?k⟩; (case l => k_is); (case c => k_is); (case k => k_is)))
    (case a_t11 => k_is)
    (case l_t11 => k_is)
    (case c_t11 => k_is)
    (case k_t11 => k_is)
    (case pg => k_is)
    (case hd => k_is)
    (case po => k_is)
    (case sa => k_is)
    (case mk => k_is)
    (case kc => k_is)
    (case n_closed => k_is)
    (case n_arcs => k_is)
    (case n_search => k_is)
    (case n_told => k_is)
    (case z_len => k_is)
    (case z_range => k_is)
    (case z_enumerate => k_is)
    (case z_sorted => k_is)
    (case z_min => k_is)
    (case z_list => k_is)
    (case z_zip => k_is)
    (case g_DONE => k_is)
    (case g_NOT_THERE => k_is)
    (case g_NONE_SUCH => k_is)
    (case g_NO_SEARCH => k_is)
    (case g_BEGIN => k_is)
    (case g_ARC => k_is)
    (case g_CUT => k_is)
    (case g_CLOSE => k_is)
    (case g_LEN => k_is)
    (case g_DIST => k_is)
    (case g_WAY => k_is)
    (case g_SEARCH => k_is)
    (case g_NEXT => k_is)
    (case g_TOLD => k_is)
    (case g_NTH => k_is)
    (case g_WAYS => k_is)
    (case g_PLACE => k_is)
    (case g_APART => k_is)
    (case g_NET => k_is)
    (case g_MOST_NODES => k_is)
    (case g_LONGEST_ARC => k_is)
    (case aK => k_is)
    (case lK => k_is)
  case S =>
    intro K H xs a hO hwi hask hx
    cases hx with
    | cons h1 h2 =>
      cases h2
      cases h1 with
      | lst hs ha =>
        have e := L2.ints_dw a.1 _ ha
        subst e
        obtain ⟨ks, hr, hl, ho⟩ := WM.asked_reads (l := a.1) hask
        refine ⟨_, a.1, ks, rfl, FW.FzL.of hO hs, hr, hl, fun H' p hp => ?_⟩
        have eo : PyWqaeaj.answers a.1 = WM.outs WaySpec.start ks := ho
        rw [← eo] at hp
        exact .lst (L2.SqL.of hp) (L2.dw_ints _)
