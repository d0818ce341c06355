import PyProof.Rows.All
import Wide.All
import OpenK.AllK
import Wide.FinOn
import PyProof.EqAt
import PyProof.EqKinds
import PyProof.TupleCall
import KE.BitLaws
import Open.SpecLaws
import KE.OsHead
import KE.OsGo
import PyFlatLaws
import PySem.Challenge.RW_watchedline_s01_answers
section
set_option Elab.async false
set_option linter.all false
set_option maxRecDepth 100000
namespace L2
open PySem PySem.Spec PyProof.Rows
noncomputable abbrev Key := Sum Int Str
noncomputable def keyIs : Key → Value → Bool
  | .inl k, v => Value.isInt k v
  | .inr x, v => Value.isStrOf x v
noncomputable def keyH (w : World) : Key → Int
  | .inl k => hashInt k
  | .inr x => hashStr w x
theorem keyIs_shape : ∀ {k : Key} {v : Value}, keyIs k v = true → (∃ i t, k = Sum.inl i ∧ v = Value.int i t) ∨ (∃ x t, k = Sum.inr x ∧ v = Value.str x t)
  | .inl i, v, h => by
    obtain ⟨t, e⟩ := Value.isInt_shape (k := i) (v := v) h
    exact .inl ⟨i, t, rfl, e⟩
  | .inr x, v, h => by
    obtain ⟨t, e⟩ := Value.isStrOf_shape (x := x) (v := v) h
    exact .inr ⟨x, t, rfl, e⟩
theorem keyIs_int (i : Int) (t : Tok) : keyIs (.inl i) (.int i t) = true := by simp [keyIs, Value.isInt]
theorem keyIs_str (x : Str) (t : Tok) : keyIs (.inr x) (.str x t) = true := by simp [keyIs, Value.isStrOf]
theorem key_ll (a b : Int) : decide ((Sum.inl a : Key) = Sum.inl b) = (a == b) := by
  by_cases e : a = b
  · subst e; simp
  · have h : ¬ (Sum.inl a : Key) = Sum.inl b := fun q => e (Sum.inl.inj q)
    rw [decide_eq_false h]
    exact (beq_eq_false_iff_ne.mpr e).symm
theorem key_rr (a b : Str) : decide ((Sum.inr a : Key) = Sum.inr b) = decide (a = b) := by
  by_cases e : a = b
  · subst e; simp
  · have h : ¬ (Sum.inr a : Key) = Sum.inr b := fun q => e (Sum.inr.inj q)
    rw [decide_eq_false h, decide_eq_false e]
theorem key_lr (a : Int) (b : Str) : decide ((Sum.inl a : Key) = Sum.inr b) = false := decide_eq_false (fun q => nomatch q)
theorem key_rl (a : Str) (b : Int) : decide ((Sum.inr a : Key) = Sum.inl b) = false := decide_eq_false (fun q => nomatch q)
noncomputable def mixKind (prog : Program) (w : World) : PySem.KeyKind prog w Key where
  is := keyIs
  hash := keyH w
  inj := fun v a b ha hb => by
    rcases keyIs_shape ha with ⟨i, t, rfl, rfl⟩ | ⟨x, t, rfl, rfl⟩
    · rcases keyIs_shape hb with ⟨j, u, rfl, e⟩ | ⟨y, u, rfl, e⟩
      · injection e with e1 _; rw [e1]
      · exact nomatch e
    · rcases keyIs_shape hb with ⟨j, u, rfl, e⟩ | ⟨y, u, rfl, e⟩
      · exact nomatch e
      · injection e with e1 _; rw [e1]
  byValue := fun k v h => by
    rcases keyIs_shape h with ⟨i, t, rfl, rfl⟩ | ⟨x, t, rfl, rfl⟩ <;> rfl
  pyHash := fun hv h => by
    rcases keyIs_shape hv with ⟨i, t, rfl, rfl⟩ | ⟨x, t, rfl, rfl⟩
    · exact wpAny_pyHash_int h
    · exact wpAny_pyHash_str h
  eqBool := fun hu hv h => by
    rcases keyIs_shape hu with ⟨i, t, rfl, rfl⟩ | ⟨x, t, rfl, rfl⟩
    · rcases keyIs_shape hv with ⟨j, u, rfl, rfl⟩ | ⟨y, u, rfl, rfl⟩
      · rw [key_ll] at h; exact wpAny_eqBool_int h
      · rw [key_lr] at h; exact SeqAt.EqAt.int_str i t y u _ _ _ _ h
    · rcases keyIs_shape hv with ⟨j, u, rfl, rfl⟩ | ⟨y, u, rfl, rfl⟩
      · rw [key_rl] at h; exact SeqAt.EqAt.str_int x t j u _ _ _ _ h
      · rw [key_rr] at h; exact wpAny_eqBool_str h
  «strs» := fun k x t v h => by
    rcases keyIs_shape h with ⟨i, u, rfl, e⟩ | ⟨y, u, rfl, e⟩
    · exact nomatch e
    · injection e with e1 _
      subst e1
      cases v <;> rfl
theorem mixKind_int (prog : Program) (w : World) (i : Int) (t : Tok) : (mixKind prog w).is (.inl i) (.int i t) = true := keyIs_int i t
theorem mixKind_str (prog : Program) (w : World) (x : Str) (t : Tok) : (mixKind prog w).is (.inr x) (.str x t) = true := keyIs_str x t
end L2
namespace L2
open PySem PySem.Spec PyProof.Rows
inductive V where
  | non | bl (b : Bool) | int (i : Int) | str (x : Str) | byt (b : Array UInt8) | flt (b : UInt64) | ref (a : Addr) | ty (n : String)
  deriving DecidableEq
noncomputable def RelV : V → Value → Prop
  | .non, u => u = Value.none
  | .bl b, u => u = Value.bool b
  | .int i, u => ∃ t, u = Value.int i t
  | .str x, u => ∃ t, u = Value.str x t
  | .byt b, u => ∃ t, u = Value.bytes b t
  | .flt b, u => ∃ t, u = Value.float b t
  | .ref a, u => u = Value.ref a
  | .ty n, u => u = Value.type n
noncomputable abbrev Vals : List V → List Value → Prop := Paired RelV
theorem Vals.length {xs : List V} {us : List Value} (r : Vals xs us) : xs.length = us.length := Paired.length r
theorem Vals.get : ∀ {xs : List V} {us : List Value} {i : Nat} {x : V}, Vals xs us → xs[i]? = some x → ∃ u, us[i]? = some u ∧ RelV x u
  | _, _, _, _, .nil, e => by simp at e
  | _, _, 0, _, .cons r _, e => by simp at e; subst e; exact ⟨_, rfl, r⟩
  | _, _, i + 1, x, .cons _ t, e => by
    obtain ⟨u, h1, h2⟩ := Vals.get (i := i) (x := x) t (by simpa using e)
    exact ⟨u, by simpa using h1, h2⟩
theorem Vals.append : ∀ {xs ys : List V} {us ws : List Value}, Vals xs us → Vals ys ws → Vals (xs ++ ys) (us ++ ws)
  | _, _, _, _, .nil, s => s
  | _, _, _, _, .cons r t, s => .cons r (Vals.append t s)
theorem Vals.take : ∀ {xs : List V} {us : List Value} (n : Nat), Vals xs us → Vals (xs.take n) (us.take n)
  | _, _, 0, _ => .nil
  | _, _, _ + 1, .nil => .nil
  | _, _, n + 1, .cons r t => .cons r (Vals.take n t)
theorem Vals.drop : ∀ {xs : List V} {us : List Value} (n : Nat), Vals xs us → Vals (xs.drop n) (us.drop n)
  | _, _, 0, r => r
  | _, _, _ + 1, .nil => .nil
  | _, _, n + 1, .cons _ t => Vals.drop n t
noncomputable def RelO : Option V → Option Value → Prop
  | some v, some u => RelV v u
  | none, none => True
  | _, _ => False
noncomputable def KV {κ : Type} : List (κ × V) → List (κ × Value) → Prop := Paired fun (p : κ × V) (q : κ × Value) => p.1 = q.1 ∧ RelV p.2 q.2
noncomputable def kV : Key → V
  | .inl i => .int i
  | .inr x => .str x
inductive HO where
  | lst (xs : List V)
  | tup (xs : List V)
  | dK (kvs : List (Key × V)) | dT (kvs : List (List Key × V))
  | set (S : Int → Bool) (n : Nat)
  | ins (C dx : Addr) (fs : List (Str × V))
  | own (x : Addr)
  | xd (fs : List (Str × V))
  | met (f x : Addr)
  | rng (lo hi : Int)
  | frz (o : Obj) (u : HO)
  | tbl (ps : Array Value)
  | ext (φ : Heap → Prop)
noncomputable abbrev Hp := Addr → Option HO
noncomputable def upd (H : Hp) (a : Addr) (o : HO) : Hp := fun b => if b = a then some o else H b
theorem upd_same {H : Hp} {a : Addr} {o : HO} : upd H a o a = some o := by unfold upd; rw [if_pos rfl]
theorem upd_ne {H : Hp} {a b : Addr} {o : HO} (h : b ≠ a) : upd H a o b = H b := by unfold upd; rw [if_neg h]
theorem ne_of {H : Hp} {a b : Addr} {o u : HO} (h : H a = some o) (h' : H b = some u) (d : o ≠ u) : a ≠ b := by
  intro e; subst e; rw [h] at h'; exact d (Option.some.inj h')
theorem ne_of_none {H : Hp} {a b : Addr} {o : HO} (h : H a = some o) (h' : H b = none) : a ≠ b := by
  intro e; subst e; rw [h] at h'; cases h'
section
variable (P : Program) (w : World)
noncomputable def ObjOk (H : Hp) (h : Heap) (a : Addr) : HO → Prop
  | .lst xs => xs.length ≤ sizeLine ∧ ∃ (its : List Value) (n : Nat), Vals xs its ∧ h.get? a = some { cls := .type "list", data := .seq its.toArray n }
  | .tup xs => xs.length ≤ sizeLine ∧ ∃ its : List Value, Vals xs its ∧ IsTup h a its.toArray
  | .dK kvs => kvs.length ≤ sizeLine ∧ (a == sysModules) = false ∧ ∃ vs, KV kvs vs ∧ h.DictOf (mixKind P w) a vs
  | .dT kvs => kvs.length ≤ sizeLine ∧ (a == sysModules) = false ∧ ∃ xs : List (List Key × Addr × Value),
      Paired (fun (p : List Key × V) (q : List Key × Addr × Value) => p.1 = q.1 ∧ H q.2.1 = some (.tup (p.1.map kV)) ∧ RelV p.2 q.2.2) kvs xs ∧
      ∃ o es ep, h.get? a = some o ∧ o.ExactDict ∧ o.data = .dict es ep ∧ es.toList = xs.map (entryOfKey (tupleKind (mixKind P w))) ∧ (xs.map (·.1)).Nodup
  | .set S n => h.SetOf (intKind P w) a S n
  | .ins C dx fs => H dx = some (.own a) ∧ fs.length ≤ 1000 ∧ dx ≠ a ∧ h.get? a = some (PySem.W.instObj C dx) ∧
      ∃ mA, h.Ns1 dx mA ∧ (∀ f, RelO (fs.lookup f) (mA f)) ∧ PySem.Within mA (fs.map (·.1))
  | .own _ => ∃ o, h.get? a = some o
  | .xd fs => ∃ mA, h.Ns1 a mA ∧ ∀ f, RelO (fs.lookup f) (mA f)
  | .rng lo hi => ∃ t u v, h.get? a = some { cls := .type "range", data := .fields #[.int lo t, .int hi u, .int 1 v] }
  | .frz o u => h.get? a = some o ∧ ObjOk H h a u
  | .tbl ps => h.get? a = some { cls := .none, data := .fields ps }
  | .met f x => h.get? a = some (PySem.W.methodObj (.ref f) (.ref x))
  | .ext φ => φ h ∧ (∃ o, h.get? a = some o) ∧ ∀ h1 h2 : Heap, φ h1 → (∀ o, h1.get? a = some o → h2.get? a = some o) → φ h2
noncomputable def HOk (H : Hp) (h : Heap) : Prop := ∀ a o, H a = some o → ObjOk P w H h a o
end
section
variable {P : Program} {w : World} {H H' : Hp} {h h' : Heap} {a : Addr} {o : HO}
theorem ObjOk.lt (x : ObjOk P w H h a o) : a < h.objs.size := by
  cases o with
  | lst xs => obtain ⟨_, _, _, _, e⟩ := x; exact Heap.lt_size e
  | tup xs => obtain ⟨_, _, _, p⟩ := x; exact p.lt
  | dK kvs => obtain ⟨_, _, _, _, o, _, _, e, _⟩ := x; exact Heap.lt_size e
  | dT kvs => obtain ⟨_, _, _, _, o, _, _, e, _⟩ := x; exact Heap.lt_size e
  | set S n => obtain ⟨o, _, _, _, e, _⟩ := x; exact Heap.lt_size e
  | ins C dx fs => obtain ⟨_, _, _, e, _⟩ := x; exact Heap.lt_size e
  | own y => obtain ⟨_, e⟩ := x; exact Heap.lt_size e
  | xd fs => obtain ⟨_, ⟨_, _, _, e, _⟩, _⟩ := x; exact Heap.lt_size e
  | rng lo hi => obtain ⟨_, _, _, e⟩ := x; exact Heap.lt_size e
  | frz ob u => obtain ⟨e, _⟩ := x; exact Heap.lt_size e
  | tbl ps => exact Heap.lt_size (show h.get? a = some _ from x)
  | met f y => exact Heap.lt_size (show h.get? a = some _ from x)
  | ext φ => obtain ⟨_, ⟨_, e⟩, _⟩ := x; exact Heap.lt_size e
theorem Paired.mapP {α β : Type} {F G : α → β → Prop} : ∀ {l₁ : List α} {l₂ : List β}, Paired F l₁ l₂ → (∀ a b, F a b → G a b) → Paired G l₁ l₂
  | _, _, .nil, _ => .nil
  | _, _, .cons r t, f => .cons (f _ _ r) (Paired.mapP t f)
theorem ObjOk.stay (x : ObjOk P w H h a o) (k : ∀ b u, (b = a ∨ H b = some (.own a)) → h.get? b = some u → h'.get? b = some u)
    (ho : ∀ b, H b = some (.own a) → H' b = some (.own a)) (ht : ∀ b xs, H b = some (.tup xs) → H' b = some (.tup xs)) : ObjOk P w H' h' a o := by
  induction o with
  | lst xs => obtain ⟨z, its, n, r, e⟩ := x; exact ⟨z, its, n, r, k _ _ (.inl rfl) e⟩
  | tup xs => obtain ⟨z, its, r, ob, e, c⟩ := x; exact ⟨z, its, r, ob, k _ _ (.inl rfl) e, c⟩
  | dK kvs => obtain ⟨z, y, vs, r, ob, es, ep, e, c⟩ := x; exact ⟨z, y, vs, r, ob, es, ep, k _ _ (.inl rfl) e, c⟩
  | dT kvs =>
    obtain ⟨z, y, xs, r, ob, es, ep, e, c⟩ := x
    exact ⟨z, y, xs, Paired.mapP r fun p q z => ⟨z.1, ht _ _ z.2.1, z.2.2⟩, ob, es, ep, k _ _ (.inl rfl) e, c⟩
  | set S n => obtain ⟨ob, es, ep, t, e, c⟩ := x; exact ⟨ob, es, ep, t, k _ _ (.inl rfl) e, c⟩
  | ins C dx fs =>
    obtain ⟨d, z, ne, e, mA, ⟨od, es, ep, e2, c⟩, r⟩ := x
    exact ⟨ho _ d, z, ne, k _ _ (.inl rfl) e, mA, ⟨od, es, ep, k _ _ (.inr d) e2, c⟩, r⟩
  | own y => obtain ⟨ob, e⟩ := x; exact ⟨ob, k _ _ (.inl rfl) e⟩
  | xd fs => obtain ⟨mA, ⟨od, es, ep, e, c⟩, r⟩ := x; exact ⟨mA, ⟨od, es, ep, k _ _ (.inl rfl) e, c⟩, r⟩
  | rng lo hi => obtain ⟨t, u, v, e⟩ := x; exact ⟨t, u, v, k _ _ (.inl rfl) e⟩
  | frz ob u ih => obtain ⟨e, q⟩ := x; exact ⟨k _ _ (.inl rfl) e, ih q⟩
  | tbl ps =>
    have e : h.get? a = some { cls := .none, data := .fields ps } := x
    show h'.get? a = some { cls := .none, data := .fields ps }
    exact k a _ (.inl rfl) e
  | met f y =>
    have e : h.get? a = some (PySem.W.methodObj (.ref f) (.ref y)) := x
    show h'.get? a = some (PySem.W.methodObj (.ref f) (.ref y))
    exact k a _ (.inl rfl) e
  | ext φ => obtain ⟨p, ⟨o, e⟩, st⟩ := x; exact ⟨st _ _ p fun o q => k _ _ (.inl rfl) q, ⟨o, k _ _ (.inl rfl) e⟩, st⟩
theorem HOk.lt (x : HOk P w H h) (e : H a = some o) : a < h.objs.size := (x a o e).lt
theorem HOk.fresh (x : HOk P w H h) (e : h.objs.size ≤ a) : H a = none := by
  cases q : H a with
  | none => rfl
  | some u => exact absurd (Nat.lt_of_lt_of_le (x.lt q) e) (Nat.lt_irrefl _)
theorem HOk.kept (x : HOk P w H h) (k : ∀ b u, h.get? b = some u → h'.get? b = some u) : HOk P w H h' := fun a o e =>
  (x a o e).stay (fun b u _ q => k b u q) (fun _ q => q) fun _ _ q => q
theorem HOk.laid (x : HOk P w H h) (k : ∀ b u, h.get? b = some u → h'.get? b = some u) (hp : h.objs.size ≤ a) (new : ObjOk P w (upd H a o) h' a o) : HOk P w (upd H a o) h' := fun b u e => by
  have hn := x.fresh hp
  by_cases hb : b = a
  · subst hb; rw [upd_same] at e; cases e; exact new
  · rw [upd_ne hb] at e
    exact (x b u e).stay (fun c v _ q => k c v q) (fun c q => by rw [upd_ne (ne_of_none q hn)]; exact q) fun c xs q => by rw [upd_ne (ne_of_none q hn)]; exact q
end
noncomputable def Rd (H : Hp) (a : Addr) (u : HO) : Prop := H a = some u ∨ ∃ o, H a = some (.frz o u)
theorem Rd.ok {P : Program} {w : World} {H : Hp} {h : Heap} {a : Addr} {u : HO} (r : Rd H a u) (x : HOk P w H h) : ObjOk P w H h a u := by
  rcases r with r | ⟨o, r⟩
  · exact x a u r
  · obtain ⟨_, q⟩ := x a _ r
    exact q
noncomputable def Mut : Option HO → Prop
  | some (.lst _) => True
  | some (.dK _) => True
  | some (.dT _) => True
  | some (.set _ _) => True
  | some (.ins _ _ _) => True
  | some (.ext _) => True
  | _ => False
section
variable {P : Program} {w : World} {H : Hp} {h h' : Heap} {x e : Addr} {o' : HO}
theorem HOk.write (ok : HOk P w H h) (mu : Mut (H x)) (he : e = x ∨ H e = some (.own x)) (k : ∀ b u, b ≠ e → h.get? b = some u → h'.get? b = some u) (heo : ∃ u, h'.get? e = some u)
    (new : ObjOk P w (upd H x o') h' x o') : HOk P w (upd H x o') h' := fun b u q => by
  have nown : ∀ c y, H c = some (.own y) → c ≠ x := fun c y r z => by subst z; rw [r] at mu; exact mu
  have ntup : ∀ c xs, H c = some (.tup xs) → c ≠ x := fun c xs r z => by subst z; rw [r] at mu; exact mu
  by_cases hb : b = x
  · subst hb; rw [upd_same] at q; cases q; exact new
  · rw [upd_ne hb] at q
    by_cases hbe : b = e
    · have q' : H b = some (.own x) := by
        rcases he with z | z
        · exact absurd (hbe.trans z) hb
        · rw [hbe]; exact z
      rw [q] at q'; cases q'
      obtain ⟨v, hv⟩ := heo
      exact ⟨v, by rw [hbe]; exact hv⟩
    · refine (ok b u q).stay (fun c v hc r => k c v ?_ r) (fun c r => by rw [upd_ne (nown c b r)]; exact r) fun c xs r => by rw [upd_ne (ntup c xs r)]; exact r
      rcases hc with rfl | hc
      · exact hbe
      · rintro rfl
        rcases he with z | z
        · exact nown c b hc z
        · rw [hc] at z; cases z; exact hb rfl
end
structure Un (fs ex : List Addr) (H H' : Hp) (h h' : Heap) : Prop where
  keep : ∀ b o, h.get? b = some o → H b = none → b ∉ fs → b ∉ ex → h'.get? b = some o
  slot : ∀ b o, h.get? b = some o → H b = none → b ∈ fs → b ∉ ex → ∃ sl, h'.get? b = some { o with slots := sl }
  free : ∀ b o, h.get? b = some o → H b = none → b ∉ ex → H' b = none
  there : ∀ b o, h.get? b = some o → b ∉ ex → ∃ o', h'.get? b = some o'
  tups : ∀ b xs, H b = some (.tup xs) → H' b = some (.tup xs)
  frzs : ∀ b o u, H b = some (.frz o u) → H' b = some (.frz o u)
  tbls : ∀ b ps, H b = some (.tbl ps) → ∃ more, H' b = some (.tbl (ps ++ more))
section
variable {fs fs' ex ex' : List Addr} {H H1 H2 : Hp} {h h1 h2 h' : Heap} {a x e : Addr} {o : HO}
theorem Un.any (u : Un fs ex H H1 h h1) {b : Addr} {ob : Obj} (q : h.get? b = some ob) (n : H b = none) (hx : b ∉ ex) : ∃ sl, h1.get? b = some { ob with slots := sl } := by
  by_cases hb : b ∈ fs
  · exact u.slot b ob q n hb hx
  · exact ⟨ob.slots, u.keep b ob q n hb hx⟩
theorem Un.kept (k : ∀ b u, h.get? b = some u → h'.get? b = some u) : Un fs ex H H h h' :=
  ⟨fun b ob q _ _ _ => k b ob q, fun b ob q _ _ _ => ⟨ob.slots, k b ob q⟩, fun _ _ _ n _ => n, fun b ob q _ => ⟨ob, k b ob q⟩, fun _ _ q => q, fun _ _ _ q => q, fun _ ps q => ⟨#[], by rw [q]; simp⟩⟩
theorem Un.refl : Un fs ex H H h h := Un.kept fun _ _ q => q
theorem Un.laid (k : ∀ b u, h.get? b = some u → h'.get? b = some u) (hp : h.objs.size ≤ a) (hn : H a = none) : Un fs ex H (upd H a o) h h' where
  keep := fun b u q _ _ _ => k b u q
  slot := fun b u q _ _ _ => ⟨u.slots, k b u q⟩
  free := fun b u q n _ => by rw [upd_ne (Nat.ne_of_lt (Nat.lt_of_lt_of_le (Heap.lt_size q) hp))]; exact n
  there := fun b u q _ => ⟨u, k b u q⟩
  tups := fun b xs q => by rw [upd_ne (ne_of_none q hn)]; exact q
  frzs := fun b u xs q => by rw [upd_ne (ne_of_none q hn)]; exact q
  tbls := fun b ps q => ⟨#[], by rw [upd_ne (ne_of_none q hn), q]; simp⟩
theorem Un.write (mu : Mut (H x)) (he : e = x ∨ H e = some (.own x)) (k : ∀ b u, b ≠ e → h.get? b = some u → h'.get? b = some u) (heo : ∃ u, h'.get? e = some u) : Un fs ex H (upd H x o) h h' := by
  have hx : ∀ b, H b = none → b ≠ x := fun b n z => by subst z; rw [n] at mu; exact mu
  have hb : ∀ b, H b = none → b ≠ e := fun b n z => by
    subst z
    rcases he with r | r
    · exact hx b n r
    · rw [n] at r; cases r
  have hm : ∀ b u, H b = some u → ¬ Mut (some u) → b ≠ x := fun b u q nm z => by subst z; rw [q] at mu; exact nm mu
  refine ⟨fun b u q n _ _ => k b u (hb b n) q, fun b u q n _ _ => ⟨u.slots, k b u (hb b n) q⟩, fun b u q n _ => by rw [upd_ne (hx b n)]; exact n, fun b u q _ => ?_,
    fun b xs q => by rw [upd_ne (hm b _ q fun z => z)]; exact q, fun b u xs q => by rw [upd_ne (hm b _ q fun z => z)]; exact q, fun b ps q => ⟨#[], by rw [upd_ne (hm b _ q fun z => z), q]; simp⟩⟩
  by_cases hbe : b = e
  · subst hbe; exact heo
  · exact ⟨u, k b u hbe q⟩
end
noncomputable def trk (h : Heap) (H : Hp) : List Addr := (List.range h.objs.size).filter fun a => (H a).isSome
noncomputable def hidT (h : Heap) (H : Hp) : Heap := PySem.W.hideAll h (trk h H)
theorem hidT_size (h : Heap) (H : Hp) : (hidT h H).objs.size = h.objs.size := PySem.W.hideAll_size _ _
theorem hidT_get {h : Heap} {H : Hp} {b : Addr} {o : Obj} (e : h.get? b = some o) (n : H b = none) : (hidT h H).get? b = some o :=
  PySem.W.hideAll_get _ e fun hm => by
    have q : (H b).isSome = true := (List.mem_filter.mp hm).2
    rw [n] at q; simp at q
theorem of_hidT {h : Heap} {H : Hp} {b : Addr} {o : Obj} (e : (hidT h H).get? b = some o) : h.get? b = some o ∧ H b = none := by
  have e' : h.get? b = some o := PySem.W.of_hideAll (trk h H) e
  refine ⟨e', ?_⟩
  cases q : H b with
  | none => rfl
  | some x =>
    have hm : b ∈ trk h H := List.mem_filter.mpr ⟨List.mem_range.mpr (Heap.lt_size e'), by simp [q]⟩
    have z : (hidT h H).get? b = none := PySem.W.hideAll_none (trk h H) hm
    rw [z] at e; cases e
end L2
namespace L2
open PySem PySem.Spec PyProof.Rows
structure Mod (K : PySem.W.Frag) (mg : Str → Option Value) (base : Heap) : Prop where
  kin : K.In base
  glob : base.Ns mainGlobals mg
  blt : ∃ mb, base.Ns builtinsNs mb ∧ ∀ x : Str, x ≠ "__name__" → mb x = bootBuiltins x
  nolimit : base.NoLimit
set_option genInjectivity false in
set_option genSizeOf false in
structure Cx where
  prog : Program
  w : World
  K : PySem.W.Frag
  mg : Str → Option Value
  base : Heap
  A : Around
  N : List Str
  s_0 : Shared
  H_0 : Hp
  env : Env
  outer : List Env
  stack : List Env
  ex : List Addr
  fn : Str → Bool
  calm : Bool
  pn : List (Addr × Obj)
  xe : Value → Shared → Prop
noncomputable def frs (l : List Env) : List Addr := l.filterMap (·.frame)
noncomputable abbrev Cx.fs (X : Cx) : List Addr := frs X.outer
noncomputable def Vis (sc : Scope) (x : Str) : Prop := sc.names.lookup x = some .local ∨ sc.names.lookup x = some .cell ∨ sc.names.lookup x = some .free
noncomputable def Loc (sc : Scope) (x : Str) : Prop := sc.names.lookup x = some .local ∨ sc.names.lookup x = some .cell
noncomputable def Look (env : Env) (h : Heap) (m : Str → Option Value) (x : Str) (u : Value) : Prop :=
  (env.kindOf x = some .local ∧ m x = some u) ∨ ((env.kindOf x = some .cell ∨ env.kindOf x = some .free) ∧ ∃ c, env.cells.lookup x = some c ∧ h.IsCell c (some u))
structure Cx.Ok (X : Cx) : Prop where
  mod : Mod X.K X.mg X.base
  kind : X.env.scope.kind = .function
  glob : X.env.globals = mainGlobals
  blt : X.env.builtins = builtinsNs
  above : X.s_0.heap.objs.size ≤ X.env.locals
  inj : ∀ x y c, X.env.cells.lookup x = some c → X.env.cells.lookup y = some c → x = y
  has : ∀ x, (X.env.kindOf x = some .cell ∨ X.env.kindOf x = some .free) → ∃ c, X.env.cells.lookup x = some c
  cab : ∀ x c, X.fn x = true → X.env.cells.lookup x = some c → X.s_0.heap.objs.size ≤ c
  hd : X.calm = true → X.A.handled = none
  frames : X.A.frames = some X.stack
  stk : X.stack = X.outer ∨ (X.stack = X.env :: X.outer ∧ X.env.frame = some X.env.locals)
  exf : ∀ b ∈ X.ex, b ≠ X.env.locals ∧ ∀ x c, X.env.cells.lookup x = some c → c ≠ b
  bs : ∀ b o, X.base.get? b = some o → X.s_0.heap.get? b = some o ∧ X.H_0 b = none
  bsz : X.base.objs.size ≤ X.s_0.heap.objs.size
  noex : ∀ b o, X.base.get? b = some o → b ∉ X.ex
  exfs : ∀ b ∈ X.ex, b ∉ X.fs
  funs : X.s_0.heap.FunFrames X.base X.outer
  frf : ∀ b ∈ X.fs, X.H_0 b = none
structure Inv (X : Cx) (pins : List (Addr × Obj)) (σ : List (Option V)) (H : Hp) (s : Shared) : Prop where
  ok : X.Ok
  os : s.os = X.s_0.os
  bare : AllBare s.gens
  base : Un X.fs X.ex X.H_0 H X.s_0.heap s.heap
  loc : ∃ m, s.heap.Ns X.env.locals m ∧ ∀ (i : Nat) (x : Str) (v : V), X.N[i]? = some x → σ[i]? = some (some v) → Vis X.env.scope x → ∃ u, RelV v u ∧ Look X.env s.heap m x u
  cell : ∀ x c, X.env.cells.lookup x = some c → ∃ v, s.heap.IsCell c v
  free : H X.env.locals = none
  freeC : ∀ x c, X.env.cells.lookup x = some c → H c = none
  pin : ∀ p ∈ X.pn ++ pins, s.heap.get? p.1 = some p.2 ∧ H p.1 = none ∧ p.1 ≠ X.env.locals ∧ p.1 ∉ X.fs ∧ ∀ v, p.2.data ≠ .cell v
  hok : HOk X.prog X.w H s.heap
  len : σ.length = X.N.length
section
variable {X : Cx} {pins : List (Addr × Obj)} {σ : List (Option V)} {H H' : Hp} {s : Shared} {h' : Heap}
theorem Cx.Ok.nofr (ok : X.Ok) {b : Addr} {o : Obj} (e : X.base.get? b = some o) : b ∉ X.fs := fun hb => by
  have := (ok.funs.mem hb).1
  rw [e] at this; cases this
theorem Inv.bs (I : Inv X pins σ H s) : ∀ b o, X.base.get? b = some o → s.heap.get? b = some o ∧ H b = none := fun b o e =>
  ⟨I.base.keep b o (I.ok.bs b o e).1 (I.ok.bs b o e).2 (I.ok.nofr e) (I.ok.noex b o e), I.base.free b o (I.ok.bs b o e).1 (I.ok.bs b o e).2 (I.ok.noex b o e)⟩
theorem Inv.bk (I : Inv X pins σ H s) : ∀ b o, X.base.get? b = some o → s.heap.get? b = some o := fun b o e => (I.bs b o e).1
theorem Inv.mod (I : Inv X pins σ H s) : Mod X.K X.mg X.base := I.ok.mod
theorem Inv.kIn (I : Inv X pins σ H s) : X.K.In s.heap := I.ok.mod.kin.keeps I.bk
theorem Inv.fr (I : Inv X pins σ H s) : ∃ m, Fr X.base X.env.locals s.heap m :=
  let ⟨m, hn, _⟩ := I.loc
  ⟨m, hn, I.bk, Nat.le_trans I.ok.bsz I.ok.above⟩
theorem Inv.lt (I : Inv X pins σ H s) : X.env.locals < s.heap.objs.size := let ⟨_, hn, _⟩ := I.loc; hn.lt
theorem Inv.sz (I : Inv X pins σ H s) : X.s_0.heap.objs.size ≤ s.heap.objs.size := Nat.le_trans I.ok.above (Nat.le_of_lt I.lt)
theorem Inv.nofs (I : Inv X pins σ H s) {a : Addr} (h : s.heap.objs.size ≤ a) : a ∉ X.fs := fun hb => by
  obtain ⟨_, o, ho, _⟩ := I.ok.funs.mem hb
  exact absurd (Nat.lt_of_lt_of_le (Heap.lt_size ho) (Nat.le_trans I.sz h)) (Nat.lt_irrefl _)
theorem Inv.cne (I : Inv X pins σ H s) : ∀ x c, X.env.cells.lookup x = some c → c ≠ X.env.locals := fun x c e z => by
  obtain ⟨v, o, ho, hd⟩ := I.cell x c e
  obtain ⟨m, ⟨o', es, ep, ho', hd', _⟩, _⟩ := I.loc
  rw [z, ho'] at ho; cases ho; rw [hd'] at hd; cases hd
theorem Inv.funs (I : Inv X pins σ H s) : s.heap.FunFrames X.base X.outer := by
  have all : ∀ (l : List Env), (∀ b ∈ frs l, b ∈ X.fs) → X.s_0.heap.FunFrames X.base l → s.heap.FunFrames X.base l := by
    intro l
    induction l with
    | nil => intro _ _; trivial
    | cons env r ih =>
      intro hs hl
      obtain ⟨hk, ⟨L, o, hf, hn, ho, hd⟩, hr⟩ := hl
      have hL : L ∈ X.fs := hs L (by unfold frs; rw [List.filterMap_cons, hf]; exact List.mem_cons_self)
      obtain ⟨sl, e⟩ := I.base.slot L o ho (I.ok.frf L hL) hL fun z => I.ok.exfs L z hL
      exact ⟨hk, ⟨L, _, hf, hn, e, hd⟩, ih (fun b hb => hs b (by unfold frs; rw [List.filterMap_cons, hf]; exact List.mem_cons_of_mem _ hb)) hr⟩
  exact all X.outer (fun _ hb => hb) I.ok.funs
theorem Inv.stack (I : Inv X pins σ H s) : s.heap.FunFrames X.base X.stack := by
  rcases I.ok.stk with e | ⟨e, hf⟩
  · rw [e]; exact I.funs
  · rw [e]
    obtain ⟨m, hn, _⟩ := I.loc
    refine .cons (by rw [I.ok.kind]; decide) hf hn ?_ I.funs
    exact Heap.get?_none_of_le (Nat.le_trans I.ok.bsz I.ok.above)
theorem Inv.stkSub (I : Inv X pins σ H s) : ∀ b ∈ frs X.stack, b ∈ X.env.locals :: X.fs := fun b hb => by
  rcases I.ok.stk with e | ⟨e, hf⟩
  · rw [e] at hb; exact List.mem_cons_of_mem _ hb
  · rw [e] at hb
    unfold frs at hb
    rw [List.filterMap_cons, hf] at hb
    exact hb
theorem Inv.stkFree (I : Inv X pins σ H s) : ∀ b ∈ frs X.stack, H b = none := fun b hb => by
  rcases List.mem_cons.mp (I.stkSub b hb) with e | hb
  · rw [e]; exact I.free
  · obtain ⟨_, o, ho, _⟩ := I.ok.funs.mem hb
    exact I.base.free b o ho (I.ok.frf b hb) fun z => I.ok.exfs b z hb
theorem Inv.step {g' : Array GenState} {t' : Nat} {d' : Drawn} {ch : List Addr} (I : Inv X pins σ H s)
    (hch : ∀ b ∈ ch, (b ∈ X.ex ∨ X.s_0.heap.objs.size ≤ b) ∧ b ≠ X.env.locals ∧ (∀ x c, X.env.cells.lookup x = some c → c ≠ b) ∧ ∀ p ∈ X.pn ++ pins, p.1 ≠ b)
    (keep : ∀ b o, b ≠ X.env.locals → b ∉ X.fs → b ∉ ch → s.heap.get? b = some o → H b = none → h'.get? b = some o)
    (slot : ∀ b o, b ≠ X.env.locals → b ∈ X.fs → b ∉ ch → s.heap.get? b = some o → H b = none → ∃ sl, h'.get? b = some { o with slots := sl }) (free : ∀ b o, b ∉ ch → s.heap.get? b = some o → H b = none → H' b = none)
    (there : ∀ b o, b ∉ ch → s.heap.get? b = some o → ∃ o', h'.get? b = some o')
    (tups : ∀ b xs, H b = some (.tup xs) → H' b = some (.tup xs)) (frzs : ∀ b o u, H b = some (.frz o u) → H' b = some (.frz o u)) (tbls : ∀ b ps, H b = some (.tbl ps) → ∃ more, H' b = some (.tbl (ps ++ more)))
    (ns : ∀ m, s.heap.Ns X.env.locals m → h'.Ns X.env.locals m) (hok : HOk X.prog X.w H' h') (hg : AllBare g') :
    Inv X pins σ H' { s with heap := h', gens := g', drawn := d', toks := t' } := by
  have neL : ∀ b o, X.s_0.heap.get? b = some o → b ≠ X.env.locals := fun b o e => Nat.ne_of_lt (Nat.lt_of_lt_of_le (Heap.lt_size e) I.ok.above)
  have neC : ∀ b o, X.s_0.heap.get? b = some o → b ∉ X.ex → b ∉ ch := fun b o e hx hb => by
    rcases (hch b hb).1 with z | z
    · exact hx z
    · exact absurd (Nat.lt_of_lt_of_le (Heap.lt_size e) z) (Nat.lt_irrefl _)
  have cellK : ∀ x c, X.env.cells.lookup x = some c → ∀ v, s.heap.IsCell c v → h'.IsCell c v := fun x c e v ⟨o, ho, hd⟩ => by
    have nch : c ∉ ch := fun z => (hch c z).2.2.1 x c e rfl
    by_cases hc : c ∈ X.fs
    · obtain ⟨sl, q⟩ := slot c o (I.cne x c e) hc nch ho (I.freeC x c e)
      exact ⟨_, q, hd⟩
    · exact ⟨o, keep c o (I.cne x c e) hc nch ho (I.freeC x c e), hd⟩
  refine ⟨I.ok, I.os, hg, ⟨fun b o e n hb hx => ?_, fun b o e n hb hx => ?_, fun b o e n hx => ?_, fun b o e hx => ?_, fun b xs e => tups b xs (I.base.tups b xs e), fun b o xs e => frzs b o xs (I.base.frzs b o xs e), fun b ps e => ?_⟩, ?_, fun x c e => ?_, ?_, fun x c e => ?_, fun p hp => ?_, hok, I.len⟩
  · exact keep b o (neL b o e) hb (neC b o e hx) (I.base.keep b o e n hb hx) (I.base.free b o e n hx)
  · obtain ⟨sl, e1⟩ := I.base.slot b o e n hb hx
    obtain ⟨sl', e2⟩ := slot b _ (neL b o e) hb (neC b o e hx) e1 (I.base.free b o e n hx)
    exact ⟨sl', e2⟩
  · obtain ⟨o', e1⟩ := I.base.there b o e hx
    exact free b o' (neC b o e hx) e1 (I.base.free b o e n hx)
  · obtain ⟨o', e1⟩ := I.base.there b o e hx
    exact there b o' (neC b o e hx) e1
  · obtain ⟨m1, e1⟩ := I.base.tbls b ps e
    obtain ⟨m2, e2⟩ := tbls b _ e1
    exact ⟨m1 ++ m2, by rw [e2, Array.append_assoc]⟩
  · obtain ⟨m, hn, hl⟩ := I.loc
    refine ⟨m, ns m hn, fun i x v e1 e2 e3 => ?_⟩
    obtain ⟨u, r, l⟩ := hl i x v e1 e2 e3
    refine ⟨u, r, ?_⟩
    rcases l with l | ⟨k, c, e, z⟩
    · exact .inl l
    · exact .inr ⟨k, c, e, cellK x c e _ z⟩
  · obtain ⟨v, z⟩ := I.cell x c e
    exact ⟨v, cellK x c e v z⟩
  · obtain ⟨m, ⟨o, _, _, ho, _⟩, _⟩ := I.loc
    exact free _ o (fun z => (hch _ z).2.1 rfl) ho I.free
  · obtain ⟨v, o, ho, hd⟩ := I.cell x c e
    exact free c o (fun z => (hch c z).2.2.1 x c e rfl) ho (I.freeC x c e)
  · obtain ⟨e, n, ne, nf, d⟩ := I.pin p hp
    have nch : p.1 ∉ ch := fun z => (hch p.1 z).2.2.2 p hp rfl
    exact ⟨keep p.1 p.2 ne nf nch e n, free p.1 p.2 nch e n, ne, nf, d⟩
theorem Inv.un {t' : Nat} (I : Inv X pins σ H s) (u : Un X.fs [] H H' s.heap h') (hok : HOk X.prog X.w H' h') : Inv X pins σ H' { s with heap := h', toks := t' } := by
  obtain ⟨m, ⟨o, es, ep, ho, r⟩, _⟩ := id I.loc
  obtain ⟨sl, hL⟩ := u.any ho I.free (by simp)
  exact I.step (g' := s.gens) (d' := s.drawn) (ch := []) (fun _ z => nomatch z) (fun b o _ hb _ e n => u.keep b o e n hb (by simp)) (fun b o _ hb _ e n => u.slot b o e n hb (by simp)) (fun b o _ e n => u.free b o e n (by simp)) (fun b o _ e => u.there b o e (by simp)) u.tups u.frzs u.tbls (fun m' hm => by
    obtain ⟨o', es', ep', ho', r'⟩ := hm
    rw [ho] at ho'; cases ho'
    exact ⟨_, es', ep', hL, r'⟩) hok I.bare
theorem Inv.call {g' : Array GenState} {t' : Nat} {d' : Drawn} {ch : List Addr} (I : Inv X pins σ H s) (u : Un (frs X.stack) ch H H' s.heap h') (hok : HOk X.prog X.w H' h') (hg : AllBare g')
    (hch : ∀ b ∈ ch, (b ∈ X.ex ∨ X.s_0.heap.objs.size ≤ b) ∧ b ≠ X.env.locals ∧ (∀ x c, X.env.cells.lookup x = some c → c ≠ b) ∧ ∀ p ∈ X.pn ++ pins, p.1 ≠ b) :
    Inv X pins σ H' { s with heap := h', gens := g', drawn := d', toks := t' } := by
  obtain ⟨m, ⟨o, es, ep, ho, r⟩, _⟩ := id I.loc
  obtain ⟨sl, hL⟩ := u.any ho I.free fun z => (hch _ z).2.1 rfl
  exact I.step (ch := ch) hch (fun b o hL hb hc e n => u.keep b o e n (fun z => (List.mem_cons.mp (I.stkSub b z)).elim hL hb) hc) (fun b o _ _ hc e n => u.any e n hc) (fun b o hc e n => u.free b o e n hc) (fun b o hc e => u.there b o e hc) u.tups u.frzs u.tbls (fun m' hm => by
    obtain ⟨o', es', ep', ho', r'⟩ := hm
    rw [ho] at ho'; cases ho'
    exact ⟨_, es', ep', hL, r'⟩) hok hg
theorem Inv.turned {t' : Nat} {it : Addr} (I : Inv X pins σ H s) (k : ∀ b o, b ≠ it → s.heap.get? b = some o → h'.get? b = some o) (hn : H it = none) (hL : it ≠ X.env.locals)
    (h1 : it ∈ X.ex ∨ X.s_0.heap.objs.size ≤ it) (h2 : ∀ x c, X.env.cells.lookup x = some c → c ≠ it) (h3 : ∀ p ∈ X.pn ++ pins, p.1 ≠ it) : Inv X pins σ H { s with heap := h', toks := t' } := by
  have nit : ∀ b u, H b = some u → b ≠ it := fun b u e z => by rw [z, hn] at e; cases e
  refine I.step (g' := s.gens) (d' := s.drawn) (ch := [it]) (fun b hb => ?_) (fun b o _ _ hc e _ => k b o (fun z => hc (by simp [z])) e) (fun b o _ _ hc e _ => ⟨o.slots, k b o (fun z => hc (by simp [z])) e⟩) (fun _ _ _ _ n => n)
    (fun b o hc e => ⟨o, k b o (fun z => hc (by simp [z])) e⟩) (fun _ _ e => e) (fun _ _ _ e => e) (fun b ps e => ⟨#[], by rw [e]; simp⟩) (fun m hm => ?_) (fun b u e => ?_) I.bare
  · have e : b = it := by simpa using hb
    subst e
    exact ⟨h1, hL, h2, h3⟩
  · obtain ⟨o, es, ep, ho, r⟩ := hm
    exact ⟨o, es, ep, k _ o (Ne.symm hL) ho, r⟩
  · refine (I.hok b u e).stay (fun c v hc q => k c v ?_ q) (fun _ q => q) fun _ _ q => q
    rcases hc with z | z
    · rw [z]; exact nit b u e
    · exact nit c _ z
theorem Inv.tok (I : Inv X pins σ H s) (t : Nat) : Inv X pins σ H { s with toks := t } := I.un (h' := s.heap) (t' := t) Un.refl I.hok
theorem Inv.kept {t' : Nat} (I : Inv X pins σ H s) (k : ∀ b u, s.heap.get? b = some u → h'.get? b = some u) : Inv X pins σ H { s with heap := h', toks := t' } := I.un (Un.kept k) (I.hok.kept k)
theorem Inv.laid {a : Addr} {o : HO} {t' : Nat} (I : Inv X pins σ H s) (k : ∀ b u, s.heap.get? b = some u → h'.get? b = some u) (hp : s.heap.objs.size ≤ a) (new : ObjOk X.prog X.w (upd H a o) h' a o) :
    Inv X pins σ (upd H a o) { s with heap := h', toks := t' } := I.un (Un.laid k hp (I.hok.fresh hp)) (I.hok.laid k hp new)
theorem Inv.write {x e : Addr} {o : HO} {t' : Nat} (I : Inv X pins σ H s) (mu : Mut (H x)) (he : e = x ∨ H e = some (.own x)) (k : ∀ b u, b ≠ e → s.heap.get? b = some u → h'.get? b = some u) (heo : ∃ u, h'.get? e = some u)
    (new : ObjOk X.prog X.w (upd H x o) h' x o) : Inv X pins σ (upd H x o) { s with heap := h', toks := t' } := I.un (Un.write mu he k heo) (I.hok.write mu he k heo new)
theorem Inv.weak {σ' : List (Option V)} (I : Inv X pins σ H s) (hl : σ'.length = σ.length) (w : ∀ (i : Nat) v, σ'[i]? = some (some v) → σ[i]? = some (some v)) : Inv X pins σ' H s :=
  ⟨I.ok, I.os, I.bare, I.base, let ⟨m, hn, hl'⟩ := I.loc; ⟨m, hn, fun i x v e1 e2 e3 => hl' i x v e1 (w i v e2) e3⟩, I.cell, I.free, I.freeC, I.pin, I.hok, hl.trans I.len⟩
theorem Inv.pins_of {pins' : List (Addr × Obj)} (I : Inv X pins σ H s) (h : ∀ p ∈ pins', s.heap.get? p.1 = some p.2 ∧ H p.1 = none ∧ p.1 ≠ X.env.locals ∧ p.1 ∉ X.fs ∧ ∀ v, p.2.data ≠ .cell v) : Inv X pins' σ H s :=
  ⟨I.ok, I.os, I.bare, I.base, I.loc, I.cell, I.free, I.freeC, fun p hp => (List.mem_append.mp hp).elim (fun z => I.pin p (List.mem_append_left _ z)) (h p), I.hok, I.len⟩
theorem nodup_ix {N : List Str} (hN : N.Nodup) {i j : Nat} {x : Str} (a : N[i]? = some x) (b : N[j]? = some x) : i = j := by
  obtain ⟨h1, e1⟩ := List.getElem?_eq_some_iff.mp a
  obtain ⟨h2, e2⟩ := List.getElem?_eq_some_iff.mp b
  exact (List.getElem_inj hN).mp (e1.trans e2.symm)
theorem store_ok2 {M : Model} {A : Around} {E : Value → Shared → Prop} {i : Nat} {x : Str} {v : V} {u : Value} {Q : Unit → Shared → Prop} (I : Inv X pins σ H s) (hN : X.N.Nodup) (hi : X.N[i]? = some x) (hx : Loc X.env.scope x) (r : RelV v u)
    (h : ∀ s', Inv X pins (σ.set i (some v)) H s' → (∃ a, Heap.SameBut a s.heap s'.heap ∧ (a = X.env.locals ∨ X.env.cells.lookup x = some a)) → Q () s') (hf : X.fn x = true ∨ X.env.scope.names.lookup x = some .local := by first | exact .inl rfl | exact .inr rfl | assumption) : wpAny M A (storeName X.env x u) Q E s := by
  obtain ⟨m, hn, hl⟩ := id I.loc
  have hcls : (X.env.scope.kind == .class || (X.env.scope.kind == .module && X.env.locals != X.env.globals)) = false := by rw [I.ok.kind]; rfl
  have hiσ : i < σ.length := by rw [I.len]; exact (List.getElem?_eq_some_iff.mp hi).1
  have cne := I.cne
  have tracked : ∀ {a : Addr} {h' : Heap}, (∃ o, s.heap.get? a = some o ∧ H a = none) → Heap.SameBut a s.heap h' → HOk X.prog X.w H h' := fun {a h'} ha hs b ob e => by
    obtain ⟨_, _, hfree⟩ := ha
    refine (I.hok b ob e).stay (fun c w' hc q => (hs.2 c ?_).trans q) (fun _ q => q) fun _ _ q => q
    rintro rfl
    rcases hc with rfl | hc
    · rw [hfree] at e; cases e
    · rw [hfree] at hc; cases hc
  rcases hx with hk | hk
  · refine wpAny_storeName_local hk hn (fun h' hn' hs => ?_) hcls
    obtain ⟨oL, _, _, hoL, _⟩ := id hn
    refine h _ ⟨I.ok, I.os, I.bare, ⟨fun b o e n hb hx => ?_, fun b o e n hb hx => ?_, I.base.free, fun b o e hx => ?_, I.base.tups, I.base.frzs, I.base.tbls⟩, ⟨_, hn', fun j y v' e1 e2 e3 => ?_⟩, fun y c e => ?_, I.free, I.freeC, fun p hp => ?_, tracked ⟨oL, hoL, I.free⟩ hs, by simpa using I.len⟩ ⟨_, hs, .inl rfl⟩
    · exact (hs.2 b (Nat.ne_of_lt (Nat.lt_of_lt_of_le (Heap.lt_size e) I.ok.above))).trans (I.base.keep b o e n hb hx)
    · obtain ⟨sl, e1⟩ := I.base.slot b o e n hb hx
      exact ⟨sl, (hs.2 b (Nat.ne_of_lt (Nat.lt_of_lt_of_le (Heap.lt_size e) I.ok.above))).trans e1⟩
    · obtain ⟨o', e1⟩ := I.base.there b o e hx
      exact ⟨o', (hs.2 b (Nat.ne_of_lt (Nat.lt_of_lt_of_le (Heap.lt_size e) I.ok.above))).trans e1⟩
    · by_cases hj : j = i
      · subst hj
        rw [hi] at e1; cases e1
        rw [List.getElem?_set_self hiσ] at e2
        cases e2
        exact ⟨u, r, .inl ⟨hk, by simp⟩⟩
      · rw [List.getElem?_set_ne (Ne.symm hj)] at e2
        obtain ⟨u', r', q⟩ := hl j y v' e1 e2 e3
        refine ⟨u', r', ?_⟩
        rcases q with ⟨k, e⟩ | ⟨k, c, e, z⟩
        · refine .inl ⟨k, ?_⟩
          have : y ≠ x := fun e => hj (nodup_ix hN e1 (e ▸ hi))
          simp [this, e]
        · exact .inr ⟨k, c, e, z.sameBut hs (cne y c e)⟩
    · obtain ⟨w', z⟩ := I.cell y c e
      exact ⟨w', z.sameBut hs (cne y c e)⟩
    · obtain ⟨e, n, ne, nf, d⟩ := I.pin p hp
      exact ⟨(hs.2 p.1 ne).trans e, n, ne, nf, d⟩
  · have hfn : X.fn x = true := by
      rcases hf with z | z
      · exact z
      · rw [z] at hk; cases hk
    obtain ⟨c, hc⟩ := I.ok.has x (.inl hk)
    obtain ⟨w', z⟩ := I.cell x c hc
    refine wpAny_storeName_cell I.ok.kind hk hc z (fun h' hc' hs => ?_)
    obtain ⟨oc, hoc, hocd⟩ := id z
    refine h { s with heap := h' } ⟨I.ok, I.os, I.bare, ⟨fun b o e n hb hx => ?_, fun b o e n hb hx => ?_, I.base.free, fun b o e hx => ?_, I.base.tups, I.base.frzs, I.base.tbls⟩, ⟨m, hn.sameBut hs (Ne.symm (cne x c hc)), fun j y v' e1 e2 e3 => ?_⟩, fun y c' e => ?_, I.free, I.freeC, fun p hp => ?_, tracked ⟨oc, hoc, I.freeC x c hc⟩ hs, by simpa using I.len⟩ ⟨c, hs, .inr hc⟩
    · exact (hs.2 b (Nat.ne_of_lt (Nat.lt_of_lt_of_le (Heap.lt_size e) (I.ok.cab x c hfn hc)))).trans (I.base.keep b o e n hb hx)
    · obtain ⟨sl, e1⟩ := I.base.slot b o e n hb hx
      exact ⟨sl, (hs.2 b (Nat.ne_of_lt (Nat.lt_of_lt_of_le (Heap.lt_size e) (I.ok.cab x c hfn hc)))).trans e1⟩
    · obtain ⟨o', e1⟩ := I.base.there b o e hx
      exact ⟨o', (hs.2 b (Nat.ne_of_lt (Nat.lt_of_lt_of_le (Heap.lt_size e) (I.ok.cab x c hfn hc)))).trans e1⟩
    · by_cases hj : j = i
      · subst hj
        rw [hi] at e1; cases e1
        rw [List.getElem?_set_self hiσ] at e2
        cases e2
        exact ⟨u, r, .inr ⟨.inl hk, c, hc, hc'⟩⟩
      · rw [List.getElem?_set_ne (Ne.symm hj)] at e2
        obtain ⟨u', r', q⟩ := hl j y v' e1 e2 e3
        refine ⟨u', r', ?_⟩
        rcases q with q | ⟨k, c', e, z'⟩
        · exact .inl q
        · refine .inr ⟨k, c', e, z'.sameBut hs ?_⟩
          rintro rfl
          exact hj (nodup_ix hN e1 (I.ok.inj _ _ _ e hc ▸ hi))
    · by_cases hcc : c' = c
      · subst hcc; exact ⟨_, hc'⟩
      · obtain ⟨w2, z2⟩ := I.cell y c' e
        exact ⟨w2, z2.sameBut hs hcc⟩
    · obtain ⟨e, n, ne, nf, d⟩ := I.pin p hp
      refine ⟨(hs.2 p.1 ?_).trans e, n, ne, nf, d⟩
      intro q
      rw [q, hoc] at e
      have q' : oc = p.2 := Option.some.inj e
      exact d w' (by rw [← q']; exact hocd)
theorem store_ok {M : Model} {A : Around} {E : Value → Shared → Prop} {i : Nat} {x : Str} {v : V} {u : Value} {Q : Unit → Shared → Prop} (I : Inv X pins σ H s) (hN : X.N.Nodup) (hi : X.N[i]? = some x) (hx : Loc X.env.scope x) (r : RelV v u)
    (h : ∀ s', Inv X pins (σ.set i (some v)) H s' → Q () s') (hf : X.fn x = true ∨ X.env.scope.names.lookup x = some .local := by first | exact .inl rfl | exact .inr rfl | assumption) : wpAny M A (storeName X.env x u) Q E s :=
  store_ok2 I hN hi hx r (fun s' I' _ => h s' I') hf
theorem Inv.call' {s' : Shared} {ch : List Addr} (I : Inv X pins σ H s) (ho : s'.os = s.os) (u : Un (frs X.stack) ch H H' s.heap s'.heap) (hok : HOk X.prog X.w H' s'.heap) (hg : AllBare s'.gens)
    (hch : ∀ b ∈ ch, (b ∈ X.ex ∨ X.s_0.heap.objs.size ≤ b) ∧ b ≠ X.env.locals ∧ (∀ x c, X.env.cells.lookup x = some c → c ≠ b) ∧ ∀ p ∈ X.pn ++ pins, p.1 ≠ b) : Inv X pins σ H' s' := by
  obtain ⟨h', g', d', t', o'⟩ := s'
  have e : o' = s.os := ho
  subst e
  exact I.call (g' := g') (t' := t') (d' := d') u hok hg hch
end
noncomputable abbrev XK := Value → Option Addr → Hp → Prop
noncomputable abbrev St := List (Option V)
noncomputable abbrev VK := V → Hp → Prop
noncomputable abbrev TE := St → Hp → VK → Prop
noncomputable abbrev TT := St → Hp → (Bool → Hp → Prop) → Prop
noncomputable abbrev TA := St → Hp → (List V → Hp → Prop) → Prop
set_option genInjectivity false in
set_option genSizeOf false in
structure Ends where
  nx : St → Hp → Prop
  rt : VK
  bk : St → Hp → Prop := fun _ _ => False
  ct : St → Hp → Prop := fun _ _ => False
noncomputable abbrev TS := Ends → St → Hp → Prop
noncomputable def EP (X : Cx) (pins : List (Addr × Obj)) (σ : St) (Q : VK) (u : Value) (s' : Shared) : Prop := ∃ v H', Inv X pins σ H' s' ∧ RelV v u ∧ Q v H'
noncomputable def TP (X : Cx) (pins : List (Addr × Obj)) (σ : St) (Q : Bool → Hp → Prop) (b : Bool) (s' : Shared) : Prop := ∃ H', Inv X pins σ H' s' ∧ Q b H'
noncomputable def AP (X : Cx) (pins : List (Addr × Obj)) (σ : St) (Q : List V → Hp → Prop) (us : List Value) (s' : Shared) : Prop := ∃ vs H', Inv X pins σ H' s' ∧ Vals vs us ∧ Q vs H'
noncomputable def SP (X : Cx) (pins : List (Addr × Obj)) (D : Ends) (f : Flow) (s' : Shared) : Prop :=
  match f with
  | .next => ∃ σ' H', Inv X pins σ' H' s' ∧ D.nx σ' H'
  | .brk => ∃ σ' H', Inv X pins σ' H' s' ∧ D.bk σ' H'
  | .cont => ∃ σ' H', Inv X pins σ' H' s' ∧ D.ct σ' H'
  | .ret u => ∃ v σ' H', Inv X pins σ' H' s' ∧ RelV v u ∧ D.rt v H'
noncomputable def PE (X : Cx) (e : Expr) (t : TE) : Prop :=
  ∀ (pins : List (Addr × Obj)) (s : Shared) (σ : St) (H : Hp) (Q : VK), Inv X pins σ H s → t σ H Q → wpAny (model X.prog X.w) X.A (eval e X.env) (EP X pins σ Q) X.xe s
noncomputable def PT (X : Cx) (e : Expr) (t : TT) : Prop :=
  ∀ (pins : List (Addr × Obj)) (s : Shared) (σ : St) (H : Hp) (Q : Bool → Hp → Prop), Inv X pins σ H s → t σ H Q → wpAny (model X.prog X.w) X.A (isTrue e X.env (eval e X.env)) (TP X pins σ Q) X.xe s
noncomputable def PW (X : Cx) (e : Expr) (t : TT) : Prop :=
  ∀ (whole : Sem Value) (pins : List (Addr × Obj)) (s : Shared) (σ : St) (H : Hp) (Q : Bool → Hp → Prop), Inv X pins σ H s → t σ H Q → wpAny (model X.prog X.w) X.A (isTrue e X.env whole) (TP X pins σ Q) X.xe s
theorem PW.pt {X : Cx} {e : Expr} {t : TT} (h : PW X e t) : PT X e t := h _
noncomputable def PA (X : Cx) (es : List Expr) (t : TA) : Prop :=
  ∀ (pos : Pos) (pins : List (Addr × Obj)) (s : Shared) (σ : St) (H : Hp) (Q : List V → Hp → Prop), Inv X pins σ H s → t σ H Q → wpAny (model X.prog X.w) X.A (spliced (backTo pos (starEach es X.env))) (AP X pins σ Q) X.xe s
noncomputable def PS (X : Cx) (st : Stmt) (t : TS) : Prop :=
  ∀ (pins : List (Addr × Obj)) (s : Shared) (σ : St) (H : Hp) (D : Ends), Inv X pins σ H s → t D σ H → wpAny (model X.prog X.w) X.A (exec st X.env) (SP X pins D) X.xe s
noncomputable def PSs (X : Cx) (st : List Stmt) (t : TS) : Prop :=
  ∀ (pins : List (Addr × Obj)) (s : Shared) (σ : St) (H : Hp) (D : Ends), Inv X pins σ H s → t D σ H → wpAny (model X.prog X.w) X.A (execs st X.env) (SP X pins D) X.xe s
theorem thn {α : Type} {t : Sem α} {Q Q' : α → Shared → Prop} {M : Model} {A : Around} {E : Value → Shared → Prop} {s : Shared} (h : wpAny M A t Q E s) (hQ : ∀ a s, Q a s → Q' a s) : wpAny M A t Q' E s := wpAny_mono h hQ fun _ _ x => x
end L2
namespace L2
open PySem PySem.Spec PyProof.Rows
section
variable {X : Cx}
noncomputable def tVar (i : Nat) : TE := fun σ H Q => ∃ v, σ[i]? = some (some v) ∧ Q v H
noncomputable def tC (v : V) : TE := fun _ H Q => Q v H
theorem pe_var {i : Nat} {x : Str} {pos : Pos} (hN : X.N[i]? = some x) (hv : Vis X.env.scope x) (hd : (x == ("__debug__" : Str)) = false := by decide) (hcd : (x == ("__classdict__" : Str)) = false := by decide) : PE X (.Name x pos) (tVar i) := by
  intro pins s σ H Q I h
  obtain ⟨v, e, h⟩ := h
  obtain ⟨m, hn, hl⟩ := I.loc
  obtain ⟨u, r, l⟩ := hl i x v hN e hv
  have fin : EP X pins σ Q u s := ⟨v, H, I, r, h⟩
  rcases l with ⟨hk, hm⟩ | ⟨hk, c, hc, hcell⟩
  · exact wpAny_Name (wpAny_loadName_local I.ok.kind hk hn hm fin) hd
  · rcases hk with hk | hk
    · exact wpAny_Name (wpAny_loadName_cell I.ok.kind hk hc hcell fin) hd
    · exact wpAny_Name (wpAny_loadName_free I.ok.kind hk hc hcell fin hcd) hd
theorem pe_int {i j pos} : PE X (.Constant (.int i) j pos) (tC (.int i)) := fun _ _ _ H _ I h => wpAny_Constant_int ⟨.int i, H, I.tok _, ⟨_, rfl⟩, h⟩
theorem pe_bl {b j pos} : PE X (.Constant (.bool b) j pos) (tC (.bl b)) := fun _ _ _ H _ I h => Constant_bool ⟨.bl b, H, I, rfl, h⟩
noncomputable def Gl (X : Cx) (x : Str) : Prop := X.env.kindOf x = some .globalImplicit
theorem ld_glob {E : Value → Shared → Prop} {pins : List (Addr × Obj)} {s : Shared} {σ : St} {H : Hp} {x : Str} {u : Value} {pos : Pos} {Q : Value → Shared → Prop} (I : Inv X pins σ H s) (hg : Gl X x) (hm : X.mg x = some u) (h : Q u s)
    (hd : (x == ("__debug__" : Str)) = false := by decide) : wpAny (model X.prog X.w) X.A (eval (.Name x pos) X.env) Q E s :=
  Calls.Name_function_global I.ok.kind hg (Calls.loadGlobal_global (by rw [I.ok.glob]; exact I.mod.glob.keeps I.bk) hm h) hd
theorem ld_blt {E : Value → Shared → Prop} {pins : List (Addr × Obj)} {s : Shared} {σ : St} {H : Hp} {x : Str} {u : Value} {pos : Pos} {Q : Value → Shared → Prop} (I : Inv X pins σ H s) (hg : Gl X x) (hm : X.mg x = none) (hv : bootBuiltins x = some u) (h : Q u s)
    (hn : x ≠ "__name__" := by decide) (hd : (x == ("__debug__" : Str)) = false := by decide) : wpAny (model X.prog X.w) X.A (eval (.Name x pos) X.env) Q E s := by
  obtain ⟨mb, h1, h2⟩ := I.mod.blt
  exact Calls.Name_function_global I.ok.kind hg (Calls.loadGlobal_builtin (by rw [I.ok.glob]; exact I.mod.glob.keeps I.bk) hm (by rw [I.ok.blt]; exact h1.keeps I.bk) ((h2 x hn).trans hv) h) hd
theorem pe_glob {x : Str} {v : V} {u : Value} {pos : Pos} (hg : Gl X x) (hm : X.mg x = some u) (r : RelV v u) (hd : (x == ("__debug__" : Str)) = false := by decide) : PE X (.Name x pos) (tC v) :=
  fun _ _ _ H _ I h => ld_glob I hg hm ⟨v, H, I, r, h⟩ hd
variable {a b : Expr} {ta tb : TE} {pos : Pos}
noncomputable def PC (X : Cx) (op : CmpOp) (a b : Expr) (t : TE) : Prop :=
  ∀ (pins : List (Addr × Obj)) (s : Shared) (σ : St) (H : Hp) (Q : VK), Inv X pins σ H s → t σ H Q →
    wpAny (model X.prog X.w) X.A (eval a X.env) (fun v s₁ => wpAny (model X.prog X.w) X.A (eval b X.env) (fun u s₂ => wpAny (model X.prog X.w) X.A (compareOp op v u) (EP X pins σ Q) X.xe s₂) X.xe s₁) X.xe s
theorem nobehind (b : Expr) {op : CmpOp} (h : op ≠ .In) (h2 : op ≠ .NotIn) : behindInMarks op b = false := by
  have e1 : (op == CmpOp.In) = false := by cases op <;> first | rfl | exact absurd rfl h
  have e2 : (op == CmpOp.NotIn) = false := by cases op <;> first | rfl | exact absurd rfl h2
  cases b <;> simp [behindInMarks, e1, e2]
noncomputable def tIsN (ta : TE) : TE := fun σ H Q => ta σ H fun x H1 => Q (.bl (decide (x = .non))) H1
theorem RelV.none_iff {x : V} {v : Value} (r : RelV x v) : (v == Value.none) = decide (x = .non) := by
  cases x with
  | non => cases r; rfl
  | bl _ => cases r; rfl
  | int _ => obtain ⟨t, rfl⟩ := r; rfl
  | str _ => obtain ⟨t, rfl⟩ := r; rfl
  | byt _ => obtain ⟨t, rfl⟩ := r; rfl
  | flt _ => obtain ⟨t, rfl⟩ := r; rfl
  | ref _ => cases r; rfl
  | ty _ => cases r; rfl
theorem pc_isN {j pos'} (ha : PE X a ta) : PC X .Is a (.Constant .none j pos') (tIsN ta) := by
  intro pins s σ H Q I h
  refine thn (ha pins s σ H _ I h) fun v s1 ⟨x, H1, I1, r1, q1⟩ => ?_
  exact Constant_none (is_none_gen ⟨.bl _, H1, I1, by rw [r1.none_iff]; rfl, q1⟩)
noncomputable def tB (t : TE) : TT := fun σ H Q => t σ H fun x H1 => ∃ c, x = .bl c ∧ Q c H1
theorem pt_cmp {op : CmpOp} {t : TE} (h : PC X op a b t) (h1 : behindInMarks op b = false := by first | exact nobehind _ (by decide) (by decide) | rfl) : PT X (.Compare a [op] [b] pos) (tB t) := by
  intro pins s σ H Q I hw
  refine wpAny_isTrue_Compare1 (thn (h pins s σ H _ I hw) fun v s1 h1 => thn h1 fun u s2 h2 => thn h2 fun c s3 ⟨x, H1, I1, r1, q1⟩ => ?_) h1
  obtain ⟨d, rfl, q⟩ := q1
  cases r1
  exact wpAny_truthy_bool ⟨H1, I1, q⟩
theorem pt_val {e : Expr} {t : TE} (h : PE X e t) (he : ∀ whole, isTrue e X.env whole = (do let v ← whole; standAt e.pos; holding [v] (truthy v)) := by intro _; rfl) : PT X e (tB t) := by
  intro pins s σ H Q I hw
  refine isTrue_plain (thn (h pins s σ H _ I hw) fun v s1 ⟨x, H1, I1, r1, q1⟩ => ?_) (he _)
  obtain ⟨d, rfl, q⟩ := q1
  cases r1
  exact wpAny_truthy_bool ⟨H1, I1, q⟩
variable {tA tB' : TT} {rest : List Expr}
noncomputable def tOr (t u : TT) : TT := fun σ H Q => t σ H fun c H1 => if c = true then Q true H1 else u σ H1 Q
noncomputable def tNot (t : TT) : TT := fun σ H Q => t σ H fun c H1 => Q (!c) H1
theorem pw_or1 (ha : PT X a tA) : PW X (.BoolOp .Or [a] pos) tA := by
  intro wh pins s σ H Q I h
  refine isTrue_or (thn (ha pins s σ H Q I h) fun c s1 e => ?_)
  cases c with
  | false => exact isTrue_or_nil e
  | true => exact e
theorem pw_or (ha : PT X a tA) (hb : PW X (.BoolOp .Or (b :: rest) pos) tB') : PW X (.BoolOp .Or (a :: b :: rest) pos) (tOr tA tB') := by
  intro wh pins s σ H Q I h
  refine isTrue_or (thn (ha pins s σ H _ I h) fun c s1 ⟨H1, I1, q1⟩ => ?_)
  cases c with
  | true => exact ⟨H1, I1, q1⟩
  | false => exact hb wh pins s1 σ H1 Q I1 q1
theorem pt_not (ha : PT X a tA) : PT X (.UnaryOp .Not a pos) (tNot tA) := by
  intro pins s σ H Q I h
  exact isTrue_not (ha pins s σ H (fun c H1 => Q (!c) H1) I h)
noncomputable def tAndV (ta tb : TE) : TE := fun σ H Q => ta σ H fun x H1 => ∃ c, x = .bl c ∧ if c = true then tb σ H1 Q else Q (.bl false) H1
theorem pe_one {op} {t : TE} (h : PE X a t) : PE X (.BoolOp op [a] pos) t := fun pins s σ H Q I hw => BoolOp_one (h pins s σ H Q I hw)
theorem pe_and (ha : PE X a ta) (hb : PE X (.BoolOp .And (b :: rest) pos) tb) : PE X (.BoolOp .And (a :: b :: rest) pos) (tAndV ta tb) := by
  intro pins s σ H Q I h
  refine BoolOp_and (thn (ha pins s σ H _ I h) fun v s1 ⟨x, H1, I1, r1, q1⟩ => ?_)
  obtain ⟨c, rfl, q1⟩ := q1
  cases r1
  refine wpAny_truthy_bool ?_
  cases c with
  | true => exact hb pins s1 σ H1 Q I1 q1
  | false => exact ⟨.bl false, H1, I1, rfl, q1⟩
noncomputable def tIf (t : TT) (ta tb : TE) : TE := fun σ H Q => t σ H fun c H1 => if c = true then ta σ H1 Q else tb σ H1 Q
theorem pe_ifExp {c : Expr} (hc : PT X c tA) (ha : PE X a ta) (hb : PE X b tb) : PE X (.IfExp c a b pos) (tIf tA ta tb) := by
  intro pins s σ H Q I h
  refine wpAny_IfExp (thn (hc pins s σ H _ I h) fun d s1 ⟨H1, I1, q1⟩ => ?_)
  cases d with
  | true => exact ha pins s1 σ H1 Q I1 q1
  | false => exact hb pins s1 σ H1 Q I1 q1
end
end L2
namespace L2
open PySem PySem.Spec PyProof.Rows
noncomputable def SqL (K : PySem.W.Frag) (H : Hp) (a : Addr) (xs : List V) : Prop :=
  Rd H a (.lst xs) ∨
    ∃ (o : Obj) (its : Array Value) (n : Nat), K.lookup a = some o ∧ o.cls = .type "list" ∧ o.dict = none ∧ o.data = .seq its n ∧ its.size ≤ sizeLine ∧ Vals xs its.toList
noncomputable def SqT (K : PySem.W.Frag) (H : Hp) (a : Addr) (xs : List V) : Prop :=
  Rd H a (.tup xs) ∨
    ∃ (o : Obj) (its : Array Value) (n : Nat), K.lookup a = some o ∧ o.cls = .type "tuple" ∧ o.data = .seq its n ∧ its.size ≤ sizeLine ∧ Vals xs its.toList
noncomputable def absV : Value → Option V
  | .none => some .non
  | .bool b => some (.bl b)
  | .int i _ => some (.int i)
  | .str x _ => some (.str x)
  | .bytes b _ => some (.byt b)
  | .float b _ => some (.flt b)
  | .ref a => some (.ref a)
  | .type n => some (.ty n)
  | _ => none
theorem RelV.abs {x : V} {u : Value} (r : RelV x u) : absV u = some x := by
  cases x with
  | non => cases r; rfl
  | bl _ => cases r; rfl
  | int _ => obtain ⟨t, rfl⟩ := r; rfl
  | str _ => obtain ⟨t, rfl⟩ := r; rfl
  | byt _ => obtain ⟨t, rfl⟩ := r; rfl
  | flt _ => obtain ⟨t, rfl⟩ := r; rfl
  | ref _ => cases r; rfl
  | ty _ => cases r; rfl
theorem RelV.inj {x y : V} {u : Value} (r : RelV x u) (q : RelV y u) : x = y := Option.some.inj (r.abs.symm.trans q.abs)
theorem Vals.inj : ∀ {xs ys : List V} {us : List Value}, Vals xs us → Vals ys us → xs = ys
  | _, _, _, .nil, .nil => rfl
  | _, _, _, .cons r t, .cons r' t' => by rw [r.inj r', Vals.inj t t']
section
variable {X : Cx} {pins : List (Addr × Obj)} {σ : St} {H : Hp} {s : Shared} {a : Addr} {xs ys : List V}
theorem SqL.of {K : PySem.W.Frag} (h : H a = some (.lst xs)) : SqL K H a xs := .inl (.inl h)
theorem Inv.list (I : Inv X pins σ H s) (h : SqL X.K H a xs) : ∃ its : List Value, Vals xs its ∧ PlainL s.heap a its.toArray ∧ xs.length ≤ sizeLine := by
  rcases h with h | ⟨o, its, n, hk, hc, hd, hs, hz, r⟩
  · obtain ⟨z, its, n, r, e⟩ := h.ok I.hok
    exact ⟨its, r, ⟨_, n, e, rfl, rfl, rfl⟩, z⟩
  · refine ⟨its.toList, r, ⟨o, n, I.kIn a o hk, hc, hd, by simpa using hs⟩, ?_⟩
    have e := r.length
    simp only [Array.length_toList] at e
    omega
theorem Inv.tuple (I : Inv X pins σ H s) (h : SqT X.K H a xs) : ∃ its : List Value, Vals xs its ∧ IsTup s.heap a its.toArray ∧ xs.length ≤ sizeLine := by
  rcases h with h | ⟨o, its, n, hk, hc, hs, hz, r⟩
  · obtain ⟨z, its, r, p⟩ := h.ok I.hok
    exact ⟨its, r, p, z⟩
  · refine ⟨its.toList, r, ⟨o, I.kIn a o hk, hc, n, by simpa using hs⟩, ?_⟩
    have e := r.length
    simp only [Array.length_toList] at e
    omega
theorem Inv.list_inj (I : Inv X pins σ H s) (h : SqL X.K H a xs) (h' : SqL X.K H a ys) : xs = ys := by
  obtain ⟨its, r, ⟨o, n, e, _, _, d⟩, _⟩ := I.list h
  obtain ⟨its', r', ⟨o', n', e', _, _, d'⟩, _⟩ := I.list h'
  rw [e] at e'; cases e'
  rw [d] at d'
  injection d' with d1 _
  have : its = its' := by simpa using congrArg Array.toList d1
  subst this
  exact r.inj r'
end
noncomputable abbrev Cx.wish (X : Cx) (E : Value → Shared → Prop) : Cx := { X with xe := E }
noncomputable abbrev Cx.nox (X : Cx) : Cx := X.wish fun _ _ => False
theorem Cx.Ok.wish {X : Cx} (ok : X.Ok) (E : Value → Shared → Prop) : (X.wish E).Ok :=
  ⟨ok.mod, ok.kind, ok.glob, ok.blt, ok.above, ok.inj, ok.has, ok.cab, ok.hd, ok.frames, ok.stk, ok.exf, ok.bs, ok.bsz, ok.noex, ok.exfs, ok.funs, ok.frf⟩
theorem Cx.Ok.unwish {X : Cx} {E : Value → Shared → Prop} (ok : (X.wish E).Ok) : X.Ok :=
  ⟨ok.mod, ok.kind, ok.glob, ok.blt, ok.above, ok.inj, ok.has, ok.cab, ok.hd, ok.frames, ok.stk, ok.exf, ok.bs, ok.bsz, ok.noex, ok.exfs, ok.funs, ok.frf⟩
section
variable {X : Cx} {pins : List (Addr × Obj)} {σ : St} {H : Hp} {s : Shared} {E : Value → Shared → Prop}
theorem Inv.wish (I : Inv X pins σ H s) (E : Value → Shared → Prop) : Inv (X.wish E) pins σ H s := ⟨I.ok.wish E, I.os, I.bare, I.base, I.loc, I.cell, I.free, I.freeC, I.pin, I.hok, I.len⟩
theorem Inv.unwish (I : Inv (X.wish E) pins σ H s) : Inv X pins σ H s := ⟨I.ok.unwish, I.os, I.bare, I.base, I.loc, I.cell, I.free, I.freeC, I.pin, I.hok, I.len⟩
theorem SP.unwish {D : Ends} {f : Flow} {s' : Shared} (h : SP (X.wish E) pins D f s') : SP X pins D f s' := by
  cases f with
  | next => obtain ⟨σ', H', I, q⟩ := h; exact ⟨σ', H', I.unwish, q⟩
  | brk => obtain ⟨σ', H', I, q⟩ := h; exact ⟨σ', H', I.unwish, q⟩
  | cont => obtain ⟨σ', H', I, q⟩ := h; exact ⟨σ', H', I.unwish, q⟩
  | ret u => obtain ⟨v, σ', H', I, r, q⟩ := h; exact ⟨v, σ', H', I.unwish, r, q⟩
theorem PSs.nox {st : List Stmt} {t : TS} (h : PSs X.nox st t) : PSs X st t := fun pins s σ H D I hw =>
  wpAny_mono (h pins s σ H D (I.wish _) hw) (fun _ _ q => q.unwish) fun _ _ z => False.elim z
end
section
variable {X : Cx} {st : Stmt} {rest : List Stmt} {t u : TS} {e : Expr} {te : TE} {pos : Pos}
noncomputable def tNext : TS := fun D σ H => D.nx σ H
noncomputable def tSeq (t u : TS) : TS := fun D σ H => t { D with nx := u D } σ H
theorem pss_nil : PSs X [] tNext := fun _ _ σ H _ I h => wpAny_execs_nil ⟨σ, H, I, h⟩
theorem pss_cons (h1 : PS X st t) (h2 : PSs X rest u) : PSs X (st :: rest) (tSeq t u) := by
  intro pins s σ H D I h
  refine wpAny_execs_cons (thn (h1 pins s σ H { D with nx := u D } I h) fun f s1 q => ?_)
  cases f with
  | next =>
    obtain ⟨σ', H', I', q⟩ := q
    exact h2 pins s1 σ' H' D I' q
  | ret v => exact q
  | brk => exact q
  | cont => exact q
theorem pss_one (h1 : PS X st t) : PSs X [st] t := by
  intro pins s σ H D I h
  refine wpAny_execs_cons (thn (h1 pins s σ H D I h) fun f s1 q => ?_)
  cases f with
  | next => exact wpAny_execs_nil q
  | ret v => exact q
  | brk => exact q
  | cont => exact q
theorem Inv.quiet {pins : List (Addr × Obj)} {σ : St} {H : Hp} {s : Shared} (I : Inv X pins σ H s) : interactive X.env = false := by simp [interactive, I.ok.kind]
noncomputable def tDrop (te : TE) : TS := fun D σ H => te σ H fun _ H1 => D.nx σ H1
theorem ps_expr (he : PE X e te) (hs : swapsWith e none pos.line X.env = pure false := by rfl) : PS X (.Expr e pos) (tDrop te) := by
  intro pins s σ H D I h
  exact wpAny_Expr_any (thn (he pins s σ H _ I h) fun v s1 ⟨x, H1, I1, r1, q1⟩ => ⟨σ, H1, I1, q1⟩) I.quiet hs
noncomputable def tRet (te : TE) : TS := fun D σ H => te σ H D.rt
theorem ps_ret (he : PE X e te) : PS X (.Return (some e) pos) (tRet te) := by
  intro pins s σ H D I h
  exact wpAny_Return_some (thn (he pins s σ H _ I h) fun v s1 ⟨x, H1, I1, r1, q1⟩ => ⟨x, σ, H1, I1, r1, q1⟩)
noncomputable def tIfS (c : TT) (t u : TS) : TS := fun D σ H => c σ H fun b H1 => if b = true then t D σ H1 else u D σ H1
theorem ps_if {c : Expr} {a b : List Stmt} {tc : TT} (hc : PT X c tc) (ha : PSs X a t) (hb : PSs X b u) : PS X (.If c a b pos) (tIfS tc t u) := by
  intro pins s σ H D I h
  refine wpAny_If (thn (hc pins s σ H _ I h) fun d s1 ⟨H1, I1, q1⟩ => ?_)
  cases d with
  | true => exact ha pins s1 σ H1 D I1 q1
  | false => exact hb pins s1 σ H1 D I1 q1
end
noncomputable abbrev TG := V → St → Hp → (St → Hp → Prop) → Prop
noncomputable abbrev TGs := List V → St → Hp → (St → Hp → Prop) → Prop
noncomputable def PG (X : Cx) (target : Expr) (t : TG) : Prop :=
  ∀ (pins : List (Addr × Obj)) (s : Shared) (σ : St) (H : Hp) (v : V) (u : Value) (Q : St → Hp → Prop), Inv X pins σ H s → RelV v u → t v σ H Q →
    wpAny (model X.prog X.w) X.A (assign target X.env u) (fun _ s' => ∃ σ' H', Inv X pins σ' H' s' ∧ Q σ' H') X.xe s
noncomputable def PGs (X : Cx) (ts : List Expr) (t : TGs) : Prop :=
  ∀ (pins : List (Addr × Obj)) (s : Shared) (σ : St) (H : Hp) (vs : List V) (us : List Value) (Q : St → Hp → Prop), Inv X pins σ H s → Vals vs us → t vs σ H Q →
    wpAny (model X.prog X.w) X.A (assignInOrder ((assignEach ts X.env).map (·.2)) us) (fun _ s' => ∃ σ' H', Inv X pins σ' H' s' ∧ Q σ' H') X.xe s
section
variable {X : Cx} {pos : Pos}
noncomputable def gName (i : Nat) : TG := fun v σ H Q => Q (σ.set i (some v)) H
theorem pg_name {i : Nat} {x : Str} (hN : X.N.Nodup) (hi : X.N[i]? = some x) (hx : Loc X.env.scope x) (hf : X.fn x = true ∨ X.env.scope.names.lookup x = some .local := by first | exact .inl rfl | exact .inr rfl | assumption) : PG X (.Name x pos) (gName i) := by
  intro pins s σ H v u Q I r h
  exact wpAny_assign_Name (store_ok I hN hi hx r (fun s' I' => ⟨_, H, I', h⟩) hf)
noncomputable def gNil : TGs := fun vs σ H Q => vs = [] ∧ Q σ H
noncomputable def gCons (t : TG) (u : TGs) : TGs := fun vs σ H Q => ∃ v r, vs = v :: r ∧ t v σ H fun σ' H' => u r σ' H' Q
theorem pgs_nil : PGs X [] gNil := by
  intro pins s σ H vs us Q I r h
  obtain ⟨e, h⟩ := h
  subst e
  cases r
  exact assignInOrder_nil ⟨σ, H, I, h⟩
theorem pgs_cons {e : Expr} {es : List Expr} {t : TG} {u : TGs} (h1 : PG X e t) (h2 : PGs X es u)
    (hs : (assignEach (e :: es) X.env).map (·.2) = assign e X.env :: (assignEach es X.env).map (·.2) := by rfl) : PGs X (e :: es) (gCons t u) := by
  intro pins s σ H vs us Q I r h
  obtain ⟨v, vr, e1, h⟩ := h
  subst e1
  cases r with
  | cons r rr =>
    rw [hs]
    refine assignInOrder_cons (thn (h1 pins s σ H _ _ _ I r h) fun _ s1 ⟨σ1, H1, I1, q1⟩ => ?_)
    exact h2 pins s1 σ1 H1 _ _ Q I1 rr q1
noncomputable def gTup (K : PySem.W.Frag) (n : Nat) (t : TGs) : TG := fun v σ H Q => ∃ a xs, v = .ref a ∧ SqT K H a xs ∧ xs.length = n ∧ t xs σ H Q
theorem pg_tup {es : List Expr} {k : Nat} {t : TGs} {n : Nat} (hc : X.calm = true) (h : PGs X es t)
    (hn : (assignEach es X.env).length = n := by rfl) (hst : (assignEach es X.env).findIdx? (·.1) = none := by rfl) : PG X (.Tuple es k pos) (gTup X.K n t) := by
  intro pins s σ H v u Q I r hw
  obtain ⟨a, xs, e1, hq, hl, hw⟩ := hw
  subst e1
  cases r
  obtain ⟨its, rv, ht, hz⟩ := I.tuple hq
  refine assign_Tuple_tuple (I.ok.hd hc) ht (by simp [hn, ← hl, rv.length]) hst fun h' hx => ?_
  have I1 : Inv X pins σ H { s with heap := h' } := I.kept (t' := s.toks) fun b o e => hx b o (Nat.ne_of_lt (Heap.lt_size e)) e
  exact h pins _ σ H xs _ Q I1 (by simpa using rv) hw
noncomputable def tAsg (te : TE) (g : TG) : TS := fun D σ H => te σ H fun x H1 => g x σ H1 D.nx
theorem ps_set {i : Nat} {x : Str} {e : Expr} {te : TE} {pos' : Pos} (hN : X.N.Nodup) (hi : X.N[i]? = some x) (hx : Loc X.env.scope x) (he : PE X e te) (hs : swapsWith e (some (.Name x pos')) pos.line X.env = pure false := by rfl) (hf : X.fn x = true ∨ X.env.scope.names.lookup x = some .local := by first | exact .inl rfl | exact .inr rfl | assumption) :
    PS X (.Assign [.Name x pos'] e pos) (tAsg te (gName i)) := by
  intro pins s σ H D I h
  refine wpAny_Assign_Name (thn (he pins s σ H _ I h) fun v s1 ⟨y, H1, I1, r1, q1⟩ => ?_) hs
  exact store_ok I1 hN hi hx r1 (fun s2 I2 => ⟨_, H1, I2, q1⟩) hf
end
section
variable {X : Cx} {pos : Pos}
noncomputable def tWhile (c : TT) (tb : TS) : TS := fun D σ H => ∃ W : Nat → St → Hp → Prop, (∃ m, W m σ H) ∧ ∀ m σ H, W m σ H →
  c σ H fun b H1 => if b = true then ∃ N : St → Hp → Prop, (∀ σ' H', N σ' H' → ∃ m', m' < m ∧ W m' σ' H') ∧ tb { D with nx := N, ct := N, bk := D.nx } σ H1 else D.nx σ H1
theorem ps_while {c : Expr} {body : List Stmt} {tc : TT} {tb : TS} (hp : PassesOwn (model X.prog X.w) X.A X.env X.xe) (hc : PT X c tc) (hb : PSs X body tb) : PS X (.While c body [] pos) (tWhile tc tb) := by
  intro pins s σ H D I h
  obtain ⟨W, ⟨m0, w0⟩, turn⟩ := h
  refine wpAny_While (codeAny_whileLoop (fun n s' => ∃ σ' H', Inv X pins σ' H' s' ∧ W n σ' H') ?_ m0 ⟨σ, H, I, w0⟩)
  rintro n s1 ⟨σ1, H1, I1, w1⟩
  refine wpAny_passesOwn hp (thn (hc pins s1 σ1 H1 _ I1 (turn n σ1 H1 w1)) fun b s2 ⟨H2, I2, q2⟩ => ?_)
  cases b with
  | true =>
    obtain ⟨N, hN, q2⟩ := q2
    rw [if_pos rfl]
    refine wpAny_passesOwn hp (thn (hb pins s2 σ1 H2 _ I2 q2) fun f s3 q3 => ?_)
    cases f with
    | next =>
      obtain ⟨σ3, H3, I3, n3⟩ := q3
      obtain ⟨m', hm, w3⟩ := hN σ3 H3 n3
      exact ⟨m', hm, σ3, H3, I3, w3⟩
    | cont =>
      obtain ⟨σ3, H3, I3, n3⟩ := q3
      obtain ⟨m', hm, w3⟩ := hN σ3 H3 n3
      exact ⟨m', hm, σ3, H3, I3, w3⟩
    | brk => exact q3
    | ret v => exact q3
  | false =>
    rw [if_neg Bool.false_ne_true]
    exact wpAny_execs_nil ⟨σ1, H2, I2, q2⟩
end
set_option genInjectivity false in
set_option genSizeOf false in
structure It where
  go : Nat → Hp → Prop
  yld : Nat → Hp → V → Hp → Prop
  stop : Nat → Hp → Prop
noncomputable def FpOk (X : Cx) (pins : List (Addr × Obj)) (H : Hp) (b : Addr) : Prop :=
  H b = none ∧ b ≠ X.env.locals ∧ b ∉ X.fs ∧ (b ∈ X.ex ∨ X.s_0.heap.objs.size ≤ b) ∧ (∀ x c, X.env.cells.lookup x = some c → c ≠ b) ∧ ∀ p ∈ X.pn ++ pins, p.1 ≠ b
theorem Inv.fpOk {X : Cx} {pins : List (Addr × Obj)} {σ : St} {H H' : Hp} {s : Shared} {b : Addr} (I : Inv X pins σ H s) (hb : s.heap.objs.size ≤ b) (hn : H' b = none) : FpOk X pins H' b := by
  refine ⟨hn, Nat.ne_of_gt (Nat.lt_of_lt_of_le I.lt hb), I.nofs hb, .inr (Nat.le_trans I.sz hb), fun x c e z => ?_, fun p hp z => ?_⟩
  · obtain ⟨v, q⟩ := I.cell x c e
    exact absurd (Nat.lt_of_lt_of_le q.lt (by rw [z]; exact hb)) (Nat.lt_irrefl _)
  · exact absurd (Nat.lt_of_lt_of_le (Heap.lt_size (I.pin p hp).1) (by rw [z]; exact hb)) (Nat.lt_irrefl _)
structure Turn (P : Program) (w : World) (K : PySem.W.Frag) (tg : Expr) (J : It) (fp : List Addr) (it : Addr) (tn : Nat → Heap → Prop) : Prop where
  mem : it ∈ fp
  obj : ∀ i h, tn i h → ∀ b ∈ fp, ∃ o, h.get? b = some o ∧ ∀ v, o.data ≠ .cell v
  keep : ∀ i h h', tn i h → (∀ b ∈ fp, ∀ o, h.get? b = some o → h'.get? b = some o) → tn i h'
  item : ∀ (X : Cx), X.prog = P → X.w = w → X.K = K → X.calm = true → ∀ (i : Nat) (pins : List (Addr × Obj)) (s : Shared) (σ : St) (H : Hp) (E : Value → Shared → Prop), Inv X pins σ H s → (∀ b ∈ fp, FpOk X pins H b) → tn i s.heap → J.go i H →
    wpAny (model P w) X.A (pyNext (.ref it)) (fun r s1 => ∃ u, r = some u ∧
      wpAny (model P w) X.A (letOwnedTupleGo tg (.ref it) u) (fun _ s2 => ∃ x H', Inv X pins σ H' s2 ∧ RelV x u ∧ J.yld i H x H' ∧ tn (i + 1) s2.heap ∧ ∀ b ∈ fp, H' b = none) E s1) E s
  done : ∀ (X : Cx), X.prog = P → X.w = w → X.K = K → X.calm = true → ∀ (i : Nat) (pins : List (Addr × Obj)) (s : Shared) (σ : St) (H : Hp) (E : Value → Shared → Prop), Inv X pins σ H s → (∀ b ∈ fp, FpOk X pins H b) → tn i s.heap → J.stop i H →
    wpAny (model P w) X.A (pyNext (.ref it)) (fun r s1 => r = none ∧ Inv X pins σ H s1) E s
  self : ∀ (A : Around) (i : Nat) (s : Shared) (Q : Value → Shared → Prop) (E : Value → Shared → Prop), tn i s.heap → Q (.ref it) s → wpAny (model P w) A (pyIter (.ref it)) Q E s
noncomputable abbrev TI := St → Hp → (It → Hp → Prop) → Prop
noncomputable def PIE (X : Cx) (pins : List (Addr × Obj)) (σ : St) (tg : Expr) (R : It → Hp → Prop) (itv : Value) (s2 : Shared) : Prop :=
  ∃ (it : Addr) (fp : List Addr) (tn : Nat → Heap → Prop) (J : It) (H' : Hp), itv = .ref it ∧ Inv X pins σ H' s2 ∧ Turn X.prog X.w X.K tg J fp it tn ∧ tn 0 s2.heap ∧ (∀ b ∈ fp, FpOk X pins H' b) ∧ R J H'
noncomputable def PI (X : Cx) (tg iter : Expr) (wi : TI) : Prop :=
  ∀ (pins : List (Addr × Obj)) (s : Shared) (σ : St) (H : Hp) (R : It → Hp → Prop), Inv X pins σ H s → wi σ H R →
    wpAny (model X.prog X.w) X.A (eval iter X.env) (fun v s1 => wpAny (model X.prog X.w) X.A (pyIter v) (PIE X pins σ tg R) X.xe s1) X.xe s
theorem go_of {M : Model} {A : Around} {E : Value → Shared → Prop} {s : Shared} {tg : Expr} {it : Addr} {u : Value} {o : Obj} {n : String} {vs : Array Value} {Q : Unit → Shared → Prop} (ho : s.heap.get? it = some o) (hc : o.cls = .type n) (hd : o.data = .fields vs)
    (hn : ["enumerate", "zip", "dict_itemiterator", "dict_reverseitemiterator", "odict_iterator", "itertools.zip_longest", "itertools.pairwise"].contains n = false) (hQ : Q () s) : wpAny M A (letOwnedTupleGo tg (.ref it) u) Q E s := by
  unfold letOwnedTupleGo
  cases tg <;> first
    | exact wpAny_pure hQ
    | (cases u <;> first
        | exact wpAny_pure hQ
        | (refine wpAny_bind (wpAny_load ho ?_)
           rw [hc, hd]
           show wpAny M A (if (["enumerate", "zip", "dict_itemiterator", "dict_reverseitemiterator", "odict_iterator", "itertools.zip_longest", "itertools.pairwise"].contains n && vs[0]? == some (rawInt _)) = true then _ else _) Q E s
           rw [if_neg (by intro h; rw [hn, Bool.false_and] at h; cases h)]
           exact wpAny_pure hQ))
noncomputable def Itl (K : PySem.W.Frag) (a : Addr) : It :=
  ⟨fun i H => ∃ xs x, SqL K H a xs ∧ xs[i]? = some x, fun i H x H' => H' = H ∧ ∀ xs, SqL K H a xs → xs[i]? = some x, fun i H => ∃ xs, SqL K H a xs ∧ xs.length ≤ i⟩
noncomputable def Itr (lo : Int) (n : Nat) : It := ⟨fun i _ => i < n, fun i H x H' => H' = H ∧ x = .int (lo + i), fun i _ => n ≤ i⟩
theorem turn_list {P : Program} {w : World} {K : PySem.W.Frag} {tg : Expr} (a it : Addr) : Turn P w K tg (Itl K a) [it] it (fun i h => h.IsListIter it a i) where
  mem := by simp
  obj := fun i h st b hb => by
    have e : b = it := by simpa using hb
    subst e
    obtain ⟨o, e, c, d⟩ := st
    exact ⟨o, e, fun v z => by rw [d] at z; cases z⟩
  keep := fun i h h' st k => st.at fun o e => k it (by simp) o e
  item := by
    intro X hP hw hK hc i pins s σ H E I hf st hg
    subst hP hw hK
    obtain ⟨xs, x, hq, hx⟩ := hg
    obtain ⟨its, rv, p, hz⟩ := I.list hq
    obtain ⟨u, hu, ru⟩ := rv.get hx
    obtain ⟨f0, f1, f2, f3, f4, f5⟩ := hf it (by simp)
    refine wpAny_pyNext_list_item st p.isList (x := u) (by simpa using hu) fun h' st' sb => ?_
    have I1 : Inv X pins σ H { s with heap := h' } := I.turned (t' := s.toks) (fun b o hb e => (sb.2 b hb).trans e) f0 f1 f3 f4 f5
    obtain ⟨o, e, c, d⟩ := id st'
    exact ⟨u, rfl, go_of (s := { s with heap := h' }) e c d (by decide) ⟨x, H, I1, ru, ⟨rfl, fun ys hy => by rw [I.list_inj hy hq]; exact hx⟩, st', fun b hb => (hf b hb).1⟩⟩
  done := by
    intro X hP hw hK hc i pins s σ H E I hf st hg
    subst hP hw hK
    obtain ⟨xs, hq, hx⟩ := hg
    obtain ⟨its, rv, p, hz⟩ := I.list hq
    obtain ⟨f0, f1, f2, f3, f4, f5⟩ := hf it (by simp)
    have hl := rv.length
    exact wpAny_pyNext_list_end (I.ok.hd hc) st p.isList (by simp; omega) fun h' eb => ⟨rfl, I.turned (t' := s.toks) (fun b o hb e => eb b o hb e) f0 f1 f3 f4 f5⟩
  self := fun _ _ _ _ _ st h => wpAny_pyIter_listiter st h
theorem turn_range {P : Program} {w : World} {K : PySem.W.Frag} {tg : Expr} (it : Addr) (lo : Int) (n : Nat) : Turn P w K tg (Itr lo n) [it] it (fun i h => IsRangeIter h it (lo + (i : Nat) * 1) ((n : Int) - (i : Nat)) 1) where
  mem := by simp
  obj := fun i h st b hb => by
    have e : b = it := by simpa using hb
    subst e
    exact ⟨_, st, fun v z => by
      have z' : Data.fields _ = Data.cell v := z
      cases z'⟩
  keep := fun i h h' st k => k it (by simp) _ st
  item := by
    intro X hP hw hK hc i pins s σ H E I hf st hg
    subst hP hw hK
    obtain ⟨f0, f1, f2, f3, f4, f5⟩ := hf it (by simp)
    have W := Walks.range (prog := X.prog) (w := X.w) (I.ok.hd hc) it lo 1 n
    refine W.item i s _ _ hg st fun v h' tk hv st' kk => ?_
    obtain ⟨t, rfl⟩ := hv
    have I1 : Inv X pins σ H { s with heap := h', toks := tk } := I.turned (fun b o hb e => kk b o (by simpa using hb) e) f0 f1 f3 f4 f5
    refine ⟨_, rfl, go_of (s := { s with heap := h', toks := tk }) (n := "range_iterator") st' rfl rfl (by decide) ⟨.int (lo + i), H, I1, ⟨t, ?_⟩, ⟨rfl, rfl⟩, st', fun b hb => (hf b hb).1⟩⟩
    rw [Int.mul_one]
  done := by
    intro X hP hw hK hc i pins s σ H E I hf st hg
    subst hP hw hK
    obtain ⟨f0, f1, f2, f3, f4, f5⟩ := hf it (by simp)
    exact wpAny_pyNext_range_end (I.ok.hd hc) st (by have : n ≤ i := hg; omega) fun h' eb => ⟨rfl, I.turned (t' := s.toks) (fun b o hb e => eb b o hb e) f0 f1 f3 f4 f5⟩
  self := fun _ _ _ _ _ st h => wpAny_pyIter_rangeiter st h
end L2
namespace L2
open PySem PySem.Spec PyProof.Rows
section
variable {X : Cx} {tg : Expr}
noncomputable def iList (K : PySem.W.Frag) (tl : TE) : TI := fun σ H R => tl σ H fun x H1 => ∃ a, x = .ref a ∧ (∃ xs, SqL K H1 a xs) ∧ R (Itl K a) H1
theorem pi_list {l : Expr} {tl : TE} (hl : PE X l tl) : PI X tg l (iList X.K tl) := by
  intro pins s σ H R I h
  refine thn (hl pins s σ H _ I h) fun v s1 ⟨x, H1, I1, r1, q1⟩ => ?_
  obtain ⟨a, e, ⟨xs, hq⟩, q⟩ := q1
  subst e
  cases r1
  obtain ⟨its, rv, p, hz⟩ := I1.list hq
  refine wpAny_pyIter_list p.isList ?_
  refine ⟨s1.heap.objs.size, [s1.heap.objs.size], _, _, H1, rfl, I1.kept (t' := s1.toks) fun b o e => Heap.get?_push_of_some _ e, turn_list a _, ⟨_, Heap.get?_push_size _ rfl, rfl, rfl⟩, fun b hb => ?_, q⟩
  have e : b = s1.heap.objs.size := by simpa using hb
  subst e
  exact I1.fpOk (Nat.le_refl _) (I1.hok.fresh (Nat.le_refl _))
theorem range_it {pins : List (Addr × Obj)} {σ : St} {H : Hp} {s : Shared} {R : It → Hp → Prop} {E : Value → Shared → Prop} {lo hi : Int} {t u v : Tok} {tk : Nat} (I : Inv X pins σ H s) (h1 : -(2 ^ 62) ≤ lo) (h2 : lo < 2 ^ 62) (h3 : -(2 ^ 62) ≤ hi) (h4 : hi < 2 ^ 62)
    (q : R (Itr lo (hi - lo).toNat) H) : wpAny (model X.prog X.w) X.A (pyIter (.ref s.heap.objs.size)) (PIE X pins σ tg R) E { s with heap := s.heap.push { cls := .type "range", data := .fields #[.int lo t, .int hi u, .int 1 v] }, toks := tk } := by
  refine wpAny_pyIter_range (IsRange.new ..) (small_one h1 h2 h3 h4) ?_
  have I1 : Inv X pins σ H { s with heap := s.heap.push { cls := .type "range", data := .fields #[.int lo t, .int hi u, .int 1 v] }, toks := tk } := I.kept fun b o e => Heap.get?_push_of_some _ e
  refine ⟨(s.heap.push { cls := .type "range", data := .fields #[.int lo t, .int hi u, .int 1 v] }).objs.size, [(s.heap.push { cls := .type "range", data := .fields #[.int lo t, .int hi u, .int 1 v] }).objs.size], _, _, H, rfl,
    I1.kept (t' := tk) fun b o e => Heap.get?_push_of_some _ e, turn_range _ lo (hi - lo).toNat, ?_, fun b hb => ?_, q⟩
  · have e1 : lo + ((0 : Nat) : Int) * 1 = lo := by simp
    have e2 : (((hi - lo).toNat : Nat) : Int) - ((0 : Nat) : Int) = Builtin.Range.rangeSize lo hi 1 := by rw [rangeSize_one]; split <;> omega
    show IsRangeIter _ _ (lo + ((0 : Nat) : Int) * 1) ((((hi - lo).toNat : Nat) : Int) - ((0 : Nat) : Int)) 1
    rw [e1, e2]
    exact Heap.get?_push_size _ rfl
  · have e : b = (s.heap.push { cls := .type "range", data := .fields #[.int lo t, .int hi u, .int 1 v] }).objs.size := by simpa using hb
    subst e
    exact I1.fpOk (Nat.le_refl _) (I1.hok.fresh (Nat.le_refl _))
noncomputable def iRng1 (ta : TA) : TI := fun σ H R => ta σ H fun vs H1 => ∃ j : Int, vs = [.int j] ∧ -(2 ^ 62) ≤ j ∧ j < 2 ^ 62 ∧ R (Itr 0 j.toNat) H1
theorem pi_range1 {a : Expr} {ta : TA} {p pos : Pos} (hg : Gl X "range") (hm : X.mg "range" = none) (ha : PA X [a] ta) (hs : starEach [a] X.env = [(false, eval a X.env)] := by rfl) : PI X tg (.Call (.Name "range" p) [a] [] pos) (iRng1 ta) := by
  intro pins s σ H R I h
  refine Call_ (ld_blt I hg hm boot_range (PyProof.Rows.callWith_type1 (thn (ha pos pins s σ H _ I h) fun us s1 ⟨vs, H1, I1, r1, q1⟩ => ?_) hs rfl))
  obtain ⟨j, e, q1, q2, q⟩ := q1
  subst e
  cases r1 with
  | cons r rr =>
    cases rr
    obtain ⟨t, rfl⟩ := r
    exact call_range_1 (range_it I1 (by omega) (by omega) q1 q2 (by simpa using q))
noncomputable def pinsAt (fp : List Addr) (h : Heap) : List (Addr × Obj) := fp.filterMap fun b => (h.get? b).map fun o => (b, o)
theorem mem_pinsAt {fp : List Addr} {h : Heap} {b : Addr} {o : Obj} (hb : b ∈ fp) (e : h.get? b = some o) : (b, o) ∈ pinsAt fp h := List.mem_filterMap.mpr ⟨b, hb, by rw [e]; rfl⟩
theorem of_pinsAt {fp : List Addr} {h : Heap} {p : Addr × Obj} (hp : p ∈ pinsAt fp h) : p.1 ∈ fp ∧ h.get? p.1 = some p.2 := by
  obtain ⟨b, hb, e⟩ := List.mem_filterMap.mp hp
  cases q : h.get? b with
  | none => rw [q] at e; cases e
  | some o =>
    rw [q] at e
    have e' : (b, o) = p := Option.some.inj e
    subst e'
    exact ⟨hb, q⟩
theorem Inv.pinned {pins : List (Addr × Obj)} {σ : St} {H : Hp} {s : Shared} {fp : List Addr} (I : Inv X pins σ H s) (hf : ∀ b ∈ fp, FpOk X pins H b) (ho : ∀ b ∈ fp, ∃ o, s.heap.get? b = some o ∧ ∀ v, o.data ≠ .cell v) : Inv X (pins ++ pinsAt fp s.heap) σ H s :=
  I.pins_of fun p hp => (List.mem_append.mp hp).elim (fun z => I.pin p (List.mem_append_right _ z)) fun z => by
    obtain ⟨hb, e⟩ := of_pinsAt z
    obtain ⟨f0, f1, f2, _⟩ := hf p.1 hb
    obtain ⟨o, e', d⟩ := ho p.1 hb
    rw [e] at e'; cases e'
    exact ⟨e, f0, f1, f2, d⟩
theorem Inv.unpinned {pins pl : List (Addr × Obj)} {σ : St} {H : Hp} {s : Shared} (I : Inv X (pins ++ pl) σ H s) : Inv X pins σ H s := I.pins_of fun p hp => I.pin p (List.mem_append_right _ (List.mem_append_left _ hp))
end
end L2
namespace L2
open PySem PySem.Spec PyProof.Rows
noncomputable abbrev R2 := V → V → Hp → VK → Prop
noncomputable def OpR (X : Cx) (f : Value → Value → Sem Value) (r : R2) : Prop :=
  ∀ (pins : List (Addr × Obj)) (s : Shared) (σ : St) (H : Hp) (x y : V) (v u : Value) (Q : VK), Inv X pins σ H s → RelV x v → RelV y u → r x y H Q →
    wpAny (model X.prog X.w) X.A (f v u) (EP X pins σ Q) X.xe s
noncomputable def UnR (X : Cx) (f : Value → Sem Value) (r : V → Hp → VK → Prop) : Prop :=
  ∀ (pins : List (Addr × Obj)) (s : Shared) (σ : St) (H : Hp) (x : V) (v : Value) (Q : VK), Inv X pins σ H s → RelV x v → r x H Q →
    wpAny (model X.prog X.w) X.A (f v) (EP X pins σ Q) X.xe s
noncomputable def CallR (X : Cx) (f : Value) (r : List V → Hp → VK → Prop) : Prop :=
  ∀ (pins : List (Addr × Obj)) (s : Shared) (σ : St) (H : Hp) (xs : List V) (us : List Value) (Q : VK), Inv X pins σ H s → Vals xs us → r xs H Q →
    wpAny (model X.prog X.w) X.A (call f us) (EP X pins σ Q) X.xe s
noncomputable def tOp (r : R2) (ta tb : TE) : TE := fun σ H Q => ta σ H fun x H1 => tb σ H1 fun y H2 => r x y H2 Q
noncomputable def tUn (r : V → Hp → VK → Prop) (ta : TE) : TE := fun σ H Q => ta σ H fun x H1 => r x H1 Q
noncomputable def rI (C : Int → Int → Prop) (g : Int → Int → V) : R2 := fun x y H Q => ∃ i j, x = .int i ∧ y = .int j ∧ C i j ∧ Q (g i j) H
noncomputable def rI0 (g : Int → Int → V) : R2 := fun x y H Q => ∃ i j, x = .int i ∧ y = .int j ∧ Q (g i j) H
noncomputable def rU (g : Int → V) : V → Hp → VK → Prop := fun x H Q => ∃ i, x = .int i ∧ Q (g i) H
section
variable {X : Cx} {a b c : Expr} {ta tb tc : TE} {pos : Pos}
theorem binT (ha : PE X a ta) (hb : PE X b tb) {pins : List (Addr × Obj)} {s : Shared} {σ : St} {H : Hp} {R : V → V → Hp → Prop} (I : Inv X pins σ H s)
    (h : ta σ H fun x H1 => tb σ H1 fun y H2 => R x y H2) {Q : Value → Shared → Prop} {f : Value → Value → Sem Value}
    (hf : ∀ v u s2 x y H2, Inv X pins σ H2 s2 → RelV x v → RelV y u → R x y H2 → wpAny (model X.prog X.w) X.A (f v u) Q X.xe s2) :
    wpAny (model X.prog X.w) X.A (eval a X.env) (fun v s₁ => wpAny (model X.prog X.w) X.A (eval b X.env) (fun u s₂ => wpAny (model X.prog X.w) X.A (f v u) Q X.xe s₂) X.xe s₁) X.xe s := by
  refine thn (ha pins s σ H _ I h) fun v s1 ⟨x, H1, I1, r1, q1⟩ => ?_
  refine thn (hb pins s1 σ H1 _ I1 q1) fun u s2 ⟨y, H2, I2, r2, q2⟩ => ?_
  exact hf v u s2 x y H2 I2 r1 r2 q2
theorem pe_op {op : Operator} {r : R2} (ho : OpR X (binaryOp op) r) (ha : PE X a ta) (hb : PE X b tb) : PE X (.BinOp a op b pos) (tOp r ta tb) := by
  intro pins s σ H Q I h
  exact wpAny_BinOp (binT ha hb I h fun v u s2 x y H2 I2 rx ry q => ho pins s2 σ H2 x y v u Q I2 rx ry q)
theorem pe_un {op : UnaryOp} {r : V → Hp → VK → Prop} (ho : UnR X (unaryOp op) r) (ha : PE X a ta) : PE X (.UnaryOp op a pos) (tUn r ta) := by
  intro pins s σ H Q I h
  exact UnaryOp_ (thn (ha pins s σ H _ I h) fun v s1 ⟨x, H1, I1, r1, q1⟩ => ho pins s1 σ H1 x v Q I1 r1 q1)
theorem opI {f : Value → Value → Sem Value} {C : Int → Int → Prop} {g : Int → Int → Int}
    (rule : ∀ (i j : Int) (t u : Tok) (s : Shared) (Q : Value → Shared → Prop) (E : Value → Shared → Prop), C i j → Q (.int (g i j) s.toks) { s with toks := s.toks + 1 } → wpAny (model X.prog X.w) X.A (f (.int i t) (.int j u)) Q E s) :
    OpR X f (rI C fun i j => .int (g i j)) := by
  intro pins s σ H x y v u Q I rx ry h
  obtain ⟨i, j, rfl, rfl, hc, q⟩ := h
  obtain ⟨t, rfl⟩ := rx
  obtain ⟨t', rfl⟩ := ry
  exact rule i j t t' s _ _ hc ⟨.int (g i j), H, I.tok _, ⟨_, rfl⟩, q⟩
theorem opI0 {f : Value → Value → Sem Value} {g : Int → Int → Int}
    (rule : ∀ (i j : Int) (t u : Tok) (s : Shared) (Q : Value → Shared → Prop) (E : Value → Shared → Prop), Q (.int (g i j) s.toks) { s with toks := s.toks + 1 } → wpAny (model X.prog X.w) X.A (f (.int i t) (.int j u)) Q E s) :
    OpR X f (rI0 fun i j => .int (g i j)) := by
  intro pins s σ H x y v u Q I rx ry h
  obtain ⟨i, j, rfl, rfl, q⟩ := h
  obtain ⟨t, rfl⟩ := rx
  obtain ⟨t', rfl⟩ := ry
  exact rule i j t t' s _ _ ⟨.int (g i j), H, I.tok _, ⟨_, rfl⟩, q⟩
theorem opB0 {f : Value → Value → Sem Value} {g : Int → Int → Bool}
    (rule : ∀ (i j : Int) (t u : Tok) (s : Shared) (Q : Value → Shared → Prop) (E : Value → Shared → Prop), Q (.bool (g i j)) s → wpAny (model X.prog X.w) X.A (f (.int i t) (.int j u)) Q E s) :
    OpR X f (rI0 fun i j => .bl (g i j)) := by
  intro pins s σ H x y v u Q I rx ry h
  obtain ⟨i, j, rfl, rfl, q⟩ := h
  obtain ⟨t, rfl⟩ := rx
  obtain ⟨t', rfl⟩ := ry
  exact rule i j t t' s _ _ ⟨.bl (g i j), H, I, rfl, q⟩
noncomputable def CMul (i j : Int) : Prop := (-(2 ^ 64) < i ∧ i < 2 ^ 64) ∨ (-(2 ^ 64) < j ∧ j < 2 ^ 64)
theorem CMul.ok {i j : Int} (h : CMul i j) : IntMulOk i j := by
  rcases h with ⟨h1, h2⟩ | ⟨h1, h2⟩
  · exact .of_left (intBits_le_64 h1 h2)
  · exact .of_right (intBits_le_64 h1 h2)
theorem op_add : OpR X (binaryOp .Add) (rI0 fun i j => .int (i + j)) := opI0 fun _ _ _ _ _ _ _ q => add_int q
theorem op_sub : OpR X (binaryOp .Sub) (rI0 fun i j => .int (i - j)) := opI0 fun _ _ _ _ _ _ _ q => sub_int q
theorem op_mul : OpR X (binaryOp .Mult) (rI CMul fun i j => .int (i * j)) := opI fun _ _ _ _ _ _ _ hc q => mul_int q hc.ok
theorem op_mod : OpR X (binaryOp .Mod) (rI (fun _ j => 0 < j) fun i j => .int (i % j)) := opI fun i j _ _ _ _ _ hc q => by
  have h1 : (0 : Int) < j := hc
  exact mod_int' (by omega) (by rw [Int.fmod_eq_emod_of_nonneg i (by omega)]; exact q)
theorem unI {f : Value → Sem Value} {g : Int → Int}
    (rule : ∀ (i : Int) (t : Tok) (s : Shared) (Q : Value → Shared → Prop) (E : Value → Shared → Prop), Q (.int (g i) s.toks) { s with toks := s.toks + 1 } → wpAny (model X.prog X.w) X.A (f (.int i t)) Q E s) :
    UnR X f (rU fun i => .int (g i)) := by
  intro pins s σ H x v Q I rx h
  obtain ⟨i, rfl, q⟩ := h
  obtain ⟨t, rfl⟩ := rx
  exact rule i t s _ _ ⟨.int (g i), H, I.tok _, ⟨_, rfl⟩, q⟩
theorem un_neg : UnR X (unaryOp .USub) (rU fun i => .int (-i)) := unI fun _ _ _ _ _ q => neg_int q
end
noncomputable def scal : V → V → Bool
  | .non, .non => true | .non, .int _ => true | .int _, .non => true | .non, .bl _ => true | .bl _, .non => true | .non, .str _ => true | .str _, .non => true
  | .int _, .int _ => true | .bl _, .bl _ => true | .str _, .str _ => true | .byt _, .byt _ => true
  | .int _, .str _ => true | .str _, .int _ => true | .bl _, .str _ => true | .str _, .bl _ => true
  | _, _ => false
noncomputable def rEq : R2 := fun x y H Q => scal x y = true ∧ Q (.bl (decide (x = y))) H
noncomputable def rNe : R2 := fun x y H Q => scal x y = true ∧ Q (.bl (!decide (x = y))) H
theorem dec_int {i j : Int} : decide (V.int i = V.int j) = (i == j) := by
  rw [Bool.eq_iff_iff]
  simp
theorem dec_bl {i j : Bool} : decide (V.bl i = V.bl j) = (i == j) := by
  rw [Bool.eq_iff_iff]
  simp
theorem dec_str {i j : Str} : decide (V.str i = V.str j) = (i == j) := by
  rw [Bool.eq_iff_iff]
  simp
theorem dec_byt {i j : Array UInt8} : decide (V.byt i = V.byt j) = (i.toList == j.toList) := by
  rw [Bool.eq_iff_iff]
  cases i
  cases j
  simp
section
variable {X : Cx} {a b c : Expr} {ta tb tc : TE} {pos : Pos}
theorem fin_bl {pins : List (Addr × Obj)} {σ : St} {H : Hp} {s : Shared} {Q : VK} {k k' : Bool} (I : Inv X pins σ H s) (q : Q (.bl k) H) (e : k = k') : EP X pins σ Q (.bool k') s := by
  subst e
  exact ⟨.bl k, H, I, rfl, q⟩
theorem op_eq : OpR X (compareOp .Eq) rEq := by
  intro pins s σ H x y v u Q I rx ry h
  obtain ⟨hs, q⟩ := h
  cases x with
  | non =>
    cases rx
    cases y with
    | non => cases ry; exact PySem.EqNone.eq_none_none (fin_bl I q (by simp))
    | bl j => cases ry; exact PySem.EqNone.eq_none_bool (fin_bl I q (by simp))
    | int j => obtain ⟨t', rfl⟩ := ry; exact PySem.EqNone.eq_none_int (fin_bl I q (by simp))
    | str j => obtain ⟨t', rfl⟩ := ry; exact PySem.EqNone.eq_none_str (fin_bl I q (by simp))
    | _ => exact absurd (show false = true from hs) Bool.false_ne_true
  | bl i =>
    cases rx
    cases y with
    | non => cases ry; exact PySem.EqNone.eq_bool_none (fin_bl I q (by simp))
    | bl j => cases ry; exact eq_bool (fin_bl I q dec_bl)
    | str j => obtain ⟨t', rfl⟩ := ry; exact PySem.EqMixed.eq_bool_str (fin_bl I q (by simp))
    | _ => exact absurd (show false = true from hs) Bool.false_ne_true
  | int i =>
    obtain ⟨t, rfl⟩ := rx
    cases y with
    | non => cases ry; exact PySem.EqNone.eq_int_none (fin_bl I q (by simp))
    | int j => obtain ⟨t', rfl⟩ := ry; exact eq_int (fin_bl I q dec_int)
    | str j => obtain ⟨t', rfl⟩ := ry; exact PySem.EqMixed.eq_int_str (fin_bl I q (by simp))
    | _ => exact absurd (show false = true from hs) Bool.false_ne_true
  | str i =>
    obtain ⟨t, rfl⟩ := rx
    cases y with
    | non => cases ry; exact PySem.EqNone.eq_str_none (fin_bl I q (by simp))
    | bl j => cases ry; exact PySem.EqMixed.eq_str_bool (fin_bl I q (by simp))
    | int j => obtain ⟨t', rfl⟩ := ry; exact PySem.EqMixed.eq_str_int (fin_bl I q (by simp))
    | str j => obtain ⟨t', rfl⟩ := ry; exact eq_str (fin_bl I q dec_str)
    | _ => exact absurd (show false = true from hs) Bool.false_ne_true
  | byt i =>
    obtain ⟨t, rfl⟩ := rx
    cases y with
    | byt j => obtain ⟨t', rfl⟩ := ry; exact PySem.W.eq_bytes (fin_bl I q dec_byt)
    | _ => exact absurd (show false = true from hs) Bool.false_ne_true
  | _ => cases y <;> exact absurd (show false = true from hs) Bool.false_ne_true
theorem op_ne : OpR X (compareOp .NotEq) rNe := by
  intro pins s σ H x y v u Q I rx ry h
  obtain ⟨hs, q⟩ := h
  cases x with
  | non =>
    cases rx
    cases y with
    | non => cases ry; exact PySem.EqNone.ne_none_none (fin_bl I q (by simp))
    | bl j => cases ry; exact PySem.EqNone.ne_none_bool (fin_bl I q (by simp))
    | int j => obtain ⟨t', rfl⟩ := ry; exact PySem.EqNone.ne_none_int (fin_bl I q (by simp))
    | str j => obtain ⟨t', rfl⟩ := ry; exact PySem.EqNone.ne_none_str (fin_bl I q (by simp))
    | _ => exact absurd (show false = true from hs) Bool.false_ne_true
  | bl i =>
    cases rx
    cases y with
    | non => cases ry; exact PySem.EqNone.ne_bool_none (fin_bl I q (by simp))
    | bl j => cases ry; exact ne_bool (fin_bl I q (congrArg not dec_bl))
    | str j => obtain ⟨t', rfl⟩ := ry; exact PySem.EqMixed.ne_bool_str (fin_bl I q (by simp))
    | _ => exact absurd (show false = true from hs) Bool.false_ne_true
  | int i =>
    obtain ⟨t, rfl⟩ := rx
    cases y with
    | non => cases ry; exact PySem.EqNone.ne_int_none (fin_bl I q (by simp))
    | int j => obtain ⟨t', rfl⟩ := ry; exact ne_int (fin_bl I q (congrArg not dec_int))
    | str j => obtain ⟨t', rfl⟩ := ry; exact PySem.EqMixed.ne_int_str (fin_bl I q (by simp))
    | _ => exact absurd (show false = true from hs) Bool.false_ne_true
  | str i =>
    obtain ⟨t, rfl⟩ := rx
    cases y with
    | non => cases ry; exact PySem.EqNone.ne_str_none (fin_bl I q (by simp))
    | bl j => cases ry; exact PySem.EqMixed.ne_str_bool (fin_bl I q (by simp))
    | int j => obtain ⟨t', rfl⟩ := ry; exact PySem.EqMixed.ne_str_int (fin_bl I q (by simp))
    | str j => obtain ⟨t', rfl⟩ := ry; exact ne_str (fin_bl I q (congrArg not dec_str))
    | _ => exact absurd (show false = true from hs) Bool.false_ne_true
  | byt i =>
    obtain ⟨t, rfl⟩ := rx
    cases y with
    | byt j => obtain ⟨t', rfl⟩ := ry; exact PySem.W.ne_bytes (fin_bl I q (congrArg not dec_byt))
    | _ => exact absurd (show false = true from hs) Bool.false_ne_true
  | _ => cases y <;> exact absurd (show false = true from hs) Bool.false_ne_true
theorem op_lt : OpR X (compareOp .Lt) (rI0 fun i j => .bl (decide (i < j))) := opB0 fun _ _ _ _ _ _ _ q => lt_int q
theorem op_le : OpR X (compareOp .LtE) (rI0 fun i j => .bl (decide (i ≤ j))) := opB0 fun _ _ _ _ _ _ _ q => le_int q
theorem op_gt : OpR X (compareOp .Gt) (rI0 fun i j => .bl (decide (j < i))) := opB0 fun _ _ _ _ _ _ _ q => gt_int q
theorem op_ge : OpR X (compareOp .GtE) (rI0 fun i j => .bl (decide (j ≤ i))) := opB0 fun _ _ _ _ _ _ _ q => ge_int q
theorem nomark (b : Expr) {op : CmpOp} (h : op ≠ .In := by decide) (h2 : op ≠ .NotIn := by decide) : behindInMarks op b = false := by
  have e1 : (op == CmpOp.In) = false := by cases op <;> first | rfl | exact absurd rfl h
  have e2 : (op == CmpOp.NotIn) = false := by cases op <;> first | rfl | exact absurd rfl h2
  cases b <;> simp [behindInMarks, e1, e2]
theorem pe_cmpR {op : CmpOp} {r : R2} (ho : OpR X (compareOp op) r) (ha : PE X a ta) (hb : PE X b tb) (hm : behindInMarks op b = false) : PE X (.Compare a [op] [b] pos) (tOp r ta tb) := by
  intro pins s σ H Q I h
  exact wpAny_Compare1 (binT ha hb I h fun v u s2 x y H2 I2 rx ry q => ho pins s2 σ H2 x y v u Q I2 rx ry q) hm
noncomputable def tTest (t : TE) : TT := fun σ H Q => t σ H fun x H' => ∃ k, x = .bl k ∧ Q k H'
theorem pt_cmpR {op : CmpOp} {r : R2} (ho : OpR X (compareOp op) r) (ha : PE X a ta) (hb : PE X b tb) (hm : behindInMarks op b = false) : PT X (.Compare a [op] [b] pos) (tTest (tOp r ta tb)) := by
  intro pins s σ H Q I h
  refine wpAny_isTrue_Compare1 (thn (ha pins s σ H _ I h) fun v s1 ⟨x, H1, I1, r1, q1⟩ => thn (hb pins s1 σ H1 _ I1 q1) fun u s2 ⟨y, H2, I2, r2, q2⟩ =>
    thn (ho pins s2 σ H2 x y v u _ I2 r1 r2 q2) fun c s3 ⟨z, H3, I3, r3, k, e, q3⟩ => ?_) hm
  subst e
  cases r3
  exact wpAny_truthy_bool ⟨H3, I3, q3⟩
noncomputable def tChain (r r' : R2) (ta tb tc : TE) : TE := fun σ H Q => ta σ H fun x H1 => tb σ H1 fun y H2 => r x y H2 fun z H3 => ∃ k, z = .bl k ∧
  (if k = true then tc σ H3 fun w' H4 => r' y w' H4 Q else Q (.bl false) H3)
theorem pt_chain {op op' : CmpOp} {r r' : R2} (ho : OpR X (compareOp op) r) (ho' : OpR X (compareOp op') r') (ha : PE X a ta) (hb : PE X b tb) (hc : PE X c tc)
    (hm : lastMarks [op, op'] [b, c] = false := by with_unfolding_all rfl) : PT X (.Compare a [op, op'] [b, c] pos) (tTest (tChain r r' ta tb tc)) := by
  intro pins s σ H Q I h
  refine isTrue_chain (thn (ha pins s σ H _ I h) fun v s1 ⟨x, H1, I1, r1, q1⟩ => test_link (thn (hb pins s1 σ H1 _ I1 q1) fun u s2 ⟨y, H2, I2, r2, q2⟩ =>
    thn (ho pins s2 σ H2 x y v u _ I2 r1 r2 q2) fun d s3 ⟨z, H3, I3, r3, k, e, q3⟩ => ?_)) hm
  subst e
  cases r3
  refine wpAny_truthy_bool ?_
  cases k with
  | false =>
    obtain ⟨k', e', q'⟩ := q3
    cases e'
    exact ite_ff ⟨H3, I3, q'⟩
  | true =>
    refine ite_tt (test_last (thn (hc pins s3 σ H3 _ I3 q3) fun w' s4 ⟨z', H4, I4, r4, q4⟩ => thn (ho' pins s4 σ H4 y z' u w' _ I4 r2 r4 q4) fun d' s5 ⟨z2, H5, I5, r5, k2, e2, q5⟩ => ?_))
    subst e2
    cases r5
    exact wpAny_truthy_bool ⟨H5, I5, q5⟩
theorem line63 : (sizeLine : Nat) < 2 ^ 63 := by rw [sizeLine_eq]; decide
theorem vals1 {x : V} {us : List Value} (r : Vals [x] us) : ∃ u, us = [u] ∧ RelV x u := by
  cases r with
  | cons r1 r2 => cases r2; exact ⟨_, rfl, r1⟩
theorem vals2 {x y : V} {us : List Value} (r : Vals [x, y] us) : ∃ u w', us = [u, w'] ∧ RelV x u ∧ RelV y w' := by
  cases r with
  | cons r1 r2 =>
    cases r2 with
    | cons r3 r4 => cases r4; exact ⟨_, _, rfl, r1, r3⟩
theorem call_max2 (hc : X.calm = true) : CallR X (.builtin "max") (fun xs H Q => ∃ i j, xs = [.int i, .int j] ∧ Q (.int (if j > i then j else i)) H) := by
  intro pins s σ H xs us Q I r h
  obtain ⟨i, j, rfl, q⟩ := h
  obtain ⟨u, w', rfl, ⟨t, rfl⟩, ⟨t', rfl⟩⟩ := vals2 r
  refine max_two_ints (I.ok.hd hc) fun h' tk k => ⟨_, H, I.kept k, ?_, q⟩
  by_cases hj : j > i
  · rw [if_pos hj, if_pos hj]; exact ⟨_, rfl⟩
  · rw [if_neg hj, if_neg hj]; exact ⟨_, rfl⟩
theorem call_min2 (hc : X.calm = true) : CallR X (.builtin "min") (fun xs H Q => ∃ i j, xs = [.int i, .int j] ∧ Q (.int (if j < i then j else i)) H) := by
  intro pins s σ H xs us Q I r h
  obtain ⟨i, j, rfl, q⟩ := h
  obtain ⟨u, w', rfl, ⟨t, rfl⟩, ⟨t', rfl⟩⟩ := vals2 r
  refine min_two_ints (I.ok.hd hc) fun h' tk k => ⟨_, H, I.kept k, ?_, q⟩
  by_cases hj : j < i
  · rw [if_pos hj, if_pos hj]; exact ⟨_, rfl⟩
  · rw [if_neg hj, if_neg hj]; exact ⟨_, rfl⟩
end
end L2
namespace L2
open PySem PySem.Spec PyProof.Rows
structure ObjM (h : Heap) (x dx C : Addr) (mA : Str → Option Value) : Prop where
  obj : h.get? x = some (PySem.W.instObj C dx)
  ns : h.Ns1 dx mA
  ne : dx ≠ x
theorem lookIn_ns {h : Heap} {dx : Addr} {mA : Str → Option Value} (n : h.Ns1 dx mA) : ∃ od, h.get? dx = some od ∧ ∀ name, PySem.W.lookIn name od = some (mA name) := by
  obtain ⟨o, es, ep, ho, hd, hk, _, hm⟩ := n
  refine ⟨o, ho, fun name => ?_⟩
  have e := hm name
  unfold nsFind findBy at e
  rw [← Array.find?_toList] at e
  unfold PySem.W.lookIn
  rw [hd]
  dsimp only
  split
  · rename_i y q
    rw [q] at e
    exact congrArg some e
  · rename_i q
    rw [q] at e
    have a : es.toList.any (·.refKey) = false := by
      rw [List.any_eq_false]
      intro y hy
      obtain ⟨z, t, hkey⟩ := hk y (Array.mem_toList_iff.mp hy)
      simp [DictEntry.refKey, hkey]
    have a' : ¬ es.toList.any (·.refKey) = true := by rw [a]; exact Bool.false_ne_true
    rw [if_neg a']
    exact congrArg some e
theorem ObjM.look {h : Heap} {x dx C : Addr} {mA : Str → Option Value} (I : ObjM h x dx C mA) : ∃ od, PySem.W.InstAt h x (PySem.W.instObj C dx) C (some od) ∧ ∀ name, PySem.W.lookIn name od = some (mA name) :=
  let ⟨od, ho, hl⟩ := lookIn_ns I.ns
  ⟨od, ⟨I.obj, rfl, rfl, ho⟩, hl⟩
section
variable {prog : Program} {w : World} {A : Around} {E : Value → Shared → Prop} {s : Shared} {K : PySem.W.Frag} {x dx C f : Addr} {mA : Str → Option Value} {name : Str} {v : Value}
theorem get_map {expr : Bool} {Q : Value → Shared → Prop} (X : K.In s.heap) (I : ObjM s.heap x dx C mA) (hg : PySem.W.plainGet K C name = true) (hh : PySem.W.hasDictIn K C = true)
    (ha : PySem.W.findIn K (.ref C) name = some none) (hv : mA name = some v) (hv' : PySem.W.handedIn v = true) (h : Q v { s with toks := s.toks + 1 }) :
    wpAny (model prog w) A (getAttr (.ref x) name expr) Q E s := by
  obtain ⟨od, J, hl⟩ := I.look
  exact PySem.W.get_value X J (PySem.W.plainGet_of hg).1 (PySem.W.findObj_own hh ha rfl (by rw [hl, hv])) hv' h
theorem get_meth {pl : Sem Bool} {Q : Value × List Value → Shared → Prop} (X : K.In s.heap) (I : ObjM s.heap x dx C mA) (hg : PySem.W.plainGet K C name = true)
    (hf : PySem.W.findIn K (.ref C) name = some (some (.ref f))) (ht : PySem.W.isFn K (.ref f) = true) (hv : mA name = none) (h : Q (.ref f, [.ref x]) s) :
    wpAny (model prog w) A (getMethod (.ref x) name pl) Q E s := by
  obtain ⟨od, J, hl⟩ := I.look
  exact PySem.W.method_fn X J (PySem.W.plainGet_of hg).1 (PySem.W.plainGet_of hg).2 hf (beq_iff_eq.mp ht) (by show (PySem.W.lookIn name od).map (·.isSome) = some false; rw [hl, hv]; rfl) h
theorem set_map {ns : List Str} {Q : Unit → Shared → Prop} (X : K.In s.heap) (I : ObjM s.heap x dx C mA)
    (hs : PySem.W.findIn K (.ref C) "__setattr__" = some (some (.builtin "object.__setattr__"))) (hp : PySem.W.plainOver K C = true) (ht : PySem.W.takerIn K C name = some none) (hh : PySem.W.hasDictIn K C = true)
    (hw : PySem.Within mA ns) (hsz : ns.length ≤ sizeLine)
    (h : ∀ h', ObjM h' x dx C (fun y => if y = name then some v else mA y) → Heap.SameBut dx s.heap h' → Q () { s with heap := h', toks := s.toks + 2 }) :
    wpAny (model prog w) A (setAttr (.ref x) name v) Q E s := by
  obtain ⟨od, J, hl⟩ := I.look
  refine PySem.W.set_plain X J hs (PySem.W.osa_open (s := { s with toks := s.toks + 1 }) (r := none) X J hp ht fun b => ?_)
  obtain ⟨cd, hc, hd'⟩ := PySem.W.any_some hh
  have hx : s.heap.get? x = some ⟨.ref C, some dx, .plain, #[]⟩ := I.obj
  refine wpAny_bind (wpAny_pure (wpAny_bind (wpAny_bind (wpAny_loadPart hx (wpAny_bind (PySem.W.Looks.here (s := { s with toks := s.toks + 1 }) (PySem.W.looks_clsIn X hc) ?_))))))
  rw [hd']
  refine wpAny_pure (a := some dx) (wpAny_bind (wpAny_pure (wpAny_bind ?_)))
  refine wpAny_nsSet1 (s := { s with toks := s.toks + 1 }) I.ns fun h' hn2 hs2 => ?_
  obtain ⟨oD, esD, epD, hoD, hdD, hcD⟩ := hn2.count (PySem.Within.cons name v hw)
  refine wpAny_bind (wpAny_lookBehind hoD (by rw [hdD]; exact pastItsLine_dict (Nat.le_trans hcD (by rw [List.length_cons]; omega))) ?_)
  exact wpAny_pure (h _ ⟨(hs2.2 _ (Ne.symm I.ne)).trans I.obj, hn2, I.ne⟩ hs2)
theorem make_map {R : Result → Shared → Prop} {vs : List Value} {kw : List (Str × Value)} (X : K.In s.heap) (hm : PySem.W.makesIn K C = true)
    (hi : PySem.W.findIn K (.ref C) "__init__" = some (some (.ref f))) (hf : PySem.W.typeIn K (.ref f) = some (.type "function"))
    (h : codeAny (model prog w) (A.under (.builtin "type.__call__" ⟨.ref C :: vs, kw⟩)) (.call (.ref f) ⟨.ref (s.heap.objs.size + 1) :: vs, kw⟩) (PySem.W.InitBack (s.heap.objs.size + 1) R)
      { s with heap := (s.heap.push PySem.W.emptyDict).push (PySem.W.instObj C s.heap.objs.size) }) :
    codeAny (model prog w) A (.call (.ref C) ⟨vs, kw⟩) R s := by
  obtain ⟨hh, g, d, t, os⟩ := s
  exact PySem.W.make_core (PySem.W.makes_of X hm) (PySem.W.looks_findIn X hi) (fun self => PySem.W.bind_fn X self hf) (.inl rfl) h
end
noncomputable def putF (f : Str) (v : V) : List (Str × V) → List (Str × V)
  | [] => [(f, v)]
  | (g, x) :: r => if g = f then (g, v) :: r else (g, x) :: putF f v r
theorem lookup_putF (f g : Str) (v : V) : ∀ fs : List (Str × V), (putF f v fs).lookup g = if g = f then some v else fs.lookup g
  | [] => by
    show List.lookup g [(f, v)] = _
    by_cases h : g = f
    · have hb : (g == f) = true := beq_iff_eq.mpr h
      simp only [List.lookup, hb, if_pos h]
    · have hb : (g == f) = false := beq_eq_false_iff_ne.mpr h
      simp only [List.lookup, hb, if_neg h]
  | (k, x) :: r => by
    have ih := lookup_putF f g v r
    rw [show putF f v ((k, x) :: r) = (if k = f then (k, v) :: r else (k, x) :: putF f v r) from rfl]
    by_cases hk : k = f
    · rw [if_pos hk]
      by_cases h : g = k
      · have hb : (g == k) = true := beq_iff_eq.mpr h
        simp only [List.lookup, hb, if_pos (h.trans hk)]
      · have hb : (g == k) = false := beq_eq_false_iff_ne.mpr h
        simp only [List.lookup, hb, if_neg (fun e : g = f => h (e.trans hk.symm))]
    · rw [if_neg hk]
      by_cases h : g = k
      · have hb : (g == k) = true := beq_iff_eq.mpr h
        simp only [List.lookup, hb, if_neg (fun e : g = f => hk (h.symm.trans e))]
      · have hb : (g == k) = false := beq_eq_false_iff_ne.mpr h
        simp only [List.lookup, hb]
        exact ih
theorem keys_putF (f : Str) (v : V) : ∀ fs : List (Str × V), f ∈ (putF f v fs).map (·.1) ∧ ∀ g, g ∈ fs.map (·.1) → g ∈ (putF f v fs).map (·.1)
  | [] => ⟨by simp [putF], fun g h => by simp at h⟩
  | (k, x) :: r => by
    obtain ⟨i1, i2⟩ := keys_putF f v r
    rw [show putF f v ((k, x) :: r) = (if k = f then (k, v) :: r else (k, x) :: putF f v r) from rfl]
    by_cases hk : k = f
    · rw [if_pos hk]
      subst hk
      exact ⟨by simp, fun g h => by simpa using h⟩
    · rw [if_neg hk]
      refine ⟨?_, fun g h => ?_⟩
      · rw [List.map_cons]
        exact List.mem_cons_of_mem _ i1
      · rw [List.map_cons] at h ⊢
        rcases List.mem_cons.mp h with e | e
        · exact List.mem_cons.mpr (.inl e)
        · exact List.mem_cons_of_mem _ (i2 g e)
theorem length_putF (f : Str) (v : V) : ∀ fs : List (Str × V), (putF f v fs).length ≤ fs.length + 1
  | [] => by simp [putF]
  | (k, x) :: r => by
    have ih := length_putF f v r
    rw [show putF f v ((k, x) :: r) = (if k = f then (k, v) :: r else (k, x) :: putF f v r) from rfl]
    by_cases hk : k = f
    · rw [if_pos hk, List.length_cons, List.length_cons]; omega
    · rw [if_neg hk, List.length_cons, List.length_cons]; omega
theorem RelO.some_of {v : V} {o : Option Value} (r : RelO (some v) o) : ∃ u, o = some u ∧ RelV v u := by
  cases o with
  | none => exact (show False from r).elim
  | some u => exact ⟨u, rfl, r⟩
theorem RelO.none_of {o : Option Value} (r : RelO none o) : o = none := by
  cases o with
  | none => rfl
  | some u => exact (show False from r).elim
theorem handed_of {v : V} {u : Value} (r : RelV v u) : PySem.W.handedIn u = true := by
  cases v with
  | non => cases (show u = Value.none from r); rfl
  | bl b => cases (show u = Value.bool b from r); rfl
  | int i => obtain ⟨t, e⟩ := (show ∃ t, u = Value.int i t from r); cases e; rfl
  | str x => obtain ⟨t, e⟩ := (show ∃ t, u = Value.str x t from r); cases e; rfl
  | byt b => obtain ⟨t, e⟩ := (show ∃ t, u = Value.bytes b t from r); cases e; rfl
  | flt b => obtain ⟨t, e⟩ := (show ∃ t, u = Value.float b t from r); cases e; rfl
  | ref a => cases (show u = Value.ref a from r); rfl
  | ty n => cases (show u = Value.type n from r); rfl
section
variable {P : Program} {w : World} {H H' : Hp} {h h' : Heap} {a C dx : Addr} {fs fs' : List (Str × V)}
theorem ins_get (hok : HOk P w H h) (e : H a = some (.ins C dx fs)) : ∃ mA, ObjM h a dx C mA ∧ (∀ f, RelO (fs.lookup f) (mA f)) ∧ PySem.Within mA (fs.map (·.1)) ∧ fs.length ≤ 1000 ∧ H dx = some (.own a) := by
  obtain ⟨d, z, ne, ob, mA, n, r, q⟩ := (show ObjOk P w H h a (.ins C dx fs) from hok a _ e)
  exact ⟨mA, ⟨ob, n, ne⟩, r, q, z, d⟩
end
structure Cls (K : PySem.W.Frag) (C : Addr) : Prop where
  pg : PySem.W.plainGet K C Str.empty = true
  hd : PySem.W.hasDictIn K C = true
  po : PySem.W.plainOver K C = true
  sa : PySem.W.findIn K (.ref C) "__setattr__" = some (some (.builtin "object.__setattr__"))
theorem Cls.get {K : PySem.W.Frag} {C : Addr} (c : Cls K C) (f : Str) : PySem.W.plainGet K C f = true := c.pg
noncomputable def NoAttr (K : PySem.W.Frag) (C : Addr) (f : Str) : Prop := PySem.W.findIn K (.ref C) f = some none
theorem NoAttr.taker {K : PySem.W.Frag} {C : Addr} {f : Str} (n : NoAttr K C f) : PySem.W.takerIn K C f = some none := by
  unfold PySem.W.takerIn
  rw [show PySem.W.findIn K (.ref C) f = some none from n]
  rfl
structure Meth (K : PySem.W.Frag) (C : Addr) (m : Str) (f : Addr) : Prop where
  at_ : PySem.W.findIn K (.ref C) m = some (some (.ref f))
  fn : PySem.W.isFn K (.ref f) = true
  kp : PySem.W.keepIn K (.ref f) = true
section
variable {X : Cx} {pins : List (Addr × Obj)} {σ : St} {H : Hp} {s : Shared} {a C dx : Addr} {fs : List (Str × V)} {f : Str} {v : V} {A : Around} {E : Value → Shared → Prop}
theorem getattr_ok {b : Bool} {Q : Value → Shared → Prop} (I : Inv X pins σ H s) (e : H a = some (.ins C dx fs)) (c : Cls X.K C) (n : NoAttr X.K C f) (l : fs.lookup f = some v)
    (h : ∀ u s', Inv X pins σ H s' → RelV v u → Q u s') : wpAny (model X.prog X.w) A (getAttr (.ref a) f b) Q E s := by
  obtain ⟨mA, O, r, _, _, _⟩ := ins_get I.hok e
  obtain ⟨u, hu, ru⟩ := RelO.some_of (v := v) (o := mA f) (by rw [← l]; exact r f)
  exact get_map I.kIn O (c.get f) c.hd n hu (handed_of ru) (h u _ (I.tok _) ru)
theorem getmeth_ok {m : Str} {g : Addr} {pl : Sem Bool} {Q : Value × List Value → Shared → Prop} (I : Inv X pins σ H s) (e : H a = some (.ins C dx fs)) (c : Cls X.K C) (k : Meth X.K C m g) (l : fs.lookup m = none)
    (h : Q (.ref g, [.ref a]) s) : wpAny (model X.prog X.w) A (getMethod (.ref a) m pl) Q E s := by
  obtain ⟨mA, O, r, _, _, _⟩ := ins_get I.hok e
  have hn : mA m = none := RelO.none_of (by rw [← l]; exact r m)
  exact get_meth I.kIn O (c.get m) k.at_ k.fn hn h
theorem setattr_ok {y : V} {u : Value} {Q : Unit → Shared → Prop} (I : Inv X pins σ H s) (e : H a = some (.ins C dx fs)) (c : Cls X.K C) (n : NoAttr X.K C f) (hl : fs.length < 1000) (ry : RelV y u)
    (h : ∀ s', Inv X pins σ (upd H a (.ins C dx (putF f y fs))) s' → Q () s') : wpAny (model X.prog X.w) A (setAttr (.ref a) f u) Q E s := by
  obtain ⟨mA, O, r, wi, _, ho⟩ := ins_get I.hok e
  have hz : (fs.map (·.1)).length ≤ sizeLine := by rw [List.length_map, sizeLine_eq]; omega
  refine set_map I.kIn O c.sa c.po n.taker c.hd wi hz fun h' O' sb => h _ ?_
  have hd : ∃ o, h'.get? dx = some o := let ⟨o, _, _, e', _⟩ := O'.ns; ⟨o, e'⟩
  refine I.write (x := a) (e := dx) (by rw [e]; exact True.intro) (.inr ho) (fun b q hb z => (sb.2 b hb).trans z) hd ?_
  refine ⟨by rw [upd_ne O.ne]; exact ho, ?_, O.ne, O'.obj, _, O'.ns, fun g => ?_, fun g hg => ?_⟩
  · have := length_putF f y fs; omega
  · show RelO ((putF f y fs).lookup g) (if g = f then some u else mA g)
    rw [lookup_putF]
    by_cases q : g = f
    · rw [if_pos q, if_pos q]; exact ry
    · rw [if_neg q, if_neg q]; exact r g
  · by_cases q : g = f
    · rw [q]; exact (keys_putF f y fs).1
    · refine (keys_putF f y fs).2 g (wi g fun z => hg ?_)
      show (if g = f then some u else mA g) = none
      rw [if_neg q]; exact z
theorem Inv.made (I : Inv X pins σ H s) : Inv X pins σ (upd (upd H s.heap.objs.size (.own (s.heap.objs.size + 1))) (s.heap.objs.size + 1) (.ins C s.heap.objs.size []))
    { s with heap := (s.heap.push PySem.W.emptyDict).push (PySem.W.instObj C s.heap.objs.size) } := by
  have e1 : (s.heap.push PySem.W.emptyDict).get? s.heap.objs.size = some PySem.W.emptyDict := Heap.get?_push_size s.heap rfl
  have e2 : ((s.heap.push PySem.W.emptyDict).push (PySem.W.instObj C s.heap.objs.size)).get? (s.heap.objs.size + 1) = some (PySem.W.instObj C s.heap.objs.size) := by
    have := Heap.get?_push_size (s.heap.push PySem.W.emptyDict) (o := PySem.W.instObj C s.heap.objs.size) rfl
    rwa [Heap.size_push] at this
  have e3 : (s.heap.push PySem.W.emptyDict).Ns s.heap.objs.size (fun _ => none) := ⟨PySem.W.emptyDict, #[], _, e1, rfl, (fun e he => absurd he (by simp)), fun _ => rfl⟩
  have I1 := I.laid (a := s.heap.objs.size) (o := .own (s.heap.objs.size + 1)) (h' := s.heap.push PySem.W.emptyDict) (t' := s.toks) (fun b u q => Heap.get?_push_of_some _ q) (Nat.le_refl _) ⟨_, e1⟩
  refine I1.laid (a := s.heap.objs.size + 1) (o := .ins C s.heap.objs.size []) (t' := s.toks) (fun b u q => Heap.get?_push_of_some _ q) (Nat.le_of_eq (Heap.size_push _ _)) ?_
  have ne : s.heap.objs.size ≠ s.heap.objs.size + 1 := Nat.ne_of_lt (Nat.lt_succ_self _)
  refine ⟨by rw [upd_ne ne, upd_same], Nat.zero_le _, ne, e2, fun _ => none, (Heap.Ns1.of_empty e3).at fun o q => Heap.get?_push_of_some _ q, fun _ => True.intro, fun y hy => absurd rfl hy⟩
theorem attr_of {prog : Program} {w : World} {env : Env} {e : Expr} {f : Str} {pos : Pos} {s : Shared} {Q : Value → Shared → Prop} (hb : attributeBase e f env (eval e env) = eval e env)
    (h : wpAny (model prog w) A (eval e env) (fun o s₁ => wpAny (model prog w) A (getAttr o f true) Q E s₁) E s) : wpAny (model prog w) A (eval (.Attribute e f pos) env) Q E s :=
  Attribute_any_ h (by rw [arm_eval_Attribute, hb])
end
noncomputable def tFld (K : PySem.W.Frag) (ta : TE) (f : Str) : TE := fun σ H Q => ta σ H fun x H1 => ∃ a C dx fs v, x = .ref a ∧ H1 a = some (.ins C dx fs) ∧ Cls K C ∧ NoAttr K C f ∧ fs.lookup f = some v ∧ Q v H1
noncomputable def sFld (K : PySem.W.Frag) (ta tv : TE) (f : Str) : TS := fun D σ H => tv σ H fun y H1 => ta σ H1 fun x H2 => ∃ a C dx fs, x = .ref a ∧ H2 a = some (.ins C dx fs) ∧ Cls K C ∧ NoAttr K C f ∧ fs.length < 1000 ∧
  D.nx σ (upd H2 a (.ins C dx (putF f y fs)))
noncomputable def InOp (X : Cx) (op : Operator) (rd : V → V → Hp → VK → Prop) : Prop :=
  ∀ (pins : List (Addr × Obj)) (s : Shared) (σ : St) (H : Hp) (x y : V) (u v : Value) (Q : VK), Inv X pins σ H s → RelV x u → RelV y v → rd x y H Q → wpAny (model X.prog X.w) X.A (inplaceOp op u v) (EP X pins σ Q) X.xe s
noncomputable def sFldAug (K : PySem.W.Frag) (ta tv : TE) (rd : V → V → Hp → VK → Prop) (f : Str) : TS := fun D σ H => ta σ H fun x H1 => ∃ a C dx fs v, x = .ref a ∧ H1 a = some (.ins C dx fs) ∧ Cls K C ∧ NoAttr K C f ∧ fs.lookup f = some v ∧
  tv σ H1 fun y H2 => rd v y H2 fun z H3 => ∃ dx' fs', H3 a = some (.ins C dx' fs') ∧ fs'.length < 1000 ∧ D.nx σ (upd H3 a (.ins C dx' (putF f z fs')))
section
variable {X : Cx} {o e value : Expr} {f : Str} {pos pos' tpos : Pos} {ta tv : TE}
theorem pe_fld (he : PE X e ta) (hb : attributeBase e f X.env (eval e X.env) = eval e X.env) : PE X (.Attribute e f pos) (tFld X.K ta f) := by
  intro pins s σ H Q I h
  refine attr_of hb (thn (he pins s σ H _ I h) fun u s1 ⟨x, H1, I1, rx, a, C, dx, fs, v, ex, ea, c, n, l, q⟩ => ?_)
  subst ex
  obtain rfl : u = Value.ref a := rx
  exact getattr_ok I1 ea c n l fun u' s2 I2 ru => ⟨v, H1, I2, ru, q⟩
theorem ps_fld (ha : PE X o ta) (hv : PE X value tv) (hs : swapsWith value (some (.Attribute o f pos')) pos.line X.env = pure false) : PS X (.Assign [.Attribute o f pos'] value pos) (sFld X.K ta tv f) := by
  intro pins s σ H D I h
  refine plainObj_wpAny_Assign_Attribute (thn (hv pins s σ H _ I h) fun u s1 ⟨y, H1, I1, ry, q⟩ => thn (ha pins s1 σ H1 _ I1 q) fun ov s2 ⟨x, H2, I2, rx, a, C, dx, fs, ex, ea, c, n, l, q2⟩ => ?_) hs
  subst ex
  obtain rfl : ov = Value.ref a := rx
  exact setattr_ok I2 ea c n l ry fun s3 I3 => ⟨σ, _, I3, q2⟩
theorem ps_fldaug {op : Operator} {rd : V → V → Hp → VK → Prop} (ha : PE X o ta) (hv : PE X value tv) (hop : InOp X op rd) : PS X (.AugAssign (.Attribute o f tpos) op value pos) (sFldAug X.K ta tv rd f) := by
  intro pins s σ H D I h
  refine wpAny_AugAssign_AttributeAny (thn (ha pins s σ H _ I h) fun ov s1 ⟨x, H1, I1, rx, a, C, dx, fs, v, ex, ea, c, n, l, q⟩ => ?_)
  subst ex
  obtain rfl : ov = Value.ref a := rx
  refine getattr_ok I1 ea c n l fun u s2 I2 ru => thn (hv pins s2 σ H1 _ I2 q) fun w3 s3 ⟨y, H2, I3, ry, q3⟩ => thn (hop pins s3 σ H2 v y u w3 _ I3 ru ry q3) fun w4 s4 ⟨z, H3, I4, rz, dx', fs', ea', l', q4⟩ => ?_
  exact setattr_ok I4 ea' c n l' rz fun s5 I5 => ⟨σ, _, I5, q4⟩
noncomputable def rAdd : V → V → Hp → VK → Prop := fun x y H Q => ∃ i j, x = .int i ∧ y = .int j ∧ Q (.int (i + j)) H
theorem in_add : InOp X .Add rAdd := by
  rintro pins s σ H x y u v Q I rx ry ⟨i, j, rfl, rfl, q⟩
  obtain ⟨t, rfl⟩ := (show ∃ t, u = Value.int i t from rx)
  obtain ⟨t', rfl⟩ := (show ∃ t', v = Value.int j t' from ry)
  exact PyProof.Rows.iadd_int ⟨.int (i + j), H, I.tok _, ⟨_, rfl⟩, q⟩
end
end L2
namespace L2
open PySem PySem.Spec PyProof.Rows
structure Room (k : Nat) (A : Around) : Prop where
  hd : A.handled = none
  dp : A.depth + 3 * k + 5 < recursionLimit
  un : A.units + 16 * k + 200 < cLine
theorem Room.mono {j k : Nat} {A : Around} (r : Room k A) (h : j ≤ k) : Room j A := ⟨r.hd, by have := r.dp; omega, by have := r.un; omega⟩
theorem Room.deeper {k : Nat} {A : Around} (r : Room (k + 1) A) (env : Env) : Room k (A.deeper env) :=
  ⟨r.hd, by have := r.dp; show A.depth + 1 + 3 * k + 5 < _; omega, by have := r.un; show A.units + 3 + 16 * k + 200 < _; omega⟩
theorem make_depth {A : Around} {C : Addr} {us : List Value} {kw : List (Str × Value)} : (A.under (.builtin "type.__call__" ⟨.ref C :: us, kw⟩)).depth = A.depth + 1 := by
  first | rfl | simp [Around.under, Code.weight, Code.isCreation, Code.isGuard, Code.isCaller, Code.frames, Code.isFrame, guardIds]
theorem make_units {A : Around} {C : Addr} {us : List Value} {kw : List (Str × Value)} : (A.under (.builtin "type.__call__" ⟨.ref C :: us, kw⟩)).units = A.units + 1 := by
  first | rfl | simp [Around.under, Code.cUnits, Code.frames, Code.isFrame]
theorem Room.make {k : Nat} {A : Around} (r : Room (k + 1) A) (C : Addr) (us : List Value) (kw : List (Str × Value)) : Room k (A.under (.builtin "type.__call__" ⟨.ref C :: us, kw⟩)) :=
  ⟨r.hd, by have := r.dp; rw [make_depth]; omega, by have := r.un; rw [make_units]; omega⟩
theorem Room.depth {k : Nat} {A : Around} (r : Room k A) : A.depth < recursionLimit := by have := r.dp; omega
theorem Room.units {k : Nat} {A : Around} (r : Room k A) : A.units + 64 < cLine := by have := r.un; omega
noncomputable def tNil : TA := fun _ H Q => Q [] H
noncomputable def tCons (ta : TE) (tr : TA) : TA := fun σ H Q => ta σ H fun x H1 => tr σ H1 fun xs H2 => Q (x :: xs) H2
section
variable {X : Cx} {e : Expr} {es : List Expr} {te : TE} {t : TA} {pos : Pos}
theorem pa_nil : PA X [] tNil := fun _ _ _ _ H Q I h => Calls.spliced_nil ⟨[], H, I, .nil, h⟩
theorem pa_cons (ha : PE X e te) (hr : PA X es t) (hs : starEach (e :: es) X.env = (false, eval e X.env) :: starEach es X.env := by rfl) : PA X (e :: es) (tCons te t) := by
  intro pos pins s σ H Q I h
  rw [hs]
  show wpAny _ _ (spliced ((false, eval e X.env) :: backTo pos (starEach es X.env))) _ _ s
  refine Calls.spliced_cons (thn (ha pins s σ H _ I h) fun u s1 ⟨x, H1, I1, r1, q1⟩ => ?_)
  exact thn (hr pos pins s1 σ H1 _ I1 q1) fun us s2 ⟨xs, H2, I2, r2, q2⟩ => ⟨x :: xs, H2, I2, .cons r1 r2, q2⟩
noncomputable def tLst (t : TA) : TE := fun σ H Q => t σ H fun xs H1 => xs.length ≤ sizeLine ∧ ∀ p, H1 p = none → Q (.ref p) (upd H1 p (.lst xs))
theorem pe_lst (h : PA X es t) : PE X (.List es pos) (tLst t) := by
  intro pins s σ H Q I hq
  refine wpAny_List_spliced (thn (h pos pins s σ H _ I hq) fun us s1 ⟨xs, H1, I1, r, z, q⟩ => ⟨by rw [← r.length]; exact z, ?_⟩)
  have hf : H1 s1.heap.objs.size = none := I1.hok.fresh (Nat.le_refl _)
  refine ⟨.ref s1.heap.objs.size, upd H1 s1.heap.objs.size (.lst xs), I1.laid (t' := s1.toks) (fun b u e => Heap.get?_push_of_some _ e) (Nat.le_refl _) ?_, rfl, q _ hf⟩
  exact ⟨z, us, 0, r, Heap.get?_push_size _ rfl⟩
end
noncomputable abbrev Sp := List V → Hp → VK → XK → Prop
noncomputable abbrev CXT := List Env → Hp → Shared → XK → Value → Shared → Prop
structure Env0 (P : Program) (w : World) (K : PySem.W.Frag) (mg : Str → Option Value) (base : Heap) (A : Around) (outer : List Env) (s : Shared) (H : Hp) : Prop where
  frames : A.frames = some outer
  mod : Mod K mg base
  bs : ∀ b o, base.get? b = some o → s.heap.get? b = some o ∧ H b = none
  bsz : base.objs.size ≤ s.heap.objs.size
  funs : s.heap.FunFrames base outer
  frf : ∀ b ∈ frs outer, H b = none
  hok : HOk P w H s.heap
  bare : AllBare s.gens
noncomputable def CE (outer : List Env) (P : Program) (w : World) (H : Hp) (s : Shared) (Q : VK) (u : Value) (s' : Shared) : Prop :=
  ∃ v H', s'.os = s.os ∧ AllBare s'.gens ∧ Un (frs outer) [] H H' s.heap s'.heap ∧ HOk P w H' s'.heap ∧ RelV v u ∧ Q v H'
noncomputable def CR (CX : CXT) (outer : List Env) (P : Program) (w : World) (H : Hp) (s : Shared) (Q : VK) (E : XK) (r : Result) (s' : Shared) : Prop :=
  match r with
  | .ok (.ret u) => CE outer P w H s Q u s'
  | .ok _ => False
  | .error e => CX outer H s E e s'
structure FnOk (P : Program) (w : World) (K : PySem.W.Frag) (mg : Str → Option Value) (base : Heap) (CX : CXT) (k : Nat) (f : Addr) (fd : FuncData) (ps : List Str) (sp : Sp) : Prop where
  len : ∀ vs H Q E, sp vs H Q E → vs.length = ps.length
  run : ∀ (A : Around) (outer : List Env) (s : Shared) (H : Hp) (args : Args) (us : List Value) (vs : List V) (Q : VK) (E : XK), Room k A → Env0 P w K mg base A outer s H → BindsTo s fd args (ps.zip us) → Vals vs us → sp vs H Q E →
    codeAny (model P w) A (.call (.ref f) args) (CR CX outer P w H s Q E) s
theorem Env0.make {P : Program} {w : World} {K : PySem.W.Frag} {mg : Str → Option Value} {base : Heap} {A : Around} {outer : List Env} {s : Shared} {H : Hp} (e : Env0 P w K mg base A outer s H) (C : Addr) (us : List Value) (kw : List (Str × Value)) :
    Env0 P w K mg base (A.under (.builtin "type.__call__" ⟨.ref C :: us, kw⟩)) outer s H := ⟨by first | exact e.frames | (simpa [Around.under, Code.envs, Code.isFrame, pushEnvs] using e.frames), e.mod, e.bs, e.bsz, e.funs, e.frf, e.hok, e.bare⟩
section
variable {X : Cx} {pins : List (Addr × Obj)} {σ : St} {H : Hp} {s s' : Shared}
theorem Inv.env0 (I : Inv X pins σ H s) : Env0 X.prog X.w X.K X.mg X.base X.A X.stack s H :=
  ⟨I.ok.frames, I.ok.mod, I.bs, Nat.le_trans I.ok.bsz I.sz, I.stack, I.stkFree, I.hok, I.bare⟩
theorem Inv.after {Q : VK} {u : Value} (I : Inv X pins σ H s) (h : CE X.stack X.prog X.w H s Q u s') : EP X pins σ Q u s' := by
  obtain ⟨v, H', os, bare, un, hok, r, q⟩ := h
  obtain ⟨hh, g, d, t, os'⟩ := s'
  obtain rfl : os' = s.os := os
  exact ⟨v, H', I.call (h' := hh) (g' := g) (d' := d) (t' := t) (ch := []) un hok bare (fun b z => absurd z (by simp)), r, q⟩
end
noncomputable def tCall (sp : Sp) (dvs : List V) (E : XK) (t : TA) : TE := fun σ H Q => t σ H fun vs H1 => sp (vs ++ dvs) H1 Q E
noncomputable def tMeth (C : Addr) (m : Str) (sp : Sp) (dvs : List V) (E : XK) (ta : TE) (t : TA) : TE := fun σ H Q => ta σ H fun x H1 => ∃ a dx fs, x = .ref a ∧ H1 a = some (.ins C dx fs) ∧ fs.lookup m = none ∧
  t σ H1 fun vs H2 => sp (x :: (vs ++ dvs)) H2 Q E
noncomputable def tMake (C : Addr) (sp : Sp) (dvs : List V) (E : XK) (t : TA) : TE := fun σ H Q => t σ H fun vs H1 => ∀ x dx, H1 x = none → H1 dx = none → dx ≠ x →
  sp (.ref x :: (vs ++ dvs)) (upd (upd H1 dx (.own x)) x (.ins C dx [])) (fun v H2 => v = .non ∧ Q (.ref x) H2) E
noncomputable def Binds (K : PySem.W.Frag) (fd : FuncData) (ps : List Str) (ds : List Value) : Prop :=
  ∀ (s : Shared) (us : List Value), K.In s.heap → (us ++ ds).length = ps.length → BindsTo s fd ⟨us, []⟩ (ps.zip (us ++ ds))
theorem Binds.all {K : PySem.W.Frag} {fd : FuncData} {ps : List Str} (h : ∀ us : List Value, us.length = ps.length → bindArgs fd ⟨us, []⟩ = pure (ps.zip us)) : Binds K fd ps [] := fun s us _ hl => by
  rw [List.append_nil] at hl ⊢
  exact .of_eq (h us hl)
noncomputable def Passes (CX : CXT) (X : Cx) (E : XK) : Prop := ∀ (pins : List (Addr × Obj)) (σ : St) (H : Hp) (s : Shared) (e : Value) (s' : Shared), Inv X pins σ H s → CX X.stack H s E e s' → X.xe e s'
section
variable {X : Cx} {CX : CXT} {k : Nat} {f C : Addr} {fd : FuncData} {ps : List Str} {sp : Sp} {dvs : List V} {ds : List Value} {E : XK} {x m : Str} {p pos apos : Pos} {e o : Expr} {es : List Expr} {ta : TE} {t : TA}
theorem run_fn {pins : List (Addr × Obj)} {σ : St} {H : Hp} {s : Shared} {Q : VK} {us : List Value} {vs : List V} (F : FnOk X.prog X.w X.K X.mg X.base CX k f fd ps sp) (hr : Room k X.A) (hb : Binds X.K fd ps ds) (hd : Vals dvs ds) (hx : Passes CX X E)
    (I : Inv X pins σ H s) (r : Vals vs us) (h : sp (vs ++ dvs) H Q E) : wpAny (model X.prog X.w) X.A (call (.ref f) us) (EP X pins σ Q) X.xe s := by
  have r2 : Vals (vs ++ dvs) (us ++ ds) := r.append hd
  have hl : (us ++ ds).length = ps.length := by rw [← r2.length]; exact F.len _ _ _ _ h
  refine wpAny_call (codeAny_mono (F.run X.A X.stack s H ⟨us, []⟩ (us ++ ds) (vs ++ dvs) Q E hr I.env0 (hb s us I.kIn hl) r2 h) fun r s' hq => ?_)
  cases r with
  | error e => exact hx pins σ H s e s' I hq
  | ok fl =>
    cases fl with
    | ret u => exact I.after hq
    | next => exact False.elim hq
    | brk => exact False.elim hq
    | cont => exact False.elim hq
theorem pe_call (F : FnOk X.prog X.w X.K X.mg X.base CX k f fd ps sp) (hr : Room k X.A) (hg : Gl X x) (hm : X.mg x = some (.ref f)) (hk : PySem.W.keepIn X.K (.ref f) = true) (hb : Binds X.K fd ps ds) (hd : Vals dvs ds) (hx : Passes CX X E)
    (ha : PA X (e :: es) t) (hdb : (x == ("__debug__" : Str)) = false := by decide) (he : starEach (e :: es) X.env = (false, eval e X.env) :: starEach es X.env := by rfl) (hpl : (backTo pos (starEach es X.env)).any (·.1) = false := by rfl) :
    PE X (.Call (.Name x p) (e :: es) [] pos) (tCall sp dvs E t) := by
  intro pins s σ H Q I h
  refine wpAny_Call_Name_kw (ld_glob I hg hm ?_ hdb)
  refine PySem.W.callWith_K (h₀ := X.base) I.ok.mod.kin hk (thn (ha pos pins s σ H _ I h) fun us s1 ⟨vs, H1, I1, r, q⟩ => ⟨I1.kIn, ?_⟩) he hpl
  exact run_fn F hr hb hd hx I1 r q
theorem pe_meth {pl : Sem Bool} (he : PE X o ta) (c : Cls X.K C) (hm : Meth X.K C m f) (F : FnOk X.prog X.w X.K X.mg X.base CX k f fd ps sp) (hr : Room k X.A) (hb : Binds X.K fd ps ds) (hd : Vals dvs ds) (hx : Passes CX X E) (ha : PA X (e :: es) t)
    (hst : starEach (e :: es) X.env = (false, eval e X.env) :: starEach es X.env := by rfl) (hpl : (backTo pos (starEach es X.env)).any (·.1) = false := by rfl)
    (ht : eval (.Call (.Attribute o m apos) (e :: es) [] pos) X.env = (do
      let ov ← eval o X.env
      standAt apos.atName
      let (f, first) ← holding [ov] (getMethod ov m pl)
      callWith pos f first (backTo pos (starEach (e :: es) X.env)) (backToKw pos (keywordEach [] X.env))) := by rfl) :
    PE X (.Call (.Attribute o m apos) (e :: es) [] pos) (tMeth C m sp dvs E ta t) := by
  intro pins s σ H Q I h
  refine PySem.W.methodCall_KW (pl := pl) (thn (he pins s σ H _ I h) fun u s1 ⟨x, H1, I1, rx, a, dx, fs, ex, ea, l, q⟩ => ?_) ht
  subst ex
  obtain rfl : u = Value.ref a := rx
  refine getmeth_ok I1 ea c hm l ?_
  refine PySem.W.callWith_K (first := [.ref a]) (h₀ := X.base) I.ok.mod.kin hm.kp (thn (ha pos pins s1 σ H1 _ I1 q) fun us s2 ⟨vs, H2, I2, r, q2⟩ => ⟨I2.kIn, ?_⟩) hst hpl
  exact run_fn (us := .ref a :: us) (vs := .ref a :: vs) F hr hb hd hx I2 (.cons rfl r) q2
theorem pe_meth0 {pl : Sem Bool} (he : PE X o ta) (c : Cls X.K C) (hm : Meth X.K C m f) (F : FnOk X.prog X.w X.K X.mg X.base CX k f fd ps sp) (hr : Room k X.A) (hb : Binds X.K fd ps ds) (hd : Vals dvs ds) (hx : Passes CX X E)
    (ht : eval (.Call (.Attribute o m apos) [] [] pos) X.env = (do
      let ov ← eval o X.env
      standAt apos.atName
      let (f, first) ← holding [ov] (getMethod ov m pl)
      callWith pos f first (backTo pos (starEach [] X.env)) (backToKw pos (keywordEach [] X.env))) := by rfl) :
    PE X (.Call (.Attribute o m apos) [] [] pos) (tMeth C m sp dvs E ta tNil) := by
  intro pins s σ H Q I h
  refine PySem.W.methodCall_KW (pl := pl) (thn (he pins s σ H _ I h) fun u s1 ⟨x, H1, I1, rx, a, dx, fs, ex, ea, l, q⟩ => ?_) ht
  subst ex
  obtain rfl : u = Value.ref a := rx
  refine getmeth_ok I1 ea c hm l ?_
  exact PySem.W.callWith_K0 (first := [.ref a]) I1.kIn hm.kp (run_fn (us := [.ref a]) (vs := [.ref a]) F hr hb hd hx I1 (.cons rfl .nil) q)
structure Mk (K : PySem.W.Frag) (C f : Addr) : Prop where
  makes : PySem.W.makesIn K C = true
  init : PySem.W.findIn K (.ref C) "__init__" = some (some (.ref f))
  fn : PySem.W.isFn K (.ref f) = true
  kp : PySem.W.keepIn K (.ref C) = true
theorem run_make {pins : List (Addr × Obj)} {σ : St} {H : Hp} {s : Shared} {Q : VK} {us : List Value} {vs : List V} (M : Mk X.K C f) (F : FnOk X.prog X.w X.K X.mg X.base CX k f fd ps sp) (hr : Room (k + 1) X.A) (hb : Binds X.K fd ps ds) (hd : Vals dvs ds)
    (hx : Passes CX X E) (I : Inv X pins σ H s) (r : Vals vs us)
    (h : ∀ x dx, H x = none → H dx = none → dx ≠ x → sp (.ref x :: (vs ++ dvs)) (upd (upd H dx (.own x)) x (.ins C dx [])) (fun v H2 => v = .non ∧ Q (.ref x) H2) E) :
    wpAny (model X.prog X.w) X.A (call (.ref C) us) (EP X pins σ Q) X.xe s := by
  have hq := h (s.heap.objs.size + 1) s.heap.objs.size (I.hok.fresh (Nat.le_succ _)) (I.hok.fresh (Nat.le_refl _)) (Nat.ne_of_lt (Nat.lt_succ_self _))
  have I2 := Inv.made (C := C) I
  have r2 : Vals (V.ref (s.heap.objs.size + 1) :: (vs ++ dvs)) (Value.ref (s.heap.objs.size + 1) :: (us ++ ds)) := .cons rfl (r.append hd)
  have hl : (Value.ref (s.heap.objs.size + 1) :: us ++ ds).length = ps.length := by
    have e := r2.length
    rw [F.len _ _ _ _ hq] at e
    exact e.symm
  refine wpAny_call (make_map (f := f) I.kIn M.makes M.init (beq_iff_eq.mp M.fn) (codeAny_mono (F.run _ X.stack _ _ ⟨Value.ref (s.heap.objs.size + 1) :: us, []⟩ (Value.ref (s.heap.objs.size + 1) :: (us ++ ds)) _ _ E (hr.make C us [])
    (I2.env0.make C us []) (hb _ (Value.ref (s.heap.objs.size + 1) :: us) I2.kIn hl) r2 hq) fun r s' hq' => ?_))
  cases r with
  | error e => exact hx pins σ _ _ e s' I2 hq'
  | ok fl =>
    cases fl with
    | ret u =>
      obtain ⟨v, H', I3, rv, ev, q3⟩ := I2.after hq'
      subst ev
      exact ⟨rv, ⟨V.ref (s.heap.objs.size + 1), H', I3, rfl, q3⟩⟩
    | next => exact False.elim hq'
    | brk => exact False.elim hq'
    | cont => exact False.elim hq'
theorem pe_make (M : Mk X.K C f) (F : FnOk X.prog X.w X.K X.mg X.base CX k f fd ps sp) (hr : Room (k + 1) X.A) (hg : Gl X x) (hm : X.mg x = some (.ref C)) (hb : Binds X.K fd ps ds) (hd : Vals dvs ds) (hx : Passes CX X E)
    (ha : PA X (e :: es) t) (hdb : (x == ("__debug__" : Str)) = false := by decide) (he : starEach (e :: es) X.env = (false, eval e X.env) :: starEach es X.env := by rfl) (hpl : (backTo pos (starEach es X.env)).any (·.1) = false := by rfl) :
    PE X (.Call (.Name x p) (e :: es) [] pos) (tMake C sp dvs E t) := by
  intro pins s σ H Q I h
  refine wpAny_Call_Name_kw (ld_glob I hg hm ?_ hdb)
  refine PySem.W.callWith_K (h₀ := X.base) I.ok.mod.kin M.kp (thn (ha pos pins s σ H _ I h) fun us s1 ⟨vs, H1, I1, r, q⟩ => ⟨I1.kIn, ?_⟩) he hpl
  exact run_make M F hr hb hd hx I1 r q
theorem pe_make0 (M : Mk X.K C f) (F : FnOk X.prog X.w X.K X.mg X.base CX k f fd ps sp) (hr : Room (k + 1) X.A) (hg : Gl X x) (hm : X.mg x = some (.ref C)) (hb : Binds X.K fd ps ds) (hd : Vals dvs ds) (hx : Passes CX X E)
    (hdb : (x == ("__debug__" : Str)) = false := by decide) : PE X (.Call (.Name x p) [] [] pos) (tMake C sp dvs E tNil) := by
  intro pins s σ H Q I h
  refine wpAny_Call_Name_kw (ld_glob I hg hm ?_ hdb)
  exact PySem.W.callWith_K0 I.kIn M.kp (run_make (us := []) M F hr hb hd hx I .nil h)
end
structure FnScope (N P : List Str) (sc : Scope) : Prop where
  kind : sc.kind = .function
  co : sc.isCoroutine = false
  gen : sc.isGenerator = false
  nd : N.Nodup
  pre : N.take P.length = P
  par : ∀ x ∈ P, sc.names.lookup x = some .local ∨ sc.names.lookup x = some .cell
  nofree : ∀ y ∈ sc.names, y.2 ≠ .free
theorem bindL_out {kindOf : Str → Option NameKind} {x : Str} : ∀ {binds : List (Str × Value)} {m : Str → Option Value}, (∀ v, (x, v) ∉ binds) → bindL kindOf binds m x = m x
  | [], _, _ => rfl
  | (n, v) :: r, m, h => by
    unfold bindL
    rw [bindL_out fun w hw => h w (List.mem_cons_of_mem _ hw)]
    split
    · have : x ≠ n := by rintro rfl; exact h v List.mem_cons_self
      simp [this]
    · rfl
theorem bindC_out {kindOf : Str → Option NameKind} {x : Str} : ∀ {binds : List (Str × Value)} {m : Str → Option Value}, (∀ v, (x, v) ∉ binds) → bindC kindOf binds m x = m x
  | [], _, _ => rfl
  | (n, v) :: r, m, h => by
    unfold bindC
    rw [bindC_out fun w hw => h w (List.mem_cons_of_mem _ hw)]
    split
    · rfl
    · have : x ≠ n := by rintro rfl; exact h v List.mem_cons_self
      simp [this]
theorem bindL_get {kindOf : Str → Option NameKind} {x : Str} {v : Value} : ∀ {P : List Str} {vs : List Value} {i : Nat} {m : Str → Option Value}, P.Nodup → P[i]? = some x → vs[i]? = some v → kindOf x = some .local →
    bindL kindOf (P.zip vs) m x = some v
  | [], _, _, _, _, h, _, _ => by simp at h
  | _ :: _, [], _, _, _, _, h, _ => by simp at h
  | p :: P, w :: vs, 0, m, nd, h1, h2, hk => by
    simp at h1 h2; subst h1; subst h2
    show bindL kindOf ((p, w) :: P.zip vs) m p = _
    unfold bindL
    rw [bindL_out fun v hv => (List.nodup_cons.mp nd).1 (List.of_mem_zip hv).1, if_pos hk]
    simp
  | p :: P, w :: vs, i + 1, m, nd, h1, h2, hk => by
    show bindL kindOf ((p, w) :: P.zip vs) m x = _
    unfold bindL
    exact bindL_get (i := i) (List.nodup_cons.mp nd).2 (by simpa using h1) (by simpa using h2) hk
theorem bindC_get {kindOf : Str → Option NameKind} {x : Str} {v : Value} : ∀ {P : List Str} {vs : List Value} {i : Nat} {m : Str → Option Value}, P.Nodup → P[i]? = some x → vs[i]? = some v → kindOf x ≠ some .local →
    bindC kindOf (P.zip vs) m x = some v
  | [], _, _, _, _, h, _, _ => by simp at h
  | _ :: _, [], _, _, _, _, h, _ => by simp at h
  | p :: P, w :: vs, 0, m, nd, h1, h2, hk => by
    simp at h1 h2; subst h1; subst h2
    show bindC kindOf ((p, w) :: P.zip vs) m p = _
    unfold bindC
    rw [bindC_out fun v hv => (List.nodup_cons.mp nd).1 (List.of_mem_zip hv).1, if_neg hk]
    simp
  | p :: P, w :: vs, i + 1, m, nd, h1, h2, hk => by
    show bindC kindOf ((p, w) :: P.zip vs) m x = _
    unfold bindC
    exact bindC_get (i := i) (List.nodup_cons.mp nd).2 (by simpa using h1) (by simpa using h2) hk
noncomputable def start (N : List Str) (vs : List V) : St := vs.map some ++ List.replicate (N.length - vs.length) none
noncomputable def cxOf (CX : CXT) (P : Program) (w : World) (K : PySem.W.Frag) (mg : Str → Option Value) (base : Heap) (N : List Str) (qual : Str) (scope : Scope) (f : Addr) (cd : Value) (A : Around) (outer : List Env) (s : Shared) (H : Hp) (E : XK) : Cx where
  prog := P
  w := w
  K := K
  mg := mg
  base := base
  A := A.deeper (envOfC qual scope s.heap.objs.size f cd)
  N := N
  s_0 := s
  H_0 := H
  env := envOfC qual scope s.heap.objs.size f cd
  outer := outer
  stack := envOfC qual scope s.heap.objs.size f cd :: outer
  ex := []
  calm := true
  fn := fun _ => true
  pn := []
  xe := fun e s' => wpAny (model P w) (A.deeper (envOfC qual scope s.heap.objs.size f cd)) (leaving (envOfC qual scope s.heap.objs.size f cd) e) (fun _ s'' => CX outer H s E e s'') (fun e' s'' => CX outer H s E e' s'') s'
theorem cell_has {sc : Scope} {n : Nat} {x : Str} (h : sc.names.lookup x = some .cell) : ∃ c, (cellsFrom n sc.names []).lookup x = some c := by
  have q := PySem.W.cellsFrom_some sc.names n [] (.inl h)
  exact Option.isSome_iff_exists.mp q
theorem inv_start {CX : CXT} {P : Program} {w : World} {K : PySem.W.Frag} {mg : Str → Option Value} {base : Heap} {N ps : List Str} {qual : Str} {scope : Scope} {f : Addr} {cd : Value} {A : Around} {outer : List Env} {s s1 : Shared} {H : Hp} {E : XK} {us : List Value} {vs : List V}
    (S : FnScope N ps scope) (hd : A.handled = none) (e0 : Env0 P w K mg base A outer s H) (hl : vs.length = ps.length) (r : Vals vs us)
    (x : InCallC s s.heap.objs.size (bindL (envOfC qual scope s.heap.objs.size f cd).kindOf (ps.zip us) fun _ => none) (cellsFrom (s.heap.objs.size + 1) scope.names []) (bindC (envOfC qual scope s.heap.objs.size f cd).kindOf (ps.zip us) fun _ => none) s1) :
    Inv (cxOf CX P w K mg base N qual scope f cd A outer s H E) [] (start N vs) H s1 := by
  have hpl : ps.length ≤ N.length := by have := congrArg List.length S.pre; rw [List.length_take] at this; omega
  obtain ⟨h1, tk, rfl, hk⟩ := x.done
  have noA : ∀ b : Addr, b ∉ (cxOf CX P w K mg base N qual scope f cd A outer s H E).ex := fun b z => absurd (show b ∈ ([] : List Addr) from z) (by simp)
  refine ⟨⟨e0.mod, S.kind, rfl, rfl, Nat.le_refl _, fun y z c h1 h2 => ?_, fun y hy => ?_, fun y c _ h => ?_, fun _ => hd, Around.frames_deeper e0.frames, .inr ⟨rfl, rfl⟩, fun b z => absurd z (noA b), e0.bs, e0.bsz, fun b _ _ => noA b, fun b z => absurd z (noA b), e0.funs, e0.frf⟩,
    rfl, e0.bare, Un.kept hk, ⟨_, x.toInCall.ns, fun i y v h1 h2 h3 => ?_⟩, fun y c h => ⟨_, x.cell y c h⟩, e0.hok.fresh (Nat.le_refl _), fun y c h => ?_, fun p hp => absurd (show p ∈ ([] : List (Addr × Obj)) from hp) (by simp), e0.hok.kept hk, ?_⟩
  · exact name_of_addr x.apart (PySem.mem_of_lookup h1) (PySem.mem_of_lookup h2)
  · have hy : scope.names.lookup y = some .cell ∨ scope.names.lookup y = some .free := hy
    rcases hy with hy | hy
    · exact cell_has hy
    · exact absurd rfl (S.nofree _ (PySem.mem_of_lookup hy))
  · exact Nat.le_of_lt (x.above y c (PySem.mem_of_lookup h))
  · have hi : i < vs.length := by
      unfold start at h2
      by_cases hi : i < vs.length
      · exact hi
      · rw [List.getElem?_append_right (by simpa using hi)] at h2
        rw [List.getElem?_replicate] at h2
        split at h2 <;> cases h2
    have ha : vs[i]? = some v := by
      unfold start at h2
      rw [List.getElem?_append_left (by simpa using hi), List.getElem?_map] at h2
      cases e : vs[i]? with
      | none => rw [e] at h2; cases h2
      | some a => rw [e] at h2; cases h2; rfl
    obtain ⟨u, hu, rv⟩ := r.get ha
    have hp : ps[i]? = some y := by
      rw [← S.pre, List.getElem?_take_of_lt (by omega)]; exact h1
    have ndP : ps.Nodup := by rw [← S.pre]; exact S.nd.sublist (List.take_sublist _ _)
    refine ⟨u, rv, ?_⟩
    rcases S.par y (List.mem_of_getElem? hp) with k | k
    · exact .inl ⟨k, bindL_get ndP hp hu k⟩
    · obtain ⟨c, e⟩ := cell_has (n := s.heap.objs.size + 1) k
      refine .inr ⟨.inl k, c, e, ?_⟩
      have q := x.cell y c e
      rw [bindC_get ndP hp hu (by show scope.names.lookup y ≠ _; rw [k]; decide)] at q
      exact q
  · exact e0.hok.fresh (Nat.le_of_lt (x.above y c (PySem.mem_of_lookup h)))
  · unfold start
    show _ = N.length
    rw [List.length_append, List.length_map, List.length_replicate]
    omega
theorem fn_of {CX : CXT} {P : Program} {w : World} {K : PySem.W.Frag} {mg : Str → Option Value} {base : Heap} {k : Nat} {f : Addr} {name qual : Str} {params : Arguments} {body : List Stmt} {scope : Scope} {dV kV doc pm cdv ct oc : Value} {an od : Option Addr}
    {osl : Array (Option Value)} {N ps : List Str} {sp : Sp} (lk : K.lookup f = some ⟨oc, od, .func (PySem.W.fnOf name qual params body scope dV kV doc pm an cdv ct), osl⟩) (hcd : PySem.W.codeIn K cdv qual = true) (S : FnScope N ps scope)
    (len : ∀ vs H Q E, sp vs H Q E → vs.length = ps.length)
    (hbody : ∀ (A : Around) (outer : List Env) (s : Shared) (H : Hp) (vs : List V) (Q : VK) (E : XK), Room k (A.deeper (envOfC qual scope s.heap.objs.size f cdv)) → sp vs H Q E →
      ∃ t, PSs (cxOf CX P w K mg base N qual scope f cdv A outer s H E) body t ∧ t { nx := fun _ H' => Q .non H', rt := Q } (start N vs) H) :
    FnOk P w K mg base CX (k + 1) f (PySem.W.fnOf name qual params body scope dV kV doc pm an cdv ct) ps sp := by
  refine ⟨len, fun A outer s H args us vs Q E hr e0 hb r hsp => ?_⟩
  have hl := len _ _ _ _ hsp
  have KX : K.In s.heap := e0.mod.kin.keeps fun b o e => (e0.bs b o e).1
  have lim : s.heap.NoLimit := e0.mod.nolimit.keeps fun b o e => (e0.bs b o e).1
  have hkind : ∀ y ∈ ps.zip us, scope.names.lookup y.1 = some .local ∨ (scope.names.lookup y.1 = some .cell ∧ ((cellsFrom (s.heap.objs.size + 1) scope.names []).lookup y.1).isSome = true) := fun ⟨n, v⟩ hy => by
    rcases S.par n (List.of_mem_zip hy).1 with q | q
    · exact .inl q
    · exact .inr ⟨q, PySem.W.cellsFrom_some _ _ _ (.inl q)⟩
  refine codeAny_call_function hr.depth (KX _ _ lk) rfl S.co S.gen rfl (PySem.W.codeRec_of KX hcd) (hb _ _ _ _ ?_)
  refine wpAny_newFunctionEnv_cells S.kind hkind fun env he s1 x => ?_
  subst he
  refine ⟨lim.keeps x.toInCall.keep, codeAny_func ?_⟩
  obtain ⟨t, ht, hq⟩ := hbody A outer s H vs Q E (hr.deeper _) hsp
  have I : Inv (cxOf CX P w K mg base N qual scope f cdv A outer s H E) [] (start N vs) H s1 := inv_start S hr.hd e0 hl r x
  refine wpAny_mono (ht [] s1 (start N vs) H _ I hq) (fun fl s' hs => ?_) fun e s' hs => hs
  have fin : ∀ {σ' : St} {H' : Hp} {v : V} {u : Value}, Inv (cxOf CX P w K mg base N qual scope f cdv A outer s H E) [] σ' H' s' → RelV v u → Q v H' → CE outer P w H s Q u s' :=
    fun {σ' H' v u} J rv q => ⟨v, H', J.os, J.bare, J.base, J.hok, rv, q⟩
  cases fl with
  | ret u =>
    obtain ⟨v, σ', H', J, rv, q⟩ := hs
    exact fin J rv q
  | next =>
    obtain ⟨σ', H', J, q⟩ := hs
    exact fin (v := V.non) (u := Value.none) J rfl q
  | brk =>
    obtain ⟨_, _, _, q⟩ := hs
    exact False.elim q
  | cont =>
    obtain ⟨_, _, _, q⟩ := hs
    exact False.elim q
end L2
namespace L2
open PySem PySem.Spec PyProof.Rows
section
variable {X : Cx} {x : Str} {p pos : Pos} {e : Expr} {es : List Expr} {t : TA} {id T : String} {r : List V → Hp → VK → Prop}
noncomputable def tCB (r : List V → Hp → VK → Prop) (t : TA) : TE := fun σ H Q => t σ H fun vs H1 => r vs H1 Q
theorem pe_callB (hc : CallR X (.builtin id) r) (hg : Gl X x) (hm : X.mg x = none) (hv : bootBuiltins x = some (.builtin id)) (ha : PA X (e :: es) t) (hn : x ≠ "__name__" := by decide) (hdb : (x == ("__debug__" : Str)) = false := by decide)
    (he : starEach (e :: es) X.env = (false, eval e X.env) :: starEach es X.env := by rfl) (hpl : (backTo pos (starEach es X.env)).any (·.1) = false := by rfl) : PE X (.Call (.Name x p) (e :: es) [] pos) (tCB r t) := by
  intro pins s σ H Q I h
  refine wpAny_Call_Name_kw (ld_blt I hg hm hv ?_ hn hdb)
  exact PyProof.Rows.callWith_builtin1 (thn (ha pos pins s σ H _ I h) fun us s1 ⟨vs, H1, I1, r1, q1⟩ => hc pins s1 σ H1 vs us Q I1 r1 q1) he hpl
theorem pe_callTy (hc : CallR X (.type T) r) (hg : Gl X x) (hm : X.mg x = none) (hv : bootBuiltins x = some (.type T)) (ha : PA X (e :: es) t) (hn : x ≠ "__name__" := by decide) (hdb : (x == ("__debug__" : Str)) = false := by decide)
    (he : starEach (e :: es) X.env = (false, eval e X.env) :: starEach es X.env := by rfl) (hpl : (backTo pos (starEach es X.env)).any (·.1) = false := by rfl) : PE X (.Call (.Name x p) (e :: es) [] pos) (tCB r t) := by
  intro pins s σ H Q I h
  refine wpAny_Call_Name_kw (ld_blt I hg hm hv ?_ hn hdb)
  exact PyProof.Rows.callWith_type1 (thn (ha pos pins s σ H _ I h) fun us s1 ⟨vs, H1, I1, r1, q1⟩ => hc pins s1 σ H1 vs us Q I1 r1 q1) he hpl
end
end L2
namespace HT
open PySem PyProof.Rows
section
variable {prog : Program} {w : World} {A : Around} {E : Value → Shared → Prop} {s : Shared}
noncomputable def sIx (n d : Nat) : Option Int → Nat
  | none => d
  | some v => if v < 0 then (v + (n : Int)).toNat else min v.toNat n
theorem sIx_none (n d : Nat) : sIx n d none = d := rfl
theorem sIx_nat (n d k : Nat) : sIx n d (some (k : Int)) = min k n := by
  show (if (k : Int) < 0 then ((k : Int) + (n : Int)).toNat else min (k : Int).toNat n) = min k n
  rw [if_neg (by omega), Int.toNat_natCast]
end
end HT
namespace L2
open PySem PySem.Spec PyProof.Rows
noncomputable abbrev TO := St → Hp → (Option Int → Hp → Prop) → Prop
noncomputable def PO (X : Cx) (e : Option Expr) (t : TO) : Prop :=
  ∀ (pins : List (Addr × Obj)) (s : Shared) (σ : St) (H : Hp) (Q : Option Int → Hp → Prop), Inv X pins σ H s → t σ H Q →
    wpAny (model X.prog X.w) X.A (evalPart e X.env) (fun u s' => ∃ o H', Inv X pins σ H' s' ∧ IsPart u o ∧ Q o H') X.xe s
noncomputable def tNoPart : TO := fun _ H Q => Q none H
noncomputable def tPart (t : TE) : TO := fun σ H Q => t σ H fun x H1 => ∃ i, x = .int i ∧ Q (some i) H1
section
variable {X : Cx} {e : Expr} {te : TE} {lo hi : Option Expr} {tl th : TO} {pos p2 : Pos}
theorem po_none : PO X none tNoPart := by
  intro pins s σ H Q I h
  rw [evalPart_none]
  exact wpAny_pure ⟨none, H, I, .none, h⟩
theorem po_some (h : PE X e te) : PO X (some e) (tPart te) := by
  intro pins s σ H Q I hw
  rw [evalPart_some]
  refine thn (h pins s σ H _ I hw) fun u s1 ⟨x, H1, I1, r1, q1⟩ => ?_
  obtain ⟨i, rfl, q⟩ := q1
  obtain ⟨t, rfl⟩ := r1
  exact ⟨some i, H1, I1, .int i t, q⟩
noncomputable def SlR (X : Cx) (r : V → Option Int → Option Int → Hp → VK → Prop) : Prop :=
  ∀ (pins : List (Addr × Obj)) (s : Shared) (σ : St) (H : Hp) (x : V) (v vl vu : Value) (lo hi : Option Int) (sl : Addr) (Q : VK), Inv X pins σ H s → RelV x v → s.heap.IsSliceOf sl vl vu .none → IsPart vl lo → IsPart vu hi → r x lo hi H Q →
    ∃ T id, typeLookup (.type T) "__getitem__" = pure (some (.builtin id)) ∧ s.TypeIs v T ∧ wpAny (model X.prog X.w) X.A (getItem v (.ref sl)) (EP X pins σ Q) X.xe s
noncomputable def tSl (r : V → Option Int → Option Int → Hp → VK → Prop) (te : TE) (tl th : TO) : TE := fun σ H Q => te σ H fun x H1 => tl σ H1 fun l H2 => th σ H2 fun u H3 => r x l u H3 Q
theorem pe_slice {r : V → Option Int → Option Int → Hp → VK → Prop} (hr : SlR X r) (he : PE X e te) (hl : PO X lo tl) (hu : PO X hi th) : PE X (.Subscript e (.Slice lo hi none p2) pos) (tSl r te tl th) := by
  intro pins s σ H Q I h
  refine Subscript_ (thn (he pins s σ H _ I h) fun v s1 ⟨x, H1, I1, r1, q1⟩ => ?_)
  refine wpAny_Slice (thn (hl pins s1 σ H1 _ I1 q1) fun vl s2 ⟨l, H2, I2, pl, q2⟩ => thn (hu pins s2 σ H2 _ I2 q2) fun vu s3 ⟨u, H3, I3, pu, q3⟩ => ?_)
  rw [evalPart_none]
  refine wpAny_pure ?_
  have I4 : Inv X pins σ H3 { s3 with heap := s3.heap.push { cls := .type "slice", data := .fields #[vl, vu, .none] } } := I3.kept (t' := s3.toks) fun b ob q => Heap.get?_push_of_some _ q
  obtain ⟨T, id, hT, ht, hg⟩ := hr pins { s3 with heap := s3.heap.push { cls := .type "slice", data := .fields #[vl, vu, .none] } } σ H3 x v vl vu l u s3.heap.objs.size Q I4 r1 (Heap.IsSliceOf.new ..) pl pu q3
  show wpAny (model X.prog X.w) X.A (subscriptTail e (.Slice lo hi none p2) v (.ref s3.heap.objs.size)) (EP X pins σ Q) X.xe { s3 with heap := s3.heap.push { cls := .type "slice", data := .fields #[vl, vu, .none] } }
  exact tail_any (ops := [.ref s3.heap.objs.size, v]) ht hT hg (by with_unfolding_all rfl)
noncomputable def cutV (xs : List V) (lo hi : Option Int) : List V := (xs.drop (HT.sIx xs.length 0 lo)).take (HT.sIx xs.length xs.length hi - HT.sIx xs.length 0 lo)
theorem cutV_length (xs : List V) (lo hi : Option Int) : (cutV xs lo hi).length ≤ xs.length := by
  unfold cutV
  rw [List.length_take, List.length_drop]
  omega
end
end L2
namespace L2
open PySem PySem.Spec PyProof.Rows
noncomputable def ixN (n : Nat) (i : Int) : Option Nat := if 0 ≤ i then (if i < n then some i.toNat else none) else if -(n : Int) ≤ i then some (i + n).toNat else none
noncomputable def atI {α : Type} (xs : List α) (i : Int) : Option α := (ixN xs.length i).bind fun j => xs[j]?
theorem ixN_seq {n : Nat} {i : Int} {j : Nat} (h : ixN n i = some j) : seqIndex? i n = some j ∧ j < n ∧ -(n : Int) ≤ i ∧ i < n := by
  unfold ixN at h
  by_cases h0 : 0 ≤ i
  · rw [if_pos h0] at h
    by_cases h1 : i < n
    · rw [if_pos h1] at h
      have e : i.toNat = j := Option.some.inj h
      exact ⟨by rw [seqIndex_of h0 h1, e], by omega, by omega, h1⟩
    · rw [if_neg h1] at h; cases h
  · rw [if_neg h0] at h
    by_cases h1 : -(n : Int) ≤ i
    · rw [if_pos h1] at h
      have e : (i + n).toNat = j := Option.some.inj h
      exact ⟨by rw [seqIndex_neg (by omega) h1, e], by omega, h1, by omega⟩
    · rw [if_neg h1] at h; cases h
theorem atI_get {α : Type} {xs : List α} {i : Int} {v : α} (h : atI xs i = some v) : ∃ j, seqIndex? i xs.length = some j ∧ xs[j]? = some v ∧ j < xs.length ∧ -(xs.length : Int) ≤ i ∧ i < xs.length := by
  unfold atI at h
  cases e : ixN xs.length i with
  | none => rw [e] at h; cases h
  | some j =>
    rw [e] at h
    obtain ⟨h1, h2, h3, h4⟩ := ixN_seq e
    exact ⟨j, h1, h, h2, h3, h4⟩
theorem atI_nat {α : Type} {xs : List α} {j : Nat} {v : α} (h : xs[j]? = some v) : atI xs (j : Int) = some v := by
  have hj : j < xs.length := (List.getElem?_eq_some_iff.mp h).1
  have e : ixN xs.length (j : Int) = some j := by
    unfold ixN
    rw [if_pos (by omega), if_pos (by omega)]; simp
  unfold atI; rw [e]; exact h
noncomputable def PlainIx (b : Expr) : Prop := ∀ o i, subscripted b false o i = operate [o, i] (getItem o i)
noncomputable def IxR (X : Cx) (r : R2) : Prop :=
  ∀ (value slice : Expr) (pins : List (Addr × Obj)) (s : Shared) (σ : St) (H : Hp) (x y : V) (v u : Value) (Q : VK), Inv X pins σ H s → RelV x v → RelV y u → r x y H Q →
    subscripted slice false v u = operate [v, u] (getItem v u) → wpAny (model X.prog X.w) X.A (subscriptTail value slice v u) (EP X pins σ Q) X.xe s
noncomputable def MtR (X : Cx) (id : String) (r : V → List V → Hp → VK → Prop) : Prop :=
  ∀ (pins : List (Addr × Obj)) (s : Shared) (σ : St) (H : Hp) (x : V) (xs : List V) (v : Value) (us : List Value) (Q : VK), Inv X pins σ H s → RelV x v → Vals xs us → r x xs H Q →
    wpAny (model X.prog X.w) X.A (call (.builtin id) (v :: us)) (EP X pins σ Q) X.xe s
section
variable {X : Cx} {a b : Expr} {ta tb : TE} {pos : Pos}
theorem pe_ix {r : R2} (hr : IxR X r) (ha : PE X a ta) (hb : PE X b tb) (hs : PlainIx b) : PE X (.Subscript a b pos) (tOp r ta tb) := by
  intro pins s σ H Q I h
  exact Subscript_ (binT ha hb I h fun v u s2 x y H2 I2 rx ry q => hr a b pins s2 σ H2 x y v u Q I2 rx ry q (hs _ _))
noncomputable def rIxL (K : PySem.W.Frag) : R2 := fun x y H Q => ∃ p xs i v, x = .ref p ∧ y = .int i ∧ SqL K H p xs ∧ atI xs i = some v ∧ Q v H
theorem ix_list : IxR X (rIxL X.K) := by
  intro value slice pins s σ H x y v u Q I rx ry h hs
  obtain ⟨p, xs, i, z, rfl, rfl, hq, he, q⟩ := h
  cases rx
  obtain ⟨t, rfl⟩ := ry
  obtain ⟨its, r, pl, hz⟩ := I.list hq
  obtain ⟨j, h1, h2, h3, h4, h5⟩ := atI_get he
  obtain ⟨w, ew, rw'⟩ := r.get h2
  have hl := r.length
  have hn := line63
  have fin : EP X pins σ Q w s := ⟨z, H, I, rw', q⟩
  by_cases h0 : 0 ≤ i
  · have hj : i.toNat = j := by
      rw [seqIndex_of h0 h5] at h1
      exact Option.some.inj h1
    exact item_listR pl.isList h0 (by omega) (by rw [hj]; simpa using ew) fin hs
  · have hj : (i + (its.toArray.size : Int)).toNat = j := by
      rw [seqIndex_neg (by omega) h4] at h1
      rw [List.size_toArray, ← hl]
      exact Option.some.inj h1
    exact subscriptTail_builtinR (x := w) pl.isList.typeIs slot_list_getitem.lookup
      (wpAny_getItem_list_neg (Q := fun r s' => r = w ∧ EP X pins σ Q r s') pl.isList (by omega) (by rw [List.size_toArray] <;> omega) (by omega) (by rw [hj]; simpa using ew) ⟨rfl, fin⟩) hs
theorem slice_bounds (lo hi : Option Int) (n : Nat) : (sliceBounds lo hi none n).1 = ((HT.sIx n 0 lo : Nat) : Int) ∧ (sliceBounds lo hi none n).2.1 = ((HT.sIx n n hi : Nat) : Int) ∧ (sliceBounds lo hi none n).2.2 = 1 := by
  refine ⟨?_, ?_, rfl⟩
  · cases lo with
    | none => simp [sliceBounds, HT.sIx]
    | some i =>
      simp only [sliceBounds, HT.sIx, Option.getD_none, show (1 : Int) > 0 by decide, if_true]
      by_cases h : i < 0
      · simp only [h, if_true] <;> omega
      · simp only [h, if_false] <;> omega
  · cases hi with
    | none => simp [sliceBounds, HT.sIx]
    | some i =>
      simp only [sliceBounds, HT.sIx, Option.getD_none, show (1 : Int) > 0 by decide, if_true]
      by_cases h : i < 0
      · simp only [h, if_true] <;> omega
      · simp only [h, if_false] <;> omega
theorem slicePick_cut (its : List Value) (lo hi : Option Int) : slicePick its.toArray lo hi none = ((its.drop (HT.sIx its.length 0 lo)).take (HT.sIx its.length its.length hi - HT.sIx its.length 0 lo)).toArray := by
  obtain ⟨h1, h2, h3⟩ := slice_bounds lo hi its.toArray.size
  unfold slicePick
  rw [h1, h2, h3]
  simp only [sliceRange_one, pick_run, List.size_toArray] <;> rfl
noncomputable def rSlL (K : PySem.W.Frag) : V → Option Int → Option Int → Hp → VK → Prop := fun x lo hi H Q => ∃ a xs, x = .ref a ∧ SqL K H a xs ∧ ∀ p, H p = none → Q (.ref p) (upd H p (.lst (cutV xs lo hi)))
theorem sl_list : SlR X (rSlL X.K) := by
  intro pins s σ H x v vl vu lo hi sl Q I rx hs pl pu h
  obtain ⟨a, xs, rfl, hx, q⟩ := h
  cases rx
  obtain ⟨its, r, ht, hz⟩ := I.list hx
  have hlen := r.length
  refine ⟨"list", _, slot_list_getitem.lookup, ht.isList.typeIs, ?_⟩
  refine wpAny_getItem_list_slice ht.isList hs pl pu .none (by simp) ?_ (by rw [List.size_toArray] <;> omega)
  rw [slicePick_cut, ← hlen]
  refine ⟨.ref s.heap.objs.size, _, I.laid (t' := s.toks) (o := .lst (cutV xs lo hi)) (fun b ob q => Heap.get?_push_of_some _ q) (Nat.le_refl _) ?_, rfl, q _ (I.hok.fresh (Nat.le_refl _))⟩
  exact ⟨Nat.le_trans (cutV_length xs lo hi) hz, _, 0, (r.drop (HT.sIx xs.length 0 lo)).take (HT.sIx xs.length xs.length hi - HT.sIx xs.length 0 lo), Heap.get?_push_size _ rfl⟩
noncomputable def flatV : V → Bool
  | .non => true
  | .bl _ => true
  | .int _ => true
  | .str _ => true
  | _ => false
noncomputable def eqV : V → V → Bool
  | .non, .non => true
  | .bl a, .bl b => a == b
  | .bl a, .int b => (if a then 1 else 0) == b
  | .int a, .bl b => a == (if b then 1 else 0)
  | .int a, .int b => a == b
  | .str a, .str b => a == b
  | _, _ => false
theorem eqAt_V {A : Around} {s : Shared} {y x : V} {u v : Value} (ry : RelV y u) (rx : RelV x v) (fy : flatV y = true) (fx : flatV x = true) : SeqAt.EqAt A s u v (eqV y x) := by
  cases y with
  | non =>
    cases ry
    cases x with
    | non => cases rx; exact SeqAt.EqAt.same _
    | bl b => cases rx; exact SeqAt.EqAt.none_bool b
    | int b => obtain ⟨t, rfl⟩ := rx; exact SeqAt.EqAt.none_int b t
    | str b => obtain ⟨t, rfl⟩ := rx; exact SeqAt.EqAt.none_str b t
    | _ => exact absurd (show false = true from fx) Bool.false_ne_true
  | bl a =>
    cases ry
    cases x with
    | non => cases rx; exact SeqAt.EqAt.bool_none a
    | bl b => cases rx; exact SeqAt.EqAt.bool_bool a b
    | int b => obtain ⟨t, rfl⟩ := rx; exact SeqAt.EqAt.bool_int a b t
    | str b => obtain ⟨t, rfl⟩ := rx; exact SeqAt.EqAt.bool_str a b t
    | _ => exact absurd (show false = true from fx) Bool.false_ne_true
  | int a =>
    obtain ⟨t', rfl⟩ := ry
    cases x with
    | non => cases rx; exact SeqAt.EqAt.int_none a t'
    | bl b => cases rx; exact SeqAt.EqAt.int_bool a t' b
    | int b => obtain ⟨t, rfl⟩ := rx; exact SeqAt.EqAt.int_int a t' b t
    | str b => obtain ⟨t, rfl⟩ := rx; exact SeqAt.EqAt.int_str a t' b t
    | _ => exact absurd (show false = true from fx) Bool.false_ne_true
  | str a =>
    obtain ⟨t', rfl⟩ := ry
    cases x with
    | non => cases rx; exact SeqAt.EqAt.str_none a t'
    | bl b => cases rx; exact SeqAt.EqAt.str_bool a t' b
    | int b => obtain ⟨t, rfl⟩ := rx; exact SeqAt.EqAt.str_int a t' b t
    | str b => obtain ⟨t, rfl⟩ := rx; exact SeqAt.EqAt.str_str a t' b t
    | _ => exact absurd (show false = true from fx) Bool.false_ne_true
  | _ => exact absurd (show false = true from fy) Bool.false_ne_true
noncomputable def eqU (x : V) (u : Value) : Bool := match u with
  | .none => eqV .non x
  | .bool b => eqV (.bl b) x
  | .int i _ => eqV (.int i) x
  | .str z _ => eqV (.str z) x
  | _ => false
theorem eqU_of {x y : V} {u : Value} (r : RelV y u) (f : flatV y = true) : eqU x u = eqV y x := by
  cases y with
  | non => cases r; rfl
  | bl b => cases r; rfl
  | int i => obtain ⟨t, rfl⟩ := r; rfl
  | str z => obtain ⟨t, rfl⟩ := r; rfl
  | _ => exact absurd (show false = true from f) Bool.false_ne_true
theorem any_eqU {x : V} : ∀ {xs : List V} {us : List Value}, Vals xs us → xs.all flatV = true → us.any (eqU x) = xs.any fun y => eqV y x
  | _, _, .nil, _ => rfl
  | y :: xs, u :: us, .cons r t, f => by
    rw [List.all_cons, Bool.and_eq_true] at f
    rw [List.any_cons, List.any_cons, eqU_of r f.1, any_eqU t f.2]
theorem mem_eqAt {A : Around} {s : Shared} {x : V} {v : Value} (rx : RelV x v) (fx : flatV x = true) : ∀ {xs : List V} {us : List Value}, Vals xs us → xs.all flatV = true → ∀ u ∈ us, SeqAt.EqAt A s u v (eqU x u)
  | _, _, .nil, _ => fun u hu => by cases hu
  | y :: xs, u :: us, .cons r t, f => fun u' hu => by
    rw [List.all_cons, Bool.and_eq_true] at f
    rcases List.mem_cons.mp hu with rfl | hu
    · rw [eqU_of r f.1]; exact eqAt_V r rx f.1 fx
    · exact mem_eqAt rx fx t f.2 u' hu
noncomputable def inV (x : V) (xs : List V) : Bool := xs.any fun y => eqV y x
noncomputable def rIn (K : PySem.W.Frag) (neg : Bool) : R2 := fun x y H Q => ∃ p xs, y = .ref p ∧ (SqL K H p xs ∨ SqT K H p xs) ∧ flatV x = true ∧ xs.all flatV = true ∧ Q (.bl (if neg then !inV x xs else inV x xs)) H
theorem op_in_seq : OpR X (compareOp .In) (rIn X.K false) := by
  intro pins s σ H x y v u Q I rx ry h
  obtain ⟨p, xs, rfl, hq, fx, fs, q⟩ := h
  cases ry
  rcases hq with hq | hq
  · obtain ⟨its, r, pl, hz⟩ := I.list hq
    refine SeqAt.in_listAt (eqU x) pl.isList (fun w hw => mem_eqAt rx fx r fs w (by simpa using hw)) ⟨.bl _, H, I, rfl, ?_⟩
    rw [show its.toArray.any (eqU x) = its.any (eqU x) by simp, any_eqU r fs]
    exact q
  · obtain ⟨its, r, pl, hz⟩ := I.tuple hq
    refine SeqAt.in_tupleAt (eqU x) pl (fun w hw => mem_eqAt rx fx r fs w (by simpa using hw)) ⟨.bl _, H, I, rfl, ?_⟩
    rw [show its.toArray.any (eqU x) = its.any (eqU x) by simp, any_eqU r fs]
    exact q
theorem call_len_seq : CallR X (.builtin "len") (fun xs H Q => ∃ p ys, xs = [.ref p] ∧ (SqL X.K H p ys ∨ SqT X.K H p ys) ∧ Q (.int ys.length) H) := by
  intro pins s σ H xs us Q I r h
  obtain ⟨p, ys, rfl, hq, q⟩ := h
  obtain ⟨u, rfl, rx⟩ := vals1 r
  cases rx
  have hn := line63
  rcases hq with hq | hq
  · obtain ⟨its, r', pl, hz⟩ := I.list hq
    have hlen := r'.length
    exact Calls.call_len_list pl.isList (by simp only [List.size_toArray] <;> omega) ⟨.int ys.length, H, I.tok _, ⟨s.toks + 1, by rw [List.size_toArray, hlen]⟩, q⟩
  · obtain ⟨its, r', pl, hz⟩ := I.tuple hq
    have hlen := r'.length
    exact len_tuple pl (by simp only [List.size_toArray] <;> omega) ⟨.int ys.length, H, I.tok _, ⟨s.toks + 1, by rw [List.size_toArray, hlen]⟩, q⟩
theorem call_tuple_of : CallR X (.type "tuple") (fun xs H Q => ∃ p ys, xs = [.ref p] ∧ ((SqL X.K H p ys ∧ ∀ l, H l = none → Q (.ref l) (upd H l (.tup ys))) ∨ (SqT X.K H p ys ∧ Q (.ref p) H))) := by
  intro pins s σ H xs us Q I r h
  obtain ⟨p, ys, rfl, h⟩ := h
  obtain ⟨u, rfl, rx⟩ := vals1 r
  cases rx
  rcases h with ⟨hq, q⟩ | ⟨hq, q⟩
  · obtain ⟨its, r', pl, hz⟩ := I.list hq
    have hlen := r'.length
    refine call_tuple_list pl.isList (fun h' kp => ?_) (by simp only [List.size_toArray] <;> omega)
    have I1 : Inv X pins σ H { s with heap := h' } := I.kept (t' := s.toks) kp
    have I2 : Inv X pins σ (upd H h'.objs.size (.tup ys)) { s with heap := h'.push { cls := .type "tuple", data := .seq its.toArray } } :=
      I1.laid (t' := s.toks) (fun b o e => Heap.get?_push_of_some _ e) (Nat.le_refl _) (show ObjOk X.prog X.w _ _ _ (.tup ys) from ⟨hz, its, r', IsTup.new _ _⟩)
    exact ⟨.ref h'.objs.size, _, I2, rfl, q _ (I1.hok.fresh (Nat.le_refl _))⟩
  · obtain ⟨its, r', pl, hz⟩ := I.tuple hq
    exact call_tuple_same pl ⟨.ref p, H, I, rfl, q⟩
noncomputable def tyV (K : PySem.W.Frag) (T : String) (x : V) (H : Hp) : Prop := match x with
  | .str _ => T = "str"
  | .int _ => T = "int"
  | .ref p => (T = "list" ∧ ∃ xs, SqL K H p xs) ∨ (T = "tuple" ∧ ∃ o, K.lookup p = some o ∧ o.cls = .type "tuple" ∧ o.dict = none) ∨
      (T = "dict" ∧ ((∃ kvs, H p = some (.dK kvs)) ∨ ∃ kvs, H p = some (.dT kvs))) ∨ (T = "set" ∧ ∃ S n, H p = some (.set S n))
  | _ => False
theorem tyV_is {pins : List (Addr × Obj)} {σ : St} {H : Hp} {s : Shared} {T : String} {x : V} {v : Value} (I : Inv X pins σ H s) (r : RelV x v) (ty : tyV X.K T x H) :
    s.TypeIs v T ∧ ∀ a, v = .ref a → ∃ ob, s.heap.get? a = some ob ∧ ob.dict = none := by
  cases x with
  | str z =>
    obtain ⟨t, rfl⟩ := r
    cases (show T = "str" from ty)
    exact ⟨typeIs_str s z t, fun _ e => nomatch e⟩
  | int i =>
    obtain ⟨t, rfl⟩ := r
    cases (show T = "int" from ty)
    exact ⟨typeIs_int s i t, fun _ e => nomatch e⟩
  | ref p =>
    cases r
    rcases ty with ⟨rfl, xs, hq⟩ | ⟨rfl, o, hk, hc, hd⟩ | ⟨rfl, hk⟩ | ⟨rfl, S, n, hk⟩
    · obtain ⟨its, _, pl, _⟩ := I.list hq
      refine ⟨pl.isList.typeIs, fun a e => ?_⟩
      cases e
      obtain ⟨o, n, e, c, hd, _⟩ := pl
      exact ⟨o, e, hd⟩
    · refine ⟨⟨o, I.kIn p o hk, hc⟩, fun a e => ?_⟩
      cases e
      exact ⟨o, I.kIn _ o hk, hd⟩
    · have z : ∃ o, s.heap.get? p = some o ∧ o.ExactDict := by
        rcases hk with ⟨kvs, hk⟩ | ⟨kvs, hk⟩
        · obtain ⟨_, _, _, _, o, _, _, e, ex, _⟩ := I.hok p _ hk
          exact ⟨o, e, ex⟩
        · obtain ⟨_, _, _, _, o, _, _, e, ex, _⟩ := I.hok p _ hk
          exact ⟨o, e, ex⟩
      obtain ⟨o, e, ex⟩ := z
      refine ⟨⟨o, e, ex.1⟩, fun a e2 => ?_⟩
      cases e2
      exact ⟨o, e, ex.2.1⟩
    · obtain ⟨o, _, _, _, e, ex, _⟩ := I.hok p _ hk
      refine ⟨⟨o, e, ex.1⟩, fun a e2 => ?_⟩
      cases e2
      exact ⟨o, e, ex.2.1⟩
  | _ => exact False.elim ty
noncomputable def tBM (K : PySem.W.Frag) (T : String) (r : V → List V → Hp → VK → Prop) (to : TE) (t : TA) : TE := fun σ H Q => to σ H fun x H1 => tyV K T x H1 ∧ t σ H1 fun xs H2 => r x xs H2 Q
variable {o e : Expr} {es : List Expr} {to : TE} {t : TA} {name : Str} {apos cpos : Pos} {T id : String} {r : V → List V → Hp → VK → Prop}
theorem pe_bm (pa : PlainAttrs T) (slot : Slot T name id) (hty : typeOf (.builtin id) = pure (.type "method_descriptor")) (hm : MtR X id r) (ho : PE X o to) (ha : PA X (e :: es) t)
    (hbase : attributeBase o name X.env (eval o X.env) = eval o X.env := by rfl)
    (hfew : ((backTo cpos (starEach (e :: es) X.env)).all (fun x => !x.1) && (backToKw cpos (keywordEach [] X.env)).all (fun x => x.1.isSome)
      && decide ((e :: es).length + ([] : List Keyword).length + (if ([] : List Keyword).isEmpty then 0 else 1) < 30)) = true := by rfl)
    (hline : (apos.endLine == cpos.line) = true := by rfl) (hs : starEach (e :: es) X.env = (false, eval e X.env) :: starEach es X.env := by rfl) (hplain : (backTo cpos (starEach es X.env)).any (·.1) = false := by rfl) :
    PE X (.Call (.Attribute o name apos) (e :: es) [] cpos) (tBM X.K T r to t) := by
  intro pins s σ H Q I h
  refine wpAny_Call_method_late hbase hfew hline rfl (thn (ho pins s σ H _ I h) fun v s1 ⟨x, H1, I1, r1, ty, q1⟩ => ?_)
  obtain ⟨h1, h2⟩ := tyV_is I1 r1 ty
  refine ⟨T, id, pa, slot, hty, h1, h2, ?_⟩
  have hA := ha cpos pins s1 σ H1 _ I1 q1
  rw [hs] at hA ⊢
  refine Calls.callWith_builtin (by show (false || (backTo cpos (starEach es X.env)).any (·.1)) = false; rw [hplain] <;> rfl) (Calls.evalArgs_plain ?_)
  exact thn hA fun us s2 ⟨vs, H2, I2, r2, q2⟩ => hm pins s2 σ H2 x vs v us Q I2 r1 r2 q2
end
end L2
namespace L2
open PySem PySem.Spec PyProof.Rows
noncomputable def MtM (X : Cx) (id : String) (r : V → List V → Hp → VK → Prop) : Prop :=
  ∀ (pins : List (Addr × Obj)) (s : Shared) (σ : St) (H : Hp) (x : V) (xs : List V) (v : Value) (us : List Value) (Q : VK), Inv X pins σ H s → RelV x v → Vals xs us → r x xs H Q →
    wpAny (model X.prog X.w) X.A (call (.builtin id) (v :: us)) (EP X pins σ Q) X.xe s
theorem Vals.one : ∀ {x : V} {us : List Value}, Vals [x] us → ∃ u, us = [u] ∧ RelV x u
  | _, _, .cons r .nil => ⟨_, rfl, r⟩
theorem Vals.rep {xs : List V} {us : List Value} (h : Vals xs us) : ∀ k : Nat, Vals (List.replicate k xs).flatten (List.replicate k us).flatten
  | 0 => .nil
  | k + 1 => by
    rw [List.replicate_succ, List.replicate_succ, List.flatten_cons, List.flatten_cons]
    exact Vals.append h (Vals.rep h k)
theorem foldl_rep (its : List Value) : ∀ (k : Nat) (acc : List Value),
    List.foldl (fun x1 x2 => x1 ++ x2) acc.toArray (List.replicate k its.toArray) = (acc ++ (List.replicate k its).flatten).toArray
  | 0, acc => by simp
  | k + 1, acc => by
    have e : acc.toArray ++ its.toArray = (acc ++ its).toArray := by simp
    have e2 : (acc ++ its) ++ (List.replicate k its).flatten = acc ++ (List.replicate (k + 1) its).flatten := by
      rw [List.replicate_succ, List.flatten_cons, List.append_assoc]
    rw [← e2, ← foldl_rep its k (acc ++ its), ← e, List.replicate_succ, List.foldl_cons]
section
variable {X : Cx} {pins : List (Addr × Obj)} {σ : St} {H : Hp} {s : Shared} {l b : Addr} {xs ys zs : List V}
theorem Inv.lset {its its' : List Value} {n : Nat} {f : Array Value → Array Value} {t' : Nat} (I : Inv X pins σ H s) (hH : H l = some (.lst xs))
    (e : s.heap.get? l = some { cls := .type "list", data := .seq its.toArray n }) (hf : f its.toArray = its'.toArray) (hv : Vals ys its') (hz : ys.length ≤ sizeLine) :
    Inv X pins σ (upd H l (.lst ys)) { s with heap := s.heap.update l (Obj.mapSeq f), toks := t' } := by
  have q := PySem.IsL.update e f
  rw [hf] at q
  refine I.write (x := l) (e := l) (by rw [hH]; exact trivial) (.inl rfl) (fun b' u hb hu => (Heap.get?_update_other s.heap (Obj.mapSeq f) (Ne.symm hb)).trans hu) ⟨_, q⟩ ?_
  exact ⟨hz, its', _, hv, q⟩
theorem Inv.lnew {its : List Value} {t' : Nat} (I : Inv X pins σ H s) (hv : Vals ys its) (hz : ys.length ≤ sizeLine) :
    Inv X pins σ (upd H s.heap.objs.size (.lst ys)) { s with heap := s.heap.push { cls := .type "list", data := .seq its.toArray }, toks := t' } :=
  I.laid (fun _ _ q => Heap.get?_push_of_some _ q) (Nat.le_refl _) ⟨hz, its, 0, hv, Heap.get?_push_size _ rfl⟩
theorem Inv.fresh (I : Inv X pins σ H s) : H s.heap.objs.size = none := I.hok.fresh (Nat.le_refl _)
theorem Inv.lstM (I : Inv X pins σ H s) (hH : H l = some (.lst xs)) : xs.length ≤ sizeLine ∧ ∃ (its : List Value) (n : Nat), Vals xs its ∧ xs.length = its.length ∧ s.heap.get? l = some { cls := .type "list", data := .seq its.toArray n } := by
  obtain ⟨z, its, n, r, e⟩ := I.hok l _ hH
  exact ⟨z, its, n, r, r.length, e⟩
theorem notLongL {n : Nat} (h : n ≤ sizeLine) : Builtin.List.listTooLong n = false := by
  unfold Builtin.List.listTooLong
  exact decide_eq_false (by omega)
end
section
variable {X : Cx}
noncomputable def rAppend : V → List V → Hp → VK → Prop := fun x vs H Q => ∃ l xs y, x = .ref l ∧ vs = [y] ∧ H l = some (.lst xs) ∧ xs.length < sizeLine ∧ Q .non (upd H l (.lst (xs ++ [y])))
theorem mt_append : MtM X "list.append" rAppend := by
  intro pins s σ H x vs v us Q I rx rv h
  obtain ⟨l, xs, y, rfl, rfl, hH, hz, q⟩ := h
  cases rx
  obtain ⟨u, rfl, ru⟩ := rv.one
  obtain ⟨z, its, n, r, hl, e⟩ := I.lstM hH
  refine call_meets F.slot_list_append ⟨_, e, rfl⟩ F.entry_list_append (F.args_list_append_2 _ _) (PySem.list_append l its.toArray n u (by rw [List.size_toArray]; omega)) ⟨e, ?_⟩
  refine ⟨.non, _, I.lset (its' := its ++ [u]) hH e (by simp) (r.append (.cons ru .nil)) ?_, rfl, q⟩
  rw [List.length_append, List.length_singleton]
  omega
noncomputable def rExtend : V → List V → Hp → VK → Prop := fun x vs H Q => ∃ l b xs zs, x = .ref l ∧ vs = [.ref b] ∧ H l = some (.lst xs) ∧ H b = some (.lst zs) ∧ xs.length + zs.length ≤ sizeLine ∧ Q .non (upd H l (.lst (xs ++ zs)))
theorem mt_extend : MtM X "list.extend" rExtend := by
  intro pins s σ H x vs v us Q I rx rv h
  obtain ⟨l, b, xs, zs, rfl, rfl, hH, hB, hz, q⟩ := h
  cases rx
  obtain ⟨u, rfl, ru⟩ := rv.one
  cases ru
  obtain ⟨z, its, n, r, hl, e⟩ := I.lstM hH
  obtain ⟨z2, its2, n2, r2, hl2, e2⟩ := I.lstM hB
  have hsz : its.toArray.size + its2.toArray.size ≤ sizeLine := by rw [List.size_toArray, List.size_toArray]; omega
  have hlong : ¬ (!its.toArray.isEmpty && Builtin.List.listTooLong (its.toArray.size + its2.toArray.size)) = true := by
    rw [notLongL hsz, Bool.and_false]
    exact Bool.false_ne_true
  refine call_meets F.slot_list_extend ⟨_, e, rfl⟩ F.entry_list_extend (F.args_list_extend_2 _ _)
    (AutoSeq1.list_extend_list_list_0 l its.toArray n b its2.toArray n2 hlong (by rw [List.size_toArray]; omega) (by omega)) ⟨e, e2, ?_⟩
  refine ⟨.non, _, I.lset (its' := its ++ its2) hH e (by simp) (r.append r2) ?_, rfl, q⟩
  rw [List.length_append]
  omega
noncomputable def rCat : R2 := fun x y H Q => ∃ l b xs zs, x = .ref l ∧ y = .ref b ∧ H l = some (.lst xs) ∧ H b = some (.lst zs) ∧ xs.length + zs.length ≤ sizeLine ∧ ∀ p, H p = none → Q (.ref p) (upd H p (.lst (xs ++ zs)))
theorem op_cat : OpR X (binaryOp .Add) rCat := by
  intro pins s σ H x y v u Q I rx ry h
  obtain ⟨l, b, xs, zs, rfl, rfl, hH, hB, hz, q⟩ := h
  cases rx
  cases ry
  obtain ⟨z, its, n, r, hl, e⟩ := I.lstM hH
  obtain ⟨z2, its2, n2, r2, hl2, e2⟩ := I.lstM hB
  refine PySem.P.add_list e e2 ?_ (by rw [List.size_toArray, List.size_toArray]; omega)
  have ea : its.toArray ++ its2.toArray = (its ++ its2).toArray := by simp
  rw [ea]
  exact ⟨.ref _, _, I.lnew (t' := s.toks) (r.append r2) (by rw [List.length_append]; omega), rfl, q _ I.fresh⟩
noncomputable def rRep : R2 := fun x y H Q => ∃ l k xs, x = .ref l ∧ y = .int k ∧ H l = some (.lst xs) ∧ -(2 ^ 63) ≤ k ∧ k < 2 ^ 63 ∧ xs.length * k.toNat ≤ sizeLine ∧
  ∀ p, H p = none → Q (.ref p) (upd H p (.lst (List.replicate k.toNat xs).flatten))
theorem len_rep {α : Type} (xs : List α) (k : Nat) : (List.replicate k xs).flatten.length = k * xs.length := by
  induction k with
  | zero => simp
  | succ k ih => rw [List.replicate_succ, List.flatten_cons, List.length_append, ih, Nat.succ_mul, Nat.add_comm]
theorem op_rep : OpR X (binaryOp .Mult) rRep := by
  intro pins s σ H x y v u Q I rx ry h
  obtain ⟨l, k, xs, rfl, rfl, hH, h1, h2, hz, q⟩ := h
  cases rx
  obtain ⟨t, rfl⟩ := ry
  obtain ⟨z, its, n, r, hl, e⟩ := I.lstM hH
  have hlen : its.toArray.size * k.toNat ≤ sizeLine := by rw [List.size_toArray, ← hl]; exact hz
  have hcap : ¬ its.toArray.size * k.toNat > (2 ^ 63 - 1) / 8 := by
    have : (sizeLine : Nat) ≤ (2 ^ 63 - 1) / 8 := by decide
    omega
  have hfit : ¬ (!Builtin.List.listFitsIndex k) = true := by
    rw [fitsIndex_both h1 h2]
    exact Bool.false_ne_true
  have hlong : ¬ Builtin.List.listTooLong (its.toArray.size * k.toNat) = true := by
    rw [notLongL hlen]
    exact Bool.false_ne_true
  have hnew : List.foldl (fun x1 x2 => x1 ++ x2) #[] (List.replicate (if its.toArray.isEmpty = true then 0 else k.toNat) its.toArray) = (List.replicate k.toNat its).flatten.toArray := by
    have f0 : ∀ m : Nat, List.foldl (fun x1 x2 => x1 ++ x2) #[] (List.replicate m its.toArray) = (List.replicate m its).flatten.toArray := fun m => by
      have := foldl_rep its m []
      rw [List.nil_append] at this
      exact this
    rw [f0]
    cases its with
    | nil => simp
    | cons a r' => rw [if_neg (by simp)]
  refine wpAny_binaryOp_repeat_ref (T := "list") (U := "int") (by decide) ⟨_, e, rfl⟩ (fun s' => typeIs_int s' k t) noFill_list_mul F.fills_int_mul F.slot_int_rmul repeat_list F.slot_int_index.lookup
    (call_meets F.slot_int_rmul (typeIs_int s k t) F.entry_int_rmul (F.args_int_rmul_2 _ _) (int___rmul___int_list k t l its.toArray n)
      ⟨e, rfl, ⟨_, e, rfl⟩, call_meets F.slot_list_mul ⟨_, e, rfl⟩ F.entry_list_mul (F.args_list_mul_2 _ _) (AutoListH.list___mul___list_int_3 l its.toArray n k t hfit hcap hlong) ⟨e, ?_⟩⟩)
  rw [hnew]
  exact ⟨.ref _, _, I.lnew (t' := s.toks) (r.rep k.toNat) (by rw [len_rep, Nat.mul_comm]; exact hz), rfl, q _ I.fresh⟩
end
end L2
namespace L2
open PySem PySem.Spec PyProof.Rows
theorem Vals.ints : ∀ {ns : List Int} {us : List Value}, Vals (ns.map V.int) us → IntsAre us ns
  | [], us, h => by
    rw [List.map_nil] at h
    cases h
    exact IntsAre.nil
  | n :: ns, us, h => by
    rw [List.map_cons] at h
    cases h with
    | cons r t =>
      obtain ⟨k, rfl⟩ := r
      exact IntsAre.cons n k (Vals.ints t)
theorem Vals.bls : ∀ {bs : List Bool} {us : List Value}, Vals (bs.map V.bl) us → us = bs.map Value.bool
  | [], us, h => by
    rw [List.map_nil] at h
    cases h
    rfl
  | b :: bs, us, h => by
    rw [List.map_cons] at h
    cases h with
    | cons r t =>
      cases r
      rw [Vals.bls t, List.map_cons]
theorem Vals.ref1 {a : Addr} {us : List Value} (r : Vals [V.ref a] us) : us = [Value.ref a] := by
  cases r with
  | cons r t =>
    cases t
    cases r
    rfl
section
variable {prog : Program} {w : World} {A : Around} {E : Value → Shared → Prop} {s : Shared} {l : Addr} {its : List Value} {ns : List Int} {Q : Value → Shared → Prop}
theorem sum_raw (hh : A.handled = none) (hl : s.heap.IsList l its.toArray) (hi : IntsAre its ns)
    (h : ∀ h' tk t', (∀ b o, s.heap.get? b = some o → h'.get? b = some o) → Q (.int ns.sum t') { s with heap := h', toks := tk }) : wpAny (model prog w) A (call (.builtin "sum") [.ref l]) Q E s := by
  obtain ⟨xs, e⟩ := hi.allInts.items
  have hn : numsOf (intItems xs).toList = ns := by rw [← e]; exact hi.numsOf
  rw [nums_intItems] at hn
  rw [e] at hl
  refine PySem.sum_intListG hh hl fun h' tk t' hk => ?_
  have := h h' tk t' hk
  rw [preSum_eq, List.take_of_length_le (by simp), hn]; exact this
end
section
variable {X : Cx}
noncomputable def rSum (K : PySem.W.Frag) : List V → Hp → VK → Prop := fun vs H Q => ∃ (a : Addr) (ns : List Int), vs = [V.ref a] ∧ SqL K H a (ns.map V.int) ∧ Q (.int ns.sum) H
theorem cr_sum (hc : X.calm = true) : CallR X (.builtin "sum") (rSum X.K) := by
  intro pins s σ H vs us Q I r h
  obtain ⟨a, ns, rfl, hs, q⟩ := h
  obtain ⟨its, rv, hl, _⟩ := I.list hs
  rw [Vals.ref1 r]
  exact sum_raw (I.ok.hd hc) hl.isList rv.ints fun h' tk t' hk => ⟨.int _, H, I.kept hk, ⟨_, rfl⟩, q⟩
end
section
variable {X : Cx}
noncomputable def rIndex (K : PySem.W.Frag) : V → List V → Hp → VK → Prop := fun x xs H Q => ∃ (a : Addr) (ys : List V) (y : V) (j : Nat) (z : V), x = V.ref a ∧ xs = [y] ∧ SqL K H a ys ∧ flatV y = true ∧ ys.all flatV = true ∧ ys[j]? = some z ∧ eqV z y = true ∧
  (∀ (m : Nat) (z' : V), m < j → ys[m]? = some z' → eqV z' y = false) ∧ Q (.int (j : Nat)) H
theorem flat_at {ys : List V} (f : ys.all flatV = true) {j : Nat} {z : V} (h : ys[j]? = some z) : flatV z = true := List.all_eq_true.mp f z (List.mem_of_getElem? h)
theorem mt_index : MtR X "list.index" (rIndex X.K) := by
  intro pins s σ H x xs v us Q I rx rxs h
  obtain ⟨a, ys, y, j, z, rfl, rfl, hs, fy, fys, hz, hzj, hno, q⟩ := h
  cases rx
  cases rxs with
  | cons ry rt =>
    rename_i uy ut
    cases rt
    obtain ⟨its, rv, ⟨⟨cls, dd, data, sl⟩, n, ho, hc, hdn, hd⟩, hlen⟩ := I.list hs
    simp only at hc hd
    subst hc hd
    obtain ⟨u, hu, ru⟩ := rv.get hz
    obtain ⟨hjl, hje⟩ := List.getElem?_eq_some_iff.mp hu
    have hvl := rv.length
    have hj : j < its.toArray.size := by simpa using hjl
    have hsl := sizeLine_eq
    refine call_meets PySem.F.slot_list_index ⟨_, ho, rfl⟩ PySem.F.entry_list_index (PySem.F.args_list_index_2 _ _)
      (SeqAt.list_indexAt a its.toArray n dd sl uy (eqU y) j hj (by omega) ?_ ?_) ⟨ho, fun u' hu' => mem_eqAt ry fy rv fys u' (by simpa using hu'), ?_⟩
    · have e1 : its.toArray[j] = u := by simpa using hje
      rw [e1, eqU_of ru (flat_at fys hz)]
      exact hzj
    · intro m hm hmj
      have hml : m < its.length := by simpa using hm
      have hmy : m < ys.length := by omega
      have hy' : ys[m]? = some ys[m] := List.getElem?_eq_getElem hmy
      obtain ⟨u2, hu2, ru2⟩ := rv.get hy'
      obtain ⟨_, hme⟩ := List.getElem?_eq_some_iff.mp hu2
      have e1 : its.toArray[m] = u2 := by simpa using hme
      rw [e1, eqU_of ru2 (flat_at fys hy')]
      exact hno m _ hmj hy'
    · exact ⟨.int (j : Nat), H, I.tok _, ⟨_, rfl⟩, q⟩
end
theorem iter_any {prog : Program} {w : World} {A : Around} {E : Value → Shared → Prop} {s : Shared} {l : Addr} {items : Array Value} {Q : Value → Shared → Prop} (hl : s.heap.IsList l items)
    (h : ∀ s₂ : Shared, s₂ = { s with heap := s.heap.push { cls := .type "list_iterator", data := .fields #[.ref l, .int 0 0] } } →
      (s₂.heap.IsListIter s.heap.objs.size l 0 ∧ s₂.heap.IsList l items) → l ≠ s.heap.objs.size → Q (.ref s.heap.objs.size) s₂) : wpAny (model prog w) A (pyIter (.ref l)) Q E s := by
  have hlt : l < s.heap.objs.size := by obtain ⟨_, e, _⟩ := hl; exact Heap.lt_size e
  exact wpAny_pyIter_list hl (h _ rfl ⟨⟨_, Heap.get?_push_size _ rfl, rfl, rfl⟩, hl.push _⟩ (Nat.ne_of_lt hlt))
theorem truth_bools {prog : Program} {w : World} {A : Around} {bs : List Bool} {its : List Value} (e : its = bs.map Value.bool) :
    TruthOf prog w A (fun i v => its.toArray[i]? = some v) (fun i => bs.getD i false) := fun i v s Q E hv hq => by
  have hv' : its[i]? = some v := by simpa using hv
  rw [e, List.getElem?_map] at hv'
  obtain ⟨b, hb, rfl⟩ := Option.map_eq_some_iff.mp hv'
  have hg : bs.getD i false = b := by rw [List.getD_eq_getElem?_getD, hb] <;> rfl
  have hq' : Q (bs.getD i false) s := hq
  rw [hg] at hq'
  exact wpAny_truthy_bool hq'
theorem any_range : ∀ bs : List Bool, (List.range bs.length).any (fun i => bs.getD i false) = bs.any id
  | [] => rfl
  | b :: bs => by
    rw [List.length_cons, List.range_succ_eq_map, List.any_cons, List.any_map, List.any_cons, ← any_range bs]
    all_goals rfl
theorem all_range : ∀ bs : List Bool, (List.range bs.length).all (fun i => bs.getD i false) = bs.all id
  | [] => rfl
  | b :: bs => by
    rw [List.length_cons, List.range_succ_eq_map, List.all_cons, List.all_map, List.all_cons, ← all_range bs]
    all_goals rfl
section
variable {X : Cx}
noncomputable def rAny (K : PySem.W.Frag) : List V → Hp → VK → Prop := fun vs H Q => ∃ (a : Addr) (bs : List Bool), vs = [V.ref a] ∧ SqL K H a (bs.map V.bl) ∧ Q (.bl (bs.any id)) H
noncomputable def rAll (K : PySem.W.Frag) : List V → Hp → VK → Prop := fun vs H Q => ∃ (a : Addr) (bs : List Bool), vs = [V.ref a] ∧ SqL K H a (bs.map V.bl) ∧ Q (.bl (bs.all id)) H
theorem cr_any (hc : X.calm = true) : CallR X (.builtin "any") (rAny X.K) := by
  intro pins s σ H vs us Q I r h
  obtain ⟨a, bs, rfl, hs, q⟩ := h
  obtain ⟨its, rv, hl, _⟩ := I.list hs
  rw [Vals.ref1 r]
  have hb := rv.bls
  refine call_any_walk (iter_any hl.isList fun s₂ e2 st hne => ?_)
  subst e2
  refine ⟨_, _, _, _, _, _, _, rfl, Walks.list (A := X.A.in1) (I.ok.hd hc) _ a hne its.toArray, st, truth_bools hb, fun h' tk hk => ?_⟩
  refine ⟨.bl _, H, I.kept fun b o eo => hk b o (fun hmem => ?_) (Heap.get?_push_of_some _ eo), ?_, q⟩
  · rcases List.mem_cons.mp hmem with e1 | hmem
    · exact absurd (e1 ▸ Heap.lt_size eo) (Nat.lt_irrefl _)
    · cases hmem
  · show Value.bool _ = Value.bool _
    rw [← any_range, hb, List.size_toArray, List.length_map]
theorem cr_all (hc : X.calm = true) : CallR X (.builtin "all") (rAll X.K) := by
  intro pins s σ H vs us Q I r h
  obtain ⟨a, bs, rfl, hs, q⟩ := h
  obtain ⟨its, rv, hl, _⟩ := I.list hs
  rw [Vals.ref1 r]
  have hb := rv.bls
  refine call_all_walk (iter_any hl.isList fun s₂ e2 st hne => ?_)
  subst e2
  refine ⟨_, _, _, _, _, _, _, rfl, Walks.list (A := X.A.in1) (I.ok.hd hc) _ a hne its.toArray, st, truth_bools hb, fun h' tk hk => ?_⟩
  refine ⟨.bl _, H, I.kept fun b o eo => hk b o (fun hmem => ?_) (Heap.get?_push_of_some _ eo), ?_, q⟩
  · rcases List.mem_cons.mp hmem with e1 | hmem
    · exact absurd (e1 ▸ Heap.lt_size eo) (Nat.lt_irrefl _)
    · cases hmem
  · show Value.bool _ = Value.bool _
    rw [← all_range, hb, List.size_toArray, List.length_map]
end
mutual
inductive Dp (K : PySem.W.Frag) (H : Hp) : V → PyData → Prop
  | non : Dp K H .non .none
  | bl (b : Bool) : Dp K H (.bl b) (.bool b)
  | int (i : Int) : Dp K H (.int i) (.int i)
  | str (x : Str) : Dp K H (.str x) (.str x)
  | lst {a : Addr} {xs : List V} {ds : List PyData} : SqL K H a xs → DpAll K H xs ds → Dp K H (.ref a) (.list ds)
  | tup {a : Addr} {xs : List V} {ds : List PyData} : SqT K H a xs → DpAll K H xs ds → Dp K H (.ref a) (.tuple ds)
inductive DpAll (K : PySem.W.Frag) (H : Hp) : List V → List PyData → Prop
  | nil : DpAll K H [] []
  | cons {v : V} {vs : List V} {d : PyData} {ds : List PyData} : Dp K H v d → DpAll K H vs ds → DpAll K H (v :: vs) (d :: ds)
end
section
variable {X : Cx} {pins : List (Addr × Obj)} {σ : St} {H : Hp} {s : Shared}
mutual
theorem Dp.reads (I : Inv X pins σ H s) : ∀ (d : PyData) (v : V) (u : Value), Dp X.K H v d → RelV v u → ∃ as, Reads s.heap u d as
  | .none, _, _, h, r => by
    cases h
    cases r
    exact ⟨_, Reads.none⟩
  | .bool b, _, _, h, r => by
    cases h
    cases r
    exact ⟨_, Reads.bool b⟩
  | .int i, _, _, h, r => by
    cases h
    obtain ⟨t, rfl⟩ := r
    exact ⟨_, Reads.int i t⟩
  | .str x, _, _, h, r => by
    cases h
    obtain ⟨t, rfl⟩ := r
    exact ⟨_, Reads.str x t⟩
  | .list ds, _, _, h, r => by
    cases h with
    | lst hs ha =>
      cases r
      obtain ⟨its, rv, ⟨o, n, ho, hc, _, hd⟩, _⟩ := I.list hs
      obtain ⟨as, hr⟩ := Dp.readsAll I ds _ its ha rv
      exact ⟨_, Reads.list ho hc hd hr⟩
  | .tuple ds, _, _, h, r => by
    cases h with
    | tup hs ha =>
      cases r
      obtain ⟨its, rv, ⟨o, ho, hc, n, hd⟩, _⟩ := I.tuple hs
      obtain ⟨as, hr⟩ := Dp.readsAll I ds _ its ha rv
      exact ⟨_, Reads.tuple ho hc hd hr⟩
  | .dict _, _, _, h, _ => by cases h
theorem Dp.readsAll (I : Inv X pins σ H s) : ∀ (ds : List PyData) (vs : List V) (us : List Value), DpAll X.K H vs ds → Vals vs us → ∃ as, ReadsAll s.heap us ds as
  | [], _, _, h, r => by
    cases h
    cases r
    exact ⟨_, ReadsAll.nil⟩
  | d :: ds, _, _, h, r => by
    cases h with
    | cons h1 h2 =>
      cases r with
      | cons r1 r2 =>
        obtain ⟨as, q1⟩ := Dp.reads I d _ _ h1 r1
        obtain ⟨bs, q2⟩ := Dp.readsAll I ds _ _ h2 r2
        exact ⟨_, ReadsAll.cons q1 q2⟩
end
end
section
variable {X : Cx}
noncomputable def rEqD (K : PySem.W.Frag) : R2 := fun x y H Q => ∃ d e, Dp K H x d ∧ Dp K H y e ∧ SeqAt.shaped d = true ∧ SeqAt.shaped e = true ∧ Q (.bl (PyData.eqv d e)) H
theorem op_eqD (hu : X.A.units + 64 < cLine) : OpR X (compareOp .Eq) (rEqD X.K) := by
  intro pins s σ H x y v u Q I rx ry h
  obtain ⟨d, e, hd, he, sd, se, q⟩ := h
  obtain ⟨as, r1⟩ := Dp.reads I d x v hd rx
  obtain ⟨bs, r2⟩ := Dp.reads I e y u he ry
  exact SeqAt.compareEq_shaped r1 r2 sd se hu ⟨.bl _, H, I, rfl, q⟩
end
end L2
namespace L2
open PySem PySem.Spec PyProof.Rows
noncomputable abbrev CellAt (h : Heap) (c : Addr) (v : Option Value) : Prop := h.IsCell c v
noncomputable def relS (scope sc : Scope) : Scope :=
  { scope with names := scope.names.map fun (n, k) => if (k == .free && sc.kind == .function && sc.names.lookup n == some .cell) then (n, .cell) else (n, k) }
noncomputable def cloFrom (cells : List (Str × Addr)) : List (Str × NameKind) → List (Str × Addr) → List (Str × Addr)
  | [], acc => acc
  | (n, k) :: r, acc => if k == .free then cloFrom cells r ((n, (cells.lookup n).getD 0) :: acc) else cloFrom cells r acc
theorem closure_loop (env : Env) (f : Str × NameKind → List (Str × Addr) → Sem (ForInStep (List (Str × Addr))))
    (hf : ∀ n k c, f (n, k) c = if k == .free then (do let a ← cellOf env n; pure (.yield ((n, a) :: c))) else pure (.yield c)) :
    ∀ (names : List (Str × NameKind)) (acc : List (Str × Addr)), (∀ y ∈ names, y.2 = .free → ∃ c, env.cells.lookup y.1 = some c) → forIn names acc f = pure (cloFrom env.cells names acc)
  | [], acc, _ => by rw [List.forIn_nil]; rfl
  | (n, k) :: r, acc, h => by
    rw [List.forIn_cons, hf]
    have ih := fun acc => closure_loop env f hf r acc fun y hy => h y (List.mem_cons_of_mem _ hy)
    unfold cloFrom
    by_cases hk : (k == NameKind.free) = true
    · rw [if_pos hk, if_pos hk]
      obtain ⟨c, hc⟩ := h (n, k) List.mem_cons_self (by simpa using hk)
      have e : cellOf env n = pure c := by unfold cellOf; rw [hc]
      rw [e]
      have e2 : (env.cells.lookup n).getD 0 = c := by rw [hc]; rfl
      rw [e2]
      exact ih _
    · rw [if_neg hk, if_neg hk]
      exact ih _
theorem closure_ok {scope : Scope} {env : Env} (h : ∀ y ∈ scope.names, y.2 = .free → ∃ c, env.cells.lookup y.1 = some c) : closureFor scope env = pure (cloFrom env.cells scope.names []) := by
  simp only [closureFor]
  rw [closure_loop env _ (fun n k c => rfl) scope.names [] h]
  rfl
theorem mem_lookup {α : Type} : ∀ {l : List (Str × α)} {n : Str} {c : α}, (n, c) ∈ l → ∃ c', l.lookup n = some c'
  | (k, v) :: r, n, c, h => by
    rw [List.lookup_cons]
    cases hb : n == k with
    | true => exact ⟨_, rfl⟩
    | false =>
      rcases List.mem_cons.mp h with e | h
      · cases e; simp at hb
      · exact mem_lookup h
theorem cloFrom_mem {cells : List (Str × Addr)} : ∀ {names : List (Str × NameKind)} {acc : List (Str × Addr)} {n : Str} {c : Addr}, (n, c) ∈ cloFrom cells names acc → (n, c) ∈ acc ∨ ((n, .free) ∈ names ∧ c = (cells.lookup n).getD 0)
  | [], _, _, _, h => .inl h
  | (m, k) :: r, acc, n, c, h => by
    unfold cloFrom at h
    split at h
    · rename_i hk
      have hk : k = .free := by simpa using hk
      rcases cloFrom_mem h with h | ⟨h1, h2⟩
      · rcases List.mem_cons.mp h with e | h
        · cases e; exact .inr ⟨hk ▸ List.mem_cons_self, rfl⟩
        · exact .inl h
      · exact .inr ⟨List.mem_cons_of_mem _ h1, h2⟩
    · rcases cloFrom_mem h with h | ⟨h1, h2⟩
      · exact .inl h
      · exact .inr ⟨List.mem_cons_of_mem _ h1, h2⟩
theorem cloFrom_acc {cells : List (Str × Addr)} : ∀ {names : List (Str × NameKind)} {acc : List (Str × Addr)} {p : Str × Addr}, p ∈ acc → p ∈ cloFrom cells names acc
  | [], _, _, h => h
  | (m, k) :: r, acc, p, h => by
    unfold cloFrom
    split
    · exact cloFrom_acc (List.mem_cons_of_mem _ h)
    · exact cloFrom_acc h
theorem cloFrom_has {cells : List (Str × Addr)} : ∀ {names : List (Str × NameKind)} {acc : List (Str × Addr)} {n : Str}, (n, .free) ∈ names → (n, (cells.lookup n).getD 0) ∈ cloFrom cells names acc
  | (m, k) :: r, acc, n, h => by
    unfold cloFrom
    rcases List.mem_cons.mp h with e | h
    · cases e
      exact cloFrom_acc List.mem_cons_self
    · split
      · exact cloFrom_has h
      · exact cloFrom_has h
theorem cells_mem : ∀ {names : List (Str × NameKind)} {h : Heap} {acc : List (Str × Addr)} {x : Str} {c : Addr}, (x, c) ∈ cellsFrom h.objs.size names acc →
    (x, c) ∈ acc ∨ ((x, .cell) ∈ names ∧ h.objs.size ≤ c ∧ CellAt (pushCells h names) c none)
  | [], _, _, _, _, h => .inl h
  | (n, k) :: r, h, acc, x, c, hm => by
    unfold cellsFrom at hm
    unfold pushCells
    split at hm
    · rename_i hk
      rw [if_pos hk]
      have hk : k = .cell := by simpa using hk
      rw [← Heap.size_push h { cls := .type "cell", data := .cell none }] at hm
      rcases cells_mem hm with hm | ⟨h1, h2, h3⟩
      · rcases List.mem_cons.mp hm with e | hm
        · cases e
          exact .inr ⟨hk ▸ List.mem_cons_self, Nat.le_refl _, _, pushCells_keeps r _ _ _ (Heap.get?_push_size _ rfl), rfl⟩
        · exact .inl hm
      · rw [Heap.size_push] at h2
        exact .inr ⟨List.mem_cons_of_mem _ h1, Nat.le_of_succ_le h2, h3⟩
    · rename_i hk
      rw [if_neg hk]
      rcases cells_mem hm with hm | ⟨h1, h2, h3⟩
      · exact .inl hm
      · exact .inr ⟨List.mem_cons_of_mem _ h1, h2, h3⟩
theorem cells_acc : ∀ {names : List (Str × NameKind)} {n : Nat} {acc : List (Str × Addr)} {p : Str × Addr}, p ∈ acc → p ∈ cellsFrom n names acc
  | [], _, _, _, h => h
  | (m, k) :: r, n, acc, p, h => by
    unfold cellsFrom
    split
    · exact cells_acc (List.mem_cons_of_mem _ h)
    · exact cells_acc h
theorem cells_has : ∀ {names : List (Str × NameKind)} {n : Nat} {acc : List (Str × Addr)} {x : Str}, (x, .cell) ∈ names → ∃ c, (x, c) ∈ cellsFrom n names acc
  | (m, k) :: r, n, acc, x, h => by
    unfold cellsFrom
    rcases List.mem_cons.mp h with e | h
    · cases e
      exact ⟨n, cells_acc List.mem_cons_self⟩
    · split
      · exact cells_has h
      · exact cells_has h
theorem cells_inj : ∀ {names : List (Str × NameKind)} {h : Heap} {acc : List (Str × Addr)} {x y : Str} {c : Addr}, (∀ p ∈ acc, p.2 < h.objs.size) → (∀ x y c, (x, c) ∈ acc → (y, c) ∈ acc → x = y) →
    (x, c) ∈ cellsFrom h.objs.size names acc → (y, c) ∈ cellsFrom h.objs.size names acc → x = y
  | [], _, _, _, _, _, _, hi, h1, h2 => hi _ _ _ h1 h2
  | (n, k) :: r, h, acc, x, y, c, hl, hi, h1, h2 => by
    unfold cellsFrom at h1 h2
    split at h1
    · rename_i hk
      rw [if_pos hk] at h2
      rw [← Heap.size_push h { cls := .type "cell", data := .cell none }] at h1 h2
      refine cells_inj (h := h.push _) (fun p hp => ?_) (fun x y c a b => ?_) h1 h2
      · rw [Heap.size_push]
        rcases List.mem_cons.mp hp with rfl | hp
        · exact Nat.lt_succ_self _
        · exact Nat.lt_succ_of_lt (hl p hp)
      · rcases List.mem_cons.mp a with e | a <;> rcases List.mem_cons.mp b with e' | b
        · cases e; cases e'; rfl
        · cases e; exact absurd (hl _ b) (Nat.lt_irrefl _)
        · cases e'; exact absurd (hl _ a) (Nat.lt_irrefl _)
        · exact hi _ _ _ a b
    · rename_i hk
      rw [if_neg hk] at h2
      exact cells_inj hl hi h1 h2
theorem newEnv_comp {M : Model} {A : Around} {E : Value → Shared → Prop} {s : Shared} {scope : Scope} {globals : Addr} {closure : List (Str × Addr)} {qual : Str} {func : Option Addr} {code : Value} {around : Env} {builtins : Addr} {Q : Env → Shared → Prop}
    (h : Q (newEnv scope s.heap.objs.size globals (cellsFrom (s.heap.objs.size + 1) scope.names closure) qual func code (some around) builtins)
      { s with heap := pushCells (s.heap.push { cls := .type "dict", data := .dict #[] }) scope.names }) :
    wpAny M A (newFunctionEnv scope globals closure [] qual func code (some around) builtins) Q E s := by
  simp only [newFunctionEnv, Option.isSome_some, if_true]
  refine wpAny_bind (wpAny_alloc ?_)
  refine wpAny_bind (wpAny_layCells _ (fun n k c => rfl) scope.names closure _ _ ?_)
  rw [show ({ s with heap := s.heap.push { cls := .type "dict", data := .dict #[] } } : Shared).heap.objs.size = s.heap.objs.size + 1 from Heap.size_push ..]
  rw [List.forIn_nil]
  exact wpAny_bind (wpAny_pure (wpAny_pure h))
theorem lookup_relS {sc : Scope} : ∀ {names : List (Str × NameKind)} {x : Str} {k : NameKind},
    (names.map fun (n, k) => if (k == NameKind.free && sc.kind == .function && sc.names.lookup n == some .cell) then (n, NameKind.cell) else (n, k)).lookup x = some k →
    ∃ k', names.lookup x = some k' ∧ (k = k' ∨ (k' = .free ∧ k = .cell))
  | [], _, _, h => by simp at h
  | (n, k₀) :: r, x, k, h => by
    have ih := @lookup_relS sc r x k
    have h' : List.lookup x ((if (k₀ == NameKind.free && sc.kind == .function && sc.names.lookup n == some .cell) = true then (n, NameKind.cell) else (n, k₀)) :: (r.map _)) = some k := h
    cases hx : x == n with
    | true =>
      simp only [List.lookup_cons, hx]
      by_cases hc : (k₀ == NameKind.free && sc.kind == .function && sc.names.lookup n == some .cell) = true
      · rw [if_pos hc] at h'
        simp only [List.lookup_cons, hx] at h'
        cases h'
        simp only [Bool.and_eq_true, beq_iff_eq] at hc
        exact ⟨k₀, rfl, .inr ⟨hc.1.1, rfl⟩⟩
      · rw [if_neg hc] at h'
        simp only [List.lookup_cons, hx] at h'
        cases h'
        exact ⟨_, rfl, .inl rfl⟩
    | false =>
      simp only [List.lookup_cons, hx]
      by_cases hc : (k₀ == NameKind.free && sc.kind == .function && sc.names.lookup n == some .cell) = true
      · rw [if_pos hc] at h'
        simp only [List.lookup_cons, hx] at h'
        exact ih h'
      · rw [if_neg hc] at h'
        simp only [List.lookup_cons, hx] at h'
        exact ih h'
structure BlkOk (N : List Str) (sc scope : Scope) (own : List (Str × Nat)) : Prop where
  kind : scope.kind = .function
  uniq : ∀ y ∈ scope.names, scope.names.lookup y.1 = some y.2
  ix : ∀ p ∈ own, N[p.2]? = some p.1
  free : ∀ y ∈ scope.names, y.2 = .free → sc.names.lookup y.1 = some .cell ∨ sc.names.lookup y.1 = some .free
  own : ∀ y ∈ scope.names, y.2 = .local ∨ y.2 = .cell → y.1 ∈ own.map (·.1) ∨ y.1 ∉ N
noncomputable def wipe (σ : St) : List Nat → St
  | [] => σ
  | v :: vs => (wipe σ vs).set v none
theorem wipe_length (σ : St) : ∀ vs : List Nat, (wipe σ vs).length = σ.length
  | [] => rfl
  | v :: vs => by unfold wipe; rw [List.length_set, wipe_length σ vs]
theorem wipe_some {σ : St} {i : Nat} {x : V} : ∀ {vs : List Nat}, (wipe σ vs)[i]? = some (some x) → σ[i]? = some (some x) ∧ i ∉ vs
  | [], h => ⟨h, by simp⟩
  | v :: vs, h => by
    unfold wipe at h
    by_cases hi : v = i
    · subst hi
      by_cases hv : v < (wipe σ vs).length
      · rw [List.getElem?_set_self hv] at h; cases h
      · rw [List.getElem?_eq_none (by simpa using hv)] at h; cases h
    · rw [List.getElem?_set_ne hi] at h
      obtain ⟨h1, h2⟩ := wipe_some h
      exact ⟨h1, by simp only [List.mem_cons, not_or]; exact ⟨fun e => hi e.symm, h2⟩⟩
noncomputable abbrev Cx.blk (X : Cx) (s : Shared) (H : Hp) (scope : Scope) (cenv : Env) (fp : List Addr) : Cx := { X with s_0 := s, H_0 := H, env := cenv, outer := X.stack, ex := fp, fn := fun x => scope.names.lookup x == some .cell, pn := [], xe := fun _ _ => False }
section
variable {X : Cx} {pins : List (Addr × Obj)} {σ : St} {H : Hp} {s : Shared}
theorem block_start {scope : Scope} {own : List (Str × Nat)} {fp : List Addr} (I : Inv X pins σ H s) (ok : BlkOk X.N X.env.scope scope own) (hN : X.N.Nodup) (hfp : ∀ b ∈ fp, FpOk X pins H b ∧ b < s.heap.objs.size) :
    Inv (X.blk s H scope (compEnvC scope (cellsFrom (s.heap.objs.size + 1) scope.names (cloFrom X.env.cells scope.names [])) s.heap.objs.size X.env) fp) [] (wipe σ (own.map (·.2))) H { s with heap := pushCells (s.heap.push { cls := .type "dict", data := .dict #[] }) scope.names } := by
  have hfree : ∀ y ∈ scope.names, y.2 = .free → ∃ c, X.env.cells.lookup y.1 = some c := fun y hy e => by
    rcases ok.free y hy e with k | k
    · exact I.ok.has _ (.inl k)
    · exact I.ok.has _ (.inr k)
  generalize hcenv : compEnvC scope (cellsFrom (s.heap.objs.size + 1) scope.names (cloFrom X.env.cells scope.names [])) s.heap.objs.size X.env = cenv
  have kp : ∀ b o, s.heap.get? b = some o → (pushCells (s.heap.push { cls := .type "dict", data := .dict #[] }) scope.names).get? b = some o := fun b o e => pushCells_keeps _ _ _ _ (Heap.get?_push_of_some _ e)
  have hL : cenv.locals = s.heap.objs.size := by rw [← hcenv]; rfl
  have hcl : cenv.cells = cellsFrom (s.heap.objs.size + 1) scope.names (cloFrom X.env.cells scope.names []) := by rw [← hcenv]; rfl
  have hsc : cenv.scope = relS scope X.env.scope := by rw [← hcenv]; rfl
  rw [← Heap.size_push s.heap { cls := .type "dict", data := .dict #[] }] at hcl
  have cm : ∀ {y c}, (y, c) ∈ cloFrom X.env.cells scope.names [] → X.env.cells.lookup y = some c ∧ c < s.heap.objs.size := fun {y c} hm => by
    rcases cloFrom_mem hm with hm | ⟨h1, rfl⟩
    · cases hm
    · obtain ⟨c, hc⟩ := hfree _ h1 rfl
      rw [hc]
      obtain ⟨w, z⟩ := I.cell _ _ hc
      exact ⟨rfl, z.lt⟩
  have mem : ∀ {y c}, cenv.cells.lookup y = some c → (X.env.cells.lookup y = some c ∧ c < s.heap.objs.size) ∨ (s.heap.objs.size + 1 ≤ c ∧ CellAt (pushCells (s.heap.push { cls := .type "dict", data := .dict #[] }) scope.names) c none) := fun {y c} e => by
    rw [hcl] at e
    rcases cells_mem (PySem.mem_of_lookup e) with hm | ⟨_, h2, h3⟩
    · exact .inl (cm hm)
    · rw [Heap.size_push] at h2; exact .inr ⟨h2, h3⟩
  have look : ∀ {y}, scope.names.lookup y = some .free → ∃ c, cenv.cells.lookup y = some c ∧ X.env.cells.lookup y = some c := fun {y} hl => by
    have hy : (y, NameKind.free) ∈ scope.names := PySem.mem_of_lookup hl
    obtain ⟨c', e'⟩ := mem_lookup (cells_acc (names := scope.names) (n := (s.heap.push { cls := .type "dict", data := .dict #[] }).objs.size) (cloFrom_has (cells := X.env.cells) (acc := []) hy))
    rw [← hcl] at e'
    refine ⟨c', e', ?_⟩
    rw [hcl] at e'
    rcases cells_mem (PySem.mem_of_lookup e') with hm | ⟨h1, _, _⟩
    · exact (cm hm).1
    · have := ok.uniq _ h1
      rw [hl] at this; cases this
  have okB : (X.blk s H scope cenv fp).Ok := by
    refine ⟨I.ok.mod, by show cenv.scope.kind = _; rw [hsc]; exact ok.kind, by show cenv.globals = _; rw [← hcenv]; exact I.ok.glob, by show cenv.builtins = _; rw [← hcenv]; exact I.ok.blt, by show s.heap.objs.size ≤ cenv.locals; rw [hL]; exact Nat.le_refl _,
      fun y z c e1 e2 => ?_, fun y hy => ?_, fun y c z e => ?_, I.ok.hd, I.ok.frames, .inl rfl, fun b hb => ⟨?_, fun y c e z => ?_⟩, I.bs, Nat.le_trans I.ok.bsz I.sz, fun b o e hb => ?_, fun b hb z => ?_, I.stack, I.stkFree⟩
    · have e1 : cenv.cells.lookup y = some c := e1
      have e2 : cenv.cells.lookup z = some c := e2
      rw [hcl] at e1 e2
      refine cells_inj (fun p hp => ?_) (fun y z c a b => I.ok.inj y z c (cm a).1 (cm b).1) (PySem.mem_of_lookup e1) (PySem.mem_of_lookup e2)
      rw [Heap.size_push]
      exact Nat.lt_succ_of_lt (cm (y := p.1) (c := p.2) hp).2
    · show ∃ c, cenv.cells.lookup y = some c
      have key : ∀ k, cenv.kindOf y = some k → (k = .cell ∨ k = .free) → ∃ c, cenv.cells.lookup y = some c := fun k hk hk' => by
        unfold Env.kindOf at hk
        rw [hsc] at hk
        obtain ⟨k', e, r⟩ := lookup_relS hk
        have : k' = .cell ∨ k' = .free := by
          rcases r with rfl | ⟨rfl, _⟩
          · exact hk'
          · exact .inr rfl
        rcases this with rfl | rfl
        · obtain ⟨c, hm⟩ := cells_has (n := (s.heap.push { cls := .type "dict", data := .dict #[] }).objs.size) (acc := cloFrom X.env.cells scope.names []) (PySem.mem_of_lookup e)
          obtain ⟨c', e'⟩ := mem_lookup hm
          exact ⟨c', by rw [hcl]; exact e'⟩
        · obtain ⟨c, h1, _⟩ := look e
          exact ⟨c, h1⟩
      rcases hy with hy | hy
      · exact key _ hy (.inl rfl)
      · exact key _ hy (.inr rfl)
    · have z : (scope.names.lookup y == some NameKind.cell) = true := z
      have z : scope.names.lookup y = some .cell := by simpa using z
      have e : cenv.cells.lookup y = some c := e
      rw [hcl] at e
      rcases cells_mem (PySem.mem_of_lookup e) with hm | ⟨_, h2, _⟩
      · rcases cloFrom_mem hm with hm | ⟨h1, _⟩
        · cases hm
        · have q := ok.uniq _ h1
          rw [z] at q; cases q
      · rw [Heap.size_push] at h2
        exact Nat.le_of_succ_le h2
    · show b ≠ cenv.locals
      rw [hL]; exact Nat.ne_of_lt (hfp b hb).2
    · have e : cenv.cells.lookup y = some c := e
      rcases mem e with ⟨h1, _⟩ | ⟨h1, _⟩
      · exact (hfp b hb).1.2.2.2.2.1 y c h1 z
      · have h2 : s.heap.objs.size + 1 ≤ b := by rw [← z]; exact h1
        exact absurd (Nat.lt_of_lt_of_le (hfp b hb).2 (Nat.le_of_succ_le h2)) (Nat.lt_irrefl _)
    · rcases (hfp b hb).1.2.2.2.1 with z | z
      · exact I.ok.noex b o e z
      · exact absurd (Nat.lt_of_lt_of_le (Heap.lt_size e) (Nat.le_trans I.ok.bsz z)) (Nat.lt_irrefl _)
    · rcases List.mem_cons.mp (I.stkSub b z) with z | z
      · exact (hfp b hb).1.2.1 z
      · exact (hfp b hb).1.2.2.1 z
  refine ⟨okB, rfl, I.bare, Un.kept kp, ⟨fun _ => none, ?_, fun i y av e1 e2 e3 => ?_⟩, fun y c e => ?_, ?_, fun y c e => ?_, fun p hp => ?_, I.hok.kept kp, by rw [wipe_length]; exact I.len⟩
  · show Heap.Ns _ cenv.locals _
    rw [hL]
    exact Heap.Ns.keeps (Heap.Ns.new ..) fun b o e => pushCells_keeps _ _ _ _ e
  · obtain ⟨e2, hne⟩ := wipe_some e2
    have hfr : scope.names.lookup y = some .free ∧ (cenv.kindOf y = some .cell ∨ cenv.kindOf y = some .free) := by
      have key : ∀ k, cenv.scope.names.lookup y = some k → k = .local ∨ k = .cell ∨ k = .free → scope.names.lookup y = some .free ∧ (cenv.kindOf y = some .cell ∨ cenv.kindOf y = some .free) := fun k hk hk' => by
        have hk0 := hk
        rw [hsc] at hk
        obtain ⟨k', e, r⟩ := lookup_relS hk
        have no : ¬ (k' = .local ∨ k' = .cell) := fun hh => by
          rcases ok.own _ (PySem.mem_of_lookup e) hh with e' | e'
          · obtain ⟨p, hp, hpy⟩ := List.mem_map.mp e'
            have e3 := ok.ix p hp
            have : p.1 = y := hpy
            rw [this] at e3
            exact hne (List.mem_map.mpr ⟨p, hp, nodup_ix hN e3 e1⟩)
          · exact e' (List.mem_of_getElem? e1)
        rcases r with rfl | ⟨rfl, rfl⟩
        · rcases hk' with rfl | rfl | rfl
          · exact absurd (.inl rfl) no
          · exact absurd (.inr rfl) no
          · exact ⟨e, .inr hk0⟩
        · exact ⟨e, .inl hk0⟩
      have e3 : Vis cenv.scope y := e3
      rcases e3 with e3 | e3 | e3
      · exact key _ e3 (.inl rfl)
      · exact key _ e3 (.inr (.inl rfl))
      · exact key _ e3 (.inr (.inr rfl))
    obtain ⟨m, hn, hl⟩ := I.loc
    have hvis : Vis X.env.scope y := (ok.free _ (PySem.mem_of_lookup hfr.1) rfl).elim (fun k => .inr (.inl k)) (fun k => .inr (.inr k))
    obtain ⟨w, r, q⟩ := hl i y av e1 e2 hvis
    refine ⟨w, r, .inr ⟨hfr.2, ?_⟩⟩
    obtain ⟨c, h1, h2⟩ := look hfr.1
    rcases q with ⟨k, _⟩ | ⟨_, c', e', z⟩
    · have k : X.env.scope.names.lookup y = some .local := k
      rcases ok.free _ (PySem.mem_of_lookup hfr.1) rfl with k' | k' <;> rw [show X.env.scope.names.lookup y = _ from k'] at k <;> cases k
    · rw [h2] at e'; cases e'
      exact ⟨c, h1, z.keeps kp⟩
  · have e : cenv.cells.lookup y = some c := e
    rcases mem e with ⟨h1, _⟩ | ⟨_, z⟩
    · obtain ⟨w, z⟩ := I.cell y c h1
      exact ⟨w, z.keeps kp⟩
    · exact ⟨_, z⟩
  · show H cenv.locals = none
    rw [hL]; exact I.hok.fresh (Nat.le_refl _)
  · have e : cenv.cells.lookup y = some c := e
    rcases mem e with ⟨h1, _⟩ | ⟨h1, _⟩
    · exact I.freeC y c h1
    · exact I.hok.fresh (Nat.le_of_succ_le h1)
  · exact absurd (show p ∈ ([] : List (Addr × Obj)) ++ [] from hp) (by simp)
theorem app_ok {E : Value → Shared → Prop} {D : Addr} {xs : List V} {y : V} {v : Value} {Q : Value → Shared → Prop} (I : Inv X pins σ H s) (hD : H D = some (.lst xs)) (hz : xs.length < sizeLine) (r : RelV y v)
    (h : ∀ s', Inv X pins σ (upd H D (.lst (xs ++ [y]))) s' → Q .none s') : wpAny (model X.prog X.w) X.A (call (.builtin "list.append") [.ref D, v]) Q E s := by
  obtain ⟨hz', its, n, ri, e⟩ := I.hok D _ hD
  have hl := ri.length
  refine append_at (hsz := by rw [List.size_toArray]; omega) e fun h' sb ho' => ?_
  refine h { s with heap := h' } (I.write (t' := s.toks) (by rw [hD]; trivial) (.inl rfl) (fun b u hb q => (sb.2 b hb).trans q) ⟨_, ho'⟩ ⟨by rw [List.length_append]; exact hz, its ++ [v], n + 1, ri.append (.cons r .nil), ?_⟩)
  rw [ho']
  simp
noncomputable def PTs (X : Cx) (ifs : List Expr) (t : TT) : Prop :=
  ∀ (pins : List (Addr × Obj)) (s : Shared) (σ : St) (H : Hp) (Q : Bool → Hp → Prop), Inv X pins σ H s → t σ H Q →
    wpAny (model X.prog X.w) X.A (forIn ifs true fun c r => if r = true then do let ok ← isTrue c X.env (eval c X.env); pure (ForInStep.yield ok) else pure (ForInStep.yield r)) (TP X pins σ Q) X.xe s
noncomputable def tYes : TT := fun _ H Q => Q true H
theorem pts_nil : PTs X [] tYes := fun _ _ _ H _ I h => wpAny_tests_nil ⟨H, I, h⟩
theorem pts_one {c : Expr} {t : TT} (h : PT X c t) : PTs X [c] t := fun pins s σ H Q I hw => wpAny_tests_one (h pins s σ H Q I hw)
end
theorem thnF {α : Type} {t : Sem α} {Q Q' : α → Shared → Prop} {M : Model} {A : Around} {E : Value → Shared → Prop} {s : Shared} (h : wpAny M A t Q (fun _ _ => False) s) (hQ : ∀ a s, Q a s → Q' a s) : wpAny M A t Q' E s := wpAny_mono h hQ fun _ _ z => False.elim z
theorem compLoop_any {prog : Program} {w : World} {A : Around} {R : Result → Shared → Prop} {s : Shared} {elt target iter : Expr} {ifs : List Expr} {scope : Scope} {pos : Pos} {it acc : Value} {env : Env} (I : Nat → Shared → Prop)
    (turn : ∀ n s, I n s → wpAny (model prog w) A (pyNext it) (fun r s₁ => match r with
      | none => R (.ok .next) s₁
      | some v => wpAny (model prog w) A (letOwnedTupleGo target it v) (fun _ s₁' => wpAny (model prog w) A (assign target env v) (fun _ s₂ =>
          wpAny (model prog w) A (forIn ifs true fun c r => if r = true then do let ok ← isTrue c env (eval c env); pure (ForInStep.yield ok) else pure (ForInStep.yield r)) (fun ok s₃ =>
            if ok = true then wpAny (model prog w) A (eval elt env) (fun x s₄ =>
              wpAny (model prog w) A (call (.builtin "list.append") [acc, x]) (fun _ s₅ => ∃ m, m < n ∧ I m s₅) (notedBy (model prog w) A env fun e s' => R (.error e) s') s₄) (notedBy (model prog w) A env fun e s' => R (.error e) s') s₃
            else ∃ m, m < n ∧ I m s₃) (notedBy (model prog w) A env fun e s' => R (.error e) s') s₂) (notedBy (model prog w) A env fun e s' => R (.error e) s') s₁') (notedBy (model prog w) A env fun e s' => R (.error e) s') s₁) (notedBy (model prog w) A env fun e s' => R (.error e) s') s)
    (n : Nat) (h : I n s) :
    codeAny (model prog w) A (.compLoop (.ListComp elt [⟨target, iter, ifs, 0⟩] scope pos) 0 it acc env) R s := by
  refine codeAny_loop rfl I (fun n s hI => ?_) n h
  show wpAny _ A ((compTurn (.ListComp elt [⟨target, iter, ifs, 0⟩] scope pos) 0 it acc env).onRaise (fun x => do noteFrame x env; theTreesLotGoes x)) _ _ s
  refine wpAny_noted ?_
  rw [compTurn_list]
  refine wpAny_bind (wpAny_standAt (wpAny_bind (wpAny_mono (turn n s hI) (fun r s₁ h₁ => ?_) fun _ _ h' => h')))
  cases r with
  | none => exact wpAny_pure h₁
  | some v =>
    refine wpAny_bind (wpAny_mono h₁ (fun _ s₁' h₁' => ?_) fun _ _ h' => h')
    refine wpAny_bind (wpAny_mono h₁' (fun _ s₂ h₂ => wpAny_bind (wpAny_mono h₂ (fun ok s₃ h₃ => ?_) fun _ _ h' => h')) fun _ _ h' => h')
    cases ok with
    | false => exact wpAny_pure ⟨rfl, h₃⟩
    | true =>
      exact wpAny_bind (wpAny_bind (wpAny_mono h₃ (fun x s₄ h₄ => wpAny_bind (wpAny_mono h₄ (fun _ s₅ h₅ => wpAny_pure (wpAny_pure ⟨rfl, h₅⟩)) fun _ _ h' => h')) fun _ _ h' => h'))
section
variable {X : Cx}
noncomputable def tLc (wi : TI) (g : TG) (tt : TT) (te : TE) (vs : List Nat) : TE := fun σ H Q => wi σ H fun J H1 => ∀ D, H1 D = none → ∃ W : Nat → Nat → Hp → Prop, (∃ m, W 0 m (upd H1 D (.lst []))) ∧ ∀ i m H, W i m H →
  (J.stop i H ∧ Q (.ref D) H) ∨ (J.go i H ∧ ∃ Nx : Hp → Prop, (∀ H', Nx H' → ∃ m', m' < m ∧ W (i + 1) m' H') ∧ ∀ x H', J.yld i H x H' → g x (wipe σ vs) H' fun σ2 H2 => wipe σ2 vs = wipe σ vs ∧ tt σ2 H2 fun b H3 =>
    if b = true then te σ2 H3 fun y H4 => ∃ acc, H4 D = some (.lst acc) ∧ acc.length < sizeLine ∧ Nx (upd H4 D (.lst (acc ++ [y]))) else Nx H3)
theorem lc_core {pins : List (Addr × Obj)} {s : Shared} {σ : St} {H : Hp} {Q : VK} {elt tg iter : Expr} {ifs : List Expr} {scope : Scope} {own : List (Str × Nat)} {pos pos' : Pos} {wi : TI} {g : TG} {tt : TT} {te : TE} {use : Option (Value → Sem Unit)} {Qf : Value → Shared → Prop}
    (hc : X.calm = true) (hN : X.N.Nodup) (I : Inv X pins σ H s) (hi : PI X tg iter wi) (ok : BlkOk X.N X.env.scope scope own)
    (hg : ∀ (s : Shared) (H : Hp) (C : Addr) (cl : List (Str × Addr)) (fp : List Addr), PG (X.blk s H scope (compEnvC scope cl C X.env) fp) tg g) (ht : ∀ (s : Shared) (H : Hp) (C : Addr) (cl : List (Str × Addr)) (fp : List Addr), PTs (X.blk s H scope (compEnvC scope cl C X.env) fp) ifs tt)
    (he : ∀ (s : Shared) (H : Hp) (C : Addr) (cl : List (Str × Addr)) (fp : List Addr), PE (X.blk s H scope (compEnvC scope cl C X.env) fp) elt te) (hs : ∀ x, foldedSetIterable iter X.env x = pure x)
    (h : tLc wi g tt te (own.map (·.2)) σ H Q)
    (hRR : ∀ D C s' m H', Inv X pins σ H' s' → Q (.ref D) H' → s'.heap.Ns C m → FpOk X pins H' C → compPost (model X.prog X.w) X.A X.xe use Qf (.ref D) C (.ok .next) s') :
    wpAny (model X.prog X.w) X.A (comprehension (.ListComp elt [⟨tg, iter, ifs, 0⟩] scope pos) scope X.env pos' (newList []) false (eval iter X.env) use) Qf X.xe s := by
  have hfree : ∀ y ∈ scope.names, y.2 = .free → ∃ c, X.env.cells.lookup y.1 = some c := fun y hy e => by
    rcases ok.free y hy e with k | k
    · exact I.ok.has _ (.inl k)
    · exact I.ok.has _ (.inr k)
  refine wpAny_comprehension_free (use := use) rfl hs (closure_ok hfree) ok.kind (fun y hy e => by rw [ok.uniq y hy, e])
    (thn (hi pins s σ H _ I h) fun xv s1 hx => thn hx fun itv s2 h2 => ?_)
  obtain ⟨it, fp, tn, J, H2, e, I2, T, st2, f2, q⟩ := h2
  subst e
  refine wpAny_newObj_type (newEnv_comp ?_) (by show 0 ≤ sizeLine; decide)
  generalize hD : s2.heap.objs.size = D
  have hDn : H2 D = none := I2.hok.fresh (Nat.le_of_eq hD)
  obtain ⟨W, ⟨m0, w0⟩, turn⟩ := q D hDn
  generalize hs3 : ({ s2 with heap := s2.heap.push { cls := .type "list", data := .seq ([] : List Value).toArray } } : Shared) = s3
  have I3 : Inv X pins σ (upd H2 D (.lst [])) s3 := by
    rw [← hs3]
    refine I2.laid (t' := s2.toks) (fun b o e => Heap.get?_push_of_some _ e) (Nat.le_of_eq hD) ⟨Nat.zero_le _, [], 0, .nil, ?_⟩
    rw [← hD]
    exact Heap.get?_push_size _ rfl
  have h3 : s3.heap = s2.heap.push { cls := .type "list", data := .seq ([] : List Value).toArray } := by rw [← hs3]
  have sz : ∀ b ∈ fp, b < s2.heap.objs.size := fun b hb => by
    obtain ⟨o, e, _⟩ := T.obj _ _ st2 b hb
    exact Heap.lt_size e
  have f3 : ∀ b ∈ fp, FpOk X pins (upd H2 D (.lst [])) b ∧ b < s3.heap.objs.size := fun b hb => by
    have hlt := sz b hb
    refine ⟨⟨?_, (f2 b hb).2⟩, by rw [h3, Heap.size_push]; exact Nat.lt_succ_of_lt hlt⟩
    rw [upd_ne (by rw [← hD]; exact Nat.ne_of_lt hlt)]
    exact (f2 b hb).1
  have st3 : tn 0 s3.heap := T.keep _ _ _ st2 fun b _ o e => by rw [h3]; exact Heap.get?_push_of_some _ e
  have I4 := block_start I3 ok hN f3
  have pg := hg s3 (upd H2 D (.lst [])) s3.heap.objs.size (cellsFrom (s3.heap.objs.size + 1) scope.names (cloFrom X.env.cells scope.names [])) fp
  have pt := ht s3 (upd H2 D (.lst [])) s3.heap.objs.size (cellsFrom (s3.heap.objs.size + 1) scope.names (cloFrom X.env.cells scope.names [])) fp
  have pe := he s3 (upd H2 D (.lst [])) s3.heap.objs.size (cellsFrom (s3.heap.objs.size + 1) scope.names (cloFrom X.env.cells scope.names [])) fp
  show codeAny _ _ (.compStart (.ListComp elt [⟨tg, iter, ifs, 0⟩] scope pos) 0 (.ref it) (.ref D) (compEnvC scope (cellsFrom (s3.heap.objs.size + 1) scope.names (cloFrom X.env.cells scope.names [])) s3.heap.objs.size X.env)) (compPost (model X.prog X.w) X.A X.xe use Qf (.ref D) s3.heap.objs.size) { s3 with heap := pushCells (s3.heap.push { cls := .type "dict", data := .dict #[] }) scope.names }
  have nfp : ∀ b ∈ fp, (upd H2 D (.lst [])) b = none := fun b hb => (f3 b hb).1.1
  generalize hce : compEnvC scope (cellsFrom (s3.heap.objs.size + 1) scope.names (cloFrom X.env.cells scope.names [])) s3.heap.objs.size X.env = ce at I4 pg pt pe ⊢
  have cL : ce.locals = s3.heap.objs.size := by subst hce; rfl
  generalize hH3 : upd H2 D (.lst []) = H3 at I3 I4 pg pt pe w0 nfp f3
  generalize hs4 : ({ s3 with heap := pushCells (s3.heap.push { cls := .type "dict", data := .dict #[] }) scope.names } : Shared) = s4 at I4 ⊢
  have st4 : tn 0 s4.heap := T.keep _ _ _ st3 fun b _ o e => by rw [← hs4]; exact pushCells_keeps _ _ _ _ (Heap.get?_push_of_some _ e)
  have stat : ∀ {σ' : St} {H' : Hp} {s' : Shared}, Inv (X.blk s3 H3 scope ce fp) [] σ' H' s' → (∀ b ∈ fp, H' b = none) → ∀ b ∈ fp, FpOk (X.blk s3 H3 scope ce fp) [] H' b := fun {σ' H' s'} I' hn b hb =>
    ⟨hn b hb, (I'.ok.exf b hb).1, I'.ok.exfs b hb, .inl hb, fun x c e => (I'.ok.exf b hb).2 x c e, fun p hp => absurd (show p ∈ ([] : List (Addr × Obj)) ++ [] from hp) (by simp)⟩
  have loop : codeAny (model X.prog X.w) X.A (.compLoop (.ListComp elt [⟨tg, iter, ifs, 0⟩] scope pos) 0 (.ref it) (.ref D) ce) (compPost (model X.prog X.w) X.A X.xe use Qf (.ref D) s3.heap.objs.size) s4 := by
    refine compLoop_any (fun n s' => ∃ i H', Inv (X.blk s3 H3 scope ce fp) [] (wipe σ (own.map (·.2))) H' s' ∧ tn i s'.heap ∧ (∀ b ∈ fp, H' b = none) ∧ W i n H') ?_ m0 ⟨0, H3, I4, st4, nfp, w0⟩
    rintro n s5 ⟨i, H5, I5, st5, n5, w5⟩
    rcases turn i n H5 w5 with ⟨stop, qq⟩ | ⟨go, Nx, hNx, step⟩
    · have td := T.done (X.blk s3 H3 scope ce fp) rfl rfl rfl hc i [] s5 _ H5 (fun _ _ => False) I5 (stat I5 n5) st5 stop
      refine thnF td fun r s6 ⟨hr, I6⟩ => ?_
      subst hr
      have I7 : Inv X pins σ H5 s6 := I3.call' (ch := fp) I6.os I6.base I6.hok I6.bare fun b hb => ⟨(f3 b hb).1.2.2.2.1, (f3 b hb).1.2.1, (f3 b hb).1.2.2.2.2.1, (f3 b hb).1.2.2.2.2.2⟩
      have nC : H5 s3.heap.objs.size = none := by
        have z : H5 ce.locals = none := I6.free
        rw [cL] at z
        exact z
      obtain ⟨m, hn, _⟩ := I6.loc
      have hn : s6.heap.Ns ce.locals m := hn
      rw [cL] at hn
      exact hRR D s3.heap.objs.size s6 m H5 I7 qq hn (I3.fpOk (Nat.le_refl _) nC)
    · have ti := T.item (X.blk s3 H3 scope ce fp) rfl rfl rfl hc i [] s5 _ H5 (fun _ _ => False) I5 (stat I5 n5) st5 go
      refine thnF ti fun r s6 ⟨u, hr, h6⟩ => ?_
      subst hr
      refine thnF h6 fun _ s7 ⟨x, H7, I7, r7, y7, st7, n7⟩ => ?_
      have I7' := I7.pinned (stat I7 n7) (T.obj _ _ st7)
      refine thnF (pg _ s7 _ H7 x u _ I7' r7 (step x H7 y7)) fun _ s8 ⟨σ8, H8, I8, hw8, q8⟩ => ?_
      refine thnF (pt _ s8 σ8 H8 _ I8 q8) fun b s9 ⟨H9, I9, q9⟩ => ?_
      have fin : ∀ {s' : Shared} {H' : Hp}, Inv (X.blk s3 H3 scope ce fp) ([] ++ pinsAt fp s7.heap) σ8 H' s' → Nx H' → ∃ m, m < n ∧ ∃ i H', Inv (X.blk s3 H3 scope ce fp) [] (wipe σ (own.map (·.2))) H' s' ∧ tn i s'.heap ∧ (∀ b ∈ fp, H' b = none) ∧ W i m H' := fun {s' H'} I' nx => by
        obtain ⟨m', hm, w'⟩ := hNx H' nx
        have pin' : ∀ b ∈ fp, ∀ o, s7.heap.get? b = some o → s'.heap.get? b = some o ∧ H' b = none := fun b hb o e =>
          let z := I'.pin (b, o) (List.mem_append_right _ (List.mem_append_right _ (mem_pinsAt hb e)))
          ⟨z.1, z.2.1⟩
        have hl : (wipe σ (own.map (·.2))).length = σ8.length := by rw [← hw8, wipe_length]
        refine ⟨m', hm, i + 1, H', (I'.unpinned (pins := [])).weak hl (fun j v e => ?_), T.keep _ _ _ st7 fun b hb o e => (pin' b hb o e).1, fun b hb => ?_, w'⟩
        · rw [← hw8] at e
          exact (wipe_some e).1
        · obtain ⟨o, e, _⟩ := T.obj _ _ st7 b hb
          exact (pin' b hb o e).2
      cases b with
      | false =>
        simp only [Bool.false_eq_true, if_false] at q9 ⊢
        exact fin I9 q9
      | true =>
        simp only [if_true] at q9 ⊢
        refine thnF (pe _ s9 σ8 H9 _ I9 q9) fun z s10 ⟨yv, H10, I10, r10, acc, hD10, hz10, nx⟩ => ?_
        exact app_ok (X := X.blk s3 H3 scope ce fp) I10 hD10 hz10 r10 fun s11 I11 => fin I11 nx
  exact codeAny_compStart_list loop (T.self X.A 0 _ _ _ st4 loop)
theorem pe_lc {elt tg iter : Expr} {ifs : List Expr} {scope : Scope} {own : List (Str × Nat)} {pos : Pos} {wi : TI} {g : TG} {tt : TT} {te : TE} (hc : X.calm = true) (hN : X.N.Nodup) (hi : PI X tg iter wi) (ok : BlkOk X.N X.env.scope scope own)
    (hg : ∀ (s : Shared) (H : Hp) (C : Addr) (cl : List (Str × Addr)) (fp : List Addr), PG (X.blk s H scope (compEnvC scope cl C X.env) fp) tg g) (ht : ∀ (s : Shared) (H : Hp) (C : Addr) (cl : List (Str × Addr)) (fp : List Addr), PTs (X.blk s H scope (compEnvC scope cl C X.env) fp) ifs tt)
    (he : ∀ (s : Shared) (H : Hp) (C : Addr) (cl : List (Str × Addr)) (fp : List Addr), PE (X.blk s H scope (compEnvC scope cl C X.env) fp) elt te) (hs : ∀ x, foldedSetIterable iter X.env x = pure x := by intro _; rfl) :
    PE X (.ListComp elt [⟨tg, iter, ifs, 0⟩] scope pos) (tLc wi g tt te (own.map (·.2))) := by
  intro pins s σ H Q I h
  rw [eval_ListComp]
  refine lc_core hc hN I hi ok hg ht he hs h fun D C s' m H' I' q hn f => ⟨m, hn, fun h'' sb => ?_⟩
  obtain ⟨f0, f1, f2, f3, f4, f5⟩ := f
  exact ⟨.ref D, H', I'.turned (t' := s'.toks) (fun b o hb e => (sb.2 b hb).trans e) f0 f1 f3 f4 f5, rfl, q⟩
end
theorem lc_range {lo : Int} {n : Nat} {g : TG} {tt : TT} {te : TE} {vs : List Nat} {σ : St} {H1 : Hp} {D : Addr} {Qd : Hp → Prop} (Pv : Nat → Hp → Prop) (h0 : Pv 0 (upd H1 D (.lst [])))
    (hs : ∀ i H, i < n → Pv i H → g (.int (lo + i)) (wipe σ vs) H fun σ2 H2 => wipe σ2 vs = wipe σ vs ∧ tt σ2 H2 fun b H3 =>
      if b = true then te σ2 H3 fun y H4 => ∃ acc, H4 D = some (.lst acc) ∧ acc.length < sizeLine ∧ Pv (i + 1) (upd H4 D (.lst (acc ++ [y]))) else Pv (i + 1) H3) (hd : ∀ H, Pv n H → Qd H) :
    ∃ W : Nat → Nat → Hp → Prop, (∃ m, W 0 m (upd H1 D (.lst []))) ∧ ∀ i m H, W i m H →
      ((Itr lo n).stop i H ∧ Qd H) ∨ ((Itr lo n).go i H ∧ ∃ Nx : Hp → Prop, (∀ H', Nx H' → ∃ m', m' < m ∧ W (i + 1) m' H') ∧ ∀ x H', (Itr lo n).yld i H x H' → g x (wipe σ vs) H' fun σ2 H2 => wipe σ2 vs = wipe σ vs ∧ tt σ2 H2 fun b H3 =>
        if b = true then te σ2 H3 fun y H4 => ∃ acc, H4 D = some (.lst acc) ∧ acc.length < sizeLine ∧ Nx (upd H4 D (.lst (acc ++ [y]))) else Nx H3) := by
  refine ⟨fun i m H => m = n - i ∧ i ≤ n ∧ Pv i H, ⟨n, by simp, Nat.zero_le _, h0⟩, ?_⟩
  rintro i m H ⟨rfl, hi, p⟩
  by_cases hlt : i < n
  · refine .inr ⟨hlt, Pv (i + 1), fun H' p' => ⟨n - (i + 1), by omega, rfl, hlt, p'⟩, fun x H' y => ?_⟩
    obtain ⟨e, y⟩ := y
    subst e y
    exact hs i _ hlt p
  · have e : i = n := by omega
    subst e
    exact .inl ⟨Nat.le_refl _, hd H p⟩
theorem lc_list {K : PySem.W.Frag} {a : Addr} {xs : List V} {g : TG} {tt : TT} {te : TE} {vs : List Nat} {σ : St} {H1 : Hp} {D : Addr} {Qd : Hp → Prop} (Pv : Nat → Hp → Prop) (h0 : Pv 0 (upd H1 D (.lst []))) (hl : ∀ i H, i ≤ xs.length → Pv i H → SqL K H a xs)
    (hs : ∀ i x H, xs[i]? = some x → Pv i H → g x (wipe σ vs) H fun σ2 H2 => wipe σ2 vs = wipe σ vs ∧ tt σ2 H2 fun b H3 =>
      if b = true then te σ2 H3 fun y H4 => ∃ acc, H4 D = some (.lst acc) ∧ acc.length < sizeLine ∧ Pv (i + 1) (upd H4 D (.lst (acc ++ [y]))) else Pv (i + 1) H3) (hd : ∀ H, Pv xs.length H → Qd H) :
    ∃ W : Nat → Nat → Hp → Prop, (∃ m, W 0 m (upd H1 D (.lst []))) ∧ ∀ i m H, W i m H →
      ((Itl K a).stop i H ∧ Qd H) ∨ ((Itl K a).go i H ∧ ∃ Nx : Hp → Prop, (∀ H', Nx H' → ∃ m', m' < m ∧ W (i + 1) m' H') ∧ ∀ x H', (Itl K a).yld i H x H' → g x (wipe σ vs) H' fun σ2 H2 => wipe σ2 vs = wipe σ vs ∧ tt σ2 H2 fun b H3 =>
        if b = true then te σ2 H3 fun y H4 => ∃ acc, H4 D = some (.lst acc) ∧ acc.length < sizeLine ∧ Nx (upd H4 D (.lst (acc ++ [y]))) else Nx H3) := by
  refine ⟨fun i m H => m = xs.length - i ∧ i ≤ xs.length ∧ Pv i H, ⟨xs.length, by simp, Nat.zero_le _, h0⟩, ?_⟩
  rintro i m H ⟨rfl, hi, p⟩
  have q := hl i H hi p
  by_cases hlt : i < xs.length
  · refine .inr ⟨⟨xs, xs[i], q, by simp [hlt]⟩, Pv (i + 1), fun H' p' => ⟨xs.length - (i + 1), by omega, rfl, hlt, p'⟩, fun x H' y => ?_⟩
    obtain ⟨e, y⟩ := y
    subst e
    exact hs i x _ (y xs q) p
  · have e : i = xs.length := by omega
    subst e
    exact .inl ⟨⟨xs, q, Nat.le_refl _⟩, hd H p⟩
noncomputable def blkC (N : List Str) (sc scope : Scope) (own : List (Str × Nat)) : Bool :=
  (match scope.kind with | .function => true | _ => false) && (scope.names.all fun y => decide (scope.names.lookup y.1 = some y.2)) && (own.all fun p => decide (N[p.2]? = some p.1)) &&
    (scope.names.all fun y => match y.2 with
      | .free => (match sc.names.lookup y.1 with | some .cell => true | some .free => true | _ => false)
      | .local => decide (y.1 ∈ own.map (·.1)) || decide (y.1 ∉ N)
      | .cell => decide (y.1 ∈ own.map (·.1)) || decide (y.1 ∉ N)
      | _ => true)
theorem blkOk_by {N : List Str} {sc scope : Scope} {own : List (Str × Nat)} (h : blkC N sc scope own = true) : BlkOk N sc scope own := by
  unfold blkC at h
  simp only [Bool.and_eq_true, List.all_eq_true, decide_eq_true_eq] at h
  obtain ⟨⟨⟨h1, h2⟩, h3⟩, h4⟩ := h
  refine ⟨?_, h2, h3, fun y hy e => ?_, fun y hy e => ?_⟩
  · split at h1
    · assumption
    · cases h1
  · have q := h4 y hy
    simp only [e] at q
    split at q <;> first | exact .inl (by assumption) | exact .inr (by assumption) | cases q
  · have q := h4 y hy
    rcases e with e | e <;> (simp only [e, Bool.or_eq_true, decide_eq_true_eq] at q; exact q)
end L2
namespace L2
open PySem PySem.Spec PyProof.Rows
section
variable {κ : Type} [DecidableEq κ]
noncomputable def valV (kvs : List (κ × V)) (k : κ) : Option V := (kvs.find? fun kv => decide (kv.1 = k)).map (·.2)
noncomputable def putK (kvs : List (κ × V)) (k : κ) (v : V) : List (κ × V) :=
  if (kvs.any fun kv => decide (kv.1 = k)) = true then kvs.map (fun kv => if kv.1 = k then (kv.1, v) else kv) else kvs ++ [(k, v)]
noncomputable def dropK (kvs : List (κ × V)) (k : κ) : List (κ × V) := kvs.filter fun kv => decide (kv.1 ≠ k)
theorem valV_pos {p : κ × V} {r : List (κ × V)} {k : κ} (e : p.1 = k) : valV (p :: r) k = some p.2 := by simp [valV, List.find?_cons, e]
theorem valV_neg {p : κ × V} {r : List (κ × V)} {k : κ} (e : ¬ p.1 = k) : valV (p :: r) k = valV r k := by simp [valV, List.find?_cons, e]
theorem valV_any (k : κ) : ∀ kvs : List (κ × V), (kvs.any fun kv => decide (kv.1 = k)) = (valV kvs k).isSome
  | [] => rfl
  | p :: r => by
    rw [List.any_cons]
    by_cases e : p.1 = k
    · simp only [valV_pos e, decide_eq_true e, Bool.true_or, Option.isSome_some]
    · rw [valV_neg e, decide_eq_false e, Bool.false_or]; exact valV_any k r
theorem length_putK (kvs : List (κ × V)) (k : κ) (v : V) : (putK kvs k v).length ≤ kvs.length + 1 := by
  unfold putK
  split
  · rw [List.length_map]; omega
  · rw [List.length_append, List.length_cons, List.length_nil]; omega
theorem putK_new {kvs : List (κ × V)} {k : κ} (v : V) (h : valV kvs k = none) : putK kvs k v = kvs ++ [(k, v)] := by
  unfold putK
  rw [valV_any, h]
  exact if_neg (by decide)
theorem RelO.isSome_eq {o : Option V} {u : Option Value} (r : RelO o u) : o.isSome = u.isSome := by
  cases o with
  | none => cases u with
    | none => rfl
    | some _ => exact (show False from r).elim
  | some _ => cases u with
    | none => exact (show False from r).elim
    | some _ => rfl
theorem RelO.getD {o : Option V} {u : Option Value} {d : V} {d' : Value} (r : RelO o u) (rd : RelV d d') : RelV (o.getD d) (u.getD d') := by
  cases o with
  | none => cases u with
    | none => exact rd
    | some _ => exact (show False from r).elim
  | some _ => cases u with
    | none => exact (show False from r).elim
    | some _ => exact r
theorem KV.val {kvs : List (κ × V)} {vs : List (κ × Value)} (r : KV kvs vs) (k : κ) : RelO (valV kvs k) (valueAt vs k) := by
  unfold KV at r
  induction r with
  | nil => exact True.intro
  | @cons p q ps qs h t ih =>
    obtain ⟨h1, h2⟩ := h
    by_cases e : p.1 = k
    · have e' : q.1 = k := h1.symm.trans e
      have b : valueAt (q :: qs) k = some q.2 := by simp [valueAt, List.find?_cons, e']
      rw [valV_pos e, b]; exact h2
    · have e' : ¬ q.1 = k := fun z => e (h1.trans z)
      have b : valueAt (q :: qs) k = valueAt qs k := by simp [valueAt, List.find?_cons, e']
      rw [valV_neg e, b]; exact ih
theorem KV.any {kvs : List (κ × V)} {vs : List (κ × Value)} (r : KV kvs vs) (k : κ) : (kvs.any fun kv => decide (kv.1 = k)) = vs.any fun kv => decide (kv.1 = k) := by
  unfold KV at r
  induction r with
  | nil => rfl
  | cons h t ih => rw [List.any_cons, List.any_cons, ih, h.1]
theorem KV.repl {kvs : List (κ × V)} {vs : List (κ × Value)} (r : KV kvs vs) (k : κ) {y : V} {u : Value} (ry : RelV y u) :
    KV (kvs.map fun kv => if kv.1 = k then (kv.1, y) else kv) (vs.map fun kv => if kv.1 = k then (kv.1, u) else kv) := by
  unfold KV at r ⊢
  induction r with
  | nil => exact .nil
  | @cons p q ps qs h t ih =>
    rw [List.map_cons, List.map_cons]
    refine .cons ?_ ih
    obtain ⟨h1, h2⟩ := h
    by_cases e : p.1 = k
    · rw [if_pos e, if_pos (h1.symm.trans e)]; exact ⟨h1, ry⟩
    · rw [if_neg e, if_neg (fun z => e (h1.trans z))]; exact ⟨h1, h2⟩
theorem KV.put {kvs : List (κ × V)} {vs : List (κ × Value)} (r : KV kvs vs) (k : κ) {y : V} {u : Value} (ry : RelV y u) : KV (putK kvs k y) (stored vs k u) := by
  unfold putK stored
  rw [r.any k]
  by_cases e : (vs.any fun kv => decide (kv.1 = k)) = true
  · rw [if_pos e, if_pos e]; exact r.repl k ry
  · rw [if_neg e, if_neg e]; exact Paired.snoc r ⟨rfl, ry⟩
theorem KV.length {kvs : List (κ × V)} {vs : List (κ × Value)} (r : KV kvs vs) : kvs.length = vs.length := Paired.length r
theorem dropK_le (kvs : List (κ × V)) (k : κ) : (dropK kvs k).length ≤ kvs.length := List.length_filter_le _ _
end
theorem kV_is {P : Program} {w : World} {k : Key} {u : Value} (r : RelV (kV k) u) : (mixKind P w).is k u = true := by
  cases k with
  | inl i => obtain ⟨t, e⟩ := (show ∃ t, u = Value.int i t from r); subst e; exact mixKind_int P w i t
  | inr x => obtain ⟨t, e⟩ := (show ∃ t, u = Value.str x t from r); subst e; exact mixKind_str P w x t
theorem items_are {P : Program} {w : World} : ∀ {ks : List Key} {us : List Value}, Vals (ks.map kV) us → ItemsAre (mixKind P w) ks us
  | [], _, r => by rw [List.map_nil] at r; cases r; exact .nil
  | k :: ks, _, r => by
    rw [List.map_cons] at r
    cases r with
    | cons h t => exact .cons (kV_is h) (items_are t)
noncomputable abbrev KT (H : Hp) : List (List Key × V) → List (List Key × Addr × Value) → Prop := Paired fun p q => p.1 = q.1 ∧ H q.2.1 = some (.tup (p.1.map kV)) ∧ RelV p.2 q.2.2
theorem KT.val {H : Hp} {kvs : List (List Key × V)} {xs : List (List Key × Addr × Value)} (r : KT H kvs xs) (k : List Key) : RelO (valV kvs k) ((atKey xs k).map (·.2)) := by
  induction r with
  | nil => exact True.intro
  | @cons p q ps qs h t ih =>
    obtain ⟨h1, _, h2⟩ := h
    by_cases e : p.1 = k
    · have e' : q.1 = k := h1.symm.trans e
      have b : atKey (q :: qs) k = some q.2 := by simp [atKey, List.find?_cons, e']
      rw [valV_pos e, b]; exact h2
    · have e' : ¬ q.1 = k := fun z => e (h1.trans z)
      have b : atKey (q :: qs) k = atKey qs k := by simp [atKey, List.find?_cons, e']
      rw [valV_neg e, b]; exact ih
theorem KT.repl {H : Hp} {kvs : List (List Key × V)} {xs : List (List Key × Addr × Value)} (r : KT H kvs xs) (k : List Key) {y : V} {u : Value} (ry : RelV y u) :
    KT H (kvs.map fun kv => if kv.1 = k then (kv.1, y) else kv) (xs.map (putAt k u)) := by
  induction r with
  | nil => exact .nil
  | @cons p q ps qs h t ih =>
    rw [List.map_cons, List.map_cons]
    refine .cons ?_ ih
    obtain ⟨h1, h2, h3⟩ := h
    unfold putAt
    by_cases e : p.1 = k
    · rw [if_pos e, if_pos (h1.symm.trans e)]; exact ⟨h1, h2, ry⟩
    · rw [if_neg e, if_neg (fun z => e (h1.trans z))]; exact ⟨h1, h2, h3⟩
theorem KT.put {H : Hp} {kvs : List (List Key × V)} {xs : List (List Key × Addr × Value)} (r : KT H kvs xs) (k : List Key) {b : Addr} {y : V} {u : Value} (hb : H b = some (.tup (k.map kV))) (ry : RelV y u) :
    KT H (putK kvs k y) (storedH xs k b u) := by
  have e : (kvs.any fun kv => decide (kv.1 = k)) = (atKey xs k).isSome := by
    rw [valV_any, (r.val k).isSome_eq, Option.isSome_map]
  unfold putK storedH
  rw [e]
  by_cases q : (atKey xs k).isSome = true
  · rw [if_pos q, if_pos q]; exact r.repl k ry
  · rw [if_neg q, if_neg q]; exact Paired.snoc r ⟨rfl, hb, ry⟩
theorem KT.keeps {H H' : Hp} {kvs : List (List Key × V)} {xs : List (List Key × Addr × Value)} (r : KT H kvs xs) (ht : ∀ b ys, H b = some (.tup ys) → H' b = some (.tup ys)) : KT H' kvs xs :=
  Paired.mapP r fun _ _ z => ⟨z.1, ht _ _ z.2.1, z.2.2⟩
section
variable {P : Program} {w : World} {H : Hp} {h : Heap} {a : Addr}
theorem rd_of {u : HO} (ok : HOk P w H h) (e : Rd H a u) : ObjOk P w H h a u := e.ok ok
theorem dk_rd {kvs : List (Key × V)} (ok : HOk P w H h) (e : Rd H a (.dK kvs)) : kvs.length ≤ sizeLine ∧ (a == sysModules) = false ∧ ∃ vs, KV kvs vs ∧ h.DictOf (mixKind P w) a vs :=
  show ObjOk P w H h a (.dK kvs) from rd_of ok e
theorem dk_of {kvs : List (Key × V)} (ok : HOk P w H h) (e : H a = some (.dK kvs)) : kvs.length ≤ sizeLine ∧ (a == sysModules) = false ∧ ∃ vs, KV kvs vs ∧ h.DictOf (mixKind P w) a vs := dk_rd ok (.inl e)
theorem key_of {ks : List Key} (ok : HOk P w H h) (e : H a = some (.tup (ks.map kV))) : (tupleKind (mixKind P w)).is h ks a := by
  obtain ⟨_, its, r, o, h1, h2, n, h3⟩ := (show ObjOk P w H h a (.tup (ks.map kV)) from ok a _ e)
  exact ⟨o, its.toArray, n, h1, h2, h3, by simpa using items_are r⟩
theorem dt_rd {kvs : List (List Key × V)} (ok : HOk P w H h) (e : Rd H a (.dT kvs)) : kvs.length ≤ sizeLine ∧ (a == sysModules) = false ∧
    ∃ xs, KT H kvs xs ∧ h.DictOfH (tupleKind (mixKind P w)) a xs := by
  obtain ⟨z, y, xs, r, o, es, ep, h1, h2, h3, h4, h5⟩ := (show ObjOk P w H h a (.dT kvs) from rd_of ok e)
  refine ⟨z, y, xs, r, o, es, ep, h1, h2, h3, h4, fun x hx => ?_, h5⟩
  have all : ∀ {l : List (List Key × V)} {m : List (List Key × Addr × Value)}, KT H l m → ∀ x ∈ m, (tupleKind (mixKind P w)).is h x.1 x.2.1 := by
    intro l m q
    induction q with
    | nil => intro x hx; exact nomatch hx
    | @cons p q ps qs hq t ih =>
      intro x hx
      rcases List.mem_cons.mp hx with e | hx
      · subst e
        exact key_of ok (by rw [← hq.1]; exact hq.2.1)
      · exact ih x hx
  exact all r x hx
theorem dt_of {kvs : List (List Key × V)} (ok : HOk P w H h) (e : H a = some (.dT kvs)) : kvs.length ≤ sizeLine ∧ (a == sysModules) = false ∧
    ∃ xs, KT H kvs xs ∧ h.DictOfH (tupleKind (mixKind P w)) a xs := dt_rd ok (.inl e)
end
noncomputable def DGet (H : Hp) (a : Addr) (y : V) (r : Option V) : Prop :=
  (∃ kvs k, Rd H a (.dK kvs) ∧ y = kV k ∧ r = valV kvs k) ∨ ∃ kvs k b, Rd H a (.dT kvs) ∧ y = .ref b ∧ H b = some (.tup (k.map kV)) ∧ r = valV kvs k
noncomputable def DPut (H : Hp) (a : Addr) (y v : V) (H' : Hp) : Prop :=
  (∃ kvs k, H a = some (.dK kvs) ∧ y = kV k ∧ kvs.length < sizeLine ∧ H' = upd H a (.dK (putK kvs k v))) ∨
  ∃ kvs k b, H a = some (.dT kvs) ∧ y = .ref b ∧ H b = some (.tup (k.map kV)) ∧ kvs.length < sizeLine ∧ H' = upd H a (.dT (putK kvs k v))
theorem DGet.t {H : Hp} {a b : Addr} {kvs : List (List Key × V)} {k : List Key} (e : H a = some (.dT kvs)) (eb : H b = some (.tup (k.map kV))) : DGet H a (.ref b) (valV kvs k) := .inr ⟨kvs, k, b, .inl e, rfl, eb, rfl⟩
theorem DPut.t {H : Hp} {a b : Addr} {kvs : List (List Key × V)} {k : List Key} {v : V} (e : H a = some (.dT kvs)) (eb : H b = some (.tup (k.map kV))) (hl : kvs.length < sizeLine) :
    DPut H a (.ref b) v (upd H a (.dT (putK kvs k v))) := .inr ⟨kvs, k, b, e, rfl, eb, hl, rfl⟩
section
variable {X : Cx} {pins : List (Addr × Obj)} {σ : St} {H : Hp} {s : Shared} {a : Addr} {y v : V} {u r : Value} {o : Option V} {A : Around} {E : Value → Shared → Prop}
theorem Inv.big (I : Inv X pins σ H s) : sysModules < s.heap.objs.size := by
  have h : mainGlobals < s.heap.objs.size := (I.mod.glob.keeps I.bk).lt
  exact Nat.lt_trans (by decide) h
theorem d_in {Q : Value → Shared → Prop} (hu : A.units + 1 < cLine) (I : Inv X pins σ H s) (g : DGet H a y o) (ry : RelV y u) (h : ∀ s', Inv X pins σ H s' → Q (.bool o.isSome) s') :
    wpAny (model X.prog X.w) A (compareOp .In u (.ref a)) Q E s := by
  rcases g with ⟨kvs, k, e, ey, l⟩ | ⟨kvs, k, b, e, ey, eb, l⟩
  · subst ey
    obtain ⟨z, hd, vs, rel, dd⟩ := dk_rd I.hok e
    refine wpAny_in_of (kV_is ry) hd dd.mapOf ?_
    rw [← (rel.val k).isSome_eq, ← l]
    exact h _ (I.tok _)
  · subst ey
    cases (show u = Value.ref b from ry)
    obtain ⟨z, hd, xs, rel, dd⟩ := dt_rd I.hok e
    refine wpAny_in_heap (tupleKind_room_in1 hu) (key_of I.hok eb) hd dd ?_
    have q := (rel.val k).isSome_eq
    rw [Option.isSome_map] at q
    rw [← q, ← l]
    exact h _ (I.tok _)
theorem d_write {h' : Heap} {t' : Nat} {ob : HO} (I : Inv X pins σ H s) (mu : Mut (H a)) (hs : Heap.SameBut a s.heap h') (he : ∃ q, h'.get? a = some q) (new : ObjOk X.prog X.w (upd H a ob) h' a ob) :
    Inv X pins σ (upd H a ob) { s with heap := h', toks := t' } :=
  I.write (x := a) (e := a) mu (.inl rfl) (fun b q hb z => (hs.2 b hb).trans z) he new
theorem dk_new {P : Program} {w : World} {H' : Hp} {h' : Heap} {kvs : List (Key × V)} {vs : List (Key × Value)} (z : kvs.length ≤ sizeLine) (hd : (a == sysModules) = false) (rel : KV kvs vs) (dd : h'.DictOf (mixKind P w) a vs) :
    ObjOk P w H' h' a (.dK kvs) := ⟨z, hd, vs, rel, dd⟩
theorem d_setItem {H' : Hp} {Q : Unit → Shared → Prop} (hu : A.units + 1 < cLine) (I : Inv X pins σ H s) (g : DPut H a y v H') (ry : RelV y u) (rv : RelV v r) (h : ∀ s', Inv X pins σ H' s' → Q () s') :
    wpAny (model X.prog X.w) A (setItem (.ref a) u r) Q E s := by
  rcases g with ⟨kvs, k, e, ey, l, eH⟩ | ⟨kvs, k, b, e, ey, eb, l, eH⟩
  · subst ey eH
    obtain ⟨z, hd, vs, rel, dd⟩ := dk_of I.hok e
    have hz : vs.length ≤ sizeLine := by rw [← rel.length]; exact z
    have hl : (putK kvs k v).length ≤ sizeLine := by have := length_putK kvs k v; omega
    refine wpAny_setItem_pairs (hsz := hz) (kV_is ry) dd fun h' dd' hs => h _ ?_
    have he : ∃ q, h'.get? a = some q := let ⟨q, _, _, hq, _⟩ := dd'; ⟨q, hq⟩
    exact d_write I (by rw [e]; exact True.intro) hs he (dk_new hl hd (rel.put k rv) dd')
  · subst ey eH
    cases (show u = Value.ref b from ry)
    obtain ⟨z, hd, xs, rel, dd⟩ := dt_of I.hok e
    have hz : xs.length ≤ sizeLine := by rw [← Paired.length rel]; exact z
    have hl : (putK kvs k v).length ≤ sizeLine := by have := length_putK kvs k v; omega
    refine wpAny_setItem_heap (hsz := hz) (tupleKind_room_in1 hu) (key_of I.hok eb) dd fun h' dd' hs => h _ ?_
    obtain ⟨q, es, ep, hq, h2, h3, h4, _, h5⟩ := dd'
    refine d_write I (by rw [e]; exact True.intro) hs ⟨q, hq⟩ ⟨hl, hd, _, (rel.put k eb rv).keeps fun c ys ec => ?_, q, es, ep, hq, h2, h3, h4, h5⟩
    rw [upd_ne (ne_of ec e (fun z => nomatch z))]
    exact ec
end
noncomputable def tDIn (ty td : TE) : TE := fun σ H Q => ty σ H fun y H1 => td σ H1 fun x H2 => ∃ a o, x = .ref a ∧ DGet H2 a y o ∧ Q (.bl o.isSome) H2
noncomputable def sDPut (td ty tv : TE) : TS := fun D σ H => tv σ H fun v H1 => td σ H1 fun x H2 => ty σ H2 fun y H3 => ∃ a H4, x = .ref a ∧ DPut H3 a y v H4 ∧ D.nx σ H4
section
variable {X : Cx} {o i e value : Expr} {pos pos' tpos : Pos} {td ty tv : TE}
theorem pc_din (hu : X.A.units + 1 < cLine) (hi : PE X i ty) (ho : PE X o td) : PC X .In i o (tDIn ty td) := by
  intro pins s σ H Q I h
  refine thn (hi pins s σ H _ I h) fun iv s1 ⟨y, H1, I1, ry, q1⟩ => thn (ho pins s1 σ H1 _ I1 q1) fun u s2 ⟨x, H2, I2, rx, a, ov, ex, g, q2⟩ => ?_
  subst ex
  obtain rfl : u = Value.ref a := rx
  exact d_in hu I2 g ry fun s3 I3 => ⟨.bl ov.isSome, H2, I3, rfl, q2⟩
theorem ps_dput (hu : X.A.units + 1 < cLine) (ho : PE X o td) (hi : PE X i ty) (hv : PE X value tv) (hs : swapsWith value (some (.Subscript o i pos')) pos.line X.env = pure false) :
    PS X (.Assign [.Subscript o i pos'] value pos) (sDPut td ty tv) := by
  intro pins s σ H D I h
  refine wpAny_Assign_Subscript (thn (hv pins s σ H _ I h) fun r s1 ⟨v, H1, I1, rv, q1⟩ => thn (ho pins s1 σ H1 _ I1 q1) fun u s2 ⟨x, H2, I2, rx, q2⟩ => thn (hi pins s2 σ H2 _ I2 q2) fun iv s3 ⟨y, H3, I3, ry, a, H4, ex, g, q3⟩ => ?_) hs
  subst ex
  obtain rfl : u = Value.ref a := rx
  exact d_setItem hu I3 g ry rv fun s4 I4 => ⟨σ, H4, I4, q3⟩
end
theorem dt_empty {P : Program} {w : World} {H : Hp} (h : Heap) (hb : sysModules < h.objs.size) : ObjOk P w H (h.push { cls := .type "dict", data := .dict #[] }) h.objs.size (.dT []) :=
  ⟨Nat.zero_le _, beq_eq_false_iff_ne.mpr (Ne.symm (Nat.ne_of_lt hb)), [], .nil, _, #[], 0, Heap.get?_push_size _ rfl, ⟨rfl, rfl, rfl⟩, rfl, rfl, List.nodup_nil⟩
noncomputable def tDNewT : TE := fun _ H Q => ∀ p, H p = none → Q (.ref p) (upd H p (.dT []))
section
variable {X : Cx} {pos : Pos}
theorem pe_dnewT : PE X (.Dict [] [] pos) tDNewT := fun pins s σ H Q I h =>
  wpAny_Dict_empty ⟨.ref s.heap.objs.size, _, I.laid (a := s.heap.objs.size) (o := .dT []) (t' := s.toks) (fun _ _ q => Heap.get?_push_of_some _ q) (Nat.le_refl _) (dt_empty s.heap I.big), rfl, h _ (I.hok.fresh (Nat.le_refl _))⟩
end
structure M1 (X : Cx) (o : Expr) (m : Str) (apos : Pos) (e : Expr) (cpos : Pos) : Prop where
  base : attributeBase o m X.env (eval o X.env) = eval o X.env
  few : ((backTo cpos (starEach [e] X.env)).all (fun x => !x.1) && (backToKw cpos (keywordEach [] X.env)).all (fun x => x.1.isSome)
    && decide (([e] : List Expr).length + ([] : List Keyword).length + (if ([] : List Keyword).isEmpty then 0 else 1) < 30)) = true
  line : (apos.endLine == cpos.line) = true
  trees : backTo cpos (starEach [e] X.env) = [(false, eval e X.env)]
noncomputable def IsD (H : Hp) (a : Addr) : Prop := (∃ kvs, Rd H a (.dK kvs)) ∨ ∃ kvs, Rd H a (.dT kvs)
theorem isD_at {X : Cx} {pins : List (Addr × Obj)} {σ : St} {H : Hp} {s : Shared} {a : Addr} (I : Inv X pins σ H s) (d : IsD H a) :
    s.TypeIs (.ref a) "dict" ∧ (∀ b, Value.ref a = .ref b → ∃ ob, s.heap.get? b = some ob ∧ ob.dict = none) ∧ (a == sysModules) = false := by
  rcases d with ⟨kvs, e⟩ | ⟨kvs, e⟩
  · obtain ⟨_, hd, vs, _, dd⟩ := dk_rd I.hok e
    refine ⟨dd.typeIs, fun b q => ?_, hd⟩
    cases q
    obtain ⟨ob, _, _, h1, h2, _⟩ := dd
    exact ⟨ob, h1, h2.2.1⟩
  · obtain ⟨_, hd, xs, _, dd⟩ := dt_rd I.hok e
    refine ⟨dd.typeIs, fun b q => ?_, hd⟩
    cases q
    obtain ⟨ob, _, _, h1, h2, _⟩ := dd
    exact ⟨ob, h1, h2.2.1⟩
section
variable {X : Cx} {pins : List (Addr × Obj)} {σ : St} {H : Hp} {s : Shared} {a : Addr} {y d : V} {u r : Value} {o : Option V} {A : Around} {E : Value → Shared → Prop}
theorem d_get1 {Q : Value → Shared → Prop} (hu : A.units + 1 < cLine) (I : Inv X pins σ H s) (g : DGet H a y o) (ry : RelV y u) (h : ∀ w' s', Inv X pins σ H s' → RelV (o.getD .non) w' → Q w' s') :
    wpAny (model X.prog X.w) A (call (.builtin "dict.get") [.ref a, u]) Q E s := by
  rcases g with ⟨kvs, k, e, ey, l⟩ | ⟨kvs, k, b, e, ey, eb, l⟩
  · subst ey
    obtain ⟨z, hd, vs, rel, dd⟩ := dk_rd I.hok e
    refine call_meetsIn PySem.F.slot_dict_get dd.typeIs PySem.F.entry_dict_get (PySem.F.args_dict_get_2 _ _) (meets_dict_get (mixKind X.prog X.w) a (kV_is ry) hd) ⟨_, dd.mapOf, h _ _ (I.tok _) ?_⟩
    rw [l]
    exact (rel.val k).getD rfl
  · subst ey
    cases (show u = Value.ref b from ry)
    obtain ⟨z, hd, xs, rel, dd⟩ := dt_rd I.hok e
    refine call_meetsIn PySem.F.slot_dict_get dd.typeIs PySem.F.entry_dict_get (PySem.F.args_dict_get_2 _ _) (meetsH_dict_get (tupleKind (mixKind X.prog X.w)) a b hd) ⟨tupleKind_room_in1 hu, k, xs, key_of I.hok eb, dd, h _ _ (I.tok _) ?_⟩
    rw [l]
    exact (rel.val k).getD rfl
end
noncomputable def tDGet1 (td ty : TE) : TE := fun σ H Q => td σ H fun x H1 => ∃ a, x = .ref a ∧ IsD H1 a ∧ ty σ H1 fun y H2 => ∃ o, DGet H2 a y o ∧ Q (o.getD .non) H2
section
variable {X : Cx} {o e f : Expr} {apos cpos : Pos} {td ty tx : TE}
theorem pe_dget1 (hu : X.A.units + 1 < cLine) (ho : PE X o td) (he : PE X e ty) (m : M1 X o "get" apos e cpos) : PE X (.Call (.Attribute o "get" apos) [e] [] cpos) (tDGet1 td ty) := by
  intro pins s σ H Q I h
  refine wpAny_Call_method m.base m.few m.line PySem.F.plainAttrs_dict PySem.F.slot_dict_get PySem.F.type_dict_get (thn (ho pins s σ H _ I h) fun u s1 ⟨x, H1, I1, rx, a, ex, d, q1⟩ => ?_)
  subst ex
  obtain rfl : u = Value.ref a := rx
  obtain ⟨t1, t2, _⟩ := isD_at I1 d
  refine ⟨t1, t2, ?_⟩
  rw [m.trees]
  refine Calls.callWith_builtin rfl (Calls.evalArgs_plain (Calls.spliced_cons (thn (he pins s1 σ H1 _ I1 q1) fun iv s2 ⟨y, H2, I2, ry, ov, g, q2⟩ => Calls.spliced_nil ?_)))
  exact d_get1 hu I2 g ry fun w' s3 I3 rw' => ⟨_, H2, I3, rw', q2⟩
end
end L2
namespace L2
open PySem PySem.Spec PyProof.Rows
section
variable {X : Cx} {pins : List (Addr × Obj)} {σ : St} {H : Hp} {s : Shared} {h' : Heap}
theorem Inv.turnedL {t' : Nat} {ch : List Addr} (I : Inv X pins σ H s) (k : ∀ b o, b ∉ ch → s.heap.get? b = some o → h'.get? b = some o) (hf : ∀ b ∈ ch, FpOk X pins H b) : Inv X pins σ H { s with heap := h', toks := t' } := by
  have nit : ∀ b u, H b = some u → b ∉ ch := fun b u e z => by
    have q := (hf b z).1
    rw [q] at e; cases e
  refine I.step (g' := s.gens) (d' := s.drawn) (ch := ch) (fun b hb => ⟨(hf b hb).2.2.2.1, (hf b hb).2.1, (hf b hb).2.2.2.2.1, (hf b hb).2.2.2.2.2⟩) (fun b o _ _ hc e _ => k b o hc e) (fun b o _ _ hc e _ => ⟨o.slots, k b o hc e⟩)
    (fun _ _ _ _ n => n) (fun b o hc e => ⟨o, k b o hc e⟩) (fun _ _ e => e) (fun _ _ _ e => e) (fun b ps e => ⟨#[], by rw [e]; simp⟩) (fun m hm => ?_) (fun b u e => ?_) I.bare
  · obtain ⟨o, es, ep, ho, r⟩ := hm
    exact ⟨o, es, ep, k _ o (fun z => (hf _ z).2.1 rfl) ho, r⟩
  · refine (I.hok b u e).stay (fun c v hc q => k c v ?_ q) (fun _ q => q) fun _ _ q => q
    rcases hc with z | z
    · rw [z]; exact nit b u e
    · exact nit c _ z
theorem Inv.turnedNew {t' : Nat} {ch : List Addr} {T : Addr} {ob : HO} (I : Inv X pins σ H s) (k : ∀ b o, b ∉ ch → s.heap.get? b = some o → h'.get? b = some o) (hf : ∀ b ∈ ch, FpOk X pins H b) (hT : s.heap.objs.size ≤ T)
    (new : ObjOk X.prog X.w (upd H T ob) h' T ob) : Inv X pins σ (upd H T ob) { s with heap := h', toks := t' } := by
  have hn : H T = none := I.hok.fresh hT
  have nit : ∀ b u, H b = some u → b ∉ ch := fun b u e z => by
    have q := (hf b z).1
    rw [q] at e; cases e
  refine I.step (g' := s.gens) (d' := s.drawn) (ch := ch) (fun b hb => ⟨(hf b hb).2.2.2.1, (hf b hb).2.1, (hf b hb).2.2.2.2.1, (hf b hb).2.2.2.2.2⟩) (fun b o _ _ hc e _ => k b o hc e) (fun b o _ _ hc e _ => ⟨o.slots, k b o hc e⟩)
    (fun b o _ e n => ?_) (fun b o hc e => ⟨o, k b o hc e⟩) (fun b xs e => ?_) (fun b o u e => ?_) (fun b ps e => ⟨#[], ?_⟩) (fun m hm => ?_) (fun b u e => ?_) I.bare
  · rw [upd_ne (Nat.ne_of_lt (Nat.lt_of_lt_of_le (Heap.lt_size e) hT))]; exact n
  · rw [upd_ne (ne_of_none e hn)]; exact e
  · rw [upd_ne (ne_of_none e hn)]; exact e
  · rw [upd_ne (ne_of_none e hn), e]; simp
  · obtain ⟨o, es, ep, ho, r⟩ := hm
    exact ⟨o, es, ep, k _ o (fun z => (hf _ z).2.1 rfl) ho, r⟩
  · by_cases hb : b = T
    · subst hb
      rw [upd_same] at e
      cases e
      exact new
    · rw [upd_ne hb] at e
      refine (I.hok b u e).stay (fun c v hc q => k c v ?_ q) (fun c q => by rw [upd_ne (ne_of_none q hn)]; exact q) fun c xs q => by rw [upd_ne (ne_of_none q hn)]; exact q
      rcases hc with z | z
      · rw [z]; exact nit b u e
      · exact nit c _ z
end
section
variable {X : Cx}
theorem pi_one {tg : Expr} {pins : List (Addr × Obj)} {σ : St} {H : Hp} {s : Shared} {R : It → Hp → Prop} {J : It} {tn : Nat → Heap → Prop} {tk : Nat} (I : Inv X pins σ H s) (o : Obj)
    (T : Turn X.prog X.w X.K tg J [s.heap.objs.size] s.heap.objs.size tn) (st : tn 0 (s.heap.push o)) (q : R J H) : PIE X pins σ tg R (.ref s.heap.objs.size) { s with heap := s.heap.push o, toks := tk } := by
  refine ⟨s.heap.objs.size, [s.heap.objs.size], tn, J, H, rfl, I.kept fun b ob e => Heap.get?_push_of_some _ e, T, st, fun b hb => ?_, q⟩
  have e : b = s.heap.objs.size := by simpa using hb
  subst e
  exact I.fpOk (Nat.le_refl _) (I.hok.fresh (Nat.le_refl _))
end
noncomputable def Itc (lo c : Int) (n : Nat) : It := ⟨fun i _ => i < n, fun i H x H' => H' = H ∧ x = .int (lo + (i : Nat) * c), fun i _ => n ≤ i⟩
theorem turn_rangeC {P : Program} {w : World} {K : PySem.W.Frag} {tg : Expr} (it : Addr) (lo c : Int) (n : Nat) : Turn P w K tg (Itc lo c n) [it] it (fun i h => IsRangeIter h it (lo + (i : Nat) * c) ((n : Int) - (i : Nat)) c) where
  mem := by simp
  obj := fun i h st b hb => by
    have e : b = it := by simpa using hb
    subst e
    exact ⟨_, st, fun v z => nomatch z⟩
  keep := fun i h h' st k => k it (by simp) _ st
  item := by
    intro X hP hw hK hc i pins s σ H E I hf st hg
    subst hP hw hK
    obtain ⟨f0, f1, f2, f3, f4, f5⟩ := hf it (by simp)
    have W := Walks.range (prog := X.prog) (w := X.w) (I.ok.hd hc) it lo c n
    refine W.item i s _ _ hg st fun v h' tk hv st' kk => ?_
    obtain ⟨t, rfl⟩ := hv
    have I1 : Inv X pins σ H { s with heap := h', toks := tk } := I.turned (fun b o hb e => kk b o (by simpa using hb) e) f0 f1 f3 f4 f5
    exact ⟨_, rfl, go_of (s := { s with heap := h', toks := tk }) (n := "range_iterator") st' rfl rfl (by decide) ⟨.int (lo + (i : Nat) * c), H, I1, ⟨t, rfl⟩, ⟨rfl, rfl⟩, st', fun b hb => (hf b hb).1⟩⟩
  done := by
    intro X hP hw hK hc i pins s σ H E I hf st hg
    subst hP hw hK
    obtain ⟨f0, f1, f2, f3, f4, f5⟩ := hf it (by simp)
    exact wpAny_pyNext_range_end (I.ok.hd hc) st (by have : n ≤ i := hg; omega) fun h' eb => ⟨rfl, I.turned (t' := s.toks) (fun b o hb e => eb b o hb e) f0 f1 f3 f4 f5⟩
  self := fun A i s Q E st h => wpAny_pyIter_rangeiter st h
noncomputable def RgC (i j c : Int) (n : Nat) : Prop := c ≠ 0 ∧ c.natAbs < 1073741824 ∧ Builtin.Range.small i j c = true ∧ Builtin.Range.rangeSize i j c = n
noncomputable def iRng3 (ta : TA) : TI := fun σ H R => ta σ H fun vs H1 => ∃ (i j c : Int) (n : Nat), vs = [.int i, .int j, .int c] ∧ RgC i j c n ∧ R (Itc i c n) H1
section
variable {X : Cx} {tg : Expr}
theorem pi_range3 {a b c : Expr} {ta : TA} {p pos : Pos} (hg : Gl X "range") (hm : X.mg "range" = none) (ha : PA X [a, b, c] ta)
    (hs : starEach [a, b, c] X.env = (false, eval a X.env) :: starEach [b, c] X.env := by rfl) (hpl : (backTo pos (starEach [b, c] X.env)).any (·.1) = false := by rfl) :
    PI X tg (.Call (.Name "range" p) [a, b, c] [] pos) (iRng3 ta) := by
  intro pins s σ H R I h
  refine Call_ (ld_blt I hg hm boot_range (PyProof.Rows.callWith_type1 (thn (ha pos pins s σ H _ I h) fun us s1 ⟨vs, H1, I1, r1, q1⟩ => ?_) hs hpl))
  obtain ⟨i, j, k, n, e, ⟨c0, c1, c2, c3⟩, q⟩ := q1
  subst e
  cases r1 with
  | cons r rr =>
    cases rr with
    | cons r' rr =>
      cases rr with
      | cons r'' rr =>
        cases rr
        obtain ⟨t, rfl⟩ := r
        obtain ⟨t', rfl⟩ := r'
        obtain ⟨t'', rfl⟩ := r''
        refine call_range_3 c0 ?_ (.inl (PyProof.noPylong_small c1))
        refine wpAny_pyIter_range (IsRange.new ..) c2 ?_
        have I2 : Inv X pins σ H1 { s1 with heap := s1.heap.push { cls := .type "range", data := .fields #[.int i t, .int j t', .int k t''] } } := I1.kept (t' := s1.toks) fun b o e => Heap.get?_push_of_some _ e
        refine pi_one (tk := s1.toks) I2 _ (turn_rangeC _ i k n) ?_ q
        have e1 : i + ((0 : Nat) : Int) * k = i := by simp
        have e2 : (n : Int) - ((0 : Nat) : Int) = Builtin.Range.rangeSize i j k := by rw [c3]; simp
        show IsRangeIter _ _ (i + ((0 : Nat) : Int) * k) ((n : Int) - ((0 : Nat) : Int)) k
        rw [e1, e2]
        exact Heap.get?_push_size _ rfl
end
theorem boot_zip5 : bootBuiltins "zip" = some (.type "zip") := by decide +kernel
noncomputable def Itz (K : PySem.W.Frag) (a b : Addr) : It :=
  ⟨fun i H => ∃ (xs ys : List V) (x y : V), SqL K H a xs ∧ SqL K H b ys ∧ xs[i]? = some x ∧ ys[i]? = some y,
    fun i H v H' => ∃ T x y, v = .ref T ∧ H T = none ∧ H' = upd H T (.tup [x, y]) ∧ (∀ xs, SqL K H a xs → xs[i]? = some x) ∧ ∀ ys, SqL K H b ys → ys[i]? = some y,
    fun i H => ∃ xs ys : List V, SqL K H a xs ∧ SqL K H b ys ∧ (xs.length ≤ i ∨ ys.length ≤ i)⟩
theorem turn_zip {P : Program} {w : World} {K : PySem.W.Frag} {elts : List Expr} {kk : Nat} {tpos : Pos} {a b z TI TO i1 i2 : Addr} (D : ZipApart z TI TO i1 i2 a b) :
    Turn P w K (.Tuple elts kk tpos) (Itz K a b) [z, TI, TO, i1, i2] z (fun i h => IsZip h z TI TO .none ∧ IsPair h TI (.ref i1) (.ref i2) ∧ (∃ x y, IsPair h TO x y) ∧ h.IsListIter i1 a i ∧ h.IsListIter i2 b i) where
  mem := by simp
  obj := fun i h st c hc => by
    obtain ⟨hz, hTI, ⟨x, y, hTO⟩, ⟨o1, e1, _, d1⟩, ⟨o2, e2, _, d2⟩⟩ := st
    have e' : c = z ∨ c = TI ∨ c = TO ∨ c = i1 ∨ c = i2 := by simpa using hc
    rcases e' with q | q | q | q | q
    · rw [q]; exact ⟨_, hz, fun v q => nomatch q⟩
    · rw [q]; exact ⟨_, hTI, fun v q => nomatch q⟩
    · rw [q]; exact ⟨_, hTO, fun v q => nomatch q⟩
    · rw [q]; exact ⟨o1, e1, fun v q => by rw [d1] at q; cases q⟩
    · rw [q]; exact ⟨o2, e2, fun v q => by rw [d2] at q; cases q⟩
  keep := fun i h h' st k => by
    obtain ⟨hz, hTI, ⟨x, y, hTO⟩, h1, h2⟩ := st
    exact ⟨k z (by simp) _ hz, k TI (by simp) _ hTI, ⟨x, y, k TO (by simp) _ hTO⟩, h1.at fun o q => k i1 (by simp) o q, h2.at fun o q => k i2 (by simp) o q⟩
  item := by
    intro X hP hw hK hc i pins s σ H E I hf st hg
    subst hP hw hK
    obtain ⟨hz, hTI, ⟨x0, y0, hTO⟩, h1, h2⟩ := st
    obtain ⟨xs, ys, x, y, hqx, hqy, hx, hy⟩ := hg
    obtain ⟨its, rv, p, _⟩ := I.list hqx
    obtain ⟨its2, rv2, p2, _⟩ := I.list hqy
    obtain ⟨u, hu, ru⟩ := rv.get hx
    obtain ⟨u2, hu2, ru2⟩ := rv2.get hy
    have hzl : z < s.heap.objs.size := Heap.lt_size hz
    refine wpAny_pyNext_zip_item D hz hTI hTO h1 h2 p.isList p2.isList (x := u) (y := u2) (by simpa using hu) (by simpa using hu2) fun h' z' TO' h1' h2' hT hsz hk => ?_
    refine ⟨_, rfl, wpAny_letOwnedTupleGo_zip (s := { s with heap := h' }) z' fun h'' z'' sb => ?_⟩
    have hT2 : h''.get? s.heap.objs.size = some { cls := .type "tuple", data := .seq #[u, u2] } := (sb.2 _ (Nat.ne_of_gt hzl)).trans hT
    have new : ObjOk X.prog X.w (upd H s.heap.objs.size (.tup [x, y])) h'' s.heap.objs.size (.tup [x, y]) :=
      ⟨by show 2 ≤ sizeLine; decide, [u, u2], .cons ru (.cons ru2 .nil), ⟨_, hT2, rfl, _, rfl⟩⟩
    have I1 : Inv X pins σ (upd H s.heap.objs.size (.tup [x, y])) { s with heap := h'' } :=
      I.turnedNew (t' := s.toks) (ch := [z, TI, TO, i1, i2]) (fun c o hb q => (sb.2 c (fun q' => hb (by simp [q']))).trans (hk c o (fun q' => hb (by simp [q'])) (fun q' => hb (by simp [q'])) (fun q' => hb (by simp [q'])) (fun q' => hb (by simp [q'])) q)) hf (Nat.le_refl _) new
    refine ⟨.ref s.heap.objs.size, _, I1, rfl, ⟨_, x, y, rfl, I.hok.fresh (Nat.le_refl _), rfl, fun l hl => by rw [I.list_inj hl hqx]; exact hx, fun l hl => by rw [I.list_inj hl hqy]; exact hy⟩, ⟨z'', ?_, ⟨u, u2, ?_⟩, ?_, ?_⟩, fun c hcm => ?_⟩
    · exact (sb.2 _ D.TIz).trans (hk _ _ D.TIz D.TITO D.TIi1 D.TIi2 hTI)
    · exact (sb.2 _ D.TOz).trans TO'
    · exact h1'.at fun o q => (sb.2 _ D.i1z).trans q
    · exact h2'.at fun o q => (sb.2 _ D.i2z).trans q
    · have hlt : c < s.heap.objs.size := by
        have e' : c = z ∨ c = TI ∨ c = TO ∨ c = i1 ∨ c = i2 := by simpa using hcm
        rcases e' with q | q | q | q | q
        · rw [q]; exact hzl
        · rw [q]; exact Heap.lt_size hTI
        · rw [q]; exact Heap.lt_size hTO
        · rw [q]; obtain ⟨_, e1, _⟩ := h1; exact Heap.lt_size e1
        · rw [q]; obtain ⟨_, e2, _⟩ := h2; exact Heap.lt_size e2
      rw [upd_ne (Nat.ne_of_lt hlt)]
      exact (hf c hcm).1
  done := by
    intro X hP hw hK hc i pins s σ H E I hf st hg
    subst hP hw hK
    obtain ⟨hz, hTI, ⟨x0, y0, hTO⟩, h1, h2⟩ := st
    obtain ⟨xs, ys, hqx, hqy, hend⟩ := hg
    obtain ⟨its, rv, p, _⟩ := I.list hqx
    obtain ⟨its2, rv2, p2, _⟩ := I.list hqy
    have l1 := rv.length
    have l2 := rv2.length
    have he : its.toArray[i]? = none ∨ its2.toArray[i]? = none := by
      rcases hend with q | q
      · exact .inl (by simp; omega)
      · exact .inr (by simp; omega)
    exact wpAny_pyNext_zip_end (I.ok.hd hc) D hz hTI hTO h1 h2 p.isList p2.isList he fun h' hk => ⟨rfl, I.turnedL (t' := s.toks) (ch := [z, TI, TO, i1, i2]) (fun c o hb q =>
      hk c o (fun q' => hb (by simp [q'])) (fun q' => hb (by simp [q'])) (fun q' => hb (by simp [q'])) (fun q' => hb (by simp [q'])) q) hf⟩
  self := fun A i s Q E st h => wpAny_pyIter_zip st.1 h
noncomputable def iZip (K : PySem.W.Frag) (ta : TA) : TI := fun σ H R => ta σ H fun vs H1 => ∃ a b xs ys, vs = [.ref a, .ref b] ∧ SqL K H1 a xs ∧ SqL K H1 b ys ∧ R (Itz K a b) H1
theorem pi_zip {X : Cx} {e e2 : Expr} {ta : TA} {p pos tpos : Pos} {elts : List Expr} {kk : Nat} (hg : Gl X "zip") (hm : X.mg "zip" = none) (ha : PA X [e, e2] ta)
    (hs : starEach [e, e2] X.env = (false, eval e X.env) :: starEach [e2] X.env := by rfl) (hpl : (backTo pos (starEach [e2] X.env)).any (·.1) = false := by rfl) :
    PI X (.Tuple elts kk tpos) (.Call (.Name "zip" p) [e, e2] [] pos) (iZip X.K ta) := by
  intro pins s σ H R I h
  refine Call_ (ld_blt I hg hm boot_zip5 (PyProof.Rows.callWith_type1 (thn (ha pos pins s σ H _ I h) fun us s1 ⟨vs, H1, I1, r1, q1⟩ => ?_) hs hpl))
  obtain ⟨a, b, xs, ys, ex, hqx, hqy, q⟩ := q1
  subst ex
  cases r1 with
  | cons r rr =>
    cases rr with
    | cons r' rr =>
      cases rr
      cases r
      cases r'
      obtain ⟨its, rv, p1, _⟩ := I1.list hqx
      obtain ⟨its2, rv2, p2, _⟩ := I1.list hqy
      have la : a < s1.heap.objs.size := p1.lt
      have lb : b < s1.heap.objs.size := p2.lt
      refine call_zip_2 p1.isList p2.isList fun h' hz hTI hTO h1 h2 hsz hk => wpAny_pyIter_zip hz ?_
      have I2 : Inv X pins σ H1 { s1 with heap := h' } := I1.kept (t' := s1.toks) hk
      refine ⟨s1.heap.objs.size + 4, [s1.heap.objs.size + 4, s1.heap.objs.size + 2, s1.heap.objs.size + 3, s1.heap.objs.size, s1.heap.objs.size + 1], _, _, H1, rfl, I2, turn_zip (PySem.W.ktu_apart s1.heap.objs.size a b la lb), ⟨hz, hTI, ⟨_, _, hTO⟩, h1, h2⟩, fun c hcm => ?_, q⟩
      have e' : c = s1.heap.objs.size + 4 ∨ c = s1.heap.objs.size + 2 ∨ c = s1.heap.objs.size + 3 ∨ c = s1.heap.objs.size ∨ c = s1.heap.objs.size + 1 := by simpa using hcm
      have hle : s1.heap.objs.size ≤ c := by
        rcases e' with z | z | z | z | z
        · rw [z]; exact Nat.le_add_right _ _
        · rw [z]; exact Nat.le_add_right _ _
        · rw [z]; exact Nat.le_add_right _ _
        · rw [z]; exact Nat.le_refl _
        · rw [z]; exact Nat.le_add_right _ _
      exact I1.fpOk hle (I1.hok.fresh hle)
end L2
section 
namespace TL
open PySem PySem.Builtin PySem.Builtin.Str PySem.StrLaws
end TL
end 
namespace L2
open PySem PySem.Spec PyProof.Rows
noncomputable abbrev KOf {K : PySem.W.Frag} {h : Heap} (_ : K.In h) : PySem.W.Frag := K
end L2
namespace L2
open PySem PySem.Spec PyProof.Rows
noncomputable def inClass (s : Stmt) (j : Nat) : Stmt := match s with
  | .ClassDef _ _ _ body _ _ _ _ _ _ _ => body.getD j (.Pass ⟨0, 0, 0, 0⟩)
  | _ => .Pass ⟨0, 0, 0, 0⟩
noncomputable def defArgs (s : Stmt) : Arguments := match s with
  | .FunctionDef _ a _ _ _ _ _ _ _ _ => a
  | _ => { posonlyargs := [], args := [], vararg := none, kwonlyargs := [], kw_defaults := [], kwarg := none, defaults := [] }
noncomputable def defBody (s : Stmt) : List Stmt := match s with
  | .FunctionDef _ _ b _ _ _ _ _ _ _ => b
  | _ => []
noncomputable def defScope (s : Stmt) : Scope := match s with
  | .FunctionDef _ _ _ _ _ _ sc _ _ _ => sc
  | _ => { kind := .function, names := [], isGenerator := false, isCoroutine := false }
noncomputable abbrev CX0 : CXT := fun _ _ _ _ _ _ => False
noncomputable abbrev E0 : XK := fun _ _ _ => False
theorem pass0 {X : Cx} : Passes CX0 X E0 := fun _ _ _ _ _ _ _ h => h.elim
structure Fun (K : PySem.W.Frag) (x qual : Str) (st : Stmt) (f : Addr) (fd : FuncData) : Prop where
  ex : ∃ (oc : Value) (od : Option Addr) (kV doc pm : Value) (an : Option Addr) (cdv ct : Value) (osl : Array (Option Value)),
    fd = PySem.W.fnOf x qual (defArgs st) (defBody st) (defScope st) .none kV doc pm an cdv ct ∧ K.lookup f = some ⟨oc, od, .func fd, osl⟩ ∧ PySem.W.codeIn K cdv qual = true
  kp : PySem.W.keepIn K (.ref f) = true
section
variable {P : Program} {w : World} {K : PySem.W.Frag} {mg : Str → Option Value} {base : Heap}
theorem Fun.ok {x qual : Str} {st : Stmt} {f : Addr} {fd : FuncData} {N ps : List Str} {k : Nat} {sp : Sp} (F : Fun K x qual st f fd) (S : FnScope N ps (defScope st)) (len : ∀ vs H Q E, sp vs H Q E → vs.length = ps.length)
    (hbody : ∀ (cdv : Value) (A : Around) (outer : List Env) (s : Shared) (H : Hp) (vs : List V) (Q : VK) (E : XK), Room k (A.deeper (envOfC qual (defScope st) s.heap.objs.size f cdv)) → sp vs H Q E →
      ∃ t, PSs (cxOf CX0 P w K mg base N qual (defScope st) f cdv A outer s H E).nox (defBody st) t ∧ t { nx := fun _ H' => Q .non H', rt := Q } (start N vs) H) : FnOk P w K mg base CX0 (k + 1) f fd ps sp := by
  obtain ⟨oc, od, kV, doc, pm, an, cdv, ct, osl, rfl, lk, hcd⟩ := F.ex
  refine fn_of lk hcd S len fun A outer s H vs Q E hr hsp => ?_
  obtain ⟨t, h, q⟩ := hbody cdv A outer s H vs Q E hr hsp
  exact ⟨t, h.nox, q⟩
theorem Fun.binds {x qual : Str} {st : Stmt} {f : Addr} {fd : FuncData} {ps : List Str} (F : Fun K x qual st f fd)
    (h : ∀ (kV doc pm : Value) (an : Option Addr) (cdv ct : Value) (us : List Value), us.length = ps.length → bindArgs (PySem.W.fnOf x qual (defArgs st) (defBody st) (defScope st) .none kV doc pm an cdv ct) ⟨us, []⟩ = pure (ps.zip us)) : Binds K fd ps [] := by
  obtain ⟨oc, od, kV, doc, pm, an, cdv, ct, osl, rfl, lk, hcd⟩ := F.ex
  exact .all (h kV doc pm an cdv ct)
theorem fun_mk {x qual : Str} {st : Stmt} {f : Addr} {oc : Value} {od an : Option Addr} {osl : Array (Option Value)} {kV doc pm cdv ct : Value} (l : K.lookup f = some ⟨oc, od, .func (PySem.W.fnOf x qual (defArgs st) (defBody st) (defScope st) .none kV doc pm an cdv ct), osl⟩)
    (c : PySem.W.codeIn K cdv qual = true) (k : PySem.W.keepIn K (.ref f) = true) : Fun K x qual st f (PySem.W.fnOf x qual (defArgs st) (defBody st) (defScope st) .none kV doc pm an cdv ct) := ⟨⟨oc, od, kV, doc, pm, an, cdv, ct, osl, rfl, l, c⟩, k⟩
end
theorem hu_of {A : Around} {k : Nat} (hr : Room k A) : A.units + 1 < cLine := Nat.lt_of_le_of_lt (Nat.add_le_add_left (by decide : 1 ≤ 64) _) hr.units
section
variable {X : Cx}
theorem pv (i : Nat) {x : Str} {pos : Pos} (hN : X.N[i]? = some x := by rfl) (hv : Vis X.env.scope x := by first | exact Or.inl rfl | exact Or.inr (Or.inl rfl) | exact Or.inr (Or.inr rfl)) (hd : (x == ("__debug__" : Str)) = false := by decide)
    (hcd : (x == ("__classdict__" : Str)) = false := by decide) : PE X (.Name x pos) (tVar i) := pe_var hN hv hd hcd
end
theorem iteF {A B : Prop} (h : B) : if false = true then A else B := by
  rw [if_neg Bool.false_ne_true]
  exact h
theorem iteT {A B : Prop} (h : A) : if true = true then A else B := by
  rw [if_pos rfl]
  exact h
theorem ite2 {c A B : Prop} [Decidable c] (h1 : c → A) (h2 : ¬ c → B) : if c then A else B := by
  by_cases h : c
  · rw [if_pos h]
    exact h1 h
  · rw [if_neg h]
    exact h2 h
theorem iteNS {c A B : Prop} [Decidable c] (hc : c) (h : B) : if (!decide c) = true then A else B := by
  rw [decide_eq_true hc]
  exact iteF h
noncomputable def Same (H H' : Hp) : Prop := ∀ b o, H b = some o → H' b = some o
theorem Same.refl (H : Hp) : Same H H := fun _ _ h => h
theorem Same.trans {H H1 H2 : Hp} (a : Same H H1) (b : Same H1 H2) : Same H H2 := fun c o h => b c o (a c o h)
theorem Same.free {H H' : Hp} (e : Same H H') {l : Addr} (h : H' l = Option.none) : H l = Option.none := by
  cases q : H l with
  | none => rfl
  | some o =>
    rw [e l o q] at h
    cases h
theorem Same.seq {K : PySem.W.Frag} {H H' : Hp} {a : Addr} {xs : List V} (e : Same H H') (h : SqL K H a xs) : SqL K H' a xs := by
  rcases h with (h | ⟨o, h⟩) | h
  · exact .inl (.inl (e _ _ h))
  · exact .inl (.inr ⟨o, e _ _ h⟩)
  · exact .inr h
section
variable {κ : Type} [DecidableEq κ]
theorem nd_snoc : ∀ {l : List κ} {k : κ}, l.Nodup → ¬ k ∈ l → (l ++ [k]).Nodup
  | [], k, _, _ => by simp
  | a :: r, k, h, hk => by
    obtain ⟨h1, h2⟩ := List.nodup_cons.mp h
    show (a :: (r ++ [k])).Nodup
    refine List.nodup_cons.mpr ⟨fun m => ?_, nd_snoc h2 fun m => hk (List.mem_cons.mpr (Or.inr m))⟩
    rcases List.mem_append.mp m with q | q
    · exact h1 q
    · exact hk (List.mem_cons.mpr (Or.inl (List.mem_singleton.mp q).symm))
theorem dropK_pos {p : κ × V} {r : List (κ × V)} {k : κ} (e : p.1 = k) : dropK (p :: r) k = dropK r k := by
  unfold dropK
  rw [List.filter_cons, if_neg (by simp [e])]
theorem dropK_neg {p : κ × V} {r : List (κ × V)} {k : κ} (e : ¬ p.1 = k) : dropK (p :: r) k = p :: dropK r k := by
  unfold dropK
  rw [List.filter_cons, if_pos (by simp [e])]
theorem dropK_no : ∀ {kvs : List (κ × V)} {k : κ}, ¬ k ∈ kvs.map (·.1) → dropK kvs k = kvs
  | [], _, _ => rfl
  | p :: r, k, h => by
    have h' : ¬ k ∈ r.map (·.1) := fun m => by
      obtain ⟨q, hq, e⟩ := List.mem_map.mp m
      exact h (List.mem_map.mpr ⟨q, List.mem_cons.mpr (Or.inr hq), e⟩)
    rw [dropK_neg fun e => h (List.mem_map.mpr ⟨p, List.mem_cons.mpr (Or.inl rfl), e⟩), dropK_no h']
end
theorem nd_ix {α : Type} {l : List α} (hN : l.Nodup) {i j : Nat} {x : α} (a : l[i]? = some x) (b : l[j]? = some x) : i = j := by
  obtain ⟨h1, e1⟩ := List.getElem?_eq_some_iff.mp a
  obtain ⟨h2, e2⟩ := List.getElem?_eq_some_iff.mp b
  exact (List.getElem_inj hN).mp (e1.trans e2.symm)
end L2
section
set_option Elab.async false
set_option linter.all false
set_option maxRecDepth 100000
set_option maxHeartbeats 2000000
namespace L2
open PySem PySem.Spec PyProof.Rows
open PySem.W (WData Codec OpenSpec Well WellAll ReadsW ReadsAllW)
mutual
inductive Dw (K : PySem.W.Frag) (H : Hp) : V → WData → Prop
  | non : Dw K H .non .none
  | bl (b : Bool) : Dw K H (.bl b) (.bool b)
  | int (i : Int) : Dw K H (.int i) (.int i)
  | str (x : Str) : Dw K H (.str x) (.str x)
  | byt (b : Array UInt8) : Dw K H (.byt b) (.bytes b.toList)
  | lst {a : Addr} {xs : List V} {ds : List WData} : SqL K H a xs → DwAll K H xs ds → Dw K H (.ref a) (.list ds)
  | tup {a : Addr} {xs : List V} {ds : List WData} : SqT K H a xs → DwAll K H xs ds → Dw K H (.ref a) (.tuple ds)
inductive DwAll (K : PySem.W.Frag) (H : Hp) : List V → List WData → Prop
  | nil : DwAll K H [] []
  | cons {v : V} {vs : List V} {d : WData} {ds : List WData} : Dw K H v d → DwAll K H vs ds → DwAll K H (v :: vs) (d :: ds)
end
theorem dw_ints {K : PySem.W.Frag} {H : Hp} : ∀ ns : List Int, DwAll K H (ns.map V.int) (ns.map WData.int)
  | [] => .nil
  | n :: r => .cons (.int n) (dw_ints r)
theorem ints_dw {K : PySem.W.Frag} {H : Hp} : ∀ (ns : List Int) (xs : List V), DwAll K H xs (ns.map WData.int) → xs = ns.map V.int
  | [], xs, h => by
    cases h
    rfl
  | n :: r, xs, h => by
    cases h with
    | cons h1 h2 =>
      cases h1
      rw [ints_dw r _ h2] <;> rfl
section
variable {P : Program} {w : World} {K : PySem.W.Frag} {H : Hp} {h : Heap} {R : PySem.W.WRecords} {cl : Str → Option Addr}
theorem sqL_at {a : Addr} {xs : List V} (hok : HOk P w H h) (KX : K.In h) (q : SqL K H a xs) : ∃ (its : List Value) (o : Obj) (n : Nat), Vals xs its ∧ h.get? a = some o ∧ o.cls = .type "list" ∧ o.data = .seq its.toArray n := by
  rcases q with q | ⟨o, its, n, e, hc, _, hd, _, hv⟩
  · obtain ⟨_, its, n, hv, e⟩ := (show ObjOk P w H h a (.lst xs) from q.ok hok)
    exact ⟨its, _, n, hv, e, rfl, rfl⟩
  · exact ⟨its.toList, o, n, hv, KX _ _ e, hc, by simp [hd]⟩
theorem sqT_at {a : Addr} {xs : List V} (hok : HOk P w H h) (KX : K.In h) (q : SqT K H a xs) : ∃ (its : List Value) (o : Obj) (n : Nat), Vals xs its ∧ h.get? a = some o ∧ o.cls = .type "tuple" ∧ o.data = .seq its.toArray n := by
  rcases q with q | ⟨o, its, n, e, hc, hd, _, hv⟩
  · obtain ⟨_, its, hv, o, e, hc, n, hd⟩ := (show ObjOk P w H h a (.tup xs) from q.ok hok)
    exact ⟨its, o, n, hv, e, hc, hd⟩
  · exact ⟨its.toList, o, n, hv, KX _ _ e, hc, by simp [hd]⟩
mutual
theorem Dw.reads (hok : HOk P w H h) (KX : K.In h) : ∀ (d : WData) (v : V) (u : Value), Dw K H v d → RelV v u → ∃ as, ReadsW R cl h u d as
  | .none, _, _, x, r => by
    cases x
    cases r
    exact ⟨_, ReadsW.none⟩
  | .bool b, _, _, x, r => by
    cases x
    cases r
    exact ⟨_, ReadsW.bool b⟩
  | .int i, _, _, x, r => by
    cases x
    obtain ⟨t, rfl⟩ := r
    exact ⟨_, ReadsW.int i t⟩
  | .str s, _, _, x, r => by
    cases x
    obtain ⟨t, rfl⟩ := r
    exact ⟨_, ReadsW.str s t⟩
  | .bytes b, _, _, x, r => by
    cases x
    obtain ⟨t, rfl⟩ := r
    exact ⟨_, ReadsW.bytes _ t⟩
  | .list ds, _, _, x, r => by
    cases x with
    | lst hs ha =>
      cases r
      obtain ⟨its, o, n, rv, ho, hc, hd⟩ := sqL_at hok KX hs
      obtain ⟨as, hr⟩ := Dw.readsAll hok KX ds _ its ha rv
      exact ⟨_, ReadsW.list ho hc hd hr⟩
  | .tuple ds, _, _, x, r => by
    cases x with
    | tup hs ha =>
      cases r
      obtain ⟨its, o, n, rv, ho, hc, hd⟩ := sqT_at hok KX hs
      obtain ⟨as, hr⟩ := Dw.readsAll hok KX ds _ its ha rv
      exact ⟨_, ReadsW.tuple ho hc hd hr⟩
  | .float _, _, _, x, _ => by cases x
  | .dict _, _, _, x, _ => by cases x
  | .bytearray _, _, _, x, _ => by cases x
  | .set _, _, _, x, _ => by cases x
  | .frozenset _, _, _, x, _ => by cases x
  | .obj _ _, _, _, x, _ => by cases x
theorem Dw.readsAll (hok : HOk P w H h) (KX : K.In h) : ∀ (ds : List WData) (vs : List V) (us : List Value), DwAll K H vs ds → Vals vs us → ∃ as, ReadsAllW R cl h us ds as
  | [], _, _, x, r => by
    cases x
    cases r
    exact ⟨_, ReadsAllW.nil⟩
  | d :: ds, _, _, x, r => by
    cases x with
    | cons h1 h2 =>
      cases r with
      | cons r1 r2 =>
        obtain ⟨as, q1⟩ := Dw.reads hok KX d _ _ h1 r1
        obtain ⟨bs, q2⟩ := Dw.readsAll hok KX ds _ _ h2 r2
        exact ⟨_, ReadsAllW.cons q1 q2⟩
end
end
mutual
noncomputable def plW : WData → Bool
  | .none => true
  | .bool _ => true
  | .int _ => true
  | .str _ => true
  | .bytes _ => true
  | .list xs => plWs xs
  | .tuple xs => plWs xs
  | _ => false
noncomputable def plWs : List WData → Bool
  | [] => true
  | x :: r => plW x && plWs r
end
theorem plWs_map {α : Type} {f : α → WData} (h : ∀ a, plW (f a) = true) : ∀ l : List α, plWs (l.map f) = true
  | [] => rfl
  | x :: r => by
    show (plW (f x) && plWs (r.map f)) = true
    rw [h x, plWs_map h r] <;> rfl
theorem pl_enc : ∀ (c : Codec) (a : c.denote), plW (c.enc a) = true
  | .unit, _ => rfl
  | .bool, _ => rfl
  | .int _ _, _ => rfl
  | .nat _ _, _ => rfl
  | .u8, _ => rfl
  | .bytes _ _, _ => rfl
  | .text _ _ _ _, _ => rfl
  | .list _ _ c, a => plWs_map (fun x => pl_enc c x) a
  | .pair c d, a => by
    show (plW (c.enc a.1) && (plW (d.enc a.2) && true)) = true
    rw [pl_enc c a.1, pl_enc d a.2] <;> rfl
  | .triple c d e, a => by
    show (plW (c.enc a.1) && (plW (d.enc a.2.1) && (plW (e.enc a.2.2) && true))) = true
    rw [pl_enc c a.1, pl_enc d a.2.1, pl_enc e a.2.2] <;> rfl
  | .option c, none => rfl
  | .option c, some x => pl_enc c x
theorem pl_encAll : ∀ (cs : List Codec) (a : Codec.denoteAll cs), plWs (Codec.encAll cs a) = true
  | [], _ => rfl
  | c :: cs, a => by
    show (plW (c.enc a.1) && plWs (Codec.encAll cs a.2)) = true
    rw [pl_enc c a.1, pl_encAll cs a.2] <;> rfl
theorem weight_mem : ∀ {xs : List WData} {d : WData}, d ∈ xs → d.weight ≤ WData.weightAll xs
  | [], d, h => absurd h (by simp)
  | x :: r, d, h => by
    show d.weight ≤ x.weight + 1 + WData.weightAll r
    rcases List.mem_cons.mp h with e | m
    · rw [e]
      omega
    · have z := weight_mem m
      omega
noncomputable def toV : Value → V
  | .none => .non
  | .bool b => .bl b
  | .int i _ => .int i
  | .str x _ => .str x
  | .bytes b _ => .byt b
  | .ref a => .ref a
  | _ => .non
noncomputable def OkU (A : List Addr) : Value → Prop
  | .none => True
  | .bool _ => True
  | .int _ _ => True
  | .str _ _ => True
  | .bytes _ _ => True
  | .ref a => a ∈ A
  | _ => False
theorem OkU.mono {A B : List Addr} (h : ∀ a ∈ A, a ∈ B) : ∀ {u : Value}, OkU A u → OkU B u := fun {u} x => by
  cases u with
  | ref a => exact h a x
  | none => trivial
  | bool b => trivial
  | int i t => trivial
  | str s t => trivial
  | bytes b t => trivial
  | _ => exact False.elim x
theorem relV_toV {A : List Addr} {u : Value} (x : OkU A u) : RelV (toV u) u := by
  cases u with
  | ref a => rfl
  | none => rfl
  | bool b => rfl
  | int i t => exact ⟨t, rfl⟩
  | str s t => exact ⟨t, rfl⟩
  | bytes b t => exact ⟨t, rfl⟩
  | _ => exact False.elim x
theorem vals_toV {A : List Addr} : ∀ {vs : List Value}, (∀ u ∈ vs, OkU A u) → Vals (vs.map toV) vs
  | [], _ => .nil
  | u :: r, h => .cons (relV_toV (h u (List.mem_cons_self ..))) (vals_toV fun x hx => h x (List.mem_cons_of_mem _ hx))
noncomputable def ArgOb (h : Heap) (A : List Addr) (a : Addr) : Prop := ∃ vs : List Value, vs.length ≤ sizeLine ∧ (∀ u ∈ vs, OkU A u) ∧
  (h.get? a = some { cls := .type "list", data := .seq vs.toArray } ∨ h.get? a = some { cls := .type "tuple", data := .seq vs.toArray })
theorem ArgOb.mono {h : Heap} {A B : List Addr} {a : Addr} (k : ∀ a ∈ A, a ∈ B) (x : ArgOb h A a) : ArgOb h B a := by
  obtain ⟨vs, h1, h2, h3⟩ := x
  exact ⟨vs, h1, fun u hu => (h2 u hu).mono k, h3⟩
theorem wellAll_len {P : Params} {h : Heap} : ∀ {vs : List Value} {ds : List WData}, WellAll P h vs ds → vs.length = ds.length
  | _, _, .nil => rfl
  | _, _, .cons _ b => by
    show _ + 1 = _ + 1
    rw [wellAll_len b]
theorem well_list {P : Params} {h : Heap} {v : Value} {ds : List WData} (x : Well P h v (.list ds)) : ∃ (a : Addr) (vs : List Value), v = .ref a ∧ h.get? a = some { cls := .type "list", data := .seq vs.toArray } ∧ WellAll P h vs ds := by
  cases x with
  | list ho hall => exact ⟨_, _, rfl, ho, hall⟩
theorem well_tuple {P : Params} {h : Heap} {v : Value} {ds : List WData} (x : Well P h v (.tuple ds)) : ∃ (a : Addr) (vs : List Value), v = .ref a ∧ h.get? a = some { cls := .type "tuple", data := .seq vs.toArray } ∧ WellAll P h vs ds := by
  cases x with
  | tuple ho hall => exact ⟨_, _, rfl, ho, hall⟩
theorem well_cons {P : Params} {h : Heap} {us : List Value} {d : WData} {ds : List WData} (x : WellAll P h us (d :: ds)) : ∃ (v : Value) (vs : List Value), us = v :: vs ∧ Well P h v d ∧ WellAll P h vs ds := by
  cases x with
  | cons a b => exact ⟨_, _, rfl, a, b⟩
theorem line_of {n : Nat} (h : n ≤ 1048576) : n ≤ sizeLine := Nat.le_trans h (by decide)
section
variable {P : Params} {h : Heap}
mutual
theorem area_one : ∀ (d : WData) (v : Value), Well P h v d → plW d = true → d.weight ≤ 1048576 → ∃ A : List Addr, OkU A v ∧ ∀ a ∈ A, ArgOb h A a
  | .none, _, x, _, _ => by
    cases x
    exact ⟨[], trivial, fun a m => absurd m (by simp)⟩
  | .bool b, _, x, _, _ => by
    cases x
    exact ⟨[], trivial, fun a m => absurd m (by simp)⟩
  | .int i, _, x, _, _ => by
    cases x
    exact ⟨[], trivial, fun a m => absurd m (by simp)⟩
  | .str s, _, x, _, _ => by
    cases x
    exact ⟨[], trivial, fun a m => absurd m (by simp)⟩
  | .bytes b, _, x, _, _ => by
    cases x
    exact ⟨[], trivial, fun a m => absurd m (by simp)⟩
  | .list ds, _, x, p, z => by
    obtain ⟨a, vs, rfl, ho, hall⟩ := well_list x
    have z2 : WData.weightAll ds ≤ 1048576 := z
    obtain ⟨A, h1, h2⟩ := area_all ds _ hall p fun d hd => Nat.le_trans (weight_mem hd) z2
    have k : ∀ b ∈ A, b ∈ a :: A := fun b hb => List.mem_cons_of_mem _ hb
    refine ⟨a :: A, List.mem_cons_self .., fun b hb => ?_⟩
    rcases List.mem_cons.mp hb with e | m
    · rw [e]
      exact ⟨vs, line_of (by rw [wellAll_len hall]; exact Nat.le_trans (PySem.W.length_le_weightAllW ds) z2), fun u hu => (h1 u hu).mono k, .inl ho⟩
    · exact (h2 b m).mono k
  | .tuple ds, _, x, p, z => by
    obtain ⟨a, vs, rfl, ho, hall⟩ := well_tuple x
    have z2 : WData.weightAll ds ≤ 1048576 := z
    obtain ⟨A, h1, h2⟩ := area_all ds _ hall p fun d hd => Nat.le_trans (weight_mem hd) z2
    have k : ∀ b ∈ A, b ∈ a :: A := fun b hb => List.mem_cons_of_mem _ hb
    refine ⟨a :: A, List.mem_cons_self .., fun b hb => ?_⟩
    rcases List.mem_cons.mp hb with e | m
    · rw [e]
      exact ⟨vs, line_of (by rw [wellAll_len hall]; exact Nat.le_trans (PySem.W.length_le_weightAllW ds) z2), fun u hu => (h1 u hu).mono k, .inr ho⟩
    · exact (h2 b m).mono k
  | .float _, _, _, p, _ => Bool.noConfusion (show false = true from p)
  | .dict _, _, _, p, _ => Bool.noConfusion (show false = true from p)
  | .bytearray _, _, _, p, _ => Bool.noConfusion (show false = true from p)
  | .set _, _, _, p, _ => Bool.noConfusion (show false = true from p)
  | .frozenset _, _, _, p, _ => Bool.noConfusion (show false = true from p)
  | .obj _ _, _, _, p, _ => Bool.noConfusion (show false = true from p)
theorem area_all : ∀ (ds : List WData) (vs : List Value), WellAll P h vs ds → plWs ds = true → (∀ d ∈ ds, d.weight ≤ 1048576) → ∃ A : List Addr, (∀ u ∈ vs, OkU A u) ∧ ∀ a ∈ A, ArgOb h A a
  | [], _, x, _, _ => by
    cases x
    exact ⟨[], fun u m => absurd m (by simp), fun a m => absurd m (by simp)⟩
  | d :: ds, _, x, p, z => by
    obtain ⟨v, vs, rfl, x1, x2⟩ := well_cons x
    have q : plW d = true ∧ plWs ds = true := Bool.and_eq_true_iff.mp p
    obtain ⟨A, a1, a2⟩ := area_one d v x1 q.1 (z d (List.mem_cons_self ..))
    obtain ⟨B, b1, b2⟩ := area_all ds vs x2 q.2 fun e he => z e (List.mem_cons_of_mem _ he)
    have kA : ∀ b ∈ A, b ∈ A ++ B := fun b hb => List.mem_append.mpr (.inl hb)
    have kB : ∀ b ∈ B, b ∈ A ++ B := fun b hb => List.mem_append.mpr (.inr hb)
    refine ⟨A ++ B, fun u hu => ?_, fun b hb => ?_⟩
    · rcases List.mem_cons.mp hu with e | m
      · rw [e]
        exact a1.mono kA
      · exact (b1 u m).mono kB
    · rcases List.mem_append.mp hb with m | m
      · exact (a2 b m).mono kA
      · exact (b2 b m).mono kB
end
end
noncomputable def hoOf (o : Obj) : Option HO := match o.data with
  | .seq vs _ => if (o.cls == Value.type "list") = true then some (.frz o (.lst (vs.toList.map toV))) else some (.frz o (.tup (vs.toList.map toV)))
  | _ => none
noncomputable def argH (K : PySem.W.Frag) (h : Heap) (A : List Addr) : Hp := fun b => if b ∈ A then (if (K.lookup b).isNone = true then (h.get? b).bind hoOf else none) else none
noncomputable def OnlyF (H : Hp) : Prop := ∀ b, H b = none ∨ ∃ o u, H b = some (.frz o u)
theorem hoOf_lst (vs : List Value) : hoOf { cls := .type "list", data := .seq vs.toArray } = some (.frz { cls := .type "list", data := .seq vs.toArray } (.lst (vs.map toV))) := by
  show (if (Value.type "list" == Value.type "list") = true then some (HO.frz { cls := .type "list", data := .seq vs.toArray } (.lst (vs.toArray.toList.map toV))) else some (HO.frz { cls := .type "list", data := .seq vs.toArray } (.tup (vs.toArray.toList.map toV)))) = _
  rw [if_pos (beq_self_eq_true _)]
theorem hoOf_tup (vs : List Value) : hoOf { cls := .type "tuple", data := .seq vs.toArray } = some (.frz { cls := .type "tuple", data := .seq vs.toArray } (.tup (vs.map toV))) := by
  show (if (Value.type "tuple" == Value.type "list") = true then some (HO.frz { cls := .type "tuple", data := .seq vs.toArray } (.lst (vs.toArray.toList.map toV))) else some (HO.frz { cls := .type "tuple", data := .seq vs.toArray } (.tup (vs.toArray.toList.map toV)))) = _
  rw [if_neg (by decide)]
section
variable {P : Program} {w : World} {K : PySem.W.Frag} {h : Heap} {A : List Addr}
theorem argH_at {b : Addr} {o : Obj} (hb : b ∈ A) (hk : K.lookup b = none) (e : h.get? b = some o) : argH K h A b = hoOf o := by
  unfold argH
  rw [if_pos hb, hk, if_pos (show (none : Option Obj).isNone = true from rfl), e] <;> rfl
theorem of_argH {b : Addr} {u : HO} (q : argH K h A b = some u) : b ∈ A ∧ K.lookup b = none := by
  unfold argH at q
  by_cases hb : b ∈ A
  · rw [if_pos hb] at q
    cases hk : K.lookup b with
    | none => exact ⟨hb, rfl⟩
    | some o =>
      rw [hk, if_neg (by simp)] at q
      cases q
  · rw [if_neg hb] at q
    cases q
theorem argH_is (ar : ∀ a ∈ A, ArgOb h A a) {b : Addr} {u : HO} (q : argH K h A b = some u) : K.lookup b = none ∧ ∃ vs : List Value, vs.length ≤ sizeLine ∧ (∀ u ∈ vs, OkU A u) ∧
    ((h.get? b = some { cls := .type "list", data := .seq vs.toArray } ∧ u = .frz { cls := .type "list", data := .seq vs.toArray } (.lst (vs.map toV))) ∨
     (h.get? b = some { cls := .type "tuple", data := .seq vs.toArray } ∧ u = .frz { cls := .type "tuple", data := .seq vs.toArray } (.tup (vs.map toV)))) := by
  obtain ⟨hb, hk⟩ := of_argH q
  obtain ⟨vs, h1, h2, h3⟩ := ar b hb
  refine ⟨hk, vs, h1, h2, ?_⟩
  rcases h3 with e | e
  · rw [argH_at hb hk e, hoOf_lst] at q
    exact .inl ⟨e, (Option.some.inj q).symm⟩
  · rw [argH_at hb hk e, hoOf_tup] at q
    exact .inr ⟨e, (Option.some.inj q).symm⟩
theorem argH_only (ar : ∀ a ∈ A, ArgOb h A a) : OnlyF (argH K h A) := fun b => by
  cases q : argH K h A b with
  | none => exact .inl rfl
  | some u =>
    obtain ⟨_, vs, _, _, ⟨_, e⟩ | ⟨_, e⟩⟩ := argH_is ar q
    · exact .inr ⟨_, _, by rw [e]⟩
    · exact .inr ⟨_, _, by rw [e]⟩
theorem argH_ok (ar : ∀ a ∈ A, ArgOb h A a) : HOk P w (argH K h A) h := fun b u q => by
  obtain ⟨_, vs, h1, h2, ⟨e, rfl⟩ | ⟨e, rfl⟩⟩ := argH_is ar q
  · exact ⟨e, by rw [List.length_map]; exact h1, vs, _, vals_toV h2, e⟩
  · exact ⟨e, by rw [List.length_map]; exact h1, vs, vals_toV h2, _, e, rfl, _, rfl⟩
theorem seq_inj {c c' : Value} {vs us : List Value} (e : (some { cls := c, data := .seq vs.toArray } : Option Obj) = some { cls := c', data := .seq us.toArray }) : c = c' ∧ vs = us := by
  have e1 := Option.some.inj e
  have e2 : c = c' := congrArg Obj.cls e1
  have e3 : Data.seq vs.toArray = Data.seq us.toArray := congrArg Obj.data e1
  injection e3 with e4
  refine ⟨e2, ?_⟩
  have e5 := congrArg Array.toList e4
  simpa using e5
theorem argL (KX : K.In h) (ar : ∀ a ∈ A, ArgOb h A a) {a : Addr} {vs : List Value} (ha : a ∈ A) (e : h.get? a = some { cls := .type "list", data := .seq vs.toArray }) : (∀ u ∈ vs, OkU A u) ∧ SqL K (argH K h A) a (vs.map toV) := by
  obtain ⟨us, h1, h2, h3⟩ := ar a ha
  have hu : us = vs := by
    rcases h3 with q | q
    · rw [e] at q
      exact (seq_inj q).2.symm
    · rw [e] at q
      exact absurd (Value.type.inj (seq_inj q).1) (by decide)
  subst hu
  refine ⟨h2, ?_⟩
  cases hk : K.lookup a with
  | none => exact .inl (.inr ⟨_, by rw [argH_at ha hk e, hoOf_lst]⟩)
  | some o =>
    have e2 := KX a o hk
    rw [e] at e2
    obtain rfl := Option.some.inj e2
    exact .inr ⟨_, us.toArray, _, hk, rfl, rfl, rfl, by rw [List.size_toArray]; exact h1, by simpa using vals_toV h2⟩
theorem argT (KX : K.In h) (ar : ∀ a ∈ A, ArgOb h A a) {a : Addr} {vs : List Value} (ha : a ∈ A) (e : h.get? a = some { cls := .type "tuple", data := .seq vs.toArray }) : (∀ u ∈ vs, OkU A u) ∧ SqT K (argH K h A) a (vs.map toV) := by
  obtain ⟨us, h1, h2, h3⟩ := ar a ha
  have hu : us = vs := by
    rcases h3 with q | q
    · rw [e] at q
      exact absurd (Value.type.inj (seq_inj q).1) (by decide)
    · rw [e] at q
      exact (seq_inj q).2.symm
  subst hu
  refine ⟨h2, ?_⟩
  cases hk : K.lookup a with
  | none => exact .inl (.inr ⟨_, by rw [argH_at ha hk e, hoOf_tup]⟩)
  | some o =>
    have e2 := KX a o hk
    rw [e] at e2
    obtain rfl := Option.some.inj e2
    exact .inr ⟨_, us.toArray, _, hk, rfl, rfl, by rw [List.size_toArray]; exact h1, by simpa using vals_toV h2⟩
mutual
theorem dw_one {Pm : Params} (KX : K.In h) (ar : ∀ a ∈ A, ArgOb h A a) : ∀ (d : WData) (v : Value), Well Pm h v d → plW d = true → OkU A v → Dw K (argH K h A) (toV v) d
  | .none, _, x, _, _ => by
    cases x
    exact .non
  | .bool b, _, x, _, _ => by
    cases x
    exact .bl b
  | .int i, _, x, _, _ => by
    cases x
    exact .int i
  | .str s, _, x, _, _ => by
    cases x
    exact .str s
  | .bytes b, _, x, _, _ => by
    cases x
    have z := Dw.byt (K := K) (H := argH K h A) b.toArray
    exact z
  | .list ds, _, x, p, hu => by
    obtain ⟨a, vs, rfl, ho, hall⟩ := well_list x
    obtain ⟨h2, hs⟩ := argL KX ar hu ho
    exact .lst hs (dw_all KX ar ds _ hall p h2)
  | .tuple ds, _, x, p, hu => by
    obtain ⟨a, vs, rfl, ho, hall⟩ := well_tuple x
    obtain ⟨h2, hs⟩ := argT KX ar hu ho
    exact .tup hs (dw_all KX ar ds _ hall p h2)
  | .float _, _, _, p, _ => Bool.noConfusion (show false = true from p)
  | .dict _, _, _, p, _ => Bool.noConfusion (show false = true from p)
  | .bytearray _, _, _, p, _ => Bool.noConfusion (show false = true from p)
  | .set _, _, _, p, _ => Bool.noConfusion (show false = true from p)
  | .frozenset _, _, _, p, _ => Bool.noConfusion (show false = true from p)
  | .obj _ _, _, _, p, _ => Bool.noConfusion (show false = true from p)
theorem dw_all {Pm : Params} (KX : K.In h) (ar : ∀ a ∈ A, ArgOb h A a) : ∀ (ds : List WData) (vs : List Value), WellAll Pm h vs ds → plWs ds = true → (∀ u ∈ vs, OkU A u) → DwAll K (argH K h A) (vs.map toV) ds
  | [], _, x, _, _ => by
    cases x
    exact .nil
  | d :: ds, _, x, p, hu => by
    obtain ⟨v, vs, rfl, x1, x2⟩ := well_cons x
    have q : plW d = true ∧ plWs ds = true := Bool.and_eq_true_iff.mp p
    exact .cons (dw_one KX ar d v x1 q.1 (hu _ (List.mem_cons_self ..))) (dw_all KX ar ds vs x2 q.2 fun u m => hu u (List.mem_cons_of_mem _ m))
end
end
theorem spec_call {P : Program} {w : World} {K : PySem.W.Frag} {mg mb : Str → Option Value} {CX : CXT} {k : Nat} {fa : Addr} {fd : FuncData} {ps : List Str} {sp : Sp} {s₁ : Shared} {vals : List Value} {ds : List WData} {R : PySem.W.WRecords} {cl : Str → Option Addr} {d0 : WData}
    (KX : K.In s₁.heap) (hns : s₁.heap.Ns mainGlobals mg) (hb : s₁.heap.Ns builtinsNs mb) (hbb : ∀ x : Str, x ≠ "__name__" → mb x = bootBuiltins x) (hlim : s₁.heap.NoLimit) (hg : s₁.gens = #[])
    (hwl : WellAll w.params s₁.heap vals ds) (hpl : plWs ds = true) (hwt : ∀ d ∈ ds, d.weight ≤ 1048576) (hr : Room k callerA)
    (F : ∀ base : Heap, K.In base → base.Ns mainGlobals mg → FnOk P w K mg base CX k fa fd ps sp) (hbind : ∀ (s : Shared) (us : List Value), us.length = ps.length → BindsTo s fd ⟨us, []⟩ (ps.zip us)) (hlen : ds.length = ps.length)
    (hsp : ∀ (H : Hp) (xs : List V), OnlyF H → DwAll K H xs ds → sp xs H (fun v H' => Dw K H' v d0) fun _ _ _ => False)
    (hCX : ∀ H e s', CX [] H s₁ (fun _ _ _ => False) e s' → False) :
    codeAny (model P w) callerA (.call (.ref fa) ⟨vals, []⟩) (fun r s' => ∃ u as, r = .ok (.ret u) ∧ ReadsW R cl s'.heap u d0 as ∧ OldK s₁.heap s'.heap ∧ s'.os = s₁.os ∧ AllBare s'.gens) s₁ := by
  obtain ⟨A, ho, ar⟩ := area_all ds vals hwl hpl hwt
  have hO : OnlyF (argH K s₁.heap A) := argH_only ar
  have hok : HOk P w (argH K s₁.heap A) s₁.heap := argH_ok ar
  have hS := dw_all KX ar ds vals hwl hpl ho
  have hV := vals_toV ho
  have hK : ∀ b u, argH K s₁.heap A b = some u → K.lookup b = none := fun b u q => (argH_is ar q).1
  have noA : ∀ {b : Addr} {o : Obj} {es : Array DictEntry} {ep : Nat}, s₁.heap.get? b = some o → o.data = .dict es ep → argH K s₁.heap A b = none := fun {b o es ep} e d => by
    cases q : argH K s₁.heap A b with
    | none => rfl
    | some u =>
      obtain ⟨_, vs, _, _, ⟨e2, _⟩ | ⟨e2, _⟩⟩ := argH_is ar q
      · rw [e2] at e
        cases e
        have d' : Data.seq vs.toArray _ = Data.dict es ep := d
        cases d'
      · rw [e2] at e
        cases e
        have d' : Data.seq vs.toArray _ = Data.dict es ep := d
        cases d'
  generalize argH K s₁.heap A = H at hO hok hS hK noA
  have base_of : ∀ {b : Addr} {o : Obj}, s₁.heap.get? b = some o → H b = none → (hidT s₁.heap H).get? b = some o := fun e n => hidT_get e n
  have nsK : ∀ {b : Addr} {m : Str → Option Value}, s₁.heap.Ns b m → (hidT s₁.heap H).Ns b m := fun {b m} ⟨o, es, ep, e, d, r⟩ => ⟨o, es, ep, base_of e (noA e d), d, r⟩
  have nK : ∀ b o, K.lookup b = some o → H b = none := fun b o e => by
    cases q : H b with
    | none => rfl
    | some u =>
      rw [hK b u q] at e
      cases e
  have hKb : K.In (hidT s₁.heap H) := fun b o e => base_of (KX b o e) (nK b o e)
  have hM : Mod K mg (hidT s₁.heap H) := ⟨hKb, nsK hns, ⟨mb, nsK hb, hbb⟩, let ⟨mc, h1, h2⟩ := hlim; ⟨mc, nsK h1, h2⟩⟩
  have e0 : Env0 P w K mg (hidT s₁.heap H) callerA [] s₁ H := ⟨rfl, hM, fun b o e => of_hidT e, Nat.le_of_eq (hidT_size _ _), trivial, fun b hb => absurd (show b ∈ ([] : List Addr) from hb) (by simp), hok, .of_eq hg⟩
  have hl : vals.length = ps.length := by rw [wellAll_len hwl]; exact hlen
  refine codeAny_mono ((F _ hKb (nsK hns)).run callerA [] s₁ H ⟨vals, []⟩ vals (vals.map toV) _ _ hr e0 (hbind s₁ vals hl) hV (hsp H _ hO hS)) fun r s' x => ?_
  cases r with
  | error e => exact (hCX H e s' x).elim
  | ok fl =>
    cases fl with
    | next => exact False.elim x
    | brk => exact False.elim x
    | cont => exact False.elim x
    | ret u =>
      obtain ⟨v, H', os, bare, un, hok', r', q⟩ := x
      have kept : ∀ b o, s₁.heap.get? b = some o → s'.heap.get? b = some o := fun b o e => by
        cases q2 : H b with
        | none => exact un.keep b o e q2 (by intro z; exact absurd (show b ∈ ([] : List Addr) from z) (by simp)) (by simp)
        | some u2 =>
          rcases hO b with z | ⟨ob, u3, z⟩
          · rw [q2] at z
            cases z
          · have z2 := un.frzs b ob _ z
            obtain ⟨e1, _⟩ := hok b _ z
            obtain ⟨e2, _⟩ := hok' b _ z2
            rw [e] at e1
            cases e1
            exact e2
      have KX' : K.In s'.heap := fun b o e => kept b o (KX b o e)
      obtain ⟨as, hrd⟩ := Dw.reads (R := R) (cl := cl) hok' KX' d0 v u q r'
      exact ⟨u, as, rfl, hrd, OldK.of_keep kept, os, bare⟩
theorem layable_weight {ds : List WData} (h : WData.layableAll ds = true) : ∀ d ∈ ds, d.weight ≤ 1048576 := fun d hd =>
  (PySem.W.layableW_iff.mp (List.all_eq_true.mp h d hd)).2.2
theorem encAll_len : ∀ (cs : List Codec) (a : Codec.denoteAll cs), (Codec.encAll cs a).length = cs.length
  | [], _ => rfl
  | c :: cs, a => by
    show (Codec.encAll cs a.2).length + 1 = cs.length + 1
    rw [encAll_len cs a.2]
theorem walk_spec {r : OpenSpec} {k : Nat} {q : Program} {loose : List Str} {XP : (Str → Option Value) → Heap → Prop} {YP : World → Heap → Prop} {d : DefRec} {K : Params → PySem.W.Frag} {CX : World → CXT} {ps : List Str} {sp : World → Sp}
    (hwell : r.wellSaid = true) (hdf : d.params.defaults = []) (hlen : r.args.length = ps.length) (hr : Room k callerA)
    (hY : ∀ (w : World) (h : Heap), YP w h → (K w.params).In h)
    (F : ∀ (w : World) (mg : Str → Option Value) (fa : Addr) (h : Heap), YP w h → (K w.params).In h → h.Ns mainGlobals mg → mg d.name = some (.ref fa) →
      ∃ fd : FuncData, (∀ (s : Shared) (us : List Value), us.length = ps.length → BindsTo s fd ⟨us, []⟩ (ps.zip us)) ∧
        ∀ base : Heap, (K w.params).In base → base.Ns mainGlobals mg → FnOk r.prog w (K w.params) mg base (CX w) k fa fd ps (sp w))
    (hsp : ∀ (w : World) (H : Hp) (xs : List V) (a : Codec.denoteAll r.args), OnlyF H → Codec.withinAll r.args a = true → Codec.app r.args r.asked a = true → DwAll (K w.params) H xs (Codec.encAll r.args a) →
      sp w xs H (fun v H' => Dw (K w.params) H' v (r.ret.enc (Codec.app r.args r.f a))) fun _ _ _ => False)
    (hCX : ∀ (w : World) (H : Hp) (s : Shared) (e : Value) (s' : Shared), CX w [] H s (fun _ _ _ => False) e s' → False) :
    PySem.W.WalkOS q loose XP YP r d [] (fun f vs => PySem.call f vs) := by
  intro w s_0 s₁ mg mb G Y fa o pm cd doc dV kV ho hd hcd hD hmg hg args vals as hpre hlay hrd hwl hlo
  obtain ⟨a, e1, e2⟩ := PySem.W.os_pre_some hpre
  obtain ⟨e3, hwi⟩ := Codec.encAll_of_decAll r.args args a e1
  subst e3
  have KX := hY w _ Y
  obtain ⟨fd, hb, hF⟩ := F w mg fa _ Y KX G.T.g hmg
  refine PySem.W.enter_call (codeAny_mono (spec_call (R := []) (cl := classAt s_0.heap) (d0 := r.ret.enc (Codec.app r.args r.f a)) KX G.T.g G.T.b G.T.builtins G.T.nolimit hg hwl (pl_encAll _ _) (layable_weight hlay) hr hF hb (by rw [encAll_len]; exact hlen)
    (fun H xs hO hS => hsp w H xs a hO hwi e2 hS) fun H e s' => hCX w H s₁ e s') fun r' s' hq => ?_)
  obtain ⟨u, as', rfl, h1, h2, h3, h4⟩ := hq
  exact ⟨.inl ⟨u, _, as', rfl, fun _ => rfl, h1, (OpenSpec.post_iff hwell hwi _ _).mpr rfl, fun z => Bool.noConfusion (show false = true from z)⟩, h2, h3, h4⟩
theorem walk_specK {r : OpenSpec} {k : Nat} {q : Program} {loose : List Str} {XP : (Str → Option Value) → Heap → Prop} {YP : World → Heap → Prop} {d : DefRec} {K : Params → PySem.W.Frag} {CX : CXT} {ps : List Str} {sp : PySem.W.Frag → Sp}
    (hwell : r.wellSaid = true) (hdf : d.params.defaults = []) (hlen : r.args.length = ps.length) (hr : Room k callerA)
    (hY : ∀ (w : World) (h : Heap), YP w h → (K w.params).In h)
    (F : ∀ (w : World) (mg : Str → Option Value) (fa : Addr) (h : Heap), YP w h → (K w.params).In h → h.Ns mainGlobals mg → mg d.name = some (.ref fa) →
      ∃ fd : FuncData, (∀ (s : Shared) (us : List Value), us.length = ps.length → BindsTo s fd ⟨us, []⟩ (ps.zip us)) ∧
        ∀ base : Heap, (K w.params).In base → base.Ns mainGlobals mg → FnOk r.prog w (K w.params) mg base CX k fa fd ps (sp (K w.params)))
    (hsp : ∀ (K : PySem.W.Frag) (H : Hp) (xs : List V) (a : Codec.denoteAll r.args), OnlyF H → Codec.withinAll r.args a = true → Codec.app r.args r.asked a = true → DwAll K H xs (Codec.encAll r.args a) →
      sp K xs H (fun v H' => Dw K H' v (r.ret.enc (Codec.app r.args r.f a))) fun _ _ _ => False)
    (hCX : ∀ (H : Hp) (s : Shared) (e : Value) (s' : Shared), CX [] H s (fun _ _ _ => False) e s' → False) :
    PySem.W.WalkOS q loose XP YP r d [] (fun f vs => PySem.call f vs) :=
  walk_spec (K := K) (CX := fun _ => CX) (sp := fun w => sp (K w.params)) hwell hdf hlen hr hY F (fun w H xs a h1 h2 h3 h4 => hsp (K w.params) H xs a h1 h2 h3 h4) fun _ H s e s' => hCX H s e s'
end L2
end
end
section
set_option Elab.async false
set_option linter.all false
namespace WL
open Kp134 (Word Rules Text lower alike stands count counts goodWord)
noncomputable def encO : Option Nat → Int
  | none => -1
  | some n => (n : Int)
noncomputable def encT (t : Text) : List Int := t.map encO
noncomputable def encN (l : List Nat) : List Int := l.map fun (n : Nat) => (n : Int)
noncomputable def foldI (x : Int) : Int := if 65 ≤ x ∧ x ≤ 90 then x + 32 else x
theorem encT_some (l : List Nat) : encT (l.map some) = encN l := by
  unfold encT encN
  rw [List.map_map]
  rfl
theorem encT_append (a b : Text) : encT (a ++ b) = encT a ++ encT b := List.map_append
theorem encT_length (t : Text) : (encT t).length = t.length := List.length_map ..
theorem encN_length (t : List Nat) : (encN t).length = t.length := List.length_map ..
theorem foldI_nat (n : Nat) : foldI (n : Int) = ((lower n : Nat) : Int) := by
  unfold foldI lower
  by_cases h : 65 ≤ n ∧ n ≤ 90
  · rw [if_pos (by omega), if_pos h]; omega
  · rw [if_neg (by omega), if_neg h]
theorem foldI_enc : ∀ o : Option Nat, foldI (encO o) = encO (o.map lower)
  | none => rfl
  | some n => foldI_nat n
theorem stands_iff {w : Word} {l : Text} : stands w l = true ↔ w.n ≤ l.length ∧ ∀ i, i < w.n → alike w i (l.getD i none) = true := by
  unfold stands
  simp only [Bool.and_eq_true, beq_iff_eq, List.all_eq_true, List.mem_range, List.length_take]
  constructor
  · rintro ⟨h1, h2⟩
    refine ⟨by omega, fun i hi => ?_⟩
    have q := h2 i hi
    rwa [show (l.take w.n).getD i none = l.getD i none by
      simp only [List.getD_eq_getElem?_getD, List.getElem?_take, if_pos hi]] at q
  · rintro ⟨h1, h2⟩
    refine ⟨by omega, fun i hi => ?_⟩
    rw [show (l.take w.n).getD i none = l.getD i none by
      simp only [List.getD_eq_getElem?_getD, List.getElem?_take, if_pos hi]]
    exact h2 i hi
theorem stands_congr {w : Word} {l l' : Text} (h : l.take w.n = l'.take w.n) : stands w l = stands w l' := by
  unfold stands
  rw [h]
noncomputable def spell (w : Word) : List Int := if w.fold == 1 then (encN (w.b.take w.n)).map foldI else encN (w.b.take w.n)
noncomputable def txt (w : Word) (t : Text) : List Int := if w.fold == 1 then (encT t).map foldI else encT t
theorem txt_length (w : Word) (t : Text) : (txt w t).length = t.length := by
  unfold txt
  split
  · rw [List.length_map, encT_length]
  · exact encT_length t
theorem spell_length {w : Word} (hb : w.b.length = 16) (hn : w.n ≤ 16) : (spell w).length = w.n := by
  unfold spell
  split
  · rw [List.length_map, encN_length, List.length_take]; omega
  · rw [encN_length, List.length_take]; omega
theorem alike_iff {w : Word} {i : Nat} (hi : i < w.n) (hb : w.b.length = 16) (hn : w.n ≤ 16) (t : Text) (ht : i < t.length) : alike w i (t.getD i none) = true ↔ (txt w t)[i]? = (spell w)[i]? := by
  have hib : i < w.b.length := by omega
  have e1 : (w.b.take w.n)[i]? = some w.b[i] := by rw [List.getElem?_take, if_pos hi, List.getElem?_eq_getElem hib]
  have e2 : w.b.getD i 0 = w.b[i] := by simp [List.getD_eq_getElem?_getD, hib]
  have e3 : t.getD i none = t[i] := by simp [List.getD_eq_getElem?_getD, ht]
  rw [e3]
  unfold txt spell encT encN
  cases hf : (w.fold == 1) with
  | false =>
    simp only [if_neg (by decide : ¬ (false = true)), List.getElem?_map, e1, List.getElem?_eq_getElem ht, Option.map_some, Option.some.injEq]
    unfold alike
    cases t[i] with
    | none =>
      constructor
      · intro h; cases h
      · intro h
        have h' : (-1 : Int) = (w.b[i] : Int) := h
        omega
    | some y =>
      simp only [hf, Bool.false_and, Bool.or_false, beq_iff_eq, e2]
      constructor
      · intro h; rw [h]; rfl
      · intro h
        have h' : (y : Int) = (w.b[i] : Int) := h
        omega
  | true =>
    simp only [if_true, List.getElem?_map, e1, List.getElem?_eq_getElem ht, Option.map_some, Option.some.injEq, foldI_enc, foldI_nat]
    unfold alike
    cases t[i] with
    | none =>
      constructor
      · intro h; cases h
      · intro h
        have h' : (-1 : Int) = (lower w.b[i] : Int) := h
        omega
    | some y =>
      simp only [hf, Bool.true_and, Bool.or_eq_true, beq_iff_eq, e2]
      show (y = w.b[i] ∨ lower y = lower w.b[i]) ↔ ((lower y : Nat) : Int) = ((lower w.b[i] : Nat) : Int)
      constructor
      · rintro (h | h)
        · rw [h]
        · rw [h]
      · intro h
        exact .inr (by omega)
theorem stands_take {w : Word} (hb : w.b.length = 16) (hn : w.n ≤ 16) (t : Text) : stands w t = decide ((txt w t).take w.n = spell w) := by
  rw [Bool.eq_iff_iff, stands_iff, decide_eq_true_iff]
  constructor
  · rintro ⟨h1, h2⟩
    apply List.ext_getElem?
    intro i
    rw [List.getElem?_take]
    by_cases hi : i < w.n
    · rw [if_pos hi]
      exact (alike_iff hi hb hn t (by omega)).mp (h2 i hi)
    · rw [if_neg hi]
      exact (List.getElem?_eq_none (by rw [spell_length hb hn]; omega)).symm
  · intro h
    have hl : w.n ≤ t.length := by
      have := congrArg List.length h
      rw [List.length_take, txt_length, spell_length hb hn] at this
      omega
    refine ⟨hl, fun i hi => (alike_iff hi hb hn t (by omega)).mpr ?_⟩
    rw [← h, List.getElem?_take, if_pos hi]
noncomputable def timesL (sp t : List Int) : List Nat → Nat := fun is => (is.filter fun i => decide ((t.drop i).take sp.length = sp)).length
noncomputable def times (sp t : List Int) : Nat := timesL sp t (List.range (t.length + 1 - sp.length))
theorem filter_length_map {α β : Type} (f : α → β) (p : β → Bool) : ∀ l : List α, ((l.map f).filter p).length = (l.filter fun x => p (f x)).length
  | [] => rfl
  | a :: l => by
    rw [List.map_cons, List.filter_cons, List.filter_cons]
    split
    · rw [List.length_cons, List.length_cons, filter_length_map f p l]
    · exact filter_length_map f p l
theorem times_short {sp t : List Int} (h : t.length < sp.length) : times sp t = 0 := by
  unfold times
  rw [show t.length + 1 - sp.length = 0 by omega]
  rfl
theorem times_cons {sp t : List Int} {x : Int} (h : sp.length ≤ t.length + 1) (h1 : 1 ≤ sp.length) : times sp (x :: t) = (if (x :: t).take sp.length = sp then 1 else 0) + times sp t := by
  unfold times timesL
  rw [show (x :: t).length + 1 - sp.length = (t.length + 1 - sp.length) + 1 by rw [List.length_cons]; omega, List.range_succ_eq_map, List.filter_cons]
  have e : ((List.range (t.length + 1 - sp.length)).map Nat.succ |>.filter fun i => decide (((x :: t).drop i).take sp.length = sp)).length = ((List.range (t.length + 1 - sp.length)).filter fun i => decide ((t.drop i).take sp.length = sp)).length := by
    rw [filter_length_map]
    rfl
  by_cases q : (x :: t).take sp.length = sp
  · rw [if_pos (by show decide (((x :: t).drop 0).take sp.length = sp) = true; rw [List.drop_zero]; exact decide_eq_true q), if_pos q, List.length_cons, e]
    omega
  · rw [if_neg (by show ¬ decide (((x :: t).drop 0).take sp.length = sp) = true; rw [List.drop_zero]; simpa using q), if_neg q, e]
    omega
theorem count_times {w : Word} (hb : w.b.length = 16) (hn : w.n ≤ 16) (h1 : 1 ≤ w.n) : ∀ t : Text, count w t = times (spell w) (txt w t)
  | [] => by
    have hl : (spell w).length = w.n := spell_length hb hn
    rw [times_short (by rw [txt_length, hl]; exact h1)]
    rfl
  | x :: t => by
    have hl : (spell w).length = w.n := spell_length hb hn
    have ih := count_times hb hn h1 t
    have et : txt w (x :: t) = (if w.fold == 1 then foldI (encO x) else encO x) :: txt w t := by
      unfold txt
      split <;> rfl
    show (if stands w (x :: t) = true then 1 else 0) + count w t = _
    rw [stands_take hb hn, ih]
    by_cases q : w.n ≤ t.length + 1
    · rw [et, times_cons (by rw [hl, txt_length]; exact q) (by omega), hl]
      congr 1
      simp only [decide_eq_true_eq]
    · have z : times (spell w) (txt w (x :: t)) = 0 := times_short (by rw [hl, txt_length, List.length_cons]; omega)
      have z2 : times (spell w) (txt w t) = 0 := times_short (by rw [hl, txt_length]; omega)
      rw [z, z2, if_neg]
      rw [decide_eq_true_iff]
      intro e
      have := congrArg List.length e
      rw [List.length_take, txt_length, hl, List.length_cons] at this
      omega
theorem take_app_ge {α : Type} {n : Nat} {a b : List α} (h : n ≤ a.length) : (a ++ b).take n = a.take n := by
  rw [List.take_append, show n - a.length = 0 by omega, List.take_zero, List.append_nil]
theorem cut_left {w : Word} (hn : w.n ≤ 16) (B : Text) : ∀ A : Text, count w (A ++ B) + count w (A.drop (A.length - 15)) = count w A + count w (A.drop (A.length - 15) ++ B)
  | [] => by
    show count w B + 0 = 0 + count w B
    omega
  | x :: A => by
    by_cases h : A.length < 15
    · rw [show (x :: A).length - 15 = 0 by rw [List.length_cons]; omega, List.drop_zero]
      omega
    · have ih := cut_left hn B A
      rw [show (x :: A).length - 15 = (A.length - 15) + 1 by rw [List.length_cons]; omega, List.drop_succ_cons]
      show ((if stands w (x :: (A ++ B)) = true then 1 else 0) + count w (A ++ B)) + _ = ((if stands w (x :: A) = true then 1 else 0) + count w A) + _
      rw [show stands w (x :: (A ++ B)) = stands w (x :: A) from stands_congr (take_app_ge (a := x :: A) (by rw [List.length_cons]; omega))]
      omega
theorem cut_right {w : Word} (hn : w.n ≤ 16) (C : Text) : ∀ B : Text, count w (B ++ C) + count w (C.take 15) = count w (B ++ C.take 15) + count w C
  | [] => by
    show count w C + count w (C.take 15) = count w (C.take 15) + count w C
    omega
  | x :: B => by
    have ih := cut_right hn C B
    show ((if stands w (x :: (B ++ C)) = true then 1 else 0) + count w (B ++ C)) + _ = ((if stands w (x :: (B ++ C.take 15)) = true then 1 else 0) + count w (B ++ C.take 15)) + _
    rw [show stands w (x :: (B ++ C)) = stands w (x :: (B ++ C.take 15)) from stands_congr (by
      cases hw : w.n with
      | zero => rfl
      | succ k =>
        rw [List.take_succ_cons, List.take_succ_cons, List.take_append, List.take_append, List.take_take, Nat.min_eq_left (by omega)])]
    omega
theorem window {w : Word} (hn : w.n ≤ 16) (A B C : Text) : count w (A ++ (B ++ C)) + (count w (A.drop (A.length - 15)) + count w (C.take 15)) = count w A + count w C + count w (A.drop (A.length - 15) ++ (B ++ C.take 15)) := by
  have h1 := cut_left hn (B ++ C) A
  have h2 := cut_right hn C (A.drop (A.length - 15) ++ B)
  rw [List.append_assoc, List.append_assoc] at h2
  omega
noncomputable def Le (l l' : Text) : Prop := l.length = l'.length ∧ ∀ (i : Nat) (y : Nat), l.getD i none = some y → l'.getD i none = some y
theorem Le.tail {x y : Option Nat} {l l' : Text} (h : Le (x :: l) (y :: l')) : Le l l' := ⟨by have := h.1; rw [List.length_cons, List.length_cons] at this; omega, fun i z e => h.2 (i + 1) z e⟩
theorem stands_mono {w : Word} {l l' : Text} (h : Le l l') (e : stands w l = true) : stands w l' = true := by
  rw [stands_iff] at e ⊢
  refine ⟨by rw [← h.1]; exact e.1, fun i hi => ?_⟩
  have q := e.2 i hi
  cases z : l.getD i none with
  | none => rw [z] at q; cases q
  | some y => rw [h.2 i y z]; rw [z] at q; exact q
theorem count_mono {w : Word} : ∀ {l l' : Text}, Le l l' → count w l ≤ count w l'
  | [], [], _ => Nat.le_refl _
  | [], _ :: _, h => by have := h.1; simp at this
  | _ :: _, [], h => by have := h.1; simp at this
  | x :: l, y :: l', h => by
    have ih := count_mono (w := w) h.tail
    show (if stands w (x :: l) = true then 1 else 0) + count w l ≤ (if stands w (y :: l') = true then 1 else 0) + count w l'
    by_cases e : stands w (x :: l) = true
    · rw [if_pos e, if_pos (stands_mono h e)]; omega
    · rw [if_neg e]; omega
theorem Le.app (a : Text) {l l' : Text} (h : Le l l') : Le (a ++ l) (a ++ l') := by
  refine ⟨by rw [List.length_append, List.length_append, h.1], fun i y e => ?_⟩
  simp only [List.getD_eq_getElem?_getD] at e ⊢
  by_cases hi : i < a.length
  · rw [List.getElem?_append_left hi] at e ⊢; exact e
  · rw [List.getElem?_append_right (by omega)] at e ⊢
    have := h.2 (i - a.length) y
    simp only [List.getD_eq_getElem?_getD] at this
    exact this e
end WL
end
section
set_option Elab.async false
set_option linter.all false
namespace WL
open Kp134 (Word Rules Text lower alike stands count counts goodWord)
open Kp135 (ROUND WINDOW off here beyond clash fill with_ received)
theorem off_eq {s : Kp135.Stream} {place : Nat} (hb : s.base < ROUND) (hp : place < ROUND) : off s place = ((place : Int) - (s.base : Int) + 2147483648) % 4294967296 - 2147483648 := by
  unfold off
  unfold ROUND at *
  simp only []
  split <;> omega
theorem off_range {s : Kp135.Stream} {place : Nat} (hb : s.base < ROUND) (hp : place < ROUND) : -2147483648 ≤ off s place ∧ off s place < 2147483648 := by
  rw [off_eq hb hp]
  omega
noncomputable def hereFrom : Nat → List Nat → List (Nat × Nat)
  | _, [] => []
  | k, x :: r => (k, x) :: hereFrom (k + 1) r
noncomputable def hereO (o : Int) (b : List Nat) : List (Nat × Nat) := (List.range b.length).filterMap fun (i : Nat) =>
  let k := o + (i : Int)
  if k < 0 then none else some (k.toNat, b.getD i 0)
theorem here_eq (s : Kp135.Stream) (place : Nat) (b : List Nat) : here s place b = hereO (off s place) b := rfl
theorem hereO_cons (o : Int) (x : Nat) (b : List Nat) : hereO o (x :: b) = (if o < 0 then [] else [(o.toNat, x)]) ++ hereO (o + 1) b := by
  unfold hereO
  rw [List.length_cons, List.range_succ_eq_map, List.filterMap_cons, List.filterMap_map]
  have e : (List.range b.length).filterMap ((fun (i : Nat) => if o + (i : Int) < 0 then none else some ((o + (i : Int)).toNat, (x :: b).getD i 0)) ∘ Nat.succ) = (List.range b.length).filterMap fun (i : Nat) => if o + 1 + (i : Int) < 0 then none else some ((o + 1 + (i : Int)).toNat, b.getD i 0) := by
    congr 1
    funext i
    show (if o + ((i + 1 : Nat) : Int) < 0 then none else some ((o + ((i + 1 : Nat) : Int)).toNat, (x :: b).getD (i + 1) 0)) = _
    rw [show o + ((i + 1 : Nat) : Int) = o + 1 + (i : Int) by omega]
    rfl
  simp only [] at e ⊢
  rw [e]
  by_cases h : o < 0
  · rw [if_pos (by omega), if_pos h]
    rfl
  · rw [if_neg (by omega), if_neg h]
    show (((o + ((0 : Nat) : Int)).toNat, (x :: b).getD 0 0) :: _) = _
    rw [show o + ((0 : Nat) : Int) = o by omega]
    rfl
theorem hereO_from : ∀ (b : List Nat) (o : Int), hereO o b = hereFrom o.toNat (b.drop (-o).toNat)
  | [], o => by
    rw [List.drop_nil]
    rfl
  | x :: b, o => by
    rw [hereO_cons, hereO_from b (o + 1)]
    by_cases h : o < 0
    · rw [if_pos h, List.nil_append]
      rw [show (-o).toNat = (-(o + 1)).toNat + 1 by omega, List.drop_succ_cons, show (o + 1).toNat = o.toNat by omega]
    · rw [if_neg h, show (-o).toNat = 0 by omega, show (-(o + 1)).toNat = 0 by omega, List.drop_zero, List.drop_zero, show (o + 1).toNat = o.toNat + 1 by omega]
      rfl
theorem hereFrom_any (p : Nat → Bool) (hp : ∀ i j, i ≤ j → p i = true → p j = true) : ∀ (b : List Nat) (k : Nat), b ≠ [] → (hereFrom k b).any (fun x => p x.1) = p (k + b.length - 1)
  | [], k, h => (h rfl).elim
  | [x], k, _ => by
    show (p k || false) = p (k + 1 - 1)
    rw [Bool.or_false]
    rfl
  | x :: y :: b, k, _ => by
    have ih := hereFrom_any p hp (y :: b) (k + 1) (by simp)
    show (p k || (hereFrom (k + 1) (y :: b)).any fun x => p x.1) = _
    rw [ih, show k + (x :: y :: b).length - 1 = k + 1 + (y :: b).length - 1 by rw [List.length_cons (a := x)]; omega]
    cases h : p k with
    | false => rfl
    | true => rw [hp k _ (by rw [List.length_cons]; omega) h]; rfl
theorem beyond_eq {s : Kp135.Stream} {place : Nat} {b : List Nat} (hb : 1 ≤ b.length) (hb2 : b.length ≤ 1500) : beyond s place b = decide (4096 < off s place + (b.length : Int)) := by
  unfold beyond
  rw [here_eq, hereO_from]
  by_cases h : b.drop (-(off s place)).toNat = []
  · rw [h]
    have : b.length ≤ (-(off s place)).toNat := List.drop_eq_nil_iff.mp h
    show false = _
    symm
    rw [decide_eq_false_iff_not]
    omega
  · have hd : (-(off s place)).toNat < b.length := by
      rcases Nat.lt_or_ge (-(off s place)).toNat b.length with q | q
      · exact q
      · exact (h (List.drop_eq_nil_iff.mpr q)).elim
    rw [hereFrom_any (fun i => decide (WINDOW ≤ i)) (fun i j hij hi => by rw [decide_eq_true_iff] at hi ⊢; omega) _ _ h, List.length_drop]
    rw [Bool.eq_iff_iff, decide_eq_true_iff, decide_eq_true_iff]
    unfold WINDOW
    omega
noncomputable def toldOf (o : Int) (b : List Nat) : List Nat := b.drop (-o).toNat
theorem fill_from : ∀ (told : List Nat) (k : Nat) (l : Text), k + told.length ≤ l.length → (hereFrom k told).foldl (fun l x => l.set x.1 (some x.2)) l = l.take k ++ (told.map some ++ l.drop (k + told.length))
  | [], k, l, _ => by
    show l = l.take k ++ ([] ++ l.drop (k + 0))
    rw [List.nil_append, Nat.add_zero, List.take_append_drop]
  | x :: r, k, l, h => by
    rw [List.length_cons] at h
    have hk : k < l.length := by omega
    show (hereFrom (k + 1) r).foldl (fun l x => l.set x.1 (some x.2)) (l.set k (some x)) = _
    rw [fill_from r (k + 1) (l.set k (some x)) (by rw [List.length_set]; omega)]
    have e1 : (l.set k (some x)).take (k + 1) = l.take k ++ [some x] := by
      rw [List.set_eq_take_append_cons_drop, if_pos hk, List.take_append, List.length_take, Nat.min_eq_left (by omega), List.take_take, Nat.min_eq_right (by omega), show k + 1 - k = 1 by omega]
      rfl
    have e2 : (l.set k (some x)).drop (k + 1 + r.length) = l.drop (k + (r.length + 1)) := by
      rw [List.drop_set_of_lt (by omega), show k + 1 + r.length = k + (r.length + 1) by omega]
    rw [e1, e2, List.append_assoc]
    rfl
theorem told_len {o : Int} {b : List Nat} (hb : 1 ≤ b.length) (h : o + (b.length : Int) ≤ 4096) : o.toNat + (toldOf o b).length ≤ 4096 := by
  unfold toldOf
  rw [List.length_drop]
  omega
theorem fill_eq' {s : Kp135.Stream} {place : Nat} {b : List Nat} (hl : s.known.length = 4096) (hb : 1 ≤ b.length) (h : (off s place) + (b.length : Int) ≤ 4096) :
    fill s place b = s.known.take (off s place).toNat ++ ((toldOf (off s place) b).map some ++ s.known.drop ((off s place).toNat + (toldOf (off s place) b).length)) := by
  unfold fill
  rw [here_eq, hereO_from]
  exact fill_from _ _ _ (by rw [hl]; exact told_len hb h)
theorem fill_len {s : Kp135.Stream} {place : Nat} {b : List Nat} : (fill s place b).length = s.known.length := by
  unfold fill
  generalize here s place b = l
  generalize s.known = t
  induction l generalizing t with
  | nil => rfl
  | cons x l ih =>
    rw [List.foldl_cons, ih, List.length_set]
theorem clash_from : ∀ (told : List Nat) (k : Nat) (l : Text), k + told.length ≤ l.length →
    (hereFrom k told).any (fun x => match l.getD x.1 none with | none => false | some y => y != x.2) = (((l.drop k).take told.length).zip told).any fun p => decide (encO p.1 ≠ -1) && decide (encO p.1 ≠ (p.2 : Int))
  | [], k, l, _ => by
    show false = _
    rw [List.length_nil, List.take_zero]
    rfl
  | x :: r, k, l, h => by
    rw [List.length_cons] at h
    have hk : k < l.length := by omega
    have ih := clash_from r (k + 1) l (by omega)
    show ((match l.getD k none with | none => false | some y => y != x) || (hereFrom (k + 1) r).any _) = _
    rw [ih, List.length_cons, List.drop_eq_getElem_cons hk, List.take_succ_cons, List.zip_cons_cons, List.any_cons]
    congr 1
    rw [show l.getD k none = l[k] by simp [List.getD_eq_getElem?_getD, hk]]
    cases l[k] with
    | none => rfl
    | some y =>
      show (y != x) = (decide ((y : Int) ≠ -1) && decide ((y : Int) ≠ (x : Int)))
      rw [decide_eq_true (by omega), Bool.true_and, Bool.eq_iff_iff, decide_eq_true_iff, bne_iff_ne]
      omega
theorem clash_eq {s : Kp135.Stream} {place : Nat} {b : List Nat} (hl : s.known.length = 4096) (hb : 1 ≤ b.length) (h : (off s place) + (b.length : Int) ≤ 4096) :
    clash s place b = (((s.known.drop (off s place).toNat).take (toldOf (off s place) b).length).zip (toldOf (off s place) b)).any fun p => decide (encO p.1 ≠ -1) && decide (encO p.1 ≠ (p.2 : Int)) := by
  unfold clash
  rw [here_eq, hereO_from]
  exact clash_from _ _ _ (by rw [hl]; exact told_len hb h)
theorem fill_le {s : Kp135.Stream} {place : Nat} {b : List Nat} (hl : s.known.length = 4096) (hb : 1 ≤ b.length) (h : (off s place) + (b.length : Int) ≤ 4096) (hc : clash s place b = false) : Le s.known (fill s place b) := by
  refine ⟨fill_len.symm, fun i y e => ?_⟩
  have hf := fill_eq' hl hb h
  have ht := told_len hb h
  rw [hf]
  generalize hk : (off s place).toNat = k at *
  generalize htd : toldOf (off s place) b = told at *
  have hc' : (((s.known.drop k).take told.length).zip told).any (fun p => decide (encO p.1 ≠ -1) && decide (encO p.1 ≠ (p.2 : Int))) = false := by
    rw [← hc, clash_eq hl hb h, hk, htd]
  simp only [List.getD_eq_getElem?_getD] at e ⊢
  have hi : i < s.known.length := by
    rcases Nat.lt_or_ge i s.known.length with q | q
    · exact q
    · rw [List.getElem?_eq_none q] at e; cases e
  have hlen : (s.known.take k).length = k := by rw [List.length_take]; omega
  by_cases h1 : i < k
  · rw [List.getElem?_append_left (by omega), List.getElem?_take, if_pos h1]; exact e
  · by_cases h2 : i < k + told.length
    · rw [List.getElem?_append_right (by omega), hlen, List.getElem?_append_left (by rw [List.length_map]; omega), List.getElem?_map]
      have hj : i - k < told.length := by omega
      rw [List.getElem?_eq_getElem hj, Option.map_some, Option.getD_some]
      rw [List.any_eq_false] at hc'
      have hz : (((s.known.drop k).take told.length).zip told)[i - k]? = some (some y, told[i - k]) := by
        rw [List.getElem?_zip_eq_some]
        refine ⟨?_, List.getElem?_eq_getElem hj⟩
        rw [List.getElem?_take, if_pos hj, List.getElem?_drop, show k + (i - k) = i by omega, List.getElem?_eq_getElem hi]
        rw [List.getElem?_eq_getElem hi, Option.getD_some] at e
        rw [e]
      have q := hc' _ (List.mem_of_getElem? hz)
      have q' : ¬ ((decide ((y : Int) ≠ -1) && decide ((y : Int) ≠ (told[i - k] : Int))) = true) := q
      rw [Bool.and_eq_true, decide_eq_true_iff, decide_eq_true_iff] at q'
      congr 1
      omega
    · rw [List.getElem?_append_right (by omega), hlen, List.getElem?_append_right (by rw [List.length_map]; omega), List.length_map, List.getElem?_drop]
      rw [show k + told.length + (i - k - told.length) = i by omega]
      exact e
noncomputable def win (tail known : Text) (k n : Nat) : Text := ((tail ++ known).drop (tail.length + k - 15)).take (tail.length + k + n + 15 - (tail.length + k - 15))
theorem win_split (T : Text) (m n : Nat) (h : m + n ≤ T.length) : ((T.drop (m - 15)).take (m + n + 15 - (m - 15))) = (T.take m).drop ((T.take m).length - 15) ++ ((T.drop m).take n ++ (T.drop (m + n)).take 15) := by
  have hmT : m ≤ T.length := Nat.le_trans (Nat.le_add_right m n) h
  have hm : (T.take m).length = m := by rw [List.length_take]; exact Nat.min_eq_left hmT
  rw [hm, List.drop_take]
  have e : T.drop (m - 15) = (T.drop (m - 15)).take (m - (m - 15)) ++ T.drop m := by
    have := (List.take_append_drop (m - (m - 15)) (T.drop (m - 15))).symm
    rw [List.drop_drop, show m - 15 + (m - (m - 15)) = m from Nat.add_sub_of_le (Nat.sub_le m 15)] at this
    exact this
  have e2 : T.drop m = (T.drop m).take n ++ T.drop (m + n) := by
    have := (List.take_append_drop n (T.drop m)).symm
    rw [List.drop_drop] at this
    exact this
  have l1 : ((T.drop (m - 15)).take (m - (m - 15))).length = m - (m - 15) := by rw [List.length_take, List.length_drop]; exact Nat.min_eq_left (Nat.sub_le_sub_right hmT _)
  have l2 : ((T.drop m).take n).length = n := by rw [List.length_take, List.length_drop]; exact Nat.min_eq_left (Nat.le_sub_of_add_le (by rw [Nat.add_comm]; exact h))
  rw [e, List.take_append, l1, List.take_of_length_le (by rw [l1]; exact Nat.sub_le_sub_right (Nat.le_trans (Nat.le_add_right m n) (Nat.le_add_right _ 15)) _)]
  congr 1
  · rw [← e]
  · rw [e2, List.take_append, l2, List.take_of_length_le (by rw [l2]; omega)]
    congr 1
    · rw [← e2]
    · congr 1
      omega
theorem win_count {w : Word} (hn : w.n ≤ 16) {tail known known' : Text} {k n : Nat} (hl : known.length = known'.length) (hk : k + n ≤ known.length) (h1 : known.take k = known'.take k) (h2 : known.drop (k + n) = known'.drop (k + n)) :
    count w (tail ++ known') + count w (win tail known k n) = count w (tail ++ known) + count w (win tail known' k n) := by
  have f : ∀ kn : Text, k + n ≤ kn.length → count w (tail ++ kn) + (count w ((tail ++ kn.take k).drop ((tail ++ kn.take k).length - 15)) + count w ((kn.drop (k + n)).take 15)) = count w (tail ++ kn.take k) + count w (kn.drop (k + n)) + count w (win tail kn k n) := fun kn hkn => by
    have A : (tail ++ kn).take (tail.length + k) = tail ++ kn.take k := by rw [List.take_append, List.take_of_length_le (by omega), show tail.length + k - tail.length = k by omega]
    have C : (tail ++ kn).drop (tail.length + k + n) = kn.drop (k + n) := by rw [List.drop_append, List.drop_eq_nil_of_le (by omega), List.nil_append, show tail.length + k + n - tail.length = k + n by omega]
    have sp := win_split (tail ++ kn) (tail.length + k) n (by rw [List.length_append]; omega)
    have q := window hn ((tail ++ kn).take (tail.length + k)) (((tail ++ kn).drop (tail.length + k)).take n) ((tail ++ kn).drop (tail.length + k + n))
    have whole : (tail ++ kn).take (tail.length + k) ++ (((tail ++ kn).drop (tail.length + k)).take n ++ (tail ++ kn).drop (tail.length + k + n)) = tail ++ kn := by
      have e2 : ((tail ++ kn).drop (tail.length + k)).take n ++ (tail ++ kn).drop (tail.length + k + n) = (tail ++ kn).drop (tail.length + k) := by
        have := List.take_append_drop n ((tail ++ kn).drop (tail.length + k))
        rw [List.drop_drop] at this
        exact this
      rw [e2, List.take_append_drop]
    rw [whole, ← sp, A, C] at q
    exact q
  have q1 := f known hk
  have q2 := f known' (by omega)
  rw [← h1, ← h2] at q2
  omega
end WL
end
section
set_option Elab.async false
set_option linter.all false
namespace WL
open Kp134 (Word Rules Text lower alike stands count counts goodWord)
open Kp135 (ROUND WINDOW off here beyond clash fill with_ received Abs)
noncomputable def rowsOf (r : List Int) : List (List Int) := (List.range (r.length / 20)).map fun i => (r.drop (20 * i)).take 20
theorem chunksBy_eq : ∀ (k f : Nat) (l : List Int), l.length = 20 * k → k ≤ f → Kp135Neutral.chunksBy 20 f l = (List.range k).map fun i => (l.drop (20 * i)).take 20
  | 0, f, l, h, _ => by
    have e : l = [] := List.eq_nil_of_length_eq_zero (by omega)
    subst e
    cases f <;> rfl
  | k + 1, 0, l, h, hf => by omega
  | k + 1, f + 1, l, h, hf => by
    have hne : ¬ l = [] := fun e => by rw [e] at h; simp at h
    show (if l = [] then [] else l.take 20 :: Kp135Neutral.chunksBy 20 f (l.drop 20)) = _
    rw [if_neg hne, chunksBy_eq k f (l.drop 20) (by rw [List.length_drop]; omega) (by omega), List.range_succ_eq_map, List.map_cons, List.map_map]
    congr 1
    apply List.map_congr_left
    intro i _
    show ((l.drop 20).drop (20 * i)).take 20 = (l.drop (20 * (i + 1))).take 20
    rw [List.drop_drop, show 20 + 20 * i = 20 * (i + 1) by omega]
theorem chunks_eq {r : List Int} (h : r.length % 20 = 0) : Kp135Neutral.chunks 20 r = rowsOf r :=
  chunksBy_eq (r.length / 20) r.length r (by omega) (by omega)
theorem rowsOf_length (r : List Int) : (rowsOf r).length = r.length / 20 := by
  unfold rowsOf
  rw [List.length_map, List.length_range]
theorem rowsOf_get {r : List Int} {i : Nat} (h : i < r.length / 20) : (rowsOf r)[i]? = some ((r.drop (20 * i)).take 20) := by
  unfold rowsOf
  rw [List.getElem?_map, List.getElem?_range h]
  rfl
theorem rowsOf_len {r row : List Int} (h : row ∈ rowsOf r) : row.length = 20 := by
  unfold rowsOf at h
  obtain ⟨i, hi, rfl⟩ := List.mem_map.mp h
  rw [List.mem_range] at hi
  rw [List.length_take, List.length_drop]
  omega
theorem rowsOf_mem {r row : List Int} (h : row ∈ rowsOf r) {z : Int} (hz : z ∈ row) : z ∈ r := by
  unfold rowsOf at h
  obtain ⟨i, hi, rfl⟩ := List.mem_map.mp h
  exact List.mem_of_mem_drop (List.mem_of_mem_take hz)
noncomputable def wordsOf (r : List Int) : List Word := (rowsOf r).map Kp135Neutral.word
theorem rules_count {r : List Int} (h : r.length % 20 = 0) : (Kp135Neutral.rules r).count = r.length / 20 := by
  show ((Kp135Neutral.chunks 20 r).map Kp135Neutral.word).length = _
  rw [List.length_map, chunks_eq h, rowsOf_length]
theorem rules_words {r : List Int} (h : r.length % 20 = 0) (h64 : r.length / 20 ≤ 64) : (Kp135Neutral.rules r).words = wordsOf r := by
  show ((((Kp135Neutral.chunks 20 r).map Kp135Neutral.word) ++ _).take 64).take ((Kp135Neutral.chunks 20 r).map Kp135Neutral.word).length = _
  have hl : ((Kp135Neutral.chunks 20 r).map Kp135Neutral.word).length = r.length / 20 := rules_count h
  rw [List.take_take, Nat.min_eq_left (by rw [hl]; exact h64), List.take_append, Nat.sub_self, List.take_zero, List.append_nil, List.take_of_length_le (Nat.le_refl _), chunks_eq h]
  rfl
theorem good_eq {r : List Int} (h : r.length % 20 = 0) : Kp134.good (Kp135Neutral.rules r) = (decide (1 ≤ r.length / 20) && decide (r.length / 20 ≤ 64) && (rowsOf r).all fun row => goodWord (Kp135Neutral.word row)) := by
  unfold Kp134.good
  rw [rules_count h]
  by_cases h64 : r.length / 20 ≤ 64
  · rw [rules_words h h64]
    unfold wordsOf
    rw [List.all_map]
    rfl
  · rw [decide_eq_false h64, Bool.and_false, Bool.false_and, Bool.false_and]
noncomputable def Bytes (l : List Int) : Prop := ∀ z ∈ l, 0 ≤ z ∧ z < 256
theorem Bytes.sub {l m : List Int} (h : Bytes l) (s : ∀ z ∈ m, z ∈ l) : Bytes m := fun z hz => h z (s z hz)
noncomputable def rowOk (row : List Int) : Bool := if row.getD 0 0 < 1 ∨ 16 < row.getD 0 0 then false else decide (row.getD 1 0 ≤ 1) && (decide (row.getD 2 0 ≤ 127) && decide (row.getD 3 0 = 0))
theorem getD_bytes {l : List Int} (h : Bytes l) (i : Nat) : 0 ≤ l.getD i 0 ∧ l.getD i 0 < 256 := by
  rw [List.getD_eq_getElem?_getD]
  cases e : l[i]? with
  | none => exact ⟨Int.le_refl 0, by decide⟩
  | some z => exact h z (List.mem_of_getElem? e)
theorem rowOk_eq {row : List Int} (h : Bytes row) : rowOk row = goodWord (Kp135Neutral.word row) := by
  have h0 := getD_bytes h 0
  have h1 := getD_bytes h 1
  have h2 := getD_bytes h 2
  have h3 := getD_bytes h 3
  unfold rowOk goodWord Kp135Neutral.word
  simp only []
  generalize row.getD 0 0 = a at *
  generalize row.getD 1 0 = b at *
  generalize row.getD 2 0 = c at *
  generalize row.getD 3 0 = d at *
  by_cases hc : a < 1 ∨ 16 < a
  · rw [if_pos hc]
    rcases hc with hc | hc
    · rw [decide_eq_false (show ¬ 1 ≤ a.toNat by omega)]
      rfl
    · rw [decide_eq_false (show ¬ a.toNat ≤ 16 by omega), Bool.and_false]
      rfl
  · rw [if_neg hc, decide_eq_true (show 1 ≤ a.toNat by omega), decide_eq_true (show a.toNat ≤ 16 by omega), Bool.true_and, Bool.true_and]
    rw [Bool.eq_iff_iff]
    simp only [Bool.and_eq_true, decide_eq_true_eq, beq_iff_eq]
    omega
noncomputable def rulesOk (r : List Int) : Bool := if r.length / 20 < 1 ∨ 64 < r.length / 20 then false else (rowsOf r).all rowOk
theorem rulesOk_eq {r : List Int} (h : r.length % 20 = 0) (hb : Bytes r) : rulesOk r = Kp134.good (Kp135Neutral.rules r) := by
  rw [good_eq h]
  unfold rulesOk
  by_cases hc : r.length / 20 < 1 ∨ 64 < r.length / 20
  · rw [if_pos hc]
    rcases hc with hc | hc
    · rw [decide_eq_false (show ¬ 1 ≤ r.length / 20 by omega)]
      rfl
    · rw [decide_eq_false (show ¬ r.length / 20 ≤ 64 by omega), Bool.and_false]
      rfl
  · rw [if_neg hc, decide_eq_true (show 1 ≤ r.length / 20 by omega), decide_eq_true (show r.length / 20 ≤ 64 by omega), Bool.true_and, Bool.true_and]
    have e : ∀ row ∈ rowsOf r, rowOk row = goodWord (Kp135Neutral.word row) := fun row hrow => rowOk_eq (hb.sub fun z hz => rowsOf_mem hrow hz)
    rw [Bool.eq_iff_iff, List.all_eq_true, List.all_eq_true]
    constructor
    · intro q row hrow
      rw [← e row hrow]
      exact q row hrow
    · intro q row hrow
      rw [e row hrow]
      exact q row hrow
structure WOk (w : Word) : Prop where
  good : goodWord w = true
  len : w.b.length = 16
theorem WOk.n16 {w : Word} (h : WOk w) : w.n ≤ 16 := by
  have q := h.good
  unfold goodWord at q
  simp only [Bool.and_eq_true, decide_eq_true_eq] at q
  exact q.1.1.1.2
theorem WOk.n1 {w : Word} (h : WOk w) : 1 ≤ w.n := by
  have q := h.good
  unfold goodWord at q
  simp only [Bool.and_eq_true, decide_eq_true_eq] at q
  exact q.1.1.1.1
theorem WOk.w127 {w : Word} (h : WOk w) : w.weight ≤ 127 := by
  have q := h.good
  unfold goodWord at q
  simp only [Bool.and_eq_true, decide_eq_true_eq] at q
  exact q.1.2
theorem WOk.count {w : Word} (h : WOk w) (t : Text) : Kp134.count w t = times (spell w) (txt w t) := count_times h.len h.n16 h.n1 t
theorem wordsOf_ok {r : List Int} (h : (rowsOf r).all (fun row => goodWord (Kp135Neutral.word row)) = true) : ∀ w ∈ wordsOf r, WOk w := fun w hw => by
  unfold wordsOf at hw
  obtain ⟨row, hrow, rfl⟩ := List.mem_map.mp hw
  refine ⟨List.all_eq_true.mp h row hrow, ?_⟩
  show (Kp135Neutral.nats (row.drop 4)).length = 16
  unfold Kp135Neutral.nats
  rw [List.length_map, List.length_drop, rowsOf_len hrow]
noncomputable def weigh (ws : List Word) (c : List Nat) : Nat := ((ws.zip c).map fun p => p.1.weight * min p.2 255).sum
theorem foldl_add_sum : ∀ (l : List Nat) (a : Nat), l.foldl (· + ·) a = a + l.sum
  | [], a => by simp
  | x :: l, a => by rw [List.foldl_cons, foldl_add_sum l, List.sum_cons]; omega
theorem range_getD_zip {γ : Type} (f : Word → Nat → γ) (d : Word) : ∀ (ws : List Word) (c : List Nat), ws.length = c.length → (List.range ws.length).map (fun i => f (ws.getD i d) (c.getD i 0)) = (ws.zip c).map fun p => f p.1 p.2
  | [], [], _ => rfl
  | [], _ :: _, h => by simp at h
  | _ :: _, [], h => by simp at h
  | w :: ws, x :: c, h => by
    rw [List.length_cons, List.range_succ_eq_map, List.map_cons, List.map_map, List.zip_cons_cons, List.map_cons]
    congr 1
    exact range_getD_zip f d ws c (by rw [List.length_cons, List.length_cons] at h; omega)
theorem weight_eq {r : Rules} {c : List Nat} (h : r.words.length = c.length) : Kp134.weight r c = weigh r.words c := by
  unfold Kp134.weight weigh
  rw [foldl_add_sum, Nat.zero_add, range_getD_zip (fun w n => min Kp134.FULL n * w.weight) _ r.words c h]
  congr 1
  apply List.map_congr_left
  intro p _
  show min 255 p.2 * p.1.weight = p.1.weight * min p.2 255
  rw [Nat.mul_comm, Nat.min_comm]
noncomputable def foundWith (ws : List Word) (found : List Nat) (t t' : Text) : List Nat := (ws.zip found).map fun p => p.2 + (Kp134.count p.1 t' - Kp134.count p.1 t)
theorem with_found {r : Rules} {s : Kp135.Stream} {place : Nat} {b : List Nat} (h : r.words.length = s.found.length) : (with_ r s place b).found = foundWith r.words s.found (s.tail.map some ++ s.known) (s.tail.map some ++ fill s place b) := by
  unfold foundWith
  rw [← range_getD_zip (fun w n => n + (Kp134.count w (s.tail.map some ++ fill s place b) - Kp134.count w (s.tail.map some ++ s.known))) ⟨0, 0, 0, 0, []⟩ r.words s.found h]
  rfl
theorem foundWith_length {ws : List Word} {found : List Nat} {t t' : Text} (h : ws.length = found.length) : (foundWith ws found t t').length = ws.length := by
  unfold foundWith
  rw [List.length_map, List.length_zip]
  omega
structure SOk (ws : List Word) (s : Kp135.Stream) : Prop where
  base : s.base < ROUND
  tail : s.tail.length ≤ 15
  known : s.known.length = 4096
  found : ws.length = s.found.length
  name : s.name.length = 16
structure AOk (a : Abs) : Prop where
  words : ∀ w ∈ a.rules.words, WOk w
  wlen : a.rules.words.length ≤ 64
  few : a.streams.length ≤ 64
  nd : (a.streams.map (·.name)).Nodup
  ok : ∀ s ∈ a.streams, SOk a.rules.words s
noncomputable abbrev stepS := Kp135Neutral.step
noncomputable def Form (c : List (List Int)) : Prop := (∃ n r, c = [[0, n], r]) ∨ (∃ p x, c = [[1, p], x]) ∨ (∃ p x b, c = [[2, p], x, b]) ∨ (∃ p x, c = [[3, p], x]) ∨ (∃ x, c = [[4], x]) ∨ ∃ x, c = [[5], x]
theorem len_one {α : Type} : ∀ {l : List α}, 1 = l.length → ∃ x, l = [x]
  | [x], _ => ⟨x, rfl⟩
theorem len_two {α : Type} : ∀ {l : List α}, 2 = l.length → ∃ x y, l = [x, y]
  | [x, y], _ => ⟨x, y, rfl⟩
theorem len_none {α : Type} : ∀ {l : List α}, 0 = l.length → l = []
  | [], _ => rfl
theorem pair_of {m n a b : Nat} (h : some (m, n) = some (a, b)) : m = a ∧ n = b := by
  cases h
  exact ⟨rfl, rfl⟩
theorem form_of {c : List (List Int)} (h : PyFlat.okCall PyKp135.shape c) : Form c := by
  obtain ⟨p, a, xs, rfl, h⟩ := h
  unfold PyKp135.shape at h
  by_cases h0 : p = 0
  · rw [if_pos h0] at h
    obtain ⟨x, rfl⟩ := len_one (pair_of h).1
    obtain ⟨y, rfl⟩ := len_one (pair_of h).2
    rw [h0]
    exact .inl ⟨x, y, rfl⟩
  rw [if_neg h0] at h
  by_cases h1 : p = 1
  · rw [if_pos h1] at h
    obtain ⟨x, rfl⟩ := len_one (pair_of h).1
    obtain ⟨y, rfl⟩ := len_one (pair_of h).2
    rw [h1]
    exact .inr (.inl ⟨x, y, rfl⟩)
  rw [if_neg h1] at h
  by_cases h2 : p = 2
  · rw [if_pos h2] at h
    obtain ⟨x, rfl⟩ := len_one (pair_of h).1
    obtain ⟨y, u, rfl⟩ := len_two (pair_of h).2
    rw [h2]
    exact .inr (.inr (.inl ⟨x, y, u, rfl⟩))
  rw [if_neg h2] at h
  by_cases h3 : p = 3
  · rw [if_pos h3] at h
    obtain ⟨x, rfl⟩ := len_one (pair_of h).1
    obtain ⟨y, rfl⟩ := len_one (pair_of h).2
    rw [h3]
    exact .inr (.inr (.inr (.inl ⟨x, y, rfl⟩)))
  rw [if_neg h3] at h
  by_cases h4 : p = 4
  · rw [if_pos h4] at h
    have e := len_none (pair_of h).1
    subst e
    obtain ⟨y, rfl⟩ := len_one (pair_of h).2
    rw [h4]
    exact .inr (.inr (.inr (.inr (.inl ⟨y, rfl⟩))))
  rw [if_neg h4] at h
  by_cases h5 : p = 5
  · rw [if_pos h5] at h
    have e := len_none (pair_of h).1
    subst e
    obtain ⟨y, rfl⟩ := len_one (pair_of h).2
    rw [h5]
    exact .inr (.inr (.inr (.inr (.inr ⟨y, rfl⟩))))
  rw [if_neg h5] at h
  cases h
theorem Form.whole {c : List (List Int)} (h : Form c) : PyKp135.whole c = c := by
  rcases h with ⟨_, _, rfl⟩ | ⟨_, _, rfl⟩ | ⟨_, _, _, rfl⟩ | ⟨_, _, rfl⟩ | ⟨_, rfl⟩ | ⟨_, rfl⟩ <;> rfl
noncomputable def outOf (s : Kp135Neutral.S) (cs : List (List (List Int))) : List Int := PyFlat.told (PyFlat.played stepS s cs)
theorem outOf_nil (s : Kp135Neutral.S) : outOf s [] = [] := rfl
theorem outOf_cons (s : Kp135Neutral.S) (c : List (List Int)) (cs : List (List (List Int))) : outOf s (c :: cs) = (((stepS s c).2.length : Int) :: (stepS s c).2) ++ outOf (stepS s c).1 cs := rfl
theorem answers_of {l : List Int} (h : PyKp135.answers_asked l = true) : ∃ cs, l = PyFlat.put cs ∧ cs.length ≤ 3000 ∧ (∀ c ∈ cs, Form c) ∧ Kp135Neutral.askedFrom Kp135Neutral.start cs = true ∧ PyKp135.answers l = outOf Kp135Neutral.start cs := by
  unfold PyKp135.answers_asked at h
  unfold PyKp135.answers
  cases e : PyKp135.calls l with
  | none => rw [e] at h; cases h
  | some cs =>
    rw [e] at h
    simp only [Bool.and_eq_true] at h
    obtain ⟨h1, h2⟩ := h
    have hc : PyFlat.calls PyKp135.shape l.length l = some cs ∧ ∀ c ∈ cs, Form c := by
      unfold PyKp135.calls at e
      cases q : PyFlat.calls PyKp135.shape l.length l with
      | none => rw [q] at e; cases e
      | some ds =>
        rw [q] at e
        have e' : ds.map PyKp135.whole = cs := Option.some.inj e
        have ok : ∀ c ∈ ds, Form c := fun c h => form_of ((PyFlat.put_calls _ _ _ q).2 c h)
        have e2 : ds.map PyKp135.whole = ds.map id := List.map_congr_left fun c h => (ok c h).whole
        rw [e2, List.map_id] at e'
        rw [← e']
        exact ⟨rfl, ok⟩
    refine ⟨cs, (PyFlat.put_calls _ _ _ hc.1).1, of_decide_eq_true h1, hc.2, ?_, rfl⟩
    unfold Kp135Neutral.asked at h2
    simp only [Bool.and_eq_true] at h2
    exact h2.2.2
noncomputable def absOf (s : Kp135Neutral.S) : Abs := s.getD Kp135Neutral.dummy
theorem step_abs {s : Kp135Neutral.S} {c : List (List Int)} {q : Kp135.Call} (hq : Kp135Neutral.callOf c = some q) (hm : s.isSome = true ∨ ∃ r n k w, q = .start r n k w) :
    absOf (stepS s c).1 = (Kp135.act (absOf s) default q).1 ∧ (stepS s c).2 = Kp135Neutral.ansOf (Kp135.act (absOf s) default q).2.2 := by
  unfold stepS Kp135Neutral.step
  rw [hq]
  cases s with
  | some a => exact ⟨rfl, rfl⟩
  | none =>
    rcases hm with hm | ⟨r, n, k, w, rfl⟩
    · cases hm
    · show absOf (if (Kp135.act Kp135Neutral.dummy default (.start r n k w)).2.2 = .num 0 then some (Kp135.act Kp135Neutral.dummy default (.start r n k w)).1 else none) = (Kp135.act Kp135Neutral.dummy default (.start r n k w)).1 ∧ _
      refine ⟨?_, rfl⟩
      by_cases g : Kp134.good r = false
      · have e : Kp135.act Kp135Neutral.dummy default (.start r n k w) = (Kp135Neutral.dummy, default, .num (-22)) := if_pos g
        rw [e]
        rfl
      · have e : Kp135.act Kp135Neutral.dummy default (.start r n k w) = (Kp135.start r n, default, .num 0) := if_neg g
        rw [e]
        rfl
theorem dummy_words : Kp135Neutral.dummy.rules.words = [] := rfl
theorem dummy_ok : AOk Kp135Neutral.dummy := by
  refine ⟨fun w h => ?_, ?_, Nat.zero_le _, List.nodup_nil, fun s h => nomatch h⟩
  · rw [dummy_words] at h
    cases h
  · rw [dummy_words]
    exact Nat.zero_le _
end WL
end
section
set_option Elab.async false
set_option linter.all false
set_option maxRecDepth 100000
set_option maxHeartbeats 2000000
namespace WL
open PySem PySem.Spec PyProof.Rows L2
open Kp134 (Word Rules Text)
noncomputable def top (i : Nat) : Stmt := PySem.Challenge.pw_watchedline_s01_answers.main.body.getD i (.Pass ⟨0, 0, 0, 0⟩)
noncomputable abbrev sWordInit : Stmt := inClass (top 7) 0
noncomputable abbrev sFolded : Stmt := top 8
noncomputable abbrev sWordRows : Stmt := top 9
noncomputable abbrev sWordOk : Stmt := top 10
noncomputable abbrev sRulesOk : Stmt := top 11
noncomputable abbrev sWordsOf : Stmt := top 12
noncomputable abbrev sTimesSp : Stmt := top 13
noncomputable abbrev sTimesEach : Stmt := top 14
noncomputable abbrev sWeightOf : Stmt := top 15
noncomputable abbrev vI (l : List Int) : List V := l.map V.int
theorem vI_get {l : List Int} {i : Nat} {x : V} (h : (vI l)[i]? = some x) : ∃ z, l[i]? = some z ∧ x = V.int z := by
  rw [List.getElem?_map] at h
  cases e : l[i]? with
  | none => rw [e] at h; cases h
  | some z => rw [e] at h; exact ⟨z, rfl, (Option.some.inj h).symm⟩
theorem refs_get {l : List Addr} {i : Nat} {x : V} (h : (l.map V.ref)[i]? = some x) : ∃ z, l[i]? = some z ∧ x = V.ref z := by
  rw [List.getElem?_map] at h
  cases e : l[i]? with
  | none => rw [e] at h; cases h
  | some z => rw [e] at h; exact ⟨z, rfl, (Option.some.inj h).symm⟩
theorem take_snoc {α : Type} : ∀ {l : List α} {i : Nat} {x : α}, l[i]? = some x → l.take (i + 1) = l.take i ++ [x]
  | [], i, x, h => by simp at h
  | a :: l, 0, x, h => by
    have e : a = x := Option.some.inj h
    subst e
    rfl
  | a :: l, i + 1, x, h => by
    have ih := take_snoc (l := l) (i := i) (x := x) h
    show a :: l.take (i + 1) = a :: l.take i ++ [x]
    rw [ih]
    rfl
theorem same_upd {H : Hp} {p : Addr} {o : HO} (n : H p = none) : Same H (upd H p o) := fun b u e => by
  rw [upd_ne (ne_of_none e n)]
  exact e
theorem Same.upd {H H' : Hp} {p : Addr} {o : HO} (s : Same H H') (n : H p = none) : Same H (upd H' p o) := fun b u e => by
  rw [upd_ne (ne_of_none e n)]
  exact s b u e
theorem yes {σ : L2.St} {H : Hp} {Q : Bool → Hp → Prop} (h : Q true H) : tYes σ H Q := h
structure Callee (P : Program) (w : World) (K : PySem.W.Frag) (mg : Str → Option Value) (base : Heap) (k : Nat) (x : Str) (ps : List Str) (sp : Sp) : Prop where
  ex : ∃ (f : Addr) (fd : FuncData), mg x = some (.ref f) ∧ PySem.W.keepIn K (.ref f) = true ∧ Binds K fd ps [] ∧ FnOk P w K mg base CX0 k f fd ps sp
theorem pe_callee {X : Cx} {k : Nat} {x : Str} {ps : List Str} {sp : Sp} {e : Expr} {es : List Expr} {t : TA} {p pos : Pos} (C : Callee X.prog X.w X.K X.mg X.base k x ps sp) (hr : Room k X.A) (hg : Gl X x) (ha : PA X (e :: es) t)
    (hdb : (x == ("__debug__" : Str)) = false := by decide) (he : starEach (e :: es) X.env = (false, eval e X.env) :: starEach es X.env := by rfl) (hpl : (backTo pos (starEach es X.env)).any (·.1) = false := by rfl) :
    PE X (.Call (.Name x p) (e :: es) [] pos) (tCall sp [] E0 t) := by
  obtain ⟨f, fd, h1, h2, h3, h4⟩ := C.ex
  exact pe_call h4 hr hg h1 h2 h3 .nil pass0 ha hdb he hpl
structure Num (mg : Str → Option Value) (x : Str) (i : Int) : Prop where
  ex : ∃ t, mg x = some (.int i t)
theorem pe_num {X : Cx} {x : Str} {i : Int} {pos : Pos} (n : Num X.mg x i) (hg : Gl X x) (hd : (x == ("__debug__" : Str)) = false := by decide) : PE X (.Name x pos) (tC (.int i)) := by
  obtain ⟨t, e⟩ := n.ex
  exact pe_glob hg e ⟨t, rfl⟩ hd
structure Txt (mg : Str → Option Value) : Prop where
  len : mg "len" = none
  range : mg "range" = none
  zip : mg "zip" = none
  any : mg "any" = none
  all : mg "all" = none
  sum : mg "sum" = none
  min : mg "min" = none
  max : mg "max" = none
  tuple : mg "tuple" = none
  nOfWord : Num mg "NUMBERS_OF_A_WORD" 20
  mostWords : Num mg "MOST_WORDS" 64
  longestWord : Num mg "LONGEST_WORD" 16
  heaviest : Num mg "HEAVIEST_WORD" 127
  mostTimes : Num mg "MOST_TIMES" 255
  unknown : Num mg "UNKNOWN" (-1)
  round : Num mg "ROUND" 4294967296
  half : Num mg "HALF_ROUND" 2147483648
  places : Num mg "PLACES" 4096
  reach : Num mg "REACH" 15
structure RowsAt (H : Hp) (as : List Addr) (rows : List (List Int)) : Prop where
  len : as.length = rows.length
  at_ : ∀ (i : Nat) (a : Addr) (row : List Int), as[i]? = some a → rows[i]? = some row → H a = some (.lst (vI row))
noncomputable def wordF (b : Bool) (wt : Int) (sp : Addr) : List (Str × V) := [("folds", .bl b), ("weight", .int wt), ("spelling", .ref sp)]
structure WordAt (D : Addr → Prop) (C : Addr) (H : Hp) (a : Addr) (w : Word) : Prop where
  ex : ∃ dx sp, D a ∧ D sp ∧ H a = some (.ins C dx (wordF (w.fold == 1) w.weight sp)) ∧ H sp = some (.lst (vI (spell w)))
structure WordsAt (D : Addr → Prop) (C : Addr) (H : Hp) (l : Addr) (ws : List Word) : Prop where
  ex : ∃ as : List Addr, D l ∧ H l = some (.lst (as.map V.ref)) ∧ as.length = ws.length ∧ ∀ (i : Nat) (a : Addr) (w : Word), as[i]? = some a → ws[i]? = some w → WordAt D C H a w
theorem WordAt.keep {D D' : Addr → Prop} {C a : Addr} {H H' : Hp} {w : Word} (x : WordAt D C H a w) (hD : ∀ b, D b → D' b) (k : ∀ b o, D b → H b = some o → H' b = some o) : WordAt D' C H' a w := by
  obtain ⟨dx, sp, d1, d2, h1, h2⟩ := x.ex
  exact ⟨dx, sp, hD _ d1, hD _ d2, k _ _ d1 h1, k _ _ d2 h2⟩
theorem WordsAt.keep {D D' : Addr → Prop} {C l : Addr} {H H' : Hp} {ws : List Word} (x : WordsAt D C H l ws) (hD : ∀ b, D b → D' b) (k : ∀ b o, D b → H b = some o → H' b = some o) : WordsAt D' C H' l ws := by
  obtain ⟨as, d1, h1, h2, h3⟩ := x.ex
  exact ⟨as, hD _ d1, k _ _ d1 h1, h2, fun i a w e1 e2 => (h3 i a w e1 e2).keep hD k⟩
theorem WordsAt.same {D : Addr → Prop} {C l : Addr} {H H' : Hp} {ws : List Word} (x : WordsAt D C H l ws) (s : Same H H') : WordsAt D C H' l ws := x.keep (fun _ d => d) fun b o _ e => s b o e
theorem WordAt.elim {D : Addr → Prop} {C a : Addr} {H : Hp} {w : Word} {G : Prop} (x : WordAt D C H a w) (f : ∀ dx sp, H a = some (.ins C dx (wordF (w.fold == 1) w.weight sp)) → H sp = some (.lst (vI (spell w))) → G) : G := by
  obtain ⟨dx, sp, _, _, h1, h2⟩ := x.ex
  exact f dx sp h1 h2
structure WCls (K : PySem.W.Frag) (C : Addr) : Prop where
  cl : Cls K C
  nF : NoAttr K C "folds"
  nW : NoAttr K C "weight"
  nS : NoAttr K C "spelling"
theorem rFld {K : PySem.W.Frag} {σ : L2.St} {H : Hp} {i : Nat} {p C dx : Addr} {fs : List (Str × V)} {v : V} {f : Str} {R : V → Prop} (hv : σ[i]? = some (some (V.ref p))) (h : H p = some (.ins C dx fs)) (c : Cls K C) (n : NoAttr K C f) (l : fs.lookup f = some v) (q : R v) :
    ∃ x, σ[i]? = some (some x) ∧ ∃ a C dx fs v, x = V.ref a ∧ H a = some (.ins C dx fs) ∧ Cls K C ∧ NoAttr K C f ∧ fs.lookup f = some v ∧ R v :=
  ⟨_, hv, p, C, dx, fs, v, rfl, h, c, n, l, q⟩
theorem rMeth {C : Addr} {m : Str} {σ : L2.St} {H : Hp} {i : Nat} {p dx : Addr} {fs : List (Str × V)} {R : V → Prop} (hv : σ[i]? = some (some (V.ref p))) (h : H p = some (.ins C dx fs)) (l : fs.lookup m = none) (q : R (V.ref p)) :
    ∃ x, σ[i]? = some (some x) ∧ ∃ a dx fs, x = V.ref a ∧ H a = some (.ins C dx fs) ∧ fs.lookup m = none ∧ R x := ⟨_, hv, p, dx, fs, rfl, h, l, q⟩
theorem rPut {K : PySem.W.Frag} {σ : L2.St} {H : Hp} {i : Nat} {p C dx : Addr} {fs : List (Str × V)} {y : V} {f : Str} {R : Hp → Prop} (hv : σ[i]? = some (some (V.ref p))) (h : H p = some (.ins C dx fs)) (c : Cls K C) (n : NoAttr K C f) (l : fs.length < 1000) (q : R (upd H p (.ins C dx (putF f y fs)))) :
    ∃ x, σ[i]? = some (some x) ∧ ∃ a C dx fs, x = V.ref a ∧ H a = some (.ins C dx fs) ∧ Cls K C ∧ NoAttr K C f ∧ fs.length < 1000 ∧ R (upd H a (.ins C dx (putF f y fs))) :=
  ⟨_, hv, p, C, dx, fs, rfl, h, c, n, l, q⟩
theorem mkI {a b : Int} {R : Int → Int → Prop} (q : R a b) : ∃ i j, V.int a = V.int i ∧ V.int b = V.int j ∧ R i j := ⟨a, b, rfl, rfl, q⟩
theorem mkCat {H : Hp} {a c : Addr} {xs zs : List V} {R : List V → List V → Prop} (h1 : H a = some (.lst xs)) (h2 : H c = some (.lst zs)) (q : R xs zs) : ∃ l b xs zs, V.ref a = V.ref l ∧ V.ref c = V.ref b ∧ H l = some (.lst xs) ∧ H b = some (.lst zs) ∧ R xs zs := ⟨a, c, xs, zs, rfl, rfl, h1, h2, q⟩
theorem seqI {t u : TS} {D : Ends} {σ : L2.St} {H : Hp} (h : ∀ U : L2.St → Hp → Prop, (∀ σ' H', u D σ' H' → U σ' H') → t { D with nx := U } σ H) : tSeq t u D σ H := h (u D) fun _ _ x => x
end WL
end
section
set_option Elab.async false
set_option linter.all false
set_option maxRecDepth 100000
set_option maxHeartbeats 2000000
namespace WL
open PySem PySem.Spec PyProof.Rows L2
theorem bAll : bootBuiltins "all" = some (.builtin "all") := by decide +kernel
theorem bAny : bootBuiltins "any" = some (.builtin "any") := by decide +kernel
theorem bSum : bootBuiltins "sum" = some (.builtin "sum") := by decide +kernel
theorem bMin : bootBuiltins "min" = some (.builtin "min") := by decide +kernel
theorem bMax : bootBuiltins "max" = some (.builtin "max") := by decide +kernel
theorem bTuple : bootBuiltins "tuple" = some (.type "tuple") := by decide +kernel
theorem drop_min {α : Type} (l : List α) (i : Nat) : l.drop (min i l.length) = l.drop i := by
  by_cases h : i ≤ l.length
  · rw [Nat.min_eq_left h]
  · rw [Nat.min_eq_right (by omega), List.drop_eq_nil_of_le (Nat.le_refl _), List.drop_eq_nil_of_le (by omega)]
theorem cut_nn (ns : List Int) (i j : Nat) : cutV (vI ns) (some (i : Int)) (some (j : Int)) = vI ((ns.drop i).take (j - i)) := by
  unfold cutV vI
  rw [HT.sIx_nat, HT.sIx_nat, drop_min, List.map_take, List.map_drop]
  by_cases h : j ≤ (ns.map V.int).length
  · by_cases h2 : i ≤ (ns.map V.int).length
    · rw [Nat.min_eq_left h, Nat.min_eq_left h2]
    · rw [List.drop_eq_nil_of_le (by omega), List.take_nil, List.take_nil]
  · rw [Nat.min_eq_right (by omega)]
    rw [List.take_of_length_le (by rw [List.length_drop]; omega), List.take_of_length_le (by rw [List.length_drop]; omega)]
theorem cut_n_ (ns : List Int) (i : Nat) : cutV (vI ns) (some (i : Int)) none = vI (ns.drop i) := by
  unfold cutV vI
  rw [HT.sIx_nat, HT.sIx_none, drop_min, List.map_drop, List.take_of_length_le (by rw [List.length_drop]; omega)]
theorem cut_o_n (ns : List Int) (j : Nat) : cutV (vI ns) none (some (j : Int)) = vI (ns.take j) := by
  unfold cutV vI
  rw [HT.sIx_nat, HT.sIx_none, List.drop_zero, Nat.sub_zero, List.map_take]
  by_cases h : j ≤ (ns.map V.int).length
  · rw [Nat.min_eq_left h]
  · rw [Nat.min_eq_right (by omega), List.take_of_length_le (Nat.le_refl _), List.take_of_length_le (by omega)]
theorem cut_int {ns : List Int} {i j : Int} (hi : 0 ≤ i) (hj : 0 ≤ j) : cutV (vI ns) (some i) (some j) = vI ((ns.drop i.toNat).take (j.toNat - i.toNat)) := by
  have h := cut_nn ns i.toNat j.toNat
  rw [Int.toNat_of_nonneg hi, Int.toNat_of_nonneg hj] at h
  exact h
theorem dp_ints {K : PySem.W.Frag} {H : Hp} : ∀ ns : List Int, DpAll K H (vI ns) (ns.map PyData.int)
  | [] => .nil
  | n :: r => .cons (.int n) (dp_ints r)
theorem eqv_ints : ∀ ns ms : List Int, PyData.eqvAll (ns.map PyData.int) (ms.map PyData.int) = decide (ns = ms)
  | [], [] => rfl
  | [], _ :: _ => rfl
  | _ :: _, [] => rfl
  | n :: r, m :: q => by
    show (PyData.eqv (.int n) (.int m) && PyData.eqvAll (r.map PyData.int) (q.map PyData.int)) = _
    rw [eqv_ints r q]
    show ((n == m) && decide (r = q)) = _
    rw [Bool.eq_iff_iff, Bool.and_eq_true, beq_iff_eq, decide_eq_true_iff, decide_eq_true_iff, List.cons.injEq]
theorem canLay_ints : ∀ ns : List Int, PyData.canLayAll0 (ns.map PyData.int) = true
  | [] => rfl
  | n :: r => by
    show (PyData.canLay0 (.int n) && PyData.canLayAll0 (r.map PyData.int)) = true
    rw [canLay_ints r]
    rfl
theorem depth_ints : ∀ ns : List Int, PyData.depthAll (ns.map PyData.int) = 0
  | [] => rfl
  | n :: r => by
    show max (PyData.depth (.int n)) (PyData.depthAll (r.map PyData.int)) = 0
    rw [depth_ints r]
    rfl
theorem shaped_ints (ns : List Int) : SeqAt.shaped (.list (ns.map PyData.int)) = true := by
  unfold SeqAt.shaped
  rw [show PyData.canLay0 (.list (ns.map PyData.int)) = true from canLay_ints ns, show PyData.depth (.list (ns.map PyData.int)) = 0 + 1 from congrArg (· + 1) (depth_ints ns)]
  rfl
theorem eq_lists {K : PySem.W.Frag} {H : Hp} {a b : Addr} {ns ms : List Int} {Q : VK} (ha : SqL K H a (vI ns)) (hb : SqL K H b (vI ms)) (h : Q (.bl (decide (ns = ms))) H) : rEqD K (.ref a) (.ref b) H Q :=
  ⟨_, _, .lst ha (dp_ints ns), .lst hb (dp_ints ms), shaped_ints ns, shaped_ints ms, by
    show Q (.bl (PyData.eqvAll (ns.map PyData.int) (ms.map PyData.int))) H
    rw [eqv_ints]
    exact h⟩
theorem lc_rangeC {lo c : Int} {n : Nat} {g : TG} {tt : TT} {te : TE} {vs : List Nat} {σ : L2.St} {H1 : Hp} {D : Addr} {Qd : Hp → Prop} (Pv : Nat → Hp → Prop) (h0 : Pv 0 (upd H1 D (.lst [])))
    (hs : ∀ i H, i < n → Pv i H → g (.int (lo + (i : Nat) * c)) (wipe σ vs) H fun σ2 H2 => wipe σ2 vs = wipe σ vs ∧ tt σ2 H2 fun b H3 =>
      if b = true then te σ2 H3 fun y H4 => ∃ acc, H4 D = some (.lst acc) ∧ acc.length < sizeLine ∧ Pv (i + 1) (upd H4 D (.lst (acc ++ [y]))) else Pv (i + 1) H3) (hd : ∀ H, Pv n H → Qd H) :
    ∃ W : Nat → Nat → Hp → Prop, (∃ m, W 0 m (upd H1 D (.lst []))) ∧ ∀ i m H, W i m H →
      ((Itc lo c n).stop i H ∧ Qd H) ∨ ((Itc lo c n).go i H ∧ ∃ Nx : Hp → Prop, (∀ H', Nx H' → ∃ m', m' < m ∧ W (i + 1) m' H') ∧ ∀ x H', (Itc lo c n).yld i H x H' → g x (wipe σ vs) H' fun σ2 H2 => wipe σ2 vs = wipe σ vs ∧ tt σ2 H2 fun b H3 =>
        if b = true then te σ2 H3 fun y H4 => ∃ acc, H4 D = some (.lst acc) ∧ acc.length < sizeLine ∧ Nx (upd H4 D (.lst (acc ++ [y]))) else Nx H3) := by
  refine ⟨fun i m H => m = n - i ∧ i ≤ n ∧ Pv i H, ⟨n, by simp, Nat.zero_le _, h0⟩, ?_⟩
  rintro i m H ⟨rfl, hi, p⟩
  by_cases hlt : i < n
  · refine .inr ⟨hlt, Pv (i + 1), fun H' p' => ⟨n - (i + 1), by omega, rfl, hlt, p'⟩, fun x H' y => ?_⟩
    obtain ⟨e, y⟩ := y
    subst e y
    exact hs i _ hlt p
  · have e : i = n := by omega
    subst e
    exact .inl ⟨Nat.le_refl _, hd H p⟩
theorem lc_zip {K : PySem.W.Frag} {a b : Addr} {xs ys : List V} {g : TG} {tt : TT} {te : TE} {vs : List Nat} {σ : L2.St} {H1 : Hp} {D : Addr} {Qd : Hp → Prop} (hlen : xs.length = ys.length) (Pv : Nat → Hp → Prop) (h0 : Pv 0 (upd H1 D (.lst [])))
    (hl : ∀ i H, i ≤ xs.length → Pv i H → SqL K H a xs ∧ SqL K H b ys)
    (hs : ∀ i x y T H, xs[i]? = some x → ys[i]? = some y → Pv i H → H T = none → g (.ref T) (wipe σ vs) (upd H T (.tup [x, y])) fun σ2 H2 => wipe σ2 vs = wipe σ vs ∧ tt σ2 H2 fun b H3 =>
      if b = true then te σ2 H3 fun y H4 => ∃ acc, H4 D = some (.lst acc) ∧ acc.length < sizeLine ∧ Pv (i + 1) (upd H4 D (.lst (acc ++ [y]))) else Pv (i + 1) H3) (hd : ∀ H, Pv xs.length H → Qd H) :
    ∃ W : Nat → Nat → Hp → Prop, (∃ m, W 0 m (upd H1 D (.lst []))) ∧ ∀ i m H, W i m H →
      ((Itz K a b).stop i H ∧ Qd H) ∨ ((Itz K a b).go i H ∧ ∃ Nx : Hp → Prop, (∀ H', Nx H' → ∃ m', m' < m ∧ W (i + 1) m' H') ∧ ∀ x H', (Itz K a b).yld i H x H' → g x (wipe σ vs) H' fun σ2 H2 => wipe σ2 vs = wipe σ vs ∧ tt σ2 H2 fun b H3 =>
        if b = true then te σ2 H3 fun y H4 => ∃ acc, H4 D = some (.lst acc) ∧ acc.length < sizeLine ∧ Nx (upd H4 D (.lst (acc ++ [y]))) else Nx H3) := by
  refine ⟨fun i m H => m = xs.length - i ∧ i ≤ xs.length ∧ Pv i H, ⟨xs.length, by simp, Nat.zero_le _, h0⟩, ?_⟩
  rintro i m H ⟨rfl, hi, p⟩
  obtain ⟨q1, q2⟩ := hl i H hi p
  by_cases hlt : i < xs.length
  · refine .inr ⟨⟨xs, ys, xs[i], ys[i]'(by omega), q1, q2, by simp [hlt], by simp [show i < ys.length by omega]⟩, Pv (i + 1), fun H' p' => ⟨xs.length - (i + 1), by omega, rfl, hlt, p'⟩, fun x H' y => ?_⟩
    obtain ⟨T, x1, y1, rfl, hT, rfl, k1, k2⟩ := y
    exact hs i x1 y1 T _ (k1 xs q1) (k2 ys q2) p hT
  · have e : i = xs.length := by omega
    subst e
    exact .inl ⟨⟨xs, ys, q1, q2, .inl (Nat.le_refl _)⟩, hd H p⟩
theorem tup2 {K : PySem.W.Frag} {H : Hp} {T : Addr} {x y : V} : SqT K (upd H T (.tup [x, y])) T [x, y] := .inl (.inl upd_same)
end WL
end
section
set_option Elab.async false
set_option linter.all false
set_option maxRecDepth 100000
set_option maxHeartbeats 2000000
namespace WL
open PySem PySem.Spec PyProof.Rows L2
open Kp134 (Word Rules Text)
section
variable {P : Program} {w : World} {K : PySem.W.Frag} {mg : Str → Option Value} {base : Heap}
inductive AtFolded (K : PySem.W.Frag) (vs : List V) (H : Hp) (Q : VK) : Prop
  | mk (a : Addr) (ns : List Int) (h0_ : vs = [.ref a]) (h1_ : SqL K H a (vI ns)) (h2_ : ns.length ≤ 100000) (h3_ : ∀ (H' : Hp) (p : Addr), Same H H' → H p = none → H' p = some (.lst (vI (ns.map foldI))) → Q (.ref p) H') : AtFolded K vs H Q
noncomputable def spFolded (K : PySem.W.Frag) : Sp := fun vs H Q _ => AtFolded K vs H Q
theorem scFolded : FnScope ["row", "number"] ["row"] (defScope sFolded) := ⟨rfl, rfl, rfl, by decide +kernel, rfl, by decide +kernel, by decide +kernel⟩
theorem ok_folded {f : Addr} {fd : FuncData} (F : Fun K "folded" "folded" sFolded f fd) : FnOk P w K mg base CX0 1 f fd ["row"] (spFolded K) := by
  refine F.ok scFolded (fun vs H Q E h => ?_) (fun cdv A outer s H vs Q E hr h => ?_)
  · obtain ⟨a, ns, rfl, _⟩ := h
    rfl
  · obtain ⟨a, ns, rfl, hS, hlen, k⟩ := h
    refine ⟨_, pss_one (ps_ret (pe_lc (own := [("number", 1)]) rfl scFolded.nd (pi_list (pv 0)) (blkOk_by (N := ["row", "number"]) (sc := defScope sFolded) (by decide +kernel)) (fun _ _ _ _ _ => pg_name (i := 1) scFolded.nd rfl (Or.inl rfl)) (fun _ _ _ _ _ => pts_nil)
      (fun _ _ _ _ _ => pe_ifExp (pt_chain op_le op_le pe_int (pv 1) pe_int) (pe_op op_add (pv 1) pe_int) (pv 1)))), ?_⟩
    dsimp only [cxOf, Cx.nox, Cx.wish]
    refine ⟨_, rfl, a, rfl, ⟨_, hS⟩, fun D hD => lc_list (K := K) (a := a) (xs := vI ns) (fun i H' => Same H H' ∧ H' D = some (.lst (vI ((ns.take i).map foldI))))
      ⟨same_upd hD, upd_same⟩ (fun i H' _ p => p.1.seq hS) (fun i x H' hi p => ?_) (fun H' p => ?_)⟩
    · obtain ⟨z, hz, rfl⟩ := vI_get hi
      have hs := p.1
      have hd := p.2
      refine ⟨rfl, yes (iteT ⟨_, rfl, mkI ⟨_, rfl, ?_⟩⟩)⟩
      have fin : ∀ y : Int, y = foldI z → ∃ acc, H' D = some (HO.lst acc) ∧ acc.length < sizeLine ∧ Same H (upd H' D (.lst (acc ++ [V.int y]))) ∧ upd H' D (.lst (acc ++ [V.int y])) D = some (.lst (vI ((ns.take (i + 1)).map foldI))) := fun y e =>
        ⟨_, hd, by rw [List.length_map, List.length_map, List.length_take]; exact Nat.lt_of_le_of_lt (Nat.le_trans (Nat.min_le_right _ _) hlen) (by decide), Same.upd hs hD, by rw [upd_same, take_snoc hz, e]; simp [vI]⟩
      refine ite2 (fun h1 => (mkI ⟨_, rfl, ?_⟩)) (fun h1 => ⟨_, rfl, iteF ⟨_, rfl, fin z ?_⟩⟩)
      · refine ite2 (fun h2 => ⟨_, rfl, mkI (fin _ ?_)⟩) (fun h2 => ⟨_, rfl, fin z ?_⟩)
        · unfold foldI
          rw [if_pos ⟨of_decide_eq_true h1, of_decide_eq_true h2⟩]
        · unfold foldI
          rw [if_neg fun q => h2 (decide_eq_true q.2)]
      · unfold foldI
        rw [if_neg fun q => h1 (decide_eq_true q.1)]
    · rw [List.length_map, List.take_length] at p
      exact k H' D p.1 hD p.2
inductive AtWordRows (K : PySem.W.Frag) (vs : List V) (H : Hp) (Q : VK) : Prop
  | mk (a : Addr) (ns : List Int) (h0_ : vs = [.ref a]) (h1_ : SqL K H a (vI ns)) (h2_ : ns.length ≤ 100000) (h3_ : ns.length % 20 = 0) (h4_ : ∀ (H' : Hp) (p : Addr) (as : List Addr), Same H H' → H p = none → H' p = some (.lst (as.map V.ref)) → RowsAt H' as (rowsOf ns) → Q (.ref p) H') : AtWordRows K vs H Q
noncomputable def spWordRows (K : PySem.W.Frag) : Sp := fun vs H Q _ => AtWordRows K vs H Q
theorem scWordRows : FnScope ["rules", "at"] ["rules"] (defScope sWordRows) := ⟨rfl, rfl, rfl, by decide +kernel, rfl, by decide +kernel, by decide +kernel⟩
theorem rg20 {n : Nat} (h : n ≤ 100000) (h2 : n % 20 = 0) : RgC 0 (n : Int) 20 (n / 20) := by
  have e : Builtin.Range.rangeSize 0 (n : Int) 20 = ((n / 20 : Nat) : Int) := by
    unfold Builtin.Range.rangeSize
    rw [if_pos (by decide)]
    by_cases q : (0 : Int) < (n : Int)
    · rw [if_pos q]; omega
    · rw [if_neg q]; omega
  refine ⟨by decide, by decide, ?_, e⟩
  unfold Builtin.Range.small
  rw [e]
  unfold Builtin.Range.rangeFitsLong
  simp only [Bool.and_eq_true, Bool.or_eq_true, decide_eq_true_eq, beq_iff_eq, show ((20 : Int) > 0) = True from eq_true (by decide), if_true]
  omega
theorem ok_wordRows {f : Addr} {fd : FuncData} (F : Fun K "word_rows" "word_rows" sWordRows f fd) (T : Txt mg) : FnOk P w K mg base CX0 1 f fd ["rules"] (spWordRows K) := by
  refine F.ok scWordRows (fun vs H Q E h => ?_) (fun cdv A outer s H vs Q E hr h => ?_)
  · obtain ⟨a, ns, rfl, _⟩ := h
    rfl
  · obtain ⟨a, ns, rfl, hS, hlen, h20, k⟩ := h
    refine ⟨_, pss_one (ps_ret (pe_lc (own := [("at", 1)]) rfl scWordRows.nd
      (pi_range3 rfl T.range (pa_cons pe_int (pa_cons (pe_callB call_len_seq rfl T.len PySem.boot_len (pa_cons (pv 0) pa_nil)) (pa_cons (pe_num T.nOfWord rfl) pa_nil))))
      (blkOk_by (N := ["rules", "at"]) (sc := defScope sWordRows) (by decide +kernel)) (fun _ _ _ _ _ => pg_name (i := 1) scWordRows.nd rfl (Or.inl rfl)) (fun _ _ _ _ _ => pts_nil)
      (fun _ _ _ _ _ => pe_slice (r := rSlL K) sl_list (pv 0) (po_some (pv 1)) (po_some (pe_op op_add (pv 1) (pe_num T.nOfWord rfl)))))), ?_⟩
    dsimp only [cxOf, Cx.nox, Cx.wish]
    refine ⟨_, rfl, a, _, rfl, .inl hS, 0, (ns.length : Int), 20, ns.length / 20, by rw [List.length_map], rg20 hlen h20, fun D hD => ?_⟩
    refine lc_rangeC (fun i H' => Same H H' ∧ ∃ as : List Addr, H' D = some (.lst (as.map V.ref)) ∧ as.length = i ∧ RowsAt H' as ((rowsOf ns).take i)) ⟨same_upd hD, [], upd_same, rfl, rfl, fun i a row h => by simp at h⟩ (fun i H' hi p => ?_) (fun H' p => ?_)
    · obtain ⟨hs, as, hd, hl, hR⟩ := p
      refine ⟨rfl, yes (iteT ⟨_, rfl, _, rfl, _, rfl, _, rfl, mkI ⟨_, rfl, a, _, rfl, hs.seq hS, fun p hp => ?_⟩⟩)⟩
      have hpD : D ≠ p := ne_of_none hd hp
      refine ⟨_, (upd_ne hpD).trans hd, ?_, Same.upd (Same.trans hs (same_upd hp)) hD, as ++ [p], ?_, ?_, ?_, ?_⟩
      · rw [List.length_map, hl]
        exact Nat.lt_of_lt_of_le hi (Nat.le_trans (Nat.div_le_self _ _) (Nat.le_trans hlen (by decide)))
      · rw [upd_same, List.map_append]
        rfl
      · rw [List.length_append, hl]
        rfl
      · rw [List.length_append, hl, List.length_take, rowsOf_length, Nat.min_eq_left (by omega)]
        rfl
      · intro j b row h1 h2
        have hz := rowsOf_get hi
        rw [take_snoc hz] at h2
        have hj : j ≠ i ∨ j = i := by omega
        have hjl : j < as.length + 1 := by
          have := (List.getElem?_eq_some_iff.mp h1).1
          rw [List.length_append] at this
          exact this
        rcases hj with hj | hj
        · rw [List.getElem?_append_left (by omega)] at h1
          rw [List.getElem?_append_left (by rw [List.length_take, rowsOf_length]; omega)] at h2
          have q := hR.at_ j b row h1 h2
          have nb : b ≠ p := ne_of_none q hp
          have nD : b ≠ D := fun e => by
            rw [e, hd] at q
            have q' := HO.lst.inj (Option.some.inj q)
            cases row with
            | nil =>
              have := rowsOf_len (r := ns) (row := []) (List.mem_of_mem_take (List.mem_of_getElem? h2))
              simp at this
            | cons z row =>
              cases as with
              | nil => simp at h1
              | cons c as => cases q'
          rw [upd_ne nD, upd_ne nb]
          exact q
        · subst hj
          rw [List.getElem?_append_right (by omega), hl, Nat.sub_self] at h1
          have e1 : p = b := Option.some.inj h1
          subst e1
          rw [List.getElem?_append_right (by rw [List.length_take]; omega), List.length_take, rowsOf_length, Nat.min_eq_left (by omega), Nat.sub_self] at h2
          have e2 : (ns.drop (20 * j)).take 20 = row := Option.some.inj h2
          subst e2
          rw [upd_ne hpD.symm, upd_same]
          have c := cut_nn ns (20 * j) (20 * j + 20)
          rw [show 20 * j + 20 - 20 * j = 20 by omega] at c
          rw [← c]
          have z1 : (0 : Int) + ((j : Nat) : Int) * 20 = ((20 * j : Nat) : Int) := by omega
          have z2 : (0 : Int) + ((j : Nat) : Int) * 20 + 20 = ((20 * j + 20 : Nat) : Int) := by omega
          rw [z1, show ((20 * j : Nat) : Int) + 20 = ((20 * j + 20 : Nat) : Int) by omega]
    · obtain ⟨hs, as, hd, hl, hR⟩ := p
      rw [List.take_of_length_le (by rw [rowsOf_length]; exact Nat.le_refl _)] at hR
      exact k H' D as hs hD hd hR
end
end WL
end
section
set_option Elab.async false
set_option linter.all false
set_option maxRecDepth 100000
set_option maxHeartbeats 2000000
namespace WL
open PySem PySem.Spec PyProof.Rows L2
open Kp134 (Word Rules Text)
theorem get_vI {l : List Int} {i : Nat} (h : i < l.length) : (vI l)[i]? = some (V.int (l.getD i 0)) := by
  rw [List.getElem?_map, List.getElem?_eq_getElem h, List.getD_eq_getElem?_getD, List.getElem?_eq_getElem h]
  rfl
section
variable {P : Program} {w : World} {K : PySem.W.Frag} {mg : Str → Option Value} {base : Heap}
inductive AtWordOk (K : PySem.W.Frag) (vs : List V) (H : Hp) (Q : VK) : Prop
  | mk (a : Addr) (row : List Int) (h0_ : vs = [.ref a]) (h1_ : SqL K H a (vI row)) (h2_ : row.length = 20) (h3_ : Q (.bl (rowOk row)) H) : AtWordOk K vs H Q
noncomputable def spWordOk (K : PySem.W.Frag) : Sp := fun vs H Q _ => AtWordOk K vs H Q
theorem scWordOk : FnScope ["row"] ["row"] (defScope sWordOk) := ⟨rfl, rfl, rfl, by decide +kernel, rfl, by decide +kernel, by decide +kernel⟩
theorem ok_wordOk {f : Addr} {fd : FuncData} (F : Fun K "word_is_as_told" "word_is_as_told" sWordOk f fd) (T : Txt mg) : FnOk P w K mg base CX0 1 f fd ["row"] (spWordOk K) := by
  refine F.ok scWordOk (fun vs H Q E h => ?_) (fun cdv A outer s H vs Q E hr h => ?_)
  · obtain ⟨a, ns, rfl, _⟩ := h
    rfl
  · obtain ⟨a, row, rfl, hS, hlen, k⟩ := h
    have at0 : ∀ i : Nat, i < 20 → atI (vI row) (i : Int) = some (V.int (row.getD i 0)) := fun i hi => atI_nat (get_vI (by omega))
    refine ⟨_, pss_cons (ps_if (pt_cmpR op_ne (pe_callB call_len_seq rfl T.len PySem.boot_len (pa_cons (pv 0) pa_nil)) (pe_num T.nOfWord rfl) (nomark _)) (pss_one (ps_ret pe_bl)) pss_nil)
      (pss_cons (ps_if (PW.pt (pw_or (pt_cmpR op_lt (pe_ix ix_list (pv 0) pe_int (fun _ _ => rfl)) pe_int (nomark _)) (pw_or1 (pt_cmpR op_gt (pe_ix ix_list (pv 0) pe_int (fun _ _ => rfl)) (pe_num T.longestWord rfl) (nomark _))))) (pss_one (ps_ret pe_bl)) pss_nil)
      (pss_one (ps_ret (pe_and (pe_cmpR op_le (pe_ix ix_list (pv 0) pe_int (fun _ _ => rfl)) pe_int (nomark _)) (pe_and (pe_cmpR op_le (pe_ix ix_list (pv 0) pe_int (fun _ _ => rfl)) (pe_num T.heaviest rfl) (nomark _)) (pe_one (pe_cmpR op_eq (pe_ix ix_list (pv 0) pe_int (fun _ _ => rfl)) pe_int (nomark _)))))))), ?_⟩
    dsimp only [cxOf, Cx.nox, Cx.wish]
    refine ⟨_, rfl, a, _, rfl, .inl hS, rfl, _, rfl, ?_⟩
    rw [List.length_map, hlen]
    refine iteNS rfl ?_
    refine ⟨_, rfl, a, _, _, _, rfl, rfl, hS, at0 0 (by decide), _, _, rfl, rfl, _, rfl, ?_⟩
    have e : Q (.bl (rowOk row)) H := k
    unfold rowOk at e
    refine ite2 (fun h1 => iteT ?_) (fun h1 => ?_)
    · rw [if_pos (.inl (of_decide_eq_true h1))] at e
      exact e
    · refine ⟨_, rfl, a, _, _, _, rfl, rfl, hS, at0 0 (by decide), _, _, rfl, rfl, _, rfl, ?_⟩
      refine ite2 (fun h2 => ?_) (fun h2 => ?_)
      · rw [if_pos (.inr (of_decide_eq_true h2))] at e
        exact e
      · rw [if_neg (fun q => q.elim (fun q => h1 (decide_eq_true q)) fun q => h2 (decide_eq_true q))] at e
        refine ⟨_, rfl, a, _, _, _, rfl, rfl, hS, at0 1 (by decide), _, _, rfl, rfl, _, rfl, ?_⟩
        refine ite2 (fun h3 => ?_) (fun h3 => ?_)
        · rw [h3, Bool.true_and] at e
          refine ⟨_, rfl, a, _, _, _, rfl, rfl, hS, at0 2 (by decide), _, _, rfl, rfl, _, rfl, ?_⟩
          refine ite2 (fun h4 => ?_) (fun h4 => ?_)
          · rw [h4, Bool.true_and] at e
            refine ⟨_, rfl, a, _, _, _, rfl, rfl, hS, at0 3 (by decide), rfl, ?_⟩
            have z : decide (V.int (row.getD 3 0) = V.int 0) = decide (row.getD 3 0 = 0) := by
              rw [Bool.eq_iff_iff, decide_eq_true_iff, decide_eq_true_iff, V.int.injEq]
            rw [z]
            exact e
          · rw [Bool.not_eq_true] at h4
            rw [h4, Bool.false_and] at e
            exact e
        · rw [Bool.not_eq_true] at h3
          rw [h3, Bool.false_and] at e
          exact e
inductive AtRulesOk (K : PySem.W.Frag) (vs : List V) (H : Hp) (Q : VK) : Prop
  | mk (a : Addr) (ns : List Int) (h0_ : vs = [.ref a]) (h1_ : SqL K H a (vI ns)) (h2_ : ns.length ≤ 100000) (h3_ : ns.length % 20 = 0) (h4_ : ∀ H' : Hp, Same H H' → Q (.bl (rulesOk ns)) H') : AtRulesOk K vs H Q
noncomputable def spRulesOk (K : PySem.W.Frag) : Sp := fun vs H Q _ => AtRulesOk K vs H Q
theorem scRulesOk : FnScope ["rules", "rows", "row"] ["rules"] (defScope sRulesOk) := ⟨rfl, rfl, rfl, by decide +kernel, rfl, by decide +kernel, by decide +kernel⟩
theorem ok_rulesOk {f : Addr} {fd : FuncData} (F : Fun K "rules_are_as_told" "rules_are_as_told" sRulesOk f fd) (T : Txt mg) (C1 : Callee P w K mg base 1 "word_rows" ["rules"] (spWordRows K)) (C2 : Callee P w K mg base 1 "word_is_as_told" ["row"] (spWordOk K)) :
    FnOk P w K mg base CX0 2 f fd ["rules"] (spRulesOk K) := by
  refine F.ok scRulesOk (fun vs H Q E h => ?_) (fun cdv A outer s H vs Q E hr h => ?_)
  · obtain ⟨a, ns, rfl, _⟩ := h
    rfl
  · obtain ⟨a, ns, rfl, hS, hlen, h20, k⟩ := h
    refine ⟨_, pss_cons (ps_set (i := 1) scRulesOk.nd rfl (Or.inl rfl) (pe_callee C1 hr rfl (pa_cons (pv 0) pa_nil)))
      (pss_cons (ps_if (PW.pt (pw_or (pt_cmpR op_lt (pe_callB call_len_seq rfl T.len PySem.boot_len (pa_cons (pv 1) pa_nil)) pe_int (nomark _)) (pw_or1 (pt_cmpR op_gt (pe_callB call_len_seq rfl T.len PySem.boot_len (pa_cons (pv 1) pa_nil)) (pe_num T.mostWords rfl) (nomark _))))) (pss_one (ps_ret pe_bl)) pss_nil)
      (pss_one (ps_ret (pe_callB (cr_all rfl) rfl T.all bAll (pa_cons (pe_lc (own := [("row", 2)]) rfl scRulesOk.nd (pi_list (pv 1)) (blkOk_by (N := ["rules", "rows", "row"]) (sc := defScope sRulesOk) (by decide +kernel))
        (fun _ _ _ _ _ => pg_name (i := 2) scRulesOk.nd rfl (Or.inl rfl)) (fun _ _ _ _ _ => pts_nil) (fun _ _ _ _ _ => pe_callee C2 hr rfl (pa_cons (pv 2) pa_nil))) pa_nil))))), ?_⟩
    dsimp only [cxOf, Cx.nox, Cx.wish]
    refine ⟨_, rfl, a, ns, rfl, hS, hlen, h20, fun H1 p as s1 np hp hR => ?_⟩
    have e : ∀ H', Same H H' → Q (.bl (rulesOk ns)) H' := k
    have hl : (as.map V.ref).length = ns.length / 20 := by rw [List.length_map, hR.len, rowsOf_length]
    refine ⟨_, rfl, p, _, rfl, .inl (SqL.of hp), mkI ⟨_, rfl, ?_⟩⟩
    rw [hl]
    unfold rulesOk at e
    refine ite2 (fun h1 => iteT ?_) (fun h1 => ?_)
    · rw [if_pos (.inl (by have := of_decide_eq_true h1; omega))] at e
      exact e H1 s1
    · refine ⟨_, rfl, p, _, rfl, .inl (SqL.of hp), mkI ⟨_, rfl, ?_⟩⟩
      rw [hl]
      refine ite2 (fun h2 => ?_) (fun h2 => ?_)
      · rw [if_pos (.inr (by have := of_decide_eq_true h2; omega))] at e
        exact e H1 s1
      · have h1' : ¬ ((ns.length / 20 : Nat) : Int) < 1 := fun q => h1 (decide_eq_true q)
        have h2' : ¬ (64 : Int) < ((ns.length / 20 : Nat) : Int) := fun q => h2 (decide_eq_true q)
        rw [if_neg (by omega)] at e
        refine ⟨_, rfl, p, rfl, ⟨_, SqL.of hp⟩, fun D hD => lc_list (K := K) (a := p) (xs := as.map V.ref) (fun i H' => Same H1 H' ∧ H' D = some (.lst ((((rowsOf ns).take i).map rowOk).map V.bl)))
          ⟨same_upd hD, upd_same⟩ (fun i H' _ q => q.1.seq (SqL.of hp)) (fun i x H' hi q => ?_) (fun H' q => ?_)⟩
        · obtain ⟨b, hb, rfl⟩ := refs_get hi
          have hs := q.1
          have hd := q.2
          obtain ⟨row, hrow⟩ : ∃ row, (rowsOf ns)[i]? = some row := ⟨_, List.getElem?_eq_getElem (by rw [← hR.len]; exact (List.getElem?_eq_some_iff.mp hb).1)⟩
          have hbr := hR.at_ i b row hb hrow
          refine ⟨rfl, yes (iteT ⟨_, rfl, b, row, rfl, SqL.of (hs _ _ hbr), rowsOf_len (List.mem_of_getElem? hrow), _, hd, ?_, Same.upd hs hD, ?_⟩)⟩
          · rw [List.length_map, List.length_map, List.length_take, rowsOf_length]
            exact Nat.lt_of_le_of_lt (Nat.le_trans (Nat.min_le_right _ _) (Nat.le_trans (Nat.div_le_self _ _) hlen)) (by decide)
          · rw [upd_same, take_snoc hrow]
            simp
        · have hs := q.1
          have hd := q.2
          rw [List.length_map, hR.len, List.take_length] at hd
          refine ⟨D, _, rfl, SqL.of hd, ?_⟩
          rw [List.all_map]
          exact e H' (s1.trans hs)
end
end WL
end
section
set_option Elab.async false
set_option linter.all false
set_option maxRecDepth 100000
set_option maxHeartbeats 2000000
namespace WL
open PySem PySem.Spec PyProof.Rows L2
open Kp134 (Word Rules Text)
structure Maker (P : Program) (w : World) (K : PySem.W.Frag) (mg : Str → Option Value) (base : Heap) (k : Nat) (x : Str) (C : Addr) (ps : List Str) (sp : Sp) : Prop where
  ex : ∃ (f : Addr) (fd : FuncData), mg x = some (.ref C) ∧ Mk K C f ∧ Binds K fd ps [] ∧ FnOk P w K mg base CX0 k f fd ps sp
theorem pe_maker {X : Cx} {k : Nat} {x : Str} {C : Addr} {ps : List Str} {sp : Sp} {e : Expr} {es : List Expr} {t : TA} {p pos : Pos} (M : Maker X.prog X.w X.K X.mg X.base k x C ps sp) (hr : Room (k + 1) X.A) (hg : Gl X x) (ha : PA X (e :: es) t)
    (hdb : (x == ("__debug__" : Str)) = false := by decide) (he : starEach (e :: es) X.env = (false, eval e X.env) :: starEach es X.env := by rfl) (hpl : (backTo pos (starEach es X.env)).any (·.1) = false := by rfl) :
    PE X (.Call (.Name x p) (e :: es) [] pos) (tMake C sp [] E0 t) := by
  obtain ⟨f, fd, h1, h2, h3, h4⟩ := M.ex
  exact pe_make h2 h4 hr hg h1 h3 .nil pass0 ha hdb he hpl
theorem encN_nats {l : List Int} (h : ∀ z ∈ l, 0 ≤ z) : encN (Kp135Neutral.nats l) = l := by
  unfold encN Kp135Neutral.nats
  rw [List.map_map]
  have e : l.map ((fun (n : Nat) => (n : Int)) ∘ Int.toNat) = l.map id := List.map_congr_left fun z hz => Int.toNat_of_nonneg (h z hz)
  rw [e, List.map_id]
theorem nats_take (l : List Int) (n : Nat) : (Kp135Neutral.nats l).take n = Kp135Neutral.nats (l.take n) := List.map_take.symm
theorem spell_word {row : List Int} (hb : Bytes row) : spell (Kp135Neutral.word row) = if row.getD 1 0 = 1 then ((row.drop 4).take (row.getD 0 0).toNat).map foldI else (row.drop 4).take (row.getD 0 0).toNat := by
  have h1 := getD_bytes hb 1
  have e : encN ((Kp135Neutral.word row).b.take (Kp135Neutral.word row).n) = (row.drop 4).take (row.getD 0 0).toNat := by
    show encN ((Kp135Neutral.nats (row.drop 4)).take (row.getD 0 0).toNat) = _
    rw [nats_take, encN_nats fun z hz => (hb z (List.mem_of_mem_drop (List.mem_of_mem_take hz))).1]
  unfold spell
  rw [e]
  by_cases q : row.getD 1 0 = 1
  · rw [if_pos q, if_pos (by show ((row.getD 1 0).toNat == 1) = true; rw [q]; rfl)]
  · rw [if_neg q, if_neg]
    show ¬ ((row.getD 1 0).toNat == 1) = true
    rw [beq_iff_eq]
    omega
section
variable {P : Program} {w : World} {K : PySem.W.Frag} {mg : Str → Option Value} {base : Heap}
inductive AtWordInit (K : PySem.W.Frag) (C : Addr) (vs : List V) (H : Hp) (Q : VK) : Prop
  | mk (p dx a : Addr) (row : List Int) (h0_ : vs = [.ref p, .ref a]) (h1_ : H p = some (.ins C dx [])) (h2_ : SqL K H a (vI row)) (h3_ : row.length = 20) (h4_ : Bytes row) (h5_ : ∀ (H' : Hp) (sp : Addr), (∀ b o, H b = some o → b ≠ p → H' b = some o) → H sp = none → H' p = some (.ins C dx (wordF ((Kp135Neutral.word row).fold == 1) (Kp135Neutral.word row).weight sp)) → H' sp = some (.lst (vI (spell (Kp135Neutral.word row)))) → Q .non H') : AtWordInit K C vs H Q
noncomputable def spWordInit (K : PySem.W.Frag) (C : Addr) : Sp := fun vs H Q _ => AtWordInit K C vs H Q
theorem scWordInit : FnScope ["self", "row", "shown"] ["self", "row"] (defScope sWordInit) := ⟨rfl, rfl, rfl, by decide +kernel, rfl, by decide +kernel, by decide +kernel⟩
theorem ok_wordInit {f C : Addr} {fd : FuncData} (F : Fun K "__init__" "Word.__init__" sWordInit f fd) (T : Txt mg) (W : WCls K C) (C1 : Callee P w K mg base 1 "folded" ["row"] (spFolded K)) : FnOk P w K mg base CX0 2 f fd ["self", "row"] (spWordInit K C) := by
  refine F.ok scWordInit (fun vs H Q E h => ?_) (fun cdv A outer s H vs Q E hr h => ?_)
  · obtain ⟨p, dx, a, row, rfl, _⟩ := h
    rfl
  · obtain ⟨p, dx, a, row, rfl, hp, hS, hlen, hb, k⟩ := h
    have at0 : ∀ i : Nat, i < 20 → atI (vI row) (i : Int) = some (V.int (row.getD i 0)) := fun i hi => atI_nat (get_vI (by omega))
    have r0 := getD_bytes hb 0
    have r1 := getD_bytes hb 1
    have r2 := getD_bytes hb 2
    refine ⟨_, pss_cons (ps_set (i := 2) scWordInit.nd rfl (Or.inl rfl) (pe_slice sl_list (pv 1) (po_some pe_int) (po_some (pe_op op_add pe_int (pe_ix ix_list (pv 1) pe_int (fun _ _ => rfl))))))
      (pss_cons (ps_fld (pv 0) (pe_cmpR op_eq (pe_ix ix_list (pv 1) pe_int (fun _ _ => rfl)) pe_int (nomark _)) rfl)
      (pss_cons (ps_fld (pv 0) (pe_ix ix_list (pv 1) pe_int (fun _ _ => rfl)) rfl)
      (pss_one (ps_fld (pv 0) (pe_ifExp (pt_val (pe_fld (pv 0) rfl)) (pe_callee C1 hr rfl (pa_cons (pv 2) pa_nil)) (pv 2)) rfl)))), ?_⟩
    dsimp only [cxOf, Cx.nox, Cx.wish]
    refine ⟨_, rfl, _, rfl, _, rfl, a, _, _, _, rfl, rfl, hS, at0 0 (by decide), _, _, rfl, rfl, _, rfl, a, _, rfl, hS, fun q hq => ?_⟩
    have hpq : p ≠ q := ne_of_none hp hq
    have c : cutV (vI row) (some 4) (some (4 + row.getD 0 0)) = vI ((row.drop 4).take (row.getD 0 0).toNat) := by
      rw [cut_int (by decide) (by omega)]
      show vI ((row.drop 4).take ((4 + row.getD 0 0).toNat - 4)) = _
      rw [show (4 + row.getD 0 0).toNat - 4 = (row.getD 0 0).toNat by omega]
    rw [c]
    generalize hH1 : upd H q (.lst (vI ((row.drop 4).take (row.getD 0 0).toNat))) = H1
    have s1 : Same H H1 := by rw [← hH1]; exact same_upd hq
    have hq1 : H1 q = some (.lst (vI ((row.drop 4).take (row.getD 0 0).toNat))) := by rw [← hH1]; exact upd_same
    have hp1 := s1 _ _ hp
    refine ⟨_, rfl, a, _, _, _, rfl, rfl, s1.seq hS, at0 1 (by decide), rfl, _, rfl, p, C, dx, [], rfl, hp1, W.cl, W.nF, (by show 0 < 1000; decide), ?_⟩
    have z : decide (V.int (row.getD 1 0) = V.int 1) = ((Kp135Neutral.word row).fold == 1) := by
      rw [Bool.eq_iff_iff, decide_eq_true_iff, V.int.injEq, beq_iff_eq]
      show row.getD 1 0 = 1 ↔ (row.getD 1 0).toNat = 1
      omega
    rw [z]
    generalize hH2 : upd H1 p (.ins C dx (putF "folds" (V.bl ((Kp135Neutral.word row).fold == 1)) [])) = H2
    have k2 : ∀ b o, H b = some o → b ≠ p → H2 b = some o := fun b o e hb => by rw [← hH2, upd_ne hb]; exact s1 _ _ e
    have hp2 : H2 p = some (.ins C dx [("folds", V.bl ((Kp135Neutral.word row).fold == 1))]) := by rw [← hH2]; exact upd_same
    have hq2 : H2 q = some (.lst (vI ((row.drop 4).take (row.getD 0 0).toNat))) := by rw [← hH2, upd_ne hpq.symm]; exact hq1
    have hS2 : SqL K H2 a (vI row) := by
      rcases hS with (h | ⟨o, h⟩) | h
      · exact .inl (.inl (k2 _ _ h (ne_of h hp (by intro z; cases z))))
      · exact .inl (.inr ⟨o, k2 _ _ h (ne_of h hp (by intro z; cases z))⟩)
      · exact .inr h
    refine ⟨_, rfl, a, _, _, _, rfl, rfl, hS2, at0 2 (by decide), rPut rfl hp2 W.cl W.nW (by show 1 < 1000; decide) ?_⟩
    generalize hH3 : upd H2 p (.ins C dx (putF "weight" (V.int (row.getD 2 0)) [("folds", V.bl ((Kp135Neutral.word row).fold == 1))])) = H3
    have ew : (((Kp135Neutral.word row).weight : Nat) : Int) = row.getD 2 0 := Int.toNat_of_nonneg r2.1
    have k3 : ∀ b o, H b = some o → b ≠ p → H3 b = some o := fun b o e hb => by rw [← hH3, upd_ne hb]; exact k2 _ _ e hb
    have hp3 : H3 p = some (.ins C dx [("folds", V.bl ((Kp135Neutral.word row).fold == 1)), ("weight", V.int (row.getD 2 0))]) := by
      rw [← hH3, upd_same]
      rfl
    have hq3 : H3 q = some (.lst (vI ((row.drop 4).take (row.getD 0 0).toNat))) := by rw [← hH3, upd_ne hpq.symm]; exact hq2
    have es := spell_word hb
    have fin : ∀ (H4 : Hp) (sp : Addr), Same H3 H4 → H sp = none → sp ≠ p → H4 sp = some (.lst (vI (spell (Kp135Neutral.word row)))) → Q .non (upd H4 p (.ins C dx (putF "spelling" (V.ref sp) [("folds", V.bl ((Kp135Neutral.word row).fold == 1)), ("weight", V.int (row.getD 2 0))]))) := fun H4 sp s4 n4 np h4 => by
      refine k _ sp (fun b o e hb => ?_) n4 ?_ ?_
      · rw [upd_ne hb]
        exact s4 _ _ (k3 _ _ e hb)
      · rw [upd_same, ew]
        rfl
      · rw [upd_ne np]
        exact h4
    refine ⟨_, rfl, p, C, dx, _, _, rfl, hp3, W.cl, W.nF, rfl, _, rfl, ?_⟩
    refine ite2 (fun h1 => ?_) (fun h1 => ?_)
    · have q1 : row.getD 1 0 = 1 := by
        have q := beq_iff_eq.mp h1
        have q' : (row.getD 1 0).toNat = 1 := q
        omega
      refine ⟨_, rfl, q, _, rfl, SqL.of hq3, ?_, fun H4 sp s4 n4 h4 => ?_⟩
      · rw [List.length_take, List.length_drop]
        omega
      · rw [if_pos q1] at es
        rw [← es] at h4
        refine rPut rfl (s4 _ _ hp3) W.cl W.nS (by show 2 < 1000; decide) (fin H4 sp s4 ?_ (ne_of h4 (s4 _ _ hp3) (by intro z; cases z)) h4)
        cases e : H sp with
        | none => rfl
        | some o =>
          have hne : sp ≠ p := ne_of h4 (s4 _ _ hp3) (by intro z; cases z)
          rw [k3 _ _ e hne] at n4
          cases n4
    · have q1 : ¬ row.getD 1 0 = 1 := fun q => h1 (by
        rw [beq_iff_eq]
        show (row.getD 1 0).toNat = 1
        omega)
      rw [if_neg q1] at es
      rw [← es] at hq3
      exact ⟨_, rfl, rPut rfl hp3 W.cl W.nS (by show 2 < 1000; decide) (fin H3 q (Same.refl _) hq hpq.symm hq3)⟩
end
end WL
end
section
set_option Elab.async false
set_option linter.all false
set_option maxRecDepth 100000
set_option maxHeartbeats 2000000
namespace WL
open PySem PySem.Spec PyProof.Rows L2
open Kp134 (Word Rules Text)
section
variable {P : Program} {w : World} {K : PySem.W.Frag} {mg : Str → Option Value} {base : Heap}
inductive AtWordsOf (K : PySem.W.Frag) (C : Addr) (vs : List V) (H : Hp) (Q : VK) : Prop
  | mk (a : Addr) (ns : List Int) (h0_ : vs = [.ref a]) (h1_ : SqL K H a (vI ns)) (h2_ : ns.length ≤ 100000) (h3_ : ns.length % 20 = 0) (h4_ : Bytes ns) (h5_ : ∀ (H' : Hp) (p : Addr), Same H H' → WordsAt (fun b => H b = none) C H' p (wordsOf ns) → Q (.ref p) H') : AtWordsOf K C vs H Q
noncomputable def spWordsOf (K : PySem.W.Frag) (C : Addr) : Sp := fun vs H Q _ => AtWordsOf K C vs H Q
theorem scWordsOf : FnScope ["rules", "row"] ["rules"] (defScope sWordsOf) := ⟨rfl, rfl, rfl, by decide +kernel, rfl, by decide +kernel, by decide +kernel⟩
theorem ok_wordsOf {f C : Addr} {fd : FuncData} (F : Fun K "words_of" "words_of" sWordsOf f fd) (T : Txt mg) (C1 : Callee P w K mg base 1 "word_rows" ["rules"] (spWordRows K)) (M : Maker P w K mg base 2 "Word" C ["self", "row"] (spWordInit K C)) :
    FnOk P w K mg base CX0 4 f fd ["rules"] (spWordsOf K C) := by
  refine F.ok scWordsOf (fun vs H Q E h => ?_) (fun cdv A outer s H vs Q E hr h => ?_)
  · obtain ⟨a, ns, rfl, _⟩ := h
    rfl
  · obtain ⟨a, ns, rfl, hS, hlen, h20, hby, k⟩ := h
    refine ⟨_, pss_one (ps_ret (pe_lc (own := [("row", 1)]) rfl scWordsOf.nd (pi_list (pe_callee C1 (hr.mono (by decide)) rfl (pa_cons (pv 0) pa_nil)))
      (blkOk_by (N := ["rules", "row"]) (sc := defScope sWordsOf) (by decide +kernel)) (fun _ _ _ _ _ => pg_name (i := 1) scWordsOf.nd rfl (Or.inl rfl)) (fun _ _ _ _ _ => pts_nil)
      (fun _ _ _ _ _ => pe_maker M hr rfl (pa_cons (pv 1) pa_nil)))), ?_⟩
    dsimp only [cxOf, Cx.nox, Cx.wish]
    refine ⟨_, rfl, a, ns, rfl, hS, hlen, h20, fun H1 p as s1 np hp hR => ⟨p, rfl, ⟨_, SqL.of hp⟩, fun D hD => ?_⟩⟩
    have nD : H D = none := s1.free hD
    refine lc_list (K := K) (a := p) (xs := as.map V.ref) (fun i H' => Same H1 H' ∧ ∃ ws : List Addr, H' D = some (.lst (ws.map V.ref)) ∧ ws.length = i ∧
        ∀ (j : Nat) (b : Addr) (v : Word), ws[j]? = some b → (wordsOf ns)[j]? = some v → WordAt (fun b => H b = none ∧ b ≠ D) C H' b v)
      ⟨same_upd hD, [], upd_same, rfl, fun j b v h => by simp at h⟩ (fun i H' _ q => q.1.seq (SqL.of hp)) (fun i x H' hi q => ?_) (fun H' q => ?_)
    · obtain ⟨b, hb, rfl⟩ := refs_get hi
      obtain ⟨hs, ws, hd, hl, hW⟩ := q
      obtain ⟨row, hrow⟩ : ∃ row, (rowsOf ns)[i]? = some row := ⟨_, List.getElem?_eq_getElem (by rw [← hR.len]; exact (List.getElem?_eq_some_iff.mp hb).1)⟩
      have hbr := hs _ _ (hR.at_ i b row hb hrow)
      refine ⟨rfl, yes (iteT ⟨_, rfl, fun x dx nx ndx ne => ?_⟩)⟩
      have sx : Same H' (upd (upd H' dx (.own x)) x (.ins C dx [])) := fun c o e => by
        rw [upd_ne (ne_of_none e nx), upd_ne (ne_of_none e ndx)]
        exact e
      refine ⟨x, dx, b, row, rfl, upd_same, SqL.of (sx _ _ hbr), rowsOf_len (List.mem_of_getElem? hrow), hby.sub fun z hz => rowsOf_mem (List.mem_of_getElem? hrow) hz, fun H2 sp k2 nsp h2 h3 => ⟨rfl, ?_⟩⟩
      have s2 : Same H' H2 := fun c o e => k2 c o (sx _ _ e) (ne_of_none e nx)
      have nsp' : H' sp = none := sx.free nsp
      have xD : x ≠ D := (ne_of_none hd nx).symm
      have spD : sp ≠ D := (ne_of_none hd nsp').symm
      have fr : ∀ c, H' c = none → H c = none := fun c e => (s1.trans hs).free e
      refine ⟨_, s2 _ _ hd, ?_, Same.upd (hs.trans s2) hD, ws ++ [x], ?_, ?_, fun j c v e1 e2 => ?_⟩
      · rw [List.length_map, hl]
        have := (List.getElem?_eq_some_iff.mp hrow).1
        rw [rowsOf_length] at this
        exact Nat.lt_of_lt_of_le this (Nat.le_trans (Nat.div_le_self _ _) (Nat.le_trans hlen (by decide)))
      · rw [upd_same, List.map_append]
        rfl
      · rw [List.length_append, hl]
        rfl
      · have hjl : j < ws.length + 1 := by
          have := (List.getElem?_eq_some_iff.mp e1).1
          rw [List.length_append] at this
          exact this
        by_cases hj : j < ws.length
        · rw [List.getElem?_append_left hj] at e1
          exact (hW j c v e1 e2).keep (fun _ d => d) fun c' o d e => by rw [upd_ne d.2]; exact s2 _ _ e
        · have ej : j = i := by omega
          subst ej
          rw [List.getElem?_append_right (by omega), hl, Nat.sub_self] at e1
          have ec : x = c := Option.some.inj e1
          subst ec
          unfold wordsOf at e2
          rw [List.getElem?_map, hrow] at e2
          have ev : Kp135Neutral.word row = v := Option.some.inj e2
          subst ev
          exact ⟨dx, sp, ⟨fr _ nx, xD⟩, ⟨fr _ nsp', spD⟩, by rw [upd_ne xD]; exact h2, by rw [upd_ne spD]; exact h3⟩
    · obtain ⟨hs, ws, hd, hl, hW⟩ := q
      refine k H' D (s1.trans hs) ⟨ws, nD, hd, ?_, fun i b v e1 e2 => (hW i b v e1 e2).keep (fun _ d => d.1) fun _ _ _ e => e⟩
      rw [hl, List.length_map, hR.len]
      unfold wordsOf
      rw [List.length_map]
inductive AtTimesSp (K : PySem.W.Frag) (vs : List V) (H : Hp) (Q : VK) : Prop
  | mk (a b : Addr) (sp tx : List Int) (h0_ : vs = [.ref a, .ref b]) (h1_ : SqL K H a (vI sp)) (h2_ : SqL K H b (vI tx)) (h3_ : sp.length ≤ 100000) (h4_ : tx.length ≤ 100000) (h5_ : ∀ H' : Hp, Same H H' → Q (.int (times sp tx)) H') : AtTimesSp K vs H Q
noncomputable def spTimesSp (K : PySem.W.Frag) : Sp := fun vs H Q _ => AtTimesSp K vs H Q
theorem scTimesSp : FnScope ["spelling", "text", "size", "at"] ["spelling", "text"] (defScope sTimesSp) := ⟨rfl, rfl, rfl, by decide +kernel, rfl, by decide +kernel, by decide +kernel⟩
theorem ok_timesSp {f : Addr} {fd : FuncData} (F : Fun K "times_spelled" "times_spelled" sTimesSp f fd) (T : Txt mg) : FnOk P w K mg base CX0 1 f fd ["spelling", "text"] (spTimesSp K) := by
  refine F.ok scTimesSp (fun vs H Q E h => ?_) (fun cdv A outer s H vs Q E hr h => ?_)
  · obtain ⟨a, b, sp, tx, rfl, _⟩ := h
    rfl
  · obtain ⟨a, b, sp, tx, rfl, hA, hB, la, lb, k⟩ := h
    refine ⟨_, pss_cons (ps_set (i := 2) scTimesSp.nd rfl (Or.inr rfl) (pe_callB call_len_seq rfl T.len PySem.boot_len (pa_cons (pv 0) pa_nil)))
      (pss_one (ps_ret (pe_callB call_len_seq rfl T.len PySem.boot_len (pa_cons (pe_lc (own := [("at", 3)]) rfl scTimesSp.nd
        (pi_range1 rfl T.range (pa_cons (pe_op op_add (pe_op op_sub (pe_callB call_len_seq rfl T.len PySem.boot_len (pa_cons (pv 1) pa_nil)) (pv 2)) pe_int) pa_nil))
        (blkOk_by (N := ["spelling", "text", "size", "at"]) (sc := defScope sTimesSp) (by decide +kernel)) (fun _ _ _ _ _ => pg_name (i := 3) scTimesSp.nd rfl (Or.inl rfl))
        (fun _ _ _ _ _ => pts_one (pt_cmpR (r := rEqD K) (op_eqD hr.units) (pe_slice (r := rSlL K) sl_list (pv 1) (po_some (pv 3)) (po_some (pe_op op_add (pv 3) (pv 2)))) (pv 0) (nomark _)))
        (fun _ _ _ _ _ => pv 3)) pa_nil)))), ?_⟩
    dsimp only [cxOf, Cx.nox, Cx.wish]
    refine ⟨_, rfl, a, _, rfl, .inl hA, ?_⟩
    rw [List.length_map]
    refine ⟨_, rfl, b, _, rfl, .inl hB, ?_⟩
    rw [List.length_map]
    refine ⟨_, rfl, mkI (mkI ⟨_, rfl, by omega, by omega, fun D hD => ?_⟩)⟩
    have en : ((tx.length : Int) - (sp.length : Int) + 1).toNat = tx.length + 1 - sp.length := by omega
    rw [en]
    refine lc_range (lo := 0) (fun i H' => Same H H' ∧ H' D = some (.lst (((List.range i).filter fun i => decide ((tx.drop i).take sp.length = sp)).map fun (i : Nat) => V.int (i : Int)))) ⟨same_upd hD, upd_same⟩ (fun i H' hi q => ?_) (fun H' q => ?_)
    · have hs := q.1
      have hd := q.2
      refine ⟨rfl, _, rfl, _, rfl, _, rfl, _, rfl, _, rfl, mkI ⟨_, rfl, b, _, rfl, hs.seq hB, fun p hp => ?_⟩⟩
      have c := cut_nn tx i (i + sp.length)
      rw [show i + sp.length - i = sp.length by omega, show ((i + sp.length : Nat) : Int) = (i : Int) + (sp.length : Int) by omega] at c
      rw [show (0 : Int) + (i : Int) = (i : Int) by omega, c]
      have s2 : Same H (upd H' p (.lst (vI ((tx.drop i).take sp.length)))) := hs.trans (same_upd hp)
      refine ⟨_, rfl, eq_lists (SqL.of upd_same) (s2.seq hA) ⟨_, rfl, ?_⟩⟩
      have er : List.range (i + 1) = List.range i ++ [i] := List.range_succ
      refine ite2 (fun h1 => ⟨_, rfl, _, (upd_ne (ne_of_none hd hp)).trans hd, ?_, Same.upd s2 hD, ?_⟩) (fun h1 => ⟨s2, ?_⟩)
      · rw [List.length_map]
        have := List.length_filter_le (fun i => decide ((tx.drop i).take sp.length = sp)) (List.range i)
        rw [List.length_range] at this
        exact Nat.lt_of_le_of_lt this (Nat.lt_of_lt_of_le hi (Nat.le_trans (Nat.sub_le _ _) (Nat.le_trans (Nat.succ_le_succ lb) (by decide))))
      · rw [upd_same, er, List.filter_append, List.filter_cons, if_pos h1, List.map_append]
        rfl
      · rw [upd_ne (ne_of_none hd hp), hd, er, List.filter_append, List.filter_cons, if_neg h1, List.filter_nil, List.append_nil]
    · have hs := q.1
      have hd := q.2
      refine ⟨D, _, rfl, .inl (SqL.of hd), ?_⟩
      rw [List.length_map]
      exact k H' hs
end
end WL
end
section
set_option Elab.async false
set_option linter.all false
set_option maxRecDepth 100000
set_option maxHeartbeats 2000000
namespace WL
open PySem PySem.Spec PyProof.Rows L2
open Kp134 (Word Rules Text)
section
variable {P : Program} {w : World} {K : PySem.W.Frag} {mg : Str → Option Value} {base : Heap}
inductive AtTimesEach (K : PySem.W.Frag) (C : Addr) (vs : List V) (H : Hp) (Q : VK) : Prop
  | mk (a b : Addr) (ws : List Word) (t : Text) (D : Addr → Prop) (h0_ : vs = [.ref a, .ref b]) (h1_ : WordsAt D C H a ws) (h2_ : (∀ v ∈ ws, WOk v)) (h3_ : ws.length ≤ 64) (h4_ : SqL K H b (vI (encT t))) (h5_ : t.length ≤ 10000) (h6_ : ∀ (H' : Hp) (p : Addr), Same H H' → H p = none → H' p = some (.lst (vI (encN (ws.map fun v => Kp134.count v t)))) → Q (.ref p) H') : AtTimesEach K C vs H Q
noncomputable def spTimesEach (K : PySem.W.Frag) (C : Addr) : Sp := fun vs H Q _ => AtTimesEach K C vs H Q
theorem scTimesEach : FnScope ["words", "text", "folded_text", "word"] ["words", "text"] (defScope sTimesEach) := ⟨rfl, rfl, rfl, by decide +kernel, rfl, by decide +kernel, by decide +kernel⟩
theorem wf_folds {b : Bool} {wt : Int} {sp : Addr} : (wordF b wt sp).lookup ("folds" : Str) = some (.bl b) := rfl
theorem wf_weight {b : Bool} {wt : Int} {sp : Addr} : (wordF b wt sp).lookup ("weight" : Str) = some (.int wt) := rfl
theorem wf_spelling {b : Bool} {wt : Int} {sp : Addr} : (wordF b wt sp).lookup ("spelling" : Str) = some (.ref sp) := rfl
theorem txt_if {v : Word} {t : Text} : txt v t = if (v.fold == 1) = true then (encT t).map foldI else encT t := rfl
theorem ok_timesEach {f C : Addr} {fd : FuncData} (F : Fun K "times_of_each" "times_of_each" sTimesEach f fd) (T : Txt mg) (W : WCls K C) (C1 : Callee P w K mg base 1 "folded" ["row"] (spFolded K)) (C2 : Callee P w K mg base 1 "times_spelled" ["spelling", "text"] (spTimesSp K)) :
    FnOk P w K mg base CX0 2 f fd ["words", "text"] (spTimesEach K C) := by
  refine F.ok scTimesEach (fun vs H Q E h => ?_) (fun cdv A outer s H vs Q E hr h => ?_)
  · obtain ⟨a, b, ws, t, D, rfl, _⟩ := h
    rfl
  · obtain ⟨a, b, ws, t, Dw, rfl, hW, hok, h64, hB, ht, k⟩ := h
    obtain ⟨as, _, ha, hlen, hat⟩ := hW.ex
    refine ⟨_, pss_cons (ps_set (i := 2) scTimesEach.nd rfl (Or.inr rfl) (pe_callee C1 hr rfl (pa_cons (pv 1) pa_nil)))
      (pss_one (ps_ret (pe_lc (own := [("word", 3)]) rfl scTimesEach.nd (pi_list (pv 0)) (blkOk_by (N := ["words", "text", "folded_text", "word"]) (sc := defScope sTimesEach) (by decide +kernel))
        (fun _ _ _ _ _ => pg_name (i := 3) scTimesEach.nd rfl (Or.inl rfl)) (fun _ _ _ _ _ => pts_nil)
        (fun _ _ _ _ _ => pe_callee C2 hr rfl (pa_cons (te := tFld K (tVar 3) "spelling") (pe_fld (pv 3) rfl) (pa_cons (pe_ifExp (pt_val (t := tFld K (tVar 3) "folds") (pe_fld (pv 3) rfl)) (pv 2) (pv 1)) pa_nil)))))), ?_⟩
    dsimp only [cxOf, Cx.nox, Cx.wish]
    refine ⟨_, rfl, b, _, rfl, hB, by rw [encT_length]; omega, fun H1 p s1 np hp => ?_⟩
    refine ⟨_, rfl, a, rfl, ⟨_, SqL.of (s1 _ _ ha)⟩, fun D hD => lc_list (K := K) (a := a) (xs := as.map V.ref) (fun i H' => Same H1 H' ∧ H' D = some (.lst (vI (encN ((ws.take i).map fun v => Kp134.count v t)))))
      ⟨same_upd hD, upd_same⟩ (fun i H' _ q => q.1.seq (SqL.of (s1 _ _ ha))) (fun i x H' hi q => ?_) (fun H' q => ?_)⟩
    · obtain ⟨c, hc, rfl⟩ := refs_get hi
      have hs := q.1
      have hd := q.2
      obtain ⟨v, hv⟩ : ∃ v, ws[i]? = some v := ⟨_, List.getElem?_eq_getElem (by rw [← hlen]; exact (List.getElem?_eq_some_iff.mp hc).1)⟩
      refine (hat i c v hc hv).elim fun dx sp g1 g2 => ?_
      have s2 : Same H H' := s1.trans hs
      have ok := hok v (List.mem_of_getElem? hv)
      have fin : ∀ H2 : Hp, Same H' H2 → ∃ acc, H2 D = some (HO.lst acc) ∧ acc.length < sizeLine ∧ Same H1 (upd H2 D (.lst (acc ++ [V.int (times (spell v) (txt v t) : Nat)]))) ∧ upd H2 D (.lst (acc ++ [V.int (times (spell v) (txt v t) : Nat)])) D = some (.lst (vI (encN ((ws.take (i + 1)).map fun v => Kp134.count v t)))) := fun H2 s3 => by
        refine ⟨_, s3 _ _ hd, ?_, Same.upd (hs.trans s3) hD, ?_⟩
        · rw [List.length_map, encN_length, List.length_map, List.length_take]
          exact Nat.lt_of_le_of_lt (Nat.le_trans (Nat.min_le_right _ _) h64) (by decide)
        · rw [upd_same, take_snoc hv, ← ok.count t]
          simp [vI, encN]
      refine ⟨rfl, yes (iteT (rFld rfl (s2 _ _ g1) W.cl W.nS wf_spelling (rFld rfl (s2 _ _ g1) W.cl W.nF wf_folds ⟨_, rfl, ?_⟩)))⟩
      have lsp : (spell v).length ≤ 100000 := by rw [spell_length ok.len ok.n16]; have := ok.n16; omega
      refine ite2 (fun h1 => ?_) (fun h1 => ?_)
      · refine ⟨_, rfl, sp, p, spell v, (encT t).map foldI, rfl, SqL.of (s2 _ _ g2), SqL.of (hs _ _ hp), lsp, by rw [List.length_map, encT_length]; omega, fun H2 s3 => ?_⟩
        have e := fin H2 s3
        rw [txt_if, if_pos h1] at e
        exact e
      · refine ⟨_, rfl, sp, b, spell v, encT t, rfl, SqL.of (s2 _ _ g2), s2.seq hB, lsp, by rw [encT_length]; omega, fun H2 s3 => ?_⟩
        have e := fin H2 s3
        rw [txt_if, if_neg h1] at e
        exact e
    · have hs := q.1
      have hd := q.2
      rw [List.length_map, hlen, List.take_length] at hd
      exact k H' D (s1.trans hs) (s1.free hD) hd
inductive AtWeightOf (K : PySem.W.Frag) (C : Addr) (vs : List V) (H : Hp) (Q : VK) : Prop
  | mk (a b : Addr) (ws : List Word) (c : List Nat) (D : Addr → Prop) (h0_ : vs = [.ref a, .ref b]) (h1_ : WordsAt D C H a ws) (h2_ : (∀ v ∈ ws, WOk v)) (h3_ : ws.length ≤ 64) (h4_ : SqL K H b (vI (encN c))) (h5_ : ws.length = c.length) (h6_ : ∀ H' : Hp, Same H H' → Q (.int (weigh ws c : Nat)) H') : AtWeightOf K C vs H Q
noncomputable def spWeightOf (K : PySem.W.Frag) (C : Addr) : Sp := fun vs H Q _ => AtWeightOf K C vs H Q
theorem scWeightOf : FnScope ["words", "times", "word", "often"] ["words", "times"] (defScope sWeightOf) := ⟨rfl, rfl, rfl, by decide +kernel, rfl, by decide +kernel, by decide +kernel⟩
theorem sum_nat : ∀ l : List Nat, (l.map fun (n : Nat) => (n : Int)).sum = ((l.sum : Nat) : Int)
  | [] => rfl
  | x :: l => by
    rw [List.map_cons, List.sum_cons, List.sum_cons, sum_nat l]
    omega
theorem ok_weightOf {f C : Addr} {fd : FuncData} (F : Fun K "weight_of" "weight_of" sWeightOf f fd) (T : Txt mg) (W : WCls K C) : FnOk P w K mg base CX0 1 f fd ["words", "times"] (spWeightOf K C) := by
  refine F.ok scWeightOf (fun vs H Q E h => ?_) (fun cdv A outer s H vs Q E hr h => ?_)
  · obtain ⟨a, b, ws, t, D, rfl, _⟩ := h
    rfl
  · obtain ⟨a, b, ws, c, Dw, rfl, hW, hok, h64, hB, hc, k⟩ := h
    obtain ⟨as, _, ha, hlen, hat⟩ := hW.ex
    have lx : (as.map V.ref).length = (vI (encN c)).length := by rw [List.length_map, List.length_map, encN_length, hlen, hc]
    refine ⟨_, pss_one (ps_ret (pe_callB (cr_sum rfl) rfl T.sum bSum (pa_cons (pe_lc (own := [("word", 2), ("often", 3)]) (g := gTup K 2 (gCons (gName 2) (gCons (gName 3) gNil))) rfl scWeightOf.nd (pi_zip rfl T.zip (pa_cons (pv 0) (pa_cons (pv 1) pa_nil)))
        (blkOk_by (N := ["words", "times", "word", "often"]) (sc := defScope sWeightOf) (by decide +kernel))
        (fun _ _ _ _ _ => pg_tup rfl (pgs_cons (pg_name (i := 2) scWeightOf.nd rfl (Or.inl rfl)) (pgs_cons (pg_name (i := 3) scWeightOf.nd rfl (Or.inl rfl)) pgs_nil))) (fun _ _ _ _ _ => pts_nil)
        (fun _ _ _ _ _ => pe_op op_mul (ta := tFld K (tVar 2) "weight") (pe_fld (pv 2) rfl) (pe_callB (call_min2 rfl) rfl T.min bMin (pa_cons (pv 3) (pa_cons (pe_num T.mostTimes rfl) pa_nil))))) pa_nil))), ?_⟩
    dsimp only [cxOf, Cx.nox, Cx.wish]
    refine ⟨_, rfl, _, rfl, a, b, _, _, rfl, SqL.of ha, hB, fun D hD => lc_zip (K := K) (xs := as.map V.ref) (ys := vI (encN c)) lx (fun i H' => Same H H' ∧ H' D = some (.lst (vI (encN (((ws.zip c).take i).map fun p => p.1.weight * min p.2 255)))))
      ⟨same_upd hD, upd_same⟩ (fun i H' _ q => ⟨q.1.seq (SqL.of ha), q.1.seq hB⟩) (fun i x y tp H' hx hy q hT => ?_) (fun H' q => ?_)⟩
    · obtain ⟨o, ho, rfl⟩ := refs_get hx
      obtain ⟨z, hz, rfl⟩ := vI_get hy
      have hs := q.1
      have hd := q.2
      obtain ⟨v, hv⟩ : ∃ v, ws[i]? = some v := ⟨_, List.getElem?_eq_getElem (by rw [← hlen]; exact (List.getElem?_eq_some_iff.mp ho).1)⟩
      obtain ⟨n, hn, rfl⟩ : ∃ n : Nat, c[i]? = some n ∧ z = (n : Int) := by
        unfold encN at hz
        rw [List.getElem?_map] at hz
        cases e : c[i]? with
        | none => rw [e] at hz; cases hz
        | some n => rw [e] at hz; exact ⟨n, rfl, (Option.some.inj hz).symm⟩
      refine (hat i o v ho hv).elim fun dx sp g1 g2 => ?_
      have ok := (hok v (List.mem_of_getElem? hv)).w127
      have s2 : Same H' (upd H' tp (.tup [V.ref o, V.int (n : Int)])) := same_upd hT
      refine ⟨tp, _, rfl, tup2, rfl, _, _, rfl, _, _, rfl, rfl, rfl, yes (iteT (rFld rfl (s2 _ _ (hs _ _ g1)) W.cl W.nW wf_weight ⟨_, rfl, _, _, rfl, _, _, rfl, rfl, .inl ⟨by omega, by omega⟩, ?_⟩))⟩
      refine ⟨_, s2 _ _ hd, ?_, Same.upd (hs.trans s2) hD, ?_⟩
      · rw [List.length_map, encN_length, List.length_map, List.length_take, List.length_zip]
        exact Nat.lt_of_le_of_lt (Nat.le_trans (Nat.min_le_right _ _) (Nat.le_trans (Nat.min_le_left _ _) h64)) (by decide)
      · have hp : (ws.zip c)[i]? = some (v, n) := by
          rw [List.getElem?_zip_eq_some]
          exact ⟨hv, hn⟩
        have em : (if (255 : Int) < (n : Int) then (255 : Int) else (n : Int)) = ((min n 255 : Nat) : Int) := by
          split <;> omega
        rw [upd_same, take_snoc hp]
        have e2 : (v.weight : Int) * (if (255 : Int) < (n : Int) then (255 : Int) else (n : Int)) = ((v.weight * min n 255 : Nat) : Int) := by rw [em, Int.natCast_mul]
        show some (HO.lst (_ ++ [V.int ((v.weight : Int) * (if (255 : Int) < (n : Int) then (255 : Int) else (n : Int)))])) = _
        rw [e2]
        unfold vI encN
        rw [List.map_append, List.map_append, List.map_append]
        rfl
    · have hs := q.1
      have hd := q.2
      rw [List.length_map, hlen, List.take_of_length_le (by rw [List.length_zip]; omega)] at hd
      refine ⟨D, _, rfl, SqL.of hd, ?_⟩
      show Q (.int ((((ws.zip c).map fun p => p.1.weight * min p.2 255).map fun (n : Nat) => (n : Int)).sum)) H'
      rw [sum_nat]
      exact k H' hs
end
end WL
end
section
set_option Elab.async false
set_option linter.all false
set_option maxRecDepth 100000
set_option maxHeartbeats 4000000
namespace WL
open PySem PySem.Spec PyProof.Rows L2
noncomputable abbrev Tri (h : Heap) (T : Addr) (a b c : Value) : Prop := h.get? T = some { cls := .type "tuple", data := .seq #[a, b, c] }
structure Ap3 (z U O i j k l m n : Addr) : Prop where
  uz : U ≠ z
  oz : O ≠ z
  iz : i ≠ z
  jz : j ≠ z
  kz : k ≠ z
  uo : U ≠ O
  ui : U ≠ i
  uj : U ≠ j
  uk : U ≠ k
  oi : O ≠ i
  oj : O ≠ j
  ok : O ≠ k
  ij : i ≠ j
  ik : i ≠ k
  jk : j ≠ k
  l5 : l ≠ z ∧ l ≠ O ∧ l ≠ i ∧ l ≠ j ∧ l ≠ k
  m5 : m ≠ z ∧ m ≠ O ∧ m ≠ i ∧ m ≠ j ∧ m ≠ k
  n5 : n ≠ z ∧ n ≠ O ∧ n ≠ i ∧ n ≠ j ∧ n ≠ k
section
variable {prog : Program} {w : World} {A : Around} {E : Value → Shared → Prop} {s : Shared}
theorem put_tri {T : Addr} {a b c x : Value} {q : Nat} {Q : Unit → Shared → Prop} (hT : Tri s.heap T a b c)
    (h : ∀ h', h'.get? T = some { cls := .type "tuple", data := .seq ((#[a, b, c] : Array Value).setIfInBounds q x) } → Heap.SameBut T s.heap h' → Q () { s with heap := h' }) :
    wpAny (model prog w) A (updateSeq T (·.setIfInBounds q x)) Q E s := by
  refine wpAny_updateSeq hT rfl (h _ ?_ (Heap.SameBut.update ..))
  rw [Heap.get?_update_self _ hT rfl]; simp [Obj.mapSeq]
theorem zip3_item {z U O i j k l m n : Addr} {p1 p2 p3 : Nat} {xs ys zs : Array Value} {x y v a b c : Value} {Q : Value → Shared → Prop} (D : Ap3 z U O i j k l m n)
    (hz : IsZip s.heap z U O .none) (hU : Tri s.heap U (.ref i) (.ref j) (.ref k)) (hO : Tri s.heap O a b c)
    (h1 : s.heap.IsListIter i l p1) (h2 : s.heap.IsListIter j m p2) (h3 : s.heap.IsListIter k n p3) (q1 : s.heap.IsList l xs) (q2 : s.heap.IsList m ys) (q3 : s.heap.IsList n zs) (hx : xs[p1]? = some x) (hy : ys[p2]? = some y) (hv : zs[p3]? = some v)
    (hQ : ∀ h', IsZip h' z U O (rawInt s.heap.objs.size) → Tri h' O x y v → h'.IsListIter i l (p1 + 1) → h'.IsListIter j m (p2 + 1) → h'.IsListIter k n (p3 + 1) → Tri h' s.heap.objs.size x y v → h'.objs.size = s.heap.objs.size + 1 →
      (∀ d o, d ≠ z → d ≠ O → d ≠ i → d ≠ j → d ≠ k → s.heap.get? d = some o → h'.get? d = some o) → Q (.ref s.heap.objs.size) { s with heap := h' }) :
    wpAny (model prog w) A (Builtin.«zip.__next__» ⟨[.ref z], []⟩) (fun fin s' => ∃ v, fin = .done (.ret v) ∧ Q v s') E s := by
  show wpAny _ _ (field (.ref z) 2 >>= _) _ _ _; refine wpAny_bind (wpAny_field hz rfl (x := .bool false) rfl ?_)
  show wpAny _ _ (field (.ref z) 3 >>= _) _ _ _; refine wpAny_bind (wpAny_field hz rfl (x := .ref U) rfl ?_)
  refine wpAny_bind (wpAny_seqItems hU rfl ?_)
  show wpAny _ _ (Builtin.SmallTypes.ownedTupleIsFree (.ref z) >>= _) _ _ _; refine wpAny_bind ?_; unfold Builtin.SmallTypes.ownedTupleIsFree
  refine wpAny_bind (wpAny_field hz rfl (x := .none) rfl (wpAny_pure ?_)); simp only [if_true]
  refine wpAny_bind (wpAny_rule ?_); refine wpAny_bind (wpAny_field hz rfl (x := .ref O) rfl ?_)
  refine wpAny_bind (wpAny_setField_rec hz (by simp) fun g1 hz1 b1 => ?_); replace hz1 : IsZip g1 z U O .ellipsis := hz1
  refine wpAny_bind ?_; simp only [List.zipIdx_cons, List.zipIdx_nil, List.forIn_cons, List.forIn_nil]
  refine wpAny_bind (wpAny_bind (wpAny_onRaise ?_)); show wpAny _ _ (Builtin.SmallTypes.nextOf (.ref i) >>= _) _ _ _
  have e1 : ∀ d o, d ≠ z → s.heap.get? d = some o → g1.get? d = some o := fun d o hd e => b1.extBut _ _ hd e
  refine wpAny_bind (wpAny_nextOf_list_item (h1.at fun o e => e1 _ o D.iz e) (q1.at fun o e => e1 _ o D.l5.1 e) hx fun g2 k2 b2 => wpAny_pure ?_)
  have e2 : ∀ d o, d ≠ z → d ≠ i → s.heap.get? d = some o → g2.get? d = some o := fun d o hd hi e => b2.extBut _ _ hi (e1 d o hd e)
  have hO2 : Tri g2 O a b c := e2 _ _ D.oz D.oi hO
  refine wpAny_bind (wpAny_seqItems hO2 rfl ?_); refine wpAny_bind (put_tri hO2 fun g3 hO3 b3 => ?_); replace hO3 : Tri g3 O x b c := hO3
  refine wpAny_bind (wpAny_letGo (wpAny_pure ?_))
  have e3 : ∀ d o, d ≠ z → d ≠ i → d ≠ O → s.heap.get? d = some o → g3.get? d = some o := fun d o hd hi ho e => b3.extBut _ _ ho (e2 d o hd hi e)
  refine wpAny_bind (wpAny_bind (wpAny_onRaise ?_)); show wpAny _ _ (Builtin.SmallTypes.nextOf (.ref j) >>= _) _ _ _
  refine wpAny_bind (wpAny_nextOf_list_item (h2.at fun o e => e3 _ o D.jz D.ij.symm D.oj.symm e) (q2.at fun o e => e3 _ o D.m5.1 D.m5.2.2.1 D.m5.2.1 e) hy fun g4 k4 b4 => wpAny_pure ?_)
  have e4 : ∀ d o, d ≠ z → d ≠ i → d ≠ O → d ≠ j → s.heap.get? d = some o → g4.get? d = some o := fun d o hd hi ho hj e => b4.extBut _ _ hj (e3 d o hd hi ho e)
  have hO4 : Tri g4 O x b c := b4.extBut _ _ D.oj hO3
  refine wpAny_bind (wpAny_seqItems hO4 rfl ?_); refine wpAny_bind (put_tri hO4 fun g5 hO5 b5 => ?_); replace hO5 : Tri g5 O x y c := hO5
  refine wpAny_bind (wpAny_letGo (wpAny_pure ?_))
  have e5 : ∀ d o, d ≠ z → d ≠ i → d ≠ O → d ≠ j → s.heap.get? d = some o → g5.get? d = some o := fun d o hd hi ho hj e => b5.extBut _ _ ho (e4 d o hd hi ho hj e)
  refine wpAny_bind (wpAny_bind (wpAny_onRaise ?_)); show wpAny _ _ (Builtin.SmallTypes.nextOf (.ref k) >>= _) _ _ _
  refine wpAny_bind (wpAny_nextOf_list_item (h3.at fun o e => e5 _ o D.kz D.ik.symm D.ok.symm D.jk.symm e) (q3.at fun o e => e5 _ o D.n5.1 D.n5.2.2.1 D.n5.2.1 D.n5.2.2.2.1 e) hv fun g6 k6 b6 => wpAny_pure ?_)
  have e6 : ∀ d o, d ≠ z → d ≠ i → d ≠ O → d ≠ j → d ≠ k → s.heap.get? d = some o → g6.get? d = some o := fun d o hd hi ho hj hk e => b6.extBut _ _ hk (e5 d o hd hi ho hj e)
  have hO6 : Tri g6 O x y c := b6.extBut _ _ D.ok hO5
  refine wpAny_bind (wpAny_seqItems hO6 rfl ?_); refine wpAny_bind (put_tri hO6 fun g7 hO7 b7 => ?_); replace hO7 : Tri g7 O x y v := hO7
  refine wpAny_bind (wpAny_letGo (wpAny_pure (wpAny_pure ?_)))
  have e7 : ∀ d o, d ≠ z → d ≠ i → d ≠ O → d ≠ j → d ≠ k → s.heap.get? d = some o → g7.get? d = some o := fun d o hd hi ho hj hk e => b7.extBut _ _ ho (e6 d o hd hi ho hj hk e)
  refine wpAny_bind (wpAny_seqItems hO7 rfl ?_); refine wpAny_bind (wpAny_newTuple ?_)
  have hsz : g7.objs.size = s.heap.objs.size := by rw [b7.1, b6.1, b5.1, b4.1, b3.1, b2.1, b1.1]
  have hz7 : IsZip g7 z U O .ellipsis := b7.extBut _ _ D.oz.symm (b6.extBut _ _ D.kz.symm (b5.extBut _ _ D.oz.symm (b4.extBut _ _ D.jz.symm (b3.extBut _ _ D.oz.symm (b2.extBut _ _ D.iz.symm hz1)))))
  have i7 : g7.IsListIter i l (p1 + 1) := k2.at fun o e => b7.extBut _ _ D.oi.symm (b6.extBut _ _ D.ik (b5.extBut _ _ D.oi.symm (b4.extBut _ _ D.ij (b3.extBut _ _ D.oi.symm e))))
  have j7 : g7.IsListIter j m (p2 + 1) := k4.at fun o e => b7.extBut _ _ D.oj.symm (b6.extBut _ _ D.jk (b5.extBut _ _ D.oj.symm e))
  have k7 : g7.IsListIter k n (p3 + 1) := k6.at fun o e => b7.extBut _ _ D.ok.symm e
  have zl : z < g7.objs.size := Heap.lt_size hz7
  show wpAny _ _ (Builtin.SmallTypes.ownedTupleHandOut (.ref z) (.ref g7.objs.size) >>= _) _ _ _; refine wpAny_bind ?_; unfold Builtin.SmallTypes.ownedTupleHandOut
  have hz8 : IsZip (g7.push { cls := .type "tuple", data := .seq #[x, y, v] }) z U O .ellipsis := Heap.get?_push_of_some _ hz7
  refine wpAny_bind (wpAny_setField_rec hz8 (by simp) fun g9 hz9 b9 => ?_); replace hz9 : IsZip g9 z U O (rawInt g7.objs.size) := hz9
  refine wpAny_setField_rec hz9 (by simp) fun gA hzA bA => ?_; replace hzA : IsZip gA z U O (rawInt g7.objs.size) := hzA
  have up : ∀ d o, d ≠ z → g7.get? d = some o → gA.get? d = some o := fun d o hd e => bA.extBut _ _ hd (b9.extBut _ _ hd (Heap.get?_push_of_some _ e))
  have hTA : Tri gA g7.objs.size x y v := bA.extBut _ _ (Nat.ne_of_gt zl) (b9.extBut _ _ (Nat.ne_of_gt zl) (Heap.get?_push_size _ rfl))
  have zA : gA.objs.size = g7.objs.size + 1 := by rw [bA.1, b9.1, Heap.size_push]
  rw [hsz] at hzA hTA zA
  refine wpAny_pure ⟨_, rfl, ?_⟩; show Q (.ref g7.objs.size) _; rw [hsz]
  exact hQ gA hzA (up _ _ D.oz hO7) (i7.at fun o e => up _ o D.iz e) (j7.at fun o e => up _ o D.jz e) (k7.at fun o e => up _ o D.kz e) hTA zA fun d o c1 c2 c3 c4 c5 e => up d o c1 (e7 d o c1 c3 c2 c4 c5 e)
theorem zip3_end {z U O i j k l m n : Addr} {p1 : Nat} {xs : Array Value} {Q : Fin → Shared → Prop} (hh : A.handled = none) (D : Ap3 z U O i j k l m n)
    (hz : IsZip s.heap z U O .none) (hU : Tri s.heap U (.ref i) (.ref j) (.ref k)) (h1 : s.heap.IsListIter i l p1) (q1 : s.heap.IsList l xs) (hx : xs[p1]? = none)
    (hE : ∀ h' e, (∀ d o, d ≠ z → d ≠ i → s.heap.get? d = some o → h'.get? d = some o) → (∃ o, h'.get? e = some o ∧ o.cls = .type "StopIteration") → E (.ref e) { s with heap := h' }) :
    wpAny (model prog w) A (Builtin.«zip.__next__» ⟨[.ref z], []⟩) Q E s := by
  show wpAny _ _ (field (.ref z) 2 >>= _) _ _ _; refine wpAny_bind (wpAny_field hz rfl (x := .bool false) rfl ?_)
  show wpAny _ _ (field (.ref z) 3 >>= _) _ _ _; refine wpAny_bind (wpAny_field hz rfl (x := .ref U) rfl ?_)
  refine wpAny_bind (wpAny_seqItems hU rfl ?_)
  show wpAny _ _ (Builtin.SmallTypes.ownedTupleIsFree (.ref z) >>= _) _ _ _; refine wpAny_bind ?_; unfold Builtin.SmallTypes.ownedTupleIsFree
  refine wpAny_bind (wpAny_field hz rfl (x := .none) rfl (wpAny_pure ?_)); simp only [if_true]
  refine wpAny_bind (wpAny_rule ?_); refine wpAny_bind (wpAny_field hz rfl (x := .ref O) rfl ?_)
  refine wpAny_bind (wpAny_setField_rec hz (by simp) fun g1 hz1 b1 => ?_); replace hz1 : IsZip g1 z U O .ellipsis := hz1
  refine wpAny_bind ?_; simp only [List.zipIdx_cons, List.zipIdx_nil, List.forIn_cons, List.forIn_nil]
  refine wpAny_bind (wpAny_bind (wpAny_onRaise ?_)); show wpAny _ _ (Builtin.SmallTypes.nextOf (.ref i) >>= _) _ _ _
  refine wpAny_bind (wpAny_nextOf_list_end hh (h1.at fun o e => b1.extBut _ o D.iz e) (q1.at fun o e => b1.extBut _ o D.l5.1 e) hx fun g2 e b2 he => ?_)
  obtain ⟨oe, hoe, hce⟩ := he
  have hz2 : IsZip g2 z U O .ellipsis := b2 _ _ D.iz.symm hz1
  have hez : e ≠ z := fun q => by subst q; rw [hz2] at hoe; cases hoe; simp at hce
  exact wpAny_setField_rec hz2 (by simp) fun g3 _ b3 => hE g3 e (fun d o c1 c3 q => b3.extBut _ _ c1 (b2 _ _ c3 (b1.extBut _ _ c1 q))) ⟨oe, b3.extBut _ _ hez hoe, hce⟩
theorem next_zip3 {z U O i j k l m n : Addr} {p1 p2 p3 : Nat} {xs ys zs : Array Value} {x y v a b c : Value} {Q : Option Value → Shared → Prop} (D : Ap3 z U O i j k l m n)
    (hz : IsZip s.heap z U O .none) (hU : Tri s.heap U (.ref i) (.ref j) (.ref k)) (hO : Tri s.heap O a b c)
    (h1 : s.heap.IsListIter i l p1) (h2 : s.heap.IsListIter j m p2) (h3 : s.heap.IsListIter k n p3) (q1 : s.heap.IsList l xs) (q2 : s.heap.IsList m ys) (q3 : s.heap.IsList n zs) (hx : xs[p1]? = some x) (hy : ys[p2]? = some y) (hv : zs[p3]? = some v)
    (hQ : ∀ h', IsZip h' z U O (rawInt s.heap.objs.size) → Tri h' O x y v → h'.IsListIter i l (p1 + 1) → h'.IsListIter j m (p2 + 1) → h'.IsListIter k n (p3 + 1) → Tri h' s.heap.objs.size x y v → h'.objs.size = s.heap.objs.size + 1 →
      (∀ d o, d ≠ z → d ≠ O → d ≠ i → d ≠ j → d ≠ k → s.heap.get? d = some o → h'.get? d = some o) → Q (some (.ref s.heap.objs.size)) { s with heap := h' }) :
    wpAny (model prog w) A (pyNext (.ref z)) Q E s := by
  have tz : s.TypeIs (.ref z) "zip" := ⟨_, hz, rfl⟩
  unfold pyNext
  exact wpAny_bind (wpAny_attempt (wpAny_callSpecial?_slot (name := Str.ofString "__next__") tz F.slot_zip_next (wpAny_call_entry F.slot_zip_next tz F.entry_zip_next
      (zip3_item D hz hU hO h1 h2 h3 q1 q2 q3 hx hy hv fun h' a1 a2 a3 a4 a5 a6 a7 a8 => wpAny_pure (hQ h' a1 a2 a3 a4 a5 a6 a7 a8)) (F.args_zip_next_1 _))))
theorem stop_zip3 {z U O i j k l m n : Addr} {p1 : Nat} {xs : Array Value} {Q : Option Value → Shared → Prop} (hh : A.handled = none) (D : Ap3 z U O i j k l m n)
    (hz : IsZip s.heap z U O .none) (hU : Tri s.heap U (.ref i) (.ref j) (.ref k)) (h1 : s.heap.IsListIter i l p1) (q1 : s.heap.IsList l xs) (hx : xs[p1]? = none)
    (hQ : ∀ h', (∀ d o, d ≠ z → d ≠ i → s.heap.get? d = some o → h'.get? d = some o) → Q none { s with heap := h' }) : wpAny (model prog w) A (pyNext (.ref z)) Q E s := by
  have tz : s.TypeIs (.ref z) "zip" := ⟨_, hz, rfl⟩
  unfold pyNext
  refine wpAny_bind (wpAny_attempt (wpAny_callSpecial?_slot (name := Str.ofString "__next__") tz F.slot_zip_next (wpAny_call_entry F.slot_zip_next tz F.entry_zip_next
    (zip3_end hh D hz hU h1 q1 hx fun h' e hk he => ?_) (F.args_zip_next_1 _))))
  obtain ⟨o, ho, hc⟩ := he
  refine wpAny_bind (wpAny_isInstance (T := "StopIteration") (b := true) ⟨o, ho, hc⟩ isSubtype_stop (wpAny_pure (hQ _ hk)))
end
noncomputable abbrev z3a (h : Heap) (l : Addr) : Heap := h.push { cls := .type "list_iterator", data := .fields #[.ref l, .int 0 0] }
noncomputable abbrev z3b (h : Heap) (l m : Addr) : Heap := (z3a h l).push { cls := .type "list_iterator", data := .fields #[.ref m, .int 0 0] }
noncomputable abbrev z3c (h : Heap) (l m n : Addr) : Heap := (z3b h l m).push { cls := .type "list_iterator", data := .fields #[.ref n, .int 0 0] }
noncomputable abbrev z3d (h : Heap) (l m n : Addr) : Heap := (z3c h l m n).push { cls := .type "tuple", data := .seq #[.ref h.objs.size, .ref (z3a h l).objs.size, .ref (z3b h l m).objs.size] }
noncomputable abbrev z3e (h : Heap) (l m n : Addr) : Heap := (z3d h l m n).push { cls := .type "tuple", data := .seq #[.none, .none, .none] }
noncomputable abbrev z3f (h : Heap) (l m n : Addr) : Heap := (z3e h l m n).push { cls := .type "zip", data := .fields #[.none, .bool false, .bool false, .ref (z3c h l m n).objs.size, .ref (z3d h l m n).objs.size] }
theorem meets_zip3 (l m n : Addr) (xs ys zs : Array Value) :
    Meets (Builtin.«zip.__new__» ⟨[.type "zip", .ref l, .ref m, .ref n], []⟩) (fun _ R s => s.heap.IsList l xs ∧ s.heap.IsList m ys ∧ s.heap.IsList n zs ∧
      R (.ok (.ret (.ref (z3e s.heap l m n).objs.size))) { s with heap := z3f s.heap l m n }) :=
  .of_wp fun prog w A R s h => by
    obtain ⟨hp, g, d, tk, os⟩ := s; obtain ⟨q1, q2, q3, h⟩ := h
    have hsub := sub_zip
    have k1 : Heap.IsList (Shared.heap ⟨hp, g, d, tk, os⟩) l xs := q1
    have k2 : Heap.IsList (Shared.heap ⟨hp.push { cls := .type "list_iterator", data := .fields #[.ref l, .int 0 0] }, g, d, tk, os⟩) m ys := Heap.IsList.push q2 _
    have k3 : Heap.IsList (Shared.heap ⟨(hp.push { cls := .type "list_iterator", data := .fields #[.ref l, .int 0 0] }).push { cls := .type "list_iterator", data := .fields #[.ref m, .int 0 0] }, g, d, tk, os⟩) n zs := Heap.IsList.push (Heap.IsList.push q3 _) _
    wp_walk using wpAny_pyIter_list k1, wpAny_pyIter_list k2, wpAny_pyIter_list k3
    exact ⟨_, rfl, h⟩
theorem tc_zip3 (a b c : Value) : checkTypeCall "zip" ⟨[a, b, c], []⟩ = pure () := by kernel_rfl
theorem nc_zip3 (a b c : Value) : checkBuiltinCall "zip.__new__" ⟨[.type "zip", a, b, c], []⟩ = pure () := by kernel_rfl
theorem call_zip3 {prog : Program} {w : World} {A : Around} {E : Value → Shared → Prop} {s : Shared} {l m n : Addr} {xs ys zs : Array Value} {Q : Value → Shared → Prop} (q1 : s.heap.IsList l xs) (q2 : s.heap.IsList m ys) (q3 : s.heap.IsList n zs)
    (h : ∀ h', IsZip h' (s.heap.objs.size + 5) (s.heap.objs.size + 3) (s.heap.objs.size + 4) .none → Tri h' (s.heap.objs.size + 3) (.ref s.heap.objs.size) (.ref (s.heap.objs.size + 1)) (.ref (s.heap.objs.size + 2)) →
      Tri h' (s.heap.objs.size + 4) .none .none .none → h'.IsListIter s.heap.objs.size l 0 → h'.IsListIter (s.heap.objs.size + 1) m 0 → h'.IsListIter (s.heap.objs.size + 2) n 0 → h'.objs.size = s.heap.objs.size + 6 →
      (∀ c o, s.heap.get? c = some o → h'.get? c = some o) → Q (.ref (s.heap.objs.size + 5)) { s with heap := h' }) :
    wpAny (model prog w) A (call (.type "zip") [.ref l, .ref m, .ref n]) Q E s := by
  refine callType_new F.called_zip (by decide) (tc_zip3 _ _ _) (nc_zip3 _ _ _) (fun obj => F.initArgs_range_3 obj _ _ _) F.entry_zip_new (meets_zip3 l m n xs ys zs) ⟨q1, q2, q3, ?_⟩
  have a1 : (z3a s.heap l).objs.size = s.heap.objs.size + 1 := Heap.size_push ..
  have a2 : (z3b s.heap l m).objs.size = s.heap.objs.size + 2 := by rw [Heap.size_push, a1]
  have a3 : (z3c s.heap l m n).objs.size = s.heap.objs.size + 3 := by rw [Heap.size_push, a2]
  have a4 : (z3d s.heap l m n).objs.size = s.heap.objs.size + 4 := by rw [Heap.size_push, a3]
  have a5 : (z3e s.heap l m n).objs.size = s.heap.objs.size + 5 := by rw [Heap.size_push, a4]
  have a6 : (z3f s.heap l m n).objs.size = s.heap.objs.size + 6 := by rw [Heap.size_push, a5]
  have g6 : (z3f s.heap l m n).get? (z3e s.heap l m n).objs.size = some _ := Heap.get?_push_size _ rfl
  have g5 : (z3f s.heap l m n).get? (z3d s.heap l m n).objs.size = some _ := Heap.get?_push_of_some _ (Heap.get?_push_size _ rfl)
  have g4 : (z3f s.heap l m n).get? (z3c s.heap l m n).objs.size = some _ := Heap.get?_push_of_some _ (Heap.get?_push_of_some _ (Heap.get?_push_size _ rfl))
  have g3 : (z3f s.heap l m n).get? (z3b s.heap l m).objs.size = some _ := Heap.get?_push_of_some _ (Heap.get?_push_of_some _ (Heap.get?_push_of_some _ (Heap.get?_push_size _ rfl)))
  have g2 : (z3f s.heap l m n).get? (z3a s.heap l).objs.size = some _ := Heap.get?_push_of_some _ (Heap.get?_push_of_some _ (Heap.get?_push_of_some _ (Heap.get?_push_of_some _ (Heap.get?_push_size _ rfl))))
  have g1 : (z3f s.heap l m n).get? s.heap.objs.size = some _ := Heap.get?_push_of_some _ (Heap.get?_push_of_some _ (Heap.get?_push_of_some _ (Heap.get?_push_of_some _ (Heap.get?_push_of_some _ (Heap.get?_push_size _ rfl)))))
  show _ ∧ _
  rw [a3, a4, a5] at g6
  rw [a1, a2, a3] at g4
  rw [a4] at g5
  rw [a2] at g3
  rw [a1] at g2
  rw [a5]
  exact ⟨⟨_, g6, rfl⟩, h _ g6 g4 g5 ⟨_, g1, rfl, rfl⟩ ⟨_, g2, rfl, rfl⟩ ⟨_, g3, rfl, rfl⟩ a6 fun c o e =>
    Heap.get?_push_of_some _ (Heap.get?_push_of_some _ (Heap.get?_push_of_some _ (Heap.get?_push_of_some _ (Heap.get?_push_of_some _ (Heap.get?_push_of_some _ e)))))⟩
end WL
end
section
set_option Elab.async false
set_option linter.all false
set_option maxRecDepth 100000
set_option maxHeartbeats 4000000
namespace WL
open PySem PySem.Spec PyProof.Rows L2
noncomputable def It3 (K : PySem.W.Frag) (a b c : Addr) : It :=
  ⟨fun i H => ∃ (xs ys zs : List V) (x y v : V), SqL K H a xs ∧ SqL K H b ys ∧ SqL K H c zs ∧ xs[i]? = some x ∧ ys[i]? = some y ∧ zs[i]? = some v,
    fun i H u H' => ∃ T x y v, u = .ref T ∧ H T = none ∧ H' = upd H T (.tup [x, y, v]) ∧ (∀ xs, SqL K H a xs → xs[i]? = some x) ∧ (∀ ys, SqL K H b ys → ys[i]? = some y) ∧ ∀ zs, SqL K H c zs → zs[i]? = some v,
    fun i H => ∃ xs : List V, SqL K H a xs ∧ xs.length ≤ i⟩
theorem turn_zip3 {P : Program} {w : World} {K : PySem.W.Frag} {elts : List Expr} {kk : Nat} {tpos : Pos} {a b c z U O p q r : Addr} (D : Ap3 z U O p q r a b c) :
    Turn P w K (.Tuple elts kk tpos) (It3 K a b c) [z, U, O, p, q, r] z (fun i h => IsZip h z U O .none ∧ Tri h U (.ref p) (.ref q) (.ref r) ∧ (∃ x y v, Tri h O x y v) ∧ h.IsListIter p a i ∧ h.IsListIter q b i ∧ h.IsListIter r c i) where
  mem := by simp
  obj := fun i h st d hd => by
    obtain ⟨hz, hU, ⟨x, y, v, hO⟩, ⟨o1, e1, _, d1⟩, ⟨o2, e2, _, d2⟩, ⟨o3, e3, _, d3⟩⟩ := st
    have e' : d = z ∨ d = U ∨ d = O ∨ d = p ∨ d = q ∨ d = r := by simpa using hd
    rcases e' with t | t | t | t | t | t
    · rw [t]; exact ⟨_, hz, fun v q => nomatch q⟩
    · rw [t]; exact ⟨_, hU, fun v q => nomatch q⟩
    · rw [t]; exact ⟨_, hO, fun v q => nomatch q⟩
    · rw [t]; exact ⟨o1, e1, fun v q => by rw [d1] at q; cases q⟩
    · rw [t]; exact ⟨o2, e2, fun v q => by rw [d2] at q; cases q⟩
    · rw [t]; exact ⟨o3, e3, fun v q => by rw [d3] at q; cases q⟩
  keep := fun i h h' st k => by
    obtain ⟨hz, hU, ⟨x, y, v, hO⟩, h1, h2, h3⟩ := st
    exact ⟨k z (by simp) _ hz, k U (by simp) _ hU, ⟨x, y, v, k O (by simp) _ hO⟩, h1.at fun o q => k p (by simp) o q, h2.at fun o q' => k q (by simp) o q', h3.at fun o q => k r (by simp) o q⟩
  item := by
    intro X hP hw hK hc i pins s σ H E I hf st hg
    subst hP hw hK
    obtain ⟨hz, hU, ⟨x0, y0, v0, hO⟩, h1, h2, h3⟩ := st
    obtain ⟨xs, ys, zs, x, y, v, hqx, hqy, hqv, hx, hy, hv⟩ := hg
    obtain ⟨its, rv, p1, _⟩ := I.list hqx
    obtain ⟨its2, rv2, p2, _⟩ := I.list hqy
    obtain ⟨its3, rv3, p3, _⟩ := I.list hqv
    obtain ⟨u, hu, ru⟩ := rv.get hx
    obtain ⟨u2, hu2, ru2⟩ := rv2.get hy
    obtain ⟨u3, hu3, ru3⟩ := rv3.get hv
    have hzl : z < s.heap.objs.size := Heap.lt_size hz
    refine next_zip3 D hz hU hO h1 h2 h3 p1.isList p2.isList p3.isList (x := u) (y := u2) (v := u3) (by simpa using hu) (by simpa using hu2) (by simpa using hu3) fun h' z' O' h1' h2' h3' hT hsz hk => ?_
    refine ⟨_, rfl, wpAny_letOwnedTupleGo_zip (s := { s with heap := h' }) z' fun h'' z'' sb => ?_⟩
    have hT2 : h''.get? s.heap.objs.size = some { cls := .type "tuple", data := .seq #[u, u2, u3] } := (sb.2 _ (Nat.ne_of_gt hzl)).trans hT
    have new : ObjOk X.prog X.w (upd H s.heap.objs.size (.tup [x, y, v])) h'' s.heap.objs.size (.tup [x, y, v]) :=
      ⟨by show 3 ≤ sizeLine; decide, [u, u2, u3], .cons ru (.cons ru2 (.cons ru3 .nil)), ⟨_, hT2, rfl, _, rfl⟩⟩
    have I1 : Inv X pins σ (upd H s.heap.objs.size (.tup [x, y, v])) { s with heap := h'' } :=
      I.turnedNew (t' := s.toks) (ch := [z, U, O, p, q, r]) (fun d o hb t => (sb.2 d (fun t' => hb (by simp [t']))).trans (hk d o (fun t' => hb (by simp [t'])) (fun t' => hb (by simp [t'])) (fun t' => hb (by simp [t'])) (fun t' => hb (by simp [t'])) (fun t' => hb (by simp [t'])) t)) hf (Nat.le_refl _) new
    refine ⟨.ref s.heap.objs.size, _, I1, rfl, ⟨_, x, y, v, rfl, I.hok.fresh (Nat.le_refl _), rfl, fun l hl => by rw [I.list_inj hl hqx]; exact hx, fun l hl => by rw [I.list_inj hl hqy]; exact hy, fun l hl => by rw [I.list_inj hl hqv]; exact hv⟩, ⟨z'', ?_, ⟨u, u2, u3, ?_⟩, ?_, ?_, ?_⟩, fun d hcm => ?_⟩
    · exact (sb.2 _ D.uz).trans (hk _ _ D.uz D.uo D.ui D.uj D.uk hU)
    · exact (sb.2 _ D.oz).trans O'
    · exact h1'.at fun o t => (sb.2 _ D.iz).trans t
    · exact h2'.at fun o t => (sb.2 _ D.jz).trans t
    · exact h3'.at fun o t => (sb.2 _ D.kz).trans t
    · have hlt : d < s.heap.objs.size := by
        have e' : d = z ∨ d = U ∨ d = O ∨ d = p ∨ d = q ∨ d = r := by simpa using hcm
        rcases e' with t | t | t | t | t | t
        · rw [t]; exact hzl
        · rw [t]; exact Heap.lt_size hU
        · rw [t]; exact Heap.lt_size hO
        · rw [t]; obtain ⟨_, e1, _⟩ := h1; exact Heap.lt_size e1
        · rw [t]; obtain ⟨_, e2, _⟩ := h2; exact Heap.lt_size e2
        · rw [t]; obtain ⟨_, e3, _⟩ := h3; exact Heap.lt_size e3
      rw [upd_ne (Nat.ne_of_lt hlt)]
      exact (hf d hcm).1
  done := by
    intro X hP hw hK hc i pins s σ H E I hf st hg
    subst hP hw hK
    obtain ⟨hz, hU, ⟨x0, y0, v0, hO⟩, h1, h2, h3⟩ := st
    obtain ⟨xs, hqx, hend⟩ := hg
    obtain ⟨its, rv, p1, _⟩ := I.list hqx
    have l1 := rv.length
    have he : its.toArray[i]? = none := by simp; omega
    exact stop_zip3 (I.ok.hd hc) D hz hU h1 p1.isList he fun h' hk => ⟨rfl, I.turnedL (t' := s.toks) (ch := [z, U, O, p, q, r]) (fun d o hb t => hk d o (fun t' => hb (by simp [t'])) (fun t' => hb (by simp [t'])) t) hf⟩
  self := fun A i s Q E st h => wpAny_pyIter_zip st.1 h
noncomputable def iZip3 (K : PySem.W.Frag) (ta : TA) : TI := fun σ H R => ta σ H fun vs H1 => ∃ a b c xs ys zs, vs = [.ref a, .ref b, .ref c] ∧ SqL K H1 a xs ∧ SqL K H1 b ys ∧ SqL K H1 c zs ∧ R (It3 K a b c) H1
theorem ap3 (n a b c : Nat) (ha : a < n) (hb : b < n) (hc : c < n) : Ap3 (n + 5) (n + 3) (n + 4) n (n + 1) (n + 2) a b c := by
  constructor
  all_goals first
    | exact Nat.ne_of_gt (by omega)
    | exact Nat.ne_of_lt (by omega)
    | exact ⟨Nat.ne_of_lt (by omega), Nat.ne_of_lt (by omega), Nat.ne_of_lt (by omega), Nat.ne_of_lt (by omega), Nat.ne_of_lt (by omega)⟩
theorem pi_zip3 {X : Cx} {e e2 e3 : Expr} {ta : TA} {p pos tpos : Pos} {elts : List Expr} {kk : Nat} (hg : Gl X "zip") (hm : X.mg "zip" = none) (ha : PA X [e, e2, e3] ta)
    (hs : starEach [e, e2, e3] X.env = (false, eval e X.env) :: starEach [e2, e3] X.env := by rfl) (hpl : (backTo pos (starEach [e2, e3] X.env)).any (·.1) = false := by rfl) :
    PI X (.Tuple elts kk tpos) (.Call (.Name "zip" p) [e, e2, e3] [] pos) (iZip3 X.K ta) := by
  intro pins s σ H R I h
  refine Call_ (ld_blt I hg hm boot_zip5 (PyProof.Rows.callWith_type1 (thn (ha pos pins s σ H _ I h) fun us s1 ⟨vs, H1, I1, r1, q1⟩ => ?_) hs hpl))
  obtain ⟨a, b, c, xs, ys, zs, ex, hqx, hqy, hqz, q⟩ := q1
  subst ex
  obtain ⟨u1, u2, u3, rfl, r1, r2, r3⟩ : ∃ u1 u2 u3, us = [u1, u2, u3] ∧ RelV (.ref a) u1 ∧ RelV (.ref b) u2 ∧ RelV (.ref c) u3 := by
    cases r1 with
    | cons r rr =>
      cases rr with
      | cons r' rr =>
        cases rr with
        | cons r'' rr =>
          cases rr
          exact ⟨_, _, _, rfl, r, r', r''⟩
  cases r1
  cases r2
  cases r3
  obtain ⟨its, rv, p1, _⟩ := I1.list hqx
  obtain ⟨its2, rv2, p2, _⟩ := I1.list hqy
  obtain ⟨its3, rv3, p3, _⟩ := I1.list hqz
  refine call_zip3 p1.isList p2.isList p3.isList fun h' hz hU hO h1 h2 h3 hsz hk => wpAny_pyIter_zip hz ?_
  have I2 : Inv X pins σ H1 { s1 with heap := h' } := I1.kept (t' := s1.toks) hk
  refine ⟨s1.heap.objs.size + 5, [s1.heap.objs.size + 5, s1.heap.objs.size + 3, s1.heap.objs.size + 4, s1.heap.objs.size, s1.heap.objs.size + 1, s1.heap.objs.size + 2], _, _, H1, rfl, I2, turn_zip3 (ap3 s1.heap.objs.size a b c p1.lt p2.lt p3.lt), ⟨hz, hU, ⟨_, _, _, hO⟩, h1, h2, h3⟩, fun d hcm => ?_, q⟩
  have hle : s1.heap.objs.size ≤ d := by
    have e' : d = s1.heap.objs.size + 5 ∨ d = s1.heap.objs.size + 3 ∨ d = s1.heap.objs.size + 4 ∨ d = s1.heap.objs.size ∨ d = s1.heap.objs.size + 1 ∨ d = s1.heap.objs.size + 2 := by simpa using hcm
    rcases e' with t | t | t | t | t | t <;> rw [t] <;> first | exact Nat.le_add_right _ _ | exact Nat.le_refl _
  exact I1.fpOk hle (I1.hok.fresh hle)
theorem lc_zip3 {K : PySem.W.Frag} {a b c : Addr} {xs ys zs : List V} {g : TG} {tt : TT} {te : TE} {vs : List Nat} {σ : L2.St} {H1 : Hp} {D : Addr} {Qd : Hp → Prop} (hlen : xs.length = ys.length) (hlen2 : xs.length = zs.length) (Pv : Nat → Hp → Prop) (h0 : Pv 0 (upd H1 D (.lst [])))
    (hl : ∀ i H, i ≤ xs.length → Pv i H → SqL K H a xs ∧ SqL K H b ys ∧ SqL K H c zs)
    (hs : ∀ i x y v T H, xs[i]? = some x → ys[i]? = some y → zs[i]? = some v → Pv i H → H T = none → g (.ref T) (wipe σ vs) (upd H T (.tup [x, y, v])) fun σ2 H2 => wipe σ2 vs = wipe σ vs ∧ tt σ2 H2 fun b H3 =>
      if b = true then te σ2 H3 fun y H4 => ∃ acc, H4 D = some (.lst acc) ∧ acc.length < sizeLine ∧ Pv (i + 1) (upd H4 D (.lst (acc ++ [y]))) else Pv (i + 1) H3) (hd : ∀ H, Pv xs.length H → Qd H) :
    ∃ W : Nat → Nat → Hp → Prop, (∃ m, W 0 m (upd H1 D (.lst []))) ∧ ∀ i m H, W i m H →
      ((It3 K a b c).stop i H ∧ Qd H) ∨ ((It3 K a b c).go i H ∧ ∃ Nx : Hp → Prop, (∀ H', Nx H' → ∃ m', m' < m ∧ W (i + 1) m' H') ∧ ∀ x H', (It3 K a b c).yld i H x H' → g x (wipe σ vs) H' fun σ2 H2 => wipe σ2 vs = wipe σ vs ∧ tt σ2 H2 fun b H3 =>
        if b = true then te σ2 H3 fun y H4 => ∃ acc, H4 D = some (.lst acc) ∧ acc.length < sizeLine ∧ Nx (upd H4 D (.lst (acc ++ [y]))) else Nx H3) := by
  refine ⟨fun i m H => m = xs.length - i ∧ i ≤ xs.length ∧ Pv i H, ⟨xs.length, by simp, Nat.zero_le _, h0⟩, ?_⟩
  rintro i m H ⟨rfl, hi, p⟩
  obtain ⟨q1, q2, q3⟩ := hl i H hi p
  by_cases hlt : i < xs.length
  · refine .inr ⟨⟨xs, ys, zs, xs[i], ys[i]'(by omega), zs[i]'(by omega), q1, q2, q3, by simp [hlt], by simp [show i < ys.length by omega], by simp [show i < zs.length by omega]⟩, Pv (i + 1), fun H' p' => ⟨xs.length - (i + 1), by omega, rfl, hlt, p'⟩, fun x H' y => ?_⟩
    obtain ⟨T, x1, y1, v1, rfl, hT, rfl, k1, k2, k3⟩ := y
    exact hs i x1 y1 v1 T _ (k1 xs q1) (k2 ys q2) (k3 zs q3) p hT
  · have e : i = xs.length := by omega
    subst e
    exact .inl ⟨⟨xs, q1, Nat.le_refl _⟩, hd H p⟩
end WL
end
section
set_option Elab.async false
set_option linter.all false
set_option maxRecDepth 100000
set_option maxHeartbeats 2000000
namespace WL
open PySem PySem.Spec PyProof.Rows L2
open Kp134 (Word Rules Text)
noncomputable abbrev sStrInit : Stmt := inClass (top 21) 0
noncomputable abbrev sAhead : Stmt := inClass (top 21) 1
noncomputable abbrev sToldOther : Stmt := inClass (top 21) 2
noncomputable abbrev sKnownGap : Stmt := inClass (top 21) 3
noncomputable abbrev sKnownAll : Stmt := inClass (top 21) 4
noncomputable abbrev sMoveBase : Stmt := inClass (top 21) 5
noncomputable abbrev sKnownWith : Stmt := inClass (top 21) 6
noncomputable abbrev sFoundWith : Stmt := inClass (top 21) 7
noncomputable abbrev sAround : Stmt := inClass (top 21) 8
structure Method (P : Program) (w : World) (K : PySem.W.Frag) (mg : Str → Option Value) (base : Heap) (k : Nat) (C : Addr) (m : Str) (ps : List Str) (sp : Sp) : Prop where
  ex : ∃ (f : Addr) (fd : FuncData), Meth K C m f ∧ Binds K fd ps [] ∧ FnOk P w K mg base CX0 k f fd ps sp
theorem pe_method {X : Cx} {k : Nat} {C : Addr} {m : Str} {ps : List Str} {sp : Sp} {o e : Expr} {es : List Expr} {ta : TE} {t : TA} {apos pos : Pos} {pl : Sem Bool} (he : PE X o ta) (c : Cls X.K C) (M : Method X.prog X.w X.K X.mg X.base k C m ps sp) (hr : Room k X.A) (ha : PA X (e :: es) t)
    (hst : starEach (e :: es) X.env = (false, eval e X.env) :: starEach es X.env := by rfl) (hpl : (backTo pos (starEach es X.env)).any (·.1) = false := by rfl)
    (ht : eval (.Call (.Attribute o m apos) (e :: es) [] pos) X.env = (do
      let ov ← eval o X.env
      standAt apos.atName
      let (f, first) ← holding [ov] (getMethod ov m pl)
      callWith pos f first (backTo pos (starEach (e :: es) X.env)) (backToKw pos (keywordEach [] X.env))) := by rfl) :
    PE X (.Call (.Attribute o m apos) (e :: es) [] pos) (tMeth C m sp [] E0 ta t) := by
  obtain ⟨f, fd, h1, h2, h3⟩ := M.ex
  exact pe_meth he c h1 h3 hr h2 .nil pass0 ha hst hpl ht
noncomputable def streamF (base : Int) (lb lk lf : Addr) : List (Str × V) := [("base", .int base), ("before", .ref lb), ("known", .ref lk), ("found", .ref lf)]
theorem sf_base {b : Int} {lb lk lf : Addr} : (streamF b lb lk lf).lookup ("base" : Str) = some (.int b) := rfl
theorem sf_before {b : Int} {lb lk lf : Addr} : (streamF b lb lk lf).lookup ("before" : Str) = some (.ref lb) := rfl
theorem sf_known {b : Int} {lb lk lf : Addr} : (streamF b lb lk lf).lookup ("known" : Str) = some (.ref lk) := rfl
theorem sf_found {b : Int} {lb lk lf : Addr} : (streamF b lb lk lf).lookup ("found" : Str) = some (.ref lf) := rfl
structure SCls (K : PySem.W.Frag) (C : Addr) : Prop where
  cl : Cls K C
  nB : NoAttr K C "base"
  nBe : NoAttr K C "before"
  nK : NoAttr K C "known"
  nF : NoAttr K C "found"
structure StrP (C : Addr) (H : Hp) (a : Addr) (base : Int) (lb lk lf : Addr) (before known found : List Int) : Prop where
  ex : ∃ dx, H a = some (.ins C dx (streamF base lb lk lf))
  hb : H lb = some (.lst (vI before))
  hk : H lk = some (.lst (vI known))
  hf : H lf = some (.lst (vI found))
theorem StrP.same {C a lb lk lf : Addr} {H H' : Hp} {b : Int} {be kn fo : List Int} (x : StrP C H a b lb lk lf be kn fo) (s : Same H H') : StrP C H' a b lb lk lf be kn fo := by
  obtain ⟨dx, h⟩ := x.ex
  exact ⟨⟨dx, s _ _ h⟩, s _ _ x.hb, s _ _ x.hk, s _ _ x.hf⟩
section
variable {P : Program} {w : World} {K : PySem.W.Frag} {mg : Str → Option Value} {base : Heap}
inductive AtStrInit (C : Addr) (vs : List V) (H : Hp) (Q : VK) : Prop
  | mk (p dx : Addr) (b : Int) (n : Nat) (h0_ : vs = [.ref p, .int b, .int (n : Int)]) (h1_ : H p = some (.ins C dx [])) (h2_ : n ≤ 64) (h3_ : ∀ (H' : Hp) (lb lk lf : Addr), (∀ b o, H b = some o → b ≠ p → H' b = some o) → H lb = none → H lk = none → H lf = none → StrP C H' p b lb lk lf [] (List.replicate 4096 (-1)) (List.replicate n 0) → Q .non H') : AtStrInit C vs H Q
noncomputable def spStrInit (C : Addr) : Sp := fun vs H Q _ => AtStrInit C vs H Q
theorem scStrInit : FnScope ["self", "base", "word_count"] ["self", "base", "word_count"] (defScope sStrInit) := ⟨rfl, rfl, rfl, by decide +kernel, rfl, by decide +kernel, by decide +kernel⟩
theorem rep_one {x : V} : ∀ n : Nat, (List.replicate n [x]).flatten = List.replicate n x
  | 0 => rfl
  | n + 1 => by
    rw [List.replicate_succ, List.flatten_cons, rep_one n]
    rfl
theorem ok_strInit {f C : Addr} {fd : FuncData} (F : Fun K "__init__" "Stream.__init__" sStrInit f fd) (T : Txt mg) (S : SCls K C) : FnOk P w K mg base CX0 1 f fd ["self", "base", "word_count"] (spStrInit C) := by
  refine F.ok scStrInit (fun vs H Q E h => ?_) (fun cdv A outer s H vs Q E hr h => ?_)
  · obtain ⟨p, dx, b, n, rfl, _⟩ := h
    rfl
  · obtain ⟨p, dx, b, n, rfl, hp, hn, k⟩ := h
    refine ⟨_, pss_cons (ps_fld (pv 0) (pv 1) rfl) (pss_cons (ps_fld (pv 0) (pe_lst pa_nil) rfl) (pss_cons (ps_fld (pv 0) (pe_op op_rep (pe_lst (pa_cons (pe_num T.unknown rfl) pa_nil)) (pe_num T.places rfl)) rfl)
      (pss_one (ps_fld (pv 0) (pe_op op_rep (pe_lst (pa_cons pe_int pa_nil)) (pv 2)) rfl)))), ?_⟩
    dsimp only [cxOf, Cx.nox, Cx.wish]
    refine ⟨_, rfl, rPut rfl hp S.cl S.nB (by show 0 < 1000; decide) ?_⟩
    generalize hH1 : upd H p _ = H1
    have k1 : ∀ b o, H b = some o → b ≠ p → H1 b = some o := fun b o e hb => by rw [← hH1, upd_ne hb]; exact e
    have hp1 : H1 p = some (.ins C dx [("base", V.int b)]) := by rw [← hH1]; exact upd_same
    have fr : ∀ {H2 : Hp}, (∀ b o, H b = some o → b ≠ p → H2 b = some o) → ∀ {q : Addr}, q ≠ p → H2 q = none → H q = none := fun {H2} k2 {q} hq e => by
      cases z : H q with
      | none => rfl
      | some o =>
        rw [k2 q o z hq] at e
        cases e
    refine ⟨Nat.zero_le _, fun lb nb => ?_⟩
    have pb : lb ≠ p := (ne_of_none hp1 nb).symm
    refine rPut rfl ((upd_ne pb.symm).trans hp1) S.cl S.nBe (by show 1 < 1000; decide) ?_
    generalize hH2 : upd (upd H1 lb _) p _ = H2
    have k2 : ∀ b o, H1 b = some o → b ≠ p → H2 b = some o := fun b o e hb => by rw [← hH2, upd_ne hb, upd_ne (ne_of_none e nb)]; exact e
    have hp2 : H2 p = some (.ins C dx [("base", V.int b), ("before", V.ref lb)]) := by rw [← hH2, upd_same]; rfl
    have hb2 : H2 lb = some (.lst (vI [])) := by rw [← hH2, upd_ne pb, upd_same]; rfl
    refine ⟨(by show 1 ≤ sizeLine; decide), fun q1 n1 => ⟨q1, _, _, rfl, rfl, upd_same, by decide, by decide, (by show 1 * 4096 ≤ sizeLine; decide), fun lk nk => ?_⟩⟩
    have n1p : q1 ≠ p := (ne_of_none hp2 n1).symm
    have nk2 : H2 lk = none := (same_upd n1).free nk
    have pk : lk ≠ p := (ne_of_none hp2 nk2).symm
    have kb : lk ≠ lb := (ne_of_none hb2 nk2).symm
    refine rPut rfl (((upd_ne pk.symm).trans (upd_ne n1p.symm)).trans hp2) S.cl S.nK (by show 2 < 1000; decide) ?_
    generalize hH3 : upd (upd (upd H2 q1 _) lk _) p _ = H3
    have k3 : ∀ b o, H2 b = some o → b ≠ p → H3 b = some o := fun b o e hb => by rw [← hH3, upd_ne hb, upd_ne (ne_of_none e nk2), upd_ne (ne_of_none e n1)]; exact e
    have hp3 : H3 p = some (.ins C dx [("base", V.int b), ("before", V.ref lb), ("known", V.ref lk)]) := by rw [← hH3, upd_same]; rfl
    have hk3 : H3 lk = some (.lst (vI (List.replicate 4096 (-1)))) := by
      rw [← hH3, upd_ne pk, upd_same, rep_one]
      show some (HO.lst (List.replicate 4096 (V.int (-1)))) = some (HO.lst ((List.replicate 4096 (-1)).map V.int))
      rw [List.map_replicate]
    have hb3 := k3 _ _ hb2 pb
    refine ⟨(by show 1 ≤ sizeLine; decide), fun q2 n2 => ⟨_, rfl, q2, _, _, rfl, rfl, upd_same, by omega, by omega, ?_, fun lf nf => ?_⟩⟩
    · rw [Int.toNat_natCast]
      exact Nat.le_trans (Nat.mul_le_mul_left 1 hn) (by decide)
    have n2p : q2 ≠ p := (ne_of_none hp3 n2).symm
    have nf3 : H3 lf = none := (same_upd n2).free nf
    have pf : lf ≠ p := (ne_of_none hp3 nf3).symm
    refine rPut rfl (((upd_ne pf.symm).trans (upd_ne n2p.symm)).trans hp3) S.cl S.nF (by show 3 < 1000; decide) ?_
    have k4 : ∀ (o : HO) c u, H3 c = some u → c ≠ p → upd (upd (upd H3 q2 (.lst [V.int 0])) lf o) p (.ins C dx (streamF b lb lk lf)) c = some u := fun o c u e hc => by rw [upd_ne hc, upd_ne (ne_of_none e nf3), upd_ne (ne_of_none e n2)]; exact e
    refine k _ lb lk lf (fun c o e hc => k4 _ c o (k3 _ _ (k2 _ _ (k1 _ _ e hc) hc) hc) hc) (fr k1 pb nb) (fr (fun c o e hc => k2 _ _ (k1 _ _ e hc) hc) pk nk2) (fr (fun c o e hc => k3 _ _ (k2 _ _ (k1 _ _ e hc) hc) hc) pf nf3) ⟨⟨dx, upd_same⟩, k4 _ _ _ hb3 pb, k4 _ _ _ hk3 pk, ?_⟩
    show upd (upd (upd H3 q2 _) lf _) p _ lf = _
    rw [upd_ne pf, upd_same, rep_one, Int.toNat_natCast]
    show some (HO.lst (List.replicate n (V.int 0))) = some (HO.lst ((List.replicate n 0).map V.int))
    rw [List.map_replicate]
inductive AtAhead (C : Addr) (vs : List V) (H : Hp) (Q : VK) : Prop
  | mk (a dx lb lk lf : Addr) (b pl : Int) (h0_ : vs = [.ref a, .int pl]) (h1_ : H a = some (.ins C dx (streamF b lb lk lf))) (h2_ : Q (.int ((pl - b + 2147483648) % 4294967296 - 2147483648)) H) : AtAhead C vs H Q
noncomputable def spAhead (C : Addr) : Sp := fun vs H Q _ => AtAhead C vs H Q
theorem scAhead : FnScope ["self", "place"] ["self", "place"] (defScope sAhead) := ⟨rfl, rfl, rfl, by decide +kernel, rfl, by decide +kernel, by decide +kernel⟩
theorem ok_ahead {f C : Addr} {fd : FuncData} (F : Fun K "ahead" "Stream.ahead" sAhead f fd) (T : Txt mg) (S : SCls K C) : FnOk P w K mg base CX0 1 f fd ["self", "place"] (spAhead C) := by
  refine F.ok scAhead (fun vs H Q E h => ?_) (fun cdv A outer s H vs Q E hr h => ?_)
  · obtain ⟨a, dx, lb, lk, lf, b, pl, rfl, _⟩ := h
    rfl
  · obtain ⟨a, dx, lb, lk, lf, b, pl, rfl, ha, k⟩ := h
    refine ⟨_, pss_one (ps_ret (pe_op op_sub (pe_op op_mod (pe_op op_add (pe_op op_sub (pv 1) (pe_fld (pv 0) rfl)) (pe_num T.half rfl)) (pe_num T.round rfl)) (pe_num T.half rfl))), ?_⟩
    dsimp only [cxOf, Cx.nox, Cx.wish]
    exact ⟨_, rfl, rFld rfl ha S.cl S.nB sf_base (mkI (mkI (mkI ⟨(by show (0 : Int) < 4294967296; decide), mkI k⟩)))⟩
end
end WL
end
section
set_option Elab.async false
set_option linter.all false
set_option maxRecDepth 100000
set_option maxHeartbeats 2000000
namespace WL
open PySem PySem.Spec PyProof.Rows L2
open Kp134 (Word Rules Text)
section
variable {P : Program} {w : World} {K : PySem.W.Frag} {mg : Str → Option Value} {base : Heap}
noncomputable def otherwise (held told : List Int) : Bool := ((held.zip told).map fun p => decide (p.1 ≠ -1) && decide (p.1 ≠ p.2)).any id
inductive AtToldOther (C : Addr) (vs : List V) (H : Hp) (Q : VK) : Prop
  | mk (a lb lk lf lt : Addr) (b : Int) (be kn fo td : List Int) (st : Nat) (h0_ : vs = [.ref a, .int (st : Int), .ref lt]) (h1_ : StrP C H a b lb lk lf be kn fo) (h2_ : H lt = some (.lst (vI td))) (h3_ : kn.length ≤ 4096) (h4_ : st + td.length ≤ kn.length) (h5_ : ∀ H' : Hp, Same H H' → Q (.bl (otherwise ((kn.drop st).take td.length) td)) H') : AtToldOther C vs H Q
noncomputable def spToldOther (C : Addr) : Sp := fun vs H Q _ => AtToldOther C vs H Q
theorem scToldOther : FnScope ["self", "start", "told", "held", "old", "new"] ["self", "start", "told"] (defScope sToldOther) := ⟨rfl, rfl, rfl, by decide +kernel, rfl, by decide +kernel, by decide +kernel⟩
theorem ok_toldOther {f C : Addr} {fd : FuncData} (F : Fun K "told_otherwise" "Stream.told_otherwise" sToldOther f fd) (T : Txt mg) (S : SCls K C) : FnOk P w K mg base CX0 1 f fd ["self", "start", "told"] (spToldOther C) := by
  refine F.ok scToldOther (fun vs H Q E h => ?_) (fun cdv A outer s H vs Q E hr h => ?_)
  · obtain ⟨a, lb, lk, lf, lt, b, be, kn, fo, td, st, rfl, _⟩ := h
    rfl
  · obtain ⟨a, lb, lk, lf, lt, b, be, kn, fo, td, st, rfl, X, ht, hkn, hst, k⟩ := h
    obtain ⟨dx, ha⟩ := X.ex
    refine ⟨_, pss_cons (ps_set (i := 3) scToldOther.nd rfl (Or.inl rfl) (pe_slice sl_list (pe_fld (pv 0) rfl) (po_some (pv 1)) (po_some (pe_op op_add (pv 1) (pe_callB call_len_seq rfl T.len PySem.boot_len (pa_cons (pv 2) pa_nil))))))
      (pss_one (ps_ret (pe_callB (cr_any rfl) rfl T.any bAny (pa_cons (pe_lc (own := [("old", 4), ("new", 5)]) (g := gTup K 2 (gCons (gName 4) (gCons (gName 5) gNil))) rfl scToldOther.nd (pi_zip rfl T.zip (pa_cons (pv 3) (pa_cons (pv 2) pa_nil)))
        (blkOk_by (N := ["self", "start", "told", "held", "old", "new"]) (sc := defScope sToldOther) (by decide +kernel))
        (fun _ _ _ _ _ => pg_tup rfl (pgs_cons (pg_name (i := 4) scToldOther.nd rfl (Or.inl rfl)) (pgs_cons (pg_name (i := 5) scToldOther.nd rfl (Or.inl rfl)) pgs_nil))) (fun _ _ _ _ _ => pts_nil)
        (fun _ _ _ _ _ => pe_and (pe_cmpR op_ne (pv 4) (pe_num T.unknown rfl) (nomark _)) (pe_one (pe_cmpR op_ne (pv 4) (pv 5) (nomark _))))) pa_nil)))), ?_⟩
    dsimp only [cxOf, Cx.nox, Cx.wish]
    refine rFld rfl ha S.cl S.nK sf_known ⟨_, rfl, _, rfl, _, rfl, _, rfl, lt, _, rfl, .inl (SqL.of ht), ?_⟩
    rw [List.length_map]
    refine mkI ⟨_, rfl, lk, _, rfl, SqL.of X.hk, fun p np => ?_⟩
    have c := cut_nn kn st (st + td.length)
    rw [show st + td.length - st = td.length by omega, show ((st + td.length : Nat) : Int) = (st : Int) + (td.length : Int) by omega] at c
    rw [c]
    generalize hH1 : upd H p (.lst (vI ((kn.drop st).take td.length))) = H1
    have s1 : Same H H1 := by rw [← hH1]; exact same_upd np
    have hp1 : H1 p = some (.lst (vI ((kn.drop st).take td.length))) := by rw [← hH1]; exact upd_same
    have lx : (vI ((kn.drop st).take td.length)).length = (vI td).length := by rw [List.length_map, List.length_map, List.length_take, List.length_drop]; omega
    refine ⟨_, rfl, _, rfl, p, lt, _, _, rfl, SqL.of hp1, SqL.of (s1 _ _ ht), fun D hD => lc_zip (K := K) (xs := vI ((kn.drop st).take td.length)) (ys := vI td) lx
      (fun i H' => Same H1 H' ∧ H' D = some (.lst (((((kn.drop st).take td.length).zip td).take i |>.map fun p => decide (p.1 ≠ -1) && decide (p.1 ≠ p.2)).map V.bl)))
      ⟨same_upd hD, upd_same⟩ (fun i H' _ q => ⟨q.1.seq (SqL.of hp1), q.1.seq (SqL.of (s1 _ _ ht))⟩) (fun i x y tp H' hx hy q hT => ?_) (fun H' q => ?_)⟩
    · obtain ⟨u, hu, rfl⟩ := vI_get hx
      obtain ⟨z, hz, rfl⟩ := vI_get hy
      have hs := q.1
      have hd := q.2
      have s2 : Same H' (upd H' tp (.tup [V.int u, V.int z])) := same_upd hT
      have hp : (((kn.drop st).take td.length).zip td)[i]? = some (u, z) := by
        rw [List.getElem?_zip_eq_some]
        exact ⟨hu, hz⟩
      have fin : ∀ b : Bool, b = (decide (u ≠ -1) && decide (u ≠ z)) → ∃ acc, (upd H' tp (.tup [V.int u, V.int z])) D = some (HO.lst acc) ∧ acc.length < sizeLine ∧ Same H1 (upd (upd H' tp (.tup [V.int u, V.int z])) D (.lst (acc ++ [V.bl b]))) ∧
          upd (upd H' tp (.tup [V.int u, V.int z])) D (.lst (acc ++ [V.bl b])) D = some (.lst (((((kn.drop st).take td.length).zip td).take (i + 1) |>.map fun p => decide (p.1 ≠ -1) && decide (p.1 ≠ p.2)).map V.bl)) := fun b e => by
        refine ⟨_, s2 _ _ hd, ?_, Same.upd (hs.trans s2) hD, ?_⟩
        · rw [List.length_map, List.length_map, List.length_take, List.length_zip]
          exact Nat.lt_of_le_of_lt (Nat.le_trans (Nat.min_le_right _ _) (Nat.min_le_right _ _)) (Nat.lt_of_le_of_lt (show td.length ≤ 4096 by omega) (by decide))
        · rw [upd_same, take_snoc hp, List.map_append, List.map_append, e]
          rfl
      refine ⟨tp, _, rfl, tup2, rfl, _, _, rfl, _, _, rfl, rfl, rfl, yes (iteT ⟨_, rfl, rfl, _, rfl, ?_⟩)⟩
      have e1 : (!decide (V.int u = V.int (-1))) = decide (u ≠ -1) := by
        rw [Bool.eq_iff_iff, Bool.not_eq_true', decide_eq_false_iff_not, decide_eq_true_iff, V.int.injEq]
      have e2 : (!decide (V.int u = V.int z)) = decide (u ≠ z) := by
        rw [Bool.eq_iff_iff, Bool.not_eq_true', decide_eq_false_iff_not, decide_eq_true_iff, V.int.injEq]
      rw [e1]
      refine ite2 (fun h1 => ⟨_, rfl, _, rfl, rfl, fin _ ?_⟩) (fun h1 => fin _ ?_)
      · rw [h1, Bool.true_and]
        exact e2
      · rw [Bool.not_eq_true] at h1
        rw [h1, Bool.false_and]
    · have hs := q.1
      have hd := q.2
      rw [List.take_of_length_le (by rw [List.length_zip, List.length_map]; omega)] at hd
      exact ⟨D, _, rfl, SqL.of hd, k H' (s1.trans hs)⟩
noncomputable def knownWith (kn : List Int) (st : Nat) (td : List Int) : List Int := kn.take st ++ td ++ kn.drop (st + td.length)
inductive AtKnownWith (C : Addr) (vs : List V) (H : Hp) (Q : VK) : Prop
  | mk (a lb lk lf lt : Addr) (b : Int) (be kn fo td : List Int) (st : Nat) (h0_ : vs = [.ref a, .int (st : Int), .ref lt]) (h1_ : StrP C H a b lb lk lf be kn fo) (h2_ : H lt = some (.lst (vI td))) (h3_ : kn.length ≤ 4096) (h4_ : td.length ≤ 4096) (h5_ : ∀ (H' : Hp) (p : Addr), Same H H' → H p = none → H' p = some (.lst (vI (knownWith kn st td))) → Q (.ref p) H') : AtKnownWith C vs H Q
noncomputable def spKnownWith (C : Addr) : Sp := fun vs H Q _ => AtKnownWith C vs H Q
theorem scKnownWith : FnScope ["self", "start", "told"] ["self", "start", "told"] (defScope sKnownWith) := ⟨rfl, rfl, rfl, by decide +kernel, rfl, by decide +kernel, by decide +kernel⟩
theorem ok_knownWith {f C : Addr} {fd : FuncData} (F : Fun K "known_with" "Stream.known_with" sKnownWith f fd) (T : Txt mg) (S : SCls K C) : FnOk P w K mg base CX0 1 f fd ["self", "start", "told"] (spKnownWith C) := by
  refine F.ok scKnownWith (fun vs H Q E h => ?_) (fun cdv A outer s H vs Q E hr h => ?_)
  · obtain ⟨a, lb, lk, lf, lt, b, be, kn, fo, td, st, rfl, _⟩ := h
    rfl
  · obtain ⟨a, lb, lk, lf, lt, b, be, kn, fo, td, st, rfl, X, ht, hkn, htd, k⟩ := h
    obtain ⟨dx, ha⟩ := X.ex
    refine ⟨_, pss_one (ps_ret (pe_op op_cat (pe_op op_cat (pe_slice sl_list (pe_fld (pv 0) rfl) po_none (po_some (pv 1))) (pv 2)) (pe_slice sl_list (pe_fld (pv 0) rfl) (po_some (pe_op op_add (pv 1) (pe_callB call_len_seq rfl T.len PySem.boot_len (pa_cons (pv 2) pa_nil)))) po_none))), ?_⟩
    dsimp only [cxOf, Cx.nox, Cx.wish]
    refine rFld rfl ha S.cl S.nK sf_known ⟨_, rfl, _, rfl, lk, _, rfl, SqL.of X.hk, fun p1 n1 => ?_⟩
    rw [cut_o_n]
    have s1 : Same H (upd H p1 (.lst (vI (kn.take st)))) := same_upd n1
    refine ⟨_, rfl, mkCat upd_same (s1 _ _ ht) ⟨?_, fun p2 n2 => ?_⟩⟩
    · rw [List.length_map, List.length_map, List.length_take]
      exact Nat.le_trans (Nat.add_le_add (Nat.le_trans (Nat.min_le_right _ _) hkn) htd) (by decide)
    have s2 := s1.trans (same_upd (o := .lst (vI (kn.take st) ++ vI td)) n2)
    refine rFld rfl (s2 _ _ ha) S.cl S.nK sf_known ⟨_, rfl, _, rfl, lt, _, rfl, .inl (SqL.of (s2 _ _ ht)), ?_⟩
    rw [List.length_map]
    refine mkI ⟨_, rfl, lk, _, rfl, SqL.of (s2 _ _ X.hk), fun p3 n3 => ?_⟩
    have c := cut_n_ kn (st + td.length)
    rw [show ((st + td.length : Nat) : Int) = (st : Int) + (td.length : Int) by omega] at c
    rw [c]
    have s3 := s2.trans (same_upd (o := .lst (vI (kn.drop (st + td.length)))) n3)
    refine mkCat ((same_upd n3) _ _ upd_same) upd_same ⟨?_, fun p4 n4 => ?_⟩
    · rw [List.length_append, List.length_map, List.length_map, List.length_map, List.length_take, List.length_drop]
      exact Nat.le_trans (show min st kn.length + td.length + (kn.length - (st + td.length)) ≤ 16384 by omega) (by decide)
    refine k _ p4 (s3.trans (same_upd n4)) (s3.free n4) ?_
    rw [upd_same]
    unfold knownWith vI
    rw [List.map_append, List.map_append]
noncomputable def aroundI (be kn : List Int) (st n : Nat) : List Int := ((be ++ kn).drop (be.length + st - 15)).take (be.length + st + n + 15 - (be.length + st - 15))
inductive AtAround (C : Addr) (vs : List V) (H : Hp) (Q : VK) : Prop
  | mk (a lb lk lf l2 : Addr) (b : Int) (be kn fo kn2 : List Int) (st n : Nat) (h0_ : vs = [.ref a, .ref l2, .int (st : Int), .int (n : Int)]) (h1_ : StrP C H a b lb lk lf be kn fo) (h2_ : H l2 = some (.lst (vI kn2))) (h3_ : be.length ≤ 4096) (h4_ : kn2.length ≤ 10000) (h5_ : ∀ (H' : Hp) (p : Addr), Same H H' → H p = none → H' p = some (.lst (vI (aroundI be kn2 st n))) → Q (.ref p) H') : AtAround C vs H Q
noncomputable def spAround (C : Addr) : Sp := fun vs H Q _ => AtAround C vs H Q
theorem scAround : FnScope ["self", "known", "start", "size", "text", "middle"] ["self", "known", "start", "size"] (defScope sAround) := ⟨rfl, rfl, rfl, by decide +kernel, rfl, by decide +kernel, by decide +kernel⟩
theorem ok_around {f C : Addr} {fd : FuncData} (F : Fun K "around" "Stream.around" sAround f fd) (T : Txt mg) (S : SCls K C) : FnOk P w K mg base CX0 1 f fd ["self", "known", "start", "size"] (spAround C) := by
  refine F.ok scAround (fun vs H Q E h => ?_) (fun cdv A outer s H vs Q E hr h => ?_)
  · obtain ⟨a, lb, lk, lf, lt, b, be, kn, fo, td, st, n, rfl, _⟩ := h
    rfl
  · obtain ⟨a, lb, lk, lf, l2, b, be, kn, fo, kn2, st, n, rfl, X, h2, hbe, hkn, k⟩ := h
    obtain ⟨dx, ha⟩ := X.ex
    refine ⟨_, pss_cons (ps_set (i := 4) scAround.nd rfl (Or.inl rfl) (pe_op op_cat (pe_fld (pv 0) rfl) (pv 1)))
      (pss_cons (ps_set (i := 5) scAround.nd rfl (Or.inl rfl) (pe_op op_add (pe_callB call_len_seq rfl T.len PySem.boot_len (pa_cons (pe_fld (pv 0) rfl) pa_nil)) (pv 2)))
      (pss_one (ps_ret (pe_slice sl_list (pv 4) (po_some (pe_callB (call_max2 rfl) rfl T.max bMax (pa_cons pe_int (pa_cons (pe_op op_sub (pv 5) (pe_num T.reach rfl)) pa_nil)))) (po_some (pe_op op_add (pe_op op_add (pv 5) (pv 3)) (pe_num T.reach rfl))))))), ?_⟩
    dsimp only [cxOf, Cx.nox, Cx.wish]
    refine rFld rfl ha S.cl S.nBe sf_before ⟨_, rfl, mkCat X.hb h2 ⟨?_, fun p1 n1 => ?_⟩⟩
    · rw [List.length_map, List.length_map]
      exact Nat.le_trans (Nat.add_le_add hbe hkn) (by decide)
    have e0 : vI be ++ vI kn2 = vI (be ++ kn2) := by unfold vI; rw [List.map_append]
    rw [e0]
    have s1 : Same H (upd H p1 (.lst (vI (be ++ kn2)))) := same_upd n1
    refine rFld rfl (s1 _ _ ha) S.cl S.nBe sf_before ⟨lb, _, rfl, .inl (SqL.of (s1 _ _ X.hb)), _, rfl, ?_⟩
    rw [List.length_map]
    refine mkI ⟨_, rfl, _, rfl, mkI ⟨_, _, rfl, _, rfl, _, rfl, _, rfl, mkI (mkI ⟨_, rfl, p1, _, rfl, SqL.of upd_same, fun p2 n2 => ?_⟩)⟩⟩
    refine k _ p2 (s1.trans (same_upd n2)) (s1.free n2) ?_
    rw [upd_same]
    have c := cut_nn (be ++ kn2) (be.length + st - 15) (be.length + st + n + 15)
    unfold aroundI
    rw [← c]
    have z1 : (if (be.length : Int) + (st : Int) - 15 > 0 then (be.length : Int) + (st : Int) - 15 else 0) = ((be.length + st - 15 : Nat) : Int) := by
      split <;> omega
    have z2 : (be.length : Int) + (st : Int) + (n : Int) + 15 = ((be.length + st + n + 15 : Nat) : Int) := by omega
    rw [← z1, ← z2]
end
end WL
end
section
set_option Elab.async false
set_option linter.all false
set_option maxRecDepth 100000
set_option maxHeartbeats 2000000
namespace WL
open PySem PySem.Spec PyProof.Rows L2
open Kp134 (Word Rules Text)
theorem encT_take (t : Text) (n : Nat) : (encT t).take n = encT (t.take n) := List.map_take.symm
theorem encT_drop (t : Text) (n : Nat) : (encT t).drop n = encT (t.drop n) := List.map_drop.symm
theorem known_enc (known : Text) (st : Nat) (told : List Nat) : knownWith (encT known) st (encN told) = encT (known.take st ++ (told.map some ++ known.drop (st + told.length))) := by
  unfold knownWith
  rw [encN_length, encT_take, encT_drop, encT_append, encT_append, encT_some, List.append_assoc]
theorem around_enc (tail : List Nat) (known : Text) (st n : Nat) : aroundI (encN tail) (encT known) st n = encT (win (tail.map some) known st n) := by
  unfold aroundI win
  rw [← encT_some, ← encT_append, encT_length, List.length_map, encT_drop, encT_take]
theorem win_length (tail known : Text) (st n : Nat) : (win tail known st n).length ≤ tail.length + known.length := by
  unfold win
  rw [List.length_take, List.length_drop, List.length_append]
  exact Nat.le_trans (Nat.min_le_right _ _) (Nat.sub_le _ _)
noncomputable def fwI (found thn now : List Nat) : List Int := (found.zip (thn.zip now)).map fun p => (p.1 : Int) + (p.2.1 : Int) - (p.2.2 : Int)
noncomputable def putIn (known : Text) (st : Nat) (told : List Nat) : Text := known.take st ++ (told.map some ++ known.drop (st + told.length))
theorem putIn_length {known : Text} {st : Nat} {told : List Nat} (h : st + told.length ≤ known.length) : (putIn known st told).length = known.length := by
  unfold putIn
  rw [List.length_append, List.length_append, List.length_map, List.length_take, List.length_drop]
  omega
theorem encN_get {c : List Nat} {i : Nat} {z : Int} (h : (encN c)[i]? = some z) : ∃ n : Nat, c[i]? = some n ∧ z = (n : Int) := by
  unfold encN at h
  rw [List.getElem?_map] at h
  cases e : c[i]? with
  | none => rw [e] at h; cases h
  | some n => rw [e] at h; exact ⟨n, rfl, (Option.some.inj h).symm⟩
section
variable {P : Program} {w : World} {K : PySem.W.Frag} {mg : Str → Option Value} {base : Heap}
inductive AtFoundWith (K : PySem.W.Frag) (CW C : Addr) (vs : List V) (H : Hp) (Q : VK) : Prop
  | mk (a lb lk lf lw lt : Addr) (b : Int) (tail found told : List Nat) (known : Text) (st : Nat) (ws : List Word) (D : Addr → Prop) (h0_ : vs = [.ref a, .ref lw, .int (st : Int), .ref lt]) (h1_ : StrP C H a b lb lk lf (encN tail) (encT known) (encN found)) (h2_ : WordsAt D CW H lw ws) (h3_ : (∀ v ∈ ws, WOk v)) (h4_ : ws.length ≤ 64) (h5_ : H lt = some (.lst (vI (encN told)))) (h6_ : tail.length ≤ 15) (h7_ : known.length = 4096) (h8_ : ws.length = found.length) (h9_ : st + told.length ≤ 4096) (h10_ : ∀ (H' : Hp) (p : Addr), Same H H' → H p = none → H' p = some (.lst (vI (fwI found (ws.map fun v => Kp134.count v (win (tail.map some) (putIn known st told) st told.length)) (ws.map fun v => Kp134.count v (win (tail.map some) known st told.length))))) → Q (.ref p) H') : AtFoundWith K CW C vs H Q
noncomputable def spFoundWith (K : PySem.W.Frag) (CW C : Addr) : Sp := fun vs H Q _ => AtFoundWith K CW C vs H Q
theorem scFoundWith : FnScope ["self", "words", "start", "told", "now", "then", "found", "new", "old"] ["self", "words", "start", "told"] (defScope sFoundWith) := ⟨rfl, rfl, rfl, by decide +kernel, rfl, by decide +kernel, by decide +kernel⟩
theorem vN_get {l : List Nat} {i : Nat} {x : V} (h : (vI (encN l))[i]? = some x) : ∃ n, l[i]? = some n ∧ x = V.int (n : Int) := by
  obtain ⟨x0, hx0, rfl⟩ := vI_get h
  obtain ⟨n, hn, rfl⟩ := encN_get hx0
  exact ⟨n, hn, rfl⟩
theorem ok_foundWith {f CW C : Addr} {fd : FuncData} (F : Fun K "found_with" "Stream.found_with" sFoundWith f fd) (T : Txt mg) (S : SCls K C) (C1 : Callee P w K mg base 2 "times_of_each" ["words", "text"] (spTimesEach K CW)) (M1 : Method P w K mg base 1 C "around" ["self", "known", "start", "size"] (spAround C))
    (M2 : Method P w K mg base 1 C "known_with" ["self", "start", "told"] (spKnownWith C)) : FnOk P w K mg base CX0 3 f fd ["self", "words", "start", "told"] (spFoundWith K CW C) := by
  refine F.ok scFoundWith (fun vs H Q E h => ?_) (fun cdv A outer s H vs Q E hr h => ?_)
  · obtain ⟨a, lb, lk, lf, lw, lt, b, tail, found, told, known, st, ws, D, rfl, _⟩ := h
    rfl
  · obtain ⟨a, lb, lk, lf, lw, lt, b, tail, found, told, known, st, ws, Dw, rfl, X, hW, hok, h64, ht, htl, hkn, hfo, hst, k⟩ := h
    obtain ⟨dx, ha⟩ := X.ex
    have hr1 : Room 1 _ := hr.mono (by decide)
    refine ⟨_, pss_cons (ps_set (i := 4) scFoundWith.nd rfl (Or.inl rfl) (pe_callee C1 hr rfl (pa_cons (pv 1) (pa_cons (pe_method (pv 0) S.cl M1 hr1 (pa_cons (pe_fld (pv 0) rfl) (pa_cons (pv 2) (pa_cons (pe_callB call_len_seq rfl T.len PySem.boot_len (pa_cons (pv 3) pa_nil)) pa_nil)))) pa_nil))))
      (pss_cons (ps_set (i := 5) scFoundWith.nd rfl (Or.inl rfl) (pe_callee C1 hr rfl (pa_cons (pv 1) (pa_cons (pe_method (pv 0) S.cl M1 hr1 (pa_cons (pe_method (pv 0) S.cl M2 hr1 (pa_cons (pv 2) (pa_cons (pv 3) pa_nil))) (pa_cons (pv 2) (pa_cons (pe_callB call_len_seq rfl T.len PySem.boot_len (pa_cons (pv 3) pa_nil)) pa_nil)))) pa_nil))))
      (pss_one (ps_ret (pe_lc (own := [("found", 6), ("new", 7), ("old", 8)]) (g := gTup K 3 (gCons (gName 6) (gCons (gName 7) (gCons (gName 8) gNil)))) rfl scFoundWith.nd (pi_zip3 rfl T.zip (pa_cons (pe_fld (pv 0) rfl) (pa_cons (pv 5) (pa_cons (pv 4) pa_nil))))
        (blkOk_by (N := ["self", "words", "start", "told", "now", "then", "found", "new", "old"]) (sc := defScope sFoundWith) (by decide +kernel))
        (fun _ _ _ _ _ => pg_tup rfl (pgs_cons (pg_name (i := 6) scFoundWith.nd rfl (Or.inl rfl)) (pgs_cons (pg_name (i := 7) scFoundWith.nd rfl (Or.inl rfl)) (pgs_cons (pg_name (i := 8) scFoundWith.nd rfl (Or.inl rfl)) pgs_nil)))) (fun _ _ _ _ _ => pts_nil)
        (fun _ _ _ _ _ => pe_op op_sub (pe_op op_add (pv 6) (pv 7)) (pv 8)))))), ?_⟩
    dsimp only [cxOf, Cx.nox, Cx.wish]
    refine seqI fun U1 g1 => ?_
    refine ⟨_, rfl, rMeth rfl ha rfl (rFld rfl ha S.cl S.nK sf_known ⟨_, rfl, _, rfl, lt, _, rfl, .inl (SqL.of ht), ?_⟩)⟩
    rw [List.length_map, encN_length]
    refine AtAround.mk a lb lk lf lk b _ _ _ _ st told.length rfl X X.hk (by rw [encN_length]; omega) (by rw [encT_length]; omega) fun H1 p1 s1 n1 h1 => ?_
    rw [around_enc] at h1
    refine AtTimesEach.mk lw p1 ws _ Dw rfl (hW.same s1) hok h64 (SqL.of h1) ?_ fun H2 now s2 nn hn => ?_
    · have := win_length (tail.map some) known st told.length
      rw [List.length_map] at this
      omega
    have s12 := s1.trans s2
    refine g1 _ _ (seqI fun U2 g2 => ?_)
    refine ⟨_, rfl, rMeth rfl (s12 _ _ ha) rfl (rMeth rfl (s12 _ _ ha) rfl ⟨_, rfl, _, rfl, ?_⟩)⟩
    refine AtKnownWith.mk a lb lk lf lt b _ _ _ (encN told) st rfl (X.same s12) (s12 _ _ ht) (by rw [encT_length]; omega) (by rw [encN_length]; omega) fun H3 kn2 s3 nk hk => ?_
    rw [known_enc] at hk
    have s13 := s12.trans s3
    refine ⟨_, rfl, _, rfl, lt, _, rfl, .inl (SqL.of (s13 _ _ ht)), ?_⟩
    rw [List.length_map, encN_length]
    have hpl : (putIn known st told).length = 4096 := by rw [putIn_length (by omega)]; exact hkn
    refine AtAround.mk a lb lk lf kn2 b _ _ _ _ st told.length rfl (X.same s13) hk (by rw [encN_length]; omega) (by rw [encT_length]; exact Nat.le_of_lt (Nat.lt_of_le_of_lt (Nat.le_of_eq hpl) (by decide))) fun H4 p4 s4 n4 h4 => ?_
    rw [around_enc] at h4
    have s14 := s13.trans s4
    refine AtTimesEach.mk lw p4 ws _ Dw rfl (hW.same s14) hok h64 (SqL.of h4) ?_ fun H5 thn s5 nt hth => ?_
    · have := win_length (tail.map some) (known.take st ++ (told.map some ++ known.drop (st + told.length))) st told.length
      rw [List.length_map] at this
      have e : (known.take st ++ (told.map some ++ known.drop (st + told.length))).length = 4096 := hpl
      omega
    have s15 := s14.trans s5
    have hn5 := s5 _ _ (s4 _ _ (s3 _ _ hn))
    generalize hA : (ws.map fun v => Kp134.count v (win (tail.map some) known st told.length)) = nowL at hn hn5 k
    have hB' : (ws.map fun v => Kp134.count v (win (tail.map some) (known.take st ++ (told.map some ++ known.drop (st + told.length))) st told.length)) = ws.map fun v => Kp134.count v (win (tail.map some) (putIn known st told) st told.length) := rfl
    rw [hB'] at hth
    generalize hB : (ws.map fun v => Kp134.count v (win (tail.map some) (putIn known st told) st told.length)) = thenL at hth k
    have lA : nowL.length = ws.length := by rw [← hA, List.length_map]
    have lB : thenL.length = ws.length := by rw [← hB, List.length_map]
    refine g2 _ _ ?_
    refine ⟨_, rfl, a, C, dx, _, _, rfl, s15 _ _ ha, S.cl, S.nF, sf_found, _, rfl, _, rfl, lf, thn, now, _, _, _, rfl, SqL.of (s15 _ _ X.hf), SqL.of hth, SqL.of hn5, fun D hD =>
      lc_zip3 (K := K) (xs := vI (encN found)) (ys := vI (encN thenL)) (zs := vI (encN nowL)) (by rw [List.length_map, List.length_map, encN_length, encN_length, lB, hfo]) (by rw [List.length_map, List.length_map, encN_length, encN_length, lA, hfo])
        (fun i H' => Same H5 H' ∧ H' D = some (.lst (vI ((found.zip (thenL.zip nowL)).take i |>.map fun p => (p.1 : Int) + (p.2.1 : Int) - (p.2.2 : Int)))))
        ⟨same_upd hD, upd_same⟩ (fun i H' _ q => ⟨q.1.seq (SqL.of (s15 _ _ X.hf)), q.1.seq (SqL.of hth), q.1.seq (SqL.of hn5)⟩) (fun i x y v tp H' hx hy hv q hT => ?_) (fun H' q => ?_)⟩
    · obtain ⟨x, hx1, rfl⟩ := vN_get hx
      obtain ⟨y, hy1, rfl⟩ := vN_get hy
      obtain ⟨v, hv1, rfl⟩ := vN_get hv
      have hs := q.1
      have hd := q.2
      have s2 : Same H' (upd H' tp (.tup [V.int x, V.int y, V.int v])) := same_upd hT
      have hp : (found.zip (thenL.zip nowL))[i]? = some (x, (y, v)) := by
        rw [List.getElem?_zip_eq_some]
        refine ⟨hx1, ?_⟩
        rw [List.getElem?_zip_eq_some]
        exact ⟨hy1, hv1⟩
      refine ⟨tp, _, rfl, .inl (.inl upd_same), rfl, _, _, rfl, _, _, rfl, _, _, rfl, rfl, rfl, yes (iteT ⟨_, rfl, _, rfl, _, _, rfl, rfl, _, rfl, _, _, rfl, rfl, _, s2 _ _ hd, ?_, Same.upd (hs.trans s2) hD, ?_⟩)⟩
      · rw [List.length_map, List.length_map, List.length_take, List.length_zip]
        exact Nat.lt_of_le_of_lt (Nat.le_trans (Nat.min_le_right _ _) (Nat.min_le_left _ _)) (Nat.lt_of_le_of_lt (show found.length ≤ 64 by omega) (by decide))
      · rw [upd_same, take_snoc hp]
        unfold vI
        rw [List.map_append, List.map_append]
        rfl
    · have hs := q.1
      have hd := q.2
      rw [List.length_map, encN_length, List.take_of_length_le (by rw [List.length_zip]; omega)] at hd
      exact k H' D (s15.trans hs) (s15.free hD) hd
end
end WL
end
section
set_option Elab.async false
set_option linter.all false
set_option maxRecDepth 100000
namespace WL
open PySem PySem.Spec L2
open Kp134 (Word Rules Text)
open Kp135 (ROUND WINDOW off here beyond clash fill with_ received Abs)
theorem putIn_take {known : Text} {st : Nat} {told : List Nat} (h : st ≤ known.length) : (putIn known st told).take st = known.take st := by
  unfold putIn
  have l : (known.take st).length = st := by rw [List.length_take]; omega
  generalize known.take st = A at l
  rw [List.take_append, List.take_of_length_le (by omega), l, Nat.sub_self, List.take_zero, List.append_nil]
theorem putIn_drop {known : Text} {st : Nat} {told : List Nat} (h : st ≤ known.length) : (putIn known st told).drop (st + told.length) = known.drop (st + told.length) := by
  unfold putIn
  have l : (known.take st).length = st := by rw [List.length_take]; omega
  have l2 : (told.map some).length = told.length := List.length_map ..
  generalize known.take st = A at l
  generalize told.map some = B at l2
  generalize known.drop (st + told.length) = C
  rw [List.drop_append, List.drop_eq_nil_of_le (by omega), List.nil_append, l, List.drop_append, List.drop_eq_nil_of_le (by omega), List.nil_append, l2, show st + told.length - st - told.length = 0 by omega, List.drop_zero]
theorem fw_eq {ws : List Word} {found told : List Nat} {tail : List Nat} {known : Text} {st : Nat} (hok : ∀ v ∈ ws, WOk v) (hf : ws.length = found.length) (hk : known.length = 4096) (hst : st + told.length ≤ 4096) (hle : Le known (putIn known st told)) :
    fwI found (ws.map fun v => Kp134.count v (win (tail.map some) (putIn known st told) st told.length)) (ws.map fun v => Kp134.count v (win (tail.map some) known st told.length)) = encN (foundWith ws found (tail.map some ++ known) (tail.map some ++ putIn known st told)) := by
  have one : ∀ v ∈ ws, ∀ n : Nat, (n : Int) + ((Kp134.count v (win (tail.map some) (putIn known st told) st told.length) : Nat) : Int) - ((Kp134.count v (win (tail.map some) known st told.length) : Nat) : Int) = ((n + (Kp134.count v (tail.map some ++ putIn known st told) - Kp134.count v (tail.map some ++ known)) : Nat) : Int) := fun v hv n => by
    have hpl : (putIn known st told).length = known.length := putIn_length (by omega)
    have q := win_count (w := v) (hok v hv).n16 (tail := tail.map some) (known := known) (known' := putIn known st told) (k := st) (n := told.length) hpl.symm (by omega) (putIn_take (by omega)).symm (putIn_drop (by omega)).symm
    have m := count_mono (w := v) (hle.app (tail.map some))
    omega
  unfold fwI foundWith encN
  generalize hA : (fun v => Kp134.count v (win (tail.map some) (putIn known st told) st told.length)) = A at one
  generalize hB : (fun v => Kp134.count v (win (tail.map some) known st told.length)) = B at one
  have one' : ∀ v ∈ ws, ∀ n : Nat, (n : Int) + ((A v : Nat) : Int) - ((B v : Nat) : Int) = ((n + (Kp134.count v (tail.map some ++ putIn known st told) - Kp134.count v (tail.map some ++ known)) : Nat) : Int) := fun v hv n => by
    rw [← hA, ← hB]
    exact one v hv n
  clear one hA hB hok
  induction ws generalizing found with
  | nil => cases found with
    | nil => rfl
    | cons _ _ => simp at hf
  | cons v ws ih =>
    cases found with
    | nil => simp at hf
    | cons n found =>
      rw [List.map_cons, List.map_cons, List.zip_cons_cons, List.zip_cons_cons, List.map_cons, List.zip_cons_cons, List.map_cons, List.map_cons]
      congr 1
      · exact one' v (List.mem_cons_self ..) n
      · exact ih (by rw [List.length_cons, List.length_cons] at hf; omega) fun u hu => one' u (List.mem_cons_of_mem _ hu)
noncomputable def keyOf (name : List Nat) : List Key := name.map fun (n : Nat) => (Sum.inl (n : Int) : Key)
theorem keyOf_inj : ∀ {a b : List Nat}, keyOf a = keyOf b → a = b
  | [], [], _ => rfl
  | [], _ :: _, h => by cases h
  | _ :: _, [], h => by cases h
  | x :: a, y :: b, h => by
    have h1 : (Sum.inl (x : Int) : Key) = Sum.inl (y : Int) := (List.cons.inj h).1
    have h2 : (x : Int) = (y : Int) := Sum.inl.inj h1
    have e : x = y := by omega
    rw [e, keyOf_inj (List.cons.inj h).2]
theorem key_vals (name : List Nat) : (keyOf name).map kV = vI (encN name) := by
  unfold keyOf encN vI
  rw [List.map_map, List.map_map]
  rfl
noncomputable def kvsOf (ss : List Kp135.Stream) (as : List Addr) : List (List Key × V) := (ss.zip as).map fun p => (keyOf p.1.name, V.ref p.2)
theorem kvs_none {name : List Nat} : ∀ {ss : List Kp135.Stream} {as : List Addr}, ss.find? (fun s => s.name == name) = none → valV (kvsOf ss as) (keyOf name) = none
  | [], as, _ => by
    unfold kvsOf
    rw [List.zip_nil_left]
    rfl
  | _ :: _, [], _ => by
    unfold kvsOf
    rw [List.zip_nil_right]
    rfl
  | s :: ss, a :: as, h => by
    rw [List.find?_cons] at h
    cases e : (s.name == name) with
    | true => rw [e] at h; cases h
    | false =>
      rw [e] at h
      show valV ((keyOf s.name, V.ref a) :: kvsOf ss as) (keyOf name) = none
      rw [valV_neg (fun q => by
        have := keyOf_inj q
        rw [this, beq_self_eq_true] at e
        cases e)]
      exact kvs_none h
theorem kvs_some {name : List Nat} {s : Kp135.Stream} : ∀ {ss : List Kp135.Stream} {as : List Addr}, as.length = ss.length → ss.find? (fun s => s.name == name) = some s →
    ∃ (i : Nat) (a : Addr), ss[i]? = some s ∧ as[i]? = some a ∧ s.name = name ∧ valV (kvsOf ss as) (keyOf name) = some (V.ref a)
  | [], as, _, h => by cases h
  | _ :: _, [], hl, _ => by simp at hl
  | t :: ss, a :: as, hl, h => by
    rw [List.find?_cons] at h
    cases e : (t.name == name) with
    | true =>
      rw [e] at h
      have et : t = s := Option.some.inj h
      subst et
      exact ⟨0, a, rfl, rfl, beq_iff_eq.mp e, valV_pos (p := (keyOf t.name, V.ref a)) (by rw [beq_iff_eq.mp e])⟩
    | false =>
      rw [e] at h
      obtain ⟨i, b, h1, h2, h3, h4⟩ := kvs_some (as := as) (by rw [List.length_cons, List.length_cons] at hl; omega) h
      refine ⟨i + 1, b, h1, h2, h3, ?_⟩
      show valV ((keyOf t.name, V.ref a) :: kvsOf ss as) (keyOf name) = some (V.ref b)
      rw [valV_neg (fun q => by
        have := keyOf_inj q
        rw [this, beq_self_eq_true] at e
        cases e)]
      exact h4
theorem change_set {t : Kp135.Stream} : ∀ {ss : List Kp135.Stream} {i : Nat} {s : Kp135.Stream}, (ss.map (·.name)).Nodup → ss[i]? = some s → t.name = s.name → ss.map (fun x => if x.name == t.name then t else x) = ss.set i t
  | [], i, s, _, h, _ => by simp at h
  | x :: ss, 0, s, nd, h, e => by
    have ex : x = s := Option.some.inj h
    subst ex
    rw [List.map_cons] at nd ⊢
    rw [List.set_cons_zero, if_pos (by rw [e]; exact beq_self_eq_true _)]
    congr 1
    have hn := (List.nodup_cons.mp nd).1
    have : ss.map (fun x => if x.name == t.name then t else x) = ss.map id := List.map_congr_left fun y hy => by
      rw [if_neg]
      · rfl
      · rw [beq_iff_eq, e]
        exact fun q => hn (List.mem_map.mpr ⟨y, hy, q⟩)
    rw [this, List.map_id]
  | x :: ss, i + 1, s, nd, h, e => by
    rw [List.map_cons] at nd ⊢
    rw [List.set_cons_succ, change_set (List.nodup_cons.mp nd).2 (by simpa using h) e]
    congr 1
    rw [if_neg]
    rw [beq_iff_eq, e]
    exact fun q => (List.nodup_cons.mp nd).1 (List.mem_map.mpr ⟨s, List.mem_of_getElem? (by simpa using h), q.symm⟩)
theorem kvs_set {t s : Kp135.Stream} : ∀ {ss : List Kp135.Stream} {as : List Addr} {i : Nat}, ss[i]? = some s → t.name = s.name → kvsOf (ss.set i t) as = kvsOf ss as
  | [], as, i, h, _ => by simp at h
  | x :: ss, [], i, h, _ => by
    unfold kvsOf
    rw [List.zip_nil_right, List.zip_nil_right]
  | x :: ss, a :: as, 0, h, e => by
    have ex : x = s := Option.some.inj h
    subst ex
    rw [List.set_cons_zero]
    show (keyOf t.name, V.ref a) :: kvsOf ss as = (keyOf x.name, V.ref a) :: kvsOf ss as
    rw [e]
  | x :: ss, a :: as, i + 1, h, e => by
    rw [List.set_cons_succ]
    show (keyOf x.name, V.ref a) :: kvsOf (ss.set i t) as = (keyOf x.name, V.ref a) :: kvsOf ss as
    rw [kvs_set (by simpa using h) e]
theorem kvs_snoc {s : Kp135.Stream} {a : Addr} : ∀ {ss : List Kp135.Stream} {as : List Addr}, as.length = ss.length → kvsOf (ss ++ [s]) (as ++ [a]) = kvsOf ss as ++ [(keyOf s.name, V.ref a)]
  | [], [], _ => rfl
  | [], _ :: _, h => by simp at h
  | _ :: _, [], h => by simp at h
  | x :: ss, b :: as, h => by
    have ih := kvs_snoc (s := s) (a := a) (ss := ss) (as := as) (by rw [List.length_cons, List.length_cons] at h; omega)
    show (keyOf x.name, V.ref b) :: kvsOf (ss ++ [s]) (as ++ [a]) = _
    rw [ih]
    rfl
theorem kvs_length {ss : List Kp135.Stream} {as : List Addr} (h : as.length = ss.length) : (kvsOf ss as).length = ss.length := by
  unfold kvsOf
  rw [List.length_map, List.length_zip]
  omega
theorem AOk.set {a : Abs} {i : Nat} {s t : Kp135.Stream} (ok : AOk a) (h : a.streams[i]? = some s) (hn : t.name = s.name) (ht : SOk a.rules.words t) : AOk { a with streams := a.streams.set i t } := by
  refine ⟨ok.words, ok.wlen, by show (a.streams.set i t).length ≤ 64; rw [List.length_set]; exact ok.few, ?_, fun x hx => ?_⟩
  · show ((a.streams.set i t).map (·.name)).Nodup
    have e : (a.streams.set i t).map (·.name) = a.streams.map (·.name) := by
      apply List.ext_getElem?
      intro j
      rw [List.getElem?_map, List.getElem?_map]
      by_cases hj : i = j
      · subst hj
        rw [List.getElem?_set_self (List.getElem?_eq_some_iff.mp h).1, h]
        exact congrArg some hn
      · rw [List.getElem?_set_ne hj]
    rw [e]
    exact ok.nd
  · rcases List.mem_or_eq_of_mem_set hx with q | q
    · exact ok.ok x q
    · rw [q]; exact ht
theorem AOk.snoc {a : Abs} {t : Kp135.Stream} (ok : AOk a) (h : a.streams.find? (fun s => s.name == t.name) = none) (hl : a.streams.length < 64) (ht : SOk a.rules.words t) : AOk { a with streams := a.streams ++ [t] } := by
  refine ⟨ok.words, ok.wlen, by show (a.streams ++ [t]).length ≤ 64; rw [List.length_append]; exact hl, ?_, fun x hx => ?_⟩
  · show ((a.streams ++ [t]).map (·.name)).Nodup
    rw [List.map_append]
    refine nd_snoc ok.nd fun m => ?_
    obtain ⟨y, hy, e⟩ := List.mem_map.mp m
    have := List.find?_eq_none.mp h y hy
    exact this (beq_iff_eq.mpr e)
  · rcases List.mem_append.mp hx with q | q
    · exact ok.ok x q
    · rw [List.mem_singleton.mp q]; exact ht
theorem with_eq {r : Rules} {s : Kp135.Stream} {place : Nat} {b : List Nat} (h : SOk r.words s) (hb : 1 ≤ b.length) (ho : off s place + (b.length : Int) ≤ 4096) :
    with_ r s place b = { s with known := putIn s.known (off s place).toNat (toldOf (off s place) b), found := foundWith r.words s.found (s.tail.map some ++ s.known) (s.tail.map some ++ putIn s.known (off s place).toNat (toldOf (off s place) b)) } := by
  have e1 := fill_eq' h.known hb ho
  have e2 := with_found (place := place) (b := b) h.found
  have e3 : with_ r s place b = { s with known := fill s place b, found := (with_ r s place b).found } := rfl
  rw [e3, e2, e1]
  rfl
end WL
end
section
set_option Elab.async false
set_option linter.all false
set_option maxRecDepth 100000
set_option maxHeartbeats 2000000
namespace WL
open PySem PySem.Spec PyProof.Rows L2
open Kp134 (Word Rules Text)
open Kp135 (ROUND WINDOW off here beyond clash fill with_ received Abs)
section
variable {prog : Program} {w : World} {A : Around} {E : Value → Shared → Prop} {s : Shared}
theorem meets_len_any (prog : Program) (w : World) (d : Addr) (hd : (d == sysModules) = false) :
    MeetsIn prog w (Builtin.«dict.__len__» ⟨[.ref d], []⟩) (fun _ R s => ∃ o es ep, s.heap.get? d = some o ∧ o.data = .dict es ep ∧ R (.ok (.ret (.int es.size s.toks))) { s with toks := s.toks + 1 }) :=
  .of_wp fun A R s ⟨o, es, ep, ho, hdat, h⟩ => by
    show wpAny _ _ (dictSize d >>= _) _ _ s; unfold dictSize
    refine wpAny_bind (wpAny_bind (wpAny_dictEntries ho hdat (wpAny_pure ?_)))
    show wpAny _ _ (Builtin.Dict.pendingCount d >>= _) _ _ s; refine wpAny_bind (wpAny_pendingCount_other hd ?_)
    refine wpAny_ret_mkInt ?_; rw [Nat.add_zero]; exact h
theorem len_any {d : Addr} {o : Obj} {es : Array DictEntry} {ep : Nat} {Q : Value → Shared → Prop} (hd : (d == sysModules) = false) (ht : s.TypeIs (.ref d) "dict") (ho : s.heap.get? d = some o) (hdat : o.data = .dict es ep) (hfit : (es.size : Int) < 2 ^ 63)
    (h : Q (.int es.size (s.toks + 1)) { s with toks := s.toks + 1 + 1 }) : wpAny (model prog w) A (call (.builtin "len") [.ref d]) Q E s := by
  refine Calls.call_function_entry kind_len plain_len entry_len (args_len1 _) ?_
  unfold Builtin.«len»; refine wpAny_bind (m := oneArg "len" _) (wpAny_pure ?_)
  refine wpAny_bind (m := callSpecial? (.ref d) (Str.ofString "__len__")) (wpAny_callSpecial?_slot (name := Str.ofString "__len__") ht F.slot_dict_len
    (call_meetsIn F.slot_dict_len ht F.entry_dict_len (F.args_dict_len_1 _) (meets_len_any prog w d hd) ⟨o, es, ep, ho, hdat, ?_⟩))
  show wpAny _ _ _ _ _ { s with toks := s.toks + 1 }
  refine wpAny_bind (wpAny_holding (wpAny_pure ?_)); refine wpAny_bind (wpAny_letGo ?_)
  show wpAny _ _ (if ((es.size : Nat) : Int) < 0 then _ else _) _ _ _; rw [if_neg (by omega)]
  show wpAny _ _ (if ((es.size : Nat) : Int) ≥ 2 ^ 63 then _ else _) _ _ _; rw [if_neg (by omega)]
  exact wpAny_bind (wpAny_mkInt (wpAny_pure ⟨_, rfl, h⟩))
end
theorem call_lenT {X : Cx} : CallR X (.builtin "len") (fun xs H Q => ∃ a kvs, xs = [V.ref a] ∧ H a = some (.dT kvs) ∧ Q (.int kvs.length) H) := by
  intro pins s σ H xs us Q I r h
  obtain ⟨a, kvs, rfl, ha, q⟩ := h
  obtain ⟨u, rfl, ru⟩ := vals1 r
  cases ru
  obtain ⟨z, hd, xs, rel, dd⟩ := dt_of I.hok ha
  have ht := dd.typeIs
  obtain ⟨o, es, ep, ho, hc, hdat, he, _, _⟩ := dd
  have hsz : es.size = kvs.length := by rw [size_of_entries he]; exact (Paired.length rel).symm
  have hl : kvs.length ≤ sizeLine := z
  rw [sizeLine_eq] at hl
  refine len_any hd ht ho hdat (by rw [hsz]; omega) ?_
  rw [hsz]
  exact ⟨.int kvs.length, H, I.tok _, ⟨_, rfl⟩, q⟩
structure StreamAt (D : Addr → Prop) (C : Addr) (H : Hp) (a : Addr) (s : Kp135.Stream) : Prop where
  ex : ∃ lb lk lf, D a ∧ D lb ∧ D lk ∧ D lf ∧ StrP C H a (s.base : Int) lb lk lf (encN s.tail) (encT s.known) (encN s.found)
theorem StreamAt.keep {D D' : Addr → Prop} {C a : Addr} {H H' : Hp} {s : Kp135.Stream} (x : StreamAt D C H a s) (hD : ∀ b, D b → D' b) (k : ∀ b o, D b → H b = some o → H' b = some o) : StreamAt D' C H' a s := by
  obtain ⟨lb, lk, lf, d1, d2, d3, d4, h⟩ := x.ex
  obtain ⟨dx, ha⟩ := h.ex
  exact ⟨lb, lk, lf, hD _ d1, hD _ d2, hD _ d3, hD _ d4, ⟨dx, k _ _ d1 ha⟩, k _ _ d2 h.hb, k _ _ d3 h.hk, k _ _ d4 h.hf⟩
theorem StreamAt.elim {D : Addr → Prop} {C a : Addr} {H : Hp} {s : Kp135.Stream} {G : Prop} (x : StreamAt D C H a s) (f : ∀ lb lk lf dx, D a → D lb → D lk → D lf → StrP C H a (s.base : Int) lb lk lf (encN s.tail) (encT s.known) (encN s.found) → H a = some (.ins C dx (streamF (s.base : Int) lb lk lf)) → G) : G := by
  obtain ⟨lb, lk, lf, d1, d2, d3, d4, h⟩ := x.ex
  obtain ⟨dx, ha⟩ := h.ex
  exact f lb lk lf dx d1 d2 d3 d4 h ha
noncomputable def lineF (limit : Int) (lw ld : Addr) : List (Str × V) := [("limit", .int limit), ("words", .ref lw), ("streams", .ref ld)]
theorem lf_limit {l : Int} {lw ld : Addr} : (lineF l lw ld).lookup ("limit" : Str) = some (.int l) := rfl
theorem lf_words {l : Int} {lw ld : Addr} : (lineF l lw ld).lookup ("words" : Str) = some (.ref lw) := rfl
theorem lf_streams {l : Int} {lw ld : Addr} : (lineF l lw ld).lookup ("streams" : Str) = some (.ref ld) := rfl
structure Cs where
  w : Addr
  s : Addr
  l : Addr
structure LCls (K : PySem.W.Frag) (C : Addr) : Prop where
  cl : Cls K C
  nL : NoAttr K C "limit"
  nW : NoAttr K C "words"
  nS : NoAttr K C "streams"
structure LineP (D : Addr → Prop) (C : Cs) (H : Hp) (L : Addr) (a : Abs) (lw ld : Addr) (as : List Addr) : Prop where
  dL : D L
  dD : D ld
  hL : ∃ dx, H L = some (.ins C.l dx (lineF (a.limit : Int) lw ld))
  hW : WordsAt D C.w H lw a.rules.words
  hD : H ld = some (.dT (kvsOf a.streams as))
  len : as.length = a.streams.length
  nd : as.Nodup
  hS : ∀ (i : Nat) (s : Kp135.Stream) (b : Addr), a.streams[i]? = some s → as[i]? = some b → StreamAt D C.s H b s
structure LineAt (D : Addr → Prop) (C : Cs) (H : Hp) (L : Addr) (a : Abs) : Prop where
  ex : ∃ lw ld as, LineP D C H L a lw ld as
theorem LineP.keep {D D' : Addr → Prop} {C : Cs} {H H' : Hp} {L lw ld : Addr} {a : Abs} {as : List Addr} (x : LineP D C H L a lw ld as) (hD : ∀ b, D b → D' b) (k : ∀ b o, D b → H b = some o → H' b = some o) : LineP D' C H' L a lw ld as := by
  obtain ⟨dx, hL⟩ := x.hL
  exact ⟨hD _ x.dL, hD _ x.dD, ⟨dx, k _ _ x.dL hL⟩, x.hW.keep hD k, k _ _ x.dD x.hD, x.len, x.nd, fun i s b h1 h2 => (x.hS i s b h1 h2).keep hD k⟩
theorem LineAt.elim {D : Addr → Prop} {C : Cs} {H : Hp} {L : Addr} {a : Abs} {G : Prop} (x : LineAt D C H L a) (f : ∀ lw ld as dx, LineP D C H L a lw ld as → H L = some (.ins C.l dx (lineF (a.limit : Int) lw ld)) → G) : G := by
  obtain ⟨lw, ld, as, p⟩ := x.ex
  obtain ⟨dx, h⟩ := p.hL
  exact f lw ld as dx p h
theorem LineAt.keep {D D' : Addr → Prop} {C : Cs} {H H' : Hp} {L : Addr} {a : Abs} (x : LineAt D C H L a) (hD : ∀ b, D b → D' b) (k : ∀ b o, D b → H b = some o → H' b = some o) : LineAt D' C H' L a := by
  obtain ⟨lw, ld, as, p⟩ := x.ex
  exact ⟨lw, ld, as, p.keep hD k⟩
theorem LineAt.same {D : Addr → Prop} {C : Cs} {H H' : Hp} {L : Addr} {a : Abs} (x : LineAt D C H L a) (s : Same H H') : LineAt D C H' L a := x.keep (fun _ d => d) fun b o _ e => s b o e
theorem LineP.same {D : Addr → Prop} {C : Cs} {H H' : Hp} {L lw ld : Addr} {a : Abs} {as : List Addr} (x : LineP D C H L a lw ld as) (s : Same H H') : LineP D C H' L a lw ld as := x.keep (fun _ d => d) fun b o _ e => s b o e
structure Fram (D D' : Addr → Prop) (H H' : Hp) : Prop where
  own : ∀ b, D' b → D b ∨ H b = none
  keep : ∀ b o, H b = some o → ¬ D b → H' b = some o
theorem Fram.same {D : Addr → Prop} {H H' : Hp} (s : Same H H') : Fram D D H H' := ⟨fun _ d => .inl d, fun b o e _ => s b o e⟩
noncomputable def Says (C : Cs) (D : Addr → Prop) (H : Hp) (L : Addr) (a : Abs) (q : Kp135.Call) (Q : VK) : Prop :=
  ∀ (D' : Addr → Prop) (H' : Hp) (v : Int), Fram D D' H H' → LineAt D' C H' L (Kp135.act a default q).1 → AOk (Kp135.act a default q).1 → (Kp135.act a default q).2.2 = .num v → Q (.int v) H'
end WL
end
section
set_option Elab.async false
set_option linter.all false
set_option maxRecDepth 100000
set_option maxHeartbeats 2000000
namespace WL
open PySem PySem.Spec PyProof.Rows L2
section
variable {prog : Program} {w : World} {K : Type} [DecidableEq K] {knd : HeapKind prog w K} {A : Around} {E : Value → Shared → Prop} {s : Shared}
theorem eraseIdx_map_ {α β : Type} (f : α → β) : ∀ (l : List α) (j : Nat), (l.eraseIdx j).map f = (l.map f).eraseIdx j
  | [], j => by cases j <;> rfl
  | a :: l, 0 => rfl
  | a :: l, j + 1 => by
    show f a :: (l.eraseIdx j).map f = f a :: (l.map f).eraseIdx j
    rw [eraseIdx_map_ f l j]
theorem takeOut_heap {d a : Addr} {xs : List (K × Addr × Value)} {k : K} {Q : Option DictEntry → Shared → Prop} (hu : knd.room A) (hkey : knd.is s.heap k a) (hm : s.heap.DictOfH knd d xs) (hsz : xs.length ≤ sizeLine)
    (hnone : atKey xs k = none → Q none { s with toks := s.toks + knd.draws k })
    (hsome : ∀ (j : Nat) (p : Addr × Value), xs[j]? = some (k, p) → ∀ h' : Heap, h'.DictOfH knd d (xs.eraseIdx j) → Heap.SameBut d s.heap h' → Q (some (entryOfKey knd (k, p))) { s with heap := h', toks := s.toks + knd.draws k }) :
    wpAny (model prog w) A (Builtin.Dict.takeOut d (.ref a)) Q E s := by
  obtain ⟨o, es, ep, ho, hc, hd, he, his, hn⟩ := hm
  have hes : es.size ≤ sizeLine := by have e := size_of_entries he; omega
  unfold Builtin.Dict.takeOut
  try with_reducible refine wpAny_holding ?_
  refine wpAny_bind (knd.pyHash hu hkey (wpAny_bind (wpAny_dictFind_heap (s := { s with toks := s.toks + knd.draws k }) hu hkey ho hd he his hn ?_ ?_)))
  · intro hno
    exact wpAny_pure (hnone (atKey_none_of_get hno))
  · intro j p hj
    refine wpAny_bind (wpAny_dictEntries (s := { s with toks := s.toks + knd.draws k }) ho hd ?_)
    rw [entry_at he j, hj]
    refine wpAny_bind (wpAny_updateDictKeys (hz := hes) (s := { s with toks := s.toks + knd.draws k }) ho hd (wpAny_pure (hsome j p hj _ ⟨_, _, ep + 1, Heap.get?_update_self _ ho (Obj.isFreed_of_dict (Obj.data_mapDictKeys hd _)),
      hc.mapDictKeys _, Obj.data_mapDictKeys hd _, ?_, ?_, ?_⟩ (Heap.SameBut.update ..))))
    · obtain ⟨l⟩ := es
      have he' : l = xs.map (entryOfKey knd) := he
      show ((⟨l⟩ : Array DictEntry).eraseIdxIfInBounds j).toList = _
      rw [List.eraseIdxIfInBounds_toArray, he']
      exact (eraseIdx_map_ _ xs j).symm
    · intro x hx
      exact knd.keeps (his x (List.mem_of_mem_eraseIdx hx)) ho hd (Heap.SameBut.update ..)
    · exact hn.sublist ((List.eraseIdx_sublist ..).map _)
theorem pop_heap (knd : HeapKind prog w K) (d a : Addr) :
    MeetsIn prog w (Builtin.«dict.pop» ⟨[.ref d, .ref a], []⟩) (fun A R s => knd.room A.in1 ∧ ∃ k xs j p, knd.is s.heap k a ∧ s.heap.DictOfH knd d xs ∧ xs.length ≤ sizeLine ∧ xs[j]? = some (k, p) ∧
      ∀ h' : Heap, h'.DictOfH knd d (xs.eraseIdx j) → Heap.SameBut d s.heap h' → R (.ok (.ret p.2)) { s with heap := h', toks := s.toks + knd.draws k }) :=
  .of_wp fun A R s hz => by
    obtain ⟨hu, k, xs, j, p, hkey, hm, hsz, hj, h⟩ := hz
    obtain ⟨o, es, ep, ho, hc, hd, he, his, hn⟩ := id hm
    have hne : es.isEmpty = false := by
      have e := size_of_entries he
      have l := (List.getElem?_eq_some_iff.mp hj).1
      cases q : es.isEmpty with
      | false => rfl
      | true =>
        have z : es.size = 0 := by simpa using q
        omega
    have hpart : (keyPart (Value.ref a)).isSome = false := rfl
    have there : ∀ j' p', xs[j']? = some (k, p') → j' = j ∧ p' = p := fun j' p' hj' => by
      have ej := idxH_unique hn hj' hj
      subst ej
      rw [hj'] at hj
      exact ⟨rfl, (Prod.mk.inj (Option.some.inj hj)).2⟩
    unfold Builtin.«dict.pop»
    refine wpAny_bind ?_
    unfold Builtin.Dict.keyAndDefault
    refine wpAny_bind (wpAny_notOrdered_dict hm.typeIs ?_)
    show wpAny _ _ (pure (d, Value.ref a, none)) _ _ s
    refine wpAny_pure ?_
    simp only [hpart, Bool.false_eq_true, if_false]
    refine wpAny_bind (wpAny_dictEntries ho hd (wpAny_bind (wpAny_pure ?_)))
    simp only [hne, Bool.false_eq_true, if_false]
    refine wpAny_bind (takeOut_heap hu hkey hm hsz (fun hno => by rw [atKey_of_get hn hj] at hno; cases hno) fun j' p' hj' h' hm' hs' => ?_)
    obtain ⟨ej, ep'⟩ := there j' p' hj'
    subst ej ep'
    simp only [Option.isNone_some, Bool.false_eq_true, if_false]
    exact wpAny_bind (wpAny_letGo (wpAny_pure ⟨_, rfl, h h' hm' hs'⟩))
end
theorem KT.drop {H : Hp} {k : List Key} {p : Addr × Value} : ∀ {kvs : List (List Key × V)} {xs : List (List Key × Addr × Value)} {j : Nat}, KT H kvs xs → (xs.map (·.1)).Nodup → xs[j]? = some (k, p) → KT H (dropK kvs k) (xs.eraseIdx j)
  | _, _, _, .nil, _, h => by simp at h
  | _, _, 0, @Paired.cons _ _ _ q0 x0 qs xs' r t, nd, h => by
    have e : x0 = (k, p) := Option.some.inj h
    subst e
    rw [List.eraseIdx_cons_zero, dropK_pos r.1]
    rw [List.map_cons] at nd
    have nk := (List.nodup_cons.mp nd).1
    rw [dropK_no]
    · exact t
    · have keys : ∀ {l : List (List Key × V)} {m : List (List Key × Addr × Value)}, KT H l m → l.map (·.1) = m.map (·.1) := by
        intro l m q
        induction q with
        | nil => rfl
        | cons h t ih => rw [List.map_cons, List.map_cons, ih, h.1]
      rw [keys t]
      exact nk
  | _, _, j + 1, @Paired.cons _ _ _ q0 x0 qs xs' r t, nd, h => by
    have h' : xs'[j]? = some (k, p) := by simpa using h
    rw [List.map_cons] at nd
    obtain ⟨n1, n2⟩ := List.nodup_cons.mp nd
    rw [List.eraseIdx_cons_succ, dropK_neg fun e => n1 ?_]
    · exact .cons r (KT.drop t n2 h')
    · rw [← r.1, e]
      exact List.mem_map.mpr ⟨(k, p), List.mem_of_getElem? h', rfl⟩
theorem atKey_at {K : Type} [DecidableEq K] {k : K} {p : Addr × Value} : ∀ {xs : List (K × Addr × Value)}, atKey xs k = some p → ∃ j : Nat, xs[j]? = some (k, p)
  | [], h => by cases h
  | x :: xs, h => by
    by_cases e : x.1 = k
    · have h' : some x.2 = some p := by
        rw [← h]
        simp [atKey, List.find?_cons, e]
      refine ⟨0, ?_⟩
      rw [List.getElem?_cons_zero, ← e, ← Option.some.inj h']
    · have h' : atKey xs k = some p := by
        rw [← h]
        simp [atKey, List.find?_cons, e]
      obtain ⟨j, hj⟩ := atKey_at h'
      exact ⟨j + 1, by simpa using hj⟩
section
variable {X : Cx} {pins : List (Addr × Obj)} {σ : L2.St} {H : Hp} {s : Shared} {a b : Addr} {kvs : List (List Key × V)} {k : List Key} {A : Around} {E : Value → Shared → Prop}
theorem d_popT {v : V} {Q : Value → Shared → Prop} (hu : A.units + 1 < cLine) (I : Inv X pins σ H s) (e : H a = some (.dT kvs)) (eb : H b = some (.tup (k.map kV))) (l : valV kvs k = some v)
    (h : ∀ w' s', Inv X pins σ (upd H a (.dT (dropK kvs k))) s' → RelV v w' → Q w' s') : wpAny (model X.prog X.w) A (call (.builtin "dict.pop") [.ref a, .ref b]) Q E s := by
  obtain ⟨z, hd, xs, rel, dd⟩ := dt_of I.hok e
  obtain ⟨w', hw, rw'⟩ := RelO.some_of (v := v) (o := (atKey xs k).map (·.2)) (by rw [← l]; exact rel.val k)
  obtain ⟨p, hp, hp2⟩ := Option.map_eq_some_iff.mp hw
  obtain ⟨j, hj⟩ := atKey_at hp
  obtain ⟨_, _, _, _, _, _, _, _, hn⟩ := id dd
  refine call_meetsIn PySem.F.slot_dict_pop dd.typeIs PySem.F.entry_dict_pop (PySem.F.args_dict_pop_2 _ _) (pop_heap (tupleKind (mixKind X.prog X.w)) a b)
    ⟨tupleKind_room_in1 hu, k, xs, j, p, key_of I.hok eb, dd, by rw [← Paired.length rel]; exact z, hj, fun h' dd' hs => ?_⟩
  rw [hp2]
  refine h w' _ ?_ rw'
  obtain ⟨q, es, ep, hq, h2, h3, h4, _, h5⟩ := dd'
  refine d_write I (by rw [e]; exact True.intro) hs ⟨q, hq⟩ ⟨Nat.le_trans (dropK_le kvs k) z, hd, _, (KT.drop rel hn hj).keeps fun c ys ec => ?_, q, es, ep, hq, h2, h3, h4, h5⟩
  rw [upd_ne (ne_of ec e (fun z => nomatch z))]
  exact ec
end
noncomputable def tDPopT (td ty : TE) : TE := fun σ H Q => td σ H fun x H1 => ∃ a, x = .ref a ∧ IsD H1 a ∧ ty σ H1 fun y H2 => ∃ kvs k v b, H2 a = some (.dT kvs) ∧ y = .ref b ∧ H2 b = some (.tup (k.map kV)) ∧ valV kvs k = some v ∧ Q v (upd H2 a (.dT (dropK kvs k)))
theorem pe_dpopT {X : Cx} {o e : Expr} {apos cpos : Pos} {td ty : TE} (hu : X.A.units + 1 < cLine) (ho : PE X o td) (he : PE X e ty) (m : M1 X o "pop" apos e cpos) : PE X (.Call (.Attribute o "pop" apos) [e] [] cpos) (tDPopT td ty) := by
  intro pins s σ H Q I h
  refine wpAny_Call_method m.base m.few m.line PySem.F.plainAttrs_dict PySem.F.slot_dict_pop PySem.F.type_dict_pop (thn (ho pins s σ H _ I h) fun u s1 hz => ?_)
  obtain ⟨x, H1, I1, rx, a, ex, d, q1⟩ := hz
  subst ex
  obtain rfl : u = Value.ref a := rx
  obtain ⟨t1, t2, _⟩ := isD_at I1 d
  refine ⟨t1, t2, ?_⟩
  rw [m.trees]
  refine Calls.callWith_builtin rfl (Calls.evalArgs_plain (Calls.spliced_cons (thn (he pins s1 σ H1 _ I1 q1) fun iv s2 hz => Calls.spliced_nil ?_)))
  obtain ⟨y, H2, I2, ry, kvs, k, v, b, ea, ey, eb, l, q2⟩ := hz
  subst ey
  obtain rfl : iv = Value.ref b := ry
  exact d_popT hu I2 ea eb l fun w' s3 I3 rw' => ⟨v, _, I3, rw', q2⟩
end WL
end
section
set_option Elab.async false
set_option linter.all false
set_option maxRecDepth 100000
set_option maxHeartbeats 2000000
namespace WL
open PySem PySem.Spec PyProof.Rows L2
open Kp134 (Word Rules Text)
open Kp135 (ROUND WINDOW off here beyond clash fill with_ received Abs)
theorem filter_erase {name : List Nat} {s : Kp135.Stream} : ∀ {ss : List Kp135.Stream} {i : Nat}, (ss.map (·.name)).Nodup → ss[i]? = some s → s.name = name → (ss.filter fun x => x.name != name) = ss.eraseIdx i
  | [], i, _, h, _ => by simp at h
  | x :: ss, 0, nd, h, e => by
    have ex : x = s := Option.some.inj h
    subst ex
    rw [List.map_cons] at nd
    have hn := (List.nodup_cons.mp nd).1
    rw [List.eraseIdx_cons_zero, List.filter_cons, if_neg (by rw [e]; simp)]
    rw [List.filter_eq_self]
    intro y hy
    rw [bne_iff_ne]
    intro q
    exact hn (List.mem_map.mpr ⟨y, hy, by rw [q, e]⟩)
  | x :: ss, i + 1, nd, h, e => by
    rw [List.map_cons] at nd
    obtain ⟨n1, n2⟩ := List.nodup_cons.mp nd
    have h' : ss[i]? = some s := by simpa using h
    rw [List.eraseIdx_cons_succ, List.filter_cons, if_pos, filter_erase n2 h' e]
    rw [bne_iff_ne]
    intro q
    exact n1 (List.mem_map.mpr ⟨s, List.mem_of_getElem? h', by rw [e, q]⟩)
theorem kvs_keys : ∀ {ss : List Kp135.Stream} {as : List Addr}, as.length = ss.length → (kvsOf ss as).map (·.1) = ss.map fun s => keyOf s.name
  | [], as, _ => by
    unfold kvsOf
    rw [List.zip_nil_left]
    rfl
  | _ :: _, [], h => by simp at h
  | s :: ss, a :: as, h => by
    show keyOf s.name :: (kvsOf ss as).map (·.1) = keyOf s.name :: ss.map fun s => keyOf s.name
    rw [kvs_keys (by rw [List.length_cons, List.length_cons] at h; omega)]
theorem kvs_erase {s : Kp135.Stream} {name : List Nat} : ∀ {ss : List Kp135.Stream} {as : List Addr} {i : Nat}, as.length = ss.length → (ss.map (·.name)).Nodup → ss[i]? = some s → s.name = name → kvsOf (ss.eraseIdx i) (as.eraseIdx i) = dropK (kvsOf ss as) (keyOf name)
  | [], as, i, _, _, h, _ => by simp at h
  | _ :: _, [], i, hl, _, _, _ => by simp at hl
  | x :: ss, a :: as, 0, hl, nd, h, e => by
    have ex : x = s := Option.some.inj h
    subst ex
    rw [List.map_cons] at nd
    have hl' : as.length = ss.length := by rw [List.length_cons, List.length_cons] at hl; omega
    rw [List.eraseIdx_cons_zero, List.eraseIdx_cons_zero]
    show kvsOf ss as = dropK ((keyOf x.name, V.ref a) :: kvsOf ss as) (keyOf name)
    rw [dropK_pos (by rw [e]), dropK_no]
    rw [kvs_keys hl']
    intro m
    obtain ⟨y, hy, q⟩ := List.mem_map.mp m
    exact (List.nodup_cons.mp nd).1 (List.mem_map.mpr ⟨y, hy, by rw [keyOf_inj q, e]⟩)
  | x :: ss, a :: as, i + 1, hl, nd, h, e => by
    rw [List.map_cons] at nd
    obtain ⟨n1, n2⟩ := List.nodup_cons.mp nd
    have h' : ss[i]? = some s := by simpa using h
    have hl' : as.length = ss.length := by rw [List.length_cons, List.length_cons] at hl; omega
    rw [List.eraseIdx_cons_succ, List.eraseIdx_cons_succ]
    show (keyOf x.name, V.ref a) :: kvsOf (ss.eraseIdx i) (as.eraseIdx i) = dropK ((keyOf x.name, V.ref a) :: kvsOf ss as) (keyOf name)
    rw [dropK_neg, kvs_erase hl' n2 h' e]
    intro q
    exact n1 (List.mem_map.mpr ⟨s, List.mem_of_getElem? h', by rw [e, keyOf_inj q]⟩)
theorem AOk.erase {a : Abs} {i : Nat} (ok : AOk a) : AOk { a with streams := a.streams.eraseIdx i } := by
  refine ⟨ok.words, ok.wlen, ?_, ?_, fun x hx => ok.ok x (List.mem_of_mem_eraseIdx hx)⟩
  · show (a.streams.eraseIdx i).length ≤ 64
    exact Nat.le_trans (List.eraseIdx_sublist ..).length_le ok.few
  · show ((a.streams.eraseIdx i).map (·.name)).Nodup
    exact ok.nd.sublist ((List.eraseIdx_sublist ..).map _)
theorem close_eq {a : Abs} {name : List Nat} {i : Nat} {s : Kp135.Stream} (ok : AOk a) (hi : a.streams[i]? = some s) (hn : s.name = name) : ({ a with streams := a.streams.filter fun x => x.name != name } : Abs) = { a with streams := a.streams.eraseIdx i } := by
  rw [filter_erase ok.nd hi hn]
theorem get_erase {α : Type} {l : List α} {i j : Nat} : (l.eraseIdx i)[j]? = l[if j < i then j else j + 1]? := by
  rw [List.getElem?_eraseIdx]
  split <;> rfl
theorem LineP.lost {D : Addr → Prop} {C : Cs} {H H' : Hp} {L lw ld : Addr} {a : Abs} {as : List Addr} {i : Nat} {s : Kp135.Stream} {name : List Nat} (x : LineP D C H L a lw ld as) (ok : AOk a) (hs : a.streams[i]? = some s) (hn : s.name = name)
    (k : ∀ c o, H c = some o → c ≠ ld → H' c = some o) (hd : H' ld = some (.dT (dropK (kvsOf a.streams as) (keyOf name)))) : LineAt D C H' L { a with streams := a.streams.eraseIdx i } := by
  obtain ⟨dx, hL⟩ := x.hL
  refine ⟨lw, ld, as.eraseIdx i, x.dL, x.dD, ⟨dx, k _ _ hL (ne_of hL x.hD (by intro z; cases z))⟩, ?_, ?_, ?_, ?_, fun j u c e1 e2 => ?_⟩
  · obtain ⟨was, d1, h1, h2, h3⟩ := x.hW.ex
    refine ⟨was, d1, k _ _ h1 (ne_of h1 x.hD (by intro z; cases z)), h2, fun j c v e1 e2 => ?_⟩
    obtain ⟨dxw, sp, d2, d3, g1, g2⟩ := (h3 j c v e1 e2).ex
    exact ⟨dxw, sp, d2, d3, k _ _ g1 (ne_of g1 x.hD (by intro z; cases z)), k _ _ g2 (ne_of g2 x.hD (by intro z; cases z))⟩
  · show H' ld = some (.dT (kvsOf (a.streams.eraseIdx i) (as.eraseIdx i)))
    rw [kvs_erase x.len ok.nd hs hn]
    exact hd
  · show (as.eraseIdx i).length = (a.streams.eraseIdx i).length
    rw [List.length_eraseIdx, List.length_eraseIdx, x.len]
  · exact x.nd.sublist (List.eraseIdx_sublist ..)
  · have e1' : (a.streams.eraseIdx i)[j]? = some u := e1
    rw [get_erase] at e1' e2
    obtain ⟨lb', lk', lf', d1, d2, d3, d4, hq⟩ := (x.hS _ u c e1' e2).ex
    obtain ⟨dxs, ha⟩ := hq.ex
    exact ⟨lb', lk', lf', d1, d2, d3, d4, ⟨dxs, k _ _ ha (ne_of ha x.hD (by intro z; cases z))⟩, k _ _ hq.hb (ne_of hq.hb x.hD (by intro z; cases z)), k _ _ hq.hk (ne_of hq.hk x.hD (by intro z; cases z)), k _ _ hq.hf (ne_of hq.hf x.hD (by intro z; cases z))⟩
theorem run_le (l : Text) : Kp135.run l ≤ l.length := (List.takeWhile_sublist _).length_le
theorem run_cons (x : Option Nat) (l : Text) : Kp135.run (x :: l) = if x.isSome then Kp135.run l + 1 else 0 := by
  unfold Kp135.run
  rw [List.takeWhile_cons]
  split <;> rfl
theorem run_all : ∀ {l : Text} {k : Nat}, k ≤ l.length → (k ≤ Kp135.run l ↔ ∀ x ∈ l.take k, x.isSome = true)
  | l, 0, _ => by simp
  | [], k + 1, h => by simp at h
  | x :: l, k + 1, h => by
    rw [run_cons, List.take_succ_cons]
    have ih := run_all (l := l) (k := k) (by rw [List.length_cons] at h; omega)
    cases hx : x.isSome with
    | false =>
      rw [if_neg (by decide)]
      constructor
      · intro q; omega
      · intro q
        have := q x (List.mem_cons_self ..)
        rw [hx] at this
        cases this
    | true =>
      rw [if_pos rfl, Nat.add_le_add_iff_right, ih]
      constructor
      · intro q y hy
        rcases List.mem_cons.mp hy with e | e
        · rw [e]; exact hx
        · exact q y e
      · intro q y hy
        exact q y (List.mem_cons_of_mem _ hy)
theorem known_vals {l : Text} (h : ∀ x ∈ l, x.isSome = true) : encT l = encN (l.map fun x => x.getD 0) := by
  unfold encT encN
  rw [List.map_map]
  refine List.map_congr_left fun x hx => ?_
  obtain ⟨n, rfl⟩ := Option.isSome_iff_exists.mp (h x hx)
  rfl
theorem received_ok {ws : List Word} {s : Kp135.Stream} {k : Nat} (h : SOk ws s) (hk : k ≤ 4096) : SOk ws (received s k) := by
  refine ⟨Nat.mod_lt _ (by decide), ?_, ?_, h.found, h.name⟩
  · show (List.drop _ _).length ≤ 15
    rw [List.length_drop]
    omega
  · show (s.known.drop k ++ List.replicate (min k WINDOW) none).length = 4096
    rw [List.length_append, List.length_drop, List.length_replicate, h.known]
    unfold WINDOW
    omega
end WL
end
section
set_option Elab.async false
set_option linter.all false
set_option maxRecDepth 100000
set_option maxHeartbeats 2000000
namespace WL
open PySem PySem.Spec PyProof.Rows L2
open Kp134 (Word Rules Text)
open Kp135 (ROUND WINDOW off here beyond clash fill with_ received Abs)
section
variable {X : Cx}
noncomputable def rCountI (K : PySem.W.Frag) : V → List V → Hp → VK → Prop := fun x xs H Q => ∃ (a : Addr) (ns : List Int) (k : Int), x = V.ref a ∧ xs = [V.int k] ∧ SqL K H a (vI ns) ∧ Q (.int ((ns.count k : Nat) : Int)) H
theorem mt_countI : MtR X "list.count" (rCountI X.K) := by
  intro pins s σ H x xs v us Q I rx rxs h
  obtain ⟨a, ns, k, rfl, rfl, hs, q⟩ := h
  cases rx
  obtain ⟨u, rfl, ru⟩ := rxs.one
  obtain ⟨t, rfl⟩ := ru
  obtain ⟨its, rv, hl, _⟩ := I.list hs
  exact PyProof.Rows.count_list_ints hl.isList rv.ints ⟨.int _, H, I.tok _, ⟨_, rfl⟩, q⟩
end
theorem flat_vI : ∀ l : List Int, (vI l).all flatV = true
  | [] => rfl
  | _ :: l => flat_vI l
theorem encT_cons_none (l : Text) : encT (none :: l) = -1 :: encT l := rfl
theorem encT_cons_some (n : Nat) (l : Text) : encT (some n :: l) = (n : Int) :: encT l := rfl
theorem run_none (l : Text) : Kp135.run (none :: l) = 0 := rfl
theorem run_some (n : Nat) (l : Text) : Kp135.run (some n :: l) = Kp135.run l + 1 := rfl
theorem gap_at : ∀ {l : Text}, inV (.int (-1)) (vI (encT l)) = true → (vI (encT l))[Kp135.run l]? = some (.int (-1)) ∧ ∀ (m : Nat) (z : V), m < Kp135.run l → (vI (encT l))[m]? = some z → eqV z (.int (-1)) = false
  | [], h => by cases h
  | none :: l, _ => ⟨rfl, fun m z hm => by rw [run_none] at hm; omega⟩
  | some n :: l, h => by
    have e0 : eqV (.int (n : Int)) (.int (-1)) = false := by
      show ((n : Int) == -1) = false
      rw [beq_eq_false_iff_ne]
      omega
    have h' : (eqV (.int (n : Int)) (.int (-1)) || inV (.int (-1)) (vI (encT l))) = true := h
    rw [e0, Bool.false_or] at h'
    obtain ⟨h1, h2⟩ := gap_at h'
    rw [run_some]
    refine ⟨h1, fun m z hm hz => ?_⟩
    cases m with
    | zero =>
      have ez : V.int (n : Int) = z := Option.some.inj hz
      rw [← ez]
      exact e0
    | succ m => exact h2 m z (by omega) hz
theorem no_gap : ∀ {l : Text}, inV (.int (-1)) (vI (encT l)) = false → Kp135.run l = l.length
  | [], _ => rfl
  | none :: l, h => by cases h
  | some n :: l, h => by
    have h' : (eqV (.int (n : Int)) (.int (-1)) || inV (.int (-1)) (vI (encT l))) = false := h
    rw [Bool.or_eq_false_iff] at h'
    rw [run_some, no_gap h'.2, List.length_cons]
theorem count_some : ∀ l : Text, (l.filter fun x => x.isSome).length + (encT l).count (-1) = l.length
  | [] => rfl
  | none :: l => by
    have ih := count_some l
    rw [encT_cons_none, List.count_cons_self, List.filter_cons_of_neg (by decide), List.length_cons]
    omega
  | some n :: l => by
    have ih := count_some l
    rw [encT_cons_some, List.count_cons_of_ne (by omega), List.filter_cons_of_pos (by rfl), List.length_cons, List.length_cons]
    omega
theorem cut_back (ns : List Int) (k : Nat) (hk : 0 < k) : cutV (vI ns) (some (-(k : Int))) none = vI (ns.drop (ns.length - k)) := by
  unfold cutV vI
  have e : HT.sIx (ns.map V.int).length 0 (some (-(k : Int))) = ns.length - k := by
    show (if -(k : Int) < 0 then (-(k : Int) + (((ns.map V.int).length : Nat) : Int)).toNat else min (-(k : Int)).toNat (ns.map V.int).length) = _
    rw [if_pos (by omega), List.length_map]
    omega
  rw [e, HT.sIx_none, List.map_drop, List.take_of_length_le (by rw [List.length_drop]; omega)]
section
variable {P : Program} {w : World} {K : PySem.W.Frag} {mg : Str → Option Value} {base : Heap}
inductive AtKnownGap (C : Addr) (vs : List V) (H : Hp) (Q : VK) : Prop
  | mk (a lb lk lf : Addr) (b : Int) (be fo : List Int) (known : Text) (h0_ : vs = [.ref a]) (h1_ : StrP C H a b lb lk lf be (encT known) fo) (h2_ : known.length = 4096) (h3_ : Q (.int ((Kp135.run known : Nat) : Int)) H) : AtKnownGap C vs H Q
noncomputable def spKnownGap (C : Addr) : Sp := fun vs H Q _ => AtKnownGap C vs H Q
theorem scKnownGap : FnScope ["self"] ["self"] (defScope sKnownGap) := ⟨rfl, rfl, rfl, by decide +kernel, rfl, by decide +kernel, by decide +kernel⟩
theorem ok_knownGap {f C : Addr} {fd : FuncData} (F : Fun K "known_without_gap" "Stream.known_without_gap" sKnownGap f fd) (T : Txt mg) (S : SCls K C) : FnOk P w K mg base CX0 1 f fd ["self"] (spKnownGap C) := by
  refine F.ok scKnownGap (fun vs H Q E h => ?_) (fun cdv A outer s H vs Q E hr h => ?_)
  · obtain ⟨a, lb, lk, lf, b, be, fo, known, rfl, _⟩ := h
    rfl
  · obtain ⟨a, lb, lk, lf, b, be, fo, known, rfl, X, hkn, k⟩ := h
    obtain ⟨dx, ha⟩ := X.ex
    refine ⟨_, pss_one (ps_ret (pe_ifExp (pt_cmpR op_in_seq (pe_num T.unknown rfl) (pe_fld (pv 0) rfl) (by with_unfolding_all rfl))
      (pe_bm PySem.F.plainAttrs_list PySem.F.slot_list_index PySem.F.type_list_index mt_index (pe_fld (pv 0) rfl) (pa_cons (pe_num T.unknown rfl) pa_nil)) (pe_num T.places rfl))), ?_⟩
    dsimp only [cxOf, Cx.nox, Cx.wish]
    refine rFld rfl ha S.cl S.nK sf_known ⟨lk, _, rfl, .inl (SqL.of X.hk), rfl, flat_vI _, _, rfl, ?_⟩
    refine ite2 (fun hg => ?_) (fun hg => ?_)
    · obtain ⟨h1, h2⟩ := gap_at (l := known) hg
      exact rFld rfl ha S.cl S.nK sf_known ⟨.inl ⟨rfl, _, SqL.of X.hk⟩, lk, _, _, Kp135.run known, _, rfl, rfl, SqL.of X.hk, rfl, flat_vI _, h1, rfl, h2, k⟩
    · have hg' : inV (.int (-1)) (vI (encT known)) = false := by
        rw [Bool.not_eq_true] at hg
        exact hg
      rw [no_gap hg', hkn] at k
      exact k
inductive AtKnownAll (C : Addr) (vs : List V) (H : Hp) (Q : VK) : Prop
  | mk (a lb lk lf : Addr) (b : Int) (be fo : List Int) (known : Text) (h0_ : vs = [.ref a]) (h1_ : StrP C H a b lb lk lf be (encT known) fo) (h2_ : known.length = 4096) (h3_ : Q (.int (((known.filter fun x => x.isSome).length : Nat) : Int)) H) : AtKnownAll C vs H Q
noncomputable def spKnownAll (C : Addr) : Sp := fun vs H Q _ => AtKnownAll C vs H Q
theorem scKnownAll : FnScope ["self"] ["self"] (defScope sKnownAll) := ⟨rfl, rfl, rfl, by decide +kernel, rfl, by decide +kernel, by decide +kernel⟩
theorem ok_knownAll {f C : Addr} {fd : FuncData} (F : Fun K "known_in_all" "Stream.known_in_all" sKnownAll f fd) (T : Txt mg) (S : SCls K C) : FnOk P w K mg base CX0 1 f fd ["self"] (spKnownAll C) := by
  refine F.ok scKnownAll (fun vs H Q E h => ?_) (fun cdv A outer s H vs Q E hr h => ?_)
  · obtain ⟨a, lb, lk, lf, b, be, fo, known, rfl, _⟩ := h
    rfl
  · obtain ⟨a, lb, lk, lf, b, be, fo, known, rfl, X, hkn, k⟩ := h
    obtain ⟨dx, ha⟩ := X.ex
    have e := count_some known
    refine ⟨_, pss_one (ps_ret (pe_op op_sub (pe_num T.places rfl) (pe_bm PySem.F.plainAttrs_list PySem.F.slot_list_count PySem.F.type_list_count mt_countI (pe_fld (pv 0) rfl) (pa_cons (pe_num T.unknown rfl) pa_nil)))), ?_⟩
    dsimp only [cxOf, Cx.nox, Cx.wish]
    rw [hkn] at e
    have e2 : (4096 : Int) - (((encT known).count (-1) : Nat) : Int) = (((known.filter fun x => x.isSome).length : Nat) : Int) := by omega
    rw [← e2] at k
    exact rFld rfl ha S.cl S.nK sf_known ⟨.inl ⟨rfl, _, SqL.of X.hk⟩, lk, _, _, rfl, rfl, SqL.of X.hk, mkI k⟩
inductive AtMoveBase (C : Addr) (vs : List V) (H : Hp) (Q : VK) : Prop
  | mk (a lb lk lf : Addr) (b : Int) (be kn fo : List Int) (n : Nat) (h0_ : vs = [.ref a, .int (n : Int)]) (h1_ : StrP C H a b lb lk lf be kn fo) (h2_ : be.length ≤ 4096) (h3_ : kn.length ≤ 4096) (h4_ : n ≤ 4096) (h5_ : ∀ (H' : Hp) (lb' lk' : Addr), (∀ c o, H c = some o → c ≠ a → H' c = some o) → H lb' = none → H lk' = none → StrP C H' a ((b + (n : Int)) % 4294967296) lb' lk' lf ((be ++ kn.take n).drop ((be ++ kn.take n).length - 15)) (kn.drop n ++ List.replicate n (-1)) fo → Q .non H') : AtMoveBase C vs H Q
noncomputable def spMoveBase (C : Addr) : Sp := fun vs H Q _ => AtMoveBase C vs H Q
theorem scMoveBase : FnScope ["self", "steps"] ["self", "steps"] (defScope sMoveBase) := ⟨rfl, rfl, rfl, by decide +kernel, rfl, by decide +kernel, by decide +kernel⟩
theorem ok_moveBase {f C : Addr} {fd : FuncData} (F : Fun K "move_base" "Stream.move_base" sMoveBase f fd) (T : Txt mg) (S : SCls K C) : FnOk P w K mg base CX0 1 f fd ["self", "steps"] (spMoveBase C) := by
  refine F.ok scMoveBase (fun vs H Q E h => ?_) (fun cdv A outer s H vs Q E hr h => ?_)
  · obtain ⟨a, lb, lk, lf, b, be, kn, fo, n, rfl, _⟩ := h
    rfl
  · obtain ⟨a, lb, lk, lf, b, be, kn, fo, n, rfl, X, hbe, hkn, hn, k⟩ := h
    obtain ⟨dx, ha⟩ := X.ex
    refine ⟨_, pss_cons (ps_fld (pv 0) (pe_slice sl_list (pe_op op_cat (pe_fld (pv 0) rfl) (pe_slice sl_list (pe_fld (pv 0) rfl) po_none (po_some (pv 1)))) (po_some (pe_un un_neg (pe_num T.reach rfl))) po_none) rfl)
      (pss_cons (ps_fld (pv 0) (pe_op op_cat (pe_slice sl_list (pe_fld (pv 0) rfl) (po_some (pv 1)) po_none) (pe_op op_rep (pe_lst (pa_cons (pe_num T.unknown rfl) pa_nil)) (pv 1))) rfl)
      (pss_one (ps_fld (pv 0) (pe_op op_mod (pe_op op_add (pe_fld (pv 0) rfl) (pv 1)) (pe_num T.round rfl)) rfl))), ?_⟩
    dsimp only [cxOf, Cx.nox, Cx.wish]
    have fr : ∀ {H2 : Hp}, (∀ c o, H c = some o → c ≠ a → H2 c = some o) → ∀ {q : Addr}, q ≠ a → H2 q = none → H q = none := fun {H2} k2 {q} hq e => by
      cases z : H q with
      | none => rfl
      | some o =>
        rw [k2 q o z hq] at e
        cases e
    have tl : (kn.take n).length ≤ 4096 := by rw [List.length_take]; omega
    refine seqI fun U1 g1 => ?_
    refine rFld rfl ha S.cl S.nBe sf_before (rFld rfl ha S.cl S.nK sf_known ⟨_, rfl, _, rfl, lk, _, rfl, SqL.of X.hk, fun p1 n1 => ?_⟩)
    rw [cut_o_n]
    have s1 : Same H (upd H p1 (.lst (vI (kn.take n)))) := same_upd n1
    refine mkCat (s1 _ _ X.hb) upd_same ⟨?_, fun p2 n2 => ?_⟩
    · rw [List.length_map, List.length_map]
      exact Nat.le_trans (Nat.add_le_add hbe tl) (by decide)
    have e2 : vI be ++ vI (kn.take n) = vI (be ++ kn.take n) := by unfold vI; rw [List.map_append]
    rw [e2]
    generalize hT : be ++ kn.take n = T1 at k
    have s2 := s1.trans (same_upd (o := .lst (vI T1)) n2)
    refine ⟨_, rfl, _, rfl, p2, _, rfl, SqL.of upd_same, fun p3 n3 => ?_⟩
    have c3 := cut_back T1 15 (by decide)
    rw [show (-((15 : Nat) : Int)) = -15 from rfl] at c3
    rw [c3]
    have s3 := s2.trans (same_upd (o := .lst (vI (T1.drop (T1.length - 15)))) n3)
    refine rPut rfl (s3 _ _ ha) S.cl S.nBe (by show 4 < 1000; decide) ?_
    have hp3 : (upd (upd (upd H p1 (.lst (vI (kn.take n)))) p2 (.lst (vI T1))) p3 (.lst (vI (T1.drop (T1.length - 15))))) p3 = some (.lst (vI (T1.drop (T1.length - 15)))) := upd_same
    have f3 : H p3 = none := s2.free n3
    generalize (upd (upd (upd H p1 (.lst (vI (kn.take n)))) p2 (.lst (vI T1))) p3 (.lst (vI (T1.drop (T1.length - 15))))) = H3 at s3 hp3
    have a3 : p3 ≠ a := ne_of hp3 (s3 _ _ ha) (by intro z; cases z)
    generalize hH4 : upd H3 a _ = H4
    have k4 : ∀ c o, H3 c = some o → c ≠ a → H4 c = some o := fun c o e hc => by rw [← hH4, upd_ne hc]; exact e
    have ha4 : H4 a = some (.ins C dx (streamF b p3 lk lf)) := by rw [← hH4, upd_same]; rfl
    have na : ∀ {c : Addr} {xs : List V}, H c = some (.lst xs) → c ≠ a := fun e => ne_of e ha (by intro z; cases z)
    have hk4 := k4 _ _ (s3 _ _ X.hk) (na X.hk)
    have hf4 := k4 _ _ (s3 _ _ X.hf) (na X.hf)
    have hp4 := k4 _ _ hp3 a3
    have g4 : ∀ c o, H c = some o → c ≠ a → H4 c = some o := fun c o e hc => k4 _ _ (s3 _ _ e) hc
    refine g1 _ _ (seqI fun U2 g2 => ?_)
    refine rFld rfl ha4 S.cl S.nK sf_known ⟨_, rfl, _, rfl, lk, _, rfl, SqL.of hk4, fun p5 n5 => ?_⟩
    rw [cut_n_]
    have s5 : Same H4 (upd H4 p5 (.lst (vI (kn.drop n)))) := same_upd n5
    refine ⟨(by show 1 ≤ sizeLine; decide), fun p6 n6 => ⟨_, rfl, p6, _, _, rfl, rfl, upd_same, by omega, by omega, ?_, fun p7 n7 => ?_⟩⟩
    · rw [Int.toNat_natCast]
      exact Nat.le_trans (Nat.mul_le_mul_left 1 hn) (by decide)
    rw [Int.toNat_natCast, rep_one]
    have e7 : List.replicate n (V.int (-1)) = vI (List.replicate n (-1)) := by unfold vI; rw [List.map_replicate]
    rw [e7]
    have s6 := same_upd (o := .lst [V.int (-1)]) n6
    have s7 := same_upd (o := .lst (vI (List.replicate n (-1)))) n7
    refine mkCat (s7 _ _ (s6 _ _ upd_same)) upd_same ⟨?_, fun p8 n8 => ?_⟩
    · rw [List.length_map, List.length_map, List.length_drop, List.length_replicate]
      exact Nat.le_trans (show kn.length - n + n ≤ 8192 by omega) (by decide)
    have s8 := same_upd (o := .lst (vI (kn.drop n) ++ vI (List.replicate n (-1)))) n8
    have s48 := ((s5.trans s6).trans s7).trans s8
    have f8 : H4 p8 = none := ((s5.trans s6).trans s7).free n8
    have hp8 : (upd (upd (upd (upd H4 p5 (.lst (vI (kn.drop n)))) p6 (.lst [V.int (-1)])) p7 (.lst (vI (List.replicate n (-1))))) p8 (.lst (vI (kn.drop n) ++ vI (List.replicate n (-1))))) p8 = some (.lst (vI (kn.drop n ++ List.replicate n (-1)))) := by
      rw [upd_same]
      unfold vI
      rw [List.map_append]
    generalize (upd (upd (upd (upd H4 p5 (.lst (vI (kn.drop n)))) p6 (.lst [V.int (-1)])) p7 (.lst (vI (List.replicate n (-1))))) p8 (.lst (vI (kn.drop n) ++ vI (List.replicate n (-1))))) = H8 at s48 hp8
    have a8 : p8 ≠ a := (ne_of_none ha4 f8).symm
    refine rPut rfl (s48 _ _ ha4) S.cl S.nK (by show 4 < 1000; decide) ?_
    generalize hH9 : upd H8 a _ = H9
    have k9 : ∀ c o, H8 c = some o → c ≠ a → H9 c = some o := fun c o e hc => by rw [← hH9, upd_ne hc]; exact e
    have ha9 : H9 a = some (.ins C dx (streamF b p3 p8 lf)) := by rw [← hH9, upd_same]; rfl
    refine g2 _ _ ?_
    refine rFld rfl ha9 S.cl S.nB sf_base ⟨_, rfl, mkI (mkI ⟨(by show (0 : Int) < 4294967296; decide), rPut rfl ha9 S.cl S.nB (by show 4 < 1000; decide) ?_⟩)⟩
    have k10 : ∀ c o, H4 c = some o → c ≠ a → upd H9 a (.ins C dx (putF "base" (V.int ((b + (n : Int)) % 4294967296)) (streamF b p3 p8 lf))) c = some o := fun c o e hc => by
      rw [upd_ne hc]
      exact k9 _ _ (s48 _ _ e) hc
    refine k _ p3 p8 (fun c o e hc => k10 c o (g4 c o e hc) hc) f3 (fr g4 a8 f8) ⟨⟨dx, ?_⟩, k10 _ _ hp4 a3, ?_, k10 _ _ hf4 (na X.hf)⟩
    · rw [upd_same]
      rfl
    · rw [upd_ne a8]
      exact k9 _ _ hp8 a8
end
theorem base_mod (b n : Nat) : ((b : Int) + (n : Int)) % 4294967296 = (((b + n) % 4294967296 : Nat) : Int) := by omega
theorem moved_stream {s : Kp135.Stream} {n : Nat} (hn : n ≤ 4096) (h : ∀ x ∈ s.known.take n, x.isSome = true) :
    (encN s.tail ++ (encT s.known).take n).drop ((encN s.tail ++ (encT s.known).take n).length - 15) = encN (received s n).tail ∧ (encT s.known).drop n ++ List.replicate n (-1) = encT (received s n).known := by
  have e1 : (encT s.known).take n = encN ((s.known.take n).map fun x => x.getD 0) := by
    rw [← known_vals h]
    unfold encT
    rw [List.map_take]
  constructor
  · rw [e1]
    show _ = encN ((s.tail ++ (s.known.take n).map fun x => x.getD 0).drop ((s.tail ++ (s.known.take n).map fun x => x.getD 0).length - 15))
    generalize (s.known.take n).map (fun x => x.getD 0) = m
    unfold encN
    rw [← List.map_append, List.map_drop, List.length_map]
  · show _ = encT (s.known.drop n ++ List.replicate (min n WINDOW) none)
    rw [show min n WINDOW = n from Nat.min_eq_left hn]
    unfold encT
    rw [List.map_append, List.map_drop, List.map_replicate]
    rfl
end WL
end
section
set_option Elab.async false
set_option linter.all false
set_option maxRecDepth 100000
set_option maxHeartbeats 2000000
namespace WL
open PySem PySem.Spec PyProof.Rows L2
open Kp134 (Word Rules Text)
open Kp135 (ROUND WINDOW off here beyond clash fill with_ received Abs)
noncomputable abbrev sLineInit : Stmt := inClass (top 32) 0
noncomputable abbrev sStart : Stmt := inClass (top 32) 1
noncomputable abbrev sOpen : Stmt := inClass (top 32) 2
noncomputable abbrev sPiece : Stmt := inClass (top 32) 3
noncomputable abbrev sAck : Stmt := inClass (top 32) 4
noncomputable abbrev sClose : Stmt := inClass (top 32) 5
noncomputable abbrev sState : Stmt := inClass (top 32) 6
noncomputable abbrev sStreamOf : Stmt := inClass (top 32) 7
noncomputable abbrev sTakeIn : Stmt := inClass (top 32) 8
structure TxtL (mg : Str → Option Value) : Prop where
  mostStreams : Num mg "MOST_STREAMS" 64
  longestPiece : Num mg "LONGEST_PIECE" 1500
  done : Num mg "DONE" 0
  keptBack : Num mg "KEPT_BACK" 1
  noSuch : Num mg "NO_SUCH_STREAM" (-2)
  knownAlready : Num mg "KNOWN_ALREADY" (-17)
  notAsTold : Num mg "NOT_AS_TOLD" (-22)
  noRoom : Num mg "NO_ROOM" (-28)
  tooFar : Num mg "TOO_FAR" (-34)
theorem ins_apart {C C' dx dx' : Addr} {fs fs' : List (Str × V)} (h : fs.map (·.1) ≠ fs'.map (·.1)) : HO.ins C dx fs ≠ HO.ins C' dx' fs' := fun e => by
  injection e with _ _ e3
  exact h (by rw [e3])
section
variable {P : Program} {w : World} {K : PySem.W.Frag} {mg : Str → Option Value} {base : Heap} {C : Cs}
inductive AtLineInit (C : Cs) (vs : List V) (H : Hp) (Q : VK) : Prop
  | mk (p dx : Addr) (h0_ : vs = [.ref p]) (h1_ : H p = some (.ins C.l dx [])) (h2_ : ∀ H' : Hp, (∀ b o, H b = some o → b ≠ p → H' b = some o) → LineAt (fun b => b = p ∨ H b = none) C H' p Kp135Neutral.dummy → Q .non H') : AtLineInit C vs H Q
noncomputable def spLineInit (C : Cs) : Sp := fun vs H Q _ => AtLineInit C vs H Q
theorem scLineInit : FnScope ["self"] ["self"] (defScope sLineInit) := ⟨rfl, rfl, rfl, by decide +kernel, rfl, by decide +kernel, by decide +kernel⟩
theorem ok_lineInit {f : Addr} {fd : FuncData} (F : Fun K "__init__" "Line.__init__" sLineInit f fd) (LC : LCls K C.l) : FnOk P w K mg base CX0 1 f fd ["self"] (spLineInit C) := by
  refine F.ok scLineInit (fun vs H Q E h => ?_) (fun cdv A outer s H vs Q E hr h => ?_)
  · obtain ⟨p, dx, rfl, _⟩ := h
    rfl
  · obtain ⟨p, dx, rfl, hp, k⟩ := h
    refine ⟨_, pss_cons (ps_fld (pv 0) pe_int rfl) (pss_cons (ps_fld (pv 0) (pe_lst pa_nil) rfl) (pss_one (ps_fld (pv 0) pe_dnewT rfl))), ?_⟩
    dsimp only [cxOf, Cx.nox, Cx.wish]
    refine rPut rfl hp LC.cl LC.nL (by show 0 < 1000; decide) ?_
    generalize hH1 : upd H p _ = H1
    have k1 : ∀ b o, H b = some o → b ≠ p → H1 b = some o := fun b o e hb => by rw [← hH1, upd_ne hb]; exact e
    have hp1 : H1 p = some (.ins C.l dx [("limit", V.int 0)]) := by rw [← hH1]; exact upd_same
    have fr : ∀ {q : Addr}, q ≠ p → H1 q = none → H q = none := fun {q} hq e => by rw [← hH1, upd_ne hq] at e; exact e
    refine ⟨Nat.zero_le _, fun lw nw => ?_⟩
    have pw : lw ≠ p := (ne_of_none hp1 nw).symm
    refine rPut rfl ((upd_ne pw.symm).trans hp1) LC.cl LC.nW (by show 1 < 1000; decide) ?_
    generalize hH2 : upd (upd H1 lw _) p _ = H2
    have k2 : ∀ b o, H1 b = some o → b ≠ p → H2 b = some o := fun b o e hb => by rw [← hH2, upd_ne hb, upd_ne (ne_of_none e nw)]; exact e
    have hp2 : H2 p = some (.ins C.l dx [("limit", V.int 0), ("words", V.ref lw)]) := by rw [← hH2, upd_same]; rfl
    have hw2 : H2 lw = some (.lst []) := by rw [← hH2, upd_ne pw, upd_same]
    intro ld nd
    have pd : ld ≠ p := (ne_of_none hp2 nd).symm
    have wd : lw ≠ ld := ne_of_none hw2 nd
    have nd1 : H1 ld = none := by rw [← hH2, upd_ne pd, upd_ne wd.symm] at nd; exact nd
    refine rPut rfl ((upd_ne pd.symm).trans hp2) LC.cl LC.nS (by show 2 < 1000; decide) ?_
    refine k _ (fun b o e hb => ?_) ⟨lw, ld, [], .inl rfl, .inr (fr pd nd1), ⟨dx, upd_same⟩, ⟨[], .inr (fr pw nw), ?_, rfl, fun i a v h => by simp at h⟩, ?_, rfl, List.nodup_nil, fun i s b h => by cases h⟩
    · rw [upd_ne hb, upd_ne (ne_of_none (k2 _ _ (k1 _ _ e hb) hb) nd)]
      exact k2 _ _ (k1 _ _ e hb) hb
    · rw [upd_ne pw, upd_ne wd]
      exact hw2
    · rw [upd_ne pd, upd_same]
      rfl
inductive AtStart (K : PySem.W.Frag) (C : Cs) (vs : List V) (H : Hp) (Q : VK) : Prop
  | mk (L l : Addr) (lim : Nat) (ns : List Int) (a : Abs) (D : Addr → Prop) (h0_ : vs = [.ref L, .int (lim : Int), .ref l]) (h1_ : LineAt D C H L a) (h2_ : AOk a) (h3_ : SqL K H l (vI ns)) (h4_ : ns.length ≤ 100000) (h5_ : ns.length % 20 = 0) (h6_ : Bytes ns) (h7_ : Says C D H L a (.start (Kp135Neutral.rules ns) lim [] 0) Q) : AtStart K C vs H Q
noncomputable def spStart (K : PySem.W.Frag) (C : Cs) : Sp := fun vs H Q _ => AtStart K C vs H Q
theorem scStart : FnScope ["self", "limit", "rules"] ["self", "limit", "rules"] (defScope sStart) := ⟨rfl, rfl, rfl, by decide +kernel, rfl, by decide +kernel, by decide +kernel⟩
theorem start_ok {ns : List Int} {lim : Nat} (h20 : ns.length % 20 = 0) (g : Kp134.good (Kp135Neutral.rules ns) = true) : (Kp135Neutral.rules ns).words = wordsOf ns ∧ AOk (Kp135.start (Kp135Neutral.rules ns) lim) := by
  have g' := g
  rw [good_eq h20] at g'
  simp only [Bool.and_eq_true, decide_eq_true_eq] at g'
  have e := rules_words h20 g'.1.2
  refine ⟨e, fun v hv => ?_, ?_, Nat.zero_le _, List.nodup_nil, fun s h => nomatch h⟩
  · have hv' : v ∈ (Kp135Neutral.rules ns).words := hv
    rw [e] at hv'
    exact wordsOf_ok g'.2 v hv'
  · show (Kp135Neutral.rules ns).words.length ≤ 64
    rw [e]
    unfold wordsOf
    rw [List.length_map, rowsOf_length]
    exact g'.1.2
theorem ok_start {f : Addr} {fd : FuncData} (F : Fun K "fl_start" "Line.fl_start" sStart f fd) (TL : TxtL mg) (LC : LCls K C.l) (C1 : Callee P w K mg base 2 "rules_are_as_told" ["rules"] (spRulesOk K)) (C2 : Callee P w K mg base 4 "words_of" ["rules"] (spWordsOf K C.w)) :
    FnOk P w K mg base CX0 5 f fd ["self", "limit", "rules"] (spStart K C) := by
  refine F.ok scStart (fun vs H Q E h => ?_) (fun cdv A outer s H vs Q E hr h => ?_)
  · obtain ⟨L, l, lim, ns, a, D, rfl, _⟩ := h
    rfl
  · obtain ⟨L, l, lim, ns, a, D, rfl, hA, hok, hS, hlen, h20, hby, k⟩ := h
    refine ⟨_, pss_cons (ps_if (pt_not (pt_val (pe_callee C1 (hr.mono (by decide)) rfl (pa_cons (pv 2) pa_nil)))) (pss_one (ps_ret (pe_num TL.notAsTold rfl))) pss_nil)
      (pss_cons (ps_fld (pv 0) (pv 1) rfl) (pss_cons (ps_fld (pv 0) (pe_callee C2 hr rfl (pa_cons (pv 2) pa_nil)) rfl) (pss_cons (ps_fld (pv 0) pe_dnewT rfl) (pss_one (ps_ret (pe_num TL.done rfl)))))), ?_⟩
    dsimp only [cxOf, Cx.nox, Cx.wish]
    refine ⟨_, rfl, AtRulesOk.mk l ns rfl hS hlen h20 fun H1 s1 => ⟨_, rfl, ?_⟩⟩
    rw [rulesOk_eq h20 hby]
    cases g : Kp134.good (Kp135Neutral.rules ns) with
    | false =>
      have e : Kp135.act a default (.start (Kp135Neutral.rules ns) lim [] 0) = (a, default, .num (-22)) := if_pos g
      refine iteT ?_
      have k' := k D H1 (-22) (Fram.same s1)
      rw [e] at k'
      exact k' (hA.same s1) hok rfl
    | true =>
      have e : Kp135.act a default (.start (Kp135Neutral.rules ns) lim [] 0) = (Kp135.start (Kp135Neutral.rules ns) lim, default, .num 0) := if_neg (by rw [g]; decide)
      obtain ⟨ew, aok⟩ := start_ok (lim := lim) h20 g
      refine iteF ?_
      refine hA.elim fun lw ld as dx p hL => ?_
      have hL1 := s1 _ _ hL
      refine ⟨_, rfl, rPut rfl hL1 LC.cl LC.nL (by show 3 < 1000; decide) ?_⟩
      generalize hH2 : upd H1 L _ = H2
      have hL2 : H2 L = some (.ins C.l dx (lineF lim lw ld)) := by rw [← hH2, upd_same]; rfl
      have k2 : ∀ b o, H b = some o → b ≠ L → H2 b = some o := fun b o e hb => by rw [← hH2, upd_ne hb]; exact s1 _ _ e
      have hS2 : SqL K H2 l (vI ns) := by
        rcases hS with (h | ⟨o, h⟩) | h
        · exact .inl (.inl (k2 _ _ h (ne_of h hL (by intro z; cases z))))
        · exact .inl (.inr ⟨o, k2 _ _ h (ne_of h hL (by intro z; cases z))⟩)
        · exact .inr h
      refine ⟨_, rfl, AtWordsOf.mk l ns rfl hS2 hlen h20 hby fun H3 lw3 s3 hW3 => ?_⟩
      have hL3 := s3 _ _ hL2
      refine rPut rfl hL3 LC.cl LC.nW (by show 3 < 1000; decide) ?_
      generalize hH4 : upd H3 L _ = H4
      have hL4 : H4 L = some (.ins C.l dx (lineF lim lw3 ld)) := by rw [← hH4, upd_same]; rfl
      have k4 : ∀ b o, H3 b = some o → b ≠ L → H4 b = some o := fun b o e hb => by rw [← hH4, upd_ne hb]; exact e
      intro ld5 nd5
      have hLd : L ≠ ld5 := ne_of_none hL4 nd5
      refine rPut rfl ((upd_ne hLd).trans hL4) LC.cl LC.nS (by show 3 < 1000; decide) ?_
      have fr2 : ∀ b, H2 b = none → b ≠ L ∧ H b = none := fun b e => by
        have hb : b ≠ L := (ne_of_none hL2 e).symm
        refine ⟨hb, ?_⟩
        cases z : H b with
        | none => rfl
        | some o => rw [k2 b o z hb] at e; cases e
      have nd3 : H3 ld5 = none := by rw [← hH4, upd_ne hLd.symm] at nd5; exact nd5
      have nd2 := fr2 _ (s3.free nd3)
      have up5 : ∀ b o, H3 b = some o → b ≠ L → upd (upd H4 ld5 (.dT [])) L (.ins C.l dx (lineF lim lw3 ld5)) b = some o := fun b o e hb => by
        rw [upd_ne hb, upd_ne (ne_of_none e nd3)]
        exact k4 _ _ e hb
      have k' := k (fun b => b = L ∨ H b = none) (upd (upd H4 ld5 (.dT [])) L (.ins C.l dx (lineF lim lw3 ld5))) 0 ⟨fun b d => d.elim (fun q => .inl (by rw [q]; exact p.dL)) .inr, fun b o e nb => up5 _ _ (s3 _ _ (k2 _ _ e fun q => nb (by rw [q]; exact p.dL))) fun q => nb (by rw [q]; exact p.dL)⟩
      rw [e] at k'
      refine k' ⟨lw3, ld5, [], .inl rfl, .inr nd2.2, ⟨dx, upd_same⟩, ?_, ?_, rfl, List.nodup_nil, fun i s b h => by cases h⟩ aok rfl
      · show WordsAt _ C.w _ lw3 (Kp135Neutral.rules ns).words
        rw [ew]
        exact hW3.keep (fun b d => .inr (fr2 b d).2) fun b o d e => up5 _ _ e (fr2 b d).1
      · rw [upd_ne hLd.symm, upd_same]
        rfl
end
end WL
end
section
set_option Elab.async false
set_option linter.all false
set_option maxRecDepth 100000
set_option maxHeartbeats 2000000
namespace WL
open PySem PySem.Spec PyProof.Rows L2
open Kp134 (Word Rules Text)
open Kp135 (ROUND WINDOW off here beyond clash fill with_ received Abs)
theorem new_known : encT (List.replicate WINDOW none) = List.replicate 4096 (-1) := by
  unfold encT WINDOW
  rw [List.map_replicate]
  rfl
theorem new_found (ws : List Word) : encN (ws.map fun _ => 0) = List.replicate ws.length 0 := by
  unfold encN
  rw [List.map_map]
  induction ws with
  | nil => rfl
  | cons v ws ih => rw [List.map_cons, ih, List.length_cons, List.replicate_succ]; rfl
theorem new_ok {r : Rules} {name : List Nat} {first : Nat} (hf : first < ROUND) (hn : name.length = 16) : SOk r.words (Kp135.new_ r name first) :=
  ⟨hf, Nat.zero_le _, List.length_replicate .., by show _ = (r.words.map fun _ => 0).length; rw [List.length_map], hn⟩
section
variable {P : Program} {w : World} {K : PySem.W.Frag} {mg : Str → Option Value} {base : Heap} {C : Cs}
inductive AtOpen (K : PySem.W.Frag) (C : Cs) (vs : List V) (H : Hp) (Q : VK) : Prop
  | mk (L l : Addr) (first : Nat) (name : List Nat) (a : Abs) (D : Addr → Prop) (h0_ : vs = [.ref L, .int (first : Int), .ref l]) (h1_ : LineAt D C H L a) (h2_ : AOk a) (h3_ : SqL K H l (vI (encN name))) (h4_ : name.length = 16) (h5_ : first < ROUND) (h6_ : Says C D H L a (.open_ name first) Q) : AtOpen K C vs H Q
noncomputable def spOpen (K : PySem.W.Frag) (C : Cs) : Sp := fun vs H Q _ => AtOpen K C vs H Q
theorem scOpen : FnScope ["self", "first", "name"] ["self", "first", "name"] (defScope sOpen) := ⟨rfl, rfl, rfl, by decide +kernel, rfl, by decide +kernel, by decide +kernel⟩
theorem ok_open {f : Addr} {fd : FuncData} (F : Fun K "fl_open" "Line.fl_open" sOpen f fd) (T : Txt mg) (TL : TxtL mg) (LC : LCls K C.l) (M : Maker P w K mg base 1 "Stream" C.s ["self", "base", "word_count"] (spStrInit C.s)) :
    FnOk P w K mg base CX0 3 f fd ["self", "first", "name"] (spOpen K C) := by
  refine F.ok scOpen (fun vs H Q E h => ?_) (fun cdv A outer s H vs Q E hr h => ?_)
  · obtain ⟨L, l, first, name, a, D, rfl, _⟩ := h
    rfl
  · obtain ⟨L, l, first, name, a, D, rfl, hA, hok, hS, hn16, hf, k⟩ := h
    have hu := hu_of hr
    refine hA.elim fun lw ld as dx p hL => ?_
    refine ⟨_, pss_cons (ps_if (pt_cmp (pc_din hu (pe_callTy call_tuple_of rfl T.tuple bTuple (pa_cons (pv 2) pa_nil)) (pe_fld (pv 0) rfl))) (pss_one (ps_ret (pe_num TL.knownAlready rfl))) pss_nil)
      (pss_cons (ps_if (pt_cmpR op_ge (pe_callB call_lenT rfl T.len PySem.boot_len (pa_cons (pe_fld (pv 0) rfl) pa_nil)) (pe_num TL.mostStreams rfl) (nomark _)) (pss_one (ps_ret (pe_num TL.noRoom rfl))) pss_nil)
      (pss_cons (ps_dput hu (pe_fld (pv 0) rfl) (pe_callTy call_tuple_of rfl T.tuple bTuple (pa_cons (pv 2) pa_nil)) (pe_maker M hr rfl (pa_cons (pv 1) (pa_cons (pe_callB call_len_seq rfl T.len PySem.boot_len (pa_cons (pe_fld (pv 0) rfl) pa_nil)) pa_nil))) rfl)
      (pss_one (ps_ret (pe_num TL.done rfl))))), ?_⟩
    dsimp only [cxOf, Cx.nox, Cx.wish]
    refine seqI fun U1 g1 => ?_
    refine ⟨_, rfl, l, _, rfl, .inl ⟨hS, fun t1 n1 => ?_⟩⟩
    have s1 : Same H (upd H t1 (.tup (vI (encN name)))) := same_upd n1
    have ht1 : (upd H t1 (.tup (vI (encN name)))) t1 = some (.tup ((keyOf name).map kV)) := by rw [upd_same, key_vals]
    refine rFld rfl (s1 _ _ hL) LC.cl LC.nS lf_streams ⟨ld, _, rfl, DGet.t (s1 _ _ p.hD) ht1, _, rfl, ?_⟩
    cases hfd : a.streams.find? (fun s => s.name == name) with
    | some s0 =>
      obtain ⟨i, b, _, _, _, hv⟩ := kvs_some p.len hfd
      rw [hv]
      refine iteT ?_
      have e : Kp135.act a default (.open_ name first) = (a, default, .num (-17)) := if_pos (by unfold Kp135.find; rw [hfd]; rfl)
      have k' := k D _ (-17) (Fram.same s1)
      rw [e] at k'
      exact k' (hA.same s1) hok rfl
    | none =>
      have hv := kvs_none (as := as) hfd
      rw [hv]
      refine iteF ?_
      have e0 : ¬ (Kp135.find a name).isSome = true := by unfold Kp135.find; rw [hfd]; decide
      refine g1 _ _ (seqI fun U2 g2 => ?_)
      refine rFld rfl (s1 _ _ hL) LC.cl LC.nS lf_streams ⟨ld, _, rfl, s1 _ _ p.hD, _, _, rfl, rfl, _, rfl, ?_⟩
      rw [kvs_length p.len]
      refine ite2 (fun h64 => ?_) (fun h64 => ?_)
      · have h64' : (64 : Int) ≤ ((a.streams.length : Nat) : Int) := of_decide_eq_true h64
        have e : Kp135.act a default (.open_ name first) = (a, default, .num (-28)) := by
          show (if (Kp135.find a name).isSome = true then _ else if Kp135.STREAMS ≤ a.streams.length then _ else _) = _
          rw [if_neg e0, if_pos (by unfold Kp135.STREAMS; omega)]
        have k' := k D _ (-28) (Fram.same s1)
        rw [e] at k'
        exact k' (hA.same s1) hok rfl
      · have h64' : ¬ (64 : Int) ≤ ((a.streams.length : Nat) : Int) := fun q => h64 (decide_eq_true q)
        have e : Kp135.act a default (.open_ name first) = ({ a with streams := a.streams ++ [Kp135.new_ a.rules name first] }, default, .num 0) := by
          show (if (Kp135.find a name).isSome = true then _ else if Kp135.STREAMS ≤ a.streams.length then _ else _) = _
          rw [if_neg e0, if_neg (by unfold Kp135.STREAMS; omega)]
        refine g2 _ _ (seqI fun U3 g3 => ?_)
        obtain ⟨was, dlw, hlw, hwl, _⟩ := p.hW.ex
        refine ⟨_, rfl, rFld rfl (s1 _ _ hL) LC.cl LC.nW lf_words ⟨lw, _, rfl, .inl (SqL.of (s1 _ _ hlw)), ?_⟩⟩
        rw [List.length_map, hwl]
        intro x dx2 nx ndx ne
        generalize hH1 : upd H t1 (.tup (vI (encN name))) = H1 at s1 nx ndx
        have sx : Same H1 (upd (upd H1 dx2 (.own x)) x (.ins C.s dx2 [])) := fun c o e => by
          rw [upd_ne (ne_of_none e nx), upd_ne (ne_of_none e ndx)]
          exact e
        refine AtStrInit.mk x dx2 (first : Int) a.rules.words.length rfl upd_same hok.wlen fun H2 lb lk lf k2 nb nk nf hP => ⟨rfl, ?_⟩
        have s2 : Same H1 H2 := fun c o e => k2 c o (sx _ _ e) (ne_of_none e nx)
        have s12 := s1.trans s2
        refine rFld rfl (s12 _ _ hL) LC.cl LC.nS lf_streams ⟨_, rfl, l, _, rfl, .inl ⟨s12.seq hS, fun t3 n3 => ?_⟩⟩
        have s3 : Same H2 (upd H2 t3 (.tup (vI (encN name)))) := same_upd n3
        have s13 := s12.trans s3
        have ht3 : (upd H2 t3 (.tup (vI (encN name)))) t3 = some (.tup ((keyOf name).map kV)) := by rw [upd_same, key_vals]
        refine ⟨ld, _, rfl, DPut.t (s13 _ _ p.hD) ht3 ?_, ?_⟩
        · rw [kvs_length p.len]
          exact Nat.lt_of_le_of_lt hok.few (by decide)
        rw [putK_new _ hv, ← show kvsOf (a.streams ++ [Kp135.new_ a.rules name first]) (as ++ [x]) = kvsOf a.streams as ++ [(keyOf name, V.ref x)] from kvs_snoc p.len]
        have fr1 : ∀ b, H1 b = none → H b = none := fun b e => s1.free e
        have frx : ∀ b, (upd (upd H1 dx2 (.own x)) x (.ins C.s dx2 [])) b = none → H b = none := fun b e => fr1 b (sx.free e)
        have nld : ∀ b, H b = none → b ≠ ld := fun b e => (ne_of_none p.hD e).symm
        generalize hH4 : upd (upd H2 t3 (.tup (vI (encN name)))) ld _ = H4
        have k4 : ∀ b o, H2 b = some o → b ≠ ld → H4 b = some o := fun b o e hb => by
          rw [← hH4, upd_ne hb]
          exact s3 _ _ e
        have hd4 : H4 ld = some (.dT (kvsOf (a.streams ++ [Kp135.new_ a.rules name first]) (as ++ [x]))) := by rw [← hH4]; exact upd_same
        have nL : L ≠ ld := ne_of hL p.hD (by intro z; cases z)
        have keep4 : ∀ b o, D b → H b = some o → b ≠ ld → H4 b = some o := fun b o _ e hb => k4 _ _ (s12 _ _ e) hb
        have kk : ∀ b o, H b = some o → ¬ D b → H4 b = some o := fun b o e nb => k4 _ _ (s12 _ _ e) fun q => nb (by rw [q]; exact p.dD)
        have k' := k (fun b => D b ∨ H b = none) H4 0 ⟨fun b d => d, kk⟩
        rw [e] at k'
        obtain ⟨dx5, hx5⟩ := hP.ex
        have wk : WordsAt (fun b => D b ∨ H b = none) C.w H4 lw a.rules.words := by
          obtain ⟨was, d1, h1, h2, h3⟩ := p.hW.ex
          refine ⟨was, .inl d1, k4 _ _ (s12 _ _ h1) (ne_of h1 p.hD (by intro z; cases z)), h2, fun i c v e1 e2 => ?_⟩
          obtain ⟨dxw, sp, d2, d3, g1, g2⟩ := (h3 i c v e1 e2).ex
          exact ⟨dxw, sp, .inl d2, .inl d3, k4 _ _ (s12 _ _ g1) (ne_of g1 p.hD (by intro z; cases z)), k4 _ _ (s12 _ _ g2) (ne_of g2 p.hD (by intro z; cases z))⟩
        have old : ∀ (i : Nat) (s : Kp135.Stream) (b : Addr), a.streams[i]? = some s → as[i]? = some b → StreamAt (fun b => D b ∨ H b = none) C.s H4 b s := fun i s b e1 e2 => by
          obtain ⟨lb', lk', lf', d1, d2, d3, d4, hq⟩ := (p.hS i s b e1 e2).ex
          obtain ⟨dxs, ha⟩ := hq.ex
          exact ⟨lb', lk', lf', .inl d1, .inl d2, .inl d3, .inl d4, ⟨dxs, k4 _ _ (s12 _ _ ha) (ne_of ha p.hD (by intro z; cases z))⟩, k4 _ _ (s12 _ _ hq.hb) (ne_of hq.hb p.hD (by intro z; cases z)), k4 _ _ (s12 _ _ hq.hk) (ne_of hq.hk p.hD (by intro z; cases z)), k4 _ _ (s12 _ _ hq.hf) (ne_of hq.hf p.hD (by intro z; cases z))⟩
        have nx' := fr1 x nx
        refine g3 _ _ ?_
        refine k' ⟨lw, ld, as ++ [x], .inl p.dL, .inl p.dD, ⟨dx, k4 _ _ (s12 _ _ hL) nL⟩, wk, hd4, ?_, ?_, fun i s b e1 e2 => ?_⟩ (hok.snoc hfd (by omega) (new_ok hf hn16)) rfl
        · show (as ++ [x]).length = (a.streams ++ [Kp135.new_ a.rules name first]).length
          rw [List.length_append, List.length_append, p.len]
          rfl
        · refine nd_snoc p.nd fun m => ?_
          obtain ⟨i, hi⟩ := List.mem_iff_getElem?.mp m
          obtain ⟨s0, hs0⟩ : ∃ s0, a.streams[i]? = some s0 := ⟨_, List.getElem?_eq_getElem (by rw [← p.len]; exact (List.getElem?_eq_some_iff.mp hi).1)⟩
          refine (p.hS i s0 x hs0 hi).elim fun _ _ _ _ _ _ _ _ hq ha => ?_
          rw [nx'] at ha
          cases ha
        · have e1' : (a.streams ++ [Kp135.new_ a.rules name first])[i]? = some s := e1
          by_cases hi : i < a.streams.length
          · rw [List.getElem?_append_left hi] at e1'
            rw [List.getElem?_append_left (by rw [p.len]; exact hi)] at e2
            exact old i s b e1' e2
          · have hi2 : i < a.streams.length + 1 := by
              have := (List.getElem?_eq_some_iff.mp e1').1
              rw [List.length_append] at this
              exact this
            have ei : i = a.streams.length := by omega
            subst ei
            rw [List.getElem?_append_right (Nat.le_refl _), Nat.sub_self] at e1'
            have es : Kp135.new_ a.rules name first = s := Option.some.inj e1'
            subst es
            rw [List.getElem?_append_right (by rw [p.len]; exact Nat.le_refl _), p.len, Nat.sub_self] at e2
            have eb : x = b := Option.some.inj e2
            subst eb
            refine ⟨lb, lk, lf, .inr nx', .inr (frx _ nb), .inr (frx _ nk), .inr (frx _ nf), ⟨dx5, k4 _ _ hx5 (nld _ nx')⟩, ?_, ?_, ?_⟩
            · exact k4 _ _ hP.hb (nld _ (frx _ nb))
            · show H4 lk = some (.lst (vI (encT (List.replicate WINDOW none))))
              rw [new_known]
              exact k4 _ _ hP.hk (nld _ (frx _ nk))
            · show H4 lf = some (.lst (vI (encN (a.rules.words.map fun _ => 0))))
              rw [new_found]
              exact k4 _ _ hP.hf (nld _ (frx _ nf))
end
end WL
end
section
set_option Elab.async false
set_option linter.all false
set_option maxRecDepth 100000
set_option maxHeartbeats 2000000
namespace WL
open PySem PySem.Spec PyProof.Rows L2
open Kp134 (Word Rules Text)
open Kp135 (ROUND WINDOW off here beyond clash fill with_ received Abs)
noncomputable def tookIn (ws : List Word) (s : Kp135.Stream) (st : Nat) (told : List Nat) : Kp135.Stream := { s with known := putIn s.known st told, found := foundWith ws s.found (s.tail.map some ++ s.known) (s.tail.map some ++ putIn s.known st told) }
noncomputable def otherN (s : Kp135.Stream) (st : Nat) (told : List Nat) : Bool := otherwise ((encT s.known).drop st |>.take told.length) (encN told)
theorem LineP.put {D : Addr → Prop} {C : Cs} {H H' : Hp} {L lw ld b : Addr} {a : Abs} {as : List Addr} {i : Nat} {s t : Kp135.Stream} (x : LineP D C H L a lw ld as) (hs : a.streams[i]? = some s) (hb : as[i]? = some b) (hn : t.name = s.name)
    (k : ∀ c o, H c = some o → c ≠ b → H' c = some o) (ht : StreamAt (fun c => D c ∨ H c = none) C.s H' b t) : LineAt (fun c => D c ∨ H c = none) C H' L { a with streams := a.streams.set i t } := by
  refine (x.hS i s b hs hb).elim fun lb lk lf db _ _ _ _ q hb0 => ?_
  obtain ⟨dx, hL⟩ := x.hL
  have nb : ∀ {c : Addr} {o : HO}, H c = some o → (∀ dx' b' l1 l2 l3, o ≠ .ins C.s dx' (streamF b' l1 l2 l3)) → c ≠ b := fun {c o} e h z => by
    rw [z, hb0] at e
    exact h _ _ _ _ _ (Option.some.inj e).symm
  refine ⟨lw, ld, as, .inl x.dL, .inl x.dD, ⟨dx, k _ _ hL (nb hL fun _ _ _ _ _ => ins_apart fun e => absurd (congrArg List.length e) (by show (3 : Nat) ≠ 4; decide))⟩, ?_, ?_, ?_, x.nd, fun j u c e1 e2 => ?_⟩
  · obtain ⟨was, d1, h1, h2, h3⟩ := x.hW.ex
    refine ⟨was, .inl d1, k _ _ h1 (nb h1 fun _ _ _ _ _ z => by cases z), h2, fun j c v e1 e2 => ?_⟩
    obtain ⟨dxw, sp, d2, d3, g1, g2⟩ := (h3 j c v e1 e2).ex
    exact ⟨dxw, sp, .inl d2, .inl d3, k _ _ g1 (nb g1 fun _ _ _ _ _ => ins_apart fun e => absurd (congrArg List.length e) (by show (3 : Nat) ≠ 4; decide)), k _ _ g2 (nb g2 fun _ _ _ _ _ z => by cases z)⟩
  · show H' ld = some (.dT (kvsOf (a.streams.set i t) as))
    rw [kvs_set hs hn]
    exact k _ _ x.hD (nb x.hD fun _ _ _ _ _ z => by cases z)
  · show as.length = (a.streams.set i t).length
    rw [List.length_set]
    exact x.len
  · have e1' : (a.streams.set i t)[j]? = some u := e1
    by_cases hj : i = j
    · subst hj
      rw [List.getElem?_set_self (List.getElem?_eq_some_iff.mp hs).1] at e1'
      have eu : t = u := Option.some.inj e1'
      subst eu
      have ec : b = c := Option.some.inj (hb.symm.trans e2)
      subst ec
      exact ht
    · rw [List.getElem?_set_ne hj] at e1'
      obtain ⟨lb', lk', lf', d1, d2, d3, d4, hq⟩ := (x.hS j u c e1' e2).ex
      obtain ⟨dxs, ha⟩ := hq.ex
      have ncb : c ≠ b := fun z => hj (nd_ix x.nd hb (by rw [← z]; exact e2))
      exact ⟨lb', lk', lf', .inl d1, .inl d2, .inl d3, .inl d4, ⟨dxs, k _ _ ha ncb⟩, k _ _ hq.hb (nb hq.hb fun _ _ _ _ _ z => by cases z), k _ _ hq.hk (nb hq.hk fun _ _ _ _ _ z => by cases z), k _ _ hq.hf (nb hq.hf fun _ _ _ _ _ z => by cases z)⟩
section
variable {P : Program} {w : World} {K : PySem.W.Frag} {mg : Str → Option Value} {base : Heap} {C : Cs}
inductive AtTakeIn (C : Cs) (vs : List V) (H : Hp) (Q : VK) : Prop
  | mk (L b lt lw ld : Addr) (st : Nat) (told : List Nat) (a : Abs) (D : Addr → Prop) (as : List Addr) (i : Nat) (s : Kp135.Stream) (h0_ : vs = [.ref L, .ref b, .int (st : Int), .ref lt]) (h1_ : LineP D C H L a lw ld as) (h2_ : AOk a) (h3_ : a.streams[i]? = some s) (h4_ : as[i]? = some b) (h5_ : H lt = some (.lst (vI (encN told)))) (h6_ : st + told.length ≤ 4096) (h7_ : (otherN s st told = false → Le s.known (putIn s.known st told))) (h8_ : (otherN s st told = true → ∀ H', Same H H' → Q (.int (-17)) H')) (h9_ : (otherN s st told = false → a.limit < weigh a.rules.words (tookIn a.rules.words s st told).found → ∀ H', Same H H' → Q (.int 1) H')) (h10_ : (otherN s st told = false → ¬ a.limit < weigh a.rules.words (tookIn a.rules.words s st told).found → ∀ H', (∀ c o, H c = some o → ¬ D c → H' c = some o) → LineAt (fun c => D c ∨ H c = none) C H' L { a with streams := a.streams.set i (tookIn a.rules.words s st told) } → Q (.int 0) H')) : AtTakeIn C vs H Q
noncomputable def spTakeIn (C : Cs) : Sp := fun vs H Q _ => AtTakeIn C vs H Q
theorem scTakeIn : FnScope ["self", "stream", "start", "told", "found"] ["self", "stream", "start", "told"] (defScope sTakeIn) := ⟨rfl, rfl, rfl, by decide +kernel, rfl, by decide +kernel, by decide +kernel⟩
theorem ok_takeIn {f : Addr} {fd : FuncData} (F : Fun K "take_in" "Line.take_in" sTakeIn f fd) (T : Txt mg) (TL : TxtL mg) (LC : LCls K C.l) (SC : SCls K C.s) (M1 : Method P w K mg base 1 C.s "told_otherwise" ["self", "start", "told"] (spToldOther C.s))
    (M2 : Method P w K mg base 3 C.s "found_with" ["self", "words", "start", "told"] (spFoundWith K C.w C.s)) (M3 : Method P w K mg base 1 C.s "known_with" ["self", "start", "told"] (spKnownWith C.s)) (C1 : Callee P w K mg base 1 "weight_of" ["words", "times"] (spWeightOf K C.w)) :
    FnOk P w K mg base CX0 4 f fd ["self", "stream", "start", "told"] (spTakeIn C) := by
  refine F.ok scTakeIn (fun vs H Q E h => ?_) (fun cdv A outer s H vs Q E hr h => ?_)
  · obtain ⟨L, b, lt, lw, ld, st, told, a, D, as, i, s, rfl, _⟩ := h
    rfl
  · obtain ⟨L, b, lt, lw, ld, st, told, a, D, as, i, s, rfl, p, hok, hs, hb, ht, hst, hle, k1, k2, k3⟩ := h
    have hr1 : Room 1 _ := hr.mono (by decide)
    have so := hok.ok s (List.mem_of_getElem? hs)
    refine (p.hS i s b hs hb).elim fun lb lk lf db d1 d2 d3 d4 hP hb0 => ?_
    obtain ⟨dx, hL⟩ := p.hL
    refine ⟨_, pss_cons (ps_if (pt_val (pe_method (pv 1) SC.cl M1 hr1 (pa_cons (pv 2) (pa_cons (pv 3) pa_nil)))) (pss_one (ps_ret (pe_num TL.knownAlready rfl))) pss_nil)
      (pss_cons (ps_set (i := 4) scTakeIn.nd rfl (Or.inl rfl) (pe_method (pv 1) SC.cl M2 hr (pa_cons (pe_fld (pv 0) rfl) (pa_cons (pv 2) (pa_cons (pv 3) pa_nil)))))
      (pss_cons (ps_if (pt_cmpR op_gt (pe_callee C1 hr1 rfl (pa_cons (pe_fld (pv 0) rfl) (pa_cons (pv 4) pa_nil))) (pe_fld (pv 0) rfl) (nomark _)) (pss_one (ps_ret (pe_num TL.keptBack rfl))) pss_nil)
      (pss_cons (ps_fld (pv 1) (pe_method (pv 1) SC.cl M3 hr1 (pa_cons (pv 2) (pa_cons (pv 3) pa_nil))) rfl)
      (pss_cons (ps_fld (pv 1) (pv 4) rfl) (pss_one (ps_ret (pe_num TL.done rfl))))))), ?_⟩
    dsimp only [cxOf, Cx.nox, Cx.wish]
    refine seqI fun U1 g1 => ?_
    refine rMeth rfl hb0 rfl ⟨_, rfl, _, rfl, AtToldOther.mk b lb lk lf lt _ _ _ _ (encN told) st rfl hP ht (by rw [encT_length, so.known]; exact Nat.le_refl _) (by rw [encN_length, encT_length, so.known]; exact hst) fun H1 s1 => ⟨_, rfl, ?_⟩⟩
    rw [encN_length]
    refine ite2 (fun ho => k1 ho H1 s1) (fun ho => ?_)
    have ho' : otherN s st told = false := by rw [Bool.not_eq_true] at ho; exact ho
    have hle' := hle ho'
    refine g1 _ _ (seqI fun U2 g2 => ?_)
    refine rMeth rfl (s1 _ _ hb0) rfl (rFld rfl (s1 _ _ hL) LC.cl LC.nW lf_words ⟨_, rfl, _, rfl, ?_⟩)
    refine AtFoundWith.mk b lb lk lf lw lt _ s.tail s.found told s.known st a.rules.words D rfl (hP.same s1) (p.hW.same s1) hok.words hok.wlen (s1 _ _ ht) so.tail so.known so.found hst fun H2 lf2 s2 nf hf2 => ?_
    rw [fw_eq hok.words so.found so.known hst hle'] at hf2
    have s12 := s1.trans s2
    have hfl : a.rules.words.length = (tookIn a.rules.words s st told).found.length := (foundWith_length so.found).symm
    refine g2 _ _ (seqI fun U3 g3 => ?_)
    refine rFld rfl (s12 _ _ hL) LC.cl LC.nW lf_words ⟨_, rfl, AtWeightOf.mk lw lf2 a.rules.words ((tookIn a.rules.words s st told).found) D rfl (p.hW.same s12) hok.words hok.wlen (SqL.of hf2) hfl fun H3 s3 => ?_⟩
    have s13 := s12.trans s3
    refine rFld rfl (s13 _ _ hL) LC.cl LC.nL lf_limit (mkI ⟨_, rfl, ?_⟩)
    refine ite2 (fun hw => ?_) (fun hw => ?_)
    · exact k2 ho' (by have := of_decide_eq_true hw; omega) H3 s13
    · have hw' : ¬ a.limit < weigh a.rules.words (tookIn a.rules.words s st told).found := fun q => hw (decide_eq_true (by omega))
      refine g3 _ _ (seqI fun U4 g4 => ?_)
      refine rMeth rfl (s13 _ _ hb0) rfl ⟨_, rfl, _, rfl, AtKnownWith.mk b lb lk lf lt _ _ _ _ (encN told) st rfl (hP.same s13) (s13 _ _ ht) (by rw [encT_length, so.known]; exact Nat.le_refl _) (by rw [encN_length]; omega) fun H4 lk4 s4 nk hk4 => ?_⟩
      rw [known_enc] at hk4
      have s14 := s13.trans s4
      refine rPut rfl (s14 _ _ hb0) SC.cl SC.nK (by show 4 < 1000; decide) ?_
      generalize hH5 : upd H4 b _ = H5
      have hb5 : H5 b = some (.ins C.s db (streamF s.base lb lk4 lf)) := by rw [← hH5, upd_same]; rfl
      refine g4 _ _ (seqI fun U5 g5 => ?_)
      refine ⟨_, rfl, rPut rfl hb5 SC.cl SC.nF (by show 4 < 1000; decide) ?_⟩
      have k6 : ∀ c o, H4 c = some o → c ≠ b → upd H5 b (.ins C.s db (putF "found" (V.ref lf2) (streamF s.base lb lk4 lf))) c = some o := fun c o e hc => by
        rw [upd_ne hc, ← hH5, upd_ne hc]
        exact e
      have k7 : ∀ c o, H c = some o → c ≠ b → upd H5 b (.ins C.s db (putF "found" (V.ref lf2) (streamF s.base lb lk4 lf))) c = some o := fun c o e hc => k6 c o (s14 _ _ e) hc
      have hf4 := s4 _ _ (s3 _ _ hf2)
      have nlk : lk4 ≠ b := ne_of hk4 (s14 _ _ hb0) (by intro z; cases z)
      have nlf : lf2 ≠ b := ne_of hf4 (s14 _ _ hb0) (by intro z; cases z)
      have nlb : lb ≠ b := ne_of hP.hb hb0 (by intro z; cases z)
      refine g5 _ _ ?_
      refine k3 ho' hw' _ (fun c o e nc => k7 c o e fun q => nc (by rw [q]; exact d1)) (p.put hs hb rfl k7 ⟨lb, lk4, lf2, .inl d1, .inl d2, .inr (s13.free nk), .inr (s1.free nf), ⟨db, ?_⟩, ?_, ?_, ?_⟩)
      · rw [upd_same]
        rfl
      · exact k7 _ _ hP.hb nlb
      · exact k6 _ _ hk4 nlk
      · exact k6 _ _ hf4 nlf
end
end WL
end
section
set_option Elab.async false
set_option linter.all false
set_option maxRecDepth 100000
set_option maxHeartbeats 2000000
namespace WL
open PySem PySem.Spec PyProof.Rows L2
open Kp134 (Word Rules Text)
open Kp135 (ROUND WINDOW off here beyond clash fill with_ received Abs)
section
variable {P : Program} {w : World} {K : PySem.W.Frag} {mg : Str → Option Value} {base : Heap} {C : Cs}
inductive AtStreamOf (K : PySem.W.Frag) (C : Cs) (vs : List V) (H : Hp) (Q : VK) : Prop
  | mk (L l lw ld : Addr) (as : List Addr) (name : List Nat) (a : Abs) (D : Addr → Prop) (h0_ : vs = [.ref L, .ref l]) (h1_ : LineP D C H L a lw ld as) (h2_ : SqL K H l (vI (encN name))) (h3_ : (a.streams.find? (fun s => s.name == name) = none → ∀ H', Same H H' → Q .non H')) (h4_ : (∀ (s : Kp135.Stream) (i : Nat) (c : Addr), a.streams.find? (fun s => s.name == name) = some s → a.streams[i]? = some s → as[i]? = some c → s.name = name → ∀ H', Same H H' → Q (.ref c) H')) : AtStreamOf K C vs H Q
noncomputable def spStreamOf (K : PySem.W.Frag) (C : Cs) : Sp := fun vs H Q _ => AtStreamOf K C vs H Q
theorem scStreamOf : FnScope ["self", "name"] ["self", "name"] (defScope sStreamOf) := ⟨rfl, rfl, rfl, by decide +kernel, rfl, by decide +kernel, by decide +kernel⟩
theorem ok_streamOf {f : Addr} {fd : FuncData} (F : Fun K "stream_of" "Line.stream_of" sStreamOf f fd) (T : Txt mg) (LC : LCls K C.l) : FnOk P w K mg base CX0 1 f fd ["self", "name"] (spStreamOf K C) := by
  refine F.ok scStreamOf (fun vs H Q E h => ?_) (fun cdv A outer s H vs Q E hr h => ?_)
  · obtain ⟨L, l, lw, ld, as, name, a, D, rfl, _⟩ := h
    rfl
  · obtain ⟨L, l, lw, ld, as, name, a, D, rfl, p, hS, k1, k2⟩ := h
    have hu := hu_of hr
    obtain ⟨dx, hL⟩ := p.hL
    refine ⟨_, pss_one (ps_ret (pe_dget1 hu (pe_fld (pv 0) rfl) (pe_callTy call_tuple_of rfl T.tuple bTuple (pa_cons (pv 1) pa_nil)) ⟨rfl, rfl, rfl, rfl⟩)), ?_⟩
    dsimp only [cxOf, Cx.nox, Cx.wish]
    refine rFld rfl hL LC.cl LC.nS lf_streams ⟨ld, rfl, .inr ⟨_, .inl p.hD⟩, _, rfl, l, _, rfl, .inl ⟨hS, fun t1 n1 => ?_⟩⟩
    have s1 : Same H (upd H t1 (.tup (vI (encN name)))) := same_upd n1
    have ht1 : (upd H t1 (.tup (vI (encN name)))) t1 = some (.tup ((keyOf name).map kV)) := by rw [upd_same, key_vals]
    refine ⟨_, DGet.t (s1 _ _ p.hD) ht1, ?_⟩
    cases hfd : a.streams.find? (fun s => s.name == name) with
    | none =>
      rw [kvs_none (as := as) hfd]
      exact k1 hfd _ s1
    | some s0 =>
      obtain ⟨i, c, hi, hc, hnm, hv⟩ := kvs_some p.len hfd
      rw [hv]
      exact k2 s0 i c hfd hi hc hnm _ s1
end
end WL
end
section
set_option Elab.async false
set_option linter.all false
set_option maxRecDepth 100000
set_option maxHeartbeats 2000000
namespace WL
open PySem PySem.Spec PyProof.Rows L2
open Kp134 (Word Rules Text)
open Kp135 (ROUND WINDOW off here beyond clash fill with_ received Abs)
theorem pos_max (z : Int) : (if z > 0 then z else 0) = ((z.toNat : Nat) : Int) := by split <;> omega
theorem other_clash {s : Kp135.Stream} {place : Nat} {b : List Nat} (hl : s.known.length = 4096) (hb : 1 ≤ b.length) (h : (off s place) + (b.length : Int) ≤ 4096) : otherN s (off s place).toNat (toldOf (off s place) b) = clash s place b := by
  rw [clash_eq hl hb h]
  unfold otherN otherwise
  rw [List.any_map]
  generalize toldOf (off s place) b = td
  unfold encT encN
  rw [← List.map_drop, ← List.map_take, List.zip_map, List.any_map]
  rfl
theorem took_with {r : Rules} {s : Kp135.Stream} {place : Nat} {b : List Nat} (h : SOk r.words s) (hb : 1 ≤ b.length) (ho : off s place + (b.length : Int) ≤ 4096) : tookIn r.words s (off s place).toNat (toldOf (off s place) b) = with_ r s place b := (with_eq h hb ho).symm
theorem with_ok {r : Rules} {s : Kp135.Stream} {place : Nat} {b : List Nat} (h : SOk r.words s) : SOk r.words (with_ r s place b) := by
  refine ⟨h.base, h.tail, ?_, ?_, h.name⟩
  · show (fill s place b).length = 4096
    rw [fill_len]
    exact h.known
  · rw [with_found h.found, foundWith_length h.found]
section
variable {P : Program} {w : World} {K : PySem.W.Frag} {mg : Str → Option Value} {base : Heap} {C : Cs}
noncomputable def pieceOf (b : List Nat) : Option (List Nat) := if 1 ≤ b.length ∧ b.length ≤ Kp135.PIECE then some b else none
inductive AtPiece (K : PySem.W.Frag) (C : Cs) (vs : List V) (H : Hp) (Q : VK) : Prop
  | mk (L l lb : Addr) (place : Nat) (name b : List Nat) (a : Abs) (D : Addr → Prop) (h0_ : vs = [.ref L, .int (place : Int), .ref l, .ref lb]) (h1_ : LineAt D C H L a) (h2_ : AOk a) (h3_ : SqL K H l (vI (encN name))) (h4_ : H lb = some (.lst (vI (encN b)))) (h5_ : place < ROUND) (h6_ : Says C D H L a (.piece name place (pieceOf b)) Q) : AtPiece K C vs H Q
noncomputable def spPiece (K : PySem.W.Frag) (C : Cs) : Sp := fun vs H Q _ => AtPiece K C vs H Q
theorem scPiece : FnScope ["self", "place", "name", "b", "stream", "distance", "told"] ["self", "place", "name", "b"] (defScope sPiece) := ⟨rfl, rfl, rfl, by decide +kernel, rfl, by decide +kernel, by decide +kernel⟩
theorem ok_piece {f : Addr} {fd : FuncData} (F : Fun K "fl_piece" "Line.fl_piece" sPiece f fd) (T : Txt mg) (TL : TxtL mg) (LC : LCls K C.l) (SC : SCls K C.s) (M0 : Method P w K mg base 1 C.l "stream_of" ["self", "name"] (spStreamOf K C)) (M1 : Method P w K mg base 1 C.s "ahead" ["self", "place"] (spAhead C.s))
    (M2 : Method P w K mg base 4 C.l "take_in" ["self", "stream", "start", "told"] (spTakeIn C)) : FnOk P w K mg base CX0 5 f fd ["self", "place", "name", "b"] (spPiece K C) := by
  refine F.ok scPiece (fun vs H Q E h => ?_) (fun cdv A outer s H vs Q E hr h => ?_)
  · obtain ⟨L, l, lb, place, name, b, a, D, rfl, _⟩ := h
    rfl
  · obtain ⟨L, l, lb, place, name, b, a, D, rfl, hA, hok, hS, hB, hpl, k⟩ := h
    have hu := hu_of hr
    have hr1 : Room 1 _ := hr.mono (by decide)
    refine hA.elim fun lw ld as dx p hL => ?_
    refine ⟨_, pss_cons (ps_if (PW.pt (pw_or (pt_cmpR op_lt (pe_callB call_len_seq rfl T.len PySem.boot_len (pa_cons (pv 3) pa_nil)) pe_int (nomark _)) (pw_or1 (pt_cmpR op_gt (pe_callB call_len_seq rfl T.len PySem.boot_len (pa_cons (pv 3) pa_nil)) (pe_num TL.longestPiece rfl) (nomark _))))) (pss_one (ps_ret (pe_num TL.notAsTold rfl))) pss_nil)
      (pss_cons (ps_set (i := 4) scPiece.nd rfl (Or.inl rfl) (pe_method (pv 0) LC.cl M0 hr1 (pa_cons (pv 2) pa_nil)))
      (pss_cons (ps_if (pt_cmp (pc_isN (pv 4))) (pss_one (ps_ret (pe_num TL.noSuch rfl))) pss_nil)
      (pss_cons (ps_set (i := 5) scPiece.nd rfl (Or.inl rfl) (pe_method (pv 4) SC.cl M1 hr1 (pa_cons (pv 1) pa_nil)))
      (pss_cons (ps_if (pt_cmpR op_gt (pe_op op_add (pv 5) (pe_callB call_len_seq rfl T.len PySem.boot_len (pa_cons (pv 3) pa_nil))) (pe_num T.places rfl) (nomark _)) (pss_one (ps_ret (pe_num TL.tooFar rfl))) pss_nil)
      (pss_cons (ps_set (i := 6) scPiece.nd rfl (Or.inl rfl) (pe_slice sl_list (pv 3) (po_some (pe_callB (call_max2 rfl) rfl T.max bMax (pa_cons pe_int (pa_cons (pe_un un_neg (pv 5)) pa_nil)))) po_none))
      (pss_one (ps_ret (pe_method (pv 0) LC.cl M2 hr (pa_cons (pv 4) (pa_cons (pe_callB (call_max2 rfl) rfl T.max bMax (pa_cons pe_int (pa_cons (pv 5) pa_nil))) (pa_cons (pv 6) pa_nil))))))))))), ?_⟩
    dsimp only [cxOf, Cx.nox, Cx.wish]
    have no22 : ¬ (1 ≤ b.length ∧ b.length ≤ 1500) → Q (.int (-22)) H := fun hn => by
      have e0 : pieceOf b = none := if_neg hn
      have e : Kp135.act a default (.piece name place (pieceOf b)) = (a, default, .num (-22)) := by rw [e0]; rfl
      have k' := k D H (-22) (Fram.same fun _ _ e => e)
      rw [e] at k'
      exact k' hA hok rfl
    refine seqI fun U1 g1 => ?_
    refine ⟨_, rfl, lb, _, rfl, .inl (SqL.of hB), mkI ⟨_, rfl, ?_⟩⟩
    rw [List.length_map, encN_length]
    refine ite2 (fun h1 => ?_) (fun h1 => ?_)
    · have h1' : ((b.length : Nat) : Int) < 1 := of_decide_eq_true h1
      exact iteT (no22 (by omega))
    have h1' : ¬ ((b.length : Nat) : Int) < 1 := fun q => h1 (decide_eq_true q)
    refine ⟨_, rfl, lb, _, rfl, .inl (SqL.of hB), mkI ⟨_, rfl, ?_⟩⟩
    rw [List.length_map, encN_length]
    refine ite2 (fun h2 => ?_) (fun h2 => ?_)
    · have h2' : (1500 : Int) < ((b.length : Nat) : Int) := of_decide_eq_true h2
      exact no22 (by omega)
    have h2' : ¬ (1500 : Int) < ((b.length : Nat) : Int) := fun q => h2 (decide_eq_true q)
    have e0 : pieceOf b = some b := if_pos (show 1 ≤ b.length ∧ b.length ≤ 1500 by omega)
    rw [e0] at k
    refine g1 _ _ (seqI fun U2 g2 => ?_)
    refine rMeth rfl hL rfl ⟨_, rfl, AtStreamOf.mk L l lw ld as name a D rfl p hS (fun hfd H1 s1 => g2 _ _ (seqI fun U3 g3 => ⟨_, rfl, ?_⟩)) fun s0 i c hfd hi hc hnm H1 s1 => g2 _ _ (seqI fun U3 g3 => ⟨_, rfl, ?_⟩)⟩
    · refine ⟨_, rfl, iteT ?_⟩
      have e : Kp135.act a default (.piece name place (some b)) = (a, default, .num (-2)) := by
        show (match Kp135.find a name with | none => _ | some s => _) = _
        unfold Kp135.find
        rw [hfd]
      have k' := k D H1 (-2) (Fram.same s1)
      rw [e] at k'
      exact k' (hA.same s1) hok rfl
    · refine ⟨_, rfl, iteF (g3 _ _ (seqI fun U4 g4 => ?_))⟩
      have so := hok.ok s0 (List.mem_of_getElem? hi)
      have p1 := p.same s1
      refine (p1.hS i s0 c hi hc).elim fun slb slk slf db d1 d2 d3 d4 hP hb0 => ?_
      refine rMeth rfl hb0 rfl ⟨_, rfl, AtAhead.mk c db slb slk slf _ _ rfl hb0 ?_⟩
      have eo : ((place : Int) - (s0.base : Int) + 2147483648) % 4294967296 - 2147483648 = off s0 place := (off_eq so.base hpl).symm
      rw [eo]
      have hrg := off_range so.base hpl
      have act0 : Kp135.act a default (.piece name place (some b)) = if beyond s0 place b = true then (a, default, .num (-34)) else if clash s0 place b = true then (a, Kp135.more default 3 1, .num (-17)) else
          if a.limit < Kp134.weight a.rules (with_ a.rules s0 place b).found then (a, Kp135.more default 2 1, .num 1) else (Kp135.change a (with_ a.rules s0 place b), Kp135.more (Kp135.more default 0 1) 1 (Kp135.fresh s0 place b), .num 0) := by
        show (match Kp135.find a name with | none => _ | some s => _) = _
        unfold Kp135.find
        rw [hfd]
      rw [beyond_eq (by omega) (by omega)] at act0
      refine g4 _ _ (seqI fun U5 g5 => ?_)
      refine ⟨_, rfl, _, rfl, lb, _, rfl, .inl (SqL.of (s1 _ _ hB)), mkI (mkI ⟨_, rfl, ?_⟩)⟩
      rw [List.length_map, encN_length]
      refine ite2 (fun h3 => ?_) (fun h3 => ?_)
      · rw [if_pos h3] at act0
        have k' := k D H1 (-34) (Fram.same s1)
        rw [act0] at k'
        exact k' (hA.same s1) hok rfl
      rw [if_neg h3] at act0
      have h3' : off s0 place + (b.length : Int) ≤ 4096 := by
        have : ¬ (4096 : Int) < off s0 place + (b.length : Int) := fun q => h3 (decide_eq_true q)
        omega
      have hb1 : 1 ≤ b.length := by omega
      refine g5 _ _ (seqI fun U6 g6 => ?_)
      refine ⟨_, rfl, _, rfl, _, rfl, _, _, rfl, _, rfl, lb, _, rfl, SqL.of (s1 _ _ hB), fun p2 n2 => ?_⟩
      have z1 : (if -(off s0 place) > 0 then -(off s0 place) else 0) = (((-(off s0 place)).toNat : Nat) : Int) := pos_max _
      rw [z1, cut_n_]
      have e2 : (encN b).drop (-(off s0 place)).toNat = encN (toldOf (off s0 place) b) := List.map_drop.symm
      rw [e2]
      have s2 : Same H1 (upd H1 p2 (.lst (vI (encN (toldOf (off s0 place) b))))) := same_upd n2
      have hp2 : (upd H1 p2 (.lst (vI (encN (toldOf (off s0 place) b))))) p2 = some (.lst (vI (encN (toldOf (off s0 place) b)))) := upd_same
      generalize upd H1 p2 (.lst (vI (encN (toldOf (off s0 place) b)))) = H2 at s2 hp2
      have s12 := s1.trans s2
      have z2 : (if off s0 place > 0 then off s0 place else 0) = (((off s0 place).toNat : Nat) : Int) := pos_max _
      refine g6 _ _ ?_
      refine rMeth rfl (s12 _ _ hL) rfl ⟨_, rfl, _, rfl, _, _, rfl, _, rfl, ?_⟩
      rw [z2]
      have hoc := other_clash so.known hb1 h3'
      have htw := took_with so hb1 h3'
      have wk := with_ok (place := place) (b := b) so
      refine AtTakeIn.mk L c p2 lw ld ((off s0 place).toNat) (toldOf (off s0 place) b) a D as i s0 rfl (p.same s12) hok hi hc hp2 (told_len hb1 h3') (fun q => ?_) (fun q H3 s3 => ?_) (fun q q2 H3 s3 => ?_) fun q q2 H3 fr3 hl3 => ?_
      · have := fill_le so.known hb1 h3' (hoc.symm.trans q)
        rw [fill_eq' so.known hb1 h3'] at this
        exact this
      · rw [hoc] at q
        rw [if_pos q] at act0
        have k' := k D H3 (-17) (Fram.same (s12.trans s3))
        rw [act0] at k'
        exact k' (hA.same (s12.trans s3)) hok rfl
      · rw [hoc] at q
        rw [htw, ← weight_eq wk.found] at q2
        rw [if_neg (by rw [q]; decide), if_pos q2] at act0
        have k' := k D H3 1 (Fram.same (s12.trans s3))
        rw [act0] at k'
        exact k' (hA.same (s12.trans s3)) hok rfl
      · rw [hoc] at q
        rw [htw, ← weight_eq wk.found] at q2
        rw [if_neg (by rw [q]; decide), if_neg q2] at act0
        rw [htw] at hl3
        have ech : Kp135.change a (with_ a.rules s0 place b) = { a with streams := a.streams.set i (with_ a.rules s0 place b) } := by
          unfold Kp135.change
          rw [change_set (t := with_ a.rules s0 place b) hok.nd hi rfl]
        rw [ech] at act0
        have k' := k (fun c => D c ∨ H2 c = none) H3 0 ⟨fun c d => d.elim .inl fun q => .inr (s12.free q), fun c o e nc => fr3 c o (s12 _ _ e) nc⟩
        rw [act0] at k'
        exact k' hl3 (hok.set hi rfl wk) rfl
end
end WL
end
section
set_option Elab.async false
set_option linter.all false
set_option maxRecDepth 100000
set_option maxHeartbeats 2000000
namespace WL
open PySem PySem.Spec PyProof.Rows L2
open Kp134 (Word Rules Text)
open Kp135 (ROUND WINDOW off here beyond clash fill with_ received Abs)
noncomputable abbrev sRdInit : Stmt := inClass (top 43) 0
noncomputable abbrev sHasMore : Stmt := inClass (top 43) 1
noncomputable abbrev sReadNum : Stmt := inClass (top 43) 2
noncomputable abbrev sReadRow : Stmt := inClass (top 43) 3
theorem pe_method0 {X : Cx} {k : Nat} {C : Addr} {m : Str} {ps : List Str} {sp : Sp} {o : Expr} {ta : TE} {apos pos : Pos} {pl : Sem Bool} (he : PE X o ta) (c : Cls X.K C) (M : Method X.prog X.w X.K X.mg X.base k C m ps sp) (hr : Room k X.A)
    (ht : eval (.Call (.Attribute o m apos) [] [] pos) X.env = (do
      let ov ← eval o X.env
      standAt apos.atName
      let (f, first) ← holding [ov] (getMethod ov m pl)
      callWith pos f first (backTo pos (starEach [] X.env)) (backToKw pos (keywordEach [] X.env))) := by rfl) :
    PE X (.Call (.Attribute o m apos) [] [] pos) (tMeth C m sp [] E0 ta tNil) := by
  obtain ⟨f, fd, h1, h2, h3⟩ := M.ex
  exact pe_meth0 he c h1 h3 hr h2 .nil pass0 ht
noncomputable def readerF (a : Addr) (pos : Int) : List (Str × V) := [("numbers", .ref a), ("position", .int pos)]
theorem rf_numbers {a : Addr} {p : Int} : (readerF a p).lookup ("numbers" : Str) = some (.ref a) := rfl
theorem rf_position {a : Addr} {p : Int} : (readerF a p).lookup ("position" : Str) = some (.int p) := rfl
structure RCls (K : PySem.W.Frag) (C : Addr) : Prop where
  cl : Cls K C
  nN : NoAttr K C "numbers"
  nP : NoAttr K C "position"
section
variable {P : Program} {w : World} {K : PySem.W.Frag} {mg : Str → Option Value} {base : Heap} {C : Addr}
inductive AtRdInit (C : Addr) (vs : List V) (H : Hp) (Q : VK) : Prop
  | mk (p dx a : Addr) (h0_ : vs = [.ref p, .ref a]) (h1_ : H p = some (.ins C dx [])) (h2_ : ∀ H' : Hp, (∀ b o, H b = some o → b ≠ p → H' b = some o) → H' p = some (.ins C dx (readerF a 0)) → Q .non H') : AtRdInit C vs H Q
noncomputable def spRdInit (C : Addr) : Sp := fun vs H Q _ => AtRdInit C vs H Q
theorem scRdInit : FnScope ["self", "numbers"] ["self", "numbers"] (defScope sRdInit) := ⟨rfl, rfl, rfl, by decide +kernel, rfl, by decide +kernel, by decide +kernel⟩
theorem ok_rdInit {f : Addr} {fd : FuncData} (F : Fun K "__init__" "Reader.__init__" sRdInit f fd) (R : RCls K C) : FnOk P w K mg base CX0 1 f fd ["self", "numbers"] (spRdInit C) := by
  refine F.ok scRdInit (fun vs H Q E h => ?_) (fun cdv A outer s H vs Q E hr h => ?_)
  · obtain ⟨p, dx, a, rfl, _⟩ := h
    rfl
  · obtain ⟨p, dx, a, rfl, hp, k⟩ := h
    refine ⟨_, pss_cons (ps_fld (pv 0) (pv 1) rfl) (pss_one (ps_fld (pv 0) pe_int rfl)), ?_⟩
    dsimp only [cxOf, Cx.nox, Cx.wish]
    refine ⟨_, rfl, rPut rfl hp R.cl R.nN (by show 0 < 1000; decide) ?_⟩
    refine rPut rfl upd_same R.cl R.nP (by show 1 < 1000; decide) ?_
    refine k _ (fun b o e hb => ?_) ?_
    · rw [upd_ne hb, upd_ne hb]
      exact e
    · rw [upd_same]
      rfl
inductive AtHasMore (K : PySem.W.Frag) (C : Addr) (vs : List V) (H : Hp) (Q : VK) : Prop
  | mk (r dx a : Addr) (pos : Nat) (ns : List Int) (h0_ : vs = [.ref r]) (h1_ : H r = some (.ins C dx (readerF a pos))) (h2_ : SqL K H a (vI ns)) (h3_ : Q (.bl (decide (pos < ns.length))) H) : AtHasMore K C vs H Q
noncomputable def spHasMore (K : PySem.W.Frag) (C : Addr) : Sp := fun vs H Q _ => AtHasMore K C vs H Q
theorem scHasMore : FnScope ["self"] ["self"] (defScope sHasMore) := ⟨rfl, rfl, rfl, by decide +kernel, rfl, by decide +kernel, by decide +kernel⟩
theorem ok_hasMore {f : Addr} {fd : FuncData} (F : Fun K "has_more" "Reader.has_more" sHasMore f fd) (T : Txt mg) (R : RCls K C) : FnOk P w K mg base CX0 1 f fd ["self"] (spHasMore K C) := by
  refine F.ok scHasMore (fun vs H Q E h => ?_) (fun cdv A outer s H vs Q E hr h => ?_)
  · obtain ⟨r, dx, a, pos, ns, rfl, _⟩ := h
    rfl
  · obtain ⟨r, dx, a, pos, ns, rfl, hr0, hS, k⟩ := h
    refine ⟨_, pss_one (ps_ret (pe_cmpR op_lt (pe_fld (pv 0) rfl) (pe_callB call_len_seq rfl T.len PySem.boot_len (pa_cons (pe_fld (pv 0) rfl) pa_nil)) (nomark _))), ?_⟩
    dsimp only [cxOf, Cx.nox, Cx.wish]
    refine rFld rfl hr0 R.cl R.nP rf_position (rFld rfl hr0 R.cl R.nN rf_numbers ⟨a, _, rfl, .inl hS, _, _, rfl, rfl, ?_⟩)
    rw [List.length_map]
    have e : decide ((pos : Int) < ((ns.length : Nat) : Int)) = decide (pos < ns.length) := by
      rw [Bool.eq_iff_iff, decide_eq_true_iff, decide_eq_true_iff]
      omega
    show Q (V.bl (decide ((pos : Int) < ((ns.length : Nat) : Int)))) H
    rw [e]
    exact k
inductive AtReadNum (K : PySem.W.Frag) (C : Addr) (vs : List V) (H : Hp) (Q : VK) : Prop
  | mk (r dx a : Addr) (pos : Nat) (ns : List Int) (z : Int) (h0_ : vs = [.ref r]) (h1_ : H r = some (.ins C dx (readerF a pos))) (h2_ : SqL K H a (vI ns)) (h3_ : ns[pos]? = some z) (h4_ : Q (.int z) (upd H r (.ins C dx (readerF a ((pos + 1 : Nat) : Int))))) : AtReadNum K C vs H Q
noncomputable def spReadNum (K : PySem.W.Frag) (C : Addr) : Sp := fun vs H Q _ => AtReadNum K C vs H Q
theorem scReadNum : FnScope ["self", "number"] ["self"] (defScope sReadNum) := ⟨rfl, rfl, rfl, by decide +kernel, rfl, by decide +kernel, by decide +kernel⟩
theorem ok_readNum {f : Addr} {fd : FuncData} (F : Fun K "read_number" "Reader.read_number" sReadNum f fd) (R : RCls K C) : FnOk P w K mg base CX0 1 f fd ["self"] (spReadNum K C) := by
  refine F.ok scReadNum (fun vs H Q E h => ?_) (fun cdv A outer s H vs Q E hr h => ?_)
  · obtain ⟨r, dx, a, pos, ns, z, rfl, _⟩ := h
    rfl
  · obtain ⟨r, dx, a, pos, ns, z, rfl, hr0, hS, hz, k⟩ := h
    refine ⟨_, pss_cons (ps_set (i := 1) scReadNum.nd rfl (Or.inl rfl) (pe_ix ix_list (pe_fld (pv 0) rfl) (pe_fld (pv 0) rfl) (fun _ _ => rfl)))
      (pss_cons (ps_fldaug (pv 0) pe_int in_add) (pss_one (ps_ret (pv 1)))), ?_⟩
    dsimp only [cxOf, Cx.nox, Cx.wish]
    refine rFld rfl hr0 R.cl R.nN rf_numbers (rFld rfl hr0 R.cl R.nP rf_position ⟨a, _, _, _, rfl, rfl, hS, atI_nat (v := V.int z) (by rw [List.getElem?_map, hz]; rfl), ?_⟩)
    refine ⟨_, rfl, r, C, dx, _, _, rfl, hr0, R.cl, R.nP, rf_position, _, _, rfl, rfl, dx, _, hr0, (by show 2 < 1000; decide), _, rfl, ?_⟩
    have e : putF "position" (V.int ((pos : Int) + 1)) (readerF a pos) = readerF a ((pos + 1 : Nat) : Int) := by
      show readerF a ((pos : Int) + 1) = _
      congr 1
    rw [e]
    exact k
inductive AtReadRow (K : PySem.W.Frag) (C : Addr) (vs : List V) (H : Hp) (Q : VK) : Prop
  | mk (r dx a : Addr) (pos n : Nat) (ns : List Int) (h0_ : vs = [.ref r]) (h1_ : H r = some (.ins C dx (readerF a pos))) (h2_ : SqL K H a (vI ns)) (h3_ : ns[pos]? = some (n : Int)) (h4_ : ∀ (H' : Hp) (p : Addr), (∀ b o, H b = some o → b ≠ r → H' b = some o) → H p = none → H' r = some (.ins C dx (readerF a ((pos + 1 + n : Nat) : Int))) → H' p = some (.lst (vI ((ns.drop (pos + 1)).take n))) → Q (.ref p) H') : AtReadRow K C vs H Q
noncomputable def spReadRow (K : PySem.W.Frag) (C : Addr) : Sp := fun vs H Q _ => AtReadRow K C vs H Q
theorem scReadRow : FnScope ["self", "size", "row"] ["self"] (defScope sReadRow) := ⟨rfl, rfl, rfl, by decide +kernel, rfl, by decide +kernel, by decide +kernel⟩
theorem seq_upd {H : Hp} {a r C dx : Addr} {xs : List V} {fs : List (Str × V)} {o : HO} (h : SqL K H a xs) (hr : H r = some (.ins C dx fs)) : SqL K (upd H r o) a xs := by
  rcases h with (h | ⟨ob, h⟩) | h
  · exact .inl (.inl ((upd_ne (ne_of h hr (by intro z; cases z))).trans h))
  · exact .inl (.inr ⟨ob, (upd_ne (ne_of h hr (by intro z; cases z))).trans h⟩)
  · exact .inr h
theorem ok_readRow {f : Addr} {fd : FuncData} (F : Fun K "read_row" "Reader.read_row" sReadRow f fd) (R : RCls K C) (M : Method P w K mg base 1 C "read_number" ["self"] (spReadNum K C)) : FnOk P w K mg base CX0 2 f fd ["self"] (spReadRow K C) := by
  refine F.ok scReadRow (fun vs H Q E h => ?_) (fun cdv A outer s H vs Q E hr h => ?_)
  · obtain ⟨r, dx, a, pos, n, ns, rfl, _⟩ := h
    rfl
  · obtain ⟨r, dx, a, pos, n, ns, rfl, hr0, hS, hz, k⟩ := h
    refine ⟨_, pss_cons (ps_set (i := 1) scReadRow.nd rfl (Or.inl rfl) (pe_method0 (pv 0) R.cl M hr))
      (pss_cons (ps_set (i := 2) scReadRow.nd rfl (Or.inl rfl) (pe_slice sl_list (pe_fld (pv 0) rfl) (po_some (pe_fld (pv 0) rfl)) (po_some (pe_op op_add (pe_fld (pv 0) rfl) (pv 1)))))
      (pss_cons (ps_fldaug (pv 0) (pv 1) in_add) (pss_one (ps_ret (pv 2))))), ?_⟩
    dsimp only [cxOf, Cx.nox, Cx.wish]
    refine rMeth rfl hr0 rfl (AtReadNum.mk r dx a pos ns _ rfl hr0 hS hz ?_)
    have hS1 : SqL K (upd H r (.ins C dx (readerF a ((pos + 1 : Nat) : Int)))) a (vI ns) := seq_upd hS hr0
    have hr1 : (upd H r (.ins C dx (readerF a ((pos + 1 : Nat) : Int)))) r = some (.ins C dx (readerF a ((pos + 1 : Nat) : Int))) := upd_same
    have k1 : ∀ b o, H b = some o → b ≠ r → (upd H r (.ins C dx (readerF a ((pos + 1 : Nat) : Int)))) b = some o := fun b o e hb => (upd_ne hb).trans e
    have fr1 : ∀ b, (upd H r (.ins C dx (readerF a ((pos + 1 : Nat) : Int)))) b = none → H b = none := fun b e => by
      have hb : b ≠ r := (ne_of_none hr1 e).symm
      rw [upd_ne hb] at e
      exact e
    generalize upd H r (.ins C dx (readerF a ((pos + 1 : Nat) : Int))) = H1 at hS1 hr1 k1 fr1
    refine rFld rfl hr1 R.cl R.nN rf_numbers (rFld rfl hr1 R.cl R.nP rf_position ⟨_, rfl, rFld rfl hr1 R.cl R.nP rf_position ⟨_, rfl, mkI ⟨_, rfl, a, _, rfl, hS1, fun p np => ?_⟩⟩⟩)
    have c := cut_nn ns (pos + 1) (pos + 1 + n)
    rw [show pos + 1 + n - (pos + 1) = n by omega, show ((pos + 1 + n : Nat) : Int) = ((pos + 1 : Nat) : Int) + (n : Int) by omega] at c
    rw [c]
    have npr : r ≠ p := ne_of_none hr1 np
    refine ⟨_, rfl, r, C, dx, _, _, rfl, (upd_ne npr).trans hr1, R.cl, R.nP, rf_position, _, rfl, mkI ⟨dx, _, (upd_ne npr).trans hr1, (by show 2 < 1000; decide), _, rfl, ?_⟩⟩
    refine k _ p (fun b o e hb => ?_) (fr1 _ np) ?_ ?_
    · rw [upd_ne hb, upd_ne (ne_of_none (k1 b o e hb) np)]
      exact k1 b o e hb
    · rw [upd_same]
      show some (HO.ins C dx (readerF a (((pos + 1 : Nat) : Int) + (n : Int)))) = _
      congr 2
    · rw [upd_ne npr.symm, upd_same]
end
end WL
end
section
set_option Elab.async false
set_option linter.all false
set_option maxRecDepth 100000
set_option maxHeartbeats 2000000
namespace WL
open PySem PySem.Spec PyProof.Rows L2
open Kp134 (Word Rules Text)
open Kp135 (ROUND WINDOW off here beyond clash fill with_ received Abs)
theorem ack1 {o : Int} {r : Nat} (h2 : ((r : Nat) : Int) < o) : r < o.toNat := by omega
theorem ack2 {o : Int} {r : Nat} (h1 : ¬ o < 0) (h2 : ¬ ((r : Nat) : Int) < o) : ¬ r < o.toNat ∧ o = ((o.toNat : Nat) : Int) ∧ o.toNat ≤ r := by
  refine ⟨?_, ?_, ?_⟩ <;> omega
theorem change_at {a : Abs} {i : Nat} {s t : Kp135.Stream} (ok : AOk a) (hi : a.streams[i]? = some s) (hn : t.name = s.name) : Kp135.change a t = { a with streams := a.streams.set i t } := by
  unfold Kp135.change
  rw [change_set ok.nd hi hn]
theorem received_name (s : Kp135.Stream) (n : Nat) : (received s n).name = s.name := rfl
theorem act_ack {a : Abs} {name : List Nat} {place : Nat} {s : Kp135.Stream} (h : Kp135.find a name = some s) :
    Kp135.act a default (.ack name place) = if off s place < 0 then (a, default, .num 0) else if Kp135.run s.known < (off s place).toNat then (a, default, .num (-34)) else (Kp135.change a (received s (off s place).toNat), default, .num 0) := by
  show (match Kp135.find a name with | none => _ | some s => _) = _
  rw [h]
theorem act_ack0 {a : Abs} {name : List Nat} {place : Nat} (h : Kp135.find a name = none) : Kp135.act a default (.ack name place) = (a, default, .num (-2)) := by
  show (match Kp135.find a name with | none => _ | some s => _) = _
  rw [h]
theorem act_ack1 {a : Abs} {name : List Nat} {place : Nat} {s : Kp135.Stream} (h : Kp135.find a name = some s) (h1 : off s place < 0) : Kp135.act a default (.ack name place) = (a, default, .num 0) := by
  rw [act_ack h, if_pos h1]
theorem act_ack2 {a : Abs} {name : List Nat} {place : Nat} {s : Kp135.Stream} (h : Kp135.find a name = some s) (h1 : ¬ off s place < 0) (h2 : Kp135.run s.known < (off s place).toNat) : Kp135.act a default (.ack name place) = (a, default, .num (-34)) := by
  rw [act_ack h, if_neg h1, if_pos h2]
theorem act_ack3 {a : Abs} {name : List Nat} {place i : Nat} {s : Kp135.Stream} (ok : AOk a) (hi : a.streams[i]? = some s) (h : Kp135.find a name = some s) (h1 : ¬ off s place < 0) (h2 : ¬ Kp135.run s.known < (off s place).toNat) :
    Kp135.act a default (.ack name place) = ({ a with streams := a.streams.set i (received s (off s place).toNat) }, default, .num 0) := by
  rw [act_ack h, if_neg h1, if_neg h2, change_at ok hi (received_name s _)]
theorem received_found (s : Kp135.Stream) (n : Nat) : (received s n).found = s.found := rfl
theorem received_base (s : Kp135.Stream) (n : Nat) : (received s n).base = (s.base + n) % 4294967296 := rfl
theorem stream_received {D : Addr → Prop} {C a lb lk lf : Addr} {H : Hp} {s : Kp135.Stream} {n : Nat} {b : Int} (hb : b = (((received s n).base : Nat) : Int)) (d1 : D a) (d2 : D lb) (d3 : D lk) (d4 : D lf)
    (h : StrP C H a b lb lk lf (encN (received s n).tail) (encT (received s n).known) (encN s.found)) : StreamAt D C H a (received s n) := by
  rw [← received_found s n, hb] at h
  generalize received s n = t at h
  exact ⟨lb, lk, lf, d1, d2, d3, d4, h⟩
theorem ack3 {n r l : Nat} (h : n ≤ r) (h2 : r ≤ l) (h3 : l = 4096) : n ≤ 4096 ∧ n ≤ l := by
  refine ⟨?_, ?_⟩ <;> omega
section
variable {P : Program} {w : World} {K : PySem.W.Frag} {mg : Str → Option Value} {base : Heap} {C : Cs}
inductive AtAck (K : PySem.W.Frag) (C : Cs) (vs : List V) (H : Hp) (Q : VK) : Prop
  | mk (L l : Addr) (place : Nat) (name : List Nat) (a : Abs) (D : Addr → Prop) (h0_ : vs = [.ref L, .int (place : Int), .ref l]) (h1_ : LineAt D C H L a) (h2_ : AOk a) (h3_ : SqL K H l (vI (encN name))) (h4_ : place < ROUND) (h5_ : Says C D H L a (.ack name place) Q) : AtAck K C vs H Q
noncomputable def spAck (K : PySem.W.Frag) (C : Cs) : Sp := fun vs H Q _ => AtAck K C vs H Q
theorem scAck : FnScope ["self", "place", "name", "stream", "distance"] ["self", "place", "name"] (defScope sAck) := ⟨rfl, rfl, rfl, by decide +kernel, rfl, by decide +kernel, by decide +kernel⟩
theorem ok_ack {f : Addr} {fd : FuncData} (F : Fun K "fl_ack" "Line.fl_ack" sAck f fd) (T : Txt mg) (TL : TxtL mg) (LC : LCls K C.l) (SC : SCls K C.s) (M0 : Method P w K mg base 1 C.l "stream_of" ["self", "name"] (spStreamOf K C)) (M1 : Method P w K mg base 1 C.s "ahead" ["self", "place"] (spAhead C.s))
    (M2 : Method P w K mg base 1 C.s "known_without_gap" ["self"] (spKnownGap C.s)) (M3 : Method P w K mg base 1 C.s "move_base" ["self", "steps"] (spMoveBase C.s)) : FnOk P w K mg base CX0 2 f fd ["self", "place", "name"] (spAck K C) := by
  refine F.ok scAck (fun vs H Q E h => ?_) (fun cdv A outer s H vs Q E hr h => ?_)
  · obtain ⟨L, l, place, name, a, D, rfl, _⟩ := h
    rfl
  · obtain ⟨L, l, place, name, a, D, rfl, hA, hok, hS, hpl, k⟩ := h
    refine hA.elim fun lw ld as dx p hL => ?_
    refine ⟨_, pss_cons (ps_set (i := 3) scAck.nd rfl (Or.inl rfl) (pe_method (pv 0) LC.cl M0 hr (pa_cons (pv 2) pa_nil)))
      (pss_cons (ps_if (pt_cmp (pc_isN (pv 3))) (pss_one (ps_ret (pe_num TL.noSuch rfl))) pss_nil)
      (pss_cons (ps_set (i := 4) scAck.nd rfl (Or.inl rfl) (pe_method (pv 3) SC.cl M1 hr (pa_cons (pv 1) pa_nil)))
      (pss_cons (ps_if (pt_cmpR op_lt (pv 4) pe_int (nomark _)) (pss_one (ps_ret (pe_num TL.done rfl))) pss_nil)
      (pss_cons (ps_if (pt_cmpR op_gt (pv 4) (pe_method0 (pv 3) SC.cl M2 hr) (nomark _)) (pss_one (ps_ret (pe_num TL.tooFar rfl))) pss_nil)
      (pss_cons (ps_expr (pe_method (pv 3) SC.cl M3 hr (pa_cons (pv 4) pa_nil)))
      (pss_one (ps_ret (pe_num TL.done rfl)))))))), ?_⟩
    refine seqI fun U1 g1 => ?_
    refine rMeth rfl hL rfl ⟨_, rfl, AtStreamOf.mk L l lw ld as name a D rfl p hS (fun hfd H1 s1 => g1 _ _ (seqI fun U2 g2 => ⟨_, rfl, ?_⟩)) fun s0 i c hfd hi hc hnm H1 s1 => g1 _ _ (seqI fun U2 g2 => ⟨_, rfl, ?_⟩)⟩
    · refine ⟨_, rfl, iteT ?_⟩
      have k' := k D H1 (-2) (Fram.same s1)
      rw [act_ack0 hfd] at k'
      exact k' (hA.same s1) hok rfl
    · refine ⟨_, rfl, iteF (g2 _ _ (seqI fun U3 g3 => ?_))⟩
      have so := hok.ok s0 (List.mem_of_getElem? hi)
      have p1 := p.same s1
      refine (p1.hS i s0 c hi hc).elim fun slb slk slf db d1 d2 d3 d4 hP hb0 => ?_
      refine rMeth rfl hb0 rfl ⟨_, rfl, AtAhead.mk c db slb slk slf _ _ rfl hb0 ?_⟩
      have eo : ((place : Int) - (s0.base : Int) + 2147483648) % 4294967296 - 2147483648 = off s0 place := (off_eq so.base hpl).symm
      rw [eo]
      clear eo
      refine g3 _ _ (seqI fun U4 g4 => ?_)
      refine ⟨_, rfl, mkI ⟨_, rfl, ?_⟩⟩
      refine ite2 (fun h1 => ?_) (fun h1 => ?_)
      · have h1' : off s0 place < 0 := of_decide_eq_true h1
        have k' := k D H1 0 (Fram.same s1)
        rw [act_ack1 hfd h1'] at k'
        exact k' (hA.same s1) hok rfl
      have h1' : ¬ off s0 place < 0 := fun q => h1 (decide_eq_true q)
      refine g4 _ _ (seqI fun U5 g5 => ?_)
      refine ⟨_, rfl, rMeth rfl hb0 rfl (AtKnownGap.mk c slb slk slf _ _ _ s0.known rfl hP so.known (mkI ⟨_, rfl, ?_⟩))⟩
      refine ite2 (fun h2 => ?_) (fun h2 => ?_)
      · have h2' : ((Kp135.run s0.known : Nat) : Int) < off s0 place := of_decide_eq_true h2
        have k' := k D H1 (-34) (Fram.same s1)
        rw [act_ack2 hfd h1' (ack1 h2')] at k'
        exact k' (hA.same s1) hok rfl
      have h2' : ¬ ((Kp135.run s0.known : Nat) : Int) < off s0 place := fun q => h2 (decide_eq_true q)
      obtain ⟨q1, en, hn1⟩ := ack2 h1' h2'
      have act0 := act_ack3 hok hi hfd h1' q1
      clear q1
      rw [en]
      generalize (off s0 place).toNat = n at act0 hn1
      obtain ⟨hn, hn2⟩ := ack3 hn1 (run_le s0.known) so.known
      have hall := (run_all (l := s0.known) (k := n) hn2).mp hn1
      obtain ⟨m1, m2⟩ := moved_stream hn hall
      refine g5 _ _ (seqI fun U6 g6 => ?_)
      refine rMeth rfl hb0 rfl ⟨_, rfl, AtMoveBase.mk c slb slk slf _ _ _ _ n rfl hP (by rw [encN_length]; exact Nat.le_trans so.tail (by decide)) (by rw [encT_length, so.known]; exact Nat.le_refl _) hn fun H2 lb' lk' k2 nb nk hP2 => ?_⟩
      rw [m1, m2] at hP2
      have eb : ((s0.base : Int) + (n : Int)) % 4294967296 = (((received s0 n).base : Nat) : Int) := by
        rw [received_base]
        exact base_mod s0.base n
      have hl2 := p1.put (t := received s0 n) hi hc (received_name s0 n) k2 (stream_received eb (.inl d1) (.inr nb) (.inr nk) (.inl d4) hP2)
      have k' := k (fun c => D c ∨ H1 c = none) H2 0 ⟨fun c d => d.elim .inl fun q => .inr (s1.free q), fun c' o e nc => k2 c' o (s1 _ _ e) fun q => nc (by rw [q]; exact d1)⟩
      rw [act0] at k'
      refine g6 _ _ ?_
      exact k' hl2 (hok.set hi (received_name s0 n) (received_ok so hn)) rfl
inductive AtClose (K : PySem.W.Frag) (C : Cs) (vs : List V) (H : Hp) (Q : VK) : Prop
  | mk (L l : Addr) (name : List Nat) (a : Abs) (D : Addr → Prop) (h0_ : vs = [.ref L, .ref l]) (h1_ : LineAt D C H L a) (h2_ : AOk a) (h3_ : SqL K H l (vI (encN name))) (h4_ : Says C D H L a (.close name) Q) : AtClose K C vs H Q
noncomputable def spClose (K : PySem.W.Frag) (C : Cs) : Sp := fun vs H Q _ => AtClose K C vs H Q
theorem scClose : FnScope ["self", "name"] ["self", "name"] (defScope sClose) := ⟨rfl, rfl, rfl, by decide +kernel, rfl, by decide +kernel, by decide +kernel⟩
theorem ok_close {f : Addr} {fd : FuncData} (F : Fun K "fl_close" "Line.fl_close" sClose f fd) (T : Txt mg) (TL : TxtL mg) (LC : LCls K C.l) (M0 : Method P w K mg base 1 C.l "stream_of" ["self", "name"] (spStreamOf K C)) : FnOk P w K mg base CX0 2 f fd ["self", "name"] (spClose K C) := by
  refine F.ok scClose (fun vs H Q E h => ?_) (fun cdv A outer s H vs Q E hr h => ?_)
  · obtain ⟨L, l, name, a, D, rfl, _⟩ := h
    rfl
  · obtain ⟨L, l, name, a, D, rfl, hA, hok, hS, k⟩ := h
    have hu := hu_of hr
    refine hA.elim fun lw ld as dx p hL => ?_
    refine ⟨_, pss_cons (ps_if (pt_cmp (pc_isN (pe_method (pv 0) LC.cl M0 hr (pa_cons (pv 1) pa_nil)))) (pss_one (ps_ret (pe_num TL.noSuch rfl))) pss_nil)
      (pss_cons (ps_expr (pe_dpopT hu (pe_fld (pv 0) rfl) (pe_callTy call_tuple_of rfl T.tuple bTuple (pa_cons (pv 1) pa_nil)) ⟨rfl, rfl, rfl, rfl⟩))
      (pss_one (ps_ret (pe_num TL.done rfl)))), ?_⟩
    dsimp only [cxOf, Cx.nox, Cx.wish]
    refine seqI fun U1 g1 => ?_
    refine rMeth rfl hL rfl ⟨_, rfl, AtStreamOf.mk L l lw ld as name a D rfl p hS (fun hfd H1 s1 => ⟨_, rfl, iteT ?_⟩) fun s0 i c hfd hi hc hnm H1 s1 => ⟨_, rfl, iteF (g1 _ _ (seqI fun U2 g2 => ?_))⟩⟩
    · have e : Kp135.act a default (.close name) = (a, default, .num (-2)) := if_pos (by unfold Kp135.find; rw [hfd]; rfl)
      have k' := k D H1 (-2) (Fram.same s1)
      rw [e] at k'
      exact k' (hA.same s1) hok rfl
    · have e : Kp135.act a default (.close name) = ({ a with streams := a.streams.filter fun s => s.name != name }, default, .num 0) := if_neg (by unfold Kp135.find; rw [hfd]; exact Bool.false_ne_true)
      rw [close_eq hok hi hnm] at e
      refine rFld rfl (s1 _ _ hL) LC.cl LC.nS lf_streams ⟨ld, rfl, .inr ⟨_, .inl (s1 _ _ p.hD)⟩, _, rfl, l, _, rfl, .inl ⟨s1.seq hS, fun t2 n2 => ?_⟩⟩
      have s2 : Same H1 (upd H1 t2 (.tup (vI (encN name)))) := same_upd n2
      have ht2 : (upd H1 t2 (.tup (vI (encN name)))) t2 = some (.tup ((keyOf name).map kV)) := by rw [upd_same, key_vals]
      have s12 := s1.trans s2
      obtain ⟨i', c', _, _, _, hv⟩ := kvs_some p.len hfd
      refine ⟨_, keyOf name, _, t2, s12 _ _ p.hD, rfl, ht2, hv, ?_⟩
      have k' := k D (upd (upd H1 t2 (.tup (vI (encN name)))) ld (.dT (dropK (kvsOf a.streams as) (keyOf name)))) 0 ⟨fun b d => .inl d, fun b o eb nb => by
        rw [upd_ne fun q => nb (by rw [q]; exact p.dD)]
        exact s12 _ _ eb⟩
      rw [e] at k'
      refine g2 _ _ ?_
      exact k' (p.lost hok hi hnm (fun b o eb hb => by rw [upd_ne hb]; exact s12 _ _ eb) upd_same) hok.erase rfl
noncomputable def stateOf (a : Abs) (s : Kp135.Stream) : List Nat := [s.base, Kp134.weight a.rules s.found, Kp135.run s.known, (s.known.filter fun x => x.isSome).length]
inductive AtState (K : PySem.W.Frag) (C : Cs) (vs : List V) (H : Hp) (Q : VK) : Prop
  | mk (L l : Addr) (name : List Nat) (a : Abs) (D : Addr → Prop) (h0_ : vs = [.ref L, .ref l]) (h1_ : LineAt D C H L a) (h2_ : AOk a) (h3_ : SqL K H l (vI (encN name))) (h4_ : (Kp135.find a name = none → ∀ H', Same H H' → Q (.int (-2)) H')) (h5_ : (∀ s, Kp135.find a name = some s → ∀ (H' : Hp) (p : Addr), Same H H' → H' p = some (.lst (vI (encN (stateOf a s)))) → Q (.ref p) H')) : AtState K C vs H Q
noncomputable def spState (K : PySem.W.Frag) (C : Cs) : Sp := fun vs H Q _ => AtState K C vs H Q
theorem scState : FnScope ["self", "name", "stream", "weight"] ["self", "name"] (defScope sState) := ⟨rfl, rfl, rfl, by decide +kernel, rfl, by decide +kernel, by decide +kernel⟩
theorem ok_state {f : Addr} {fd : FuncData} (F : Fun K "fl_state" "Line.fl_state" sState f fd) (T : Txt mg) (TL : TxtL mg) (LC : LCls K C.l) (SC : SCls K C.s) (M0 : Method P w K mg base 1 C.l "stream_of" ["self", "name"] (spStreamOf K C)) (C1 : Callee P w K mg base 1 "weight_of" ["words", "times"] (spWeightOf K C.w))
    (M2 : Method P w K mg base 1 C.s "known_without_gap" ["self"] (spKnownGap C.s)) (M3 : Method P w K mg base 1 C.s "known_in_all" ["self"] (spKnownAll C.s)) : FnOk P w K mg base CX0 2 f fd ["self", "name"] (spState K C) := by
  refine F.ok scState (fun vs H Q E h => ?_) (fun cdv A outer s H vs Q E hr h => ?_)
  · obtain ⟨L, l, name, a, D, rfl, _⟩ := h
    rfl
  · obtain ⟨L, l, name, a, D, rfl, hA, hok, hS, k1, k2⟩ := h
    refine hA.elim fun lw ld as dx p hL => ?_
    refine ⟨_, pss_cons (ps_set (i := 2) scState.nd rfl (Or.inl rfl) (pe_method (pv 0) LC.cl M0 hr (pa_cons (pv 1) pa_nil)))
      (pss_cons (ps_if (pt_cmp (pc_isN (pv 2))) (pss_one (ps_ret (pe_num TL.noSuch rfl))) pss_nil)
      (pss_cons (ps_set (i := 3) scState.nd rfl (Or.inl rfl) (pe_callee C1 hr rfl (pa_cons (pe_fld (pv 0) rfl) (pa_cons (pe_fld (pv 2) rfl) pa_nil))))
      (pss_one (ps_ret (pe_lst (pa_cons (pe_fld (pv 2) rfl) (pa_cons (pv 3) (pa_cons (pe_method0 (pv 2) SC.cl M2 hr) (pa_cons (pe_method0 (pv 2) SC.cl M3 hr) pa_nil))))))))), ?_⟩
    dsimp only [cxOf, Cx.nox, Cx.wish]
    refine seqI fun U1 g1 => ?_
    refine rMeth rfl hL rfl ⟨_, rfl, AtStreamOf.mk L l lw ld as name a D rfl p hS (fun hfd H1 s1 => g1 _ _ (seqI fun U2 g2 => ⟨_, rfl, ?_⟩)) fun s0 i c hfd hi hc hnm H1 s1 => g1 _ _ (seqI fun U2 g2 => ⟨_, rfl, ?_⟩)⟩
    · exact ⟨_, rfl, iteT (k1 hfd H1 s1)⟩
    · refine ⟨_, rfl, iteF (g2 _ _ (seqI fun U3 g3 => ?_))⟩
      have so := hok.ok s0 (List.mem_of_getElem? hi)
      have p1 := p.same s1
      refine (p1.hS i s0 c hi hc).elim fun slb slk slf db d1 d2 d3 d4 hP hb0 => ?_
      refine rFld rfl (s1 _ _ hL) LC.cl LC.nW lf_words (rFld rfl hb0 SC.cl SC.nF sf_found (AtWeightOf.mk lw slf a.rules.words s0.found D rfl p1.hW hok.words hok.wlen (SqL.of hP.hf) so.found fun H2 s2 => ?_))
      have hb2 := s2 _ _ hb0
      have hP2 := hP.same s2
      refine g3 _ _ ?_
      refine rFld rfl hb2 SC.cl SC.nB sf_base ⟨_, rfl, rMeth rfl hb2 rfl (AtKnownGap.mk c slb slk slf _ _ _ s0.known rfl hP2 so.known ?_)⟩
      refine rMeth rfl hb2 rfl (AtKnownAll.mk c slb slk slf _ _ _ s0.known rfl hP2 so.known ⟨(by show 4 ≤ sizeLine; decide), fun q nq => ?_⟩)
      have s3 := s2.trans (same_upd (o := .lst [V.int (s0.base : Int), V.int ((weigh a.rules.words s0.found : Nat) : Int), V.int ((Kp135.run s0.known : Nat) : Int), V.int (((s0.known.filter fun x => x.isSome).length : Nat) : Int)]) nq)
      refine k2 s0 hfd _ q (s1.trans s3) ?_
      rw [upd_same]
      unfold stateOf
      rw [weight_eq so.found]
      rfl
end
end WL
end
section
set_option Elab.async false
set_option linter.all false
set_option maxRecDepth 100000
set_option maxHeartbeats 2000000
namespace WL
open PySem PySem.Spec PyProof.Rows L2
open Kp134 (Word Rules Text)
open Kp135 (ROUND WINDOW off here beyond clash fill with_ received Abs)
noncomputable abbrev sAStart : Stmt := top 44
noncomputable abbrev sAOpen : Stmt := top 45
noncomputable abbrev sAPiece : Stmt := top 46
noncomputable abbrev sAAck : Stmt := top 47
noncomputable abbrev sAClose : Stmt := top 48
noncomputable abbrev sAState : Stmt := top 49
noncomputable abbrev sACall : Stmt := top 50
theorem WordAt.tight {D : Addr → Prop} {C a : Addr} {H : Hp} {w : Word} (x : WordAt D C H a w) : WordAt (fun b => D b ∧ H b ≠ none) C H a w := by
  obtain ⟨dx, sp, d1, d2, h1, h2⟩ := x.ex
  exact ⟨dx, sp, ⟨d1, by rw [h1]; intro z; cases z⟩, ⟨d2, by rw [h2]; intro z; cases z⟩, h1, h2⟩
theorem LineAt.tight {D : Addr → Prop} {C : Cs} {H : Hp} {L : Addr} {a : Abs} (x : LineAt D C H L a) : LineAt (fun b => D b ∧ H b ≠ none) C H L a := by
  obtain ⟨lw, ld, as, p⟩ := x.ex
  obtain ⟨dx, hL⟩ := p.hL
  obtain ⟨was, d1, h1, h2, h3⟩ := p.hW.ex
  refine ⟨lw, ld, as, ⟨p.dL, by rw [hL]; intro z; cases z⟩, ⟨p.dD, by rw [p.hD]; intro z; cases z⟩, ⟨dx, hL⟩, ⟨was, ⟨d1, by rw [h1]; intro z; cases z⟩, h1, h2, fun i b v e1 e2 => (h3 i b v e1 e2).tight⟩, p.hD, p.len, p.nd, fun i s b e1 e2 => ?_⟩
  refine (p.hS i s b e1 e2).elim fun lb lk lf dxs d1 d2 d3 d4 h ha => ?_
  exact ⟨lb, lk, lf, ⟨d1, by rw [ha]; intro z; cases z⟩, ⟨d2, by rw [h.hb]; intro z; cases z⟩, ⟨d3, by rw [h.hk]; intro z; cases z⟩, ⟨d4, by rw [h.hf]; intro z; cases z⟩, h⟩
noncomputable def Src (K : PySem.W.Frag) (D : Addr → Prop) (H : Hp) (a : Addr) (xs : List V) : Prop := (¬ D a ∧ Rd H a (.lst xs)) ∨ SqL K (fun _ => none) a xs
theorem Src.seq {K : PySem.W.Frag} {D : Addr → Prop} {H : Hp} {a : Addr} {xs : List V} (h : Src K D H a xs) : SqL K H a xs := by
  rcases h with h | h
  · exact .inl h.2
  · exact Same.seq (H := fun _ => none) (fun _ _ e => by cases e) h
theorem Src.keep {K : PySem.W.Frag} {D D' : Addr → Prop} {H H' : Hp} {a r C dx : Addr} {xs : List V} {fs : List (Str × V)} (h : Src K D H a xs) (own : ∀ b, D' b → D b ∨ H b = none) (k : ∀ b o, H b = some o → ¬ D b → b ≠ r → H' b = some o) (hr : H r = some (.ins C dx fs)) : Src K D' H' a xs := by
  rcases h with ⟨nd, h⟩ | h
  · refine .inl ?_
    rcases h with h | ⟨o, h⟩
    · exact ⟨fun d => (own a d).elim nd fun e => (by rw [h] at e; cases e), .inl (k _ _ h nd (ne_of h hr (by intro z; cases z)))⟩
    · exact ⟨fun d => (own a d).elim nd fun e => (by rw [h] at e; cases e), .inr ⟨o, k _ _ h nd (ne_of h hr (by intro z; cases z))⟩⟩
  · exact .inr h
structure Ent (K : PySem.W.Frag) (C : Cs) (CR : Addr) (D : Addr → Prop) (H : Hp) (L r a : Addr) (ns : List Int) (ab : Abs) (pos : Nat) : Prop where
  hA : LineAt D C H L ab
  ok : AOk ab
  nr : ¬ D r
  hr : ∃ dx, H r = some (.ins CR dx (readerF a (pos : Int)))
  src : Src K D H a (vI ns)
theorem Ent.moved {K : PySem.W.Frag} {C : Cs} {CR : Addr} {D : Addr → Prop} {H H' : Hp} {L r a dx : Addr} {ns : List Int} {ab : Abs} {pos pos' : Nat} (x : Ent K C CR D H L r a ns ab pos) (k : ∀ b o, H b = some o → b ≠ r → H' b = some o) (h : H' r = some (.ins CR dx (readerF a (pos' : Int)))) :
    Ent K C CR D H' L r a ns ab pos' := by
  obtain ⟨dx0, hr⟩ := x.hr
  refine ⟨x.hA.keep (fun _ d => d) fun b o d e => k b o e fun z => x.nr (by rw [← z]; exact d), x.ok, x.nr, ⟨dx, h⟩, x.src.keep (fun _ d => .inl d) (fun b o e _ hb => k b o e hb) hr⟩
noncomputable def Told (C : Cs) (CR : Addr) (D : Addr → Prop) (H : Hp) (L r a : Addr) (ab : Abs) (q : Kp135.Call) (pos' : Nat) (Q : VK) : Prop :=
  ∀ (D' : Addr → Prop) (H' : Hp) (p : Addr), (∀ b, D' b → D b ∨ H b = none) → (∀ b o, H b = some o → ¬ D b → b ≠ r → H' b = some o) → LineAt D' C H' L (Kp135.act ab default q).1 → AOk (Kp135.act ab default q).1 →
    (∃ dx, H' r = some (.ins CR dx (readerF a (pos' : Int)))) → (∀ b o, H b = some o → ¬ D b → b ≠ p) → H' p = some (.lst (vI (Kp135Neutral.ansOf (Kp135.act ab default q).2.2))) → Q (.ref p) H'
theorem drop_get {l : List Int} {i : Nat} {x : Int} {r : List Int} (h : l.drop i = x :: r) : l[i]? = some x ∧ l.drop (i + 1) = r := by
  have e : (l.drop i)[0]? = some x := by rw [h]; rfl
  rw [List.getElem?_drop] at e
  refine ⟨e, ?_⟩
  rw [← List.drop_drop, h]
  rfl
theorem drop_row {l : List Int} {i : Nat} {x r : List Int} (h : l.drop i = (x.length : Int) :: (x ++ r)) : l[i]? = some (x.length : Int) ∧ (l.drop (i + 1)).take x.length = x ∧ l.drop (i + 1 + x.length) = r := by
  obtain ⟨h1, h2⟩ := drop_get h
  refine ⟨h1, ?_, ?_⟩
  · rw [h2, List.take_append, Nat.sub_self, List.take_zero, List.append_nil, List.take_of_length_le (Nat.le_refl _)]
  · rw [← List.drop_drop, h2, List.drop_append, Nat.sub_self, List.drop_zero, List.drop_eq_nil_of_le (Nat.le_refl _), List.nil_append]
structure TxtW (mg : Str → Option Value) : Prop where
  flStart : Num mg "FL_START" 0
  flOpen : Num mg "FL_OPEN" 1
  flPiece : Num mg "FL_PIECE" 2
  flAck : Num mg "FL_ACK" 3
  flClose : Num mg "FL_CLOSE" 4
  flState : Num mg "FL_STATE" 5
  numberForm : Num mg "NUMBER_FORM" 0
  stateForm : Num mg "STATE_FORM" 1
theorem told_of {C : Cs} {CR : Addr} {D : Addr → Prop} {H H2 : Hp} {L r a : Addr} {ab : Abs} {q : Kp135.Call} {pos' : Nat} {Q : VK} (hq : Told C CR D H L r a ab q pos' Q) (nr : ¬ D r) (k : ∀ b o, H b = some o → b ≠ r → H2 b = some o)
    (h2 : ∃ dx, H2 r = some (.ins CR dx (readerF a (pos' : Int)))) (hn : ∀ b, H2 b = none → H b = none) : Says C D H2 L ab q fun v H' => ∀ p, H' p = none → Q (.ref p) (upd H' p (.lst [V.int 0, v])) := by
  intro D' H' v fr hA hok e p np
  obtain ⟨dx, h2⟩ := h2
  have nf : ∀ b o, H2 b = some o → ¬ D b → H' b = some o := fr.keep
  have kp : ∀ b o, H b = some o → ¬ D b → b ≠ p := fun b o eb nd => by
    by_cases hb : b = r
    · rw [hb]
      exact ne_of_none (nf r _ h2 nr) np
    · exact ne_of_none (nf b o (k b o eb hb) nd) np
  refine hq D' _ p (fun b d => (fr.own b d).imp id (hn b)) (fun b o eb nd hb => ?_) (hA.same (same_upd np)) hok ⟨dx, ?_⟩ kp ?_
  · rw [upd_ne (kp b o eb nd)]
    exact nf b o (k b o eb hb) nd
  · rw [upd_ne (ne_of_none (nf r _ h2 nr) np)]
    exact nf r _ h2 nr
  · rw [upd_same, e]
    rfl
theorem free_moved {H H' : Hp} {r : Addr} {o' : HO} (k : ∀ b o, H b = some o → b ≠ r → H' b = some o) (h : H' r = some o') : ∀ b, H' b = none → H b = none := fun b e => by
  have hb : b ≠ r := (ne_of_none h e).symm
  cases z : H b with
  | none => rfl
  | some o => rw [k b o z hb] at e; cases e
section
variable {P : Program} {w : World} {K : PySem.W.Frag} {mg : Str → Option Value} {base : Heap} {C : Cs} {CR : Addr}
inductive AtAStart (K : PySem.W.Frag) (C : Cs) (CR : Addr) (vs : List V) (H : Hp) (Q : VK) : Prop
  | mk (L r a : Addr) (D : Addr → Prop) (ns rl rest : List Int) (ab : Abs) (pos lim : Nat) (h0_ : vs = [.ref L, .ref r]) (h1_ : Ent K C CR D H L r a ns ab pos) (h2_ : ns.drop pos = (lim : Int) :: ((rl.length : Int) :: (rl ++ rest))) (h3_ : rl.length ≤ 100000) (h4_ : rl.length % 20 = 0) (h5_ : Bytes rl) (h6_ : Told C CR D H L r a ab (.start (Kp135Neutral.rules rl) lim [] 0) (pos + 2 + rl.length) Q) : AtAStart K C CR vs H Q
noncomputable def spAStart (K : PySem.W.Frag) (C : Cs) (CR : Addr) : Sp := fun vs H Q _ => AtAStart K C CR vs H Q
theorem scAStart : FnScope ["line", "reader", "limit", "rules"] ["line", "reader"] (defScope sAStart) := ⟨rfl, rfl, rfl, by decide +kernel, rfl, by decide +kernel, by decide +kernel⟩
theorem ok_aStart {f : Addr} {fd : FuncData} (F : Fun K "answer_start" "answer_start" sAStart f fd) (TW : TxtW mg) (LC : LCls K C.l) (RC : RCls K CR) (M1 : Method P w K mg base 1 CR "read_number" ["self"] (spReadNum K CR)) (M2 : Method P w K mg base 2 CR "read_row" ["self"] (spReadRow K CR))
    (M3 : Method P w K mg base 5 C.l "fl_start" ["self", "limit", "rules"] (spStart K C)) : FnOk P w K mg base CX0 6 f fd ["line", "reader"] (spAStart K C CR) := by
  refine F.ok scAStart (fun vs H Q E h => ?_) (fun cdv A outer s H vs Q E hr h => ?_)
  · obtain ⟨L, r, a, D, ns, rl, rest, ab, pos, lim, rfl, _⟩ := h
    rfl
  · obtain ⟨L, r, a, D, ns, rl, rest, ab, pos, lim, rfl, en, hd, hlen, h20, hby, k⟩ := h
    obtain ⟨dx, hr0⟩ := en.hr
    have g1 := (drop_get hd).1
    have hd1 := (drop_get hd).2
    have g2 := (drop_row hd1).1
    have g3 := (drop_row hd1).2.1
    refine ⟨_, pss_cons (ps_set (i := 2) scAStart.nd rfl (Or.inl rfl) (pe_method0 (pv 1) RC.cl M1 (hr.mono (by decide))))
      (pss_cons (ps_set (i := 3) scAStart.nd rfl (Or.inl rfl) (pe_method0 (pv 1) RC.cl M2 (hr.mono (by decide))))
      (pss_one (ps_ret (pe_lst (pa_cons (pe_num TW.numberForm rfl) (pa_cons (pe_method (pv 0) LC.cl M3 hr (pa_cons (pv 2) (pa_cons (pv 3) pa_nil))) pa_nil)))))), ?_⟩
    refine seqI fun U1 zz1 => ?_
    refine rMeth rfl hr0 rfl (AtReadNum.mk r dx a pos ns _ rfl hr0 en.src.seq g1 ?_)
    have k1 : ∀ b o, H b = some o → b ≠ r → (upd H r (.ins CR dx (readerF a ((pos + 1 : Nat) : Int)))) b = some o := fun b o e hb => (upd_ne hb).trans e
    have hr1 : (upd H r (.ins CR dx (readerF a ((pos + 1 : Nat) : Int)))) r = some (.ins CR dx (readerF a ((pos + 1 : Nat) : Int))) := upd_same
    generalize upd H r (.ins CR dx (readerF a ((pos + 1 : Nat) : Int))) = H1 at k1 hr1
    have en1 := en.moved k1 hr1
    refine zz1 _ _ (seqI fun U2 zz2 => ?_)
    refine rMeth rfl hr1 rfl (AtReadRow.mk r dx a (pos + 1) rl.length ns rfl hr1 en1.src.seq g2 fun H2 p k2 np hr2 hp => ?_)
    rw [g3] at hp
    have en2 := en1.moved k2 hr2
    refine en2.hA.elim fun lw ld as dxl pl hL => ?_
    have k12 : ∀ b o, H b = some o → b ≠ r → H2 b = some o := fun b o e hb => k2 b o (k1 b o e hb) hb
    refine zz2 _ _ ?_
    refine rMeth rfl hL rfl ⟨_, rfl, _, rfl, AtStart.mk L p lim rl ab D rfl en2.hA en.ok (SqL.of hp) hlen h20 hby ?_⟩
    have := told_of (H2 := H2) k en.nr k12 ⟨dx, hr2⟩ (free_moved k12 hr2)
    intro D' H' v f1 f2 f3 f4
    exact ⟨(by show 2 ≤ sizeLine; decide), this D' H' v f1 f2 f3 f4⟩
inductive AtAOpen (K : PySem.W.Frag) (C : Cs) (CR : Addr) (vs : List V) (H : Hp) (Q : VK) : Prop
  | mk (L r a : Addr) (D : Addr → Prop) (ns rest : List Int) (name : List Nat) (ab : Abs) (pos first : Nat) (h0_ : vs = [.ref L, .ref r]) (h1_ : Ent K C CR D H L r a ns ab pos) (h2_ : ns.drop pos = (first : Int) :: (((encN name).length : Int) :: (encN name ++ rest))) (h3_ : name.length = 16) (h4_ : first < ROUND) (h5_ : Told C CR D H L r a ab (.open_ name first) (pos + 2 + 16) Q) : AtAOpen K C CR vs H Q
noncomputable def spAOpen (K : PySem.W.Frag) (C : Cs) (CR : Addr) : Sp := fun vs H Q _ => AtAOpen K C CR vs H Q
theorem scAOpen : FnScope ["line", "reader", "first", "name"] ["line", "reader"] (defScope sAOpen) := ⟨rfl, rfl, rfl, by decide +kernel, rfl, by decide +kernel, by decide +kernel⟩
theorem ok_aOpen {f : Addr} {fd : FuncData} (F : Fun K "answer_open" "answer_open" sAOpen f fd) (TW : TxtW mg) (LC : LCls K C.l) (RC : RCls K CR) (M1 : Method P w K mg base 1 CR "read_number" ["self"] (spReadNum K CR)) (M2 : Method P w K mg base 2 CR "read_row" ["self"] (spReadRow K CR))
    (M3 : Method P w K mg base 3 C.l "fl_open" ["self", "first", "name"] (spOpen K C)) : FnOk P w K mg base CX0 4 f fd ["line", "reader"] (spAOpen K C CR) := by
  refine F.ok scAOpen (fun vs H Q E h => ?_) (fun cdv A outer s H vs Q E hr h => ?_)
  · obtain ⟨L, r, a, D, ns, rest, name, ab, pos, first, rfl, _⟩ := h
    rfl
  · obtain ⟨L, r, a, D, ns, rest, name, ab, pos, first, rfl, en, hd, hlen, hf, k⟩ := h
    obtain ⟨dx, hr0⟩ := en.hr
    have g1 := (drop_get hd).1
    have hd1 := (drop_get hd).2
    have g2 := (drop_row hd1).1
    have g3 := (drop_row hd1).2.1
    refine ⟨_, pss_cons (ps_set (i := 2) scAOpen.nd rfl (Or.inl rfl) (pe_method0 (pv 1) RC.cl M1 (hr.mono (by decide))))
      (pss_cons (ps_set (i := 3) scAOpen.nd rfl (Or.inl rfl) (pe_method0 (pv 1) RC.cl M2 (hr.mono (by decide))))
      (pss_one (ps_ret (pe_lst (pa_cons (pe_num TW.numberForm rfl) (pa_cons (pe_method (pv 0) LC.cl M3 hr (pa_cons (pv 2) (pa_cons (pv 3) pa_nil))) pa_nil)))))), ?_⟩
    refine seqI fun U1 zz1 => ?_
    refine rMeth rfl hr0 rfl (AtReadNum.mk r dx a pos ns _ rfl hr0 en.src.seq g1 ?_)
    have k1 : ∀ b o, H b = some o → b ≠ r → (upd H r (.ins CR dx (readerF a ((pos + 1 : Nat) : Int)))) b = some o := fun b o e hb => (upd_ne hb).trans e
    have hr1 : (upd H r (.ins CR dx (readerF a ((pos + 1 : Nat) : Int)))) r = some (.ins CR dx (readerF a ((pos + 1 : Nat) : Int))) := upd_same
    generalize upd H r (.ins CR dx (readerF a ((pos + 1 : Nat) : Int))) = H1 at k1 hr1
    have en1 := en.moved k1 hr1
    refine zz1 _ _ (seqI fun U2 zz2 => ?_)
    refine rMeth rfl hr1 rfl (AtReadRow.mk r dx a (pos + 1) ((encN name).length) ns rfl hr1 en1.src.seq g2 fun H2 p k2 np hr2 hp => ?_)
    rw [g3] at hp
    have en2 := en1.moved k2 hr2
    refine en2.hA.elim fun lw ld as dxl pl hL => ?_
    have k12 : ∀ b o, H b = some o → b ≠ r → H2 b = some o := fun b o e hb => k2 b o (k1 b o e hb) hb
    refine zz2 _ _ ?_
    refine rMeth rfl hL rfl ⟨_, rfl, _, rfl, AtOpen.mk L p first name ab D rfl en2.hA en.ok (SqL.of hp) hlen hf ?_⟩
    have := told_of (H2 := H2) k en.nr k12 ⟨dx, by rw [hr2, encN_length, hlen]⟩ (free_moved k12 hr2)
    intro D' H' v f1 f2 f3 f4
    exact ⟨(by show 2 ≤ sizeLine; decide), this D' H' v f1 f2 f3 f4⟩
inductive AtAPiece (K : PySem.W.Frag) (C : Cs) (CR : Addr) (vs : List V) (H : Hp) (Q : VK) : Prop
  | mk (L r a : Addr) (D : Addr → Prop) (ns rest : List Int) (name b : List Nat) (ab : Abs) (pos place : Nat) (h0_ : vs = [.ref L, .ref r]) (h1_ : Ent K C CR D H L r a ns ab pos) (h2_ : ns.drop pos = (place : Int) :: (((encN name).length : Int) :: (encN name ++ (((encN b).length : Int) :: (encN b ++ rest))))) (h3_ : name.length = 16) (h4_ : place < ROUND) (h5_ : Told C CR D H L r a ab (.piece name place (pieceOf b)) (pos + 2 + 16 + 1 + b.length) Q) : AtAPiece K C CR vs H Q
noncomputable def spAPiece (K : PySem.W.Frag) (C : Cs) (CR : Addr) : Sp := fun vs H Q _ => AtAPiece K C CR vs H Q
theorem scAPiece : FnScope ["line", "reader", "place", "name", "b"] ["line", "reader"] (defScope sAPiece) := ⟨rfl, rfl, rfl, by decide +kernel, rfl, by decide +kernel, by decide +kernel⟩
theorem ok_aPiece {f : Addr} {fd : FuncData} (F : Fun K "answer_piece" "answer_piece" sAPiece f fd) (TW : TxtW mg) (LC : LCls K C.l) (RC : RCls K CR) (M1 : Method P w K mg base 1 CR "read_number" ["self"] (spReadNum K CR)) (M2 : Method P w K mg base 2 CR "read_row" ["self"] (spReadRow K CR))
    (M3 : Method P w K mg base 5 C.l "fl_piece" ["self", "place", "name", "b"] (spPiece K C)) : FnOk P w K mg base CX0 6 f fd ["line", "reader"] (spAPiece K C CR) := by
  refine F.ok scAPiece (fun vs H Q E h => ?_) (fun cdv A outer s H vs Q E hr h => ?_)
  · obtain ⟨L, r, a, D, ns, rest, name, b, ab, pos, place, rfl, _⟩ := h
    rfl
  · obtain ⟨L, r, a, D, ns, rest, name, b, ab, pos, place, rfl, en, hd, hlen, hf, k⟩ := h
    obtain ⟨dx, hr0⟩ := en.hr
    have g1 := (drop_get hd).1
    have hd1 := (drop_get hd).2
    have g2 := (drop_row hd1).1
    have g3 := (drop_row hd1).2.1
    have hd2 := (drop_row hd1).2.2
    have g4 := (drop_row hd2).1
    have g5 := (drop_row hd2).2.1
    refine ⟨_, pss_cons (ps_set (i := 2) scAPiece.nd rfl (Or.inl rfl) (pe_method0 (pv 1) RC.cl M1 (hr.mono (by decide))))
      (pss_cons (ps_set (i := 3) scAPiece.nd rfl (Or.inl rfl) (pe_method0 (pv 1) RC.cl M2 (hr.mono (by decide))))
      (pss_cons (ps_set (i := 4) scAPiece.nd rfl (Or.inl rfl) (pe_method0 (pv 1) RC.cl M2 (hr.mono (by decide))))
      (pss_one (ps_ret (pe_lst (pa_cons (pe_num TW.numberForm rfl) (pa_cons (pe_method (pv 0) LC.cl M3 hr (pa_cons (pv 2) (pa_cons (pv 3) (pa_cons (pv 4) pa_nil)))) pa_nil))))))), ?_⟩
    refine seqI fun U1 zz1 => ?_
    refine rMeth rfl hr0 rfl (AtReadNum.mk r dx a pos ns _ rfl hr0 en.src.seq g1 ?_)
    have k1 : ∀ b o, H b = some o → b ≠ r → (upd H r (.ins CR dx (readerF a ((pos + 1 : Nat) : Int)))) b = some o := fun b o e hb => (upd_ne hb).trans e
    have hr1 : (upd H r (.ins CR dx (readerF a ((pos + 1 : Nat) : Int)))) r = some (.ins CR dx (readerF a ((pos + 1 : Nat) : Int))) := upd_same
    generalize upd H r (.ins CR dx (readerF a ((pos + 1 : Nat) : Int))) = H1 at k1 hr1
    have en1 := en.moved k1 hr1
    refine zz1 _ _ (seqI fun U2 zz2 => ?_)
    refine rMeth rfl hr1 rfl (AtReadRow.mk r dx a (pos + 1) ((encN name).length) ns rfl hr1 en1.src.seq g2 fun H2 p k2 np hr2 hp => ?_)
    rw [g3] at hp
    have en2 := en1.moved k2 hr2
    refine zz2 _ _ (seqI fun U3 zz3 => ?_)
    refine rMeth rfl hr2 rfl (AtReadRow.mk r dx a (pos + 1 + 1 + (encN name).length) ((encN b).length) ns rfl hr2 en2.src.seq g4 fun H3 p3 k3 np3 hr3 hp3 => ?_)
    rw [g5] at hp3
    have en3 := en2.moved k3 hr3
    refine en3.hA.elim fun lw ld as dxl pl hL => ?_
    have k13 : ∀ b o, H b = some o → b ≠ r → H3 b = some o := fun b o e hb => k3 b o (k2 b o (k1 b o e hb) hb) hb
    have npr : p ≠ r := (ne_of_none hr1 np).symm
    refine zz3 _ _ ?_
    refine rMeth rfl hL rfl ⟨_, rfl, _, rfl, _, rfl, AtPiece.mk L p p3 place name b ab D rfl en3.hA en.ok (SqL.of (k3 _ _ hp npr)) hp3 hf ?_⟩
    have := told_of (H2 := H3) k en.nr k13 ⟨dx, by rw [hr3, encN_length, encN_length, hlen]⟩ (free_moved k13 hr3)
    intro D' H' v f1 f2 f3 f4
    exact ⟨(by show 2 ≤ sizeLine; decide), this D' H' v f1 f2 f3 f4⟩
end
end WL
end
section
set_option Elab.async false
set_option linter.all false
set_option maxRecDepth 100000
set_option maxHeartbeats 2000000
namespace WL
open PySem PySem.Spec PyProof.Rows L2
open Kp134 (Word Rules Text)
open Kp135 (ROUND WINDOW off here beyond clash fill with_ received Abs)
theorem told_same {C : Cs} {CR : Addr} {D : Addr → Prop} {H H2 H3 : Hp} {L r a p : Addr} {ab : Abs} {q : Kp135.Call} {pos' : Nat} {Q : VK} {o : HO} (hq : Told C CR D H L r a ab q pos' Q) (nr : ¬ D r) (ok : AOk ab) (k : ∀ b o, H b = some o → b ≠ r → H2 b = some o)
    (h2 : ∃ dx, H2 r = some (.ins CR dx (readerF a (pos' : Int)))) (hA : LineAt D C H2 L ab) (e1 : (Kp135.act ab default q).1 = ab) (s : Same H2 H3) (np : H3 p = none) (e2 : o = .lst (vI (Kp135Neutral.ansOf (Kp135.act ab default q).2.2))) : Q (.ref p) (upd H3 p o) := by
  obtain ⟨dx, h2⟩ := h2
  have kp : ∀ b o, H b = some o → ¬ D b → b ≠ p := fun b o eb nd => by
    by_cases hb : b = r
    · rw [hb]
      exact ne_of_none (s _ _ h2) np
    · exact ne_of_none (s _ _ (k b o eb hb)) np
  refine hq D _ p (fun b d => .inl d) (fun b o eb nd hb => ?_) ?_ ?_ ⟨dx, ?_⟩ kp ?_
  · rw [upd_ne (kp b o eb nd)]
    exact s _ _ (k b o eb hb)
  · rw [e1]
    exact (hA.same s).same (same_upd np)
  · rw [e1]
    exact ok
  · rw [upd_ne (ne_of_none (s _ _ h2) np)]
    exact s _ _ h2
  · rw [upd_same, e2]
section
variable {P : Program} {w : World} {K : PySem.W.Frag} {mg : Str → Option Value} {base : Heap} {C : Cs} {CR : Addr}
inductive AtAAck (K : PySem.W.Frag) (C : Cs) (CR : Addr) (vs : List V) (H : Hp) (Q : VK) : Prop
  | mk (L r a : Addr) (D : Addr → Prop) (ns rest : List Int) (name : List Nat) (ab : Abs) (pos place : Nat) (h0_ : vs = [.ref L, .ref r]) (h1_ : Ent K C CR D H L r a ns ab pos) (h2_ : ns.drop pos = (place : Int) :: (((encN name).length : Int) :: (encN name ++ rest))) (h3_ : name.length = 16) (h4_ : place < ROUND) (h5_ : Told C CR D H L r a ab (.ack name place) (pos + 2 + 16) Q) : AtAAck K C CR vs H Q
noncomputable def spAAck (K : PySem.W.Frag) (C : Cs) (CR : Addr) : Sp := fun vs H Q _ => AtAAck K C CR vs H Q
theorem scAAck : FnScope ["line", "reader", "place", "name"] ["line", "reader"] (defScope sAAck) := ⟨rfl, rfl, rfl, by decide +kernel, rfl, by decide +kernel, by decide +kernel⟩
theorem ok_aAck {f : Addr} {fd : FuncData} (F : Fun K "answer_ack" "answer_ack" sAAck f fd) (TW : TxtW mg) (LC : LCls K C.l) (RC : RCls K CR) (M1 : Method P w K mg base 1 CR "read_number" ["self"] (spReadNum K CR)) (M2 : Method P w K mg base 2 CR "read_row" ["self"] (spReadRow K CR))
    (M3 : Method P w K mg base 2 C.l "fl_ack" ["self", "place", "name"] (spAck K C)) : FnOk P w K mg base CX0 3 f fd ["line", "reader"] (spAAck K C CR) := by
  refine F.ok scAAck (fun vs H Q E h => ?_) (fun cdv A outer s H vs Q E hr h => ?_)
  · obtain ⟨L, r, a, D, ns, rest, name, ab, pos, place, rfl, _⟩ := h
    rfl
  · obtain ⟨L, r, a, D, ns, rest, name, ab, pos, place, rfl, en, hd, hlen, hf, k⟩ := h
    obtain ⟨dx, hr0⟩ := en.hr
    have g1 := (drop_get hd).1
    have hd1 := (drop_get hd).2
    have g2 := (drop_row hd1).1
    have g3 := (drop_row hd1).2.1
    refine ⟨_, pss_cons (ps_set (i := 2) scAAck.nd rfl (Or.inl rfl) (pe_method0 (pv 1) RC.cl M1 (hr.mono (by decide))))
      (pss_cons (ps_set (i := 3) scAAck.nd rfl (Or.inl rfl) (pe_method0 (pv 1) RC.cl M2 (hr.mono (by decide))))
      (pss_one (ps_ret (pe_lst (pa_cons (pe_num TW.numberForm rfl) (pa_cons (pe_method (pv 0) LC.cl M3 hr (pa_cons (pv 2) (pa_cons (pv 3) pa_nil))) pa_nil)))))), ?_⟩
    refine seqI fun U1 zz1 => ?_
    refine rMeth rfl hr0 rfl (AtReadNum.mk r dx a pos ns _ rfl hr0 en.src.seq g1 ?_)
    have k1 : ∀ b o, H b = some o → b ≠ r → (upd H r (.ins CR dx (readerF a ((pos + 1 : Nat) : Int)))) b = some o := fun b o e hb => (upd_ne hb).trans e
    have hr1 : (upd H r (.ins CR dx (readerF a ((pos + 1 : Nat) : Int)))) r = some (.ins CR dx (readerF a ((pos + 1 : Nat) : Int))) := upd_same
    generalize upd H r (.ins CR dx (readerF a ((pos + 1 : Nat) : Int))) = H1 at k1 hr1
    have en1 := en.moved k1 hr1
    refine zz1 _ _ (seqI fun U2 zz2 => ?_)
    refine rMeth rfl hr1 rfl (AtReadRow.mk r dx a (pos + 1) ((encN name).length) ns rfl hr1 en1.src.seq g2 fun H2 p k2 np hr2 hp => ?_)
    rw [g3] at hp
    have en2 := en1.moved k2 hr2
    refine en2.hA.elim fun lw ld as dxl pl hL => ?_
    have k12 : ∀ b o, H b = some o → b ≠ r → H2 b = some o := fun b o e hb => k2 b o (k1 b o e hb) hb
    refine zz2 _ _ ?_
    refine rMeth rfl hL rfl ⟨_, rfl, _, rfl, AtAck.mk L p place name ab D rfl en2.hA en.ok (SqL.of hp) hf ?_⟩
    have := told_of (H2 := H2) k en.nr k12 ⟨dx, by rw [hr2, encN_length, hlen]⟩ (free_moved k12 hr2)
    intro D' H' v f1 f2 f3 f4
    exact ⟨(by show 2 ≤ sizeLine; decide), this D' H' v f1 f2 f3 f4⟩
inductive AtAClose (K : PySem.W.Frag) (C : Cs) (CR : Addr) (vs : List V) (H : Hp) (Q : VK) : Prop
  | mk (L r a : Addr) (D : Addr → Prop) (ns rest : List Int) (name : List Nat) (ab : Abs) (pos : Nat) (h0_ : vs = [.ref L, .ref r]) (h1_ : Ent K C CR D H L r a ns ab pos) (h2_ : ns.drop pos = ((encN name).length : Int) :: (encN name ++ rest)) (h3_ : name.length = 16) (h4_ : Told C CR D H L r a ab (.close name) (pos + 1 + 16) Q) : AtAClose K C CR vs H Q
noncomputable def spAClose (K : PySem.W.Frag) (C : Cs) (CR : Addr) : Sp := fun vs H Q _ => AtAClose K C CR vs H Q
theorem scAClose : FnScope ["line", "reader", "name"] ["line", "reader"] (defScope sAClose) := ⟨rfl, rfl, rfl, by decide +kernel, rfl, by decide +kernel, by decide +kernel⟩
theorem ok_aClose {f : Addr} {fd : FuncData} (F : Fun K "answer_close" "answer_close" sAClose f fd) (TW : TxtW mg) (LC : LCls K C.l) (RC : RCls K CR) (M2 : Method P w K mg base 2 CR "read_row" ["self"] (spReadRow K CR))
    (M3 : Method P w K mg base 2 C.l "fl_close" ["self", "name"] (spClose K C)) : FnOk P w K mg base CX0 3 f fd ["line", "reader"] (spAClose K C CR) := by
  refine F.ok scAClose (fun vs H Q E h => ?_) (fun cdv A outer s H vs Q E hr h => ?_)
  · obtain ⟨L, r, a, D, ns, rest, name, ab, pos, rfl, _⟩ := h
    rfl
  · obtain ⟨L, r, a, D, ns, rest, name, ab, pos, rfl, en, hd, hlen, k⟩ := h
    obtain ⟨dx, hr0⟩ := en.hr
    have g2 := (drop_row hd).1
    have g3 := (drop_row hd).2.1
    refine ⟨_, pss_cons (ps_set (i := 2) scAClose.nd rfl (Or.inl rfl) (pe_method0 (pv 1) RC.cl M2 hr))
      (pss_one (ps_ret (pe_lst (pa_cons (pe_num TW.numberForm rfl) (pa_cons (pe_method (pv 0) LC.cl M3 hr (pa_cons (pv 2) pa_nil)) pa_nil))))), ?_⟩
    refine seqI fun U1 zz1 => ?_
    refine rMeth rfl hr0 rfl (AtReadRow.mk r dx a pos ((encN name).length) ns rfl hr0 en.src.seq g2 fun H2 p k2 np hr2 hp => ?_)
    rw [g3] at hp
    have en2 := en.moved k2 hr2
    refine en2.hA.elim fun lw ld as dxl pl hL => ?_
    refine zz1 _ _ ?_
    refine rMeth rfl hL rfl ⟨_, rfl, AtClose.mk L p name ab D rfl en2.hA en.ok (SqL.of hp) ?_⟩
    have := told_of (H2 := H2) k en.nr k2 ⟨dx, by rw [hr2, encN_length, hlen]⟩ (free_moved k2 hr2)
    intro D' H' v f1 f2 f3 f4
    exact ⟨(by show 2 ≤ sizeLine; decide), this D' H' v f1 f2 f3 f4⟩
inductive AtAState (K : PySem.W.Frag) (C : Cs) (CR : Addr) (vs : List V) (H : Hp) (Q : VK) : Prop
  | mk (L r a : Addr) (D : Addr → Prop) (ns rest : List Int) (name : List Nat) (ab : Abs) (pos : Nat) (h0_ : vs = [.ref L, .ref r]) (h1_ : Ent K C CR D H L r a ns ab pos) (h2_ : ns.drop pos = ((encN name).length : Int) :: (encN name ++ rest)) (h3_ : name.length = 16) (h4_ : Told C CR D H L r a ab (.state name) (pos + 1 + 16) Q) : AtAState K C CR vs H Q
noncomputable def spAState (K : PySem.W.Frag) (C : Cs) (CR : Addr) : Sp := fun vs H Q _ => AtAState K C CR vs H Q
theorem scAState : FnScope ["line", "reader", "name", "out"] ["line", "reader"] (defScope sAState) := ⟨rfl, rfl, rfl, by decide +kernel, rfl, by decide +kernel, by decide +kernel⟩
theorem shaped_int (i : Int) : SeqAt.shaped (.int i) = true := rfl
theorem eqv_self (i : Int) : PyData.eqv (.int i) (.int i) = true := by
  show (i == i) = true
  exact beq_self_eq_true i
theorem ok_aState {f : Addr} {fd : FuncData} (F : Fun K "answer_state" "answer_state" sAState f fd) (T : Txt mg) (TL : TxtL mg) (TW : TxtW mg) (LC : LCls K C.l) (RC : RCls K CR) (M2 : Method P w K mg base 2 CR "read_row" ["self"] (spReadRow K CR))
    (M3 : Method P w K mg base 2 C.l "fl_state" ["self", "name"] (spState K C)) : FnOk P w K mg base CX0 3 f fd ["line", "reader"] (spAState K C CR) := by
  refine F.ok scAState (fun vs H Q E h => ?_) (fun cdv A outer s H vs Q E hr h => ?_)
  · obtain ⟨L, r, a, D, ns, rest, name, ab, pos, rfl, _⟩ := h
    rfl
  · obtain ⟨L, r, a, D, ns, rest, name, ab, pos, rfl, en, hd, hlen, k⟩ := h
    obtain ⟨dx, hr0⟩ := en.hr
    have g2 := (drop_row hd).1
    have g3 := (drop_row hd).2.1
    refine ⟨_, pss_cons (ps_set (i := 2) scAState.nd rfl (Or.inl rfl) (pe_method0 (pv 1) RC.cl M2 hr))
      (pss_cons (ps_set (i := 3) scAState.nd rfl (Or.inl rfl) (pe_method (pv 0) LC.cl M3 hr (pa_cons (pv 2) pa_nil)))
      (pss_cons (ps_if (pt_cmpR (op_eqD hr.units) (pv 3) (pe_num TL.noSuch rfl) (nomark _)) (pss_one (ps_ret (pe_lst (pa_cons (pe_num TW.numberForm rfl) (pa_cons (pv 3) pa_nil))))) pss_nil)
      (pss_one (ps_ret (pe_op op_cat (pe_lst (pa_cons (pe_num TW.stateForm rfl) (pa_cons (pe_callB call_len_seq rfl T.len PySem.boot_len (pa_cons (pv 3) pa_nil)) pa_nil))) (pv 3)))))), ?_⟩
    dsimp only [cxOf, Cx.nox, Cx.wish]
    refine seqI fun U1 zz1 => ?_
    refine rMeth rfl hr0 rfl (AtReadRow.mk r dx a pos ((encN name).length) ns rfl hr0 en.src.seq g2 fun H2 p k2 np hr2 hp => ?_)
    rw [g3] at hp
    have en2 := en.moved k2 hr2
    refine en2.hA.elim fun lw ld as dxl pl hL => ?_
    have h2r : ∃ dx, H2 r = some (.ins CR dx (readerF a ((pos + 1 + 16 : Nat) : Int))) := ⟨dx, by rw [hr2, encN_length, hlen]⟩
    refine zz1 _ _ (seqI fun U2 zz2 => ?_)
    refine rMeth rfl hL rfl ⟨_, rfl, AtState.mk L p name ab D rfl en2.hA en.ok (SqL.of hp) (fun hfd H3 s3 => ?_) fun s0 hfd H3 q s3 hq => ?_⟩
    · have e : Kp135.act ab default (.state name) = (ab, default, .num (-2)) := by
        show (match Kp135.find ab name with | none => _ | some s => _) = _
        rw [hfd]
      refine zz2 _ _ (seqI fun U3 zz3 => ?_)
      refine ⟨_, rfl, .int (-2), .int (-2), .int _, .int _, shaped_int _, shaped_int _, _, rfl, ?_⟩
      rw [eqv_self]
      refine iteT ⟨_, rfl, (by show 2 ≤ sizeLine; decide), fun t nt => ?_⟩
      exact told_same k en.nr en.ok k2 h2r en2.hA (by rw [e]) s3 nt (by rw [e]; rfl)
    · have e : Kp135.act ab default (.state name) = (ab, default, .out (stateOf ab s0)) := by
        show (match Kp135.find ab name with | none => _ | some s => _) = _
        rw [hfd]
        rfl
      refine zz2 _ _ (seqI fun U3 zz3 => ?_)
      refine ⟨_, rfl, .list ((encN (stateOf ab s0)).map PyData.int), .int (-2), .lst (SqL.of hq) (dp_ints _), .int _, shaped_ints _, shaped_int _, _, rfl, iteF ?_⟩
      refine zz3 _ _ ?_
      refine ⟨_, rfl, q, _, rfl, .inl (SqL.of hq), (by show 2 ≤ sizeLine; decide), fun t nt => ?_⟩
      have s4 := same_upd (o := .lst [V.int 1, V.int (((vI (encN (stateOf ab s0))).length : Nat) : Int)]) nt
      refine ⟨_, rfl, mkCat upd_same (s4 _ _ hq) ⟨(by show 2 + 4 ≤ sizeLine; decide), fun t2 n2 => ?_⟩⟩
      exact told_same k en.nr en.ok k2 h2r en2.hA (by rw [e]) (s3.trans s4) n2 (by rw [e]; rfl)
end
end WL
end
section
set_option Elab.async false
set_option linter.all false
set_option maxRecDepth 100000
set_option maxHeartbeats 2000000
namespace WL
open PySem PySem.Spec PyProof.Rows L2
open Kp134 (Word Rules Text)
open Kp135 (ROUND WINDOW off here beyond clash fill with_ received Abs)
noncomputable abbrev sAnswers : Stmt := top 51
theorem pe_maker0 {X : Cx} {k : Nat} {x : Str} {C : Addr} {ps : List Str} {sp : Sp} {p pos : Pos} (M : Maker X.prog X.w X.K X.mg X.base k x C ps sp) (hr : Room (k + 1) X.A) (hg : Gl X x) (hdb : (x == ("__debug__" : Str)) = false := by decide) :
    PE X (.Call (.Name x p) [] [] pos) (tMake C sp [] E0 tNil) := by
  obtain ⟨f, fd, h1, h2, h3, h4⟩ := M.ex
  exact pe_make0 h2 h4 hr hg h1 h3 .nil pass0 hdb
theorem asked_call {c : List (List Int)} (h : Form c) : ∃ q, Kp135Neutral.callOf c = some q := by
  rcases h with ⟨_, _, rfl⟩ | ⟨_, _, rfl⟩ | ⟨_, _, _, rfl⟩ | ⟨_, _, rfl⟩ | ⟨_, rfl⟩ | ⟨_, rfl⟩ <;> exact ⟨_, rfl⟩
theorem asked_put {c : List (List Int)} (h : Form c) : 0 < (PyFlat.put1 c).length := by
  rcases h with ⟨_, _, rfl⟩ | ⟨_, _, rfl⟩ | ⟨_, _, _, rfl⟩ | ⟨_, _, rfl⟩ | ⟨_, rfl⟩ | ⟨_, rfl⟩ <;> exact Nat.succ_pos _
theorem opens_start {c : List (List Int)} {q : Kp135.Call} (hf : Form c) (h : Kp135Neutral.opens c = true) (e : Kp135Neutral.callOf c = some q) : ∃ r n k w, q = .start r n k w := by
  rcases hf with ⟨_, _, rfl⟩ | ⟨_, _, rfl⟩ | ⟨_, _, _, rfl⟩ | ⟨_, _, rfl⟩ | ⟨_, rfl⟩ | ⟨_, rfl⟩
  · exact ⟨_, _, _, _, (Option.some.inj e).symm⟩
  all_goals exact absurd (show false = true from h) Bool.false_ne_true
theorem asked_cons {s : Kp135Neutral.S} {c : List (List Int)} {cs : List (List (List Int))} (h : Kp135Neutral.askedFrom s (c :: cs) = true) : Kp135Neutral.asked1 c = true ∧ (s.isSome = true ∨ Kp135Neutral.opens c = true) ∧ Kp135Neutral.askedFrom (stepS s c).1 cs = true := by
  have h' : (Kp135Neutral.asked1 c && (Kp135Neutral.may s c && Kp135Neutral.askedFrom (Kp135Neutral.step s c).1 cs)) = true := h
  rw [Bool.and_eq_true, Bool.and_eq_true] at h'
  refine ⟨h'.1, ?_, h'.2.2⟩
  have m := h'.2.1
  unfold Kp135Neutral.may at m
  exact Bool.or_eq_true _ _ ▸ m
theorem ans_few (a : Abs) (q : Kp135.Call) : (Kp135Neutral.ansOf (Kp135.act a default q).2.2).length ≤ 6 := by
  unfold Kp135.act
  split
  all_goals (repeat' split)
  all_goals first | (show 2 ≤ 6; decide) | (show 6 ≤ 6; decide) | (dsimp only; split <;> (show 2 ≤ 6; decide))
section
variable {P : Program} {w : World} {K : PySem.W.Frag} {mg : Str → Option Value} {base : Heap} {C : Cs} {CR : Addr}
inductive AtACall (K : PySem.W.Frag) (C : Cs) (CR : Addr) (vs : List V) (H : Hp) (Q : VK) : Prop
  | mk (L r a : Addr) (D : Addr → Prop) (ns rest : List Int) (c : List (List Int)) (q : Kp135.Call) (ab : Abs) (pos : Nat) (h0_ : vs = [.ref L, .ref r]) (h1_ : Ent K C CR D H L r a ns ab pos) (h2_ : ns.drop pos = PyFlat.put1 c ++ rest) (h3_ : ns.length ≤ 30000) (h4_ : Kp135Neutral.asked1 c = true) (h5_ : Form c) (h6_ : Kp135Neutral.callOf c = some q) (h7_ : Told C CR D H L r a ab q (pos + (PyFlat.put1 c).length) Q) : AtACall K C CR vs H Q
noncomputable def spACall (K : PySem.W.Frag) (C : Cs) (CR : Addr) : Sp := fun vs H Q _ => AtACall K C CR vs H Q
inductive AtAnswers (K : PySem.W.Frag) (vs : List V) (H : Hp) (Q : VK) : Prop
  | mk (a : Addr) (ns : List Int) (h0_ : vs = [.ref a]) (h1_ : SqL K H a (vI ns)) (h2_ : ns.length ≤ 30000) (h3_ : PyKp135.answers_asked ns = true) (h4_ : ∀ (H' : Hp) (p : Addr), H' p = some (.lst (vI (PyKp135.answers ns))) → Q (.ref p) H') : AtAnswers K vs H Q
noncomputable def spAnswers (K : PySem.W.Frag) : Sp := fun vs H Q _ => AtAnswers K vs H Q
theorem scAnswers : FnScope ["calls", "line", "reader", "answered", "answer"] ["calls"] (defScope sAnswers) := ⟨rfl, rfl, rfl, by decide +kernel, rfl, by decide +kernel, by decide +kernel⟩
inductive Turn (K : PySem.W.Frag) (C : Cs) (CR : Addr) (a L r out : Addr) (ns total : List Int) (m : Nat) (σ : L2.St) (H : Hp) : Prop
  | mk (v : Option V) (s : Kp135Neutral.S) (cs : List (List (List Int))) (done : List Int) (D : Addr → Prop) (pos : Nat) (h0_ : σ = [some (.ref a), some (.ref L), some (.ref r), some (.ref out), v]) (h1_ : Ent K C CR D H L r a ns (absOf s) pos) (h2_ : (∀ b, D b → H b ≠ none)) (h3_ : H out = some (.lst (vI done))) (h4_ : ¬ D out) (h5_ : ns.drop pos = PyFlat.put cs) (h6_ : Kp135Neutral.askedFrom s cs = true) (h7_ : done ++ outOf s cs = total) (h8_ : cs.length = m) (h9_ : cs.length ≤ 3000) (h10_ : done.length ≤ 7 * (3000 - cs.length)) (h11_ : (SqL K (fun _ => none) a (vI ns) ∨ a ≠ out)) (h12_ : ∀ c ∈ cs, Form c) : Turn K C CR a L r out ns total m σ H
theorem ok_answers {f : Addr} {fd : FuncData} (F : Fun K "answers" "answers" sAnswers f fd) (T : Txt mg) (RC : RCls K CR) (ML : Maker P w K mg base 1 "Line" C.l ["self"] (spLineInit C)) (MR : Maker P w K mg base 1 "Reader" CR ["self", "numbers"] (spRdInit CR))
    (M1 : Method P w K mg base 1 CR "has_more" ["self"] (spHasMore K CR)) (CA : Callee P w K mg base 8 "answer_call" ["line", "reader"] (spACall K C CR)) : FnOk P w K mg base CX0 9 f fd ["calls"] (spAnswers K) := by
  refine F.ok scAnswers (fun vs H Q E h => ?_) (fun cdv A outer s H vs Q E hr h => ?_)
  · obtain ⟨a, ns, rfl, _⟩ := h
    rfl
  · obtain ⟨a, ns, rfl, hS, hlen, hask, k⟩ := h
    obtain ⟨cs0, hput, h3000, hform, hfrom, hans⟩ := answers_of hask
    refine ⟨_, pss_cons (ps_set (i := 1) scAnswers.nd rfl (Or.inl rfl) (pe_maker0 ML (hr.mono (by decide)) rfl))
      (pss_cons (ps_set (i := 2) scAnswers.nd rfl (Or.inl rfl) (pe_maker MR (hr.mono (by decide)) rfl (pa_cons (pv 0) pa_nil)))
      (pss_cons (ps_set (i := 3) scAnswers.nd rfl (Or.inl rfl) (pe_lst pa_nil))
      (pss_cons (ps_while PassesOwn.never (pt_val (pe_method0 (pv 2) RC.cl M1 (hr.mono (by decide))))
        (pss_cons (ps_set (i := 4) scAnswers.nd rfl (Or.inl rfl) (pe_callee CA hr rfl (pa_cons (pv 1) (pa_cons (pv 2) pa_nil))))
        (pss_cons (ps_expr (pe_bm PySem.F.plainAttrs_list PySem.F.slot_list_append PySem.F.type_list_append mt_append (pv 3) (pa_cons (pe_callB call_len_seq rfl T.len PySem.boot_len (pa_cons (pv 4) pa_nil)) pa_nil)))
        (pss_one (ps_expr (pe_bm PySem.F.plainAttrs_list PySem.F.slot_list_extend PySem.F.type_list_extend mt_extend (pv 3) (pa_cons (pv 4) pa_nil)))))))
      (pss_one (ps_ret (pv 3)))))), ?_⟩
    dsimp only [cxOf, Cx.nox, Cx.wish]
    refine seqI fun U1 g1 => ?_
    intro L dL nL ndL _
    have sx : Same H (upd (upd H dL (.own L)) L (.ins C.l dL [])) := fun b o e => by
      rw [upd_ne (ne_of_none e nL), upd_ne (ne_of_none e ndL)]
      exact e
    refine AtLineInit.mk L dL rfl upd_same fun H1 k1 hA1 => ⟨rfl, ?_⟩
    have s1 : Same H H1 := fun b o e => k1 b o (sx _ _ e) (ne_of_none e nL)
    have hA1' := hA1.tight
    have own1 : ∀ b, (fun b => (b = L ∨ (upd (upd H dL (.own L)) L (.ins C.l dL [])) b = none) ∧ H1 b ≠ none) b → H b = none := fun b d => by
      rcases d.1 with z | z
      · rw [z]; exact nL
      · exact sx.free z
    have src1 : Src K (fun b => (b = L ∨ (upd (upd H dL (.own L)) L (.ins C.l dL [])) b = none) ∧ H1 b ≠ none) H1 a (vI ns) := by
      rcases hS with (h | ⟨o, h⟩) | h
      · exact .inl ⟨fun d => (by have := own1 a d; rw [h] at this; cases this), .inl (s1 _ _ h)⟩
      · exact .inl ⟨fun d => (by have := own1 a d; rw [h] at this; cases this), .inr ⟨o, s1 _ _ h⟩⟩
      · exact .inr (.inr h)
    have tight1 : ∀ b, (fun b => (b = L ∨ (upd (upd H dL (.own L)) L (.ins C.l dL [])) b = none) ∧ H1 b ≠ none) b → H1 b ≠ none := fun b d => d.2
    generalize (fun b => (b = L ∨ (upd (upd H dL (.own L)) L (.ins C.l dL [])) b = none) ∧ H1 b ≠ none) = D1 at hA1' src1 tight1
    clear hA1 k1 sx own1 s1 hS nL ndL
    refine g1 _ _ (seqI fun U2 g2 => ?_)
    refine ⟨_, rfl, fun r dr nr ndr _ => ?_⟩
    have sx : Same H1 (upd (upd H1 dr (.own r)) r (.ins CR dr [])) := fun b o e => by
      rw [upd_ne (ne_of_none e nr), upd_ne (ne_of_none e ndr)]
      exact e
    refine AtRdInit.mk r dr a rfl upd_same fun H2 k2 hr2 => ⟨rfl, ?_⟩
    have s2 : Same H1 H2 := fun b o e => k2 b o (sx _ _ e) (ne_of_none e nr)
    refine g2 _ _ (seqI fun U3 g3 => ?_)
    refine ⟨Nat.zero_le _, fun out nout => ?_⟩
    have s3 : Same H2 (upd H2 out (.lst [])) := same_upd nout
    have hout : (upd H2 out (.lst [])) out = some (.lst (vI [])) := upd_same
    generalize upd H2 out (.lst []) = H3 at s3 hout
    have s13 := s2.trans s3
    have en : Ent K C CR D1 H3 L r a ns (absOf Kp135Neutral.start) 0 := by
      refine ⟨hA1'.same s13, dummy_ok, fun d => tight1 r d nr, ⟨dr, s3 _ _ hr2⟩, ?_⟩
      rcases src1 with ⟨nd, h⟩ | h
      · refine .inl ⟨nd, ?_⟩
        rcases h with h | ⟨o, h⟩
        · exact .inl (s13 _ _ h)
        · exact .inr ⟨o, s13 _ _ h⟩
      · exact .inr h
    refine g3 _ _ (seqI fun U4 g4 => ?_)
    refine ⟨Turn K C CR a L r out ns (outOf Kp135Neutral.start cs0), ⟨cs0.length, ⟨none, Kp135Neutral.start, cs0, [], D1, 0, rfl, en, fun b d z => ?_, hout, fun d => tight1 out d (s2.free nout), hput, hfrom, rfl, rfl, h3000, Nat.zero_le _, ?_, hform⟩⟩, ?_⟩
    · cases e : H1 b with
      | none => exact tight1 b d e
      | some o => rw [s13 _ _ e] at z; cases z
    · rcases src1 with ⟨_, h⟩ | h
      · refine .inr ?_
        rcases h with h | ⟨o, h⟩
        · exact ne_of_none (s2 _ _ h) nout
        · exact ne_of_none (s2 _ _ h) nout
      · exact .inl h
    clear en hout s13 s3 sx s2 k2 hr2 tight1 src1 hA1' nout nr ndr
    rintro m σ H ⟨v, s, cs, done, D, pos, rfl, en, tight, ho, nd, hd, hfr, htot, hm, h3, hdone, hao, hfm⟩
    obtain ⟨dx, hr0⟩ := en.hr
    refine rMeth rfl hr0 rfl (AtHasMore.mk r dx a pos ns rfl hr0 en.src.seq ⟨_, rfl, ?_⟩)
    cases cs with
    | nil =>
      have hp : ¬ pos < ns.length := fun q => by
        have := congrArg List.length hd
        rw [List.length_drop] at this
        have z : (PyFlat.put []).length = 0 := rfl
        omega
      rw [decide_eq_false hp]
      refine iteF ?_
      refine g4 _ _ ⟨_, rfl, k _ _ ?_⟩
      rw [hans, ← htot, outOf_nil, List.append_nil]
      exact ho
    | cons c cs =>
      obtain ⟨a1, a2, a3⟩ := asked_cons hfr
      have hf := hfm c (List.mem_cons_self ..)
      obtain ⟨q, hq⟩ := asked_call hf
      have hpl := asked_put hf
      have hd' : ns.drop pos = PyFlat.put1 c ++ PyFlat.put cs := hd
      have hp : pos < ns.length := by
        have := congrArg List.length hd'
        rw [List.length_drop, List.length_append] at this
        omega
      rw [decide_eq_true hp]
      refine iteT ⟨fun σ' H' => ∃ m', m' < m ∧ Turn K C CR a L r out ns (outOf Kp135Neutral.start cs0) m' σ' H', fun σ' H' z => z, ?_⟩
      obtain ⟨e1, e2⟩ := step_abs (s := s) hq (a2.imp id fun z => opens_start hf z hq)
      refine seqI fun U5 g5 => ?_
      refine ⟨_, rfl, _, rfl, AtACall.mk L r a D ns (PyFlat.put cs) c q (absOf s) pos rfl en (hd') hlen a1 hf hq fun D' H' p own kp hA hok hr' hnp hp' => ?_⟩
      rw [← e2] at hp'
      rw [← e1] at hA hok
      have few : (stepS s c).2.length ≤ 6 := by rw [e2]; exact ans_few _ _
      generalize hans2 : (stepS s c).2 = an at hp' few
      have nor : out ≠ r := ne_of ho hr0 (by intro z; cases z)
      have ho' := kp out _ ho nd nor
      have nop : out ≠ p := hnp out _ ho nd
      have hrp : r ≠ p := hnp r _ hr0 en.nr
      have ld : done.length ≤ 21000 := by omega
      refine g5 _ _ (seqI fun U6 g6 => ?_)
      refine ⟨_, rfl, .inl ⟨rfl, _, SqL.of ho'⟩, _, rfl, p, _, rfl, .inl (SqL.of hp'), out, _, _, rfl, rfl, ho', ?_, ?_⟩
      · rw [List.length_map]
        exact Nat.lt_of_le_of_lt ld (by decide)
      rw [List.length_map]
      refine g6 _ _ ?_
      refine ⟨_, rfl, .inl ⟨rfl, _, SqL.of upd_same⟩, _, rfl, out, p, _, _, rfl, rfl, upd_same, (upd_ne nop.symm).trans hp', ?_, ?_⟩
      · rw [List.length_append, List.length_map, List.length_map]
        exact Nat.le_trans (show done.length + [V.int (an.length : Int)].length + an.length ≤ 22000 by show done.length + 1 + an.length ≤ 22000; omega) (by decide)
      have kk : ∀ b o, H' b = some o → b ≠ out → upd (upd H' out (.lst (vI done ++ [V.int (an.length : Int)]))) out (.lst (vI done ++ [V.int (an.length : Int)] ++ vI an)) b = some o := fun b o e hb => by
        rw [upd_ne hb, upd_ne hb]
        exact e
      have nd' : ¬ D' out := fun d => (own out d).elim nd fun e => by rw [ho] at e; cases e
      have hA' := (hA.tight).keep (H' := upd (upd H' out (.lst (vI done ++ [V.int (an.length : Int)]))) out (.lst (vI done ++ [V.int (an.length : Int)] ++ vI an))) (fun _ d => d) fun b o d e => kk b o e fun z => nd' (by rw [← z]; exact d.1)
      obtain ⟨dx', hr'⟩ := hr'
      have src' := en.src.keep own kp hr0
      refine ⟨cs.length, by rw [← hm, List.length_cons]; exact Nat.lt_succ_self _, some (.ref p), (stepS s c).1, cs, done ++ ((an.length : Int) :: an), (fun b => D' b ∧ H' b ≠ none), pos + (PyFlat.put1 c).length, rfl, ⟨hA', hok, ?_, ⟨dx', kk _ _ hr' nor.symm⟩, ?_⟩, fun b d z => ?_, ?_, fun d => nd' d.1, ?_, a3, ?_, rfl, ?_, ?_, hao, fun c' h' => hfm c' (List.mem_cons_of_mem _ h')⟩
      · exact fun d => (own r d.1).elim en.nr fun e => by rw [hr0] at e; cases e
      · rcases hao with hao | hao
        · exact .inr hao
        rcases src' with ⟨n1, h⟩ | h
        · refine .inl ⟨fun d => n1 d.1, ?_⟩
          rcases h with h | ⟨o, h⟩
          · exact .inl (kk _ _ h hao)
          · exact .inr ⟨o, kk _ _ h hao⟩
        · exact .inr h
      · by_cases hb : b = out
        · rw [hb, upd_same] at z
          cases z
        · rw [upd_ne hb, upd_ne hb] at z
          exact d.2 z
      · rw [upd_same]
        unfold vI
        rw [List.map_append, List.append_assoc]
        rfl
      · rw [← List.drop_drop, hd', List.drop_append, Nat.sub_self, List.drop_zero, List.drop_eq_nil_of_le (Nat.le_refl _), List.nil_append]
      · rw [← htot, outOf_cons, hans2, List.append_assoc]
      · rw [List.length_cons] at h3; omega
      · rw [List.length_append, List.length_cons]
        rw [List.length_cons] at h3 hdone
        omega
end
end WL
end
section
set_option Elab.async false
set_option linter.all false
set_option maxRecDepth 100000
set_option maxHeartbeats 2000000
namespace WL
open PySem PySem.Spec PyProof.Rows L2
open Kp134 (Word Rules Text)
open Kp135 (ROUND WINDOW off here beyond clash fill with_ received Abs)
noncomputable def tNever : TS := fun _ _ _ => False
theorem ps_never {X : Cx} {st : Stmt} : PS X st tNever := fun _ _ _ _ _ _ h => h.elim
theorem rIf {σ : L2.St} {i : Nat} {z j : Int} {A B : Prop} (hv : σ[i]? = some (some (V.int z))) (hA : z = j → A) (hB : z ≠ j → B) :
    ∃ x, σ[i]? = some (some x) ∧ (scal x (V.int j) = true ∧ ∃ c, V.bl (decide (x = V.int j)) = V.bl c ∧ if c = true then A else B) := by
  refine ⟨_, hv, rfl, _, rfl, ?_⟩
  by_cases e : z = j
  · rw [if_pos (decide_eq_true (by rw [e]))]
    exact hA e
  · rw [if_neg fun q => e (V.int.inj (of_decide_eq_true q))]
    exact hB e
theorem Told.step {C : Cs} {CR : Addr} {D : Addr → Prop} {H H1 : Hp} {L r a : Addr} {ab : Abs} {q : Kp135.Call} {pos' : Nat} {Q : VK} {o1 : HO} (x : Told C CR D H L r a ab q pos' Q) (nr : ¬ D r) (k : ∀ b o, H b = some o → b ≠ r → H1 b = some o) (h1 : H1 r = some o1) : Told C CR D H1 L r a ab q pos' Q := by
  intro D' H' p own kp hA ok hr hnp hp
  refine x D' H' p (fun b d => (own b d).imp id (free_moved k h1 b)) (fun b o e nd hb => kp b o (k b o e hb) nd hb) hA ok hr (fun b o e nd => ?_) hp
  by_cases hb : b = r
  · rw [hb]
    exact hnp r _ h1 nr
  · exact hnp b _ (k b o e hb) nd
theorem nat32 {z : Int} (h : Kp135Neutral.natural z 32 = true) : 0 ≤ z ∧ z.toNat < ROUND := by
  unfold Kp135Neutral.natural at h
  rw [Bool.and_eq_true] at h
  have h1 := of_decide_eq_true h.1
  have h2 : z < 4294967296 := of_decide_eq_true h.2
  unfold ROUND
  exact ⟨h1, by omega⟩
theorem row8 {x : List Int} (h : (x.all fun z => Kp135Neutral.natural z 8) = true) : Bytes x := fun z hz => by
  have q := List.all_eq_true.mp h z hz
  unfold Kp135Neutral.natural at q
  rw [Bool.and_eq_true] at q
  exact ⟨of_decide_eq_true q.1, of_decide_eq_true q.2⟩
theorem name_of {x : List Int} (h : (decide (x.length = 16) && x.all fun z => Kp135Neutral.natural z 8) = true) : ∃ name, encN name = x ∧ name.length = 16 ∧ Kp135Neutral.nats x = name := by
  rw [Bool.and_eq_true] at h
  refine ⟨_, encN_nats fun z hz => (row8 h.2 z hz).1, ?_, rfl⟩
  unfold Kp135Neutral.nats
  rw [List.length_map]
  exact of_decide_eq_true h.1
structure Six (K : PySem.W.Frag) (C : Cs) (CR L r : Addr) (H : Hp) (Q : VK) (z : Int) : Prop where
  c0 : z = 0 → ∀ E, spAStart K C CR [V.ref L, V.ref r] H Q E
  c1 : z = 1 → ∀ E, spAOpen K C CR [V.ref L, V.ref r] H Q E
  c2 : z = 2 → ∀ E, spAPiece K C CR [V.ref L, V.ref r] H Q E
  c3 : z = 3 → ∀ E, spAAck K C CR [V.ref L, V.ref r] H Q E
  c4 : z = 4 → ∀ E, spAClose K C CR [V.ref L, V.ref r] H Q E
  c5 : z = 5 → ∀ E, spAState K C CR [V.ref L, V.ref r] H Q E
  one : z = 0 ∨ z = 1 ∨ z = 2 ∨ z = 3 ∨ z = 4 ∨ z = 5
theorem put_two (j p : Int) (x rest : List Int) : PyFlat.put1 [[j, p], x] ++ rest = j :: (p :: ((x.length : Int) :: (x ++ rest))) := by
  show j :: p :: (x.length : Int) :: (x ++ [] ++ rest) = _
  rw [List.append_nil]
theorem put_one (j : Int) (x rest : List Int) : PyFlat.put1 [[j], x] ++ rest = j :: ((x.length : Int) :: (x ++ rest)) := by
  show j :: (x.length : Int) :: (x ++ [] ++ rest) = _
  rw [List.append_nil]
theorem put_three (j p : Int) (x b rest : List Int) : PyFlat.put1 [[j, p], x, b] ++ rest = j :: (p :: ((x.length : Int) :: (x ++ ((b.length : Int) :: (b ++ rest))))) := by
  show j :: p :: (x.length : Int) :: (x ++ ((b.length : Int) :: (b ++ [])) ++ rest) = _
  rw [List.append_nil, List.append_assoc]
  rfl
theorem put_len {c : List (List Int)} {l : List Int} (h : PyFlat.put1 c ++ [] = l) : (PyFlat.put1 c).length = l.length := by rw [← h, List.append_nil]
theorem two_len (j p : Int) (x : List Int) (pos : Nat) : pos + (PyFlat.put1 [[j, p], x]).length = pos + 1 + 2 + x.length := by
  rw [put_len (put_two j p x []), List.append_nil, List.length_cons, List.length_cons, List.length_cons]
  omega
theorem one_len (j : Int) (x : List Int) (pos : Nat) : pos + (PyFlat.put1 [[j], x]).length = pos + 1 + 1 + x.length := by
  rw [put_len (put_one j x []), List.append_nil, List.length_cons, List.length_cons]
  omega
theorem three_len (j p : Int) (x b : List Int) (pos : Nat) : pos + (PyFlat.put1 [[j, p], x, b]).length = pos + 1 + 2 + x.length + 1 + b.length := by
  rw [put_len (put_three j p x b []), List.append_nil, List.length_cons, List.length_cons, List.length_cons, List.length_append, List.length_cons]
  omega
section
variable {K : PySem.W.Frag} {C : Cs} {CR L r a : Addr} {D : Addr → Prop} {H : Hp} {ns : List Int} {ab : Abs} {pos : Nat} {Q : VK}
theorem six_of {rest : List Int} {c : List (List Int)} {q : Kp135.Call} {dx : Addr} (en : Ent K C CR D H L r a ns ab pos) (hr0 : H r = some (.ins CR dx (readerF a (pos : Int)))) (hd : ns.drop pos = PyFlat.put1 c ++ rest) (hlen : ns.length ≤ 30000) (hask : Kp135Neutral.asked1 c = true) (hf : Form c) (hq : Kp135Neutral.callOf c = some q)
    (k : Told C CR D H L r a ab q (pos + (PyFlat.put1 c).length) Q) : ∃ z, ns[pos]? = some z ∧ Six K C CR L r (upd H r (.ins CR dx (readerF a ((pos + 1 : Nat) : Int)))) Q z := by
  have k1 : ∀ b o, H b = some o → b ≠ r → (upd H r (.ins CR dx (readerF a ((pos + 1 : Nat) : Int)))) b = some o := fun b o e hb => (upd_ne hb).trans e
  have hr1 : (upd H r (.ins CR dx (readerF a ((pos + 1 : Nat) : Int)))) r = some (.ins CR dx (readerF a ((pos + 1 : Nat) : Int))) := upd_same
  have en1 := en.moved k1 hr1
  have t1 := k.step en.nr k1 hr1
  clear k en hr0
  generalize upd H r (.ins CR dx (readerF a ((pos + 1 : Nat) : Int))) = H1 at k1 hr1 en1 t1
  clear k1 hr1
  rcases hf with ⟨n, rl, rfl⟩ | ⟨p, x, rfl⟩ | ⟨p, x, b, rfl⟩ | ⟨p, x, rfl⟩ | ⟨x, rfl⟩ | ⟨x, rfl⟩
  · have hask' : (Kp135Neutral.natural n 32 && Kp135Neutral.rulesAsked rl) = true := hask
    rw [Bool.and_eq_true] at hask'
    have hn := nat32 hask'.1
    have hru := hask'.2
    unfold Kp135Neutral.rulesAsked at hru
    rw [Bool.and_eq_true] at hru
    have eq : Kp135.Call.start (Kp135Neutral.rules rl) n.toNat [] 0 = q := Option.some.inj hq
    rw [put_two] at hd
    obtain ⟨g0, hd1⟩ := drop_get hd
    rw [two_len, ← eq] at t1
    have hl : rl.length ≤ 100000 := by
      have := congrArg List.length hd
      rw [List.length_drop, List.length_cons, List.length_cons, List.length_cons, List.length_append] at this
      omega
    refine ⟨0, g0, fun _ E => ⟨L, r, a, D, ns, rl, rest, ab, pos + 1, n.toNat, rfl, en1, ?_, hl, of_decide_eq_true hru.1, row8 hru.2, t1⟩, fun e => absurd e (by decide), fun e => absurd e (by decide), fun e => absurd e (by decide), fun e => absurd e (by decide), fun e => absurd e (by decide), .inl rfl⟩
    rw [hd1, Int.toNat_of_nonneg hn.1]
  · have hask' : (Kp135Neutral.natural p 32 && (decide (x.length = 16) && x.all fun z => Kp135Neutral.natural z 8)) = true := hask
    rw [Bool.and_eq_true] at hask'
    have hn := nat32 hask'.1
    obtain ⟨name, nm1, nm2, nm3⟩ := name_of hask'.2
    have eq : Kp135.Call.open_ (Kp135Neutral.nats x) p.toNat = q := Option.some.inj hq
    rw [nm3] at eq
    subst nm1
    rw [put_two] at hd
    obtain ⟨g0, hd1⟩ := drop_get hd
    rw [two_len, ← eq, encN_length, nm2] at t1
    refine ⟨1, g0, fun e => absurd e (by decide), fun _ E => ⟨L, r, a, D, ns, rest, name, ab, pos + 1, p.toNat, rfl, en1, ?_, nm2, hn.2, t1⟩, fun e => absurd e (by decide), fun e => absurd e (by decide), fun e => absurd e (by decide), fun e => absurd e (by decide), .inr (.inl rfl)⟩
    rw [hd1, Int.toNat_of_nonneg hn.1]
  · have hask' : (Kp135Neutral.natural p 32 && (decide (x.length = 16) && ((x.all fun z => Kp135Neutral.natural z 8) && b.all fun z => Kp135Neutral.natural z 8))) = true := hask
    rw [Bool.and_eq_true, Bool.and_eq_true, Bool.and_eq_true] at hask'
    have hn := nat32 hask'.1
    obtain ⟨name, nm1, nm2, nm3⟩ := name_of (x := x) (by rw [Bool.and_eq_true]; exact ⟨hask'.2.1, hask'.2.2.1⟩)
    have hb1 : encN (Kp135Neutral.nats b) = b := encN_nats fun z hz => (row8 hask'.2.2.2 z hz).1
    have hb2 : (Kp135Neutral.nats b).length = b.length := by unfold Kp135Neutral.nats; rw [List.length_map]
    have eq : Kp135.Call.piece (Kp135Neutral.nats x) p.toNat (if 1 ≤ b.length ∧ b.length ≤ Kp135.PIECE then some (Kp135Neutral.nats b) else none) = q := Option.some.inj hq
    rw [← hb2, nm3] at eq
    generalize Kp135Neutral.nats b = bn at hb1 hb2 eq
    subst nm1
    subst hb1
    rw [put_three] at hd
    obtain ⟨g0, hd1⟩ := drop_get hd
    rw [three_len, ← eq, encN_length, encN_length, nm2] at t1
    refine ⟨2, g0, fun e => absurd e (by decide), fun e => absurd e (by decide), fun _ E => ⟨L, r, a, D, ns, rest, name, bn, ab, pos + 1, p.toNat, rfl, en1, ?_, nm2, hn.2, t1⟩, fun e => absurd e (by decide), fun e => absurd e (by decide), fun e => absurd e (by decide), .inr (.inr (.inl rfl))⟩
    rw [hd1, Int.toNat_of_nonneg hn.1]
  · have hask' : (Kp135Neutral.natural p 32 && (decide (x.length = 16) && x.all fun z => Kp135Neutral.natural z 8)) = true := hask
    rw [Bool.and_eq_true] at hask'
    have hn := nat32 hask'.1
    obtain ⟨name, nm1, nm2, nm3⟩ := name_of hask'.2
    have eq : Kp135.Call.ack (Kp135Neutral.nats x) p.toNat = q := Option.some.inj hq
    rw [nm3] at eq
    subst nm1
    rw [put_two] at hd
    obtain ⟨g0, hd1⟩ := drop_get hd
    rw [two_len, ← eq, encN_length, nm2] at t1
    refine ⟨3, g0, fun e => absurd e (by decide), fun e => absurd e (by decide), fun e => absurd e (by decide), fun _ E => ⟨L, r, a, D, ns, rest, name, ab, pos + 1, p.toNat, rfl, en1, ?_, nm2, hn.2, t1⟩, fun e => absurd e (by decide), fun e => absurd e (by decide), .inr (.inr (.inr (.inl rfl)))⟩
    rw [hd1, Int.toNat_of_nonneg hn.1]
  · have hask' : (decide (x.length = 16) && x.all fun z => Kp135Neutral.natural z 8) = true := hask
    obtain ⟨name, nm1, nm2, nm3⟩ := name_of hask'
    have eq : Kp135.Call.close (Kp135Neutral.nats x) = q := Option.some.inj hq
    rw [nm3] at eq
    subst nm1
    rw [put_one] at hd
    obtain ⟨g0, hd1⟩ := drop_get hd
    rw [one_len, ← eq, encN_length, nm2] at t1
    exact ⟨4, g0, fun e => absurd e (by decide), fun e => absurd e (by decide), fun e => absurd e (by decide), fun e => absurd e (by decide), fun _ E => ⟨L, r, a, D, ns, rest, name, ab, pos + 1, rfl, en1, hd1, nm2, t1⟩, fun e => absurd e (by decide), .inr (.inr (.inr (.inr (.inl rfl))))⟩
  · have hask' : (decide (x.length = 16) && x.all fun z => Kp135Neutral.natural z 8) = true := hask
    obtain ⟨name, nm1, nm2, nm3⟩ := name_of hask'
    have eq : Kp135.Call.state (Kp135Neutral.nats x) = q := Option.some.inj hq
    rw [nm3] at eq
    subst nm1
    rw [put_one] at hd
    obtain ⟨g0, hd1⟩ := drop_get hd
    rw [one_len, ← eq, encN_length, nm2] at t1
    exact ⟨5, g0, fun e => absurd e (by decide), fun e => absurd e (by decide), fun e => absurd e (by decide), fun e => absurd e (by decide), fun e => absurd e (by decide), fun _ E => ⟨L, r, a, D, ns, rest, name, ab, pos + 1, rfl, en1, hd1, nm2, t1⟩, .inr (.inr (.inr (.inr (.inr rfl))))⟩
theorem Six.none {z : Int} (x : Six K C CR L r H Q z) (n0 : z ≠ 0) (n1 : z ≠ 1) (n2 : z ≠ 2) (n3 : z ≠ 3) (n4 : z ≠ 4) (n5 : z ≠ 5) : False := by
  rcases x.one with e | e | e | e | e | e
  · exact n0 e
  · exact n1 e
  · exact n2 e
  · exact n3 e
  · exact n4 e
  · exact n5 e
end
section
variable {P : Program} {w : World} {K : PySem.W.Frag} {mg : Str → Option Value} {base : Heap} {C : Cs} {CR : Addr}
theorem scACall : FnScope ["line", "reader", "call"] ["line", "reader"] (defScope sACall) := ⟨rfl, rfl, rfl, by decide +kernel, rfl, by decide +kernel, by decide +kernel⟩
theorem ok_aCall {f : Addr} {fd : FuncData} (F : Fun K "answer_call" "answer_call" sACall f fd) (TW : TxtW mg) (RC : RCls K CR) (M1 : Method P w K mg base 1 CR "read_number" ["self"] (spReadNum K CR))
    (C0 : Callee P w K mg base 6 "answer_start" ["line", "reader"] (spAStart K C CR)) (C1 : Callee P w K mg base 4 "answer_open" ["line", "reader"] (spAOpen K C CR)) (C2 : Callee P w K mg base 6 "answer_piece" ["line", "reader"] (spAPiece K C CR))
    (C3 : Callee P w K mg base 3 "answer_ack" ["line", "reader"] (spAAck K C CR)) (C4 : Callee P w K mg base 3 "answer_close" ["line", "reader"] (spAClose K C CR)) (C5 : Callee P w K mg base 3 "answer_state" ["line", "reader"] (spAState K C CR)) :
    FnOk P w K mg base CX0 8 f fd ["line", "reader"] (spACall K C CR) := by
  refine F.ok scACall (fun vs H Q E h => ?_) (fun cdv A outer s H vs Q E hr h => ?_)
  · obtain ⟨L, r, a, D, ns, rest, c, q, ab, pos, rfl, _⟩ := h
    rfl
  · obtain ⟨L, r, a, D, ns, rest, c, q, ab, pos, rfl, en, hd, hlen, hask, hf, hq, k⟩ := h
    obtain ⟨dx, hr0⟩ := en.hr
    obtain ⟨z, g0, six⟩ := six_of en hr0 hd hlen hask hf hq k
    refine ⟨_, pss_cons (ps_set (i := 2) scACall.nd rfl (Or.inl rfl) (pe_method0 (pv 1) RC.cl M1 (hr.mono (by decide))))
      (pss_cons (ps_if (pt_cmpR op_eq (pv 2) (pe_num TW.flStart rfl) (nomark _)) (pss_one (ps_ret (pe_callee C0 (hr.mono (by decide)) rfl (pa_cons (pv 0) (pa_cons (pv 1) pa_nil))))) pss_nil)
      (pss_cons (ps_if (pt_cmpR op_eq (pv 2) (pe_num TW.flOpen rfl) (nomark _)) (pss_one (ps_ret (pe_callee C1 (hr.mono (by decide)) rfl (pa_cons (pv 0) (pa_cons (pv 1) pa_nil))))) pss_nil)
      (pss_cons (ps_if (pt_cmpR op_eq (pv 2) (pe_num TW.flPiece rfl) (nomark _)) (pss_one (ps_ret (pe_callee C2 (hr.mono (by decide)) rfl (pa_cons (pv 0) (pa_cons (pv 1) pa_nil))))) pss_nil)
      (pss_cons (ps_if (pt_cmpR op_eq (pv 2) (pe_num TW.flAck rfl) (nomark _)) (pss_one (ps_ret (pe_callee C3 (hr.mono (by decide)) rfl (pa_cons (pv 0) (pa_cons (pv 1) pa_nil))))) pss_nil)
      (pss_cons (ps_if (pt_cmpR op_eq (pv 2) (pe_num TW.flClose rfl) (nomark _)) (pss_one (ps_ret (pe_callee C4 (hr.mono (by decide)) rfl (pa_cons (pv 0) (pa_cons (pv 1) pa_nil))))) pss_nil)
      (pss_cons (ps_if (pt_cmpR op_eq (pv 2) (pe_num TW.flState rfl) (nomark _)) (pss_one (ps_ret (pe_callee C5 (hr.mono (by decide)) rfl (pa_cons (pv 0) (pa_cons (pv 1) pa_nil))))) pss_nil)
      (pss_one ps_never))))))), ?_⟩
    refine seqI fun U1 g1 => ?_
    refine rMeth rfl hr0 rfl (AtReadNum.mk r dx a pos ns _ rfl hr0 en.src.seq g0 ?_)
    exact g1 _ _ <| seqI fun _ g => rIf rfl (fun e => ⟨_, rfl, _, rfl, six.c0 e E0⟩) fun n0 => g _ _ <| seqI fun _ g => rIf rfl (fun e => ⟨_, rfl, _, rfl, six.c1 e E0⟩) fun n1 => g _ _ <| seqI fun _ g => rIf rfl (fun e => ⟨_, rfl, _, rfl, six.c2 e E0⟩) fun n2 => g _ _ <| seqI fun _ g => rIf rfl (fun e => ⟨_, rfl, _, rfl, six.c3 e E0⟩) fun n3 => g _ _ <| seqI fun _ g => rIf rfl (fun e => ⟨_, rfl, _, rfl, six.c4 e E0⟩) fun n4 => g _ _ <| seqI fun _ g => rIf rfl (fun e => ⟨_, rfl, _, rfl, six.c5 e E0⟩) fun n5 => g _ _ <| six.none n0 n1 n2 n3 n4 n5
end
end WL
end
section
set_option Elab.async false
set_option linter.all false
set_option maxRecDepth 100000
set_option maxHeartbeats 2000000
namespace WL
open PySem PySem.Spec PyProof.Rows L2
open Kp134 (Word Rules Text)
open Kp135 (ROUND WINDOW off here beyond clash fill with_ received Abs)
theorem us1 {us : List Value} (h : us.length = 1) : ∃ a, us = [a] := by
  cases us with
  | nil => cases h
  | cons a t => exact ⟨a, by rw [List.eq_nil_of_length_eq_zero (Nat.succ.inj h)]⟩
theorem us2 {us : List Value} (h : us.length = 2) : ∃ a b, us = [a, b] := by
  cases us with
  | nil => cases h
  | cons a t =>
    obtain ⟨b, rfl⟩ := us1 (Nat.succ.inj h)
    exact ⟨a, b, rfl⟩
theorem us3 {us : List Value} (h : us.length = 3) : ∃ a b c, us = [a, b, c] := by
  cases us with
  | nil => cases h
  | cons a t =>
    obtain ⟨b, c, rfl⟩ := us2 (Nat.succ.inj h)
    exact ⟨a, b, c, rfl⟩
theorem us4 {us : List Value} (h : us.length = 4) : ∃ a b c d, us = [a, b, c, d] := by
  cases us with
  | nil => cases h
  | cons a t =>
    obtain ⟨b, c, d, rfl⟩ := us3 (Nat.succ.inj h)
    exact ⟨a, b, c, d, rfl⟩
structure DefIn (K : PySem.W.Frag) (mg : Str → Option Value) (x : Str) (st : Stmt) : Prop where
  ex : ∃ (f : Addr) (fd : FuncData), mg x = some (.ref f) ∧ Fun K x x st f fd
structure MethIn (K : PySem.W.Frag) (C : Addr) (m qual : Str) (st : Stmt) : Prop where
  ex : ∃ (f : Addr) (fd : FuncData), Meth K C m f ∧ Fun K m qual st f fd
structure InitIn (K : PySem.W.Frag) (mg : Str → Option Value) (x : Str) (C : Addr) (qual : Str) (st : Stmt) : Prop where
  ex : ∃ (f : Addr) (fd : FuncData), mg x = some (.ref C) ∧ Mk K C f ∧ Fun K "__init__" qual st f fd
section
variable {P : Program} {w : World} {K : PySem.W.Frag} {mg : Str → Option Value} {base : Heap}
noncomputable abbrev BindsSo (x qual : Str) (st : Stmt) (ps : List Str) : Prop := ∀ (kV doc pm : Value) (an : Option Addr) (cdv ct : Value) (us : List Value), us.length = ps.length → bindArgs (PySem.W.fnOf x qual (defArgs st) (defBody st) (defScope st) .none kV doc pm an cdv ct) ⟨us, []⟩ = pure (ps.zip us)
theorem DefIn.callee {x : Str} {st : Stmt} {ps : List Str} {sp : Sp} {k : Nat} (d : DefIn K mg x st) (hb : BindsSo x x st ps) (ok : ∀ {f : Addr} {fd : FuncData}, Fun K x x st f fd → FnOk P w K mg base CX0 k f fd ps sp) : Callee P w K mg base k x ps sp := by
  obtain ⟨f, fd, h1, h2⟩ := d.ex
  exact ⟨f, fd, h1, h2.kp, h2.binds hb, ok h2⟩
theorem MethIn.method {C : Addr} {m qual : Str} {st : Stmt} {ps : List Str} {sp : Sp} {k : Nat} (d : MethIn K C m qual st) (hb : BindsSo m qual st ps) (ok : ∀ {f : Addr} {fd : FuncData}, Fun K m qual st f fd → FnOk P w K mg base CX0 k f fd ps sp) : Method P w K mg base k C m ps sp := by
  obtain ⟨f, fd, h1, h2⟩ := d.ex
  exact ⟨f, fd, h1, h2.binds hb, ok h2⟩
theorem InitIn.maker {x : Str} {C : Addr} {qual : Str} {st : Stmt} {ps : List Str} {sp : Sp} {k : Nat} (d : InitIn K mg x C qual st) (hb : BindsSo "__init__" qual st ps) (ok : ∀ {f : Addr} {fd : FuncData}, Fun K "__init__" qual st f fd → FnOk P w K mg base CX0 k f fd ps sp) : Maker P w K mg base k x C ps sp := by
  obtain ⟨f, fd, h1, h2, h3⟩ := d.ex
  exact ⟨f, fd, h1, h2, h3.binds hb, ok h3⟩
theorem def_in {h : Heap} {x : Str} {st : Stmt} {f : Addr} {oc : Value} {od an : Option Addr} {osl : Array (Option Value)} {kV doc pm cdv ct : Value} (X : K.In h) (G : h.Ns mainGlobals mg) (a : PySem.W.nsIn K mainGlobals x = some (some (.ref f)))
    (l : K.lookup f = some ⟨oc, od, .func (PySem.W.fnOf x x (defArgs st) (defBody st) (defScope st) .none kV doc pm an cdv ct), osl⟩) (c : PySem.W.codeIn K cdv x = true) (k : PySem.W.keepIn K (.ref f) = true) : DefIn K mg x st := ⟨f, _, PySem.W.mg_of X G a, fun_mk l c k⟩
theorem meth_in {C : Addr} {x qual : Str} {st : Stmt} {f : Addr} {oc : Value} {od an : Option Addr} {osl : Array (Option Value)} {kV doc pm cdv ct : Value} (a : PySem.W.findIn K (.ref C) x = some (some (.ref f))) (i : PySem.W.isFn K (.ref f) = true)
    (l : K.lookup f = some ⟨oc, od, .func (PySem.W.fnOf x qual (defArgs st) (defBody st) (defScope st) .none kV doc pm an cdv ct), osl⟩) (c : PySem.W.codeIn K cdv qual = true) (k : PySem.W.keepIn K (.ref f) = true) : MethIn K C x qual st := ⟨f, _, ⟨a, i, k⟩, fun_mk l c k⟩
theorem init_in {h : Heap} {C : Addr} {y qual : Str} {st : Stmt} {f : Addr} {oc : Value} {od an : Option Addr} {osl : Array (Option Value)} {kV doc pm cdv ct : Value} (X : K.In h) (G : h.Ns mainGlobals mg) (aC : PySem.W.nsIn K mainGlobals y = some (some (.ref C))) (mk : PySem.W.makesIn K C = true) (kc : PySem.W.keepIn K (.ref C) = true)
    (a : PySem.W.findIn K (.ref C) "__init__" = some (some (.ref f))) (i : PySem.W.isFn K (.ref f) = true)
    (l : K.lookup f = some ⟨oc, od, .func (PySem.W.fnOf "__init__" qual (defArgs st) (defBody st) (defScope st) .none kV doc pm an cdv ct), osl⟩) (c : PySem.W.codeIn K cdv qual = true) (k : PySem.W.keepIn K (.ref f) = true) : InitIn K mg y C qual st := ⟨f, _, PySem.W.mg_of X G aC, ⟨mk, a, i, kc⟩, fun_mk l c k⟩
theorem noattr_in {C : Addr} {x : Str} (e : PySem.W.findIn K (.ref C) x = some none) : NoAttr K C x := e
theorem num_in {h : Heap} {x : Str} {i : Int} {t : Tok} (X : K.In h) (G : h.Ns mainGlobals mg) (a : PySem.W.nsIn K mainGlobals x = some (some (.int i t))) : Num mg x i := ⟨t, PySem.W.mg_of X G a⟩
end
structure Facts (K : PySem.W.Frag) (mg : Str → Option Value) (C : Cs) (CR : Addr) : Prop where
  T : Txt mg
  TL : TxtL mg
  TW : TxtW mg
  WC : WCls K C.w
  SC : SCls K C.s
  LC : LCls K C.l
  RC : RCls K CR
  iWord : InitIn K mg "Word" C.w "Word.__init__" sWordInit
  iStream : InitIn K mg "Stream" C.s "Stream.__init__" sStrInit
  iLine : InitIn K mg "Line" C.l "Line.__init__" sLineInit
  iReader : InitIn K mg "Reader" CR "Reader.__init__" sRdInit
  dFolded : DefIn K mg "folded" sFolded
  dWordRows : DefIn K mg "word_rows" sWordRows
  dWordOk : DefIn K mg "word_is_as_told" sWordOk
  dRulesOk : DefIn K mg "rules_are_as_told" sRulesOk
  dWordsOf : DefIn K mg "words_of" sWordsOf
  dTimesSp : DefIn K mg "times_spelled" sTimesSp
  dTimesEach : DefIn K mg "times_of_each" sTimesEach
  dWeightOf : DefIn K mg "weight_of" sWeightOf
  mAhead : MethIn K C.s "ahead" "Stream.ahead" sAhead
  mToldOther : MethIn K C.s "told_otherwise" "Stream.told_otherwise" sToldOther
  mKnownGap : MethIn K C.s "known_without_gap" "Stream.known_without_gap" sKnownGap
  mKnownAll : MethIn K C.s "known_in_all" "Stream.known_in_all" sKnownAll
  mMoveBase : MethIn K C.s "move_base" "Stream.move_base" sMoveBase
  mKnownWith : MethIn K C.s "known_with" "Stream.known_with" sKnownWith
  mFoundWith : MethIn K C.s "found_with" "Stream.found_with" sFoundWith
  mAround : MethIn K C.s "around" "Stream.around" sAround
  mStart : MethIn K C.l "fl_start" "Line.fl_start" sStart
  mOpen : MethIn K C.l "fl_open" "Line.fl_open" sOpen
  mPiece : MethIn K C.l "fl_piece" "Line.fl_piece" sPiece
  mAck : MethIn K C.l "fl_ack" "Line.fl_ack" sAck
  mClose : MethIn K C.l "fl_close" "Line.fl_close" sClose
  mState : MethIn K C.l "fl_state" "Line.fl_state" sState
  mStreamOf : MethIn K C.l "stream_of" "Line.stream_of" sStreamOf
  mTakeIn : MethIn K C.l "take_in" "Line.take_in" sTakeIn
  mHasMore : MethIn K CR "has_more" "Reader.has_more" sHasMore
  mReadNum : MethIn K CR "read_number" "Reader.read_number" sReadNum
  mReadRow : MethIn K CR "read_row" "Reader.read_row" sReadRow
  dAStart : DefIn K mg "answer_start" sAStart
  dAOpen : DefIn K mg "answer_open" sAOpen
  dAPiece : DefIn K mg "answer_piece" sAPiece
  dAAck : DefIn K mg "answer_ack" sAAck
  dAClose : DefIn K mg "answer_close" sAClose
  dAState : DefIn K mg "answer_state" sAState
  dACall : DefIn K mg "answer_call" sACall
  dAnswers : DefIn K mg "answers" sAnswers
section
variable {P : Program} {w : World} {K : PySem.W.Frag} {mg : Str → Option Value} {base : Heap} {C : Cs} {CR : Addr}
structure Parts (P : Program) (w : World) (K : PySem.W.Frag) (mg : Str → Option Value) (base : Heap) (C : Cs) (CR : Addr) : Prop where
  readNum : Method P w K mg base 1 CR "read_number" ["self"] (spReadNum K CR)
  readRow : Method P w K mg base 2 CR "read_row" ["self"] (spReadRow K CR)
  aStart : Callee P w K mg base 6 "answer_start" ["line", "reader"] (spAStart K C CR)
  aOpen : Callee P w K mg base 4 "answer_open" ["line", "reader"] (spAOpen K C CR)
  aPiece : Callee P w K mg base 6 "answer_piece" ["line", "reader"] (spAPiece K C CR)
  aAck : Callee P w K mg base 3 "answer_ack" ["line", "reader"] (spAAck K C CR)
  aClose : Callee P w K mg base 3 "answer_close" ["line", "reader"] (spAClose K C CR)
  aState : Callee P w K mg base 3 "answer_state" ["line", "reader"] (spAState K C CR)
theorem Facts.parts (X : Facts K mg C CR) : Parts P w K mg base C CR := by
  have cFolded : Callee P w K mg base 1 "folded" ["row"] (spFolded K) := X.dFolded.callee (fun _ _ _ _ _ _ us hl => by obtain ⟨_, rfl⟩ := us1 hl; exact rfl) fun F => ok_folded F
  have cWordRows : Callee P w K mg base 1 "word_rows" ["rules"] (spWordRows K) := X.dWordRows.callee (fun _ _ _ _ _ _ us hl => by obtain ⟨_, rfl⟩ := us1 hl; exact rfl) fun F => ok_wordRows F X.T
  have cWordOk : Callee P w K mg base 1 "word_is_as_told" ["row"] (spWordOk K) := X.dWordOk.callee (fun _ _ _ _ _ _ us hl => by obtain ⟨_, rfl⟩ := us1 hl; exact rfl) fun F => ok_wordOk F X.T
  have cRulesOk : Callee P w K mg base 2 "rules_are_as_told" ["rules"] (spRulesOk K) := X.dRulesOk.callee (fun _ _ _ _ _ _ us hl => by obtain ⟨_, rfl⟩ := us1 hl; exact rfl) fun F => ok_rulesOk F X.T cWordRows cWordOk
  have kWord : Maker P w K mg base 2 "Word" C.w ["self", "row"] (spWordInit K C.w) := X.iWord.maker (fun _ _ _ _ _ _ us hl => by obtain ⟨_, _, rfl⟩ := us2 hl; exact rfl) fun F => ok_wordInit F X.T X.WC cFolded
  have cWordsOf : Callee P w K mg base 4 "words_of" ["rules"] (spWordsOf K C.w) := X.dWordsOf.callee (fun _ _ _ _ _ _ us hl => by obtain ⟨_, rfl⟩ := us1 hl; exact rfl) fun F => ok_wordsOf F X.T cWordRows kWord
  have cTimesSp : Callee P w K mg base 1 "times_spelled" ["spelling", "text"] (spTimesSp K) := X.dTimesSp.callee (fun _ _ _ _ _ _ us hl => by obtain ⟨_, _, rfl⟩ := us2 hl; exact rfl) fun F => ok_timesSp F X.T
  have cTimesEach : Callee P w K mg base 2 "times_of_each" ["words", "text"] (spTimesEach K C.w) := X.dTimesEach.callee (fun _ _ _ _ _ _ us hl => by obtain ⟨_, _, rfl⟩ := us2 hl; exact rfl) fun F => ok_timesEach F X.T X.WC cFolded cTimesSp
  have cWeightOf : Callee P w K mg base 1 "weight_of" ["words", "times"] (spWeightOf K C.w) := X.dWeightOf.callee (fun _ _ _ _ _ _ us hl => by obtain ⟨_, _, rfl⟩ := us2 hl; exact rfl) fun F => ok_weightOf F X.T X.WC
  have kStream : Maker P w K mg base 1 "Stream" C.s ["self", "base", "word_count"] (spStrInit C.s) := X.iStream.maker (fun _ _ _ _ _ _ us hl => by obtain ⟨_, _, _, rfl⟩ := us3 hl; exact rfl) fun F => ok_strInit F X.T X.SC
  have mAhead : Method P w K mg base 1 C.s "ahead" ["self", "place"] (spAhead C.s) := X.mAhead.method (fun _ _ _ _ _ _ us hl => by obtain ⟨_, _, rfl⟩ := us2 hl; exact rfl) fun F => ok_ahead F X.T X.SC
  have mToldOther : Method P w K mg base 1 C.s "told_otherwise" ["self", "start", "told"] (spToldOther C.s) := X.mToldOther.method (fun _ _ _ _ _ _ us hl => by obtain ⟨_, _, _, rfl⟩ := us3 hl; exact rfl) fun F => ok_toldOther F X.T X.SC
  have mKnownGap : Method P w K mg base 1 C.s "known_without_gap" ["self"] (spKnownGap C.s) := X.mKnownGap.method (fun _ _ _ _ _ _ us hl => by obtain ⟨_, rfl⟩ := us1 hl; exact rfl) fun F => ok_knownGap F X.T X.SC
  have mKnownAll : Method P w K mg base 1 C.s "known_in_all" ["self"] (spKnownAll C.s) := X.mKnownAll.method (fun _ _ _ _ _ _ us hl => by obtain ⟨_, rfl⟩ := us1 hl; exact rfl) fun F => ok_knownAll F X.T X.SC
  have mMoveBase : Method P w K mg base 1 C.s "move_base" ["self", "steps"] (spMoveBase C.s) := X.mMoveBase.method (fun _ _ _ _ _ _ us hl => by obtain ⟨_, _, rfl⟩ := us2 hl; exact rfl) fun F => ok_moveBase F X.T X.SC
  have mKnownWith : Method P w K mg base 1 C.s "known_with" ["self", "start", "told"] (spKnownWith C.s) := X.mKnownWith.method (fun _ _ _ _ _ _ us hl => by obtain ⟨_, _, _, rfl⟩ := us3 hl; exact rfl) fun F => ok_knownWith F X.T X.SC
  have mAround : Method P w K mg base 1 C.s "around" ["self", "known", "start", "size"] (spAround C.s) := X.mAround.method (fun _ _ _ _ _ _ us hl => by obtain ⟨_, _, _, _, rfl⟩ := us4 hl; exact rfl) fun F => ok_around F X.T X.SC
  have mFoundWith : Method P w K mg base 3 C.s "found_with" ["self", "words", "start", "told"] (spFoundWith K C.w C.s) := X.mFoundWith.method (fun _ _ _ _ _ _ us hl => by obtain ⟨_, _, _, _, rfl⟩ := us4 hl; exact rfl) fun F => ok_foundWith F X.T X.SC cTimesEach mAround mKnownWith
  have mStart : Method P w K mg base 5 C.l "fl_start" ["self", "limit", "rules"] (spStart K C) := X.mStart.method (fun _ _ _ _ _ _ us hl => by obtain ⟨_, _, _, rfl⟩ := us3 hl; exact rfl) fun F => ok_start F X.TL X.LC cRulesOk cWordsOf
  have mOpen : Method P w K mg base 3 C.l "fl_open" ["self", "first", "name"] (spOpen K C) := X.mOpen.method (fun _ _ _ _ _ _ us hl => by obtain ⟨_, _, _, rfl⟩ := us3 hl; exact rfl) fun F => ok_open F X.T X.TL X.LC kStream
  have mTakeIn : Method P w K mg base 4 C.l "take_in" ["self", "stream", "start", "told"] (spTakeIn C) := X.mTakeIn.method (fun _ _ _ _ _ _ us hl => by obtain ⟨_, _, _, _, rfl⟩ := us4 hl; exact rfl) fun F => ok_takeIn F X.T X.TL X.LC X.SC mToldOther mFoundWith mKnownWith cWeightOf
  have mStreamOf : Method P w K mg base 1 C.l "stream_of" ["self", "name"] (spStreamOf K C) := X.mStreamOf.method (fun _ _ _ _ _ _ us hl => by obtain ⟨_, _, rfl⟩ := us2 hl; exact rfl) fun F => ok_streamOf F X.T X.LC
  have mAck : Method P w K mg base 2 C.l "fl_ack" ["self", "place", "name"] (spAck K C) := X.mAck.method (fun _ _ _ _ _ _ us hl => by obtain ⟨_, _, _, rfl⟩ := us3 hl; exact rfl) fun F => ok_ack F X.T X.TL X.LC X.SC mStreamOf mAhead mKnownGap mMoveBase
  have mClose : Method P w K mg base 2 C.l "fl_close" ["self", "name"] (spClose K C) := X.mClose.method (fun _ _ _ _ _ _ us hl => by obtain ⟨_, _, rfl⟩ := us2 hl; exact rfl) fun F => ok_close F X.T X.TL X.LC mStreamOf
  have mState : Method P w K mg base 2 C.l "fl_state" ["self", "name"] (spState K C) := X.mState.method (fun _ _ _ _ _ _ us hl => by obtain ⟨_, _, rfl⟩ := us2 hl; exact rfl) fun F => ok_state F X.T X.TL X.LC X.SC mStreamOf cWeightOf mKnownGap mKnownAll
  have mPiece : Method P w K mg base 5 C.l "fl_piece" ["self", "place", "name", "b"] (spPiece K C) := X.mPiece.method (fun _ _ _ _ _ _ us hl => by obtain ⟨_, _, _, _, rfl⟩ := us4 hl; exact rfl) fun F => ok_piece F X.T X.TL X.LC X.SC mStreamOf mAhead mTakeIn
  have mReadNum : Method P w K mg base 1 CR "read_number" ["self"] (spReadNum K CR) := X.mReadNum.method (fun _ _ _ _ _ _ us hl => by obtain ⟨_, rfl⟩ := us1 hl; exact rfl) fun F => ok_readNum F X.RC
  have mReadRow : Method P w K mg base 2 CR "read_row" ["self"] (spReadRow K CR) := X.mReadRow.method (fun _ _ _ _ _ _ us hl => by obtain ⟨_, rfl⟩ := us1 hl; exact rfl) fun F => ok_readRow F X.RC mReadNum
  exact ⟨mReadNum, mReadRow, X.dAStart.callee (fun _ _ _ _ _ _ us hl => by obtain ⟨_, _, rfl⟩ := us2 hl; exact rfl) fun F => ok_aStart F X.TW X.LC X.RC mReadNum mReadRow mStart,
    X.dAOpen.callee (fun _ _ _ _ _ _ us hl => by obtain ⟨_, _, rfl⟩ := us2 hl; exact rfl) fun F => ok_aOpen F X.TW X.LC X.RC mReadNum mReadRow mOpen,
    X.dAPiece.callee (fun _ _ _ _ _ _ us hl => by obtain ⟨_, _, rfl⟩ := us2 hl; exact rfl) fun F => ok_aPiece F X.TW X.LC X.RC mReadNum mReadRow mPiece,
    X.dAAck.callee (fun _ _ _ _ _ _ us hl => by obtain ⟨_, _, rfl⟩ := us2 hl; exact rfl) fun F => ok_aAck F X.TW X.LC X.RC mReadNum mReadRow mAck,
    X.dAClose.callee (fun _ _ _ _ _ _ us hl => by obtain ⟨_, _, rfl⟩ := us2 hl; exact rfl) fun F => ok_aClose F X.TW X.LC X.RC mReadRow mClose,
    X.dAState.callee (fun _ _ _ _ _ _ us hl => by obtain ⟨_, _, rfl⟩ := us2 hl; exact rfl) fun F => ok_aState F X.T X.TL X.TW X.LC X.RC mReadRow mState⟩
theorem Facts.call (X : Facts K mg C CR) : Callee P w K mg base 8 "answer_call" ["line", "reader"] (spACall K C CR) := by
  have p : Parts P w K mg base C CR := X.parts
  exact X.dACall.callee (fun _ _ _ _ _ _ us hl => by obtain ⟨_, _, rfl⟩ := us2 hl; exact rfl) fun F => ok_aCall F X.TW X.RC p.readNum p.aStart p.aOpen p.aPiece p.aAck p.aClose p.aState
theorem Facts.answers (X : Facts K mg C CR) (CA : Callee P w K mg base 8 "answer_call" ["line", "reader"] (spACall K C CR)) : ∀ {f : Addr} {fd : FuncData}, Fun K "answers" "answers" sAnswers f fd → FnOk P w K mg base CX0 9 f fd ["calls"] (spAnswers K) := fun {f fd} F =>
  ok_answers F X.T X.RC (X.iLine.maker (fun _ _ _ _ _ _ us hl => by obtain ⟨_, rfl⟩ := us1 hl; exact rfl) fun F => ok_lineInit F X.LC) (X.iReader.maker (fun _ _ _ _ _ _ us hl => by obtain ⟨_, _, rfl⟩ := us2 hl; exact rfl) fun F => ok_rdInit F X.RC)
    (X.mHasMore.method (fun _ _ _ _ _ _ us hl => by obtain ⟨_, rfl⟩ := us1 hl; exact rfl) fun F => ok_hasMore F X.T X.RC) CA
end
end WL
end
section
set_option Elab.async false
set_option linter.all false
set_option maxRecDepth 100000
set_option maxHeartbeats 2000000
namespace WL
open PySem PySem.Spec PyProof.Rows L2
section
variable {P : Program} {w : World} {K : PySem.W.Frag} {mg : Str → Option Value} {C : Cs} {CR : Addr} {fa : Addr}
theorem head_of (X : Facts K mg C CR) (hfa : mg "answers" = some (.ref fa)) :
    ∃ fd : FuncData, (∀ (s : Shared) (us : List Value), us.length = (["calls"] : List Str).length → BindsTo s fd ⟨us, []⟩ ((["calls"] : List Str).zip us)) ∧ ∀ base : Heap, K.In base → base.Ns mainGlobals mg → FnOk P w K mg base CX0 9 fa fd ["calls"] (spAnswers K) := by
  obtain ⟨f, fd, h1, F⟩ := X.dAnswers.ex
  cases hfa.symm.trans h1
  obtain ⟨oc, od, kV, doc, pm, an, cdv, ct, osl, e, lk, hcd⟩ := F.ex
  have F' := F
  subst e
  exact ⟨_, fun s us hu => by obtain ⟨_, rfl⟩ := us1 hu; exact .of_eq rfl, fun base _ _ => X.answers X.call F'⟩
end
end WL
end
open PySem PySem.W PyProof.Rows
set_option Elab.async false
set_option linter.all false
set_option maxRecDepth 100000 in
set_option maxHeartbeats 0 in
theorem PySem.Challenge.cw_watchedline_s01_answers_holds : PySem.Challenge.rw_watchedline_s01_answers.Holds := by
  w_on; k_headS; (case hw => exact ⟨[.list [.int 0, .int 0, .int 0]], by decide +kernel, by decide +kernel⟩)
  k_fillS
  refine L2.walk_specK (r := PySem.Challenge.rw_watchedline_s01_answers) (k := 9) (CX := L2.CX0) (ps := ["calls"]) (sp := WL.spAnswers) (by decide +kernel) rfl rfl ⟨rfl, by decide, by decide⟩ (fun w h Y => PySem.W.kIn_of Y) ?F ?S (fun _ _ _ _ z => z)
  case F =>
    intro w mg fa h Y KX G hmg
    have c_Word : ∃ C, WL.WCls (L2.KOf KX) C ∧ WL.InitIn (L2.KOf KX) mg "Word" C "Word.__init__" WL.sWordInit := by
      dsimp only [L2.KOf]
      refine' ⟨_, ⟨⟨?pg, ?hd, ?po, ?sa⟩, WL.noattr_in ?n0, WL.noattr_in ?n1, WL.noattr_in ?n2⟩, WL.init_in KX G ?aC ?mk ?kc ?a ?i ?l ?c ?k⟩
      (case aC => k_is); (case mk => k_is); (case kc => k_is); (case pg => k_is); (case hd => k_is); (case po => k_is); (case sa => k_is); (case n0 => k_is); (case n1 => k_is); (case n2 => k_is); (case a => k_is); (case i => k_is); (case l => k_is); (case c => k_is); (case k => k_is)
    have c_Stream : ∃ C, WL.SCls (L2.KOf KX) C ∧ WL.InitIn (L2.KOf KX) mg "Stream" C "Stream.__init__" WL.sStrInit ∧ WL.MethIn (L2.KOf KX) C "ahead" "Stream.ahead" WL.sAhead ∧ WL.MethIn (L2.KOf KX) C "told_otherwise" "Stream.told_otherwise" WL.sToldOther ∧ WL.MethIn (L2.KOf KX) C "known_without_gap" "Stream.known_without_gap" WL.sKnownGap ∧ WL.MethIn (L2.KOf KX) C "known_in_all" "Stream.known_in_all" WL.sKnownAll ∧ WL.MethIn (L2.KOf KX) C "move_base" "Stream.move_base" WL.sMoveBase ∧ WL.MethIn (L2.KOf KX) C "known_with" "Stream.known_with" WL.sKnownWith ∧ WL.MethIn (L2.KOf KX) C "found_with" "Stream.found_with" WL.sFoundWith ∧ WL.MethIn (L2.KOf KX) C "around" "Stream.around" WL.sAround := by
      dsimp only [L2.KOf]
      refine' ⟨_, ⟨⟨?pg, ?hd, ?po, ?sa⟩, WL.noattr_in ?n0, WL.noattr_in ?n1, WL.noattr_in ?n2, WL.noattr_in ?n3⟩, WL.init_in KX G ?aC ?mk ?kc ?a ?i ?l ?c ?k, WL.meth_in ?a0 ?i0 ?l0 ?c0 ?k0, WL.meth_in ?a1 ?i1 ?l1 ?c1 ?k1, WL.meth_in ?a2 ?i2 ?l2 ?c2 ?k2, WL.meth_in ?a3 ?i3 ?l3 ?c3 ?k3, WL.meth_in ?a4 ?i4 ?l4 ?c4 ?k4, WL.meth_in ?a5 ?i5 ?l5 ?c5 ?k5, WL.meth_in ?a6 ?i6 ?l6 ?c6 ?k6, WL.meth_in ?a7 ?i7 ?l7 ?c7 ?k7⟩
      (case aC => k_is); (case mk => k_is); (case kc => k_is); (case pg => k_is); (case hd => k_is); (case po => k_is); (case sa => k_is); (case n0 => k_is); (case n1 => k_is); (case n2 => k_is); (case n3 => k_is); (case a => k_is); (case i => k_is); (case l => k_is); (case c => k_is); (case k => k_is); (case a0 => k_is); (case i0 => k_is); (case l0 => k_is); (case c0 => k_is); (case k0 => k_is); (case a1 => k_is); (case i1 => k_is); (case l1 => k_is); (case c1 => k_is); (case k1 => k_is); (case a2 => k_is); (case i2 => k_is); (case l2 => k_is); (case c2 => k_is); (case k2 => k_is); (case a3 => k_is); (case i3 => k_is); (case l3 => k_is); (case c3 => k_is); (case k3 => k_is); (case a4 => k_is); (case i4 => k_is); (case l4 => k_is); (case c4 => k_is); (case k4 => k_is); (case a5 => k_is); (case i5 => k_is); (case l5 => k_is); (case c5 => k_is); (case k5 => k_is); (case a6 => k_is); (case i6 => k_is); (case l6 => k_is); (case c6 => k_is); (case k6 => k_is); (case a7 => k_is); (case i7 => k_is); (case l7 => k_is); (case c7 => k_is); (case k7 => k_is)
    have c_Line : ∃ C, WL.LCls (L2.KOf KX) C ∧ WL.InitIn (L2.KOf KX) mg "Line" C "Line.__init__" WL.sLineInit ∧ WL.MethIn (L2.KOf KX) C "fl_start" "Line.fl_start" WL.sStart ∧ WL.MethIn (L2.KOf KX) C "fl_open" "Line.fl_open" WL.sOpen ∧ WL.MethIn (L2.KOf KX) C "fl_piece" "Line.fl_piece" WL.sPiece ∧ WL.MethIn (L2.KOf KX) C "fl_ack" "Line.fl_ack" WL.sAck ∧ WL.MethIn (L2.KOf KX) C "fl_close" "Line.fl_close" WL.sClose ∧ WL.MethIn (L2.KOf KX) C "fl_state" "Line.fl_state" WL.sState ∧ WL.MethIn (L2.KOf KX) C "stream_of" "Line.stream_of" WL.sStreamOf ∧ WL.MethIn (L2.KOf KX) C "take_in" "Line.take_in" WL.sTakeIn := by
      dsimp only [L2.KOf]
      refine' ⟨_, ⟨⟨?pg, ?hd, ?po, ?sa⟩, WL.noattr_in ?n0, WL.noattr_in ?n1, WL.noattr_in ?n2⟩, WL.init_in KX G ?aC ?mk ?kc ?a ?i ?l ?c ?k, WL.meth_in ?a0 ?i0 ?l0 ?c0 ?k0, WL.meth_in ?a1 ?i1 ?l1 ?c1 ?k1, WL.meth_in ?a2 ?i2 ?l2 ?c2 ?k2, WL.meth_in ?a3 ?i3 ?l3 ?c3 ?k3, WL.meth_in ?a4 ?i4 ?l4 ?c4 ?k4, WL.meth_in ?a5 ?i5 ?l5 ?c5 ?k5, WL.meth_in ?a6 ?i6 ?l6 ?c6 ?k6, WL.meth_in ?a7 ?i7 ?l7 ?c7 ?k7⟩
      (case aC => k_is); (case mk => k_is); (case kc => k_is); (case pg => k_is); (case hd => k_is); (case po => k_is); (case sa => k_is); (case n0 => k_is); (case n1 => k_is); (case n2 => k_is); (case a => k_is); (case i => k_is); (case l => k_is); (case c => k_is); (case k => k_is); (case a0 => k_is); (case i0 => k_is); (case l0 => k_is); (case c0 => k_is); (case k0 => k_is); (case a1 => k_is); (case i1 => k_is); (case l1 => k_is); (case c1 => k_is); (case k1 => k_is); (case a2 => k_is); (case i2 => k_is); (case l2 => k_is); (case c2 => k_is); (case k2 => k_is); (case a3 => k_is); (case i3 => k_is); (case l3 => k_is); (case c3 => k_is); (case k3 => k_is); (case a4 => k_is); (case i4 => k_is); (case l4 => k_is); (case c4 => k_is); (case k4 => k_is); (case a5 => k_is); (case i5 => k_is); (case l5 => k_is); (case c5 => k_is); (case k5 => k_is); (case a6 => k_is); (case i6 => k_is); (case l6 => k_is); (case c6 => k_is); (case k6 => k_is); (case a7 => k_is); (case i7 => k_is); (case l7 => k_is); (case c7 => k_is); (case k7 => k_is)
    have c_Reader : ∃ C, WL.RCls (L2.KOf KX) C ∧ WL.InitIn (L2.KOf KX) mg "Reader" C "Reader.__init__" WL.sRdInit ∧ WL.MethIn (L2.KOf KX) C "has_more" "Reader.has_more" WL.sHasMore ∧ WL.MethIn (L2.KOf KX) C "read_number" "Reader.read_number" WL.sReadNum ∧ WL.MethIn (L2.KOf KX) C "read_row" "Reader.read_row" WL.sReadRow := by
      dsimp only [L2.KOf]
      refine' ⟨_, ⟨⟨?pg, ?hd, ?po, ?sa⟩, WL.noattr_in ?n0, WL.noattr_in ?n1⟩, WL.init_in KX G ?aC ?mk ?kc ?a ?i ?l ?c ?k, WL.meth_in ?a0 ?i0 ?l0 ?c0 ?k0, WL.meth_in ?a1 ?i1 ?l1 ?c1 ?k1, WL.meth_in ?a2 ?i2 ?l2 ?c2 ?k2⟩
      (case aC => k_is); (case mk => k_is); (case kc => k_is); (case pg => k_is); (case hd => k_is); (case po => k_is); (case sa => k_is); (case n0 => k_is); (case n1 => k_is); (case a => k_is); (case i => k_is); (case l => k_is); (case c => k_is); (case k => k_is); (case a0 => k_is); (case i0 => k_is); (case l0 => k_is); (case c0 => k_is); (case k0 => k_is); (case a1 => k_is); (case i1 => k_is); (case l1 => k_is); (case c1 => k_is); (case k1 => k_is); (case a2 => k_is); (case i2 => k_is); (case l2 => k_is); (case c2 => k_is); (case k2 => k_is)
    have T : WL.Txt mg := by
      refine' ⟨PySem.W.mg_none_of KX G ?z0, PySem.W.mg_none_of KX G ?z1, PySem.W.mg_none_of KX G ?z2, PySem.W.mg_none_of KX G ?z3, PySem.W.mg_none_of KX G ?z4, PySem.W.mg_none_of KX G ?z5, PySem.W.mg_none_of KX G ?z6, PySem.W.mg_none_of KX G ?z7, PySem.W.mg_none_of KX G ?z8, WL.num_in KX G ?z9, WL.num_in KX G ?z10, WL.num_in KX G ?z11, WL.num_in KX G ?z12, WL.num_in KX G ?z13, WL.num_in KX G ?z14, WL.num_in KX G ?z15, WL.num_in KX G ?z16, WL.num_in KX G ?z17, WL.num_in KX G ?z18⟩
      (case z0 => k_is); (case z1 => k_is); (case z2 => k_is); (case z3 => k_is); (case z4 => k_is); (case z5 => k_is); (case z6 => k_is); (case z7 => k_is); (case z8 => k_is); (case z9 => k_is); (case z10 => k_is); (case z11 => k_is); (case z12 => k_is); (case z13 => k_is); (case z14 => k_is); (case z15 => k_is); (case z16 => k_is); (case z17 => k_is); (case z18 => k_is)
    have TL : WL.TxtL mg := by
      refine' ⟨WL.num_in KX G ?z0, WL.num_in KX G ?z1, WL.num_in KX G ?z2, WL.num_in KX G ?z3, WL.num_in KX G ?z4, WL.num_in KX G ?z5, WL.num_in KX G ?z6, WL.num_in KX G ?z7, WL.num_in KX G ?z8⟩
      (case z0 => k_is); (case z1 => k_is); (case z2 => k_is); (case z3 => k_is); (case z4 => k_is); (case z5 => k_is); (case z6 => k_is); (case z7 => k_is); (case z8 => k_is)
    have TW : WL.TxtW mg := by
      refine' ⟨WL.num_in KX G ?z0, WL.num_in KX G ?z1, WL.num_in KX G ?z2, WL.num_in KX G ?z3, WL.num_in KX G ?z4, WL.num_in KX G ?z5, WL.num_in KX G ?z6, WL.num_in KX G ?z7⟩
      (case z0 => k_is); (case z1 => k_is); (case z2 => k_is); (case z3 => k_is); (case z4 => k_is); (case z5 => k_is); (case z6 => k_is); (case z7 => k_is)
    have d_folded : WL.DefIn (L2.KOf KX) mg "folded" WL.sFolded := by
      dsimp only [L2.KOf]
      refine' WL.def_in KX G ?a ?l ?c ?k
      (case a => k_is); (case l => k_is); (case c => k_is); (case k => k_is)
    have d_word_rows : WL.DefIn (L2.KOf KX) mg "word_rows" WL.sWordRows := by
      dsimp only [L2.KOf]
      refine' WL.def_in KX G ?a ?l ?c ?k
      (case a => k_is); (case l => k_is); (case c => k_is); (case k => k_is)
    have d_word_is_as_told : WL.DefIn (L2.KOf KX) mg "word_is_as_told" WL.sWordOk := by
      dsimp only [L2.KOf]
      refine' WL.def_in KX G ?a ?l ?c ?k
      (case a => k_is); (case l => k_is); (case c => k_is); (case k => k_is)
    have d_rules_are_as_told : WL.DefIn (L2.KOf KX) mg "rules_are_as_told" WL.sRulesOk := by
      dsimp only [L2.KOf]
      refine' WL.def_in KX G ?a ?l ?c ?k
      (case a => k_is); (case l => k_is); (case c => k_is); (case k => k_is)
    have d_words_of : WL.DefIn (L2.KOf KX) mg "words_of" WL.sWordsOf := by
      dsimp only [L2.KOf]
      refine' WL.def_in KX G ?a ?l ?c ?k
      (case a => k_is); (case l => k_is); (case c => k_is); (case k => k_is)
    have d_times_spelled : WL.DefIn (L2.KOf KX) mg "times_spelled" WL.sTimesSp := by
      dsimp only [L2.KOf]
      refine' WL.def_in KX G ?a ?l ?c ?k
      (case a => k_is); (case l => k_is); (case c => k_is); (case k => k_is)
    have d_times_of_each : WL.DefIn (L2.KOf KX) mg "times_of_each" WL.sTimesEach := by
      dsimp only [L2.KOf]
      refine' WL.def_in KX G ?a ?l ?c ?k
      (case a => k_is); (case l => k_is); (case c => k_is); (case k => k_is)
    have d_weight_of : WL.DefIn (L2.KOf KX) mg "weight_of" WL.sWeightOf := by
      dsimp only [L2.KOf]
      refine' WL.def_in KX G ?a ?l ?c ?k
      (case a => k_is); (case l => k_is); (case c => k_is); (case k => k_is)
    have d_answer_start : WL.DefIn (L2.KOf KX) mg "answer_start" WL.sAStart := by
      dsimp only [L2.KOf]
      refine' WL.def_in KX G ?a ?l ?c ?k
      (case a => k_is); (case l => k_is); (case c => k_is); (case k => k_is)
    have d_answer_open : WL.DefIn (L2.KOf KX) mg "answer_open" WL.sAOpen := by
      dsimp only [L2.KOf]
      refine' WL.def_in KX G ?a ?l ?c ?k
      (case a => k_is); (case l => k_is); (case c => k_is); (case k => k_is)
    have d_answer_piece : WL.DefIn (L2.KOf KX) mg "answer_piece" WL.sAPiece := by
      dsimp only [L2.KOf]
      refine' WL.def_in KX G ?a ?l ?c ?k
      (case a => k_is); (case l => k_is); (case c => k_is); (case k => k_is)
    have d_answer_ack : WL.DefIn (L2.KOf KX) mg "answer_ack" WL.sAAck := by
      dsimp only [L2.KOf]
      refine' WL.def_in KX G ?a ?l ?c ?k
      (case a => k_is); (case l => k_is); (case c => k_is); (case k => k_is)
    have d_answer_close : WL.DefIn (L2.KOf KX) mg "answer_close" WL.sAClose := by
      dsimp only [L2.KOf]
      refine' WL.def_in KX G ?a ?l ?c ?k
      (case a => k_is); (case l => k_is); (case c => k_is); (case k => k_is)
    have d_answer_state : WL.DefIn (L2.KOf KX) mg "answer_state" WL.sAState := by
      dsimp only [L2.KOf]
      refine' WL.def_in KX G ?a ?l ?c ?k
      (case a => k_is); (case l => k_is); (case c => k_is); (case k => k_is)
    have d_answer_call : WL.DefIn (L2.KOf KX) mg "answer_call" WL.sACall := by
      dsimp only [L2.KOf]
      refine' WL.def_in KX G ?a ?l ?c ?k
      (case a => k_is); (case l => k_is); (case c => k_is); (case k => k_is)
    have d_answers : WL.DefIn (L2.KOf KX) mg "answers" WL.sAnswers := by
      dsimp only [L2.KOf]
      refine' WL.def_in KX G ?a ?l ?c ?k
      (case a => k_is); (case l => k_is); (case c => k_is); (case k => k_is)
    obtain ⟨CW, f_Word, i_Word⟩ := c_Word
    obtain ⟨CS, f_Stream, i_Stream, m_ahead, m_told_otherwise, m_known_without_gap, m_known_in_all, m_move_base, m_known_with, m_found_with, m_around⟩ := c_Stream
    obtain ⟨CL, f_Line, i_Line, m_fl_start, m_fl_open, m_fl_piece, m_fl_ack, m_fl_close, m_fl_state, m_stream_of, m_take_in⟩ := c_Line
    obtain ⟨CR, f_Reader, i_Reader, m_has_more, m_read_number, m_read_row⟩ := c_Reader
    exact WL.head_of (C := ⟨CW, CS, CL⟩) ⟨T, TL, TW, f_Word, f_Stream, f_Line, f_Reader, i_Word, i_Stream, i_Line, i_Reader, d_folded, d_word_rows, d_word_is_as_told, d_rules_are_as_told, d_words_of, d_times_spelled, d_times_of_each, d_weight_of, m_ahead, m_told_otherwise, m_known_without_gap, m_known_in_all, m_move_base, m_known_with, m_found_with, m_around, m_fl_start, m_fl_open, m_fl_piece, m_fl_ack, m_fl_close, m_fl_state, m_stream_of, m_take_in, m_has_more, m_read_number, m_read_row, d_answer_start, d_answer_open, d_answer_piece, d_answer_ack, d_answer_close, d_answer_state, d_answer_call, d_answers⟩ hmg
  case S =>
    intro K H xs a hO hwi hask hx
    cases hx with
    | cons h1 h2 =>
      cases h2
      cases h1 with
      | lst hs ha =>
        have e := L2.ints_dw a.1 _ ha
        subst e
        have q : ((Codec.inLen 0 30000 a.1 && a.1.all (Codec.inInt 0 4294967295)) && true) = true := hwi
        rw [Bool.and_eq_true, Bool.and_eq_true] at q
        exact ⟨_, a.1, rfl, hs, (Codec.inNat_iff.mp q.1.1).2, hask, fun H' p hp => .lst (L2.SqL.of hp) (L2.dw_ints _)⟩
#print axioms PySem.Challenge.cw_watchedline_s01_answers_holds
